import PyProof.Rows.All
import Wide.All
import OpenK.AllK
import Wide.FinOn
import Lean
import PyProof.EqAt
import PyProof.EqKinds
import PyProof.TupleCall
import PyProof.NeKinds
import PySem.Challenge.RW_manypurses_k08_whole_shown
set_option Elab.async false
set_option genSizeOf false
set_option genInjectivity false
set_option linter.all false
set_option maxRecDepth 100000
theorem aP (a:True:=by rfl) (b:True:=by decide) (c:True:=by intro _; rfl) (d:True:=by decide +kernel) (e:True:=by first | exact .inl rfl | exact .inr rfl | assumption) (f:True:=by exact True.intro) (g:True:=by intro vs H Q E h; repeat (first | (obtain ⟨rfl,_⟩:=h; rfl) | (obtain ⟨_,h⟩:=h))) : True:=a
def aP1:=aP._auto_1
def aP2:=aP._auto_2
def aP3:=aP._auto_3
def aP4:=aP._auto_4
def aP5:=aP._auto_5
def aP6:=aP._auto_6
def aP7:=aP._auto_7
namespace L2
open PySem PySem.Spec PyProof.Rows
abbrev Key:=Sum Int Str
def keyIs:Key → Value → Bool
 | .inl k,v=>Value.isInt k v
 | .inr x,v=>Value.isStrOf x v
def keyH (w:World) : Key → Int
 | .inl k=>hashInt k
 | .inr x=>hashStr w x
theorem keyIs_shape : ∀ {k:Key} {v:Value},keyIs k v = true → (∃ i t,k = Sum.inl i ∧ v = Value.int i t) ∨ (∃ x t,k = Sum.inr x ∧ v = Value.str x t)
 | .inl i,v,h=>by
  obtain ⟨t,e⟩:=Value.isInt_shape (k:=i) (v:=v) h
  exact .inl ⟨i,t,rfl,e⟩
 | .inr x,v,h=>by
  obtain ⟨t,e⟩:=Value.isStrOf_shape (x:=x) (v:=v) h
  exact .inr ⟨x,t,rfl,e⟩
theorem keyIs_int (i:Int) (t:Tok) : keyIs (.inl i) (.int i t) = true:=by simp [keyIs,Value.isInt]
theorem keyIs_str (x:Str) (t:Tok) : keyIs (.inr x) (.str x t) = true:=by simp [keyIs,Value.isStrOf]
theorem key_ll (a b:Int) : decide ((Sum.inl a:Key) = Sum.inl b) = (a == b):=by
 by_cases e:a = b
 ·subst e; simp
 ·have h : ¬ (Sum.inl a:Key) = Sum.inl b:=fun q=>e (Sum.inl.inj q)
  rw [decide_eq_false h]
  exact (beq_eq_false_iff_ne.mpr e).symm
theorem key_rr (a b:Str) : decide ((Sum.inr a:Key) = Sum.inr b) = decide (a = b):=by
 by_cases e:a = b
 ·subst e; simp
 ·have h : ¬ (Sum.inr a:Key) = Sum.inr b:=fun q=>e (Sum.inr.inj q)
  rw [decide_eq_false h,decide_eq_false e]
theorem key_lr (a:Int) (b:Str) : decide ((Sum.inl a:Key) = Sum.inr b) = false:=decide_eq_false (fun q=>nomatch q)
theorem key_rl (a:Str) (b:Int) : decide ((Sum.inr a:Key) = Sum.inl b) = false:=decide_eq_false (fun q=>nomatch q)
def mixKind (prog:Program) (w:World) : PySem.KeyKind prog w Key where
 is:=keyIs
 hash:=keyH w
 inj := fun v a b ha hb=>by
  rcases keyIs_shape ha with ⟨i,t,rfl,rfl⟩ | ⟨x,t,rfl,rfl⟩
  ·rcases keyIs_shape hb with ⟨j,u,rfl,e⟩ | ⟨y,u,rfl,e⟩
   ·injection e with e1 _; rw [e1]
   ·exact nomatch e
  ·rcases keyIs_shape hb with ⟨j,u,rfl,e⟩ | ⟨y,u,rfl,e⟩
   ·exact nomatch e
   ·injection e with e1 _; rw [e1]
 byValue:=fun k v h=>by
  rcases keyIs_shape h with ⟨i,t,rfl,rfl⟩ | ⟨x,t,rfl,rfl⟩ <;> rfl
 pyHash:=fun hv h=>by
  rcases keyIs_shape hv with ⟨i,t,rfl,rfl⟩ | ⟨x,t,rfl,rfl⟩
  ·exact wpAny_pyHash_int h
  ·exact wpAny_pyHash_str h
 eqBool:=fun hu hv h=>by
  rcases keyIs_shape hu with ⟨i,t,rfl,rfl⟩ | ⟨x,t,rfl,rfl⟩
  ·rcases keyIs_shape hv with ⟨j,u,rfl,rfl⟩ | ⟨y,u,rfl,rfl⟩
   ·rw [key_ll] at h; exact wpAny_eqBool_int h
   ·rw [key_lr] at h; exact SeqAt.EqAt.int_str i t y u _ _ _ _ h
  ·rcases keyIs_shape hv with ⟨j,u,rfl,rfl⟩ | ⟨y,u,rfl,rfl⟩
   ·rw [key_rl] at h; exact SeqAt.EqAt.str_int x t j u _ _ _ _ h
   ·rw [key_rr] at h; exact wpAny_eqBool_str h
 «strs» := fun k x t v h=>by
  rcases keyIs_shape h with ⟨i,u,rfl,e⟩ | ⟨y,u,rfl,e⟩
  ·exact nomatch e
  ·injection e with e1 _
   subst e1
   cases v <;> rfl
theorem mixKind_int (prog:Program) (w:World) (i:Int) (t:Tok) : (mixKind prog w).is (.inl i) (.int i t) = true:=keyIs_int i t
theorem mixKind_str (prog:Program) (w:World) (x:Str) (t:Tok) : (mixKind prog w).is (.inr x) (.str x t) = true:=keyIs_str x t
end L2
namespace L2
open PySem PySem.Spec PyProof.Rows
set_option genInjectivity true in
inductive V where
 | non | bl (b:Bool) | int (i:Int) | str (x:Str) | byt (b:Array UInt8) | flt (b:UInt64) | ref (a:Addr) | ty (n:String)
 deriving DecidableEq
def RelV:V → Value → Prop
 | .non,u=>u = Value.none
 | .bl b,u=>u = Value.bool b
 | .int i,u=>∃ t,u = Value.int i t
 | .str x,u=>∃ t,u = Value.str x t
 | .byt b,u=>∃ t,u = Value.bytes b t
 | .flt b,u=>∃ t,u = Value.float b t
 | .ref a,u=>u = Value.ref a
 | .ty n,u=>u = Value.type n
abbrev Vals:List V → List Value → Prop:=Paired RelV
theorem Vals.length {xs:List V} {us:List Value} (r:Vals xs us) : xs.length = us.length:=Paired.length r
theorem Vals.get : ∀ {xs:List V} {us:List Value} {i:Nat} {x:V},Vals xs us → xs[i]? = some x → ∃ u,us[i]? = some u ∧ RelV x u
 | _,_,_,_,.nil,e=>by simp at e
 | _,_,0,_,.cons r _,e=>by simp at e; subst e; exact ⟨_,rfl,r⟩
 | _,_,i + 1,x,.cons _ t,e=>by
  obtain ⟨u,h1,h2⟩:=Vals.get (i:=i) (x:=x) t (by simpa using e)
  exact ⟨u,by simpa using h1,h2⟩
theorem Vals.set {x:V} {u:Value} (r:RelV x u) : ∀ {xs:List V} {us:List Value} (i:Nat),Vals xs us → Vals (xs.set i x) (us.set i u)
 | _,_,_,.nil=>.nil
 | _,_,0,.cons _ t=>.cons r t
 | _,_,i + 1,.cons q t=>.cons q (Vals.set r i t)
theorem Vals.append : ∀ {xs ys:List V} {us ws:List Value},Vals xs us → Vals ys ws → Vals (xs ++ ys) (us ++ ws)
 | _,_,_,_,.nil,s=>s
 | _,_,_,_,.cons r t,s=>.cons r (Vals.append t s)
theorem Vals.take : ∀ {xs:List V} {us:List Value} (n:Nat),Vals xs us → Vals (xs.take n) (us.take n)
 | _,_,0,_=>.nil
 | _,_,_ + 1,.nil=>.nil
 | _,_,n + 1,.cons r t=>.cons r (Vals.take n t)
theorem Vals.drop : ∀ {xs:List V} {us:List Value} (n:Nat),Vals xs us → Vals (xs.drop n) (us.drop n)
 | _,_,0,r=>r
 | _,_,_ + 1,.nil=>.nil
 | _,_,n + 1,.cons _ t=>Vals.drop n t
def RelO:Option V → Option Value → Prop
 | some v,some u=>RelV v u
 | none,none=>True
 | _,_=>False
def KV {κ : Type} : List (κ × V) → List (κ × Value) → Prop:=Paired fun (p : κ × V) (q : κ × Value)=>p.1 = q.1 ∧ RelV p.2 q.2
def kV:Key → V
 | .inl i=>.int i
 | .inr x=>.str x
set_option genInjectivity true in
inductive HO where
  | lst (xs:List V)
  | tup (xs:List V)
  | dK (kvs:List (Key × V)) | dT (kvs:List (List Key × V))
  | set (S:Int → Bool) (n:Nat)
  | ins (C dx:Addr) (fs:List (Str × V))
  | own (x:Addr)
  | xd (fs:List (Str × V))
  | met (f x:Addr)
  | rng (lo hi:Int)
  | frz (o:Obj) (u:HO)
  | tbl (ps:Array Value)
  | ext (φ : Heap → Prop)
abbrev Hp:=Addr → Option HO
def upd (H:Hp) (a:Addr) (o:HO) : Hp:=fun b=>if b = a then some o else H b
theorem upd_same {H:Hp} {a:Addr} {o:HO} : upd H a o a = some o:=by unfold upd; rw [if_pos rfl]
theorem upd_ne {H:Hp} {a b:Addr} {o:HO} (h:b ≠ a) : upd H a o b = H b:=by unfold upd; rw [if_neg h]
theorem ne_of {H:Hp} {a b:Addr} {o u:HO} (h:H a = some o) (h':H b = some u) (d:o ≠ u) : a ≠ b:=by
 intro e; subst e; rw [h] at h'; exact d (Option.some.inj h')
theorem ne_of_none {H:Hp} {a b:Addr} {o:HO} (h:H a = some o) (h':H b = none) : a ≠ b:=by
 intro e; subst e; rw [h] at h'; cases h'
section
variable (P:Program) (w:World)
def ObjOk (H:Hp) (h:Heap) (a:Addr) : HO → Prop
 | .lst xs=>xs.length ≤ sizeLine ∧ ∃ (its:List Value) (n:Nat),Vals xs its ∧ h.get? a = some { cls:=.type "list",data:=.seq its.toArray n }
 | .tup xs=>xs.length ≤ sizeLine ∧ ∃ its:List Value,Vals xs its ∧ IsTup h a its.toArray
 | .dK kvs=>kvs.length ≤ sizeLine ∧ (a == sysModules) = false ∧ ∃ vs,KV kvs vs ∧ h.DictOf (mixKind P w) a vs
 | .dT kvs=>kvs.length ≤ sizeLine ∧ (a == sysModules) = false ∧ ∃ xs:List (List Key × Addr × Value),
   Paired (fun (p:List Key × V) (q:List Key × Addr × Value)=>p.1 = q.1 ∧ H q.2.1 = some (.tup (p.1.map kV)) ∧ RelV p.2 q.2.2) kvs xs ∧
   ∃ o es ep,h.get? a = some o ∧ o.ExactDict ∧ o.data = .dict es ep ∧ es.toList = xs.map (entryOfKey (tupleKind (mixKind P w))) ∧ (xs.map (·.1)).Nodup
 | .set S n=>h.SetOf (intKind P w) a S n
 | .ins C dx fs=>H dx = some (.own a) ∧ fs.length ≤ 1000 ∧ dx ≠ a ∧ h.get? a = some (PySem.W.instObj C dx) ∧
   ∃ mA,h.Ns1 dx mA ∧ (∀ f,RelO (fs.lookup f) (mA f)) ∧ PySem.Within mA (fs.map (·.1))
 | .own _=>∃ o,h.get? a = some o
 | .xd fs=>∃ mA,h.Ns1 a mA ∧ ∀ f,RelO (fs.lookup f) (mA f)
 | .rng lo hi=>∃ t u v,h.get? a = some { cls:=.type "range",data:=.fields #[.int lo t,.int hi u,.int 1 v] }
 | .frz o u=>h.get? a = some o ∧ ObjOk H h a u
 | .tbl ps=>h.get? a = some { cls:=.none,data:=.fields ps }
 | .met f x=>h.get? a = some (PySem.W.methodObj (.ref f) (.ref x))
 | .ext φ=>φ h ∧ (∃ o,h.get? a = some o) ∧ ∀ h1 h2:Heap,φ h1 → (∀ o,h1.get? a = some o → h2.get? a = some o) → φ h2
def HOk (H:Hp) (h:Heap) : Prop:=∀ a o,H a = some o → ObjOk P w H h a o
end
section
variable {P:Program} {w:World} {H H':Hp} {h h':Heap} {a:Addr} {o:HO}
theorem ObjOk.lt (x:ObjOk P w H h a o) : a < h.objs.size:=by
 cases o with
 | lst xs=>obtain ⟨_,_,_,_,e⟩:=x; exact Heap.lt_size e
 | tup xs=>obtain ⟨_,_,_,p⟩:=x; exact p.lt
 | dK kvs=>obtain ⟨_,_,_,_,o,_,_,e,_⟩:=x; exact Heap.lt_size e
 | dT kvs=>obtain ⟨_,_,_,_,o,_,_,e,_⟩:=x; exact Heap.lt_size e
 | set S n=>obtain ⟨o,_,_,_,e,_⟩:=x; exact Heap.lt_size e
 | ins C dx fs=>obtain ⟨_,_,_,e,_⟩:=x; exact Heap.lt_size e
 | own y=>obtain ⟨_,e⟩:=x; exact Heap.lt_size e
 | xd fs=>obtain ⟨_,⟨_,_,_,e,_⟩,_⟩:=x; exact Heap.lt_size e
 | rng lo hi=>obtain ⟨_,_,_,e⟩:=x; exact Heap.lt_size e
 | frz ob u=>obtain ⟨e,_⟩:=x; exact Heap.lt_size e
 | tbl ps=>exact Heap.lt_size (show h.get? a = some _ from x)
 | met f y=>exact Heap.lt_size (show h.get? a = some _ from x)
 | ext φ=>obtain ⟨_,⟨_,e⟩,_⟩:=x; exact Heap.lt_size e
theorem Paired.mapP {α β : Type} {F G : α → β → Prop} : ∀ {l₁:List α} {l₂:List β},Paired F l₁ l₂ → (∀ a b,F a b → G a b) → Paired G l₁ l₂
 | _,_,.nil,_=>.nil
 | _,_,.cons r t,f=>.cons (f _ _ r) (Paired.mapP t f)
theorem ObjOk.stay (x:ObjOk P w H h a o) (k : ∀ b u,(b = a ∨ H b = some (.own a)) → h.get? b = some u → h'.get? b = some u)
  (ho : ∀ b,H b = some (.own a) → H' b = some (.own a)) (ht : ∀ b xs,H b = some (.tup xs) → H' b = some (.tup xs)) : ObjOk P w H' h' a o:=by
 induction o with
 | lst xs=>obtain ⟨z,its,n,r,e⟩:=x; exact ⟨z,its,n,r,k _ _ (.inl rfl) e⟩
 | tup xs=>obtain ⟨z,its,r,ob,e,c⟩:=x; exact ⟨z,its,r,ob,k _ _ (.inl rfl) e,c⟩
 | dK kvs=>obtain ⟨z,y,vs,r,ob,es,ep,e,c⟩:=x; exact ⟨z,y,vs,r,ob,es,ep,k _ _ (.inl rfl) e,c⟩
 | dT kvs=>
  obtain ⟨z,y,xs,r,ob,es,ep,e,c⟩:=x
  exact ⟨z,y,xs,Paired.mapP r fun p q z=>⟨z.1,ht _ _ z.2.1,z.2.2⟩,ob,es,ep,k _ _ (.inl rfl) e,c⟩
 | set S n=>obtain ⟨ob,es,ep,t,e,c⟩:=x; exact ⟨ob,es,ep,t,k _ _ (.inl rfl) e,c⟩
 | ins C dx fs=>
  obtain ⟨d,z,ne,e,mA,⟨od,es,ep,e2,c⟩,r⟩:=x
  exact ⟨ho _ d,z,ne,k _ _ (.inl rfl) e,mA,⟨od,es,ep,k _ _ (.inr d) e2,c⟩,r⟩
 | own y=>obtain ⟨ob,e⟩:=x; exact ⟨ob,k _ _ (.inl rfl) e⟩
 | xd fs=>obtain ⟨mA,⟨od,es,ep,e,c⟩,r⟩:=x; exact ⟨mA,⟨od,es,ep,k _ _ (.inl rfl) e,c⟩,r⟩
 | rng lo hi=>obtain ⟨t,u,v,e⟩:=x; exact ⟨t,u,v,k _ _ (.inl rfl) e⟩
 | frz ob u ih=>obtain ⟨e,q⟩:=x; exact ⟨k _ _ (.inl rfl) e,ih q⟩
 | tbl ps=>
  have e:h.get? a = some { cls:=.none,data:=.fields ps }:=x
  show h'.get? a = some { cls:=.none,data:=.fields ps }
  exact k a _ (.inl rfl) e
 | met f y=>
  have e:h.get? a = some (PySem.W.methodObj (.ref f) (.ref y)):=x
  show h'.get? a = some (PySem.W.methodObj (.ref f) (.ref y))
  exact k a _ (.inl rfl) e
 | ext φ=>obtain ⟨p,⟨o,e⟩,st⟩:=x; exact ⟨st _ _ p fun o q=>k _ _ (.inl rfl) q,⟨o,k _ _ (.inl rfl) e⟩,st⟩
theorem HOk.lt (x:HOk P w H h) (e:H a = some o) : a < h.objs.size:=(x a o e).lt
theorem HOk.fresh (x:HOk P w H h) (e:h.objs.size ≤ a) : H a = none:=by
 cases q:H a with
 | none=>rfl
 | some u=>exact absurd (Nat.lt_of_lt_of_le (x.lt q) e) (Nat.lt_irrefl _)
theorem HOk.kept (x:HOk P w H h) (k : ∀ b u,h.get? b = some u → h'.get? b = some u) : HOk P w H h':=fun a o e=>
 (x a o e).stay (fun b u _ q=>k b u q) (fun _ q=>q) fun _ _ q=>q
theorem HOk.laid (x:HOk P w H h) (k : ∀ b u,h.get? b = some u → h'.get? b = some u) (hp:h.objs.size ≤ a) (new:ObjOk P w (upd H a o) h' a o) : HOk P w (upd H a o) h':=fun b u e=>by
 have hn:=x.fresh hp
 by_cases hb:b = a
 ·subst hb; rw [upd_same] at e; cases e; exact new
 ·rw [upd_ne hb] at e
  exact (x b u e).stay (fun c v _ q=>k c v q) (fun c q=>by rw [upd_ne (ne_of_none q hn)]; exact q) fun c xs q=>by rw [upd_ne (ne_of_none q hn)]; exact q
end
def Rd (H:Hp) (a:Addr) (u:HO) : Prop:=H a = some u ∨ ∃ o,H a = some (.frz o u)
theorem Rd.ok {P:Program} {w:World} {H:Hp} {h:Heap} {a:Addr} {u:HO} (r:Rd H a u) (x:HOk P w H h) : ObjOk P w H h a u:=by
 rcases r with r | ⟨o,r⟩
 ·exact x a u r
 ·obtain ⟨_,q⟩:=x a _ r
  exact q
def Mut:Option HO → Prop
 | some (.lst _)=>True
 | some (.dK _)=>True
 | some (.dT _)=>True
 | some (.set _ _)=>True
 | some (.ins _ _ _)=>True
 | some (.ext _)=>True
 | _=>False
section
variable {P:Program} {w:World} {H:Hp} {h h':Heap} {x e:Addr} {o':HO}
theorem HOk.write (ok:HOk P w H h) (mu:Mut (H x)) (he:e = x ∨ H e = some (.own x)) (k : ∀ b u,b ≠ e → h.get? b = some u → h'.get? b = some u) (heo : ∃ u,h'.get? e = some u)
  (new:ObjOk P w (upd H x o') h' x o') : HOk P w (upd H x o') h':=fun b u q=>by
 have nown : ∀ c y,H c = some (.own y) → c ≠ x:=fun c y r z=>by subst z; rw [r] at mu; exact mu
 have ntup : ∀ c xs,H c = some (.tup xs) → c ≠ x:=fun c xs r z=>by subst z; rw [r] at mu; exact mu
 by_cases hb:b = x
 ·subst hb; rw [upd_same] at q; cases q; exact new
 ·rw [upd_ne hb] at q
  by_cases hbe:b = e
  ·have q':H b = some (.own x):=by
    rcases he with z | z
    ·exact absurd (hbe.trans z) hb
    ·rw [hbe]; exact z
   rw [q] at q'; cases q'
   obtain ⟨v,hv⟩:=heo
   exact ⟨v,by rw [hbe]; exact hv⟩
  ·refine (ok b u q).stay (fun c v hc r=>k c v ?_ r) (fun c r=>by rw [upd_ne (nown c b r)]; exact r) fun c xs r=>by rw [upd_ne (ntup c xs r)]; exact r
   rcases hc with rfl | hc
   ·exact hbe
   ·rintro rfl
    rcases he with z | z
    ·exact nown c b hc z
    ·rw [hc] at z; cases z; exact hb rfl
end
structure Un (fs ex:List Addr) (H H':Hp) (h h':Heap) : Prop where
 keep : ∀ b o,h.get? b = some o → H b = none → b ∉ fs → b ∉ ex → h'.get? b = some o
 slot : ∀ b o,h.get? b = some o → H b = none → b ∈ fs → b ∉ ex → ∃ sl,h'.get? b = some { o with slots:=sl }
 free : ∀ b o,h.get? b = some o → H b = none → b ∉ ex → H' b = none
 there : ∀ b o,h.get? b = some o → b ∉ ex → ∃ o',h'.get? b = some o'
 tups : ∀ b xs,H b = some (.tup xs) → H' b = some (.tup xs)
 frzs : ∀ b o u,H b = some (.frz o u) → H' b = some (.frz o u)
 tbls : ∀ b ps,H b = some (.tbl ps) → ∃ more,H' b = some (.tbl (ps ++ more))
section
variable {fs fs' ex ex':List Addr} {H H1 H2:Hp} {h h1 h2 h':Heap} {a x e:Addr} {o:HO}
theorem Un.any (u:Un fs ex H H1 h h1) {b:Addr} {ob:Obj} (q:h.get? b = some ob) (n:H b = none) (hx:b ∉ ex) : ∃ sl,h1.get? b = some { ob with slots:=sl }:=by
 by_cases hb:b ∈ fs
 ·exact u.slot b ob q n hb hx
 ·exact ⟨ob.slots,u.keep b ob q n hb hx⟩
theorem Un.kept (k : ∀ b u,h.get? b = some u → h'.get? b = some u) : Un fs ex H H h h':=
 ⟨fun b ob q _ _ _=>k b ob q,fun b ob q _ _ _=>⟨ob.slots,k b ob q⟩,fun _ _ _ n _=>n,fun b ob q _=>⟨ob,k b ob q⟩,fun _ _ q=>q,fun _ _ _ q=>q,fun _ ps q=>⟨#[],by rw [q]; simp⟩⟩
theorem Un.refl:Un fs ex H H h h:=Un.kept fun _ _ q=>q
theorem Un.laid (k : ∀ b u,h.get? b = some u → h'.get? b = some u) (hp:h.objs.size ≤ a) (hn:H a = none) : Un fs ex H (upd H a o) h h' where
 keep:=fun b u q _ _ _=>k b u q
 slot:=fun b u q _ _ _=>⟨u.slots,k b u q⟩
 free:=fun b u q n _=>by rw [upd_ne (Nat.ne_of_lt (Nat.lt_of_lt_of_le (Heap.lt_size q) hp))]; exact n
 there:=fun b u q _=>⟨u,k b u q⟩
 tups:=fun b xs q=>by rw [upd_ne (ne_of_none q hn)]; exact q
 frzs:=fun b u xs q=>by rw [upd_ne (ne_of_none q hn)]; exact q
 tbls:=fun b ps q=>⟨#[],by rw [upd_ne (ne_of_none q hn),q]; simp⟩
theorem Un.write (mu:Mut (H x)) (he:e = x ∨ H e = some (.own x)) (k : ∀ b u,b ≠ e → h.get? b = some u → h'.get? b = some u) (heo : ∃ u,h'.get? e = some u) : Un fs ex H (upd H x o) h h':=by
 have hx : ∀ b,H b = none → b ≠ x:=fun b n z=>by subst z; rw [n] at mu; exact mu
 have hb : ∀ b,H b = none → b ≠ e:=fun b n z=>by
  subst z
  rcases he with r | r
  ·exact hx b n r
  ·rw [n] at r; cases r
 have hm : ∀ b u,H b = some u → ¬ Mut (some u) → b ≠ x:=fun b u q nm z=>by subst z; rw [q] at mu; exact nm mu
 refine ⟨fun b u q n _ _=>k b u (hb b n) q,fun b u q n _ _=>⟨u.slots,k b u (hb b n) q⟩,fun b u q n _=>by rw [upd_ne (hx b n)]; exact n,fun b u q _=>?_,
  fun b xs q=>by rw [upd_ne (hm b _ q fun z=>z)]; exact q,fun b u xs q=>by rw [upd_ne (hm b _ q fun z=>z)]; exact q,fun b ps q=>⟨#[],by rw [upd_ne (hm b _ q fun z=>z),q]; simp⟩⟩
 by_cases hbe:b = e
 ·subst hbe; exact heo
 ·exact ⟨u,k b u hbe q⟩
end
def trk (h:Heap) (H:Hp) : List Addr:=(List.range h.objs.size).filter fun a=>(H a).isSome
def hidT (h:Heap) (H:Hp) : Heap:=PySem.W.hideAll h (trk h H)
theorem hidT_size (h:Heap) (H:Hp) : (hidT h H).objs.size = h.objs.size:=PySem.W.hideAll_size _ _
theorem hidT_get {h:Heap} {H:Hp} {b:Addr} {o:Obj} (e:h.get? b = some o) (n:H b = none) : (hidT h H).get? b = some o:=
 PySem.W.hideAll_get _ e fun hm=>by
  have q:(H b).isSome = true:=(List.mem_filter.mp hm).2
  rw [n] at q; simp at q
theorem of_hidT {h:Heap} {H:Hp} {b:Addr} {o:Obj} (e:(hidT h H).get? b = some o) : h.get? b = some o ∧ H b = none:=by
 have e':h.get? b = some o:=PySem.W.of_hideAll (trk h H) e
 refine ⟨e',?_⟩
 cases q:H b with
 | none=>rfl
 | some x=>
  have hm:b ∈ trk h H:=List.mem_filter.mpr ⟨List.mem_range.mpr (Heap.lt_size e'),by simp [q]⟩
  have z:(hidT h H).get? b = none:=PySem.W.hideAll_none (trk h H) hm
  rw [z] at e; cases e
end L2
namespace L2
open PySem PySem.Spec PyProof.Rows
structure Mod (K:PySem.W.Frag) (mg:Str → Option Value) (base:Heap) : Prop where
 kin:K.In base
 glob:base.Ns mainGlobals mg
 blt : ∃ mb,base.Ns builtinsNs mb ∧ ∀ x:Str,x ≠ "__name__" → mb x = bootBuiltins x
 nolimit:base.NoLimit
structure Cx where
 prog:Program
 w:World
 K:PySem.W.Frag
 mg:Str → Option Value
 base:Heap
 A:Around
 N:List Str
 s₀:Shared
 H₀:Hp
 env:Env
 outer:List Env
 stack:List Env
 ex:List Addr
 fn:Str → Bool
 calm:Bool
 pn:List (Addr × Obj)
 xe:Value → Shared → Prop
def frs (l:List Env) : List Addr:=l.filterMap (·.frame)
abbrev Cx.fs (X:Cx) : List Addr:=frs X.outer
def Vis (sc:Scope) (x:Str) : Prop:=sc.names.lookup x = some .local ∨ sc.names.lookup x = some .cell ∨ sc.names.lookup x = some .free
def Loc (sc:Scope) (x:Str) : Prop:=sc.names.lookup x = some .local ∨ sc.names.lookup x = some .cell
def Look (env:Env) (h:Heap) (m:Str → Option Value) (x:Str) (u:Value) : Prop:=
 (env.kindOf x = some .local ∧ m x = some u) ∨ ((env.kindOf x = some .cell ∨ env.kindOf x = some .free) ∧ ∃ c,env.cells.lookup x = some c ∧ h.IsCell c (some u))
structure Cx.Ok (X:Cx) : Prop where
 mod:Mod X.K X.mg X.base
 kind:X.env.scope.kind = .function
 glob:X.env.globals = mainGlobals
 blt:X.env.builtins = builtinsNs
 above:X.s₀.heap.objs.size ≤ X.env.locals
 inj : ∀ x y c,X.env.cells.lookup x = some c → X.env.cells.lookup y = some c → x = y
 has : ∀ x,(X.env.kindOf x = some .cell ∨ X.env.kindOf x = some .free) → ∃ c,X.env.cells.lookup x = some c
 cab : ∀ x c,X.fn x = true → X.env.cells.lookup x = some c → X.s₀.heap.objs.size ≤ c
 hd:X.calm = true → X.A.handled = none
 frames:X.A.frames = some X.stack
 stk:X.stack = X.outer ∨ (X.stack = X.env :: X.outer ∧ X.env.frame = some X.env.locals)
 exf : ∀ b ∈ X.ex,b ≠ X.env.locals ∧ ∀ x c,X.env.cells.lookup x = some c → c ≠ b
 bs : ∀ b o,X.base.get? b = some o → X.s₀.heap.get? b = some o ∧ X.H₀ b = none
 bsz:X.base.objs.size ≤ X.s₀.heap.objs.size
 noex : ∀ b o,X.base.get? b = some o → b ∉ X.ex
 exfs : ∀ b ∈ X.ex,b ∉ X.fs
 funs:X.s₀.heap.FunFrames X.base X.outer
 frf : ∀ b ∈ X.fs,X.H₀ b = none
structure Inv (X:Cx) (pins:List (Addr × Obj)) (σ : List (Option V)) (H:Hp) (s:Shared) : Prop where
 ok:X.Ok
 os:s.os = X.s₀.os
 bare:AllBare s.gens
 base:Un X.fs X.ex X.H₀ H X.s₀.heap s.heap
 loc : ∃ m,s.heap.Ns X.env.locals m ∧ ∀ (i:Nat) (x:Str) (v:V),X.N[i]? = some x → σ[i]? = some (some v) → Vis X.env.scope x → ∃ u,RelV v u ∧ Look X.env s.heap m x u
 cell : ∀ x c,X.env.cells.lookup x = some c → ∃ v,s.heap.IsCell c v
 free:H X.env.locals = none
 freeC : ∀ x c,X.env.cells.lookup x = some c → H c = none
 pin : ∀ p ∈ X.pn ++ pins,s.heap.get? p.1 = some p.2 ∧ H p.1 = none ∧ p.1 ≠ X.env.locals ∧ p.1 ∉ X.fs ∧ ∀ v,p.2.data ≠ .cell v
 hok:HOk X.prog X.w H s.heap
 len : σ.length = X.N.length
section
variable {X:Cx} {pins:List (Addr × Obj)} {σ : List (Option V)} {H H':Hp} {s:Shared} {h':Heap}
theorem Cx.Ok.nofr (ok:X.Ok) {b:Addr} {o:Obj} (e:X.base.get? b = some o) : b ∉ X.fs:=fun hb=>by
 have:=(ok.funs.mem hb).1
 rw [e] at this; cases this
theorem Inv.bs (I:Inv X pins σ H s) : ∀ b o,X.base.get? b = some o → s.heap.get? b = some o ∧ H b = none:=fun b o e=>
 ⟨I.base.keep b o (I.ok.bs b o e).1 (I.ok.bs b o e).2 (I.ok.nofr e) (I.ok.noex b o e),I.base.free b o (I.ok.bs b o e).1 (I.ok.bs b o e).2 (I.ok.noex b o e)⟩
theorem Inv.bk (I:Inv X pins σ H s) : ∀ b o,X.base.get? b = some o → s.heap.get? b = some o:=fun b o e=>(I.bs b o e).1
theorem Inv.mod (I:Inv X pins σ H s) : Mod X.K X.mg X.base:=I.ok.mod
theorem Inv.kIn (I:Inv X pins σ H s) : X.K.In s.heap:=I.ok.mod.kin.keeps I.bk
theorem Inv.lt (I:Inv X pins σ H s) : X.env.locals < s.heap.objs.size:=let ⟨_,hn,_⟩:=I.loc; hn.lt
theorem Inv.sz (I:Inv X pins σ H s) : X.s₀.heap.objs.size ≤ s.heap.objs.size:=Nat.le_trans I.ok.above (Nat.le_of_lt I.lt)
theorem Inv.nofs (I:Inv X pins σ H s) {a:Addr} (h:s.heap.objs.size ≤ a) : a ∉ X.fs:=fun hb=>by
 obtain ⟨_,o,ho,_⟩:=I.ok.funs.mem hb
 exact absurd (Nat.lt_of_lt_of_le (Heap.lt_size ho) (Nat.le_trans I.sz h)) (Nat.lt_irrefl _)
theorem Inv.cne (I:Inv X pins σ H s) : ∀ x c,X.env.cells.lookup x = some c → c ≠ X.env.locals:=fun x c e z=>by
 obtain ⟨v,o,ho,hd⟩:=I.cell x c e
 obtain ⟨m,⟨o',es,ep,ho',hd',_⟩,_⟩:=I.loc
 rw [z,ho'] at ho; cases ho; rw [hd'] at hd; cases hd
theorem Inv.funs (I:Inv X pins σ H s) : s.heap.FunFrames X.base X.outer:=by
 have all : ∀ (l:List Env),(∀ b ∈ frs l,b ∈ X.fs) → X.s₀.heap.FunFrames X.base l → s.heap.FunFrames X.base l:=by
  intro l
  induction l with
  | nil=>intro _ _; trivial
  | cons env r ih=>
   intro hs hl
   obtain ⟨hk,⟨L,o,hf,hn,ho,hd⟩,hr⟩:=hl
   have hL:L ∈ X.fs:=hs L (by unfold frs; rw [List.filterMap_cons,hf]; exact List.mem_cons_self)
   obtain ⟨sl,e⟩:=I.base.slot L o ho (I.ok.frf L hL) hL fun z=>I.ok.exfs L z hL
   exact ⟨hk,⟨L,_,hf,hn,e,hd⟩,ih (fun b hb=>hs b (by unfold frs; rw [List.filterMap_cons,hf]; exact List.mem_cons_of_mem _ hb)) hr⟩
 exact all X.outer (fun _ hb=>hb) I.ok.funs
theorem Inv.stack (I:Inv X pins σ H s) : s.heap.FunFrames X.base X.stack:=by
 rcases I.ok.stk with e | ⟨e,hf⟩
 ·rw [e]; exact I.funs
 ·rw [e]
  obtain ⟨m,hn,_⟩:=I.loc
  refine .cons (by rw [I.ok.kind]; decide) hf hn ?_ I.funs
  exact Heap.get?_none_of_le (Nat.le_trans I.ok.bsz I.ok.above)
theorem Inv.stkSub (I:Inv X pins σ H s) : ∀ b ∈ frs X.stack,b ∈ X.env.locals :: X.fs:=fun b hb=>by
 rcases I.ok.stk with e | ⟨e,hf⟩
 ·rw [e] at hb; exact List.mem_cons_of_mem _ hb
 ·rw [e] at hb
  unfold frs at hb
  rw [List.filterMap_cons,hf] at hb
  exact hb
theorem Inv.stkFree (I:Inv X pins σ H s) : ∀ b ∈ frs X.stack,H b = none:=fun b hb=>by
 rcases List.mem_cons.mp (I.stkSub b hb) with e | hb
 ·rw [e]; exact I.free
 ·obtain ⟨_,o,ho,_⟩:=I.ok.funs.mem hb
  exact I.base.free b o ho (I.ok.frf b hb) fun z=>I.ok.exfs b z hb
theorem Inv.step {g':Array GenState} {t':Nat} {d':Drawn} {ch:List Addr} (I:Inv X pins σ H s)
  (hch : ∀ b ∈ ch,(b ∈ X.ex ∨ X.s₀.heap.objs.size ≤ b) ∧ b ≠ X.env.locals ∧ (∀ x c,X.env.cells.lookup x = some c → c ≠ b) ∧ ∀ p ∈ X.pn ++ pins,p.1 ≠ b)
  (keep : ∀ b o,b ≠ X.env.locals → b ∉ X.fs → b ∉ ch → s.heap.get? b = some o → H b = none → h'.get? b = some o)
  (slot : ∀ b o,b ≠ X.env.locals → b ∈ X.fs → b ∉ ch → s.heap.get? b = some o → H b = none → ∃ sl,h'.get? b = some { o with slots:=sl }) (free : ∀ b o,b ∉ ch → s.heap.get? b = some o → H b = none → H' b = none)
  (there : ∀ b o,b ∉ ch → s.heap.get? b = some o → ∃ o',h'.get? b = some o')
  (tups : ∀ b xs,H b = some (.tup xs) → H' b = some (.tup xs)) (frzs : ∀ b o u,H b = some (.frz o u) → H' b = some (.frz o u)) (tbls : ∀ b ps,H b = some (.tbl ps) → ∃ more,H' b = some (.tbl (ps ++ more)))
  (ns : ∀ m,s.heap.Ns X.env.locals m → h'.Ns X.env.locals m) (hok:HOk X.prog X.w H' h') (hg:AllBare g') :
  Inv X pins σ H' { s with heap:=h',gens:=g',drawn:=d',toks:=t' }:=by
 have neL : ∀ b o,X.s₀.heap.get? b = some o → b ≠ X.env.locals:=fun b o e=>Nat.ne_of_lt (Nat.lt_of_lt_of_le (Heap.lt_size e) I.ok.above)
 have neC : ∀ b o,X.s₀.heap.get? b = some o → b ∉ X.ex → b ∉ ch:=fun b o e hx hb=>by
  rcases (hch b hb).1 with z | z
  ·exact hx z
  ·exact absurd (Nat.lt_of_lt_of_le (Heap.lt_size e) z) (Nat.lt_irrefl _)
 have cellK : ∀ x c,X.env.cells.lookup x = some c → ∀ v,s.heap.IsCell c v → h'.IsCell c v:=fun x c e v ⟨o,ho,hd⟩=>by
  have nch:c ∉ ch:=fun z=>(hch c z).2.2.1 x c e rfl
  by_cases hc:c ∈ X.fs
  ·obtain ⟨sl,q⟩:=slot c o (I.cne x c e) hc nch ho (I.freeC x c e)
   exact ⟨_,q,hd⟩
  ·exact ⟨o,keep c o (I.cne x c e) hc nch ho (I.freeC x c e),hd⟩
 refine ⟨I.ok,I.os,hg,⟨fun b o e n hb hx=>?_,fun b o e n hb hx=>?_,fun b o e n hx=>?_,fun b o e hx=>?_,fun b xs e=>tups b xs (I.base.tups b xs e),fun b o xs e=>frzs b o xs (I.base.frzs b o xs e),fun b ps e=>?_⟩,?_,fun x c e=>?_,?_,fun x c e=>?_,fun p hp=>?_,hok,I.len⟩
 ·exact keep b o (neL b o e) hb (neC b o e hx) (I.base.keep b o e n hb hx) (I.base.free b o e n hx)
 ·obtain ⟨sl,e1⟩:=I.base.slot b o e n hb hx
  obtain ⟨sl',e2⟩:=slot b _ (neL b o e) hb (neC b o e hx) e1 (I.base.free b o e n hx)
  exact ⟨sl',e2⟩
 ·obtain ⟨o',e1⟩:=I.base.there b o e hx
  exact free b o' (neC b o e hx) e1 (I.base.free b o e n hx)
 ·obtain ⟨o',e1⟩:=I.base.there b o e hx
  exact there b o' (neC b o e hx) e1
 ·obtain ⟨m1,e1⟩:=I.base.tbls b ps e
  obtain ⟨m2,e2⟩:=tbls b _ e1
  exact ⟨m1 ++ m2,by rw [e2,Array.append_assoc]⟩
 ·obtain ⟨m,hn,hl⟩:=I.loc
  refine ⟨m,ns m hn,fun i x v e1 e2 e3=>?_⟩
  obtain ⟨u,r,l⟩:=hl i x v e1 e2 e3
  refine ⟨u,r,?_⟩
  rcases l with l | ⟨k,c,e,z⟩
  ·exact .inl l
  ·exact .inr ⟨k,c,e,cellK x c e _ z⟩
 ·obtain ⟨v,z⟩:=I.cell x c e
  exact ⟨v,cellK x c e v z⟩
 ·obtain ⟨m,⟨o,_,_,ho,_⟩,_⟩:=I.loc
  exact free _ o (fun z=>(hch _ z).2.1 rfl) ho I.free
 ·obtain ⟨v,o,ho,hd⟩:=I.cell x c e
  exact free c o (fun z=>(hch c z).2.2.1 x c e rfl) ho (I.freeC x c e)
 ·obtain ⟨e,n,ne,nf,d⟩:=I.pin p hp
  have nch:p.1 ∉ ch:=fun z=>(hch p.1 z).2.2.2 p hp rfl
  exact ⟨keep p.1 p.2 ne nf nch e n,free p.1 p.2 nch e n,ne,nf,d⟩
theorem Inv.un {t':Nat} (I:Inv X pins σ H s) (u:Un X.fs [] H H' s.heap h') (hok:HOk X.prog X.w H' h') : Inv X pins σ H' { s with heap:=h',toks:=t' }:=by
 obtain ⟨m,⟨o,es,ep,ho,r⟩,_⟩:=id I.loc
 obtain ⟨sl,hL⟩:=u.any ho I.free (by simp)
 exact I.step (g':=s.gens) (d':=s.drawn) (ch:=[]) (fun _ z=>nomatch z) (fun b o _ hb _ e n=>u.keep b o e n hb (by simp)) (fun b o _ hb _ e n=>u.slot b o e n hb (by simp)) (fun b o _ e n=>u.free b o e n (by simp)) (fun b o _ e=>u.there b o e (by simp)) u.tups u.frzs u.tbls (fun m' hm=>by
  obtain ⟨o',es',ep',ho',r'⟩:=hm
  rw [ho] at ho'; cases ho'
  exact ⟨_,es',ep',hL,r'⟩) hok I.bare
theorem Inv.call {g':Array GenState} {t':Nat} {d':Drawn} {ch:List Addr} (I:Inv X pins σ H s) (u:Un (frs X.stack) ch H H' s.heap h') (hok:HOk X.prog X.w H' h') (hg:AllBare g')
  (hch : ∀ b ∈ ch,(b ∈ X.ex ∨ X.s₀.heap.objs.size ≤ b) ∧ b ≠ X.env.locals ∧ (∀ x c,X.env.cells.lookup x = some c → c ≠ b) ∧ ∀ p ∈ X.pn ++ pins,p.1 ≠ b) :
  Inv X pins σ H' { s with heap:=h',gens:=g',drawn:=d',toks:=t' }:=by
 obtain ⟨m,⟨o,es,ep,ho,r⟩,_⟩:=id I.loc
 obtain ⟨sl,hL⟩:=u.any ho I.free fun z=>(hch _ z).2.1 rfl
 exact I.step (ch:=ch) hch (fun b o hL hb hc e n=>u.keep b o e n (fun z=>(List.mem_cons.mp (I.stkSub b z)).elim hL hb) hc) (fun b o _ _ hc e n=>u.any e n hc) (fun b o hc e n=>u.free b o e n hc) (fun b o hc e=>u.there b o e hc) u.tups u.frzs u.tbls (fun m' hm=>by
  obtain ⟨o',es',ep',ho',r'⟩:=hm
  rw [ho] at ho'; cases ho'
  exact ⟨_,es',ep',hL,r'⟩) hok hg
theorem Inv.turned {t':Nat} {it:Addr} (I:Inv X pins σ H s) (k : ∀ b o,b ≠ it → s.heap.get? b = some o → h'.get? b = some o) (hn:H it = none) (hL:it ≠ X.env.locals)
  (h1:it ∈ X.ex ∨ X.s₀.heap.objs.size ≤ it) (h2 : ∀ x c,X.env.cells.lookup x = some c → c ≠ it) (h3 : ∀ p ∈ X.pn ++ pins,p.1 ≠ it) : Inv X pins σ H { s with heap:=h',toks:=t' }:=by
 have nit : ∀ b u,H b = some u → b ≠ it:=fun b u e z=>by rw [z,hn] at e; cases e
 refine I.step (g':=s.gens) (d':=s.drawn) (ch:=[it]) (fun b hb=>?_) (fun b o _ _ hc e _=>k b o (fun z=>hc (by simp [z])) e) (fun b o _ _ hc e _=>⟨o.slots,k b o (fun z=>hc (by simp [z])) e⟩) (fun _ _ _ _ n=>n)
  (fun b o hc e=>⟨o,k b o (fun z=>hc (by simp [z])) e⟩) (fun _ _ e=>e) (fun _ _ _ e=>e) (fun b ps e=>⟨#[],by rw [e]; simp⟩) (fun m hm=>?_) (fun b u e=>?_) I.bare
 ·have e:b = it:=by simpa using hb
  subst e
  exact ⟨h1,hL,h2,h3⟩
 ·obtain ⟨o,es,ep,ho,r⟩:=hm
  exact ⟨o,es,ep,k _ o (Ne.symm hL) ho,r⟩
 ·refine (I.hok b u e).stay (fun c v hc q=>k c v ?_ q) (fun _ q=>q) fun _ _ q=>q
  rcases hc with z | z
  ·rw [z]; exact nit b u e
  ·exact nit c _ z
theorem Inv.tok (I:Inv X pins σ H s) (t:Nat) : Inv X pins σ H { s with toks:=t }:=I.un (h':=s.heap) (t':=t) Un.refl I.hok
theorem Inv.kept {t':Nat} (I:Inv X pins σ H s) (k : ∀ b u,s.heap.get? b = some u → h'.get? b = some u) : Inv X pins σ H { s with heap:=h',toks:=t' }:=I.un (Un.kept k) (I.hok.kept k)
theorem Inv.laid {a:Addr} {o:HO} {t':Nat} (I:Inv X pins σ H s) (k : ∀ b u,s.heap.get? b = some u → h'.get? b = some u) (hp:s.heap.objs.size ≤ a) (new:ObjOk X.prog X.w (upd H a o) h' a o) :
  Inv X pins σ (upd H a o) { s with heap:=h',toks:=t' }:=I.un (Un.laid k hp (I.hok.fresh hp)) (I.hok.laid k hp new)
theorem Inv.write {x e:Addr} {o:HO} {t':Nat} (I:Inv X pins σ H s) (mu:Mut (H x)) (he:e = x ∨ H e = some (.own x)) (k : ∀ b u,b ≠ e → s.heap.get? b = some u → h'.get? b = some u) (heo : ∃ u,h'.get? e = some u)
  (new:ObjOk X.prog X.w (upd H x o) h' x o) : Inv X pins σ (upd H x o) { s with heap:=h',toks:=t' }:=I.un (Un.write mu he k heo) (I.hok.write mu he k heo new)
theorem Inv.pins_of {pins':List (Addr × Obj)} (I:Inv X pins σ H s) (h : ∀ p ∈ pins',s.heap.get? p.1 = some p.2 ∧ H p.1 = none ∧ p.1 ≠ X.env.locals ∧ p.1 ∉ X.fs ∧ ∀ v,p.2.data ≠ .cell v) : Inv X pins' σ H s:=
 ⟨I.ok,I.os,I.bare,I.base,I.loc,I.cell,I.free,I.freeC,fun p hp=>(List.mem_append.mp hp).elim (fun z=>I.pin p (List.mem_append_left _ z)) (h p),I.hok,I.len⟩
theorem nodup_ix {N:List Str} (hN:N.Nodup) {i j:Nat} {x:Str} (a:N[i]? = some x) (b:N[j]? = some x) : i = j:=by
 obtain ⟨h1,e1⟩:=List.getElem?_eq_some_iff.mp a
 obtain ⟨h2,e2⟩:=List.getElem?_eq_some_iff.mp b
 exact (List.getElem_inj hN).mp (e1.trans e2.symm)
theorem store_ok2 {M:Model} {A:Around} {E:Value → Shared → Prop} {i:Nat} {x:Str} {v:V} {u:Value} {Q:Unit → Shared → Prop} (I:Inv X pins σ H s) (hN:X.N.Nodup) (hi:X.N[i]? = some x) (hx:Loc X.env.scope x) (r:RelV v u)
  (h : ∀ s',Inv X pins (σ.set i (some v)) H s' → (∃ a,Heap.SameBut a s.heap s'.heap ∧ (a = X.env.locals ∨ X.env.cells.lookup x = some a)) → Q () s') (hf:autoParam (X.fn x = true ∨ X.env.scope.names.lookup x = some .local) aP5) : wpAny M A (storeName X.env x u) Q E s:=by
 obtain ⟨m,hn,hl⟩:=id I.loc
 have hcls:(X.env.scope.kind == .class || (X.env.scope.kind == .module && X.env.locals != X.env.globals)) = false:=by rw [I.ok.kind]; rfl
 have hiσ : i < σ.length:=by rw [I.len]; exact (List.getElem?_eq_some_iff.mp hi).1
 have cne:=I.cne
 have tracked : ∀ {a:Addr} {h':Heap},(∃ o,s.heap.get? a = some o ∧ H a = none) → Heap.SameBut a s.heap h' → HOk X.prog X.w H h':=fun {a h'} ha hs b ob e=>by
  obtain ⟨_,_,hfree⟩:=ha
  refine (I.hok b ob e).stay (fun c w' hc q=>(hs.2 c ?_).trans q) (fun _ q=>q) fun _ _ q=>q
  rintro rfl
  rcases hc with rfl | hc
  ·rw [hfree] at e; cases e
  ·rw [hfree] at hc; cases hc
 rcases hx with hk | hk
 ·refine wpAny_storeName_local hk hn (fun h' hn' hs=>?_) hcls
  obtain ⟨oL,_,_,hoL,_⟩:=id hn
  refine h _ ⟨I.ok,I.os,I.bare,⟨fun b o e n hb hx=>?_,fun b o e n hb hx=>?_,I.base.free,fun b o e hx=>?_,I.base.tups,I.base.frzs,I.base.tbls⟩,⟨_,hn',fun j y v' e1 e2 e3=>?_⟩,fun y c e=>?_,I.free,I.freeC,fun p hp=>?_,tracked ⟨oL,hoL,I.free⟩ hs,by simpa using I.len⟩ ⟨_,hs,.inl rfl⟩
  ·exact (hs.2 b (Nat.ne_of_lt (Nat.lt_of_lt_of_le (Heap.lt_size e) I.ok.above))).trans (I.base.keep b o e n hb hx)
  ·obtain ⟨sl,e1⟩:=I.base.slot b o e n hb hx
   exact ⟨sl,(hs.2 b (Nat.ne_of_lt (Nat.lt_of_lt_of_le (Heap.lt_size e) I.ok.above))).trans e1⟩
  ·obtain ⟨o',e1⟩:=I.base.there b o e hx
   exact ⟨o',(hs.2 b (Nat.ne_of_lt (Nat.lt_of_lt_of_le (Heap.lt_size e) I.ok.above))).trans e1⟩
  ·by_cases hj:j = i
   ·subst hj
    rw [hi] at e1; cases e1
    rw [List.getElem?_set_self hiσ] at e2
    cases e2
    exact ⟨u,r,.inl ⟨hk,by simp⟩⟩
   ·rw [List.getElem?_set_ne (Ne.symm hj)] at e2
    obtain ⟨u',r',q⟩:=hl j y v' e1 e2 e3
    refine ⟨u',r',?_⟩
    rcases q with ⟨k,e⟩ | ⟨k,c,e,z⟩
    ·refine .inl ⟨k,?_⟩
     have:y ≠ x:=fun e=>hj (nodup_ix hN e1 (e ▸ hi))
     simp [this,e]
    ·exact .inr ⟨k,c,e,z.sameBut hs (cne y c e)⟩
  ·obtain ⟨w',z⟩:=I.cell y c e
   exact ⟨w',z.sameBut hs (cne y c e)⟩
  ·obtain ⟨e,n,ne,nf,d⟩:=I.pin p hp
   exact ⟨(hs.2 p.1 ne).trans e,n,ne,nf,d⟩
 ·have hfn:X.fn x = true:=by
   rcases hf with z | z
   ·exact z
   ·rw [z] at hk; cases hk
  obtain ⟨c,hc⟩:=I.ok.has x (.inl hk)
  obtain ⟨w',z⟩:=I.cell x c hc
  refine wpAny_storeName_cell I.ok.kind hk hc z (fun h' hc' hs=>?_)
  obtain ⟨oc,hoc,hocd⟩:=id z
  refine h { s with heap:=h' } ⟨I.ok,I.os,I.bare,⟨fun b o e n hb hx=>?_,fun b o e n hb hx=>?_,I.base.free,fun b o e hx=>?_,I.base.tups,I.base.frzs,I.base.tbls⟩,⟨m,hn.sameBut hs (Ne.symm (cne x c hc)),fun j y v' e1 e2 e3=>?_⟩,fun y c' e=>?_,I.free,I.freeC,fun p hp=>?_,tracked ⟨oc,hoc,I.freeC x c hc⟩ hs,by simpa using I.len⟩ ⟨c,hs,.inr hc⟩
  ·exact (hs.2 b (Nat.ne_of_lt (Nat.lt_of_lt_of_le (Heap.lt_size e) (I.ok.cab x c hfn hc)))).trans (I.base.keep b o e n hb hx)
  ·obtain ⟨sl,e1⟩:=I.base.slot b o e n hb hx
   exact ⟨sl,(hs.2 b (Nat.ne_of_lt (Nat.lt_of_lt_of_le (Heap.lt_size e) (I.ok.cab x c hfn hc)))).trans e1⟩
  ·obtain ⟨o',e1⟩:=I.base.there b o e hx
   exact ⟨o',(hs.2 b (Nat.ne_of_lt (Nat.lt_of_lt_of_le (Heap.lt_size e) (I.ok.cab x c hfn hc)))).trans e1⟩
  ·by_cases hj:j = i
   ·subst hj
    rw [hi] at e1; cases e1
    rw [List.getElem?_set_self hiσ] at e2
    cases e2
    exact ⟨u,r,.inr ⟨.inl hk,c,hc,hc'⟩⟩
   ·rw [List.getElem?_set_ne (Ne.symm hj)] at e2
    obtain ⟨u',r',q⟩:=hl j y v' e1 e2 e3
    refine ⟨u',r',?_⟩
    rcases q with q | ⟨k,c',e,z'⟩
    ·exact .inl q
    ·refine .inr ⟨k,c',e,z'.sameBut hs ?_⟩
     rintro rfl
     exact hj (nodup_ix hN e1 (I.ok.inj _ _ _ e hc ▸ hi))
  ·by_cases hcc:c' = c
   ·subst hcc; exact ⟨_,hc'⟩
   ·obtain ⟨w2,z2⟩:=I.cell y c' e
    exact ⟨w2,z2.sameBut hs hcc⟩
  ·obtain ⟨e,n,ne,nf,d⟩:=I.pin p hp
   refine ⟨(hs.2 p.1 ?_).trans e,n,ne,nf,d⟩
   intro q
   rw [q,hoc] at e
   have q':oc = p.2:=Option.some.inj e
   exact d w' (by rw [← q']; exact hocd)
theorem store_ok {M:Model} {A:Around} {E:Value → Shared → Prop} {i:Nat} {x:Str} {v:V} {u:Value} {Q:Unit → Shared → Prop} (I:Inv X pins σ H s) (hN:X.N.Nodup) (hi:X.N[i]? = some x) (hx:Loc X.env.scope x) (r:RelV v u)
  (h : ∀ s',Inv X pins (σ.set i (some v)) H s' → Q () s') (hf:autoParam (X.fn x = true ∨ X.env.scope.names.lookup x = some .local) aP5) : wpAny M A (storeName X.env x u) Q E s:=
 store_ok2 I hN hi hx r (fun s' I' _=>h s' I') hf
theorem Inv.call' {s':Shared} {ch:List Addr} (I:Inv X pins σ H s) (ho:s'.os = s.os) (u:Un (frs X.stack) ch H H' s.heap s'.heap) (hok:HOk X.prog X.w H' s'.heap) (hg:AllBare s'.gens)
  (hch : ∀ b ∈ ch,(b ∈ X.ex ∨ X.s₀.heap.objs.size ≤ b) ∧ b ≠ X.env.locals ∧ (∀ x c,X.env.cells.lookup x = some c → c ≠ b) ∧ ∀ p ∈ X.pn ++ pins,p.1 ≠ b) : Inv X pins σ H' s':=by
 obtain ⟨h',g',d',t',o'⟩:=s'
 have e:o' = s.os:=ho
 subst e
 exact I.call (g':=g') (t':=t') (d':=d') u hok hg hch
end
abbrev XK:=Value → Option Addr → Hp → Prop
abbrev St:=List (Option V)
abbrev VK:=V → Hp → Prop
abbrev TE:=St → Hp → VK → Prop
abbrev TT:=St → Hp → (Bool → Hp → Prop) → Prop
abbrev TA:=St → Hp → (List V → Hp → Prop) → Prop
structure Ends where
 nx:St → Hp → Prop
 rt:VK
 bk:St → Hp → Prop:=fun _ _=>False
 ct:St → Hp → Prop:=fun _ _=>False
abbrev TS:=Ends → St → Hp → Prop
def EP (X:Cx) (pins:List (Addr × Obj)) (σ : St) (Q:VK) (u:Value) (s':Shared) : Prop:=∃ v H',Inv X pins σ H' s' ∧ RelV v u ∧ Q v H'
def TP (X:Cx) (pins:List (Addr × Obj)) (σ : St) (Q:Bool → Hp → Prop) (b:Bool) (s':Shared) : Prop:=∃ H',Inv X pins σ H' s' ∧ Q b H'
def AP (X:Cx) (pins:List (Addr × Obj)) (σ : St) (Q:List V → Hp → Prop) (us:List Value) (s':Shared) : Prop:=∃ vs H',Inv X pins σ H' s' ∧ Vals vs us ∧ Q vs H'
def SP (X:Cx) (pins:List (Addr × Obj)) (D:Ends) (f:Flow) (s':Shared) : Prop:=
 match f with
 | .next=>∃ σ' H',Inv X pins σ' H' s' ∧ D.nx σ' H'
 | .brk=>∃ σ' H',Inv X pins σ' H' s' ∧ D.bk σ' H'
 | .cont=>∃ σ' H',Inv X pins σ' H' s' ∧ D.ct σ' H'
 | .ret u=>∃ v σ' H',Inv X pins σ' H' s' ∧ RelV v u ∧ D.rt v H'
def PE (X:Cx) (e:Expr) (t:TE) : Prop:=
 ∀ (pins:List (Addr × Obj)) (s:Shared) (σ : St) (H:Hp) (Q:VK),Inv X pins σ H s → t σ H Q → wpAny (model X.prog X.w) X.A (eval e X.env) (EP X pins σ Q) X.xe s
def PT (X:Cx) (e:Expr) (t:TT) : Prop:=
 ∀ (pins:List (Addr × Obj)) (s:Shared) (σ : St) (H:Hp) (Q:Bool → Hp → Prop),Inv X pins σ H s → t σ H Q → wpAny (model X.prog X.w) X.A (isTrue e X.env (eval e X.env)) (TP X pins σ Q) X.xe s
def PW (X:Cx) (e:Expr) (t:TT) : Prop:=
 ∀ (whole:Sem Value) (pins:List (Addr × Obj)) (s:Shared) (σ : St) (H:Hp) (Q:Bool → Hp → Prop),Inv X pins σ H s → t σ H Q → wpAny (model X.prog X.w) X.A (isTrue e X.env whole) (TP X pins σ Q) X.xe s
theorem PW.pt {X:Cx} {e:Expr} {t:TT} (h:PW X e t) : PT X e t:=h _
def PA (X:Cx) (es:List Expr) (t:TA) : Prop:=
 ∀ (pos:Pos) (pins:List (Addr × Obj)) (s:Shared) (σ : St) (H:Hp) (Q:List V → Hp → Prop),Inv X pins σ H s → t σ H Q → wpAny (model X.prog X.w) X.A (spliced (backTo pos (starEach es X.env))) (AP X pins σ Q) X.xe s
def PS (X:Cx) (st:Stmt) (t:TS) : Prop:=
 ∀ (pins:List (Addr × Obj)) (s:Shared) (σ : St) (H:Hp) (D:Ends),Inv X pins σ H s → t D σ H → wpAny (model X.prog X.w) X.A (exec st X.env) (SP X pins D) X.xe s
def PSs (X:Cx) (st:List Stmt) (t:TS) : Prop:=
 ∀ (pins:List (Addr × Obj)) (s:Shared) (σ : St) (H:Hp) (D:Ends),Inv X pins σ H s → t D σ H → wpAny (model X.prog X.w) X.A (execs st X.env) (SP X pins D) X.xe s
theorem thn {α : Type} {t:Sem α} {Q Q' : α → Shared → Prop} {M:Model} {A:Around} {E:Value → Shared → Prop} {s:Shared} (h:wpAny M A t Q E s) (hQ : ∀ a s,Q a s → Q' a s) : wpAny M A t Q' E s:=wpAny_mono h hQ fun _ _ x=>x
end L2
namespace L2
open PySem PySem.Spec PyProof.Rows
section
variable {X:Cx}
theorem bin {a b:Expr} {ta tb:TE} (ha:PE X a ta) (hb:PE X b tb) {pins:List (Addr × Obj)} {s:Shared} {σ : St} {H:Hp} {R:V → V → Hp → Prop} (I:Inv X pins σ H s) (h:ta σ H fun x H1=>tb σ H1 fun y H2=>R x y H2)
  {α : Type} {Q : α → Shared → Prop} {f:Value → Value → Sem α}
  (hf : ∀ v u s2 x y H2,Inv X pins σ H2 s2 → RelV x v → RelV y u → R x y H2 → wpAny (model X.prog X.w) X.A (f v u) Q X.xe s2) :
  wpAny (model X.prog X.w) X.A (eval a X.env) (fun v s₁=>wpAny (model X.prog X.w) X.A (eval b X.env) (fun u s₂=>wpAny (model X.prog X.w) X.A (f v u) Q X.xe s₂) X.xe s₁) X.xe s:=by
 refine thn (ha pins s σ H _ I h) fun v s1 ⟨x,H1,I1,r1,q1⟩=>?_
 refine thn (hb pins s1 σ H1 _ I1 q1) fun u s2 ⟨y,H2,I2,r2,q2⟩=>?_
 exact hf v u s2 x y H2 I2 r1 r2 q2
def tVar (i:Nat) : TE:=fun σ H Q=>∃ v,σ[i]? = some (some v) ∧ Q v H
def tC (v:V) : TE:=fun _ H Q=>Q v H
theorem pe_var {i:Nat} {x:Str} {pos:Pos} (hN:X.N[i]? = some x) (hv:Vis X.env.scope x) (hd:autoParam ((x == ("__debug__" : Str)) = false) aP2) (hcd:autoParam ((x == ("__classdict__" : Str)) = false) aP2) : PE X (.Name x pos) (tVar i):=by
 intro pins s σ H Q I h
 obtain ⟨v,e,h⟩:=h
 obtain ⟨m,hn,hl⟩:=I.loc
 obtain ⟨u,r,l⟩:=hl i x v hN e hv
 have fin:EP X pins σ Q u s:=⟨v,H,I,r,h⟩
 rcases l with ⟨hk,hm⟩ | ⟨hk,c,hc,hcell⟩
 ·exact wpAny_Name (wpAny_loadName_local I.ok.kind hk hn hm fin) hd
 ·rcases hk with hk | hk
  ·exact wpAny_Name (wpAny_loadName_cell I.ok.kind hk hc hcell fin) hd
  ·exact wpAny_Name (wpAny_loadName_free I.ok.kind hk hc hcell fin hcd) hd
theorem pe_int {i j pos} : PE X (.Constant (.int i) j pos) (tC (.int i)):=fun _ _ _ H _ I h=>wpAny_Constant_int ⟨.int i,H,I.tok _,⟨_,rfl⟩,h⟩
theorem pe_bl {b j pos} : PE X (.Constant (.bool b) j pos) (tC (.bl b)):=fun _ _ _ H _ I h=>Constant_bool ⟨.bl b,H,I,rfl,h⟩
theorem pe_non {j pos} : PE X (.Constant .none j pos) (tC .non):=fun _ _ _ H _ I h=>Constant_none ⟨.non,H,I,rfl,h⟩
def Gl (X:Cx) (x:Str) : Prop:=X.env.kindOf x = some .globalImplicit
theorem ld_glob {E:Value → Shared → Prop} {pins:List (Addr × Obj)} {s:Shared} {σ : St} {H:Hp} {x:Str} {u:Value} {pos:Pos} {Q:Value → Shared → Prop} (I:Inv X pins σ H s) (hg:Gl X x) (hm:X.mg x = some u) (h:Q u s)
  (hd:autoParam ((x == ("__debug__" : Str)) = false) aP2) : wpAny (model X.prog X.w) X.A (eval (.Name x pos) X.env) Q E s:=
 Calls.Name_function_global I.ok.kind hg (Calls.loadGlobal_global (by rw [I.ok.glob]; exact I.mod.glob.keeps I.bk) hm h) hd
theorem ld_blt {E:Value → Shared → Prop} {pins:List (Addr × Obj)} {s:Shared} {σ : St} {H:Hp} {x:Str} {u:Value} {pos:Pos} {Q:Value → Shared → Prop} (I:Inv X pins σ H s) (hg:Gl X x) (hm:X.mg x = none) (hv:bootBuiltins x = some u) (h:Q u s)
  (hn:autoParam (x ≠ "__name__") aP2) (hd:autoParam ((x == ("__debug__" : Str)) = false) aP2) : wpAny (model X.prog X.w) X.A (eval (.Name x pos) X.env) Q E s:=by
 obtain ⟨mb,h1,h2⟩:=I.mod.blt
 exact Calls.Name_function_global I.ok.kind hg (Calls.loadGlobal_builtin (by rw [I.ok.glob]; exact I.mod.glob.keeps I.bk) hm (by rw [I.ok.blt]; exact h1.keeps I.bk) ((h2 x hn).trans hv) h) hd
theorem pe_glob {x:Str} {v:V} {u:Value} {pos:Pos} (hg:Gl X x) (hm:X.mg x = some u) (r:RelV v u) (hd:autoParam ((x == ("__debug__" : Str)) = false) aP2) : PE X (.Name x pos) (tC v):=
 fun _ _ _ H _ I h=>ld_glob I hg hm ⟨v,H,I,r,h⟩ hd
theorem pe_bltn {x:Str} {v:V} {u:Value} {pos:Pos} (hg:Gl X x) (hm:X.mg x = none) (hv:bootBuiltins x = some u) (r:RelV v u) (hn:autoParam (x ≠ "__name__") aP2) (hd:autoParam ((x == ("__debug__" : Str)) = false) aP2) : PE X (.Name x pos) (tC v):=
 fun _ _ _ H _ I h=>ld_blt I hg hm hv ⟨v,H,I,r,h⟩ hn hd
variable {a b:Expr} {ta tb:TE} {pos:Pos}
def PC (X:Cx) (op:CmpOp) (a b:Expr) (t:TE) : Prop:=
 ∀ (pins:List (Addr × Obj)) (s:Shared) (σ : St) (H:Hp) (Q:VK),Inv X pins σ H s → t σ H Q →
  wpAny (model X.prog X.w) X.A (eval a X.env) (fun v s₁=>wpAny (model X.prog X.w) X.A (eval b X.env) (fun u s₂=>wpAny (model X.prog X.w) X.A (compareOp op v u) (EP X pins σ Q) X.xe s₂) X.xe s₁) X.xe s
def tB (t:TE) : TT:=fun σ H Q=>t σ H fun x H1=>∃ c,x = .bl c ∧ Q c H1
theorem pt_cmp {op:CmpOp} {t:TE} (h:PC X op a b t) (h1:behindInMarks op b = false:=by first | exact nobehind _ (by decide) (by decide) | rfl) : PT X (.Compare a [op] [b] pos) (tB t):=by
 intro pins s σ H Q I hw
 refine wpAny_isTrue_Compare1 (thn (h pins s σ H _ I hw) fun v s1 h1=>thn h1 fun u s2 h2=>thn h2 fun c s3 ⟨x,H1,I1,r1,q1⟩=>?_) h1
 obtain ⟨d,rfl,q⟩:=q1
 cases r1
 exact wpAny_truthy_bool ⟨H1,I1,q⟩
theorem pt_val {e:Expr} {t:TE} (h:PE X e t) (he:autoParam (∀ whole,isTrue e X.env whole = (do let v ← whole; standAt e.pos; holding [v] (truthy v))) aP3) : PT X e (tB t):=by
 intro pins s σ H Q I hw
 refine isTrue_plain (thn (h pins s σ H _ I hw) fun v s1 ⟨x,H1,I1,r1,q1⟩=>?_) (he _)
 obtain ⟨d,rfl,q⟩:=q1
 cases r1
 exact wpAny_truthy_bool ⟨H1,I1,q⟩
variable {tA tB':TT} {rest:List Expr}
def tAnd (t u:TT) : TT:=fun σ H Q=>t σ H fun c H1=>if c = true then u σ H1 Q else Q false H1
def tOr (t u:TT) : TT:=fun σ H Q=>t σ H fun c H1=>if c = true then Q true H1 else u σ H1 Q
def tNot (t:TT) : TT:=fun σ H Q=>t σ H fun c H1=>Q (!c) H1
theorem pw_and1 (ha:PT X a tA) : PW X (.BoolOp .And [a] pos) tA:=by
 intro wh pins s σ H Q I h
 refine isTrue_and (thn (ha pins s σ H Q I h) fun c s1 e=>?_)
 cases c with
 | true=>exact isTrue_and_nil e
 | false=>exact e
theorem pw_or1 (ha:PT X a tA) : PW X (.BoolOp .Or [a] pos) tA:=by
 intro wh pins s σ H Q I h
 refine isTrue_or (thn (ha pins s σ H Q I h) fun c s1 e=>?_)
 cases c with
 | false=>exact isTrue_or_nil e
 | true=>exact e
theorem pw_and (ha:PT X a tA) (hb:PW X (.BoolOp .And (b :: rest) pos) tB') : PW X (.BoolOp .And (a :: b :: rest) pos) (tAnd tA tB'):=by
 intro wh pins s σ H Q I h
 refine isTrue_and (thn (ha pins s σ H _ I h) fun c s1 ⟨H1,I1,q1⟩=>?_)
 cases c with
 | true=>exact hb wh pins s1 σ H1 Q I1 q1
 | false=>exact ⟨H1,I1,q1⟩
theorem pw_or (ha:PT X a tA) (hb:PW X (.BoolOp .Or (b :: rest) pos) tB') : PW X (.BoolOp .Or (a :: b :: rest) pos) (tOr tA tB'):=by
 intro wh pins s σ H Q I h
 refine isTrue_or (thn (ha pins s σ H _ I h) fun c s1 ⟨H1,I1,q1⟩=>?_)
 cases c with
 | true=>exact ⟨H1,I1,q1⟩
 | false=>exact hb wh pins s1 σ H1 Q I1 q1
theorem pt_not (ha:PT X a tA) : PT X (.UnaryOp .Not a pos) (tNot tA):=by
 intro pins s σ H Q I h
 exact isTrue_not (ha pins s σ H (fun c H1=>Q (!c) H1) I h)
def tAndV (ta tb:TE) : TE:=fun σ H Q=>ta σ H fun x H1=>∃ c,x = .bl c ∧ if c = true then tb σ H1 Q else Q (.bl false) H1
def tNotV (ta:TE) : TE:=fun σ H Q=>ta σ H fun x H1=>∃ c,x = .bl c ∧ Q (.bl (!c)) H1
theorem pe_one {op} {t:TE} (h:PE X a t) : PE X (.BoolOp op [a] pos) t:=fun pins s σ H Q I hw=>BoolOp_one (h pins s σ H Q I hw)
theorem pe_and (ha:PE X a ta) (hb:PE X (.BoolOp .And (b :: rest) pos) tb) : PE X (.BoolOp .And (a :: b :: rest) pos) (tAndV ta tb):=by
 intro pins s σ H Q I h
 refine BoolOp_and (thn (ha pins s σ H _ I h) fun v s1 ⟨x,H1,I1,r1,q1⟩=>?_)
 obtain ⟨c,rfl,q1⟩:=q1
 cases r1
 refine wpAny_truthy_bool ?_
 cases c with
 | true=>exact hb pins s1 σ H1 Q I1 q1
 | false=>exact ⟨.bl false,H1,I1,rfl,q1⟩
theorem pe_not (ha:PE X a ta) : PE X (.UnaryOp .Not a pos) (tNotV ta):=by
 intro pins s σ H Q I h
 refine UnaryOp_ (thn (ha pins s σ H _ I h) fun v s1 ⟨x,H1,I1,r1,q1⟩=>?_)
 obtain ⟨c,rfl,q1⟩:=q1
 cases r1
 exact not_of (wpAny_truthy_bool ⟨.bl (!c),H1,I1,rfl,q1⟩)
def tIf (t:TT) (ta tb:TE) : TE:=fun σ H Q=>t σ H fun c H1=>if c = true then ta σ H1 Q else tb σ H1 Q
theorem pe_ifExp {c:Expr} (hc:PT X c tA) (ha:PE X a ta) (hb:PE X b tb) : PE X (.IfExp c a b pos) (tIf tA ta tb):=by
 intro pins s σ H Q I h
 refine wpAny_IfExp (thn (hc pins s σ H _ I h) fun d s1 ⟨H1,I1,q1⟩=>?_)
 cases d with
 | true=>exact ha pins s1 σ H1 Q I1 q1
 | false=>exact hb pins s1 σ H1 Q I1 q1
end
end L2
namespace L2
open PySem PySem.Spec PyProof.Rows
def SqL (K:PySem.W.Frag) (H:Hp) (a:Addr) (xs:List V) : Prop:=
 Rd H a (.lst xs) ∨
  ∃ (o:Obj) (its:Array Value) (n:Nat),K.lookup a = some o ∧ o.cls = .type "list" ∧ o.dict = none ∧ o.data = .seq its n ∧ its.size ≤ sizeLine ∧ Vals xs its.toList
def SqT (K:PySem.W.Frag) (H:Hp) (a:Addr) (xs:List V) : Prop:=
 Rd H a (.tup xs) ∨
  ∃ (o:Obj) (its:Array Value) (n:Nat),K.lookup a = some o ∧ o.cls = .type "tuple" ∧ o.data = .seq its n ∧ its.size ≤ sizeLine ∧ Vals xs its.toList
def absV:Value → Option V
 | .none=>some .non
 | .bool b=>some (.bl b)
 | .int i _=>some (.int i)
 | .str x _=>some (.str x)
 | .bytes b _=>some (.byt b)
 | .float b _=>some (.flt b)
 | .ref a=>some (.ref a)
 | .type n=>some (.ty n)
 | _=>none
theorem RelV.abs {x:V} {u:Value} (r:RelV x u) : absV u = some x:=by
 cases x with
 | non=>cases r; rfl
 | bl _=>cases r; rfl
 | int _=>obtain ⟨t,rfl⟩:=r; rfl
 | str _=>obtain ⟨t,rfl⟩:=r; rfl
 | byt _=>obtain ⟨t,rfl⟩:=r; rfl
 | flt _=>obtain ⟨t,rfl⟩:=r; rfl
 | ref _=>cases r; rfl
 | ty _=>cases r; rfl
theorem RelV.inj {x y:V} {u:Value} (r:RelV x u) (q:RelV y u) : x = y:=Option.some.inj (r.abs.symm.trans q.abs)
theorem Vals.inj : ∀ {xs ys:List V} {us:List Value},Vals xs us → Vals ys us → xs = ys
 | _,_,_,.nil,.nil=>rfl
 | _,_,_,.cons r t,.cons r' t'=>by rw [r.inj r',Vals.inj t t']
section
variable {X:Cx} {pins:List (Addr × Obj)} {σ : St} {H:Hp} {s:Shared} {a:Addr} {xs ys:List V}
theorem SqL.of {K:PySem.W.Frag} (h:H a = some (.lst xs)) : SqL K H a xs:=.inl (.inl h)
theorem SqT.of {K:PySem.W.Frag} (h:H a = some (.tup xs)) : SqT K H a xs:=.inl (.inl h)
theorem Inv.list (I:Inv X pins σ H s) (h:SqL X.K H a xs) : ∃ its:List Value,Vals xs its ∧ PlainL s.heap a its.toArray ∧ xs.length ≤ sizeLine:=by
 rcases h with h | ⟨o,its,n,hk,hc,hd,hs,hz,r⟩
 ·obtain ⟨z,its,n,r,e⟩:=h.ok I.hok
  exact ⟨its,r,⟨_,n,e,rfl,rfl,rfl⟩,z⟩
 ·refine ⟨its.toList,r,⟨o,n,I.kIn a o hk,hc,hd,by simpa using hs⟩,?_⟩
  have e:=r.length
  simp only [Array.length_toList] at e
  omega
theorem Inv.tuple (I:Inv X pins σ H s) (h:SqT X.K H a xs) : ∃ its:List Value,Vals xs its ∧ IsTup s.heap a its.toArray ∧ xs.length ≤ sizeLine:=by
 rcases h with h | ⟨o,its,n,hk,hc,hs,hz,r⟩
 ·obtain ⟨z,its,r,p⟩:=h.ok I.hok
  exact ⟨its,r,p,z⟩
 ·refine ⟨its.toList,r,⟨o,I.kIn a o hk,hc,n,by simpa using hs⟩,?_⟩
  have e:=r.length
  simp only [Array.length_toList] at e
  omega
theorem Inv.list_inj (I:Inv X pins σ H s) (h:SqL X.K H a xs) (h':SqL X.K H a ys) : xs = ys:=by
 obtain ⟨its,r,⟨o,n,e,_,_,d⟩,_⟩:=I.list h
 obtain ⟨its',r',⟨o',n',e',_,_,d'⟩,_⟩:=I.list h'
 rw [e] at e'; cases e'
 rw [d] at d'
 injection d' with d1 _
 have:its = its':=by simpa using congrArg Array.toList d1
 subst this
 exact r.inj r'
theorem Inv.tuple_inj (I:Inv X pins σ H s) (h:SqT X.K H a xs) (h':SqT X.K H a ys) : xs = ys:=by
 obtain ⟨its,r,⟨o,e,_,n,d⟩,_⟩:=I.tuple h
 obtain ⟨its',r',⟨o',e',_,n',d'⟩,_⟩:=I.tuple h'
 rw [e] at e'; cases e'
 rw [d] at d'
 injection d' with d1 _
 have:its = its':=by simpa using congrArg Array.toList d1
 subst this
 exact r.inj r'
end
abbrev Cx.wish (X:Cx) (E:Value → Shared → Prop) : Cx:={ X with xe:=E }
abbrev Cx.nox (X:Cx) : Cx:=X.wish fun _ _=>False
theorem Cx.Ok.wish {X:Cx} (ok:X.Ok) (E:Value → Shared → Prop) : (X.wish E).Ok:=
 ⟨ok.mod,ok.kind,ok.glob,ok.blt,ok.above,ok.inj,ok.has,ok.cab,ok.hd,ok.frames,ok.stk,ok.exf,ok.bs,ok.bsz,ok.noex,ok.exfs,ok.funs,ok.frf⟩
theorem Cx.Ok.unwish {X:Cx} {E:Value → Shared → Prop} (ok:(X.wish E).Ok) : X.Ok:=
 ⟨ok.mod,ok.kind,ok.glob,ok.blt,ok.above,ok.inj,ok.has,ok.cab,ok.hd,ok.frames,ok.stk,ok.exf,ok.bs,ok.bsz,ok.noex,ok.exfs,ok.funs,ok.frf⟩
section
variable {X:Cx} {pins:List (Addr × Obj)} {σ : St} {H:Hp} {s:Shared} {E:Value → Shared → Prop}
theorem Inv.wish (I:Inv X pins σ H s) (E:Value → Shared → Prop) : Inv (X.wish E) pins σ H s:=⟨I.ok.wish E,I.os,I.bare,I.base,I.loc,I.cell,I.free,I.freeC,I.pin,I.hok,I.len⟩
theorem Inv.unwish (I:Inv (X.wish E) pins σ H s) : Inv X pins σ H s:=⟨I.ok.unwish,I.os,I.bare,I.base,I.loc,I.cell,I.free,I.freeC,I.pin,I.hok,I.len⟩
theorem SP.unwish {D:Ends} {f:Flow} {s':Shared} (h:SP (X.wish E) pins D f s') : SP X pins D f s':=by
 cases f with
 | next=>obtain ⟨σ',H',I,q⟩:=h; exact ⟨σ',H',I.unwish,q⟩
 | brk=>obtain ⟨σ',H',I,q⟩:=h; exact ⟨σ',H',I.unwish,q⟩
 | cont=>obtain ⟨σ',H',I,q⟩:=h; exact ⟨σ',H',I.unwish,q⟩
 | ret u=>obtain ⟨v,σ',H',I,r,q⟩:=h; exact ⟨v,σ',H',I.unwish,r,q⟩
theorem PSs.nox {st:List Stmt} {t:TS} (h:PSs X.nox st t) : PSs X st t:=fun pins s σ H D I hw=>
 wpAny_mono (h pins s σ H D (I.wish _) hw) (fun _ _ q=>q.unwish) fun _ _ z=>False.elim z
end
section
variable {X:Cx} {st:Stmt} {rest:List Stmt} {t u:TS} {e:Expr} {te:TE} {pos:Pos}
def tNext:TS:=fun D σ H=>D.nx σ H
def tSeq (t u:TS) : TS:=fun D σ H=>t { D with nx:=u D } σ H
theorem pss_nil:PSs X [] tNext:=fun _ _ σ H _ I h=>wpAny_execs_nil ⟨σ,H,I,h⟩
theorem pss_cons (h1:PS X st t) (h2:PSs X rest u) : PSs X (st :: rest) (tSeq t u):=by
 intro pins s σ H D I h
 refine wpAny_execs_cons (thn (h1 pins s σ H { D with nx:=u D } I h) fun f s1 q=>?_)
 cases f with
 | next=>
  obtain ⟨σ',H',I',q⟩:=q
  exact h2 pins s1 σ' H' D I' q
 | ret v=>exact q
 | brk=>exact q
 | cont=>exact q
theorem pss_one (h1:PS X st t) : PSs X [st] t:=by
 intro pins s σ H D I h
 refine wpAny_execs_cons (thn (h1 pins s σ H D I h) fun f s1 q=>?_)
 cases f with
 | next=>exact wpAny_execs_nil q
 | ret v=>exact q
 | brk=>exact q
 | cont=>exact q
theorem Inv.quiet {pins:List (Addr × Obj)} {σ : St} {H:Hp} {s:Shared} (I:Inv X pins σ H s) : interactive X.env = false:=by simp [interactive,I.ok.kind]
def tDrop (te:TE) : TS:=fun D σ H=>te σ H fun _ H1=>D.nx σ H1
theorem ps_expr (he:PE X e te) (hs:autoParam (swapsWith e none pos.line X.env = pure false) aP1) : PS X (.Expr e pos) (tDrop te):=by
 intro pins s σ H D I h
 exact wpAny_Expr_any (thn (he pins s σ H _ I h) fun v s1 ⟨x,H1,I1,r1,q1⟩=>⟨σ,H1,I1,q1⟩) I.quiet hs
def tRet (te:TE) : TS:=fun D σ H=>te σ H D.rt
theorem ps_ret (he:PE X e te) : PS X (.Return (some e) pos) (tRet te):=by
 intro pins s σ H D I h
 exact wpAny_Return_some (thn (he pins s σ H _ I h) fun v s1 ⟨x,H1,I1,r1,q1⟩=>⟨x,σ,H1,I1,r1,q1⟩)
def tIfS (c:TT) (t u:TS) : TS:=fun D σ H=>c σ H fun b H1=>if b = true then t D σ H1 else u D σ H1
theorem ps_if {c:Expr} {a b:List Stmt} {tc:TT} (hc:PT X c tc) (ha:PSs X a t) (hb:PSs X b u) : PS X (.If c a b pos) (tIfS tc t u):=by
 intro pins s σ H D I h
 refine wpAny_If (thn (hc pins s σ H _ I h) fun d s1 ⟨H1,I1,q1⟩=>?_)
 cases d with
 | true=>exact ha pins s1 σ H1 D I1 q1
 | false=>exact hb pins s1 σ H1 D I1 q1
def tNever:TS:=fun _ _ _=>False
theorem ps_never:PS X st tNever:=fun _ _ _ _ _ _ h=>h.elim
theorem pss_never {sts:List Stmt} : PSs X sts tNever:=fun _ _ _ _ _ _ h=>h.elim
end
abbrev TG:=V → St → Hp → (St → Hp → Prop) → Prop
abbrev TGs:=List V → St → Hp → (St → Hp → Prop) → Prop
def PG (X:Cx) (target:Expr) (t:TG) : Prop:=
 ∀ (pins:List (Addr × Obj)) (s:Shared) (σ : St) (H:Hp) (v:V) (u:Value) (Q:St → Hp → Prop),Inv X pins σ H s → RelV v u → t v σ H Q →
  wpAny (model X.prog X.w) X.A (assign target X.env u) (fun _ s'=>∃ σ' H',Inv X pins σ' H' s' ∧ Q σ' H') X.xe s
def PGs (X:Cx) (ts:List Expr) (t:TGs) : Prop:=
 ∀ (pins:List (Addr × Obj)) (s:Shared) (σ : St) (H:Hp) (vs:List V) (us:List Value) (Q:St → Hp → Prop),Inv X pins σ H s → Vals vs us → t vs σ H Q →
  wpAny (model X.prog X.w) X.A (assignInOrder ((assignEach ts X.env).map (·.2)) us) (fun _ s'=>∃ σ' H',Inv X pins σ' H' s' ∧ Q σ' H') X.xe s
abbrev TSet:=V → V → V → Hp → (Hp → Prop) → Prop
def PSet (X:Cx) (t:TSet) : Prop:=
 ∀ (pins:List (Addr × Obj)) (s:Shared) (σ : St) (H:Hp) (o i v:V) (ov iv u:Value) (Q:Hp → Prop),Inv X pins σ H s → RelV o ov → RelV i iv → RelV v u → t o i v H Q →
  wpAny (model X.prog X.w) X.A (setItem ov iv u) (fun _ s'=>∃ H',Inv X pins σ H' s' ∧ Q H') X.xe s
abbrev TIp:=V → V → Hp → VK → Prop
def PIp (X:Cx) (op:Operator) (t:TIp) : Prop:=
 ∀ (pins:List (Addr × Obj)) (s:Shared) (σ : St) (H:Hp) (x y:V) (v u:Value) (Q:VK),Inv X pins σ H s → RelV x v → RelV y u → t x y H Q →
  wpAny (model X.prog X.w) X.A (inplaceOp op v u) (EP X pins σ Q) X.xe s
section
variable {X:Cx} {pos:Pos}
def gName (i:Nat) : TG:=fun v σ H Q=>Q (σ.set i (some v)) H
theorem pg_name {i:Nat} {x:Str} (hN:X.N.Nodup) (hi:X.N[i]? = some x) (hx:Loc X.env.scope x) (hf:autoParam (X.fn x = true ∨ X.env.scope.names.lookup x = some .local) aP5) : PG X (.Name x pos) (gName i):=by
 intro pins s σ H v u Q I r h
 exact wpAny_assign_Name (store_ok I hN hi hx r (fun s' I'=>⟨_,H,I',h⟩) hf)
def gNil:TGs:=fun vs σ H Q=>vs = [] ∧ Q σ H
def gCons (t:TG) (u:TGs) : TGs:=fun vs σ H Q=>∃ v r,vs = v :: r ∧ t v σ H fun σ' H'=>u r σ' H' Q
theorem pgs_nil:PGs X [] gNil:=by
 intro pins s σ H vs us Q I r h
 obtain ⟨e,h⟩:=h
 subst e
 cases r
 exact assignInOrder_nil ⟨σ,H,I,h⟩
theorem pgs_cons {e:Expr} {es:List Expr} {t:TG} {u:TGs} (h1:PG X e t) (h2:PGs X es u)
  (hs:autoParam ((assignEach (e :: es) X.env).map (·.2) = assign e X.env :: (assignEach es X.env).map (·.2)) aP1) : PGs X (e :: es) (gCons t u):=by
 intro pins s σ H vs us Q I r h
 obtain ⟨v,vr,e1,h⟩:=h
 subst e1
 cases r with
 | cons r rr=>
  rw [hs]
  refine assignInOrder_cons (thn (h1 pins s σ H _ _ _ I r h) fun _ s1 ⟨σ1,H1,I1,q1⟩=>?_)
  exact h2 pins s1 σ1 H1 _ _ Q I1 rr q1
def gTup (K:PySem.W.Frag) (n:Nat) (t:TGs) : TG:=fun v σ H Q=>∃ a xs,v = .ref a ∧ SqT K H a xs ∧ xs.length = n ∧ t xs σ H Q
theorem pg_tup {es:List Expr} {k:Nat} {t:TGs} {n:Nat} (hc:X.calm = true) (h:PGs X es t)
  (hn:autoParam ((assignEach es X.env).length = n) aP1) (hst:autoParam ((assignEach es X.env).findIdx? (·.1) = none) aP1) : PG X (.Tuple es k pos) (gTup X.K n t):=by
 intro pins s σ H v u Q I r hw
 obtain ⟨a,xs,e1,hq,hl,hw⟩:=hw
 subst e1
 cases r
 obtain ⟨its,rv,ht,hz⟩:=I.tuple hq
 refine assign_Tuple_tuple (I.ok.hd hc) ht (by simp [hn,← hl,rv.length]) hst fun h' hx=>?_
 have I1:Inv X pins σ H { s with heap:=h' }:=I.kept (t':=s.toks) fun b o e=>hx b o (Nat.ne_of_lt (Heap.lt_size e)) e
 exact h pins _ σ H xs _ Q I1 (by simpa using rv) hw
def gSub (to ti:TE) (t:TSet) : TG:=fun v σ H Q=>to σ H fun o H1=>ti σ H1 fun i H2=>t o i v H2 fun H3=>Q σ H3
theorem pg_sub {o i:Expr} {to ti:TE} {t:TSet} (ho:PE X o to) (hi:PE X i ti) (hs:PSet X t)
  (ha:autoParam (∀ v,assign (.Subscript o i pos) X.env v = (do
   let ov ← holding [v] (eval o X.env)
   let iv ← holding [v,ov] (eval i X.env)
   standAt pos
   holding [v,ov,iv] (setItem ov iv v)
   release [v,ov,iv] [])) aP3) : PG X (.Subscript o i pos) (gSub to ti t):=by
 intro pins s σ H v u Q I r h
 rw [ha]
 refine wpAny_bind (wpAny_holding (thn (ho pins s σ H _ I h) fun ov s1 ⟨x,H1,I1,r1,q1⟩=>?_))
 refine wpAny_bind (wpAny_holding (thn (hi pins s1 σ H1 _ I1 q1) fun iv s2 ⟨y,H2,I2,r2,q2⟩=>?_))
 refine wpAny_bind (wpAny_standAt (wpAny_bind (wpAny_holding (thn (hs pins s2 σ H2 x y v ov iv u _ I2 r1 r2 r q2) fun _ s3 ⟨H3,I3,q3⟩=>?_))))
 exact wpAny_release ⟨σ,H3,I3,q3⟩
def tAsg (te:TE) (g:TG) : TS:=fun D σ H=>te σ H fun x H1=>g x σ H1 D.nx
theorem ps_asg {tg e:Expr} {te:TE} {g:TG} (he:PE X e te) (hg:PG X tg g) (hs:autoParam (swapsWithSole [tg] e pos.line X.env = pure false) aP1) (hw:autoParam (swappedStores [tg] e X.env = pure none) aP1)
  (h1:autoParam ((assignEach [tg] X.env).map (·.2) = [assign tg X.env]) aP1) : PS X (.Assign [tg] e pos) (tAsg te g):=by
 intro pins s σ H D I h
 refine wpAny_Assign_stores (thn (he pins s σ H _ I h) fun v s1 ⟨x,H1,I1,r1,q1⟩=>?_) hs hw
 rw [h1]
 exact thn (hg pins s1 σ H1 x v _ I1 r1 q1) fun _ s2 q=>q
theorem ps_set {i:Nat} {x:Str} {e:Expr} {te:TE} {pos':Pos} (hN:X.N.Nodup) (hi:X.N[i]? = some x) (hx:Loc X.env.scope x) (he:PE X e te) (hs:autoParam (swapsWith e (some (.Name x pos')) pos.line X.env = pure false) aP1) (hf:autoParam (X.fn x = true ∨ X.env.scope.names.lookup x = some .local) aP5) :
  PS X (.Assign [.Name x pos'] e pos) (tAsg te (gName i)):=by
 intro pins s σ H D I h
 refine wpAny_Assign_Name (thn (he pins s σ H _ I h) fun v s1 ⟨y,H1,I1,r1,q1⟩=>?_) hs
 exact store_ok I1 hN hi hx r1 (fun s2 I2=>⟨_,H1,I2,q1⟩) hf
def tAugS (to ti te:TE) (tget:V → V → Hp → VK → Prop) (tip:TIp) (tset:TSet) : TS:=fun D σ H=>to σ H fun o H1=>ti σ H1 fun i H2=>tget o i H2 fun x H3=>te σ H3 fun y H4=>tip x y H4 fun z H5=>tset o i z H5 fun H6=>D.nx σ H6
def PGet (X:Cx) (t:V → V → Hp → VK → Prop) : Prop:=
 ∀ (pins:List (Addr × Obj)) (s:Shared) (σ : St) (H:Hp) (o i:V) (ov iv:Value) (Q:VK),Inv X pins σ H s → RelV o ov → RelV i iv → t o i H Q →
  wpAny (model X.prog X.w) X.A (getItem ov iv) (EP X pins σ Q) X.xe s
theorem ps_augS {o i e:Expr} {to ti te:TE} {tget:V → V → Hp → VK → Prop} {tip:TIp} {tset:TSet} {op:Operator} {tpos:Pos} (ho:PE X o to) (hi:PE X i ti) (hg:PGet X tget) (he:PE X e te) (hp:PIp X op tip) (hs:PSet X tset)
  (ha : ∀ ov iv new,augStore i ov iv new = (do holding [new,ov,iv] (setItem ov iv new); release [new,ov,iv] []; pure .next):=by intros; rfl) : PS X (.AugAssign (.Subscript o i tpos) op e pos) (tAugS to ti te tget tip tset):=by
 intro pins s σ H D I h
 refine wpAny_AugAssign_SubscriptAny (thn (ho pins s σ H _ I h) fun ov s1 ⟨x1,H1,I1,r1,q1⟩=>?_) ha
 refine thn (hi pins s1 σ H1 _ I1 q1) fun iv s2 ⟨x2,H2,I2,r2,q2⟩=>?_
 refine thn (hg pins s2 σ H2 x1 x2 ov iv _ I2 r1 r2 q2) fun old s3 ⟨x3,H3,I3,r3,q3⟩=>?_
 refine thn (he pins s3 σ H3 _ I3 q3) fun v s4 ⟨x4,H4,I4,r4,q4⟩=>?_
 refine thn (hp pins s4 σ H4 x3 x4 old v _ I4 r3 r4 q4) fun new s5 ⟨x5,H5,I5,r5,q5⟩=>?_
 exact thn (hs pins s5 σ H5 x1 x2 x5 ov iv new _ I5 r1 r2 r5 q5) fun _ s6 ⟨H6,I6,q6⟩=>⟨σ,H6,I6,q6⟩
def ipI (f:Int → Int → Int) : TIp:=fun x y H Q=>∃ i j,x = .int i ∧ y = .int j ∧ Q (.int (f i j)) H
theorem ip_add:PIp X .Add (ipI fun i j=>i + j):=by
 intro pins s σ H x y v u Q I r1 r2 h
 obtain ⟨i,j,e1,e2,q⟩:=h
 subst e1; subst e2
 obtain ⟨t,rfl⟩:=r1
 obtain ⟨t',rfl⟩:=r2
 exact iadd_int ⟨.int _,H,I.tok _,⟨_,rfl⟩,q⟩
theorem ip_sub:PIp X .Sub (ipI fun i j=>i - j):=by
 intro pins s σ H x y v u Q I r1 r2 h
 obtain ⟨i,j,e1,e2,q⟩:=h
 subst e1; subst e2
 obtain ⟨t,rfl⟩:=r1
 obtain ⟨t',rfl⟩:=r2
 exact isub_int ⟨.int _,H,I.tok _,⟨_,rfl⟩,q⟩
end
section
variable {X:Cx} {pos:Pos}
def tWhile (c:TT) (tb:TS) : TS:=fun D σ H=>∃ W:Nat → St → Hp → Prop,(∃ m,W m σ H) ∧ ∀ m σ H,W m σ H →
 c σ H fun b H1=>if b = true then ∃ N:St → Hp → Prop,(∀ σ' H',N σ' H' → ∃ m',m' < m ∧ W m' σ' H') ∧ tb { D with nx:=N,ct:=N,bk:=D.nx } σ H1 else D.nx σ H1
theorem ps_while {c:Expr} {body:List Stmt} {tc:TT} {tb:TS} (hp:PassesOwn (model X.prog X.w) X.A X.env X.xe) (hc:PT X c tc) (hb:PSs X body tb) : PS X (.While c body [] pos) (tWhile tc tb):=by
 intro pins s σ H D I h
 obtain ⟨W,⟨m0,w0⟩,turn⟩:=h
 refine wpAny_While (codeAny_whileLoop (fun n s'=>∃ σ' H',Inv X pins σ' H' s' ∧ W n σ' H') ?_ m0 ⟨σ,H,I,w0⟩)
 rintro n s1 ⟨σ1,H1,I1,w1⟩
 refine wpAny_passesOwn hp (thn (hc pins s1 σ1 H1 _ I1 (turn n σ1 H1 w1)) fun b s2 ⟨H2,I2,q2⟩=>?_)
 cases b with
 | true=>
  obtain ⟨N,hN,q2⟩:=q2
  rw [if_pos rfl]
  refine wpAny_passesOwn hp (thn (hb pins s2 σ1 H2 _ I2 q2) fun f s3 q3=>?_)
  cases f with
  | next=>
   obtain ⟨σ3,H3,I3,n3⟩:=q3
   obtain ⟨m',hm,w3⟩:=hN σ3 H3 n3
   exact ⟨m',hm,σ3,H3,I3,w3⟩
  | cont=>
   obtain ⟨σ3,H3,I3,n3⟩:=q3
   obtain ⟨m',hm,w3⟩:=hN σ3 H3 n3
   exact ⟨m',hm,σ3,H3,I3,w3⟩
  | brk=>exact q3
  | ret v=>exact q3
 | false=>
  rw [if_neg Bool.false_ne_true]
  exact wpAny_execs_nil ⟨σ1,H2,I2,q2⟩
end
structure It where
 go:Nat → Hp → Prop
 yld:Nat → Hp → V → Hp → Prop
 stop:Nat → Hp → Prop
def FpOk (X:Cx) (pins:List (Addr × Obj)) (H:Hp) (b:Addr) : Prop:=
 H b = none ∧ b ≠ X.env.locals ∧ b ∉ X.fs ∧ (b ∈ X.ex ∨ X.s₀.heap.objs.size ≤ b) ∧ (∀ x c,X.env.cells.lookup x = some c → c ≠ b) ∧ ∀ p ∈ X.pn ++ pins,p.1 ≠ b
theorem Inv.fpOk {X:Cx} {pins:List (Addr × Obj)} {σ : St} {H H':Hp} {s:Shared} {b:Addr} (I:Inv X pins σ H s) (hb:s.heap.objs.size ≤ b) (hn:H' b = none) : FpOk X pins H' b:=by
 refine ⟨hn,Nat.ne_of_gt (Nat.lt_of_lt_of_le I.lt hb),I.nofs hb,.inr (Nat.le_trans I.sz hb),fun x c e z=>?_,fun p hp z=>?_⟩
 ·obtain ⟨v,q⟩:=I.cell x c e
  exact absurd (Nat.lt_of_lt_of_le q.lt (by rw [z]; exact hb)) (Nat.lt_irrefl _)
 ·exact absurd (Nat.lt_of_lt_of_le (Heap.lt_size (I.pin p hp).1) (by rw [z]; exact hb)) (Nat.lt_irrefl _)
structure Turn (P:Program) (w:World) (K:PySem.W.Frag) (tg:Expr) (J:It) (fp:List Addr) (it:Addr) (tn:Nat → Heap → Prop) : Prop where
 mem:it ∈ fp
 obj : ∀ i h,tn i h → ∀ b ∈ fp,∃ o,h.get? b = some o ∧ ∀ v,o.data ≠ .cell v
 keep : ∀ i h h',tn i h → (∀ b ∈ fp,∀ o,h.get? b = some o → h'.get? b = some o) → tn i h'
 item : ∀ (X:Cx),X.prog = P → X.w = w → X.K = K → X.calm = true → ∀ (i:Nat) (pins:List (Addr × Obj)) (s:Shared) (σ : St) (H:Hp) (E:Value → Shared → Prop),Inv X pins σ H s → (∀ b ∈ fp,FpOk X pins H b) → tn i s.heap → J.go i H →
  wpAny (model P w) X.A (pyNext (.ref it)) (fun r s1=>∃ u,r = some u ∧
   wpAny (model P w) X.A (letOwnedTupleGo tg (.ref it) u) (fun _ s2=>∃ x H',Inv X pins σ H' s2 ∧ RelV x u ∧ J.yld i H x H' ∧ tn (i + 1) s2.heap ∧ ∀ b ∈ fp,H' b = none) E s1) E s
 done : ∀ (X:Cx),X.prog = P → X.w = w → X.K = K → X.calm = true → ∀ (i:Nat) (pins:List (Addr × Obj)) (s:Shared) (σ : St) (H:Hp) (E:Value → Shared → Prop),Inv X pins σ H s → (∀ b ∈ fp,FpOk X pins H b) → tn i s.heap → J.stop i H →
  wpAny (model P w) X.A (pyNext (.ref it)) (fun r s1=>r = none ∧ Inv X pins σ H s1) E s
 self : ∀ (A:Around) (i:Nat) (s:Shared) (Q:Value → Shared → Prop) (E:Value → Shared → Prop),tn i s.heap → Q (.ref it) s → wpAny (model P w) A (pyIter (.ref it)) Q E s
abbrev TI:=St → Hp → (It → Hp → Prop) → Prop
def PIE (X:Cx) (pins:List (Addr × Obj)) (σ : St) (tg:Expr) (R:It → Hp → Prop) (itv:Value) (s2:Shared) : Prop:=
 ∃ (it:Addr) (fp:List Addr) (tn:Nat → Heap → Prop) (J:It) (H':Hp),itv = .ref it ∧ Inv X pins σ H' s2 ∧ Turn X.prog X.w X.K tg J fp it tn ∧ tn 0 s2.heap ∧ (∀ b ∈ fp,FpOk X pins H' b) ∧ R J H'
def PI (X:Cx) (tg iter:Expr) (wi:TI) : Prop:=
 ∀ (pins:List (Addr × Obj)) (s:Shared) (σ : St) (H:Hp) (R:It → Hp → Prop),Inv X pins σ H s → wi σ H R →
  wpAny (model X.prog X.w) X.A (eval iter X.env) (fun v s1=>wpAny (model X.prog X.w) X.A (pyIter v) (PIE X pins σ tg R) X.xe s1) X.xe s
theorem go_of {M:Model} {A:Around} {E:Value → Shared → Prop} {s:Shared} {tg:Expr} {it:Addr} {u:Value} {o:Obj} {n:String} {vs:Array Value} {Q:Unit → Shared → Prop} (ho:s.heap.get? it = some o) (hc:o.cls = .type n) (hd:o.data = .fields vs)
    (hn : ["enumerate","zip","dict_itemiterator","dict_reverseitemiterator","odict_iterator","itertools.zip_longest","itertools.pairwise"].contains n = false) (hQ:Q () s) : wpAny M A (letOwnedTupleGo tg (.ref it) u) Q E s:=by
  unfold letOwnedTupleGo
  cases tg <;> first
    | exact wpAny_pure hQ
    | (cases u <;> first
        | exact wpAny_pure hQ
        | (refine wpAny_bind (wpAny_load ho ?_)
           rw [hc,hd]
           show wpAny M A (if (["enumerate","zip","dict_itemiterator","dict_reverseitemiterator","odict_iterator","itertools.zip_longest","itertools.pairwise"].contains n && vs[0]? == some (rawInt _)) = true then _ else _) Q E s
           rw [if_neg (by intro h; rw [hn,Bool.false_and] at h; cases h)]
           exact wpAny_pure hQ))
def Itl (K:PySem.W.Frag) (a:Addr) : It:=
 ⟨fun i H=>∃ xs x,SqL K H a xs ∧ xs[i]? = some x,fun i H x H'=>H' = H ∧ ∀ xs,SqL K H a xs → xs[i]? = some x,fun i H=>∃ xs,SqL K H a xs ∧ xs.length ≤ i⟩
def Itt (K:PySem.W.Frag) (a:Addr) : It:=
 ⟨fun i H=>∃ xs x,SqT K H a xs ∧ xs[i]? = some x,fun i H x H'=>H' = H ∧ ∀ xs,SqT K H a xs → xs[i]? = some x,fun i H=>∃ xs,SqT K H a xs ∧ xs.length ≤ i⟩
def Itr (lo:Int) (n:Nat) : It:=⟨fun i _=>i < n,fun i H x H'=>H' = H ∧ x = .int (lo + i),fun i _=>n ≤ i⟩
theorem turn_list {P:Program} {w:World} {K:PySem.W.Frag} {tg:Expr} (a it:Addr) : Turn P w K tg (Itl K a) [it] it (fun i h=>h.IsListIter it a i) where
 mem:=by simp
 obj:=fun i h st b hb=>by
  have e:b = it:=by simpa using hb
  subst e
  obtain ⟨o,e,c,d⟩:=st
  exact ⟨o,e,fun v z=>by rw [d] at z; cases z⟩
 keep:=fun i h h' st k=>st.at fun o e=>k it (by simp) o e
 item:=by
  intro X hP hw hK hc i pins s σ H E I hf st hg
  subst hP hw hK
  obtain ⟨xs,x,hq,hx⟩:=hg
  obtain ⟨its,rv,p,hz⟩:=I.list hq
  obtain ⟨u,hu,ru⟩:=rv.get hx
  obtain ⟨f0,f1,f2,f3,f4,f5⟩:=hf it (by simp)
  refine wpAny_pyNext_list_item st p.isList (x:=u) (by simpa using hu) fun h' st' sb=>?_
  have I1:Inv X pins σ H { s with heap:=h' }:=I.turned (t':=s.toks) (fun b o hb e=>(sb.2 b hb).trans e) f0 f1 f3 f4 f5
  obtain ⟨o,e,c,d⟩:=id st'
  exact ⟨u,rfl,go_of (s:={ s with heap:=h' }) e c d (by decide) ⟨x,H,I1,ru,⟨rfl,fun ys hy=>by rw [I.list_inj hy hq]; exact hx⟩,st',fun b hb=>(hf b hb).1⟩⟩
 done:=by
  intro X hP hw hK hc i pins s σ H E I hf st hg
  subst hP hw hK
  obtain ⟨xs,hq,hx⟩:=hg
  obtain ⟨its,rv,p,hz⟩:=I.list hq
  obtain ⟨f0,f1,f2,f3,f4,f5⟩:=hf it (by simp)
  have hl:=rv.length
  exact wpAny_pyNext_list_end (I.ok.hd hc) st p.isList (by simp; omega) fun h' eb=>⟨rfl,I.turned (t':=s.toks) (fun b o hb e=>eb b o hb e) f0 f1 f3 f4 f5⟩
 self:=fun _ _ _ _ _ st h=>wpAny_pyIter_listiter st h
theorem turn_tuple {P:Program} {w:World} {K:PySem.W.Frag} {tg:Expr} (a it:Addr) : Turn P w K tg (Itt K a) [it] it (fun i h=>h.IsTupleIter it a i) where
 mem:=by simp
 obj:=fun i h st b hb=>by
  have e:b = it:=by simpa using hb
  subst e
  obtain ⟨o,e,c,d⟩:=st
  exact ⟨o,e,fun v z=>by rw [d] at z; cases z⟩
 keep:=fun i h h' st k=>st.at fun o e=>k it (by simp) o e
 item:=by
  intro X hP hw hK hc i pins s σ H E I hf st hg
  subst hP hw hK
  obtain ⟨xs,x,hq,hx⟩:=hg
  obtain ⟨its,rv,p,hz⟩:=I.tuple hq
  obtain ⟨u,hu,ru⟩:=rv.get hx
  obtain ⟨f0,f1,f2,f3,f4,f5⟩:=hf it (by simp)
  refine wpAny_pyNext_tuple_item st (show s.heap.IsTuple a its.toArray from p) (x:=u) (by simpa using hu) fun h' st' sb=>?_
  have I1:Inv X pins σ H { s with heap:=h' }:=I.turned (t':=s.toks) (fun b o hb e=>(sb.2 b hb).trans e) f0 f1 f3 f4 f5
  obtain ⟨o,e,c,d⟩:=id st'
  exact ⟨u,rfl,go_of (s:={ s with heap:=h' }) e c d (by decide) ⟨x,H,I1,ru,⟨rfl,fun ys hy=>by rw [I.tuple_inj hy hq]; exact hx⟩,st',fun b hb=>(hf b hb).1⟩⟩
 done:=by
  intro X hP hw hK hc i pins s σ H E I hf st hg
  subst hP hw hK
  obtain ⟨xs,hq,hx⟩:=hg
  obtain ⟨its,rv,p,hz⟩:=I.tuple hq
  obtain ⟨f0,f1,f2,f3,f4,f5⟩:=hf it (by simp)
  have hl:=rv.length
  exact wpAny_pyNext_tuple_end (I.ok.hd hc) st (show s.heap.IsTuple a its.toArray from p) (by simp; omega) fun h' eb=>⟨rfl,I.turned (t':=s.toks) (fun b o hb e=>eb b o hb e) f0 f1 f3 f4 f5⟩
 self:=fun _ _ _ _ _ st h=>wpAny_pyIter_tupleiter st h
theorem turn_range {P:Program} {w:World} {K:PySem.W.Frag} {tg:Expr} (it:Addr) (lo:Int) (n:Nat) : Turn P w K tg (Itr lo n) [it] it (fun i h=>IsRangeIter h it (lo + (i:Nat) * 1) ((n:Int) - (i:Nat)) 1) where
 mem:=by simp
 obj := fun i h st b hb=>by
  have e:b = it:=by simpa using hb
  subst e
  exact ⟨_,st,fun v z=>by
   have z':Data.fields _ = Data.cell v:=z
   cases z'⟩
 keep:=fun i h h' st k=>k it (by simp) _ st
 item:=by
  intro X hP hw hK hc i pins s σ H E I hf st hg
  subst hP hw hK
  obtain ⟨f0,f1,f2,f3,f4,f5⟩:=hf it (by simp)
  have W:=Walks.range (prog:=X.prog) (w:=X.w) (I.ok.hd hc) it lo 1 n
  refine W.item i s _ _ hg st fun v h' tk hv st' kk=>?_
  obtain ⟨t,rfl⟩:=hv
  have I1:Inv X pins σ H { s with heap:=h',toks:=tk }:=I.turned (fun b o hb e=>kk b o (by simpa using hb) e) f0 f1 f3 f4 f5
  refine ⟨_,rfl,go_of (s:={ s with heap:=h',toks:=tk }) (n := "range_iterator") st' rfl rfl (by decide) ⟨.int (lo + i),H,I1,⟨t,?_⟩,⟨rfl,rfl⟩,st',fun b hb=>(hf b hb).1⟩⟩
  rw [Int.mul_one]
 done:=by
  intro X hP hw hK hc i pins s σ H E I hf st hg
  subst hP hw hK
  obtain ⟨f0,f1,f2,f3,f4,f5⟩:=hf it (by simp)
  exact wpAny_pyNext_range_end (I.ok.hd hc) st (by have:n ≤ i:=hg; omega) fun h' eb=>⟨rfl,I.turned (t':=s.toks) (fun b o hb e=>eb b o hb e) f0 f1 f3 f4 f5⟩
 self:=fun _ _ _ _ _ st h=>wpAny_pyIter_rangeiter st h
end L2
namespace L2
open PySem PySem.Spec PyProof.Rows
section
variable {X:Cx} {tg:Expr}
def iList (K:PySem.W.Frag) (tl:TE) : TI:=fun σ H R=>tl σ H fun x H1=>∃ a,x = .ref a ∧ (∃ xs,SqL K H1 a xs) ∧ R (Itl K a) H1
def iTup (K:PySem.W.Frag) (tl:TE) : TI:=fun σ H R=>tl σ H fun x H1=>∃ a,x = .ref a ∧ (∃ xs,SqT K H1 a xs) ∧ R (Itt K a) H1
theorem pi_list {l:Expr} {tl:TE} (hl:PE X l tl) : PI X tg l (iList X.K tl):=by
 intro pins s σ H R I h
 refine thn (hl pins s σ H _ I h) fun v s1 ⟨x,H1,I1,r1,q1⟩=>?_
 obtain ⟨a,e,⟨xs,hq⟩,q⟩:=q1
 subst e
 cases r1
 obtain ⟨its,rv,p,hz⟩:=I1.list hq
 refine wpAny_pyIter_list p.isList ?_
 refine ⟨s1.heap.objs.size,[s1.heap.objs.size],_,_,H1,rfl,I1.kept (t':=s1.toks) fun b o e=>Heap.get?_push_of_some _ e,turn_list a _,⟨_,Heap.get?_push_size _ rfl,rfl,rfl⟩,fun b hb=>?_,q⟩
 have e:b = s1.heap.objs.size:=by simpa using hb
 subst e
 exact I1.fpOk (Nat.le_refl _) (I1.hok.fresh (Nat.le_refl _))
theorem pi_tup {l:Expr} {tl:TE} (hl:PE X l tl) : PI X tg l (iTup X.K tl):=by
 intro pins s σ H R I h
 refine thn (hl pins s σ H _ I h) fun v s1 ⟨x,H1,I1,r1,q1⟩=>?_
 obtain ⟨a,e,⟨xs,hq⟩,q⟩:=q1
 subst e
 cases r1
 obtain ⟨its,rv,p,hz⟩:=I1.tuple hq
 refine wpAny_pyIter_tuple (show s1.heap.IsTuple a its.toArray from p) ?_
 refine ⟨s1.heap.objs.size,[s1.heap.objs.size],_,_,H1,rfl,I1.kept (t':=s1.toks) fun b o e=>Heap.get?_push_of_some _ e,turn_tuple a _,⟨_,Heap.get?_push_size _ rfl,rfl,rfl⟩,fun b hb=>?_,q⟩
 have e:b = s1.heap.objs.size:=by simpa using hb
 subst e
 exact I1.fpOk (Nat.le_refl _) (I1.hok.fresh (Nat.le_refl _))
theorem range_it {pins:List (Addr × Obj)} {σ : St} {H:Hp} {s:Shared} {R:It → Hp → Prop} {E:Value → Shared → Prop} {lo hi:Int} {t u v:Tok} {tk:Nat} (I:Inv X pins σ H s) (h1 : -(2 ^ 62) ≤ lo) (h2:lo < 2 ^ 62) (h3 : -(2 ^ 62) ≤ hi) (h4:hi < 2 ^ 62)
  (q:R (Itr lo (hi - lo).toNat) H) : wpAny (model X.prog X.w) X.A (pyIter (.ref s.heap.objs.size)) (PIE X pins σ tg R) E { s with heap:=s.heap.push { cls:=.type "range",data:=.fields #[.int lo t,.int hi u,.int 1 v] },toks:=tk }:=by
 refine wpAny_pyIter_range (IsRange.new ..) (small_one h1 h2 h3 h4) ?_
 have I1:Inv X pins σ H { s with heap:=s.heap.push { cls:=.type "range",data:=.fields #[.int lo t,.int hi u,.int 1 v] },toks:=tk }:=I.kept fun b o e=>Heap.get?_push_of_some _ e
 refine ⟨(s.heap.push { cls:=.type "range",data:=.fields #[.int lo t,.int hi u,.int 1 v] }).objs.size,[(s.heap.push { cls:=.type "range",data:=.fields #[.int lo t,.int hi u,.int 1 v] }).objs.size],_,_,H,rfl,
  I1.kept (t':=tk) fun b o e=>Heap.get?_push_of_some _ e,turn_range _ lo (hi - lo).toNat,?_,fun b hb=>?_,q⟩
 ·have e1:lo + ((0:Nat) : Int) * 1 = lo:=by simp
  have e2:(((hi - lo).toNat:Nat) : Int) - ((0:Nat) : Int) = Builtin.Range.rangeSize lo hi 1:=by rw [rangeSize_one]; split <;> omega
  show IsRangeIter _ _ (lo + ((0:Nat) : Int) * 1) ((((hi - lo).toNat:Nat) : Int) - ((0:Nat) : Int)) 1
  rw [e1,e2]
  exact Heap.get?_push_size _ rfl
 ·have e:b = (s.heap.push { cls:=.type "range",data:=.fields #[.int lo t,.int hi u,.int 1 v] }).objs.size:=by simpa using hb
  subst e
  exact I1.fpOk (Nat.le_refl _) (I1.hok.fresh (Nat.le_refl _))
def iRng1 (ta:TA) : TI:=fun σ H R=>ta σ H fun vs H1=>∃ j:Int,vs = [.int j] ∧ -(2 ^ 62) ≤ j ∧ j < 2 ^ 62 ∧ R (Itr 0 j.toNat) H1
theorem pi_range1 {a:Expr} {ta:TA} {p pos:Pos} (hg:Gl X "range") (hm:X.mg "range" = none) (ha:PA X [a] ta) (hs:autoParam (starEach [a] X.env = [(false,eval a X.env)]) aP1) : PI X tg (.Call (.Name "range" p) [a] [] pos) (iRng1 ta):=by
 intro pins s σ H R I h
 refine Call_ (ld_blt I hg hm boot_range (PyProof.Rows.callWith_type1 (thn (ha pos pins s σ H _ I h) fun us s1 ⟨vs,H1,I1,r1,q1⟩=>?_) hs rfl))
 obtain ⟨j,e,q1,q2,q⟩:=q1
 subst e
 cases r1 with
 | cons r rr=>
  cases rr
  obtain ⟨t,rfl⟩:=r
  exact call_range_1 (range_it I1 (by omega) (by omega) q1 q2 (by simpa using q))
def tFor (wi:TI) (g:TG) (tb:TS) : TS:=fun D σ H=>wi σ H fun J H1=>∃ W:Nat → Nat → St → Hp → Prop,(∃ m,W 0 m σ H1) ∧ ∀ i m σ H,W i m σ H →
 (J.stop i H ∧ D.nx σ H) ∨ (J.go i H ∧ ∃ N:St → Hp → Prop,(∀ σ' H',N σ' H' → ∃ m',m' < m ∧ W (i + 1) m' σ' H') ∧ ∀ x H',J.yld i H x H' → g x σ H' fun σ2 H2=>tb { D with nx:=N,ct:=N,bk:=D.nx } σ2 H2)
def pinsAt (fp:List Addr) (h:Heap) : List (Addr × Obj):=fp.filterMap fun b=>(h.get? b).map fun o=>(b,o)
theorem mem_pinsAt {fp:List Addr} {h:Heap} {b:Addr} {o:Obj} (hb:b ∈ fp) (e:h.get? b = some o) : (b,o) ∈ pinsAt fp h:=List.mem_filterMap.mpr ⟨b,hb,by rw [e]; rfl⟩
theorem of_pinsAt {fp:List Addr} {h:Heap} {p:Addr × Obj} (hp:p ∈ pinsAt fp h) : p.1 ∈ fp ∧ h.get? p.1 = some p.2:=by
 obtain ⟨b,hb,e⟩:=List.mem_filterMap.mp hp
 cases q:h.get? b with
 | none=>rw [q] at e; cases e
 | some o=>
  rw [q] at e
  have e':(b,o) = p:=Option.some.inj e
  subst e'
  exact ⟨hb,q⟩
theorem Inv.pinned {pins:List (Addr × Obj)} {σ : St} {H:Hp} {s:Shared} {fp:List Addr} (I:Inv X pins σ H s) (hf : ∀ b ∈ fp,FpOk X pins H b) (ho : ∀ b ∈ fp,∃ o,s.heap.get? b = some o ∧ ∀ v,o.data ≠ .cell v) : Inv X (pins ++ pinsAt fp s.heap) σ H s:=
 I.pins_of fun p hp=>(List.mem_append.mp hp).elim (fun z=>I.pin p (List.mem_append_right _ z)) fun z=>by
  obtain ⟨hb,e⟩:=of_pinsAt z
  obtain ⟨f0,f1,f2,_⟩:=hf p.1 hb
  obtain ⟨o,e',d⟩:=ho p.1 hb
  rw [e] at e'; cases e'
  exact ⟨e,f0,f1,f2,d⟩
theorem Inv.unpinned {pins pl:List (Addr × Obj)} {σ : St} {H:Hp} {s:Shared} (I:Inv X (pins ++ pl) σ H s) : Inv X pins σ H s:=I.pins_of fun p hp=>I.pin p (List.mem_append_right _ (List.mem_append_left _ hp))
theorem ps_for {iter:Expr} {body:List Stmt} {wi:TI} {g:TG} {tb:TS} {pos:Pos} (hp:PassesOwn (model X.prog X.w) X.A X.env X.xe) (hc:X.calm = true) (hi:PI X tg iter wi) (hg:PG X tg g) (hb:PSs X body tb)
  (hs:autoParam (∀ x,foldedSetIterable iter X.env x = pure x) aP3) : PS X (.For tg iter body [] pos) (tFor wi g tb):=by
 intro pins s σ H D I h
 refine wpAny_For (thn (hi pins s σ H _ I h) fun v s1 h1=>thn h1 fun itv s2 h2=>?_) hs
 obtain ⟨it,fp,tn,J,H2,e,I2,T,st2,f2,W,⟨m0,w0⟩,turn⟩:=h2
 subst e
 have stat : ∀ {H':Hp},(∀ b ∈ fp,H' b = none) → ∀ b ∈ fp,FpOk X pins H' b:=fun hn b hb=>⟨hn b hb,(f2 b hb).2⟩
 refine codeAny_forLoop_any (fun n s'=>∃ i σ' H',Inv X pins σ' H' s' ∧ tn i s'.heap ∧ (∀ b ∈ fp,H' b = none) ∧ W i n σ' H') ?_ m0 ⟨0,σ,H2,I2,st2,fun b hb=>(f2 b hb).1,w0⟩
 rintro n s3 ⟨i,σ3,H3,I3,st3,fr3,w3⟩
 rcases turn i n σ3 H3 w3 with ⟨stop,qn⟩ | ⟨go,N,hN,step⟩
 ·refine wpAny_passesOwn hp (thn (T.done X rfl rfl rfl hc i pins s3 σ3 H3 X.xe I3 (stat fr3) st3 stop) fun r s4 ⟨hr,I4⟩=>?_)
  subst hr
  exact wpAny_execs_nil ⟨σ3,H3,I4,qn⟩
 ·refine wpAny_passesOwn hp (thn (T.item X rfl rfl rfl hc i pins s3 σ3 H3 X.xe I3 (stat fr3) st3 go) fun r s4 ⟨u,hr,h4⟩=>?_)
  subst hr
  refine wpAny_passesOwn hp (thn h4 fun _ s5 ⟨x,H5,I5,r5,y5,st5,fr5⟩=>?_)
  have I5':=I5.pinned (stat fr5) (T.obj _ _ st5)
  refine wpAny_passesOwn hp (thn (hg _ s5 σ3 H5 x u _ I5' r5 (step x H5 y5)) fun _ s6 ⟨σ6,H6,I6,q6⟩=>?_)
  refine wpAny_passesOwn hp (thn (hb _ s6 σ6 H6 _ I6 q6) fun f s7 q7=>?_)
  have again : ∀ {σ7:St} {H7:Hp},Inv X (pins ++ pinsAt fp s5.heap) σ7 H7 s7 → N σ7 H7 → ∃ m,m < n ∧ ∃ i σ' H',Inv X pins σ' H' s7 ∧ tn i s7.heap ∧ (∀ b ∈ fp,H' b = none) ∧ W i m σ' H':=fun {σ7 H7} I7 n7=>by
   obtain ⟨m',hm,w7⟩:=hN σ7 H7 n7
   refine ⟨m',hm,i + 1,σ7,H7,I7.unpinned,T.keep _ _ _ st5 fun b hb o e=>(I7.pin (b,o) (List.mem_append_right _ (List.mem_append_right _ (mem_pinsAt hb e)))).1,fun b hb=>?_,w7⟩
   obtain ⟨o,e,d⟩:=T.obj _ _ st5 b hb
   exact (I7.pin (b,o) (List.mem_append_right _ (List.mem_append_right _ (mem_pinsAt hb e)))).2.1
  cases f with
  | next=>obtain ⟨σ7,H7,I7,n7⟩:=q7; exact again I7 n7
  | cont=>obtain ⟨σ7,H7,I7,n7⟩:=q7; exact again I7 n7
  | brk=>obtain ⟨σ7,H7,I7,q7⟩:=q7; exact ⟨σ7,H7,I7.unpinned,q7⟩
  | ret v=>obtain ⟨x7,σ7,H7,I7,r7,q7⟩:=q7; exact ⟨x7,σ7,H7,I7.unpinned,r7,q7⟩
end
theorem for_list {K:PySem.W.Frag} {a:Addr} {xs:List V} {g:TG} {tb:TS} {D:Ends} {σ : St} {H:Hp} (Pv:Nat → St → Hp → Prop) (h0:Pv 0 σ H) (hl : ∀ i σ H,i ≤ xs.length → Pv i σ H → SqL K H a xs)
  (hs : ∀ i x σ H,xs[i]? = some x → Pv i σ H → g x σ H fun σ2 H2=>tb { D with nx:=Pv (i + 1),ct:=Pv (i + 1),bk:=D.nx } σ2 H2) (hd : ∀ σ H,Pv xs.length σ H → D.nx σ H) :
  ∃ W:Nat → Nat → St → Hp → Prop,(∃ m,W 0 m σ H) ∧ ∀ i m σ H,W i m σ H →
   ((Itl K a).stop i H ∧ D.nx σ H) ∨ ((Itl K a).go i H ∧ ∃ N:St → Hp → Prop,(∀ σ' H',N σ' H' → ∃ m',m' < m ∧ W (i + 1) m' σ' H') ∧ ∀ x H',(Itl K a).yld i H x H' → g x σ H' fun σ2 H2=>tb { D with nx:=N,ct:=N,bk:=D.nx } σ2 H2):=by
 refine ⟨fun i m σ H=>m = xs.length - i ∧ i ≤ xs.length ∧ Pv i σ H,⟨xs.length,by simp,Nat.zero_le _,h0⟩,?_⟩
 rintro i m σ H ⟨rfl,hi,p⟩
 have q:=hl i σ H hi p
 by_cases hlt:i < xs.length
 ·refine .inr ⟨⟨xs,xs[i],q,by simp [hlt]⟩,Pv (i + 1),fun σ' H' p'=>⟨xs.length - (i + 1),by omega,rfl,hlt,p'⟩,fun x H' y=>?_⟩
  obtain ⟨e,y⟩:=y
  subst e
  exact hs i x σ _ (y xs q) p
 ·have e:i = xs.length:=by omega
  subst e
  exact .inl ⟨⟨xs,q,Nat.le_refl _⟩,hd σ H p⟩
theorem for_tup {K:PySem.W.Frag} {a:Addr} {xs:List V} {g:TG} {tb:TS} {D:Ends} {σ : St} {H:Hp} (Pv:Nat → St → Hp → Prop) (h0:Pv 0 σ H) (hl : ∀ i σ H,i ≤ xs.length → Pv i σ H → SqT K H a xs)
  (hs : ∀ i x σ H,xs[i]? = some x → Pv i σ H → g x σ H fun σ2 H2=>tb { D with nx:=Pv (i + 1),ct:=Pv (i + 1),bk:=D.nx } σ2 H2) (hd : ∀ σ H,Pv xs.length σ H → D.nx σ H) :
  ∃ W:Nat → Nat → St → Hp → Prop,(∃ m,W 0 m σ H) ∧ ∀ i m σ H,W i m σ H →
   ((Itt K a).stop i H ∧ D.nx σ H) ∨ ((Itt K a).go i H ∧ ∃ N:St → Hp → Prop,(∀ σ' H',N σ' H' → ∃ m',m' < m ∧ W (i + 1) m' σ' H') ∧ ∀ x H',(Itt K a).yld i H x H' → g x σ H' fun σ2 H2=>tb { D with nx:=N,ct:=N,bk:=D.nx } σ2 H2):=by
 refine ⟨fun i m σ H=>m = xs.length - i ∧ i ≤ xs.length ∧ Pv i σ H,⟨xs.length,by simp,Nat.zero_le _,h0⟩,?_⟩
 rintro i m σ H ⟨rfl,hi,p⟩
 have q:=hl i σ H hi p
 by_cases hlt:i < xs.length
 ·refine .inr ⟨⟨xs,xs[i],q,by simp [hlt]⟩,Pv (i + 1),fun σ' H' p'=>⟨xs.length - (i + 1),by omega,rfl,hlt,p'⟩,fun x H' y=>?_⟩
  obtain ⟨e,y⟩:=y
  subst e
  exact hs i x σ _ (y xs q) p
 ·have e:i = xs.length:=by omega
  subst e
  exact .inl ⟨⟨xs,q,Nat.le_refl _⟩,hd σ H p⟩
theorem for_range {lo:Int} {n:Nat} {g:TG} {tb:TS} {D:Ends} {σ : St} {H:Hp} (Pv:Nat → St → Hp → Prop) (h0:Pv 0 σ H)
  (hs : ∀ i σ H,i < n → Pv i σ H → g (.int (lo + i)) σ H fun σ2 H2=>tb { D with nx:=Pv (i + 1),ct:=Pv (i + 1),bk:=D.nx } σ2 H2) (hd : ∀ σ H,Pv n σ H → D.nx σ H) :
  ∃ W:Nat → Nat → St → Hp → Prop,(∃ m,W 0 m σ H) ∧ ∀ i m σ H,W i m σ H →
   ((Itr lo n).stop i H ∧ D.nx σ H) ∨ ((Itr lo n).go i H ∧ ∃ N:St → Hp → Prop,(∀ σ' H',N σ' H' → ∃ m',m' < m ∧ W (i + 1) m' σ' H') ∧ ∀ x H',(Itr lo n).yld i H x H' → g x σ H' fun σ2 H2=>tb { D with nx:=N,ct:=N,bk:=D.nx } σ2 H2):=by
 refine ⟨fun i m σ H=>m = n - i ∧ i ≤ n ∧ Pv i σ H,⟨n,by simp,Nat.zero_le _,h0⟩,?_⟩
 rintro i m σ H ⟨rfl,hi,p⟩
 by_cases hlt:i < n
 ·refine .inr ⟨hlt,Pv (i + 1),fun σ' H' p'=>⟨n - (i + 1),by omega,rfl,hlt,p'⟩,fun x H' y=>?_⟩
  obtain ⟨e,y⟩:=y
  subst e y
  exact hs i σ _ hlt p
 ·have e:i = n:=by omega
  subst e
  exact .inl ⟨Nat.le_refl _,hd σ H p⟩
theorem while_by {c:TT} {tb:TS} {D:Ends} {σ : St} {H:Hp} (Pv:St → Hp → Prop) (μ : St → Hp → Nat) (h0:Pv σ H)
  (hs : ∀ σ H,Pv σ H → c σ H fun b H1=>if b = true then tb { D with nx:=fun σ' H'=>Pv σ' H' ∧ μ σ' H' < μ σ H,ct:=fun σ' H'=>Pv σ' H' ∧ μ σ' H' < μ σ H,bk:=D.nx } σ H1 else D.nx σ H1)
  (mono : ∀ σ H Q Q',(∀ b H1,Q b H1 → Q' b H1) → c σ H Q → c σ H Q') : tWhile c tb D σ H:=by
 refine ⟨fun m σ H=>m = μ σ H ∧ Pv σ H,⟨_,rfl,h0⟩,?_⟩
 rintro m σ H ⟨rfl,p⟩
 refine mono σ H _ _ (fun b H1 q=>?_) (hs σ H p)
 cases b with
 | true=>exact ⟨_,fun σ' H' ⟨p',l⟩=>⟨_,l,rfl,p'⟩,q⟩
 | false=>exact q
end L2
namespace L2
open PySem PySem.Spec PyProof.Rows
abbrev R2:=V → V → Hp → VK → Prop
def OpR (X:Cx) (f:Value → Value → Sem Value) (r:R2) : Prop:=
 ∀ (pins:List (Addr × Obj)) (s:Shared) (σ : St) (H:Hp) (x y:V) (v u:Value) (Q:VK),Inv X pins σ H s → RelV x v → RelV y u → r x y H Q →
  wpAny (model X.prog X.w) X.A (f v u) (EP X pins σ Q) X.xe s
def CallR (X:Cx) (f:Value) (r:List V → Hp → VK → Prop) : Prop:=
 ∀ (pins:List (Addr × Obj)) (s:Shared) (σ : St) (H:Hp) (xs:List V) (us:List Value) (Q:VK),Inv X pins σ H s → Vals xs us → r xs H Q →
  wpAny (model X.prog X.w) X.A (call f us) (EP X pins σ Q) X.xe s
def TruR (X:Cx) (r:V → Hp → (Bool → Hp → Prop) → Prop) : Prop:=
 ∀ (pins:List (Addr × Obj)) (s:Shared) (σ : St) (H:Hp) (x:V) (v:Value) (Q:Bool → Hp → Prop),Inv X pins σ H s → RelV x v → r x H Q →
  wpAny (model X.prog X.w) X.A (truthy v) (TP X pins σ Q) X.xe s
def tOp (r:R2) (ta tb:TE) : TE:=fun σ H Q=>ta σ H fun x H1=>tb σ H1 fun y H2=>r x y H2 Q
def rI (C:Int → Int → Prop) (g:Int → Int → V) : R2:=fun x y H Q=>∃ i j,x = .int i ∧ y = .int j ∧ C i j ∧ Q (g i j) H
def rI0 (g:Int → Int → V) : R2:=fun x y H Q=>∃ i j,x = .int i ∧ y = .int j ∧ Q (g i j) H
section
variable {X:Cx} {a b c:Expr} {ta tb tc:TE} {pos:Pos}
theorem binT (ha:PE X a ta) (hb:PE X b tb) {pins:List (Addr × Obj)} {s:Shared} {σ : St} {H:Hp} {R:V → V → Hp → Prop} (I:Inv X pins σ H s)
  (h:ta σ H fun x H1=>tb σ H1 fun y H2=>R x y H2) {Q:Value → Shared → Prop} {f:Value → Value → Sem Value}
  (hf : ∀ v u s2 x y H2,Inv X pins σ H2 s2 → RelV x v → RelV y u → R x y H2 → wpAny (model X.prog X.w) X.A (f v u) Q X.xe s2) :
  wpAny (model X.prog X.w) X.A (eval a X.env) (fun v s₁=>wpAny (model X.prog X.w) X.A (eval b X.env) (fun u s₂=>wpAny (model X.prog X.w) X.A (f v u) Q X.xe s₂) X.xe s₁) X.xe s:=by
 refine thn (ha pins s σ H _ I h) fun v s1 ⟨x,H1,I1,r1,q1⟩=>?_
 refine thn (hb pins s1 σ H1 _ I1 q1) fun u s2 ⟨y,H2,I2,r2,q2⟩=>?_
 exact hf v u s2 x y H2 I2 r1 r2 q2
theorem pe_op {op:Operator} {r:R2} (ho:OpR X (binaryOp op) r) (ha:PE X a ta) (hb:PE X b tb) : PE X (.BinOp a op b pos) (tOp r ta tb):=by
 intro pins s σ H Q I h
 exact wpAny_BinOp (binT ha hb I h fun v u s2 x y H2 I2 rx ry q=>ho pins s2 σ H2 x y v u Q I2 rx ry q)
theorem opI {f:Value → Value → Sem Value} {C:Int → Int → Prop} {g:Int → Int → Int}
  (rule : ∀ (i j:Int) (t u:Tok) (s:Shared) (Q:Value → Shared → Prop) (E:Value → Shared → Prop),C i j → Q (.int (g i j) s.toks) { s with toks:=s.toks + 1 } → wpAny (model X.prog X.w) X.A (f (.int i t) (.int j u)) Q E s) :
  OpR X f (rI C fun i j=>.int (g i j)):=by
 intro pins s σ H x y v u Q I rx ry h
 obtain ⟨i,j,rfl,rfl,hc,q⟩:=h
 obtain ⟨t,rfl⟩:=rx
 obtain ⟨t',rfl⟩:=ry
 exact rule i j t t' s _ _ hc ⟨.int (g i j),H,I.tok _,⟨_,rfl⟩,q⟩
theorem opI0 {f:Value → Value → Sem Value} {g:Int → Int → Int}
  (rule : ∀ (i j:Int) (t u:Tok) (s:Shared) (Q:Value → Shared → Prop) (E:Value → Shared → Prop),Q (.int (g i j) s.toks) { s with toks:=s.toks + 1 } → wpAny (model X.prog X.w) X.A (f (.int i t) (.int j u)) Q E s) :
  OpR X f (rI0 fun i j=>.int (g i j)):=by
 intro pins s σ H x y v u Q I rx ry h
 obtain ⟨i,j,rfl,rfl,q⟩:=h
 obtain ⟨t,rfl⟩:=rx
 obtain ⟨t',rfl⟩:=ry
 exact rule i j t t' s _ _ ⟨.int (g i j),H,I.tok _,⟨_,rfl⟩,q⟩
theorem opB0 {f:Value → Value → Sem Value} {g:Int → Int → Bool}
  (rule : ∀ (i j:Int) (t u:Tok) (s:Shared) (Q:Value → Shared → Prop) (E:Value → Shared → Prop),Q (.bool (g i j)) s → wpAny (model X.prog X.w) X.A (f (.int i t) (.int j u)) Q E s) :
  OpR X f (rI0 fun i j=>.bl (g i j)):=by
 intro pins s σ H x y v u Q I rx ry h
 obtain ⟨i,j,rfl,rfl,q⟩:=h
 obtain ⟨t,rfl⟩:=rx
 obtain ⟨t',rfl⟩:=ry
 exact rule i j t t' s _ _ ⟨.bl (g i j),H,I,rfl,q⟩
def CDiv (i j:Int) : Prop:=0 < j ∧ j < 1073741824
def CPow (i j:Int) : Prop:=0 ≤ j ∧ j ≤ 1000000 ∧ i.natAbs < 2 ^ 64
def CMul (i j:Int) : Prop:=(-(2 ^ 64) < i ∧ i < 2 ^ 64) ∨ (-(2 ^ 64) < j ∧ j < 2 ^ 64)
theorem CMul.ok {i j:Int} (h:CMul i j) : IntMulOk i j:=by
 rcases h with ⟨h1,h2⟩ | ⟨h1,h2⟩
 ·exact .of_left (intBits_le_64 h1 h2)
 ·exact .of_right (intBits_le_64 h1 h2)
theorem op_add:OpR X (binaryOp .Add) (rI0 fun i j=>.int (i + j)):=opI0 fun _ _ _ _ _ _ _ q=>add_int q
theorem op_sub:OpR X (binaryOp .Sub) (rI0 fun i j=>.int (i - j)):=opI0 fun _ _ _ _ _ _ _ q=>sub_int q
theorem op_mul:OpR X (binaryOp .Mult) (rI CMul fun i j=>.int (i * j)):=opI fun _ _ _ _ _ _ _ hc q=>mul_int q hc.ok
theorem op_fdiv:OpR X (binaryOp .FloorDiv) (rI CDiv fun i j=>.int (i / j)):=opI fun i j _ _ _ _ _ hc q=>by
 have h1:(0:Int) < j:=hc.1
 have h2:j < 1073741824:=hc.2
 exact floordiv_int (by omega) (by rw [Int.fdiv_eq_ediv_of_nonneg i (by omega)]; exact q) (.inl (PyProof.noPylong_small (by omega)))
theorem op_mod:OpR X (binaryOp .Mod) (rI (fun _ j=>0 < j) fun i j=>.int (i % j)):=opI fun i j _ _ _ _ _ hc q=>by
 have h1:(0:Int) < j:=hc
 exact mod_int' (by omega) (by rw [Int.fmod_eq_emod_of_nonneg i (by omega)]; exact q)
theorem op_pow:OpR X (binaryOp .Pow) (rI CPow fun i j=>.int (i ^ j.toNat)):=opI fun _ _ _ _ _ _ _ hc q=>pow_int_small hc.1 hc.2.1 hc.2.2 q
end
def scal:V → V → Bool
 | .non,.non=>true | .non,.int _=>true | .int _,.non=>true | .non,.bl _=>true | .bl _,.non=>true | .non,.str _=>true | .str _,.non=>true
 | .int _,.int _=>true | .bl _,.bl _=>true | .str _,.str _=>true | .byt _,.byt _=>true
 | .int _,.str _=>true | .str _,.int _=>true | .bl _,.str _=>true | .str _,.bl _=>true
 | _,_=>false
def rEq:R2:=fun x y H Q=>scal x y = true ∧ Q (.bl (decide (x = y))) H
def rNe:R2:=fun x y H Q=>scal x y = true ∧ Q (.bl (!decide (x = y))) H
theorem dec_int {i j:Int} : decide (V.int i = V.int j) = (i == j):=by
 rw [Bool.eq_iff_iff]
 simp
theorem dec_bl {i j:Bool} : decide (V.bl i = V.bl j) = (i == j):=by
 rw [Bool.eq_iff_iff]
 simp
theorem dec_str {i j:Str} : decide (V.str i = V.str j) = (i == j):=by
 rw [Bool.eq_iff_iff]
 simp
theorem dec_byt {i j:Array UInt8} : decide (V.byt i = V.byt j) = (i.toList == j.toList):=by
 rw [Bool.eq_iff_iff]
 cases i
 cases j
 simp
section
variable {X:Cx} {a b c:Expr} {ta tb tc:TE} {pos:Pos}
theorem fin_bl {pins:List (Addr × Obj)} {σ : St} {H:Hp} {s:Shared} {Q:VK} {k k':Bool} (I:Inv X pins σ H s) (q:Q (.bl k) H) (e:k = k') : EP X pins σ Q (.bool k') s:=by
 subst e
 exact ⟨.bl k,H,I,rfl,q⟩
theorem op_eq:OpR X (compareOp .Eq) rEq:=by
 intro pins s σ H x y v u Q I rx ry h
 obtain ⟨hs,q⟩:=h
 cases x with
 | non=>
  cases rx
  cases y with
  | non=>cases ry; exact PySem.EqNone.eq_none_none (fin_bl I q (by simp))
  | bl j=>cases ry; exact PySem.EqNone.eq_none_bool (fin_bl I q (by simp))
  | int j=>obtain ⟨t',rfl⟩:=ry; exact PySem.EqNone.eq_none_int (fin_bl I q (by simp))
  | str j=>obtain ⟨t',rfl⟩:=ry; exact PySem.EqNone.eq_none_str (fin_bl I q (by simp))
  | _=>exact absurd (show false = true from hs) Bool.false_ne_true
 | bl i=>
  cases rx
  cases y with
  | non=>cases ry; exact PySem.EqNone.eq_bool_none (fin_bl I q (by simp))
  | bl j=>cases ry; exact eq_bool (fin_bl I q dec_bl)
  | str j=>obtain ⟨t',rfl⟩:=ry; exact PySem.EqMixed.eq_bool_str (fin_bl I q (by simp))
  | _=>exact absurd (show false = true from hs) Bool.false_ne_true
 | int i=>
  obtain ⟨t,rfl⟩:=rx
  cases y with
  | non=>cases ry; exact PySem.EqNone.eq_int_none (fin_bl I q (by simp))
  | int j=>obtain ⟨t',rfl⟩:=ry; exact eq_int (fin_bl I q dec_int)
  | str j=>obtain ⟨t',rfl⟩:=ry; exact PySem.EqMixed.eq_int_str (fin_bl I q (by simp))
  | _=>exact absurd (show false = true from hs) Bool.false_ne_true
 | str i=>
  obtain ⟨t,rfl⟩:=rx
  cases y with
  | non=>cases ry; exact PySem.EqNone.eq_str_none (fin_bl I q (by simp))
  | bl j=>cases ry; exact PySem.EqMixed.eq_str_bool (fin_bl I q (by simp))
  | int j=>obtain ⟨t',rfl⟩:=ry; exact PySem.EqMixed.eq_str_int (fin_bl I q (by simp))
  | str j=>obtain ⟨t',rfl⟩:=ry; exact eq_str (fin_bl I q dec_str)
  | _=>exact absurd (show false = true from hs) Bool.false_ne_true
 | byt i=>
  obtain ⟨t,rfl⟩:=rx
  cases y with
  | byt j=>obtain ⟨t',rfl⟩:=ry; exact PySem.W.eq_bytes (fin_bl I q dec_byt)
  | _=>exact absurd (show false = true from hs) Bool.false_ne_true
 | _=>cases y <;> exact absurd (show false = true from hs) Bool.false_ne_true
theorem op_ne:OpR X (compareOp .NotEq) rNe:=by
 intro pins s σ H x y v u Q I rx ry h
 obtain ⟨hs,q⟩:=h
 cases x with
 | non=>
  cases rx
  cases y with
  | non=>cases ry; exact PySem.EqNone.ne_none_none (fin_bl I q (by simp))
  | bl j=>cases ry; exact PySem.EqNone.ne_none_bool (fin_bl I q (by simp))
  | int j=>obtain ⟨t',rfl⟩:=ry; exact PySem.EqNone.ne_none_int (fin_bl I q (by simp))
  | str j=>obtain ⟨t',rfl⟩:=ry; exact PySem.EqNone.ne_none_str (fin_bl I q (by simp))
  | _=>exact absurd (show false = true from hs) Bool.false_ne_true
 | bl i=>
  cases rx
  cases y with
  | non=>cases ry; exact PySem.EqNone.ne_bool_none (fin_bl I q (by simp))
  | bl j=>cases ry; exact ne_bool (fin_bl I q (congrArg not dec_bl))
  | str j=>obtain ⟨t',rfl⟩:=ry; exact PySem.EqMixed.ne_bool_str (fin_bl I q (by simp))
  | _=>exact absurd (show false = true from hs) Bool.false_ne_true
 | int i=>
  obtain ⟨t,rfl⟩:=rx
  cases y with
  | non=>cases ry; exact PySem.EqNone.ne_int_none (fin_bl I q (by simp))
  | int j=>obtain ⟨t',rfl⟩:=ry; exact ne_int (fin_bl I q (congrArg not dec_int))
  | str j=>obtain ⟨t',rfl⟩:=ry; exact PySem.EqMixed.ne_int_str (fin_bl I q (by simp))
  | _=>exact absurd (show false = true from hs) Bool.false_ne_true
 | str i=>
  obtain ⟨t,rfl⟩:=rx
  cases y with
  | non=>cases ry; exact PySem.EqNone.ne_str_none (fin_bl I q (by simp))
  | bl j=>cases ry; exact PySem.EqMixed.ne_str_bool (fin_bl I q (by simp))
  | int j=>obtain ⟨t',rfl⟩:=ry; exact PySem.EqMixed.ne_str_int (fin_bl I q (by simp))
  | str j=>obtain ⟨t',rfl⟩:=ry; exact ne_str (fin_bl I q (congrArg not dec_str))
  | _=>exact absurd (show false = true from hs) Bool.false_ne_true
 | byt i=>
  obtain ⟨t,rfl⟩:=rx
  cases y with
  | byt j=>obtain ⟨t',rfl⟩:=ry; exact PySem.W.ne_bytes (fin_bl I q (congrArg not dec_byt))
  | _=>exact absurd (show false = true from hs) Bool.false_ne_true
 | _=>cases y <;> exact absurd (show false = true from hs) Bool.false_ne_true
theorem op_lt:OpR X (compareOp .Lt) (rI0 fun i j=>.bl (decide (i < j))):=opB0 fun _ _ _ _ _ _ _ q=>lt_int q
theorem op_le:OpR X (compareOp .LtE) (rI0 fun i j=>.bl (decide (i ≤ j))):=opB0 fun _ _ _ _ _ _ _ q=>le_int q
theorem op_gt:OpR X (compareOp .Gt) (rI0 fun i j=>.bl (decide (j < i))):=opB0 fun _ _ _ _ _ _ _ q=>gt_int q
theorem op_ge:OpR X (compareOp .GtE) (rI0 fun i j=>.bl (decide (j ≤ i))):=opB0 fun _ _ _ _ _ _ _ q=>ge_int q
theorem op_notN:OpR X (compareOp .IsNot) (fun x y H Q=>y = .non ∧ Q (.bl (!decide (x = .non))) H):=by
 intro pins s σ H x y v u Q I rx ry h
 obtain ⟨rfl,q⟩:=h
 cases ry
 refine isnot_none_gen (fin_bl I q ?_)
 cases x <;> first
  | (cases rx; rfl)
  | (obtain ⟨t,rfl⟩:=rx; rfl)
theorem nomark (b:Expr) {op:CmpOp} (h:autoParam (op ≠ .In) aP2) (h2:autoParam (op ≠ .NotIn) aP2) : behindInMarks op b = false:=by
 have e:(op == CmpOp.In || op == CmpOp.NotIn) = false:=by cases op <;> first | rfl | exact absurd rfl h | exact absurd rfl h2
 cases b <;> first | rfl | (show (_ && _ && _) = false; rw [e,Bool.and_false]; rfl)
theorem pe_cmpR {op:CmpOp} {r:R2} (ho:OpR X (compareOp op) r) (ha:PE X a ta) (hb:PE X b tb) (hm:behindInMarks op b = false) : PE X (.Compare a [op] [b] pos) (tOp r ta tb):=by
 intro pins s σ H Q I h
 exact wpAny_Compare1 (binT ha hb I h fun v u s2 x y H2 I2 rx ry q=>ho pins s2 σ H2 x y v u Q I2 rx ry q) hm
def tTest (t:TE) : TT:=fun σ H Q=>t σ H fun x H'=>∃ k,x = .bl k ∧ Q k H'
theorem pt_cmpR {op:CmpOp} {r:R2} (ho:OpR X (compareOp op) r) (ha:PE X a ta) (hb:PE X b tb) (hm:behindInMarks op b = false) : PT X (.Compare a [op] [b] pos) (tTest (tOp r ta tb)):=by
 intro pins s σ H Q I h
 refine wpAny_isTrue_Compare1 (thn (ha pins s σ H _ I h) fun v s1 ⟨x,H1,I1,r1,q1⟩=>thn (hb pins s1 σ H1 _ I1 q1) fun u s2 ⟨y,H2,I2,r2,q2⟩=>
  thn (ho pins s2 σ H2 x y v u _ I2 r1 r2 q2) fun c s3 ⟨z,H3,I3,r3,k,e,q3⟩=>?_) hm
 subst e
 cases r3
 exact wpAny_truthy_bool ⟨H3,I3,q3⟩
def tChain (r r':R2) (ta tb tc:TE) : TE:=fun σ H Q=>ta σ H fun x H1=>tb σ H1 fun y H2=>r x y H2 fun z H3=>∃ k,z = .bl k ∧
 (if k = true then tc σ H3 fun w' H4=>r' y w' H4 Q else Q (.bl false) H3)
theorem pe_chain {op op':CmpOp} {r r':R2} (ho:OpR X (compareOp op) r) (ho':OpR X (compareOp op') r') (ha:PE X a ta) (hb:PE X b tb) (hc:PE X c tc)
  (hm:lastMarks [op,op'] [b,c] = false:=by with_unfolding_all rfl) : PE X (.Compare a [op,op'] [b,c] pos) (tChain r r' ta tb tc):=by
 intro pins s σ H Q I h
 refine Compare_chain (thn (ha pins s σ H _ I h) fun v s1 ⟨x,H1,I1,r1,q1⟩=>chain_link (thn (hb pins s1 σ H1 _ I1 q1) fun u s2 ⟨y,H2,I2,r2,q2⟩=>
  thn (ho pins s2 σ H2 x y v u _ I2 r1 r2 q2) fun d s3 ⟨z,H3,I3,r3,k,e,q3⟩=>?_)) hm
 subst e
 cases r3
 refine wpAny_truthy_bool ?_
 cases k with
 | false=>exact ite_ff ⟨.bl false,H3,I3,rfl,q3⟩
 | true=>exact ite_tt (chain_last (thn (hc pins s3 σ H3 _ I3 q3) fun w' s4 ⟨z',H4,I4,r4,q4⟩=>ho' pins s4 σ H4 y z' u w' Q I4 r2 r4 q4))
def TruV (K:PySem.W.Frag) (x:V) (H:Hp) (k:Bool) : Prop:=
 match x with
 | .non=>k = false
 | .bl b=>k = b
 | .int i=>k = (i != 0)
 | .str y=>y.length ≤ sizeLine ∧ k = ((y.length:Int) != 0)
 | .byt y=>y.size ≤ sizeLine ∧ k = ((y.size:Int) != 0)
 | .ref p=>(∃ xs,SqL K H p xs ∧ k = !xs.isEmpty) ∨ (∃ xs,SqT K H p xs ∧ k = !xs.isEmpty) ∨ ∃ kvs,H p = some (.dK kvs) ∧ k = !kvs.isEmpty
 | _=>False
theorem isEmpty_kv {κ : Type} {kvs:List (κ × V)} {vs:List (κ × Value)} (r:KV kvs vs) : (!vs.isEmpty) = !kvs.isEmpty:=by
 cases r <;> rfl
theorem isEmpty_of {xs:List V} {its:List Value} (r:Vals xs its) : (!its.toArray.isEmpty) = !xs.isEmpty:=by
 cases r <;> simp
theorem line63:(sizeLine:Nat) < 2 ^ 63:=by rw [sizeLine_eq]; decide
theorem tru_ok:TruR X (fun x H Q=>∃ k,TruV X.K x H k ∧ Q k H):=by
 intro pins s σ H x v Q I rx h
 obtain ⟨k,e,q⟩:=h
 have hl:=line63
 have hs:sizeLine = 16777216:=sizeLine_eq
 cases x with
 | non=>
  cases rx
  have e':k = false:=e
  subst e'
  exact truthy_none ⟨H,I,q⟩
 | bl b=>
  cases rx
  have e':k = b:=e
  subst e'
  exact wpAny_truthy_bool ⟨H,I,q⟩
 | int i=>
  obtain ⟨t,rfl⟩:=rx
  have e':k = (i != 0):=e
  subst e'
  exact PySem.P.truthy_int ⟨H,I,q⟩
 | str y=>
  obtain ⟨t,rfl⟩:=rx
  obtain ⟨hy,e'⟩ : y.length ≤ sizeLine ∧ k = ((y.length:Int) != 0):=e
  subst e'
  exact PySem.P.truthy_str (by omega) ⟨H,I.tok _,q⟩
 | byt y=>
  obtain ⟨t,rfl⟩:=rx
  obtain ⟨hy,e'⟩ : y.size ≤ sizeLine ∧ k = ((y.size:Int) != 0):=e
  subst e'
  exact PySem.W.truthy_bytes (by omega) ⟨H,I.tok _,q⟩
 | ref p=>
  cases rx
  have e':(∃ xs,SqL X.K H p xs ∧ k = !xs.isEmpty) ∨ (∃ xs,SqT X.K H p xs ∧ k = !xs.isEmpty) ∨ ∃ kvs,H p = some (.dK kvs) ∧ k = !kvs.isEmpty:=e
  rcases e' with ⟨xs,hx,e'⟩ | ⟨xs,hx,e'⟩ | ⟨kvs,hx,e'⟩
  ·subst e'
   obtain ⟨its,r,pl,hz⟩:=I.list hx
   have hlen:=r.length
   exact wpAny_truthy_list pl.isList (by simp only [List.size_toArray]; omega) ⟨H,I.tok _,by rw [isEmpty_of r]; exact q⟩
  ·subst e'
   obtain ⟨its,r,pl,hz⟩:=I.tuple hx
   have hlen:=r.length
   exact truthy_tuple pl (by simp only [List.size_toArray]; omega) ⟨H,I.tok _,by rw [isEmpty_of r]; exact q⟩
  ·subst e'
   obtain ⟨hz,hS,vs,r,m⟩ : kvs.length ≤ sizeLine ∧ (p == sysModules) = false ∧ ∃ vs,KV kvs vs ∧ s.heap.DictOf (mixKind X.prog X.w) p vs:=I.hok p _ hx
   have hlen:kvs.length = vs.length:=Paired.length r
   exact wpAny_truthy_dict hS m (by omega) ⟨H,I.tok _,by rw [isEmpty_kv r]; exact q⟩
 | _=>exact (show False from e).elim
theorem pt_truth (ha:PE X a ta) (he : ∀ whole,isTrue a X.env whole = (do let v ← whole; standAt a.pos; holding [v] (truthy v))) :
  PT X a (fun σ H Q=>ta σ H fun x H'=>∃ k,TruV X.K x H' k ∧ Q k H'):=by
 intro pins s σ H Q I h
 exact isTrue_plain (thn (ha pins s σ H _ I h) fun v s1 ⟨x,H1,I1,r1,q1⟩=>tru_ok pins s1 σ H1 x v Q I1 r1 q1) (he _)
theorem vals1 {x:V} {us:List Value} (r:Vals [x] us) : ∃ u,us = [u] ∧ RelV x u:=by
 cases r with
 | cons r1 r2=>cases r2; exact ⟨_,rfl,r1⟩
theorem vals2 {x y:V} {us:List Value} (r:Vals [x,y] us) : ∃ u w',us = [u,w'] ∧ RelV x u ∧ RelV y w':=by
 cases r with
 | cons r1 r2=>
  cases r2 with
  | cons r3 r4=>cases r4; exact ⟨_,_,rfl,r1,r3⟩
end
end L2
namespace L2
open PySem PySem.Spec PyProof.Rows
structure ObjM (h:Heap) (x dx C:Addr) (mA:Str → Option Value) : Prop where
 obj:h.get? x = some (PySem.W.instObj C dx)
 ns:h.Ns1 dx mA
 ne:dx ≠ x
theorem lookIn_ns {h:Heap} {dx:Addr} {mA:Str → Option Value} (n:h.Ns1 dx mA) : ∃ od,h.get? dx = some od ∧ ∀ name,PySem.W.lookIn name od = some (mA name):=by
 obtain ⟨o,es,ep,ho,hd,hk,_,hm⟩:=n
 refine ⟨o,ho,fun name=>?_⟩
 have e:=hm name
 unfold nsFind findBy at e
 rw [← Array.find?_toList] at e
 unfold PySem.W.lookIn
 rw [hd]
 dsimp only
 split
 ·rename_i y q
  rw [q] at e
  exact congrArg some e
 ·rename_i q
  rw [q] at e
  have a:es.toList.any (·.refKey) = false:=by
   rw [List.any_eq_false]
   intro y hy
   obtain ⟨z,t,hkey⟩:=hk y (Array.mem_toList_iff.mp hy)
   simp [DictEntry.refKey,hkey]
  have a' : ¬ es.toList.any (·.refKey) = true:=by rw [a]; exact Bool.false_ne_true
  rw [if_neg a']
  exact congrArg some e
theorem ObjM.look {h:Heap} {x dx C:Addr} {mA:Str → Option Value} (I:ObjM h x dx C mA) : ∃ od,PySem.W.InstAt h x (PySem.W.instObj C dx) C (some od) ∧ ∀ name,PySem.W.lookIn name od = some (mA name):=
 let ⟨od,ho,hl⟩:=lookIn_ns I.ns
 ⟨od,⟨I.obj,rfl,rfl,ho⟩,hl⟩
section
variable {prog:Program} {w:World} {A:Around} {E:Value → Shared → Prop} {s:Shared} {K:PySem.W.Frag} {x dx C f:Addr} {mA:Str → Option Value} {name:Str} {v:Value}
theorem get_map {expr:Bool} {Q:Value → Shared → Prop} (X:K.In s.heap) (I:ObjM s.heap x dx C mA) (hg:PySem.W.plainGet K C name = true) (hh:PySem.W.hasDictIn K C = true)
  (ha:PySem.W.findIn K (.ref C) name = some none) (hv:mA name = some v) (hv':PySem.W.handedIn v = true) (h:Q v { s with toks:=s.toks + 1 }) :
  wpAny (model prog w) A (getAttr (.ref x) name expr) Q E s:=by
 obtain ⟨od,J,hl⟩:=I.look
 exact PySem.W.get_value X J (PySem.W.plainGet_of hg).1 (PySem.W.findObj_own hh ha rfl (by rw [hl,hv])) hv' h
theorem get_meth {pl:Sem Bool} {Q:Value × List Value → Shared → Prop} (X:K.In s.heap) (I:ObjM s.heap x dx C mA) (hg:PySem.W.plainGet K C name = true)
  (hf:PySem.W.findIn K (.ref C) name = some (some (.ref f))) (ht:PySem.W.isFn K (.ref f) = true) (hv:mA name = none) (h:Q (.ref f,[.ref x]) s) :
  wpAny (model prog w) A (getMethod (.ref x) name pl) Q E s:=by
 obtain ⟨od,J,hl⟩:=I.look
 exact PySem.W.method_fn X J (PySem.W.plainGet_of hg).1 (PySem.W.plainGet_of hg).2 hf (beq_iff_eq.mp ht) (by show (PySem.W.lookIn name od).map (·.isSome) = some false; rw [hl,hv]; rfl) h
theorem set_map {ns:List Str} {Q:Unit → Shared → Prop} (X:K.In s.heap) (I:ObjM s.heap x dx C mA)
  (hs:PySem.W.findIn K (.ref C) "__setattr__" = some (some (.builtin "object.__setattr__"))) (hp:PySem.W.plainOver K C = true) (ht:PySem.W.takerIn K C name = some none) (hh:PySem.W.hasDictIn K C = true)
  (hw:PySem.Within mA ns) (hsz:ns.length ≤ sizeLine)
  (h : ∀ h',ObjM h' x dx C (fun y=>if y = name then some v else mA y) → Heap.SameBut dx s.heap h' → Q () { s with heap:=h',toks:=s.toks + 2 }) :
  wpAny (model prog w) A (setAttr (.ref x) name v) Q E s:=by
 obtain ⟨od,J,hl⟩:=I.look
 refine PySem.W.set_plain X J hs (PySem.W.osa_open (s:={ s with toks:=s.toks + 1 }) (r:=none) X J hp ht fun b=>?_)
 obtain ⟨cd,hc,hd'⟩:=PySem.W.any_some hh
 have hx:s.heap.get? x = some ⟨.ref C,some dx,.plain,#[]⟩:=I.obj
 refine wpAny_bind (wpAny_pure (wpAny_bind (wpAny_bind (wpAny_loadPart hx (wpAny_bind (PySem.W.Looks.here (s:={ s with toks:=s.toks + 1 }) (PySem.W.looks_clsIn X hc) ?_))))))
 rw [hd']
 refine wpAny_pure (a:=some dx) (wpAny_bind (wpAny_pure (wpAny_bind ?_)))
 refine wpAny_nsSet1 (s:={ s with toks:=s.toks + 1 }) I.ns fun h' hn2 hs2=>?_
 obtain ⟨oD,esD,epD,hoD,hdD,hcD⟩:=hn2.count (PySem.Within.cons name v hw)
 refine wpAny_bind (wpAny_lookBehind hoD (by rw [hdD]; exact pastItsLine_dict (Nat.le_trans hcD (by rw [List.length_cons]; omega))) ?_)
 exact wpAny_pure (h _ ⟨(hs2.2 _ (Ne.symm I.ne)).trans I.obj,hn2,I.ne⟩ hs2)
theorem make_map {R:Result → Shared → Prop} {vs:List Value} {kw:List (Str × Value)} (X:K.In s.heap) (hm:PySem.W.makesIn K C = true)
  (hi:PySem.W.findIn K (.ref C) "__init__" = some (some (.ref f))) (hf:PySem.W.typeIn K (.ref f) = some (.type "function"))
  (h:codeAny (model prog w) (A.under (.builtin "type.__call__" ⟨.ref C :: vs,kw⟩)) (.call (.ref f) ⟨.ref (s.heap.objs.size + 1) :: vs,kw⟩) (PySem.W.InitBack (s.heap.objs.size + 1) R)
   { s with heap:=(s.heap.push PySem.W.emptyDict).push (PySem.W.instObj C s.heap.objs.size) }) :
  codeAny (model prog w) A (.call (.ref C) ⟨vs,kw⟩) R s:=by
 obtain ⟨hh,g,d,t,os⟩:=s
 exact PySem.W.make_core (PySem.W.makes_of X hm) (PySem.W.looks_findIn X hi) (fun self=>PySem.W.bind_fn X self hf) (.inl rfl) h
end
def putF (f:Str) (v:V) : List (Str × V) → List (Str × V)
 | []=>[(f,v)]
 | (g,x) :: r=>if g = f then (g,v) :: r else (g,x) :: putF f v r
theorem lookup_putF (f g:Str) (v:V) : ∀ fs:List (Str × V),(putF f v fs).lookup g = if g = f then some v else fs.lookup g
 | []=>by
  show List.lookup g [(f,v)] = _
  by_cases h:g = f
  ·have hb:(g == f) = true:=beq_iff_eq.mpr h
   simp only [List.lookup,hb,if_pos h]
  ·have hb:(g == f) = false:=beq_eq_false_iff_ne.mpr h
   simp only [List.lookup,hb,if_neg h]
 | (k, x) :: r=>by
  have ih:=lookup_putF f g v r
  rw [show putF f v ((k,x) :: r) = (if k = f then (k,v) :: r else (k,x) :: putF f v r) from rfl]
  by_cases hk:k = f
  ·rw [if_pos hk]
   by_cases h:g = k
   ·have hb:(g == k) = true:=beq_iff_eq.mpr h
    simp only [List.lookup,hb,if_pos (h.trans hk)]
   ·have hb:(g == k) = false:=beq_eq_false_iff_ne.mpr h
    simp only [List.lookup,hb,if_neg (fun e:g = f=>h (e.trans hk.symm))]
  ·rw [if_neg hk]
   by_cases h:g = k
   ·have hb:(g == k) = true:=beq_iff_eq.mpr h
    simp only [List.lookup,hb,if_neg (fun e:g = f=>hk (h.symm.trans e))]
   ·have hb:(g == k) = false:=beq_eq_false_iff_ne.mpr h
    simp only [List.lookup,hb]
    exact ih
theorem keys_putF (f:Str) (v:V) : ∀ fs:List (Str × V),f ∈ (putF f v fs).map (·.1) ∧ ∀ g,g ∈ fs.map (·.1) → g ∈ (putF f v fs).map (·.1)
 | []=>⟨by simp [putF],fun g h=>by simp at h⟩
 | (k, x) :: r=>by
  obtain ⟨i1,i2⟩:=keys_putF f v r
  rw [show putF f v ((k,x) :: r) = (if k = f then (k,v) :: r else (k,x) :: putF f v r) from rfl]
  by_cases hk:k = f
  ·rw [if_pos hk]
   subst hk
   exact ⟨by simp,fun g h=>by simpa using h⟩
  ·rw [if_neg hk]
   refine ⟨?_,fun g h=>?_⟩
   ·rw [List.map_cons]
    exact List.mem_cons_of_mem _ i1
   ·rw [List.map_cons] at h ⊢
    rcases List.mem_cons.mp h with e | e
    ·exact List.mem_cons.mpr (.inl e)
    ·exact List.mem_cons_of_mem _ (i2 g e)
theorem length_putF (f:Str) (v:V) : ∀ fs:List (Str × V),(putF f v fs).length ≤ fs.length + 1
 | []=>by simp [putF]
 | (k,x) :: r=>by
  have ih:=length_putF f v r
  rw [show putF f v ((k,x) :: r) = (if k = f then (k,v) :: r else (k,x) :: putF f v r) from rfl]
  by_cases hk:k = f
  ·rw [if_pos hk,List.length_cons,List.length_cons]; omega
  ·rw [if_neg hk,List.length_cons,List.length_cons]; omega
theorem RelO.some_of {v:V} {o:Option Value} (r:RelO (some v) o) : ∃ u,o = some u ∧ RelV v u:=by
 cases o with
 | none=>exact (show False from r).elim
 | some u=>exact ⟨u,rfl,r⟩
theorem RelO.none_of {o:Option Value} (r:RelO none o) : o = none:=by
 cases o with
 | none=>rfl
 | some u=>exact (show False from r).elim
theorem handed_of {v:V} {u:Value} (r:RelV v u) : PySem.W.handedIn u = true:=by
 cases v with
 | non=>cases (show u = Value.none from r); rfl
 | bl b=>cases (show u = Value.bool b from r); rfl
 | int i=>obtain ⟨t,e⟩:=(show ∃ t,u = Value.int i t from r); cases e; rfl
 | str x=>obtain ⟨t,e⟩:=(show ∃ t,u = Value.str x t from r); cases e; rfl
 | byt b=>obtain ⟨t,e⟩:=(show ∃ t,u = Value.bytes b t from r); cases e; rfl
 | flt b=>obtain ⟨t,e⟩:=(show ∃ t,u = Value.float b t from r); cases e; rfl
 | ref a=>cases (show u = Value.ref a from r); rfl
 | ty n=>cases (show u = Value.type n from r); rfl
section
variable {P:Program} {w:World} {H H':Hp} {h h':Heap} {a C dx:Addr} {fs fs':List (Str × V)}
theorem ins_get (hok:HOk P w H h) (e:H a = some (.ins C dx fs)) : ∃ mA,ObjM h a dx C mA ∧ (∀ f,RelO (fs.lookup f) (mA f)) ∧ PySem.Within mA (fs.map (·.1)) ∧ fs.length ≤ 1000 ∧ H dx = some (.own a):=by
 obtain ⟨d,z,ne,ob,mA,n,r,q⟩:=(show ObjOk P w H h a (.ins C dx fs) from hok a _ e)
 exact ⟨mA,⟨ob,n,ne⟩,r,q,z,d⟩
end
structure Cls (K:PySem.W.Frag) (C:Addr) : Prop where
 pg:PySem.W.plainGet K C Str.empty = true
 hd:PySem.W.hasDictIn K C = true
 po:PySem.W.plainOver K C = true
 sa:PySem.W.findIn K (.ref C) "__setattr__" = some (some (.builtin "object.__setattr__"))
theorem Cls.get {K:PySem.W.Frag} {C:Addr} (c:Cls K C) (f:Str) : PySem.W.plainGet K C f = true:=c.pg
def NoAttr (K:PySem.W.Frag) (C:Addr) (f:Str) : Prop:=PySem.W.findIn K (.ref C) f = some none
theorem NoAttr.taker {K:PySem.W.Frag} {C:Addr} {f:Str} (n:NoAttr K C f) : PySem.W.takerIn K C f = some none:=by
 unfold PySem.W.takerIn
 rw [show PySem.W.findIn K (.ref C) f = some none from n]
 rfl
structure Meth (K:PySem.W.Frag) (C:Addr) (m:Str) (f:Addr) : Prop where
 at_:PySem.W.findIn K (.ref C) m = some (some (.ref f))
 fn:PySem.W.isFn K (.ref f) = true
 kp:PySem.W.keepIn K (.ref f) = true
section
variable {X:Cx} {pins:List (Addr × Obj)} {σ : St} {H:Hp} {s:Shared} {a C dx:Addr} {fs:List (Str × V)} {f:Str} {v:V} {A:Around} {E:Value → Shared → Prop}
theorem getattr_ok {b:Bool} {Q:Value → Shared → Prop} (I:Inv X pins σ H s) (e:H a = some (.ins C dx fs)) (c:Cls X.K C) (n:NoAttr X.K C f) (l:fs.lookup f = some v)
  (h : ∀ u s',Inv X pins σ H s' → RelV v u → Q u s') : wpAny (model X.prog X.w) A (getAttr (.ref a) f b) Q E s:=by
 obtain ⟨mA,O,r,_,_,_⟩:=ins_get I.hok e
 obtain ⟨u,hu,ru⟩:=RelO.some_of (v:=v) (o:=mA f) (by rw [← l]; exact r f)
 exact get_map I.kIn O (c.get f) c.hd n hu (handed_of ru) (h u _ (I.tok _) ru)
theorem getmeth_ok {m:Str} {g:Addr} {pl:Sem Bool} {Q:Value × List Value → Shared → Prop} (I:Inv X pins σ H s) (e:H a = some (.ins C dx fs)) (c:Cls X.K C) (k:Meth X.K C m g) (l:fs.lookup m = none)
  (h:Q (.ref g,[.ref a]) s) : wpAny (model X.prog X.w) A (getMethod (.ref a) m pl) Q E s:=by
 obtain ⟨mA,O,r,_,_,_⟩:=ins_get I.hok e
 have hn:mA m = none:=RelO.none_of (by rw [← l]; exact r m)
 exact get_meth I.kIn O (c.get m) k.at_ k.fn hn h
theorem setattr_ok {y:V} {u:Value} {Q:Unit → Shared → Prop} (I:Inv X pins σ H s) (e:H a = some (.ins C dx fs)) (c:Cls X.K C) (n:NoAttr X.K C f) (hl:fs.length < 1000) (ry:RelV y u)
  (h : ∀ s',Inv X pins σ (upd H a (.ins C dx (putF f y fs))) s' → Q () s') : wpAny (model X.prog X.w) A (setAttr (.ref a) f u) Q E s:=by
 obtain ⟨mA,O,r,wi,_,ho⟩:=ins_get I.hok e
 have hz:(fs.map (·.1)).length ≤ sizeLine:=by rw [List.length_map,sizeLine_eq]; omega
 refine set_map I.kIn O c.sa c.po n.taker c.hd wi hz fun h' O' sb=>h _ ?_
 have hd : ∃ o,h'.get? dx = some o:=let ⟨o,_,_,e',_⟩:=O'.ns; ⟨o,e'⟩
 refine I.write (x:=a) (e:=dx) (by rw [e]; exact True.intro) (.inr ho) (fun b q hb z=>(sb.2 b hb).trans z) hd ?_
 refine ⟨by rw [upd_ne O.ne]; exact ho,?_,O.ne,O'.obj,_,O'.ns,fun g=>?_,fun g hg=>?_⟩
 ·have:=length_putF f y fs; omega
 ·show RelO ((putF f y fs).lookup g) (if g = f then some u else mA g)
  rw [lookup_putF]
  by_cases q:g = f
  ·rw [if_pos q,if_pos q]; exact ry
  ·rw [if_neg q,if_neg q]; exact r g
 ·by_cases q:g = f
  ·rw [q]; exact (keys_putF f y fs).1
  ·refine (keys_putF f y fs).2 g (wi g fun z=>hg ?_)
   show (if g = f then some u else mA g) = none
   rw [if_neg q]; exact z
theorem Inv.made (I:Inv X pins σ H s) : Inv X pins σ (upd (upd H s.heap.objs.size (.own (s.heap.objs.size + 1))) (s.heap.objs.size + 1) (.ins C s.heap.objs.size []))
  { s with heap:=(s.heap.push PySem.W.emptyDict).push (PySem.W.instObj C s.heap.objs.size) }:=by
 have e1:(s.heap.push PySem.W.emptyDict).get? s.heap.objs.size = some PySem.W.emptyDict:=Heap.get?_push_size s.heap rfl
 have e2:((s.heap.push PySem.W.emptyDict).push (PySem.W.instObj C s.heap.objs.size)).get? (s.heap.objs.size + 1) = some (PySem.W.instObj C s.heap.objs.size):=by
  have:=Heap.get?_push_size (s.heap.push PySem.W.emptyDict) (o:=PySem.W.instObj C s.heap.objs.size) rfl
  rwa [Heap.size_push] at this
 have e3:(s.heap.push PySem.W.emptyDict).Ns s.heap.objs.size (fun _=>none):=⟨PySem.W.emptyDict,#[],_,e1,rfl,(fun e he=>absurd he (by simp)),fun _=>rfl⟩
 have I1:=I.laid (a:=s.heap.objs.size) (o:=.own (s.heap.objs.size + 1)) (h':=s.heap.push PySem.W.emptyDict) (t':=s.toks) (fun b u q=>Heap.get?_push_of_some _ q) (Nat.le_refl _) ⟨_,e1⟩
 refine I1.laid (a:=s.heap.objs.size + 1) (o:=.ins C s.heap.objs.size []) (t':=s.toks) (fun b u q=>Heap.get?_push_of_some _ q) (Nat.le_of_eq (Heap.size_push _ _)) ?_
 have ne:s.heap.objs.size ≠ s.heap.objs.size + 1:=Nat.ne_of_lt (Nat.lt_succ_self _)
 refine ⟨by rw [upd_ne ne,upd_same],Nat.zero_le _,ne,e2,fun _=>none,(Heap.Ns1.of_empty e3).at fun o q=>Heap.get?_push_of_some _ q,fun _=>True.intro,fun y hy=>absurd rfl hy⟩
theorem attr_of {prog:Program} {w:World} {env:Env} {e:Expr} {f:Str} {pos:Pos} {s:Shared} {Q:Value → Shared → Prop} (hb:attributeBase e f env (eval e env) = eval e env)
  (h:wpAny (model prog w) A (eval e env) (fun o s₁=>wpAny (model prog w) A (getAttr o f true) Q E s₁) E s) : wpAny (model prog w) A (eval (.Attribute e f pos) env) Q E s:=
 Attribute_any_ h (by rw [arm_eval_Attribute,hb])
end
def tFld (K:PySem.W.Frag) (ta:TE) (f:Str) : TE:=fun σ H Q=>ta σ H fun x H1=>∃ a C dx fs v,x = .ref a ∧ H1 a = some (.ins C dx fs) ∧ Cls K C ∧ NoAttr K C f ∧ fs.lookup f = some v ∧ Q v H1
def sFld (K:PySem.W.Frag) (ta tv:TE) (f:Str) : TS:=fun D σ H=>tv σ H fun y H1=>ta σ H1 fun x H2=>∃ a C dx fs,x = .ref a ∧ H2 a = some (.ins C dx fs) ∧ Cls K C ∧ NoAttr K C f ∧ fs.length < 1000 ∧
 D.nx σ (upd H2 a (.ins C dx (putF f y fs)))
section
variable {X:Cx} {o e value:Expr} {f:Str} {pos pos' tpos:Pos} {ta tv:TE}
theorem pe_fld (he:PE X e ta) (hb:attributeBase e f X.env (eval e X.env) = eval e X.env) : PE X (.Attribute e f pos) (tFld X.K ta f):=by
 intro pins s σ H Q I h
 refine attr_of hb (thn (he pins s σ H _ I h) fun u s1 ⟨x,H1,I1,rx,a,C,dx,fs,v,ex,ea,c,n,l,q⟩=>?_)
 subst ex
 obtain rfl:u = Value.ref a:=rx
 exact getattr_ok I1 ea c n l fun u' s2 I2 ru=>⟨v,H1,I2,ru,q⟩
theorem ps_fld (ha:PE X o ta) (hv:PE X value tv) (hs:swapsWith value (some (.Attribute o f pos')) pos.line X.env = pure false) : PS X (.Assign [.Attribute o f pos'] value pos) (sFld X.K ta tv f):=by
 intro pins s σ H D I h
 refine plainObj_wpAny_Assign_Attribute (thn (hv pins s σ H _ I h) fun u s1 ⟨y,H1,I1,ry,q⟩=>thn (ha pins s1 σ H1 _ I1 q) fun ov s2 ⟨x,H2,I2,rx,a,C,dx,fs,ex,ea,c,n,l,q2⟩=>?_) hs
 subst ex
 obtain rfl:ov = Value.ref a:=rx
 exact setattr_ok I2 ea c n l ry fun s3 I3=>⟨σ,_,I3,q2⟩
theorem methcall_of {pl:Sem Bool} {m:Str} {apos:Pos} {args:List Expr} {pins:List (Addr × Obj)} {s:Shared} {σ : St} {H:Hp} {Q:Value → Shared → Prop} {te:TE} (he:PE X e te) (I:Inv X pins σ H s)
  (h:te σ H fun x H1=>∃ a C dx fs g,x = .ref a ∧ H1 a = some (.ins C dx fs) ∧ Cls X.K C ∧ Meth X.K C m g ∧ fs.lookup m = none ∧
   ∀ s1,Inv X pins σ H1 s1 → wpAny (model X.prog X.w) X.A (callWith pos (.ref g) [.ref a] (backTo pos (starEach args X.env)) (backToKw pos (keywordEach [] X.env))) Q X.xe s1)
  (ht:eval (.Call (.Attribute e m apos) args [] pos) X.env = (do
   let ov ← eval e X.env
   standAt apos.atName
   let (f,first) ← holding [ov] (getMethod ov m pl)
   callWith pos f first (backTo pos (starEach args X.env)) (backToKw pos (keywordEach [] X.env)))) :
  wpAny (model X.prog X.w) X.A (eval (.Call (.Attribute e m apos) args [] pos) X.env) Q X.xe s:=by
 refine PySem.W.methodCall_KW (pl:=pl) (thn (he pins s σ H _ I h) fun u s1 ⟨x,H1,I1,rx,a,C,dx,fs,g,ex,ea,c,k,l,q⟩=>?_) ht
 subst ex
 obtain rfl:u = Value.ref a:=rx
 exact getmeth_ok I1 ea c k l (q s1 I1)
end
section
variable {X:Cx} {pins:List (Addr × Obj)} {σ : St} {H:Hp} {s:Shared} {A:Around} {E:Value → Shared → Prop} {Q:Value → Shared → Prop} {c:Value} {b:Bool}
inductive TyOf (K:PySem.W.Frag) (H:Hp) : V → Value → Prop where
 | non:TyOf K H .non (.type "NoneType")
 | bl (x:Bool) : TyOf K H (.bl x) (.type "bool")
 | int (i:Int) : TyOf K H (.int i) (.type "int")
 | str (x:Str) : TyOf K H (.str x) (.type "str")
 | flt (x:UInt64) : TyOf K H (.flt x) (.type "float")
 | lst {a:Addr} {xs:List V} (e:H a = some (.lst xs)) : TyOf K H (.ref a) (.type "list")
 | frz {a:Addr} {o:Obj} {xs:List V} (e:H a = some (.frz o (.lst xs))) : TyOf K H (.ref a) (.type "list")
 | tup {a:Addr} {xs:List V} (e:H a = some (.tup xs)) : TyOf K H (.ref a) (.type "tuple")
 | dK {a:Addr} {kvs:List (Key × V)} (e:H a = some (.dK kvs)) : TyOf K H (.ref a) (.type "dict")
 | dT {a:Addr} {kvs:List (List Key × V)} (e:H a = some (.dT kvs)) : TyOf K H (.ref a) (.type "dict")
 | ins {a C dx:Addr} {fs:List (Str × V)} (e:H a = some (.ins C dx fs)) (cl:Cls K C) (ha:PySem.W.findIn K (.ref C) "__class__" = some (some (.builtin "object.__class__")))
   (hn:PySem.W.specialIn K (.builtin "object.__class__") "__get__" = some (some (.builtin "getset_descriptor.__get__"))) (htk:PySem.W.takesIn K (.builtin "object.__class__") = some true)
   (hm:PySem.W.mroIn K C (.type "object") = some true) : TyOf K H (.ref a) (.ref C)
theorem isinst_ok {x:V} {u t:Value} (I:Inv X pins σ H s) (rx:RelV x u) (ty:TyOf X.K H x t) (e:PySem.W.kitOne X.K t c = some b) (h : ∀ tk,Q (.bool b) { s with toks:=tk }) :
  wpAny (model X.prog X.w) A (call (.builtin "isinstance") [u,c]) Q E s:=by
 cases ty with
 | non=>cases (show u = Value.none from rx); exact PySem.W.kia_one PySem.W.kitx_none I.kIn True.intro e (fun z=>nomatch z) h
 | bl y=>cases (show u = Value.bool y from rx); exact PySem.W.kia_one PySem.W.kitx_bool I.kIn True.intro e (fun z=>nomatch z) h
 | int i=>obtain ⟨t,q⟩:=(show ∃ t,u = Value.int i t from rx); cases q; exact PySem.W.kia_one PySem.W.kitx_int I.kIn True.intro e (fun z=>nomatch z) h
 | str y=>obtain ⟨t,q⟩:=(show ∃ t,u = Value.str y t from rx); cases q; exact PySem.W.kia_one PySem.W.kitx_str I.kIn True.intro e (fun z=>nomatch z) h
 | flt y=>obtain ⟨t,q⟩:=(show ∃ t,u = Value.float y t from rx); cases q; exact PySem.W.kia_one PySem.W.kitx_float I.kIn True.intro e (fun z=>nomatch z) h
 | @lst a xs ea=>
  cases (show u = Value.ref a from rx)
  obtain ⟨_,_,n,_,h1⟩:=(show ObjOk X.prog X.w H s.heap a (.lst xs) from I.hok a _ ea)
  exact PySem.W.kia_one PySem.W.kitx_list I.kIn ⟨_,h1,rfl⟩ e (fun z=>nomatch z) h
 | @frz a ob xs ea=>
  cases (show u = Value.ref a from rx)
  obtain ⟨_,_,_,n,_,h1⟩:=(show ObjOk X.prog X.w H s.heap a (.frz ob (.lst xs)) from I.hok a _ ea)
  exact PySem.W.kia_one PySem.W.kitx_list I.kIn ⟨_,h1,rfl⟩ e (fun z=>nomatch z) h
 | @tup a xs ea=>
  cases (show u = Value.ref a from rx)
  obtain ⟨_,_,_,p⟩:=(show ObjOk X.prog X.w H s.heap a (.tup xs) from I.hok a _ ea)
  obtain ⟨o,h1,h2,_⟩:=p
  exact PySem.W.kia_one PySem.W.kitx_tuple I.kIn ⟨o,h1,h2⟩ e (fun z=>nomatch z) h
 | @dK a kvs ea=>
  cases (show u = Value.ref a from rx)
  obtain ⟨_,_,vs,_,p⟩:=(show ObjOk X.prog X.w H s.heap a (.dK kvs) from I.hok a _ ea)
  obtain ⟨o,es,ep,h1,h2,_⟩:=p
  exact PySem.W.kia_one PySem.W.kitx_dict I.kIn ⟨o,h1,h2.1⟩ e (fun z=>nomatch z) h
 | @dT a kvs ea=>
  cases (show u = Value.ref a from rx)
  obtain ⟨_,_,xs,_,o,es,ep,h1,h2,_⟩:=(show ObjOk X.prog X.w H s.heap a (.dT kvs) from I.hok a _ ea)
  exact PySem.W.kia_one PySem.W.kitx_dict I.kIn ⟨o,h1,h2.1⟩ e (fun z=>nomatch z) h
 | @ins a C dx fs ea cl ha hn htk hm=>
  cases (show u = Value.ref a from rx)
  obtain ⟨mA,O,_⟩:=ins_get I.hok ea
  obtain ⟨od,J,_⟩:=O.look
  exact PySem.W.kia_one (PySem.W.kitx_own (cl.get _) cl.hd ha hn htk hm) I.kIn J e (fun z=>nomatch z) h
end
end L2
namespace L2
open PySem PySem.Spec PyProof.Rows
structure Room (k:Nat) (A:Around) : Prop where
 hd:A.handled = none
 dp:A.depth + 3 * k + 5 < recursionLimit
 un:A.units + 16 * k + 200 < cLine
theorem Room.mono {j k:Nat} {A:Around} (r:Room k A) (h:j ≤ k) : Room j A:=⟨r.hd,by have:=r.dp; omega,by have:=r.un; omega⟩
theorem Room.dn {j k:Nat} {A:Around} (r:Room k A) (h:autoParam (j ≤ k) aP2) : Room j A:=r.mono h
theorem Room.deeper {k:Nat} {A:Around} (r:Room (k + 1) A) (env:Env) : Room k (A.deeper env):=
 ⟨r.hd,by have:=r.dp; show A.depth + 1 + 3 * k + 5 < _; omega,by have:=r.un; show A.units + 3 + 16 * k + 200 < _; omega⟩
theorem make_depth {A:Around} {C:Addr} {us:List Value} {kw:List (Str × Value)} : (A.under (.builtin "type.__call__" ⟨.ref C :: us,kw⟩)).depth = A.depth + 1:=by
 first | rfl | simp [Around.under,Code.weight,Code.isCreation,Code.isGuard,Code.isCaller,Code.frames,Code.isFrame,guardIds]
theorem make_units {A:Around} {C:Addr} {us:List Value} {kw:List (Str × Value)} : (A.under (.builtin "type.__call__" ⟨.ref C :: us,kw⟩)).units = A.units + 1:=by
 first | rfl | simp [Around.under,Code.cUnits,Code.frames,Code.isFrame]
theorem Room.make {k:Nat} {A:Around} (r:Room (k + 1) A) (C:Addr) (us:List Value) (kw:List (Str × Value)) : Room k (A.under (.builtin "type.__call__" ⟨.ref C :: us,kw⟩)):=
 ⟨r.hd,by have:=r.dp; rw [make_depth]; omega,by have:=r.un; rw [make_units]; omega⟩
theorem Room.depth {k:Nat} {A:Around} (r:Room k A) : A.depth < recursionLimit:=by have:=r.dp; omega
theorem Room.units {k:Nat} {A:Around} (r:Room k A) : A.units + 64 < cLine:=by have:=r.un; omega
def tNil:TA:=fun _ H Q=>Q [] H
def tCons (ta:TE) (tr:TA) : TA:=fun σ H Q=>ta σ H fun x H1=>tr σ H1 fun xs H2=>Q (x :: xs) H2
section
variable {X:Cx} {e:Expr} {es:List Expr} {te:TE} {t:TA} {pos:Pos}
theorem pa_nil:PA X [] tNil:=fun _ _ _ _ H Q I h=>Calls.spliced_nil ⟨[],H,I,.nil,h⟩
theorem pa_cons (ha:PE X e te) (hr:PA X es t) (hs:autoParam (starEach (e :: es) X.env = (false,eval e X.env) :: starEach es X.env) aP1) : PA X (e :: es) (tCons te t):=by
 intro pos pins s σ H Q I h
 rw [hs]
 show wpAny _ _ (spliced ((false,eval e X.env) :: backTo pos (starEach es X.env))) _ _ s
 refine Calls.spliced_cons (thn (ha pins s σ H _ I h) fun u s1 ⟨x,H1,I1,r1,q1⟩=>?_)
 exact thn (hr pos pins s1 σ H1 _ I1 q1) fun us s2 ⟨xs,H2,I2,r2,q2⟩=>⟨x :: xs,H2,I2,.cons r1 r2,q2⟩
def tTup (t:TA) : TE:=fun σ H Q=>t σ H fun xs H1=>xs.length ≤ sizeLine ∧ ∀ p,H1 p = none → Q (.ref p) (upd H1 p (.tup xs))
def tLst (t:TA) : TE:=fun σ H Q=>t σ H fun xs H1=>xs.length ≤ sizeLine ∧ ∀ p,H1 p = none → Q (.ref p) (upd H1 p (.lst xs))
theorem pe_tup {x1} (h:PA X es t) : PE X (.Tuple es x1 pos) (tTup t):=by
 intro pins s σ H Q I hq
 refine wpAny_Tuple_spliced (thn (h pos pins s σ H _ I hq) fun us s1 ⟨xs,H1,I1,r,z,q⟩=>⟨by rw [← r.length]; exact z,?_⟩)
 have hf:H1 s1.heap.objs.size = none:=I1.hok.fresh (Nat.le_refl _)
 refine ⟨.ref s1.heap.objs.size,upd H1 s1.heap.objs.size (.tup xs),I1.laid (t':=s1.toks) (fun b u e=>Heap.get?_push_of_some _ e) (Nat.le_refl _) ?_,rfl,q _ hf⟩
 exact ⟨z,us,r,⟨_,Heap.get?_push_size _ rfl,rfl,_,rfl⟩⟩
theorem pe_lst (h:PA X es t) : PE X (.List es pos) (tLst t):=by
 intro pins s σ H Q I hq
 refine wpAny_List_spliced (thn (h pos pins s σ H _ I hq) fun us s1 ⟨xs,H1,I1,r,z,q⟩=>⟨by rw [← r.length]; exact z,?_⟩)
 have hf:H1 s1.heap.objs.size = none:=I1.hok.fresh (Nat.le_refl _)
 refine ⟨.ref s1.heap.objs.size,upd H1 s1.heap.objs.size (.lst xs),I1.laid (t':=s1.toks) (fun b u e=>Heap.get?_push_of_some _ e) (Nat.le_refl _) ?_,rfl,q _ hf⟩
 exact ⟨z,us,0,r,Heap.get?_push_size _ rfl⟩
end
abbrev Sp:=List V → Hp → VK → XK → Prop
abbrev CXT:=List Env → Hp → Shared → XK → Value → Shared → Prop
structure Env0 (P:Program) (w:World) (K:PySem.W.Frag) (mg:Str → Option Value) (base:Heap) (A:Around) (outer:List Env) (s:Shared) (H:Hp) : Prop where
 frames:A.frames = some outer
 mod:Mod K mg base
 bs : ∀ b o,base.get? b = some o → s.heap.get? b = some o ∧ H b = none
 bsz:base.objs.size ≤ s.heap.objs.size
 funs:s.heap.FunFrames base outer
 frf : ∀ b ∈ frs outer,H b = none
 hok:HOk P w H s.heap
 bare:AllBare s.gens
def CE (outer:List Env) (P:Program) (w:World) (H:Hp) (s:Shared) (Q:VK) (u:Value) (s':Shared) : Prop:=
 ∃ v H',s'.os = s.os ∧ AllBare s'.gens ∧ Un (frs outer) [] H H' s.heap s'.heap ∧ HOk P w H' s'.heap ∧ RelV v u ∧ Q v H'
def CR (CX:CXT) (outer:List Env) (P:Program) (w:World) (H:Hp) (s:Shared) (Q:VK) (E:XK) (r:Result) (s':Shared) : Prop:=
 match r with
 | .ok (.ret u)=>CE outer P w H s Q u s'
 | .ok _=>False
 | .error e=>CX outer H s E e s'
structure FnOk (P:Program) (w:World) (K:PySem.W.Frag) (mg:Str → Option Value) (base:Heap) (CX:CXT) (k:Nat) (f:Addr) (fd:FuncData) (ps:List Str) (sp:Sp) : Prop where
 len : ∀ vs H Q E,sp vs H Q E → vs.length = ps.length
 run : ∀ (A:Around) (outer:List Env) (s:Shared) (H:Hp) (args:Args) (us:List Value) (vs:List V) (Q:VK) (E:XK),Room k A → Env0 P w K mg base A outer s H → BindsTo s fd args (ps.zip us) → Vals vs us → sp vs H Q E →
  codeAny (model P w) A (.call (.ref f) args) (CR CX outer P w H s Q E) s
theorem Env0.make {P:Program} {w:World} {K:PySem.W.Frag} {mg:Str → Option Value} {base:Heap} {A:Around} {outer:List Env} {s:Shared} {H:Hp} (e:Env0 P w K mg base A outer s H) (C:Addr) (us:List Value) (kw:List (Str × Value)) :
  Env0 P w K mg base (A.under (.builtin "type.__call__" ⟨.ref C :: us,kw⟩)) outer s H:=⟨by first | exact e.frames | (simpa [Around.under,Code.envs,Code.isFrame,pushEnvs] using e.frames),e.mod,e.bs,e.bsz,e.funs,e.frf,e.hok,e.bare⟩
section
variable {X:Cx} {pins:List (Addr × Obj)} {σ : St} {H:Hp} {s s':Shared}
theorem Inv.env0 (I:Inv X pins σ H s) : Env0 X.prog X.w X.K X.mg X.base X.A X.stack s H:=
 ⟨I.ok.frames,I.ok.mod,I.bs,Nat.le_trans I.ok.bsz I.sz,I.stack,I.stkFree,I.hok,I.bare⟩
theorem Inv.after {Q:VK} {u:Value} (I:Inv X pins σ H s) (h:CE X.stack X.prog X.w H s Q u s') : EP X pins σ Q u s':=by
 obtain ⟨v,H',os,bare,un,hok,r,q⟩:=h
 obtain ⟨hh,g,d,t,os'⟩:=s'
 obtain rfl:os' = s.os:=os
 exact ⟨v,H',I.call (h':=hh) (g':=g) (d':=d) (t':=t) (ch:=[]) un hok bare (fun b z=>absurd z (by simp)),r,q⟩
end
def tCall (sp:Sp) (dvs:List V) (E:XK) (t:TA) : TE:=fun σ H Q=>t σ H fun vs H1=>sp (vs ++ dvs) H1 Q E
def tMeth (C:Addr) (m:Str) (sp:Sp) (dvs:List V) (E:XK) (ta:TE) (t:TA) : TE:=fun σ H Q=>ta σ H fun x H1=>∃ a dx fs,x = .ref a ∧ H1 a = some (.ins C dx fs) ∧ fs.lookup m = none ∧
 t σ H1 fun vs H2=>sp (x :: (vs ++ dvs)) H2 Q E
def tMake (C:Addr) (sp:Sp) (dvs:List V) (E:XK) (t:TA) : TE:=fun σ H Q=>t σ H fun vs H1=>∀ x dx,H1 x = none → H1 dx = none → dx ≠ x →
 sp (.ref x :: (vs ++ dvs)) (upd (upd H1 dx (.own x)) x (.ins C dx [])) (fun v H2=>v = .non ∧ Q (.ref x) H2) E
def Binds (K:PySem.W.Frag) (fd:FuncData) (ps:List Str) (ds:List Value) : Prop:=
 ∀ (s:Shared) (us:List Value),K.In s.heap → (us ++ ds).length = ps.length → BindsTo s fd ⟨us,[]⟩ (ps.zip (us ++ ds))
theorem Binds.all {K:PySem.W.Frag} {fd:FuncData} {ps:List Str} (h : ∀ us:List Value,us.length = ps.length → bindArgs fd ⟨us,[]⟩ = pure (ps.zip us)) : Binds K fd ps []:=fun s us _ hl=>by
 rw [List.append_nil] at hl ⊢
 exact .of_eq (h us hl)
def Passes (CX:CXT) (X:Cx) (E:XK) : Prop:=∀ (pins:List (Addr × Obj)) (σ : St) (H:Hp) (s:Shared) (e:Value) (s':Shared),Inv X pins σ H s → CX X.stack H s E e s' → X.xe e s'
section
variable {X:Cx} {CX:CXT} {k:Nat} {f C:Addr} {fd:FuncData} {ps:List Str} {sp:Sp} {dvs:List V} {ds:List Value} {E:XK} {x m:Str} {p pos apos:Pos} {e o:Expr} {es:List Expr} {ta:TE} {t:TA}
theorem run_fn {pins:List (Addr × Obj)} {σ : St} {H:Hp} {s:Shared} {Q:VK} {us:List Value} {vs:List V} (F:FnOk X.prog X.w X.K X.mg X.base CX k f fd ps sp) (hr:Room k X.A) (hb:Binds X.K fd ps ds) (hd:Vals dvs ds) (hx:Passes CX X E)
  (I:Inv X pins σ H s) (r:Vals vs us) (h:sp (vs ++ dvs) H Q E) : wpAny (model X.prog X.w) X.A (call (.ref f) us) (EP X pins σ Q) X.xe s:=by
 have r2:Vals (vs ++ dvs) (us ++ ds):=r.append hd
 have hl:(us ++ ds).length = ps.length:=by rw [← r2.length]; exact F.len _ _ _ _ h
 refine wpAny_call (codeAny_mono (F.run X.A X.stack s H ⟨us,[]⟩ (us ++ ds) (vs ++ dvs) Q E hr I.env0 (hb s us I.kIn hl) r2 h) fun r s' hq=>?_)
 cases r with
 | error e=>exact hx pins σ H s e s' I hq
 | ok fl=>
  cases fl with
  | ret u=>exact I.after hq
  | next=>exact False.elim hq
  | brk=>exact False.elim hq
  | cont=>exact False.elim hq
theorem pe_call (F:FnOk X.prog X.w X.K X.mg X.base CX k f fd ps sp) (hr:Room k X.A) (hg:Gl X x) (hm:X.mg x = some (.ref f)) (hk:PySem.W.keepIn X.K (.ref f) = true) (hb:Binds X.K fd ps ds) (hd:Vals dvs ds) (hx:Passes CX X E)
  (ha:PA X (e :: es) t) (hdb:autoParam ((x == ("__debug__" : Str)) = false) aP2) (he:autoParam (starEach (e :: es) X.env = (false,eval e X.env) :: starEach es X.env) aP1) (hpl:autoParam ((backTo pos (starEach es X.env)).any (·.1) = false) aP1) :
  PE X (.Call (.Name x p) (e :: es) [] pos) (tCall sp dvs E t):=by
 intro pins s σ H Q I h
 refine wpAny_Call_Name_kw (ld_glob I hg hm ?_ hdb)
 refine PySem.W.callWith_K (h₀:=X.base) I.ok.mod.kin hk (thn (ha pos pins s σ H _ I h) fun us s1 ⟨vs,H1,I1,r,q⟩=>⟨I1.kIn,?_⟩) he hpl
 exact run_fn F hr hb hd hx I1 r q
theorem pe_meth {pl:Sem Bool} (he:PE X o ta) (c:Cls X.K C) (hm:Meth X.K C m f) (F:FnOk X.prog X.w X.K X.mg X.base CX k f fd ps sp) (hr:Room k X.A) (hb:Binds X.K fd ps ds) (hd:Vals dvs ds) (hx:Passes CX X E) (ha:PA X (e :: es) t)
  (hst:autoParam (starEach (e :: es) X.env = (false,eval e X.env) :: starEach es X.env) aP1) (hpl:autoParam ((backTo pos (starEach es X.env)).any (·.1) = false) aP1)
  (ht:autoParam (eval (.Call (.Attribute o m apos) (e :: es) [] pos) X.env = (do
   let ov ← eval o X.env
   standAt apos.atName
   let (f,first) ← holding [ov] (getMethod ov m pl)
   callWith pos f first (backTo pos (starEach (e :: es) X.env)) (backToKw pos (keywordEach [] X.env)))) aP1) :
  PE X (.Call (.Attribute o m apos) (e :: es) [] pos) (tMeth C m sp dvs E ta t):=by
 intro pins s σ H Q I h
 refine PySem.W.methodCall_KW (pl:=pl) (thn (he pins s σ H _ I h) fun u s1 ⟨x,H1,I1,rx,a,dx,fs,ex,ea,l,q⟩=>?_) ht
 subst ex
 obtain rfl:u = Value.ref a:=rx
 refine getmeth_ok I1 ea c hm l ?_
 refine PySem.W.callWith_K (first:=[.ref a]) (h₀:=X.base) I.ok.mod.kin hm.kp (thn (ha pos pins s1 σ H1 _ I1 q) fun us s2 ⟨vs,H2,I2,r,q2⟩=>⟨I2.kIn,?_⟩) hst hpl
 exact run_fn (us:=.ref a :: us) (vs:=.ref a :: vs) F hr hb hd hx I2 (.cons rfl r) q2
theorem pe_meth0 {pl:Sem Bool} (he:PE X o ta) (c:Cls X.K C) (hm:Meth X.K C m f) (F:FnOk X.prog X.w X.K X.mg X.base CX k f fd ps sp) (hr:Room k X.A) (hb:Binds X.K fd ps ds) (hd:Vals dvs ds) (hx:Passes CX X E)
  (ht:autoParam (eval (.Call (.Attribute o m apos) [] [] pos) X.env = (do
   let ov ← eval o X.env
   standAt apos.atName
   let (f,first) ← holding [ov] (getMethod ov m pl)
   callWith pos f first (backTo pos (starEach [] X.env)) (backToKw pos (keywordEach [] X.env)))) aP1) :
  PE X (.Call (.Attribute o m apos) [] [] pos) (tMeth C m sp dvs E ta tNil):=by
 intro pins s σ H Q I h
 refine PySem.W.methodCall_KW (pl:=pl) (thn (he pins s σ H _ I h) fun u s1 ⟨x,H1,I1,rx,a,dx,fs,ex,ea,l,q⟩=>?_) ht
 subst ex
 obtain rfl:u = Value.ref a:=rx
 refine getmeth_ok I1 ea c hm l ?_
 exact PySem.W.callWith_K0 (first:=[.ref a]) I1.kIn hm.kp (run_fn (us:=[.ref a]) (vs:=[.ref a]) F hr hb hd hx I1 (.cons rfl .nil) q)
structure Mk (K:PySem.W.Frag) (C f:Addr) : Prop where
 makes:PySem.W.makesIn K C = true
 init:PySem.W.findIn K (.ref C) "__init__" = some (some (.ref f))
 fn:PySem.W.isFn K (.ref f) = true
 kp:PySem.W.keepIn K (.ref C) = true
theorem run_make {pins:List (Addr × Obj)} {σ : St} {H:Hp} {s:Shared} {Q:VK} {us:List Value} {vs:List V} (M:Mk X.K C f) (F:FnOk X.prog X.w X.K X.mg X.base CX k f fd ps sp) (hr:Room (k + 1) X.A) (hb:Binds X.K fd ps ds) (hd:Vals dvs ds)
  (hx:Passes CX X E) (I:Inv X pins σ H s) (r:Vals vs us)
  (h : ∀ x dx,H x = none → H dx = none → dx ≠ x → sp (.ref x :: (vs ++ dvs)) (upd (upd H dx (.own x)) x (.ins C dx [])) (fun v H2=>v = .non ∧ Q (.ref x) H2) E) :
  wpAny (model X.prog X.w) X.A (call (.ref C) us) (EP X pins σ Q) X.xe s:=by
 have hq:=h (s.heap.objs.size + 1) s.heap.objs.size (I.hok.fresh (Nat.le_succ _)) (I.hok.fresh (Nat.le_refl _)) (Nat.ne_of_lt (Nat.lt_succ_self _))
 have I2:=Inv.made (C:=C) I
 have r2:Vals (V.ref (s.heap.objs.size + 1) :: (vs ++ dvs)) (Value.ref (s.heap.objs.size + 1) :: (us ++ ds)):=.cons rfl (r.append hd)
 have hl:(Value.ref (s.heap.objs.size + 1) :: us ++ ds).length = ps.length:=by
  have e:=r2.length
  rw [F.len _ _ _ _ hq] at e
  exact e.symm
 refine wpAny_call (make_map (f:=f) I.kIn M.makes M.init (beq_iff_eq.mp M.fn) (codeAny_mono (F.run _ X.stack _ _ ⟨Value.ref (s.heap.objs.size + 1) :: us,[]⟩ (Value.ref (s.heap.objs.size + 1) :: (us ++ ds)) _ _ E (hr.make C us [])
  (I2.env0.make C us []) (hb _ (Value.ref (s.heap.objs.size + 1) :: us) I2.kIn hl) r2 hq) fun r s' hq'=>?_))
 cases r with
 | error e=>exact hx pins σ _ _ e s' I2 hq'
 | ok fl=>
  cases fl with
  | ret u=>
   obtain ⟨v,H',I3,rv,ev,q3⟩:=I2.after hq'
   subst ev
   exact ⟨rv,⟨V.ref (s.heap.objs.size + 1),H',I3,rfl,q3⟩⟩
  | next=>exact False.elim hq'
  | brk=>exact False.elim hq'
  | cont=>exact False.elim hq'
theorem pe_make (M:Mk X.K C f) (F:FnOk X.prog X.w X.K X.mg X.base CX k f fd ps sp) (hr:Room (k + 1) X.A) (hg:Gl X x) (hm:X.mg x = some (.ref C)) (hb:Binds X.K fd ps ds) (hd:Vals dvs ds) (hx:Passes CX X E)
  (ha:PA X (e :: es) t) (hdb:autoParam ((x == ("__debug__" : Str)) = false) aP2) (he:autoParam (starEach (e :: es) X.env = (false,eval e X.env) :: starEach es X.env) aP1) (hpl:autoParam ((backTo pos (starEach es X.env)).any (·.1) = false) aP1) :
  PE X (.Call (.Name x p) (e :: es) [] pos) (tMake C sp dvs E t):=by
 intro pins s σ H Q I h
 refine wpAny_Call_Name_kw (ld_glob I hg hm ?_ hdb)
 refine PySem.W.callWith_K (h₀:=X.base) I.ok.mod.kin M.kp (thn (ha pos pins s σ H _ I h) fun us s1 ⟨vs,H1,I1,r,q⟩=>⟨I1.kIn,?_⟩) he hpl
 exact run_make M F hr hb hd hx I1 r q
end
def PK (X:Cx) (kws:List Keyword) (t:TA) : Prop:=
 ∀ (pos:Pos) (pins:List (Addr × Obj)) (s:Shared) (σ : St) (H:Hp) (Q:List V → Hp → Prop),Inv X pins σ H s → t σ H Q → wpAny (model X.prog X.w) X.A (evalAll ((backToKw pos (keywordEach kws X.env)).map (·.2))) (AP X pins σ Q) X.xe s
section
variable {X:Cx} {CX:CXT} {k:Nat} {f C:Addr} {fd:FuncData} {ps ks:List Str} {sp:Sp} {E:XK} {x m:Str} {p pos apos kpos:Pos} {e o:Expr} {es:List Expr} {kws:List Keyword} {te ta:TE} {t tk:TA} {nm:Option Str}
theorem pk_nil:PK X [] tNil:=fun _ _ _ _ H Q I h=>wpAny_evalAll_nil ⟨[],H,I,.nil,h⟩
theorem pk_cons (ha:PE X e te) (hr:PK X kws t) : PK X (⟨nm,e,kpos⟩ :: kws) (tCons te t):=by
 intro pos pins s σ H Q I h
 show wpAny _ _ (evalAll ((do let v ← eval e X.env; standAt pos; pure v) :: (backToKw pos (keywordEach kws X.env)).map (·.2))) _ _ s
 refine wpAny_evalAll_cons (wpAny_bind (thn (ha pins s σ H _ I h) fun u s1 ⟨x,H1,I1,r1,q1⟩=>wpAny_bind (wpAny_standAt (wpAny_pure ?_))))
 exact thn (hr pos pins s1 σ H1 _ I1 q1) fun us s2 ⟨xs,H2,I2,r2,q2⟩=>⟨x :: xs,H2,I2,.cons r1 r2,q2⟩
structure KBinds (K:PySem.W.Frag) (fd:FuncData) (ps ks:List Str) (g:List Value → List Value → List Value) (gV:List V → List V → List V) : Prop where
 to : ∀ (s:Shared) (us ws:List Value),K.In s.heap → (g us ws).length = ps.length → BindsTo s fd ⟨us,ks.zip ws⟩ (ps.zip (g us ws))
 rel : ∀ {vs:List V} {us:List Value} {zs:List V} {ws:List Value},Vals vs us → Vals zs ws → Vals (gV vs zs) (g us ws)
def tCallK (sp:Sp) (gV:List V → List V → List V) (E:XK) (t tk:TA) : TE:=fun σ H Q=>t σ H fun vs H1=>tk σ H1 fun zs H2=>sp (gV vs zs) H2 Q E
variable {g:List Value → List Value → List Value} {gV:List V → List V → List V}
theorem run_fnk {pins:List (Addr × Obj)} {σ : St} {H:Hp} {s:Shared} {Q:VK} {us ws:List Value} {vs zs:List V} (F:FnOk X.prog X.w X.K X.mg X.base CX k f fd ps sp) (hr:Room k X.A) (hb:KBinds X.K fd ps ks g gV) (hx:Passes CX X E)
  (I:Inv X pins σ H s) (r:Vals vs us) (rz:Vals zs ws) (h:sp (gV vs zs) H Q E) : wpAny (model X.prog X.w) X.A (call (.ref f) us (ks.zip ws)) (EP X pins σ Q) X.xe s:=by
 have r2:=hb.rel r rz
 have hl:(g us ws).length = ps.length:=by rw [← r2.length]; exact F.len _ _ _ _ h
 refine wpAny_call (codeAny_mono (F.run X.A X.stack s H ⟨us,ks.zip ws⟩ (g us ws) (gV vs zs) Q E hr I.env0 (hb.to s us ws I.kIn hl) r2 h) fun r s' hq=>?_)
 cases r with
 | error e=>exact hx pins σ H s e s' I hq
 | ok fl=>
  cases fl with
  | ret u=>exact I.after hq
  | next=>exact False.elim hq
  | brk=>exact False.elim hq
  | cont=>exact False.elim hq
theorem pe_callK (F:FnOk X.prog X.w X.K X.mg X.base CX k f fd ps sp) (hr:Room k X.A) (hg:Gl X x) (hm:X.mg x = some (.ref f)) (hk:PySem.W.keepIn X.K (.ref f) = true) (hb:KBinds X.K fd ps ks g gV) (hx:Passes CX X E)
  (ha:PA X (e :: es) t) (hkw:PK X kws tk) (hall:autoParam ((backToKw pos (keywordEach kws X.env)).all (·.1.isSome) = true) aP1) (hks:autoParam ((backToKw pos (keywordEach kws X.env)).filterMap (·.1) = ks) aP1)
  (hdb:autoParam ((x == ("__debug__" : Str)) = false) aP2) (he:autoParam (starEach (e :: es) X.env = (false,eval e X.env) :: starEach es X.env) aP1)
  (hpl:autoParam (((backTo pos (starEach (e :: es) X.env)).any (·.1) || (backToKw pos (keywordEach kws X.env)).any (·.1.isNone)) = false) aP1) :
  PE X (.Call (.Name x p) (e :: es) kws pos) (tCallK sp gV E t tk):=by
 intro pins s σ H Q I h
 refine wpAny_Call_Name_kw (ld_glob I hg hm ?_ hdb)
 refine PySem.W.callWith_KW (h₀:=X.base) I.ok.mod.kin hk hall (thn (ha pos pins s σ H _ I h) fun us s1 ⟨vs,H1,I1,r,q⟩=>?_) hpl he
 refine thn (hkw pos pins s1 σ H1 _ I1 q) fun ws s2 ⟨zs,H2,I2,rz,q2⟩=>⟨I2.kIn,?_⟩
 rw [hks]
 exact run_fnk F hr hb hx I2 r rz q2
end
structure FnScope (N P:List Str) (sc:Scope) : Prop where
 kind:sc.kind = .function
 co:sc.isCoroutine = false
 gen:sc.isGenerator = false
 nd:N.Nodup
 pre:N.take P.length = P
 par : ∀ x ∈ P,sc.names.lookup x = some .local ∨ sc.names.lookup x = some .cell
 nofree : ∀ y ∈ sc.names,y.2 ≠ .free
theorem fsc {N P:List Str} {sc:Scope} (a:autoParam (sc.kind = .function) aP1) (b:autoParam (sc.isCoroutine = false) aP1) (c:autoParam (sc.isGenerator = false) aP1) (d:autoParam (N.Nodup) aP4) (e:autoParam (N.take P.length = P) aP1) (f:autoParam (∀ x ∈ P,sc.names.lookup x = some .local ∨ sc.names.lookup x = some .cell) aP4) (g:autoParam (∀ y ∈ sc.names,y.2 ≠ .free) aP4) : FnScope N P sc:=⟨a,b,c,d,e,f,g⟩
theorem bindL_out {kindOf:Str → Option NameKind} {x:Str} : ∀ {binds:List (Str × Value)} {m:Str → Option Value},(∀ v,(x,v) ∉ binds) → bindL kindOf binds m x = m x
 | [],_,_=>rfl
 | (n,v) :: r,m,h=>by
  unfold bindL
  rw [bindL_out fun w hw=>h w (List.mem_cons_of_mem _ hw)]
  split
  ·have:x ≠ n:=by rintro rfl; exact h v List.mem_cons_self
   simp [this]
  ·rfl
theorem bindC_out {kindOf:Str → Option NameKind} {x:Str} : ∀ {binds:List (Str × Value)} {m:Str → Option Value},(∀ v,(x,v) ∉ binds) → bindC kindOf binds m x = m x
 | [],_,_=>rfl
 | (n,v) :: r,m,h=>by
  unfold bindC
  rw [bindC_out fun w hw=>h w (List.mem_cons_of_mem _ hw)]
  split
  ·rfl
  ·have:x ≠ n:=by rintro rfl; exact h v List.mem_cons_self
   simp [this]
theorem bindL_get {kindOf:Str → Option NameKind} {x:Str} {v:Value} : ∀ {P:List Str} {vs:List Value} {i:Nat} {m:Str → Option Value},P.Nodup → P[i]? = some x → vs[i]? = some v → kindOf x = some .local →
  bindL kindOf (P.zip vs) m x = some v
 | [],_,_,_,_,h,_,_=>by simp at h
 | _ :: _,[],_,_,_,_,h,_=>by simp at h
 | p :: P,w :: vs,0,m,nd,h1,h2,hk=>by
  simp at h1 h2; subst h1; subst h2
  show bindL kindOf ((p,w) :: P.zip vs) m p = _
  unfold bindL
  rw [bindL_out fun v hv=>(List.nodup_cons.mp nd).1 (List.of_mem_zip hv).1,if_pos hk]
  simp
 | p :: P,w :: vs,i + 1,m,nd,h1,h2,hk=>by
  show bindL kindOf ((p,w) :: P.zip vs) m x = _
  unfold bindL
  exact bindL_get (i:=i) (List.nodup_cons.mp nd).2 (by simpa using h1) (by simpa using h2) hk
theorem bindC_get {kindOf:Str → Option NameKind} {x:Str} {v:Value} : ∀ {P:List Str} {vs:List Value} {i:Nat} {m:Str → Option Value},P.Nodup → P[i]? = some x → vs[i]? = some v → kindOf x ≠ some .local →
  bindC kindOf (P.zip vs) m x = some v
 | [],_,_,_,_,h,_,_=>by simp at h
 | _ :: _,[],_,_,_,_,h,_=>by simp at h
 | p :: P,w :: vs,0,m,nd,h1,h2,hk=>by
  simp at h1 h2; subst h1; subst h2
  show bindC kindOf ((p,w) :: P.zip vs) m p = _
  unfold bindC
  rw [bindC_out fun v hv=>(List.nodup_cons.mp nd).1 (List.of_mem_zip hv).1,if_neg hk]
  simp
 | p :: P,w :: vs,i + 1,m,nd,h1,h2,hk=>by
  show bindC kindOf ((p,w) :: P.zip vs) m x = _
  unfold bindC
  exact bindC_get (i:=i) (List.nodup_cons.mp nd).2 (by simpa using h1) (by simpa using h2) hk
def start (N:List Str) (vs:List V) : St:=vs.map some ++ List.replicate (N.length - vs.length) none
def cxOf (CX:CXT) (P:Program) (w:World) (K:PySem.W.Frag) (mg:Str → Option Value) (base:Heap) (N:List Str) (qual:Str) (scope:Scope) (f:Addr) (cd:Value) (A:Around) (outer:List Env) (s:Shared) (H:Hp) (E:XK) : Cx where
 prog:=P
 w:=w
 K:=K
 mg:=mg
 base:=base
 A:=A.deeper (envOfC qual scope s.heap.objs.size f cd)
 N:=N
 s₀:=s
 H₀:=H
 env:=envOfC qual scope s.heap.objs.size f cd
 outer:=outer
 stack:=envOfC qual scope s.heap.objs.size f cd :: outer
 ex:=[]
 calm:=true
 fn:=fun _=>true
 pn:=[]
 xe:=fun e s'=>wpAny (model P w) (A.deeper (envOfC qual scope s.heap.objs.size f cd)) (leaving (envOfC qual scope s.heap.objs.size f cd) e) (fun _ s''=>CX outer H s E e s'') (fun e' s''=>CX outer H s E e' s'') s'
theorem cell_has {sc:Scope} {n:Nat} {x:Str} (h:sc.names.lookup x = some .cell) : ∃ c,(cellsFrom n sc.names []).lookup x = some c:=by
 have q:=PySem.W.cellsFrom_some sc.names n [] (.inl h)
 exact Option.isSome_iff_exists.mp q
theorem inv_start {CX:CXT} {P:Program} {w:World} {K:PySem.W.Frag} {mg:Str → Option Value} {base:Heap} {N ps:List Str} {qual:Str} {scope:Scope} {f:Addr} {cd:Value} {A:Around} {outer:List Env} {s s1:Shared} {H:Hp} {E:XK} {us:List Value} {vs:List V}
  (S:FnScope N ps scope) (hd:A.handled = none) (e0:Env0 P w K mg base A outer s H) (hl:vs.length = ps.length) (r:Vals vs us)
  (x:InCallC s s.heap.objs.size (bindL (envOfC qual scope s.heap.objs.size f cd).kindOf (ps.zip us) fun _=>none) (cellsFrom (s.heap.objs.size + 1) scope.names []) (bindC (envOfC qual scope s.heap.objs.size f cd).kindOf (ps.zip us) fun _=>none) s1) :
  Inv (cxOf CX P w K mg base N qual scope f cd A outer s H E) [] (start N vs) H s1:=by
 have hpl:ps.length ≤ N.length:=by have:=congrArg List.length S.pre; rw [List.length_take] at this; omega
 obtain ⟨h1,tk,rfl,hk⟩:=x.done
 have noA : ∀ b:Addr,b ∉ (cxOf CX P w K mg base N qual scope f cd A outer s H E).ex:=fun b z=>absurd (show b ∈ ([] : List Addr) from z) (by simp)
 refine ⟨⟨e0.mod,S.kind,rfl,rfl,Nat.le_refl _,fun y z c h1 h2=>?_,fun y hy=>?_,fun y c _ h=>?_,fun _=>hd,Around.frames_deeper e0.frames,.inr ⟨rfl,rfl⟩,fun b z=>absurd z (noA b),e0.bs,e0.bsz,fun b _ _=>noA b,fun b z=>absurd z (noA b),e0.funs,e0.frf⟩,
  rfl,e0.bare,Un.kept hk,⟨_,x.toInCall.ns,fun i y v h1 h2 h3=>?_⟩,fun y c h=>⟨_,x.cell y c h⟩,e0.hok.fresh (Nat.le_refl _),fun y c h=>?_,fun p hp=>absurd (show p ∈ ([] : List (Addr × Obj)) from hp) (by simp),e0.hok.kept hk,?_⟩
 ·exact name_of_addr x.apart (PySem.mem_of_lookup h1) (PySem.mem_of_lookup h2)
 ·have hy:scope.names.lookup y = some .cell ∨ scope.names.lookup y = some .free:=hy
  rcases hy with hy | hy
  ·exact cell_has hy
  ·exact absurd rfl (S.nofree _ (PySem.mem_of_lookup hy))
 ·exact Nat.le_of_lt (x.above y c (PySem.mem_of_lookup h))
 ·have hi:i < vs.length:=by
   unfold start at h2
   by_cases hi:i < vs.length
   ·exact hi
   ·rw [List.getElem?_append_right (by simpa using hi)] at h2
    rw [List.getElem?_replicate] at h2
    split at h2 <;> cases h2
  have ha:vs[i]? = some v:=by
   unfold start at h2
   rw [List.getElem?_append_left (by simpa using hi),List.getElem?_map] at h2
   cases e:vs[i]? with
   | none=>rw [e] at h2; cases h2
   | some a=>rw [e] at h2; cases h2; rfl
  obtain ⟨u,hu,rv⟩:=r.get ha
  have hp:ps[i]? = some y:=by
   rw [← S.pre,List.getElem?_take_of_lt (by omega)]; exact h1
  have ndP:ps.Nodup:=by rw [← S.pre]; exact S.nd.sublist (List.take_sublist _ _)
  refine ⟨u,rv,?_⟩
  rcases S.par y (List.mem_of_getElem? hp) with k | k
  ·exact .inl ⟨k,bindL_get ndP hp hu k⟩
  ·obtain ⟨c,e⟩:=cell_has (n:=s.heap.objs.size + 1) k
   refine .inr ⟨.inl k,c,e,?_⟩
   have q:=x.cell y c e
   rw [bindC_get ndP hp hu (by show scope.names.lookup y ≠ _; rw [k]; decide)] at q
   exact q
 ·exact e0.hok.fresh (Nat.le_of_lt (x.above y c (PySem.mem_of_lookup h)))
 ·unfold start
  show _ = N.length
  rw [List.length_append,List.length_map,List.length_replicate]
  omega
theorem fn_of {CX:CXT} {P:Program} {w:World} {K:PySem.W.Frag} {mg:Str → Option Value} {base:Heap} {k:Nat} {f:Addr} {name qual:Str} {params:Arguments} {body:List Stmt} {scope:Scope} {dV kV doc pm cdv ct oc:Value} {an od:Option Addr}
  {osl:Array (Option Value)} {N ps:List Str} {sp:Sp} (lk:K.lookup f = some ⟨oc,od,.func (PySem.W.fnOf name qual params body scope dV kV doc pm an cdv ct),osl⟩) (hcd:PySem.W.codeIn K cdv qual = true) (S:FnScope N ps scope)
  (len : ∀ vs H Q E,sp vs H Q E → vs.length = ps.length)
  (hbody : ∀ (A:Around) (outer:List Env) (s:Shared) (H:Hp) (vs:List V) (Q:VK) (E:XK),Room k (A.deeper (envOfC qual scope s.heap.objs.size f cdv)) → sp vs H Q E →
   ∃ t,PSs (cxOf CX P w K mg base N qual scope f cdv A outer s H E) body t ∧ t { nx:=fun _ H'=>Q .non H',rt:=Q } (start N vs) H) :
  FnOk P w K mg base CX (k + 1) f (PySem.W.fnOf name qual params body scope dV kV doc pm an cdv ct) ps sp:=by
 refine ⟨len,fun A outer s H args us vs Q E hr e0 hb r hsp=>?_⟩
 have hl:=len _ _ _ _ hsp
 have KX:K.In s.heap:=e0.mod.kin.keeps fun b o e=>(e0.bs b o e).1
 have lim:s.heap.NoLimit:=e0.mod.nolimit.keeps fun b o e=>(e0.bs b o e).1
 have hkind : ∀ y ∈ ps.zip us,scope.names.lookup y.1 = some .local ∨ (scope.names.lookup y.1 = some .cell ∧ ((cellsFrom (s.heap.objs.size + 1) scope.names []).lookup y.1).isSome = true):=fun ⟨n,v⟩ hy=>by
  rcases S.par n (List.of_mem_zip hy).1 with q | q
  ·exact .inl q
  ·exact .inr ⟨q,PySem.W.cellsFrom_some _ _ _ (.inl q)⟩
 refine codeAny_call_function hr.depth (KX _ _ lk) rfl S.co S.gen rfl (PySem.W.codeRec_of KX hcd) (hb _ _ _ _ ?_)
 refine wpAny_newFunctionEnv_cells S.kind hkind fun env he s1 x=>?_
 subst he
 refine ⟨lim.keeps x.toInCall.keep,codeAny_func ?_⟩
 obtain ⟨t,ht,hq⟩:=hbody A outer s H vs Q E (hr.deeper _) hsp
 have I:Inv (cxOf CX P w K mg base N qual scope f cdv A outer s H E) [] (start N vs) H s1:=inv_start S hr.hd e0 hl r x
 refine wpAny_mono (ht [] s1 (start N vs) H _ I hq) (fun fl s' hs=>?_) fun e s' hs=>hs
 have fin : ∀ {σ':St} {H':Hp} {v:V} {u:Value},Inv (cxOf CX P w K mg base N qual scope f cdv A outer s H E) [] σ' H' s' → RelV v u → Q v H' → CE outer P w H s Q u s':=
  fun {σ' H' v u} J rv q=>⟨v,H',J.os,J.bare,J.base,J.hok,rv,q⟩
 cases fl with
 | ret u=>
  obtain ⟨v,σ',H',J,rv,q⟩:=hs
  exact fin J rv q
 | next=>
  obtain ⟨σ',H',J,q⟩:=hs
  exact fin (v:=V.non) (u:=Value.none) J rfl q
 | brk=>
  obtain ⟨_,_,_,q⟩:=hs
  exact False.elim q
 | cont=>
  obtain ⟨_,_,_,q⟩:=hs
  exact False.elim q
end L2
namespace L2
open PySem PySem.Spec PyProof.Rows
section
variable {X:Cx} {x:Str} {p pos:Pos} {e:Expr} {es:List Expr} {t:TA} {id T:String} {r:List V → Hp → VK → Prop}
def tCB (r:List V → Hp → VK → Prop) (t:TA) : TE:=fun σ H Q=>t σ H fun vs H1=>r vs H1 Q
theorem pe_callB (hc:CallR X (.builtin id) r) (hg:Gl X x) (hm:X.mg x = none) (hv:bootBuiltins x = some (.builtin id)) (ha:PA X (e :: es) t) (hn:autoParam (x ≠ "__name__") aP2) (hdb:autoParam ((x == ("__debug__" : Str)) = false) aP2)
  (he:autoParam (starEach (e :: es) X.env = (false,eval e X.env) :: starEach es X.env) aP1) (hpl:autoParam ((backTo pos (starEach es X.env)).any (·.1) = false) aP1) : PE X (.Call (.Name x p) (e :: es) [] pos) (tCB r t):=by
 intro pins s σ H Q I h
 refine wpAny_Call_Name_kw (ld_blt I hg hm hv ?_ hn hdb)
 exact PyProof.Rows.callWith_builtin1 (thn (ha pos pins s σ H _ I h) fun us s1 ⟨vs,H1,I1,r1,q1⟩=>hc pins s1 σ H1 vs us Q I1 r1 q1) he hpl
theorem pe_callTy (hc:CallR X (.type T) r) (hg:Gl X x) (hm:X.mg x = none) (hv:bootBuiltins x = some (.type T)) (ha:PA X (e :: es) t) (hn:autoParam (x ≠ "__name__") aP2) (hdb:autoParam ((x == ("__debug__" : Str)) = false) aP2)
  (he:autoParam (starEach (e :: es) X.env = (false,eval e X.env) :: starEach es X.env) aP1) (hpl:autoParam ((backTo pos (starEach es X.env)).any (·.1) = false) aP1) : PE X (.Call (.Name x p) (e :: es) [] pos) (tCB r t):=by
 intro pins s σ H Q I h
 refine wpAny_Call_Name_kw (ld_blt I hg hm hv ?_ hn hdb)
 exact PyProof.Rows.callWith_type1 (thn (ha pos pins s σ H _ I h) fun us s1 ⟨vs,H1,I1,r1,q1⟩=>hc pins s1 σ H1 vs us Q I1 r1 q1) he hpl
end
end L2
namespace HT
open PySem PyProof.Rows
section
open PySem.SeqAt
open PySem.AutoSeq1 (wpAny_loadPart')
open PySem.MeetsSeq PySem.MeetsSeq2 PySem.MeetsSeq3
end
section
variable {prog:Program} {w:World} {A:Around} {E:Value → Shared → Prop} {s:Shared}
def sIx (n d:Nat) : Option Int → Nat
 | none=>d
 | some v=>if v < 0 then (v + (n:Int)).toNat else min v.toNat n
theorem sIx_le (n d:Nat) (hd:d ≤ n) (o:Option Int) : sIx n d o ≤ n:=by
 cases o with
 | none=>exact hd
 | some v=>
  show (if v < 0 then (v + (n:Int)).toNat else min v.toNat n) ≤ n
  by_cases hv:v < 0
  ·rw [if_pos hv]; omega
  ·rw [if_neg hv]; exact Nat.min_le_right _ _
theorem clip_eq (v:Int) (n d:Nat) : (if v < 0 then max (v + (n:Int)) 0 else min v (n:Int)) = ((sIx n d (some v) : Nat) : Int):=by
 show (if v < 0 then max (v + (n:Int)) 0 else min v (n:Int)) = (((if v < 0 then (v + (n:Int)).toNat else min v.toNat n) : Nat) : Int)
 by_cases hv:v < 0
 ·simp only [if_pos hv]; omega
 ·simp only [if_neg hv]; omega
theorem adjust_gen (lo hi:Option Int) (n:Nat) : Builtin.Slice.sliceAdjust lo hi 1 (n:Int) = (((sIx n 0 lo:Nat) : Int),((sIx n n hi:Nat) : Int)):=by
 have h1 : ¬ ((1:Int) < 0):=by omega
 unfold Builtin.Slice.sliceAdjust
 simp only [h1,if_false]
 refine Prod.ext ?_ ?_
 ·cases lo with
  | none=>rfl
  | some v=>exact clip_eq v n 0
 ·cases hi with
  | none=>rfl
  | some v=>exact clip_eq v n n
theorem places_gen (i j:Nat) : Builtin.Slice.slicePlaces (i:Int) (j:Int) 1 = j - i:=by
 unfold Builtin.Slice.slicePlaces
 have h1:(1:Int) > 0:=by omega
 simp only [h1,if_true,Int.ediv_one]
 split <;> omega
theorem slicePart_ {v:Value} {o:Option Int} {Q:Option Int → Shared → Prop} (p:IsPart v o) (h:Q o s) : wpAny (model prog w) A (Builtin.Slice.slicePartIndex v) Q E s:=by
 cases p with
 | none=>exact slicePart_none h
 | int i t=>exact slicePart_int h
theorem sliceApplied_gen {sl:Addr} {vl vu:Value} {lo hi:Option Int} {n:Nat} {Q:Int × Int × Nat → Shared → Prop} (hs:s.heap.IsSliceOf sl vl vu .none) (pl:IsPart vl lo) (pu:IsPart vu hi)
  (h:Q (((sIx n 0 lo:Nat) : Int),1,sIx n n hi - sIx n 0 lo) s) : wpAny (model prog w) A (Builtin.Slice.sliceApplied (.ref sl) (pure (n:Int))) Q E s:=by
 obtain ⟨os,hos,hcs,hds⟩:=id hs
 unfold Builtin.Slice.sliceApplied Builtin.Slice.sliceFields
 refine wpAny_bind (wpAny_bind (wpAny_field hos hds (x:=vl) rfl (wpAny_bind (wpAny_field hos hds (x:=vu) rfl (wpAny_bind (wpAny_field hos hds (x:=.none) rfl (wpAny_pure ?_)))))))
 refine wpAny_bind (slicePart_none ?_)
 show wpAny _ _ (if ((1:Int) == 0) = true then _ else _) _ _ s
 rw [if_neg (by decide)]
 refine wpAny_bind (slicePart_ pl (wpAny_bind (slicePart_ pu (wpAny_bind (wpAny_pure ?_)))))
 show wpAny _ _ (match Builtin.Slice.sliceAdjust lo hi 1 (n:Int) with | (lo,hi)=>pure (lo,(1:Int),Builtin.Slice.slicePlaces lo hi 1)) _ _ s
 rw [adjust_gen lo hi n]
 show wpAny _ _ (pure (((sIx n 0 lo:Nat) : Int),(1:Int),Builtin.Slice.slicePlaces ((sIx n 0 lo:Nat) : Int) ((sIx n n hi:Nat) : Int) 1)) _ _ s
 rw [places_gen]
 exact wpAny_pure h
theorem pick_gen (xs:Array Value) (i k:Nat) : ((List.range k).filterMap fun (m:Nat)=>xs[((i:Int) + (m:Int) * 1).toNat]?).toArray = ((xs.toList.drop i).take k).toArray:=by
 have e:(fun (m:Nat)=>xs[((i:Int) + (m:Int) * 1).toNat]?) = fun m=>xs[i + m]?:=by
  funext m
  have:((i:Int) + (m:Int) * 1).toNat = i + m:=by omega
  rw [this]
 rw [e]
 have:=pick_run xs i k
 rw [List.filterMap_map] at this
 have e2:((fun x=>xs[x]?) ∘ fun x=>i + x) = fun m=>xs[i + m]?:=rfl
 rw [e2] at this
 rw [this]
theorem getItem_tuple_cut {t sl:Addr} {items:Array Value} {vl vu:Value} {lo hi:Option Int} {Q:Value → Shared → Prop} (ht:IsTup s.heap t items) (hs:s.heap.IsSliceOf sl vl vu .none) (pl:IsPart vl lo) (pu:IsPart vu hi)
  (hw : ¬ (sIx items.size 0 lo = 0 ∧ sIx items.size items.size hi = items.size))
  (h:Q (.ref s.heap.objs.size) { s with heap:=s.heap.push { cls:=.type "tuple",data:=.seq ((items.toList.drop (sIx items.size 0 lo)).take (sIx items.size items.size hi - sIx items.size 0 lo)).toArray } })
  (hsz:items.size ≤ sizeLine) : wpAny (model prog w) A (getItem (.ref t) (.ref sl)) Q E s:=by
 have htake:sizeOk (.seq ((items.toList.drop (sIx items.size 0 lo)).take (sIx items.size items.size hi - sIx items.size 0 lo)).toArray):=by
  show ((items.toList.drop (sIx items.size 0 lo)).take (sIx items.size items.size hi - sIx items.size 0 lo)).toArray.size ≤ sizeLine
  rw [List.size_toArray,List.length_take,List.length_drop,Array.length_toList]
  omega
 have hj:sIx items.size items.size hi ≤ items.size:=sIx_le _ _ (Nat.le_refl _) hi
 obtain ⟨os,hos,hcs,hds⟩:=id hs
 have hTs:s.TypeIs (.ref sl) "slice" := ⟨os,hos,hcs⟩
 unfold getItem
 try with_reducible refine wpAny_holding ?_
 first | refine wpAny_bind (wpAny_pure ?_) | skip
 refine wpAny_bind (wpAny_sequenceKey ht.typeIs (by decide) ?_)
 refine wpAny_bind (wpAny_callSpecial?_slot (name:=Str.ofString "__getitem__") ht.typeIs PyProof.Rows.slot_tuple_getitem
  (wpAny_call_entry PyProof.Rows.slot_tuple_getitem ht.typeIs entry_tuple_getitem ?_ (args_tuple_getitem _ _)))
 show wpAny _ _ (Builtin.Tuple.tupleItemsOf (.ref t) >>= _) _ _ s
 refine wpAny_bind (tupleItemsOf_ ht ?_)
 refine wpAny_bind (wpAny_typeOf hTs ?_)
 rw [if_pos (by decide)]
 refine wpAny_bind (sliceApplied_gen hs pl pu ?_)
 have hno : ¬ ((((sIx items.size 0 lo:Nat) : Int) == 0 && (1:Int) == 1 && (sIx items.size items.size hi - sIx items.size 0 lo) == items.size) = true):=by
  intro q
  rw [Bool.and_eq_true,Bool.and_eq_true] at q
  have q1:((sIx items.size 0 lo:Nat) : Int) = 0:=eq_of_beq q.1.1
  have q2:sIx items.size items.size hi - sIx items.size 0 lo = items.size:=eq_of_beq q.2
  exact hw ⟨by omega,by omega⟩
 show wpAny _ _ (if (((sIx items.size 0 lo:Nat) : Int) == 0 && (1:Int) == 1 && (sIx items.size items.size hi - sIx items.size 0 lo) == items.size) = true then _ else _) _ _ s
 rw [if_neg hno,pick_gen]
 first
  | exact wpAny_bind (m:=Builtin.Tuple.tupleExact _) (wpAny_newObj_type (wpAny_pure ⟨_,rfl,wpAny_pure h⟩) htake)
  | exact wpAny_bind (m:=Builtin.Tuple.tupleExact _) (wpAny_newObj_type (wpAny_bind (wpAny_pure (wpAny_pure ⟨_,rfl,wpAny_pure h⟩))) htake)
  | exact wpAny_bind (wpAny_bind (m:=Builtin.Tuple.tupleExact _) (wpAny_newObj_type (wpAny_pure (wpAny_pure ⟨_,rfl,wpAny_pure h⟩)) htake))
  | exact wpAny_bind (wpAny_bind (m:=Builtin.Tuple.tupleExact _) (wpAny_newObj_type (wpAny_pure ⟨_,rfl,wpAny_pure h⟩) htake))
end
end HT
namespace L2
open PySem PySem.Spec PyProof.Rows
abbrev TO:=St → Hp → (Option Int → Hp → Prop) → Prop
def PO (X:Cx) (e:Option Expr) (t:TO) : Prop:=
 ∀ (pins:List (Addr × Obj)) (s:Shared) (σ : St) (H:Hp) (Q:Option Int → Hp → Prop),Inv X pins σ H s → t σ H Q →
  wpAny (model X.prog X.w) X.A (evalPart e X.env) (fun u s'=>∃ o H',Inv X pins σ H' s' ∧ IsPart u o ∧ Q o H') X.xe s
def tNoPart:TO:=fun _ H Q=>Q none H
def tPart (t:TE) : TO:=fun σ H Q=>t σ H fun x H1=>∃ i,x = .int i ∧ Q (some i) H1
theorem intsAre_of {ns:List Int} : ∀ {us:List Value},Vals (ns.map V.int) us → IntsAre us ns:=by
 induction ns with
 | nil=>intro us r; rw [List.map_nil] at r; cases r; exact .nil
 | cons n ns ih=>
  intro us r
  rw [List.map_cons] at r
  cases r with
  | cons r1 r2=>
   obtain ⟨t,e⟩:=r1
   subst e
   exact .cons n t (ih r2)
section
variable {X:Cx} {e:Expr} {te:TE} {lo hi:Option Expr} {tl th:TO} {pos p2:Pos}
theorem po_none:PO X none tNoPart:=by
 intro pins s σ H Q I h
 rw [evalPart_none]
 exact wpAny_pure ⟨none,H,I,.none,h⟩
theorem po_some (h:PE X e te) : PO X (some e) (tPart te):=by
 intro pins s σ H Q I hw
 rw [evalPart_some]
 refine thn (h pins s σ H _ I hw) fun u s1 ⟨x,H1,I1,r1,q1⟩=>?_
 obtain ⟨i,rfl,q⟩:=q1
 obtain ⟨t,rfl⟩:=r1
 exact ⟨some i,H1,I1,.int i t,q⟩
def SlR (X:Cx) (r:V → Option Int → Option Int → Hp → VK → Prop) : Prop:=
 ∀ (pins:List (Addr × Obj)) (s:Shared) (σ : St) (H:Hp) (x:V) (v vl vu:Value) (lo hi:Option Int) (sl:Addr) (Q:VK),Inv X pins σ H s → RelV x v → s.heap.IsSliceOf sl vl vu .none → IsPart vl lo → IsPart vu hi → r x lo hi H Q →
  ∃ T id,typeLookup (.type T) "__getitem__" = pure (some (.builtin id)) ∧ s.TypeIs v T ∧ wpAny (model X.prog X.w) X.A (getItem v (.ref sl)) (EP X pins σ Q) X.xe s
def tSl (r:V → Option Int → Option Int → Hp → VK → Prop) (te:TE) (tl th:TO) : TE:=fun σ H Q=>te σ H fun x H1=>tl σ H1 fun l H2=>th σ H2 fun u H3=>r x l u H3 Q
theorem pe_slice {r:V → Option Int → Option Int → Hp → VK → Prop} (hr:SlR X r) (he:PE X e te) (hl:PO X lo tl) (hu:PO X hi th) : PE X (.Subscript e (.Slice lo hi none p2) pos) (tSl r te tl th):=by
 intro pins s σ H Q I h
 refine Subscript_ (thn (he pins s σ H _ I h) fun v s1 ⟨x,H1,I1,r1,q1⟩=>?_)
 refine wpAny_Slice (thn (hl pins s1 σ H1 _ I1 q1) fun vl s2 ⟨l,H2,I2,pl,q2⟩=>thn (hu pins s2 σ H2 _ I2 q2) fun vu s3 ⟨u,H3,I3,pu,q3⟩=>?_)
 rw [evalPart_none]
 refine wpAny_pure ?_
 have I4:Inv X pins σ H3 { s3 with heap:=s3.heap.push { cls:=.type "slice",data:=.fields #[vl,vu,.none] } }:=I3.kept (t':=s3.toks) fun b ob q=>Heap.get?_push_of_some _ q
 obtain ⟨T,id,hT,ht,hg⟩:=hr pins { s3 with heap:=s3.heap.push { cls:=.type "slice",data:=.fields #[vl,vu,.none] } } σ H3 x v vl vu l u s3.heap.objs.size Q I4 r1 (Heap.IsSliceOf.new ..) pl pu q3
 show wpAny (model X.prog X.w) X.A (subscriptTail e (.Slice lo hi none p2) v (.ref s3.heap.objs.size)) (EP X pins σ Q) X.xe { s3 with heap:=s3.heap.push { cls:=.type "slice",data:=.fields #[vl,vu,.none] } }
 exact tail_any (ops:=[.ref s3.heap.objs.size,v]) ht hT hg (by with_unfolding_all rfl)
def cutV (xs:List V) (lo hi:Option Int) : List V:=(xs.drop (HT.sIx xs.length 0 lo)).take (HT.sIx xs.length xs.length hi - HT.sIx xs.length 0 lo)
theorem cutV_length (xs:List V) (lo hi:Option Int) : (cutV xs lo hi).length ≤ xs.length:=by
 unfold cutV
 rw [List.length_take,List.length_drop]
 omega
def rSlT (K:PySem.W.Frag) : V → Option Int → Option Int → Hp → VK → Prop:=fun x lo hi H Q=>∃ a xs,x = .ref a ∧ SqT K H a xs ∧
 ¬ (HT.sIx xs.length 0 lo = 0 ∧ HT.sIx xs.length xs.length hi = xs.length) ∧ ∀ p,H p = none → Q (.ref p) (upd H p (.tup (cutV xs lo hi)))
theorem sl_tup:SlR X (rSlT X.K):=by
 intro pins s σ H x v vl vu lo hi sl Q I rx hs pl pu h
 obtain ⟨a,xs,rfl,hx,hw,q⟩:=h
 cases rx
 obtain ⟨its,r,ht,hz⟩:=I.tuple hx
 have hlen:its.toArray.size = xs.length:=by rw [List.size_toArray]; exact r.length.symm
 refine ⟨"tuple",_,PyProof.Rows.slot_tuple_getitem.lookup,ht.typeIs,?_⟩
 refine HT.getItem_tuple_cut ht hs pl pu (by rw [hlen]; exact hw) ?_ (by rw [hlen]; exact hz)
 rw [hlen]
 refine ⟨.ref s.heap.objs.size,_,I.laid (t':=s.toks) (o:=.tup (cutV xs lo hi)) (fun b ob q=>Heap.get?_push_of_some _ q) (Nat.le_refl _) ?_,rfl,q _ (I.hok.fresh (Nat.le_refl _))⟩
 exact ⟨Nat.le_trans (cutV_length xs lo hi) hz,_,(r.drop (HT.sIx xs.length 0 lo)).take (HT.sIx xs.length xs.length hi - HT.sIx xs.length 0 lo),IsTup.new _ _⟩
end
end L2
namespace L2
open PySem PySem.Spec PyProof.Rows
def ixN (n:Nat) (i:Int) : Option Nat:=if 0 ≤ i then (if i < n then some i.toNat else none) else if -(n:Int) ≤ i then some (i + n).toNat else none
def atI {α : Type} (xs:List α) (i:Int) : Option α:=(ixN xs.length i).bind fun j=>xs[j]?
theorem ixN_seq {n:Nat} {i:Int} {j:Nat} (h:ixN n i = some j) : seqIndex? i n = some j ∧ j < n ∧ -(n:Int) ≤ i ∧ i < n:=by
 unfold ixN at h
 by_cases h0 : 0 ≤ i
 ·rw [if_pos h0] at h
  by_cases h1:i < n
  ·rw [if_pos h1] at h
   have e:i.toNat = j:=Option.some.inj h
   exact ⟨by rw [seqIndex_of h0 h1,e],by omega,by omega,h1⟩
  ·rw [if_neg h1] at h; cases h
 ·rw [if_neg h0] at h
  by_cases h1 : -(n:Int) ≤ i
  ·rw [if_pos h1] at h
   have e:(i + n).toNat = j:=Option.some.inj h
   exact ⟨by rw [seqIndex_neg (by omega) h1,e],by omega,h1,by omega⟩
  ·rw [if_neg h1] at h; cases h
theorem atI_get {α : Type} {xs:List α} {i:Int} {v : α} (h:atI xs i = some v) : ∃ j,seqIndex? i xs.length = some j ∧ xs[j]? = some v ∧ j < xs.length ∧ -(xs.length:Int) ≤ i ∧ i < xs.length:=by
 unfold atI at h
 cases e:ixN xs.length i with
 | none=>rw [e] at h; cases h
 | some j=>
  rw [e] at h
  obtain ⟨h1,h2,h3,h4⟩:=ixN_seq e
  exact ⟨j,h1,h,h2,h3,h4⟩
def PlainIx (b:Expr) : Prop:=∀ o i,subscripted b false o i = operate [o,i] (getItem o i)
def IxR (X:Cx) (r:R2) : Prop:=
 ∀ (value slice:Expr) (pins:List (Addr × Obj)) (s:Shared) (σ : St) (H:Hp) (x y:V) (v u:Value) (Q:VK),Inv X pins σ H s → RelV x v → RelV y u → r x y H Q →
  subscripted slice false v u = operate [v,u] (getItem v u) → wpAny (model X.prog X.w) X.A (subscriptTail value slice v u) (EP X pins σ Q) X.xe s
def MtR (X:Cx) (id:String) (r:V → List V → Hp → VK → Prop) : Prop:=
 ∀ (pins:List (Addr × Obj)) (s:Shared) (σ : St) (H:Hp) (x:V) (xs:List V) (v:Value) (us:List Value) (Q:VK),Inv X pins σ H s → RelV x v → Vals xs us → r x xs H Q →
  wpAny (model X.prog X.w) X.A (call (.builtin id) (v :: us)) (EP X pins σ Q) X.xe s
section
variable {X:Cx} {a b:Expr} {ta tb:TE} {pos:Pos}
theorem pe_ix {r:R2} (hr:IxR X r) (ha:PE X a ta) (hb:PE X b tb) (hs:PlainIx b) : PE X (.Subscript a b pos) (tOp r ta tb):=by
 intro pins s σ H Q I h
 exact Subscript_ (binT ha hb I h fun v u s2 x y H2 I2 rx ry q=>hr a b pins s2 σ H2 x y v u Q I2 rx ry q (hs _ _))
def rIxL (K:PySem.W.Frag) : R2:=fun x y H Q=>∃ p xs i v,x = .ref p ∧ y = .int i ∧ SqL K H p xs ∧ atI xs i = some v ∧ Q v H
def rIxT (K:PySem.W.Frag) : R2:=fun x y H Q=>∃ p xs i v,x = .ref p ∧ y = .int i ∧ SqT K H p xs ∧ atI xs i = some v ∧ Q v H
theorem ix_list:IxR X (rIxL X.K):=by
 intro value slice pins s σ H x y v u Q I rx ry h hs
 obtain ⟨p,xs,i,z,rfl,rfl,hq,he,q⟩:=h
 cases rx
 obtain ⟨t,rfl⟩:=ry
 obtain ⟨its,r,pl,hz⟩:=I.list hq
 obtain ⟨j,h1,h2,h3,h4,h5⟩:=atI_get he
 obtain ⟨w,ew,rw'⟩:=r.get h2
 have hl:=r.length
 have hn:=line63
 have fin:EP X pins σ Q w s:=⟨z,H,I,rw',q⟩
 by_cases h0 : 0 ≤ i
 ·have hj:i.toNat = j:=by
   rw [seqIndex_of h0 h5] at h1
   exact Option.some.inj h1
  exact item_listR pl.isList h0 (by omega) (by rw [hj]; simpa using ew) fin hs
 ·have hj:(i + (its.toArray.size:Int)).toNat = j:=by
   rw [seqIndex_neg (by omega) h4] at h1
   rw [List.size_toArray,← hl]
   exact Option.some.inj h1
  exact subscriptTail_builtinR (x:=w) pl.isList.typeIs slot_list_getitem.lookup
   (wpAny_getItem_list_neg (Q:=fun r s'=>r = w ∧ EP X pins σ Q r s') pl.isList (by omega) (by rw [List.size_toArray] <;> omega) (by omega) (by rw [hj]; simpa using ew) ⟨rfl,fin⟩) hs
theorem ix_tup:IxR X (rIxT X.K):=by
 intro value slice pins s σ H x y v u Q I rx ry h hs
 obtain ⟨p,xs,i,z,rfl,rfl,hq,he,q⟩:=h
 cases rx
 obtain ⟨t,rfl⟩:=ry
 obtain ⟨its,r,pl,hz⟩:=I.tuple hq
 obtain ⟨j,h1,h2,h3,h4,h5⟩:=atI_get he
 obtain ⟨w,ew,rw'⟩:=r.get h2
 have hl:=r.length
 have hn:=line63
 have fin:EP X pins σ Q w s:=⟨z,H,I,rw',q⟩
 exact subscriptTail_builtinR (x:=w) pl.typeIs slot_tuple_getitem.lookup
  (getItem_tuple (j:=j) (Q:=fun r s'=>r = w ∧ EP X pins σ Q r s') pl (by omega) (by omega) (by rw [List.size_toArray,← hl]; exact h1) (by simpa using ew) ⟨rfl,fin⟩) hs
theorem mapSeq_set (its:List Value) (n j:Nat) (u:Value) : Obj.mapSeq (·.setIfInBounds j u) { cls:=.type "list",data:=.seq its.toArray n } = { cls:=.type "list",data:=.seq (its.set j u).toArray n }:=by
 simp [Obj.mapSeq]
theorem Inv.lst {pins:List (Addr × Obj)} {σ : St} {H:Hp} {s:Shared} {p:Addr} {xs:List V} (I:Inv X pins σ H s) (h:H p = some (.lst xs)) :
  ∃ (its:List Value) (n:Nat),Vals xs its ∧ s.heap.get? p = some { cls:=.type "list",data:=.seq its.toArray n } ∧ xs.length ≤ sizeLine:=by
 obtain ⟨z,its,n,r,e⟩:=I.hok p _ h
 exact ⟨its,n,r,e,z⟩
theorem Inv.lstUpd {pins:List (Addr × Obj)} {σ : St} {H:Hp} {s:Shared} {p:Addr} {xs ys:List V} {its its':List Value} {n n':Nat} {f:Obj → Obj} (I:Inv X pins σ H s) (h:H p = some (.lst xs))
  (ho:s.heap.get? p = some { cls:=.type "list",data:=.seq its.toArray n }) (hf:f { cls:=.type "list",data:=.seq its.toArray n } = { cls:=.type "list",data:=.seq its'.toArray n' }) (r:Vals ys its') (hz:ys.length ≤ sizeLine) (t:Nat) :
  Inv X pins σ (upd H p (.lst ys)) { s with heap:=s.heap.update p f,toks:=t }:=by
 have e:(s.heap.update p f).get? p = some { cls:=.type "list",data:=.seq its'.toArray n' }:=by
  rw [Heap.get?_update_self f ho (by rw [hf] <;> rfl),hf]
 refine I.write (x:=p) (e:=p) (by rw [h]; trivial) (.inl rfl) (fun b u hb q=>(Heap.get?_update_other _ _ (Ne.symm hb)).trans q) ⟨_,e⟩ ?_
 exact ⟨hz,its',n',r,e⟩
def rSetL:V → V → V → Hp → (Hp → Prop) → Prop:=fun o i v H Q=>∃ p xs k j,o = .ref p ∧ i = .int k ∧ H p = some (.lst xs) ∧ ixN xs.length k = some j ∧ Q (upd H p (.lst (xs.set j v)))
theorem set_list:PSet X rSetL:=by
 intro pins s σ H o i v ov iv u Q I ro ri rv h
 obtain ⟨p,xs,k,j,rfl,rfl,hp,hj,q⟩:=h
 cases ro
 obtain ⟨t,rfl⟩:=ri
 obtain ⟨its,n,r,ho,hz⟩:=I.lst hp
 obtain ⟨h1,h2,h3,h4⟩:=ixN_seq hj
 have hl:=r.length
 have hn:=line63
 have I':Inv X pins σ (upd H p (.lst (xs.set j v))) { s with heap:=s.heap.update p (Obj.mapSeq (·.setIfInBounds j u)) }:=
  I.lstUpd hp ho (mapSeq_set its n j u) (r.set rv j) (by rw [List.length_set]; exact hz) s.toks
 by_cases h0 : 0 ≤ k
 ·have hk:k.toNat = j:=by
   rw [seqIndex_of h0 h4] at h1
   exact Option.some.inj h1
  exact PySem.W.ki_setAt ho h0 (by omega) (by rw [List.size_toArray,← hl]; exact h4) (by rw [hk]; exact ⟨_,I',q⟩)
 ·have hk:(k + (its.toArray.size:Int)).toNat = j:=by
   rw [seqIndex_neg (by omega) h3] at h1
   rw [List.size_toArray,← hl]
   exact Option.some.inj h1
  exact PySem.W.ki_setBack ho (by omega) (by rw [List.size_toArray,← hl]; exact h3) (by omega) (by rw [hk]; exact ⟨_,I',q⟩)
def flatV:V → Bool
 | .non=>true
 | .bl _=>true
 | .int _=>true
 | .str _=>true
 | _=>false
def eqV:V → V → Bool
 | .non,.non=>true
 | .bl a,.bl b=>a == b
 | .bl a,.int b=>(if a then 1 else 0) == b
 | .int a,.bl b=>a == (if b then 1 else 0)
 | .int a,.int b=>a == b
 | .str a,.str b=>a == b
 | _,_=>false
theorem eqAt_V {A:Around} {s:Shared} {y x:V} {u v:Value} (ry:RelV y u) (rx:RelV x v) (fy:flatV y = true) (fx:flatV x = true) : SeqAt.EqAt A s u v (eqV y x):=by
 cases y with
 | non=>
  cases ry
  cases x with
  | non=>cases rx; exact SeqAt.EqAt.same _
  | bl b=>cases rx; exact SeqAt.EqAt.none_bool b
  | int b=>obtain ⟨t,rfl⟩:=rx; exact SeqAt.EqAt.none_int b t
  | str b=>obtain ⟨t,rfl⟩:=rx; exact SeqAt.EqAt.none_str b t
  | _=>exact absurd (show false = true from fx) Bool.false_ne_true
 | bl a=>
  cases ry
  cases x with
  | non=>cases rx; exact SeqAt.EqAt.bool_none a
  | bl b=>cases rx; exact SeqAt.EqAt.bool_bool a b
  | int b=>obtain ⟨t,rfl⟩:=rx; exact SeqAt.EqAt.bool_int a b t
  | str b=>obtain ⟨t,rfl⟩:=rx; exact SeqAt.EqAt.bool_str a b t
  | _=>exact absurd (show false = true from fx) Bool.false_ne_true
 | int a=>
  obtain ⟨t',rfl⟩:=ry
  cases x with
  | non=>cases rx; exact SeqAt.EqAt.int_none a t'
  | bl b=>cases rx; exact SeqAt.EqAt.int_bool a t' b
  | int b=>obtain ⟨t,rfl⟩:=rx; exact SeqAt.EqAt.int_int a t' b t
  | str b=>obtain ⟨t,rfl⟩:=rx; exact SeqAt.EqAt.int_str a t' b t
  | _=>exact absurd (show false = true from fx) Bool.false_ne_true
 | str a=>
  obtain ⟨t',rfl⟩:=ry
  cases x with
  | non=>cases rx; exact SeqAt.EqAt.str_none a t'
  | bl b=>cases rx; exact SeqAt.EqAt.str_bool a t' b
  | int b=>obtain ⟨t,rfl⟩:=rx; exact SeqAt.EqAt.str_int a t' b t
  | str b=>obtain ⟨t,rfl⟩:=rx; exact SeqAt.EqAt.str_str a t' b t
  | _=>exact absurd (show false = true from fx) Bool.false_ne_true
 | _=>exact absurd (show false = true from fy) Bool.false_ne_true
def eqU (x:V) (u:Value) : Bool:=match u with
 | .none=>eqV .non x
 | .bool b=>eqV (.bl b) x
 | .int i _=>eqV (.int i) x
 | .str z _=>eqV (.str z) x
 | _=>false
theorem eqU_of {x y:V} {u:Value} (r:RelV y u) (f:flatV y = true) : eqU x u = eqV y x:=by
 cases y with
 | non=>cases r; rfl
 | bl b=>cases r; rfl
 | int i=>obtain ⟨t,rfl⟩:=r; rfl
 | str z=>obtain ⟨t,rfl⟩:=r; rfl
 | _=>exact absurd (show false = true from f) Bool.false_ne_true
theorem any_eqU {x:V} : ∀ {xs:List V} {us:List Value},Vals xs us → xs.all flatV = true → us.any (eqU x) = xs.any fun y=>eqV y x
 | _,_,.nil,_=>rfl
 | y :: xs,u :: us,.cons r t,f=>by
  rw [List.all_cons,Bool.and_eq_true] at f
  rw [List.any_cons,List.any_cons,eqU_of r f.1,any_eqU t f.2]
theorem mem_eqAt {A:Around} {s:Shared} {x:V} {v:Value} (rx:RelV x v) (fx:flatV x = true) : ∀ {xs:List V} {us:List Value},Vals xs us → xs.all flatV = true → ∀ u ∈ us,SeqAt.EqAt A s u v (eqU x u)
 | _,_,.nil,_=>fun u hu=>by cases hu
 | y :: xs,u :: us,.cons r t,f=>fun u' hu=>by
  rw [List.all_cons,Bool.and_eq_true] at f
  rcases List.mem_cons.mp hu with rfl | hu
  ·rw [eqU_of r f.1]; exact eqAt_V r rx f.1 fx
  ·exact mem_eqAt rx fx t f.2 u' hu
def inV (x:V) (xs:List V) : Bool:=xs.any fun y=>eqV y x
def rIn (K:PySem.W.Frag) (neg:Bool) : R2:=fun x y H Q=>∃ p xs,y = .ref p ∧ (SqL K H p xs ∨ SqT K H p xs) ∧ flatV x = true ∧ xs.all flatV = true ∧ Q (.bl (if neg then !inV x xs else inV x xs)) H
theorem op_in_seq:OpR X (compareOp .In) (rIn X.K false):=by
 intro pins s σ H x y v u Q I rx ry h
 obtain ⟨p,xs,rfl,hq,fx,fs,q⟩:=h
 cases ry
 rcases hq with hq | hq
 ·obtain ⟨its,r,pl,hz⟩:=I.list hq
  refine SeqAt.in_listAt (eqU x) pl.isList (fun w hw=>mem_eqAt rx fx r fs w (by simpa using hw)) ⟨.bl _,H,I,rfl,?_⟩
  rw [show its.toArray.any (eqU x) = its.any (eqU x) by simp,any_eqU r fs]
  exact q
 ·obtain ⟨its,r,pl,hz⟩:=I.tuple hq
  refine SeqAt.in_tupleAt (eqU x) pl (fun w hw=>mem_eqAt rx fx r fs w (by simpa using hw)) ⟨.bl _,H,I,rfl,?_⟩
  rw [show its.toArray.any (eqU x) = its.any (eqU x) by simp,any_eqU r fs]
  exact q
theorem op_notIn_seq:OpR X (compareOp .NotIn) (rIn X.K true):=by
 intro pins s σ H x y v u Q I rx ry h
 obtain ⟨p,xs,rfl,hq,fx,fs,q⟩:=h
 cases ry
 rcases hq with hq | hq
 ·obtain ⟨its,r,pl,hz⟩:=I.list hq
  refine SeqAt.notIn_listAt (eqU x) pl.isList (fun w hw=>mem_eqAt rx fx r fs w (by simpa using hw)) ⟨.bl _,H,I,rfl,?_⟩
  rw [show its.toArray.any (eqU x) = its.any (eqU x) by simp,any_eqU r fs]
  exact q
 ·obtain ⟨its,r,pl,hz⟩:=I.tuple hq
  refine SeqAt.notIn_tupleAt (eqU x) pl (fun w hw=>mem_eqAt rx fx r fs w (by simpa using hw)) ⟨.bl _,H,I,rfl,?_⟩
  rw [show its.toArray.any (eqU x) = its.any (eqU x) by simp,any_eqU r fs]
  exact q
theorem call_len_seq:CallR X (.builtin "len") (fun xs H Q=>∃ p ys,xs = [.ref p] ∧ (SqL X.K H p ys ∨ SqT X.K H p ys) ∧ Q (.int ys.length) H):=by
 intro pins s σ H xs us Q I r h
 obtain ⟨p,ys,rfl,hq,q⟩:=h
 obtain ⟨u,rfl,rx⟩:=vals1 r
 cases rx
 have hn:=line63
 rcases hq with hq | hq
 ·obtain ⟨its,r',pl,hz⟩:=I.list hq
  have hlen:=r'.length
  exact Calls.call_len_list pl.isList (by simp only [List.size_toArray] <;> omega) ⟨.int ys.length,H,I.tok _,⟨s.toks + 1,by rw [List.size_toArray,hlen]⟩,q⟩
 ·obtain ⟨its,r',pl,hz⟩:=I.tuple hq
  have hlen:=r'.length
  exact len_tuple pl (by simp only [List.size_toArray] <;> omega) ⟨.int ys.length,H,I.tok _,⟨s.toks + 1,by rw [List.size_toArray,hlen]⟩,q⟩
theorem call_list_of:CallR X (.type "list") (fun xs H Q=>∃ p ys,xs = [.ref p] ∧ (SqL X.K H p ys ∨ SqT X.K H p ys) ∧ ∀ l,H l = none → Q (.ref l) (upd H l (.lst ys))):=by
 intro pins s σ H xs us Q I r h
 obtain ⟨p,ys,rfl,hq,q⟩:=h
 obtain ⟨u,rfl,rx⟩:=vals1 r
 cases rx
 have fin : ∀ (its:List Value),Vals ys its → ys.length ≤ sizeLine → ∀ (h':Heap) (c':Nat),(∀ b o',s.heap.get? b = some o' → h'.get? b = some o') →
   h'.get? s.heap.objs.size = some { cls:=.type "list",dict:=none,data:=.seq its.toArray c',slots:=#[] } → EP X pins σ Q (.ref s.heap.objs.size) { s with heap:=h' }:=fun its r' hz h' c' kp e=>
  ⟨.ref s.heap.objs.size,_,I.laid (t':=s.toks) kp (Nat.le_refl _) (show ObjOk X.prog X.w _ h' _ (.lst ys) from ⟨hz,its,c',r',e⟩),rfl,q _ (I.hok.fresh (Nat.le_refl _))⟩
 rcases hq with hq | hq
 ·obtain ⟨its,r',pl,hz⟩:=I.list hq
  have hlen:=r'.length
  obtain ⟨o,ho,hc,n,hd⟩:=pl.isList
  exact call_list_seq p (.inl rfl) ho hc hd (fun h' c' kp e=>fin its r' hz h' c' kp e) (by simp only [List.size_toArray] <;> omega)
 ·obtain ⟨its,r',pl,hz⟩:=I.tuple hq
  have hlen:=r'.length
  obtain ⟨o,ho,hc,n,hd⟩:=pl
  exact call_list_seq p (.inr rfl) ho hc hd (fun h' c' kp e=>fin its r' hz h' c' kp e) (by simp only [List.size_toArray] <;> omega)
def tyV (K:PySem.W.Frag) (T:String) (x:V) (H:Hp) : Prop:=match x with
 | .str _=>T = "str"
 | .int _=>T = "int"
 | .ref p=>(T = "list" ∧ ∃ xs,SqL K H p xs) ∨ (T = "tuple" ∧ ∃ o,K.lookup p = some o ∧ o.cls = .type "tuple" ∧ o.dict = none) ∨
   (T = "dict" ∧ ((∃ kvs,H p = some (.dK kvs)) ∨ ∃ kvs,H p = some (.dT kvs))) ∨ (T = "set" ∧ ∃ S n,H p = some (.set S n))
 | _=>False
theorem tyV_is {pins:List (Addr × Obj)} {σ : St} {H:Hp} {s:Shared} {T:String} {x:V} {v:Value} (I:Inv X pins σ H s) (r:RelV x v) (ty:tyV X.K T x H) :
  s.TypeIs v T ∧ ∀ a,v = .ref a → ∃ ob,s.heap.get? a = some ob ∧ ob.dict = none:=by
 cases x with
 | str z=>
  obtain ⟨t,rfl⟩:=r
  cases (show T = "str" from ty)
  exact ⟨typeIs_str s z t,fun _ e=>nomatch e⟩
 | int i=>
  obtain ⟨t,rfl⟩:=r
  cases (show T = "int" from ty)
  exact ⟨typeIs_int s i t,fun _ e=>nomatch e⟩
 | ref p =>
  cases r
  rcases ty with ⟨rfl,xs,hq⟩ | ⟨rfl,o,hk,hc,hd⟩ | ⟨rfl,hk⟩ | ⟨rfl,S,n,hk⟩
  ·obtain ⟨its,_,pl,_⟩:=I.list hq
   refine ⟨pl.isList.typeIs,fun a e=>?_⟩
   cases e
   obtain ⟨o,n,e,c,hd,_⟩:=pl
   exact ⟨o,e,hd⟩
  ·refine ⟨⟨o,I.kIn p o hk,hc⟩,fun a e=>?_⟩
   cases e
   exact ⟨o,I.kIn _ o hk,hd⟩
  ·have z : ∃ o,s.heap.get? p = some o ∧ o.ExactDict:=by
    rcases hk with ⟨kvs,hk⟩ | ⟨kvs,hk⟩
    ·obtain ⟨_,_,_,_,o,_,_,e,ex,_⟩:=I.hok p _ hk
     exact ⟨o,e,ex⟩
    ·obtain ⟨_,_,_,_,o,_,_,e,ex,_⟩:=I.hok p _ hk
     exact ⟨o,e,ex⟩
   obtain ⟨o,e,ex⟩:=z
   refine ⟨⟨o,e,ex.1⟩,fun a e2=>?_⟩
   cases e2
   exact ⟨o,e,ex.2.1⟩
  ·obtain ⟨o,_,_,_,e,ex,_⟩:=I.hok p _ hk
   refine ⟨⟨o,e,ex.1⟩,fun a e2=>?_⟩
   cases e2
   exact ⟨o,e,ex.2.1⟩
 | _=>exact False.elim ty
def tBM0 (K:PySem.W.Frag) (T:String) (r:V → List V → Hp → VK → Prop) (to:TE) : TE:=fun σ H Q=>to σ H fun x H1=>tyV K T x H1 ∧ r x [] H1 Q
def tBM (K:PySem.W.Frag) (T:String) (r:V → List V → Hp → VK → Prop) (to:TE) (t:TA) : TE:=fun σ H Q=>to σ H fun x H1=>tyV K T x H1 ∧ t σ H1 fun xs H2=>r x xs H2 Q
variable {o e:Expr} {es:List Expr} {to:TE} {t:TA} {name:Str} {apos cpos:Pos} {T id:String} {r:V → List V → Hp → VK → Prop}
theorem pe_bm0 (pa:PlainAttrs T) (slot:Slot T name id) (hty:typeOf (.builtin id) = pure (.type "method_descriptor")) (hm:MtR X id r) (ho:PE X o to)
  (hbase:autoParam (attributeBase o name X.env (eval o X.env) = eval o X.env) aP1) (hline:autoParam ((apos.endLine == cpos.line) = true) aP1) : PE X (.Call (.Attribute o name apos) [] [] cpos) (tBM0 X.K T r to):=by
 intro pins s σ H Q I h
 refine wpAny_Call_method0_late hbase hline (thn (ho pins s σ H _ I h) fun v s1 ⟨x,H1,I1,r1,ty,q1⟩=>?_)
 obtain ⟨h1,h2⟩:=tyV_is I1 r1 ty
 exact ⟨T,id,pa,slot,hty,h1,h2,Calls.callWith_builtin rfl (PySem.evalArgs_none (hm pins s1 σ H1 x [] v [] Q I1 r1 .nil q1))⟩
theorem pe_bm (pa:PlainAttrs T) (slot:Slot T name id) (hty:typeOf (.builtin id) = pure (.type "method_descriptor")) (hm:MtR X id r) (ho:PE X o to) (ha:PA X (e :: es) t)
  (hbase:autoParam (attributeBase o name X.env (eval o X.env) = eval o X.env) aP1)
  (hfew:autoParam (((backTo cpos (starEach (e :: es) X.env)).all (fun x=>!x.1) && (backToKw cpos (keywordEach [] X.env)).all (fun x=>x.1.isSome)
   && decide ((e :: es).length + ([] : List Keyword).length + (if ([] : List Keyword).isEmpty then 0 else 1) < 30)) = true) aP1)
  (hline:autoParam ((apos.endLine == cpos.line) = true) aP1) (hs:autoParam (starEach (e :: es) X.env = (false,eval e X.env) :: starEach es X.env) aP1) (hplain:autoParam ((backTo cpos (starEach es X.env)).any (·.1) = false) aP1) :
  PE X (.Call (.Attribute o name apos) (e :: es) [] cpos) (tBM X.K T r to t):=by
 intro pins s σ H Q I h
 refine wpAny_Call_method_late hbase hfew hline rfl (thn (ho pins s σ H _ I h) fun v s1 ⟨x,H1,I1,r1,ty,q1⟩=>?_)
 obtain ⟨h1,h2⟩:=tyV_is I1 r1 ty
 refine ⟨T,id,pa,slot,hty,h1,h2,?_⟩
 have hA:=ha cpos pins s1 σ H1 _ I1 q1
 rw [hs] at hA ⊢
 refine Calls.callWith_builtin (by show (false || (backTo cpos (starEach es X.env)).any (·.1)) = false; rw [hplain] <;> rfl) (Calls.evalArgs_plain ?_)
 exact thn hA fun us s2 ⟨vs,H2,I2,r2,q2⟩=>hm pins s2 σ H2 x vs v us Q I2 r1 r2 q2
end
end L2
namespace L2
open PySem PySem.Spec PyProof.Rows
def MtM (X:Cx) (id:String) (r:V → List V → Hp → VK → Prop) : Prop:=
 ∀ (pins:List (Addr × Obj)) (s:Shared) (σ : St) (H:Hp) (x:V) (xs:List V) (v:Value) (us:List Value) (Q:VK),Inv X pins σ H s → RelV x v → Vals xs us → r x xs H Q →
  wpAny (model X.prog X.w) X.A (call (.builtin id) (v :: us)) (EP X pins σ Q) X.xe s
theorem Vals.one : ∀ {x:V} {us:List Value},Vals [x] us → ∃ u,us = [u] ∧ RelV x u
 | _,_,.cons r .nil=>⟨_,rfl,r⟩
theorem Vals.eraseIdx : ∀ {xs:List V} {us:List Value} (i:Nat),Vals xs us → Vals (xs.eraseIdx i) (us.eraseIdx i)
 | _,_,_,.nil=>.nil
 | _,_,0,.cons _ t=>t
 | _,_,i + 1,.cons r t=>.cons r (Vals.eraseIdx i t)
theorem Vals.rep {xs:List V} {us:List Value} (h:Vals xs us) : ∀ k:Nat,Vals (List.replicate k xs).flatten (List.replicate k us).flatten
 | 0=>.nil
 | k + 1=>by
  rw [List.replicate_succ,List.replicate_succ,List.flatten_cons,List.flatten_cons]
  exact Vals.append h (Vals.rep h k)
theorem len_erase {α : Type} : ∀ (l:List α) (i:Nat),(l.eraseIdx i).length ≤ l.length
 | [],_=>Nat.le_refl _
 | _ :: _,0=>Nat.le_succ _
 | _ :: r,i + 1=>Nat.succ_le_succ (len_erase r i)
theorem foldl_rep (its:List Value) : ∀ (k:Nat) (acc:List Value),
  List.foldl (fun x1 x2=>x1 ++ x2) acc.toArray (List.replicate k its.toArray) = (acc ++ (List.replicate k its).flatten).toArray
 | 0,acc=>by simp
 | k + 1,acc=>by
  have e:acc.toArray ++ its.toArray = (acc ++ its).toArray:=by simp
  have e2:(acc ++ its) ++ (List.replicate k its).flatten = acc ++ (List.replicate (k + 1) its).flatten:=by
   rw [List.replicate_succ,List.flatten_cons,List.append_assoc]
  rw [← e2,← foldl_rep its k (acc ++ its),← e,List.replicate_succ,List.foldl_cons]
section
variable {X:Cx} {pins:List (Addr × Obj)} {σ : St} {H:Hp} {s:Shared} {l b:Addr} {xs ys zs:List V}
theorem Inv.lset {its its':List Value} {n:Nat} {f:Array Value → Array Value} {t':Nat} (I:Inv X pins σ H s) (hH:H l = some (.lst xs))
  (e:s.heap.get? l = some { cls:=.type "list",data:=.seq its.toArray n }) (hf:f its.toArray = its'.toArray) (hv:Vals ys its') (hz:ys.length ≤ sizeLine) :
  Inv X pins σ (upd H l (.lst ys)) { s with heap:=s.heap.update l (Obj.mapSeq f),toks:=t' }:=by
 have q:=PySem.IsL.update e f
 rw [hf] at q
 refine I.write (x:=l) (e:=l) (by rw [hH]; exact trivial) (.inl rfl) (fun b' u hb hu=>(Heap.get?_update_other s.heap (Obj.mapSeq f) (Ne.symm hb)).trans hu) ⟨_,q⟩ ?_
 exact ⟨hz,its',_,hv,q⟩
theorem Inv.lnew {its:List Value} {t':Nat} (I:Inv X pins σ H s) (hv:Vals ys its) (hz:ys.length ≤ sizeLine) :
  Inv X pins σ (upd H s.heap.objs.size (.lst ys)) { s with heap:=s.heap.push { cls:=.type "list",data:=.seq its.toArray },toks:=t' }:=
 I.laid (fun _ _ q=>Heap.get?_push_of_some _ q) (Nat.le_refl _) ⟨hz,its,0,hv,Heap.get?_push_size _ rfl⟩
theorem Inv.fresh (I:Inv X pins σ H s) : H s.heap.objs.size = none:=I.hok.fresh (Nat.le_refl _)
theorem Inv.lstM (I:Inv X pins σ H s) (hH:H l = some (.lst xs)) : xs.length ≤ sizeLine ∧ ∃ (its:List Value) (n:Nat),Vals xs its ∧ xs.length = its.length ∧ s.heap.get? l = some { cls:=.type "list",data:=.seq its.toArray n }:=by
 obtain ⟨z,its,n,r,e⟩:=I.hok l _ hH
 exact ⟨z,its,n,r,r.length,e⟩
theorem notLongL {n:Nat} (h:n ≤ sizeLine) : Builtin.List.listTooLong n = false:=by
 unfold Builtin.List.listTooLong
 exact decide_eq_false (by omega)
end
section
variable {X:Cx}
def rAppend:V → List V → Hp → VK → Prop:=fun x vs H Q=>∃ l xs y,x = .ref l ∧ vs = [y] ∧ H l = some (.lst xs) ∧ xs.length < sizeLine ∧ Q .non (upd H l (.lst (xs ++ [y])))
theorem mt_append:MtM X "list.append" rAppend:=by
 intro pins s σ H x vs v us Q I rx rv h
 obtain ⟨l,xs,y,rfl,rfl,hH,hz,q⟩:=h
 cases rx
 obtain ⟨u,rfl,ru⟩:=rv.one
 obtain ⟨z,its,n,r,hl,e⟩:=I.lstM hH
 refine call_meets F.slot_list_append ⟨_,e,rfl⟩ F.entry_list_append (F.args_list_append_2 _ _) (PySem.list_append l its.toArray n u (by rw [List.size_toArray]; omega)) ⟨e,?_⟩
 refine ⟨.non,_,I.lset (its':=its ++ [u]) hH e (by simp) (r.append (.cons ru .nil)) ?_,rfl,q⟩
 rw [List.length_append,List.length_singleton]
 omega
def rExtend:V → List V → Hp → VK → Prop:=fun x vs H Q=>∃ l b xs zs,x = .ref l ∧ vs = [.ref b] ∧ H l = some (.lst xs) ∧ H b = some (.lst zs) ∧ xs.length + zs.length ≤ sizeLine ∧ Q .non (upd H l (.lst (xs ++ zs)))
theorem mt_extend:MtM X "list.extend" rExtend:=by
 intro pins s σ H x vs v us Q I rx rv h
 obtain ⟨l,b,xs,zs,rfl,rfl,hH,hB,hz,q⟩:=h
 cases rx
 obtain ⟨u,rfl,ru⟩:=rv.one
 cases ru
 obtain ⟨z,its,n,r,hl,e⟩:=I.lstM hH
 obtain ⟨z2,its2,n2,r2,hl2,e2⟩:=I.lstM hB
 have hsz:its.toArray.size + its2.toArray.size ≤ sizeLine:=by rw [List.size_toArray,List.size_toArray]; omega
 have hlong : ¬ (!its.toArray.isEmpty && Builtin.List.listTooLong (its.toArray.size + its2.toArray.size)) = true:=by
  rw [notLongL hsz,Bool.and_false]
  exact Bool.false_ne_true
 refine call_meets F.slot_list_extend ⟨_,e,rfl⟩ F.entry_list_extend (F.args_list_extend_2 _ _)
  (AutoSeq1.list_extend_list_list_0 l its.toArray n b its2.toArray n2 hlong (by rw [List.size_toArray]; omega) (by omega)) ⟨e,e2,?_⟩
 refine ⟨.non,_,I.lset (its':=its ++ its2) hH e (by simp) (r.append r2) ?_,rfl,q⟩
 rw [List.length_append]
 omega
def rPopAt:V → List V → Hp → VK → Prop:=fun x vs H Q=>∃ l xs i k y,x = .ref l ∧ vs = [.int i] ∧ H l = some (.lst xs) ∧ -(2 ^ 63) ≤ i ∧ i < 2 ^ 63 ∧ seqIndex? i xs.length = some k ∧ xs[k]? = some y ∧ Q y (upd H l (.lst (xs.eraseIdx k)))
theorem mt_popAt:MtM X "list.pop" rPopAt:=by
 intro pins s σ H x vs v us Q I rx rv h
 obtain ⟨l,xs,i,k,y,rfl,rfl,hH,h1,h2,hk,hy,q⟩:=h
 cases rx
 obtain ⟨u,rfl,ru⟩:=rv.one
 obtain ⟨t,rfl⟩:=ru
 obtain ⟨z,its,n,r,hl,e⟩:=I.lstM hH
 obtain ⟨w,hw,rw'⟩:=r.get hy
 refine call_meets F.slot_list_pop ⟨_,e,rfl⟩ F.entry_list_pop (F.args_list_pop_2 _ _)
  (MeetsSeq.list_pop_at l its.toArray n i t k w (fitsIndex_both h1 h2) (by rw [List.size_toArray,← hl]; exact hk) (by rw [← Array.getElem?_toList]; exact hw) (by rw [List.size_toArray]; omega)) ⟨e,?_⟩
 refine ⟨y,_,I.lset (its':=its.eraseIdx k) hH e ?_ (r.eraseIdx k) ?_,rw',q⟩
 ·show its.toArray.eraseIdxIfInBounds k = (its.eraseIdx k).toArray
  rw [List.eraseIdxIfInBounds_toArray]
 ·have:=len_erase xs k
  omega
def rCat:R2:=fun x y H Q=>∃ l b xs zs,x = .ref l ∧ y = .ref b ∧ H l = some (.lst xs) ∧ H b = some (.lst zs) ∧ xs.length + zs.length ≤ sizeLine ∧ ∀ p,H p = none → Q (.ref p) (upd H p (.lst (xs ++ zs)))
theorem op_cat:OpR X (binaryOp .Add) rCat:=by
 intro pins s σ H x y v u Q I rx ry h
 obtain ⟨l,b,xs,zs,rfl,rfl,hH,hB,hz,q⟩:=h
 cases rx
 cases ry
 obtain ⟨z,its,n,r,hl,e⟩:=I.lstM hH
 obtain ⟨z2,its2,n2,r2,hl2,e2⟩:=I.lstM hB
 refine PySem.P.add_list e e2 ?_ (by rw [List.size_toArray,List.size_toArray]; omega)
 have ea:its.toArray ++ its2.toArray = (its ++ its2).toArray:=by simp
 rw [ea]
 exact ⟨.ref _,_,I.lnew (t':=s.toks) (r.append r2) (by rw [List.length_append]; omega),rfl,q _ I.fresh⟩
def rRep:R2:=fun x y H Q=>∃ l k xs,x = .ref l ∧ y = .int k ∧ H l = some (.lst xs) ∧ -(2 ^ 63) ≤ k ∧ k < 2 ^ 63 ∧ xs.length * k.toNat ≤ sizeLine ∧
 ∀ p,H p = none → Q (.ref p) (upd H p (.lst (List.replicate k.toNat xs).flatten))
theorem len_rep {α : Type} (xs:List α) (k:Nat) : (List.replicate k xs).flatten.length = k * xs.length:=by
 induction k with
 | zero=>simp
 | succ k ih=>rw [List.replicate_succ,List.flatten_cons,List.length_append,ih,Nat.succ_mul,Nat.add_comm]
theorem op_rep:OpR X (binaryOp .Mult) rRep:=by
 intro pins s σ H x y v u Q I rx ry h
 obtain ⟨l,k,xs,rfl,rfl,hH,h1,h2,hz,q⟩:=h
 cases rx
 obtain ⟨t,rfl⟩:=ry
 obtain ⟨z,its,n,r,hl,e⟩:=I.lstM hH
 have hlen:its.toArray.size * k.toNat ≤ sizeLine:=by rw [List.size_toArray,← hl]; exact hz
 have hcap : ¬ its.toArray.size * k.toNat > (2 ^ 63 - 1) / 8:=by
  have:(sizeLine:Nat) ≤ (2 ^ 63 - 1) / 8:=by decide
  omega
 have hfit : ¬ (!Builtin.List.listFitsIndex k) = true:=by
  rw [fitsIndex_both h1 h2]
  exact Bool.false_ne_true
 have hlong : ¬ Builtin.List.listTooLong (its.toArray.size * k.toNat) = true:=by
  rw [notLongL hlen]
  exact Bool.false_ne_true
 have hnew:List.foldl (fun x1 x2=>x1 ++ x2) #[] (List.replicate (if its.toArray.isEmpty = true then 0 else k.toNat) its.toArray) = (List.replicate k.toNat its).flatten.toArray:=by
  have f0 : ∀ m:Nat,List.foldl (fun x1 x2=>x1 ++ x2) #[] (List.replicate m its.toArray) = (List.replicate m its).flatten.toArray:=fun m=>by
   have:=foldl_rep its m []
   rw [List.nil_append] at this
   exact this
  rw [f0]
  cases its with
  | nil=>simp
  | cons a r'=>rw [if_neg (by simp)]
 refine wpAny_binaryOp_repeat_ref (T := "list") (U := "int") (by decide) ⟨_,e,rfl⟩ (fun s'=>typeIs_int s' k t) noFill_list_mul F.fills_int_mul F.slot_int_rmul repeat_list F.slot_int_index.lookup
  (call_meets F.slot_int_rmul (typeIs_int s k t) F.entry_int_rmul (F.args_int_rmul_2 _ _) (int___rmul___int_list k t l its.toArray n)
   ⟨e,rfl,⟨_,e,rfl⟩,call_meets F.slot_list_mul ⟨_,e,rfl⟩ F.entry_list_mul (F.args_list_mul_2 _ _) (AutoListH.list___mul___list_int_3 l its.toArray n k t hfit hcap hlong) ⟨e,?_⟩⟩)
 rw [hnew]
 exact ⟨.ref _,_,I.lnew (t':=s.toks) (r.rep k.toNat) (by rw [len_rep,Nat.mul_comm]; exact hz),rfl,q _ I.fresh⟩
end
section
variable {prog:Program} {w:World} {A:Around} {E:Value → Shared → Prop} {s:Shared}
end
section
variable {X:Cx}
end
end L2
namespace Att
open PySem PySem.W PySem.Calls PyProof.Rows
theorem ints_of_wellAll {P:Params} {h:Heap} : ∀ (ns:List Int) (vs:List Value),WellAll P h vs (ns.map WData.int) → IntsAre vs ns:=by
 intro ns
 induction ns with
 | nil=>
  intro vs w
  rw [List.map_nil] at w
  cases w
  exact .nil
 | cons n ns ih=>
  intro vs w
  rw [List.map_cons] at w
  cases w with
  | cons a b=>
   cases a
   exact .cons _ _ (ih _ b)
theorem script_of {l:OpenLaw} {n:Nat} (hn:l.most = some n) {P:Params} {h:Heap} {args:List WData} {vals:List Value}
  (hpre:l.row.toRowW.claim.pre args = true) (hwl:WellAll P h vals args) :
  ∃ a vs ns,vals = [Value.ref a] ∧ args = [WData.list (ns.map WData.int)] ∧ h.get? a = some { cls:=.type "list",data:=.seq vs.toArray } ∧ IntsAre vs ns ∧ ns.length ≤ n:=by
 have hsh:WShape.hasAll [] args [.list .int] = true:=(pre_splitW hpre).1
 have hc:l.pre.holds [] { args:=args } = true:=(pre_splitW hpre).2
 obtain ⟨d,r,rfl,h1,h2⟩:=hasAllW_cons hsh
 obtain rfl:=hasAllW_nil h2
 obtain ⟨xs,rfl,h3⟩:=hasW_list h1
 obtain ⟨ns,rfl⟩:=items_int h3
 have hlen:ns.length ≤ n:=by
  unfold OpenLaw.pre at hc
  have h4:(WTm.not (.lt (.lit (.int (n:Int))) (.len (.arg 0)))).holds [] { args:=[.list (ns.map .int)] } = true:=by
   have h4:=(holds_andW hc).1
   rw [hn] at h4
   exact h4
  have h5:=condW_of h4 (w_not (w_lt w_lit (w_len_list (w_arg rfl))))
  rw [List.length_map] at h5
  refine Nat.le_of_not_lt fun q=>?_
  have q':(n:Int) < ((ns.length:Nat) : Int):=by omega
  first
   | (rw [decide_eq_true q'] at h5; exact absurd h5 (by decide))
   | (simp at h5; omega)
 cases hwl with
 | cons w1 w2=>
  cases w2
  cases w1 with
  | list ho hall=>exact ⟨_,_,ns,rfl,rfl,ho,ints_of_wellAll ns _ hall,hlen⟩
theorem post_true (l:OpenLaw) (args:List WData) : l.row.toRowW.claim.post args (.bool true) args = true:=
 postW_of (r:=l.row.toRowW) (X:=(true == true))
  (show WShape.has [] (.bool true) .bool = true by first | rfl | decide | simp [WShape.has,WShape.arms,WShape.armsAll])
  (show (WTm.eq .res (.lit (.bool true))).value [] { args:=args,res:=some (.bool true),after:=args } = some (.bool (true == true)) from w_eq_bool (w_res rfl) w_lit) rfl
theorem attach_call {l:OpenLaw} {n:Nat} {q:Program} {loose:List Str} {XP:(Str → Option Value) → Heap → Prop} {YP:World → Heap → Prop} {d:DefRec}
  (hn:l.most = some n) (hdf:d.params.defaults = [])
  (call : ∀ (w:World) (s₀ s₁:Shared) (mg mb:Str → Option Value) (fa:Addr) (o:Obj) (pm cd doc:Value) (a:Addr) (vs:List Value) (ns:List Int),
   Ground q loose [] XP w s₀ mg mb s₁.heap → YP w s₁.heap →
   s₁.heap.get? fa = some o → o.data = .func (docDef d.name d.params d.body d.scope pm cd doc) → s₁.heap.CodeRec cd d.name → mg d.name = some (.ref fa) →
   s₁.heap.get? a = some { cls:=.type "list",data:=.seq vs.toArray } → IntsAre vs ns → ns.length ≤ n → s₁.gens = #[] →
   codeAny (model l.prog w) callerA (.call (.ref fa) ⟨[.ref a],[]⟩) (fun r s'=>r = .ok (.ret (.bool true)) ∧ OldK s₁.heap s'.heap ∧ s'.os = s₁.os ∧ AllBare s'.gens) s₁) :
  WalkO q loose XP YP l.row.toRowW d [] (fun f vs=>PySem.call f vs):=by
 intro w s₀ s₁ mg mb G Y fa o pm cd doc dV kV ho hd hcd hD hmg hg args vals as hpre hlay hrd hwl hlo
 obtain rfl:dV = .none:=Dflts.none hD hdf
 obtain rfl:kV = .none:=Dflts.noKw hD
 obtain ⟨a,vs,ns,rfl,rfl,hobj,hints,hlen⟩:=script_of hn hpre hwl
 refine enter_call (codeAny_mono (call w s₀ s₁ mg mb fa o pm cd doc a vs ns G Y ho (fd_plain hd) hcd hmg hobj hints hlen hg) fun r s' hq=>?_)
 obtain ⟨rfl,h2,h3,h4⟩:=hq
 exact ⟨.inl ⟨.bool true,.bool true,[],rfl,fun _=>rfl,.bool true,post_true l _,fun _=>⟨List.Pairwise.nil,fun _ hm=>(nomatch hm)⟩⟩,h2,h3,h4⟩
section
variable {prog:Program} {w:World} {A:Around} {E:Value → Shared → Prop} {s:Shared} {K:Frag}
end
end Att
namespace L2
open PySem PySem.Spec PyProof.Rows
theorem vals_ints : ∀ {vs:List Value} {ns:List Int},IntsAre vs ns → Vals (ns.map V.int) vs
 | _,_,.nil=>.nil
 | _,_,.cons n t h=>.cons ⟨t,rfl⟩ (vals_ints h)
def Only (H:Hp) : Prop:=∀ b,H b = none ∨ ∃ o xs,H b = some (.frz o (.lst xs))
theorem law_call {P:Program} {w:World} {K:PySem.W.Frag} {mg mb:Str → Option Value} {CX:CXT} {k:Nat} {fa a:Addr} {fd:FuncData} {x:Str} {sp:Sp} {s₁:Shared} {vs:List Value} {ns:List Int}
  (KX:K.In s₁.heap) (hns:s₁.heap.Ns mainGlobals mg) (hb:s₁.heap.Ns builtinsNs mb) (hbb : ∀ x:Str,x ≠ "__name__" → mb x = bootBuiltins x) (hlim:s₁.heap.NoLimit) (hg:s₁.gens = #[])
  (ha:s₁.heap.get? a = some { cls:=.type "list",data:=.seq vs.toArray }) (hi:IntsAre vs ns) (hl:ns.length ≤ sizeLine) (hr:Room k callerA)
  (F : ∀ base:Heap,K.In base → base.Ns mainGlobals mg → FnOk P w K mg base CX k fa fd [x] sp) (hbind : ∀ (s:Shared) (u:Value),BindsTo s fd ⟨[u],[]⟩ [(x,u)])
  (hsp : ∀ H:Hp,Only H → SqL K H a (ns.map V.int) → sp [.ref a] H (fun v _=>v = .bl true) fun _ _ _=>False)
  (hCX : ∀ H e s',CX [] H s₁ (fun _ _ _=>False) e s' → False) :
  codeAny (model P w) callerA (.call (.ref fa) ⟨[.ref a],[]⟩) (fun r s'=>r = .ok (.ret (.bool true)) ∧ OldK s₁.heap s'.heap ∧ s'.os = s₁.os ∧ AllBare s'.gens) s₁:=by
 have rv:=vals_ints hi
 have lenV:=hi.length
 have core : ∀ H:Hp,Only H → SqL K H a (ns.map V.int) → HOk P w H s₁.heap → (∀ b,H b ≠ none → b = a) → (H a ≠ none → K.lookup a = none) →
   codeAny (model P w) callerA (.call (.ref fa) ⟨[.ref a],[]⟩) (fun r s'=>r = .ok (.ret (.bool true)) ∧ OldK s₁.heap s'.heap ∧ s'.os = s₁.os ∧ AllBare s'.gens) s₁:=by
  intro H hO hS hok hA hK
  have base_of : ∀ {b:Addr} {o:Obj},s₁.heap.get? b = some o → H b = none → (hidT s₁.heap H).get? b = some o:=fun e n=>hidT_get e n
  have noA : ∀ {b:Addr} {o:Obj} {es:Array DictEntry} {ep:Nat},s₁.heap.get? b = some o → o.data = .dict es ep → H b = none:=fun {b o es ep} e d=>by
   cases q:H b with
   | none=>rfl
   | some u=>
    have e':b = a:=hA b (by rw [q]; simp)
    subst e'
    rw [ha] at e; cases e
    have d':Data.seq vs.toArray _ = Data.dict es ep:=d
    cases d'
  have nsK : ∀ {b:Addr} {m:Str → Option Value},s₁.heap.Ns b m → (hidT s₁.heap H).Ns b m:=fun {b m} ⟨o,es,ep,e,d,r⟩=>⟨o,es,ep,base_of e (noA e d),d,r⟩
  have hKb:K.In (hidT s₁.heap H):=fun b o e=>base_of (KX b o e) (by
   cases q:H b with
   | none=>rfl
   | some u=>
    have e':b = a:=hA b (by rw [q]; simp)
    subst e'
    rw [hK (by rw [q]; simp)] at e; cases e)
  have hM:Mod K mg (hidT s₁.heap H):=⟨hKb,nsK hns,⟨mb,nsK hb,hbb⟩,let ⟨mc,h1,h2⟩:=hlim; ⟨mc,nsK h1,h2⟩⟩
  have e0:Env0 P w K mg (hidT s₁.heap H) callerA [] s₁ H:=⟨rfl,hM,fun b o e=>of_hidT e,Nat.le_of_eq (hidT_size _ _),trivial,fun b hb=>absurd (show b ∈ ([] : List Addr) from hb) (by simp),hok,.of_eq hg⟩
  refine codeAny_mono ((F _ hKb (nsK hns)).run callerA [] s₁ H ⟨[.ref a],[]⟩ [.ref a] [.ref a] _ _ hr e0 (hbind s₁ (.ref a)) (.cons rfl .nil) (hsp H hO hS)) fun r s' h=>?_
  cases r with
  | error e=>exact (hCX H e s' h).elim
  | ok fl =>
   cases fl with
   | next=>exact False.elim h
   | brk=>exact False.elim h
   | cont=>exact False.elim h
   | ret u=>
    obtain ⟨v,H',os,bare,un,hok',r',q⟩:=h
    have q':v = .bl true:=q
    subst q'
    obtain rfl:u = Value.bool true:=r'
    refine ⟨rfl,OldK.of_keep fun b o e=>?_,os,bare⟩
    cases q:H b with
    | none=>exact un.keep b o e q (by intro z; exact absurd (show b ∈ ([] : List Addr) from z) (by simp)) (by simp)
    | some u=>
     rcases hO b with z | ⟨ob,xs,z⟩
     ·rw [q] at z; cases z
     ·have z2:=un.frzs b ob _ z
      obtain ⟨e1,_⟩:=hok b _ z
      obtain ⟨e2,_⟩:=hok' b _ z2
      rw [e] at e1; cases e1
      exact e2
 cases hk:K.lookup a with
 | some o=>
  have e:=KX a o hk
  rw [ha] at e
  cases e
  refine core (fun _=>none) (fun _=>.inl rfl) (.inr ⟨_,vs.toArray,_,hk,rfl,rfl,rfl,by rw [List.size_toArray,lenV]; exact hl,by simpa using rv⟩) (fun b u z=>by have z':(none:Option HO) = some u:=z; cases z') (fun b z=>absurd rfl z) fun z=>absurd rfl z
 | none=>
  refine core (fun b=>if b = a then some (.frz { cls:=.type "list",data:=.seq vs.toArray } (.lst (ns.map V.int))) else none) (fun b=>?_) (.inl (.inr ⟨{ cls:=.type "list",data:=.seq vs.toArray },if_pos rfl⟩)) (fun b u z=>?_) (fun b z=>?_) fun _=>hk
  ·by_cases hb:b = a
   ·exact .inr ⟨_,_,if_pos hb⟩
   ·exact .inl (if_neg hb)
  ·by_cases hb:b = a
   ·have z':=(if_pos hb).symm.trans z
    cases z'
    subst hb
    exact ⟨ha,by rw [List.length_map]; exact hl,vs,_,rv,ha⟩
   ·have z':=(if_neg hb).symm.trans z
    cases z'
  ·by_cases hb:b = a
   ·exact hb
   ·exact absurd (if_neg hb) z
end L2
namespace L2
open PySem PySem.Spec PyProof.Rows
theorem walk_of {l:PySem.W.OpenLaw} {n k:Nat} {q:Program} {loose:List Str} {XP:(Str → Option Value) → Heap → Prop} {YP:World → Heap → Prop} {d:DefRec} {K:Params → PySem.W.Frag} {CX:World → CXT} {sp:World → Sp} {x:Str}
  (hn:l.most = some n) (hn2:n ≤ sizeLine) (hdf:d.params.defaults = []) (hr:Room k callerA)
  (hY : ∀ (w:World) (h:Heap),YP w h → (K w.params).In h)
  (F : ∀ (w:World) (mg:Str → Option Value) (fa:Addr) (h:Heap),(K w.params).In h → h.Ns mainGlobals mg → mg d.name = some (.ref fa) →
   ∃ fd:FuncData,(∀ (s:Shared) (u:Value),BindsTo s fd ⟨[u],[]⟩ [(x,u)]) ∧
    ∀ base:Heap,(K w.params).In base → base.Ns mainGlobals mg → FnOk l.prog w (K w.params) mg base (CX w) k fa fd [x] (sp w))
  (hsp : ∀ (w:World) (H:Hp) (a:Addr) (ns:List Int),ns.length ≤ n → Only H → SqL (K w.params) H a (ns.map V.int) → sp w [.ref a] H (fun v _=>v = .bl true) fun _ _ _=>False)
  (hCX : ∀ (w:World) (H:Hp) (s:Shared) (e:Value) (s':Shared),CX w [] H s (fun _ _ _=>False) e s' → False) :
  PySem.W.WalkO q loose XP YP l.row.toRowW d [] (fun f vs=>PySem.call f vs):=by
 refine Att.attach_call hn hdf fun w s₀ s₁ mg mb fa o pm cd doc a vs ns G Y ho hd hcd hmg hobj hints hlen hg=>?_
 have KX:=hY w _ Y
 obtain ⟨fd,hb,hF⟩:=F w mg fa _ KX G.T.g hmg
 exact law_call KX G.T.g G.T.b G.T.builtins G.T.nolimit hg hobj hints (Nat.le_trans hlen hn2) hr hF hb (fun H hO hS=>hsp w H a ns hlen hO hS) fun H e s'=>hCX w H s₁ e s'
theorem walk_ofK {l:PySem.W.OpenLaw} {n k:Nat} {q:Program} {loose:List Str} {XP:(Str → Option Value) → Heap → Prop} {YP:World → Heap → Prop} {d:DefRec} {K:Params → PySem.W.Frag} {CX:CXT} {sp:PySem.W.Frag → Sp} {x:Str}
  (hn:l.most = some n) (hn2:n ≤ sizeLine) (hdf:d.params.defaults = []) (hr:Room k callerA)
  (hY : ∀ (w:World) (h:Heap),YP w h → (K w.params).In h)
  (F : ∀ (w:World) (mg:Str → Option Value) (fa:Addr) (h:Heap),(K w.params).In h → h.Ns mainGlobals mg → mg d.name = some (.ref fa) →
   ∃ fd:FuncData,(∀ (s:Shared) (u:Value),BindsTo s fd ⟨[u],[]⟩ [(x,u)]) ∧
    ∀ base:Heap,(K w.params).In base → base.Ns mainGlobals mg → FnOk l.prog w (K w.params) mg base CX k fa fd [x] (sp (K w.params)))
  (hsp : ∀ (K:PySem.W.Frag) (H:Hp) (a:Addr) (ns:List Int),ns.length ≤ n → Only H → SqL K H a (ns.map V.int) → sp K [.ref a] H (fun v _=>v = .bl true) fun _ _ _=>False)
  (hCX : ∀ (H:Hp) (s:Shared) (e:Value) (s':Shared),CX [] H s (fun _ _ _=>False) e s' → False) :
  PySem.W.WalkO q loose XP YP l.row.toRowW d [] (fun f vs=>PySem.call f vs):=
 walk_of (K:=K) (CX:=fun _=>CX) (sp:=fun w=>sp (K w.params)) hn hn2 hdf hr hY F (fun w H a ns h1 h2 h3=>hsp (K w.params) H a ns h1 h2 h3) fun _ H s e s'=>hCX H s e s'
end L2
namespace L2
open PySem PySem.Spec PyProof.Rows
def inClass (s:Stmt) (j:Nat) : Stmt:=match s with
 | .ClassDef _ _ _ body _ _ _ _ _ _ _=>body.getD j (.Pass ⟨0,0,0,0⟩)
 | _=>.Pass ⟨0,0,0,0⟩
def defArgs (s:Stmt) : Arguments:=match s with
 | .FunctionDef _ a _ _ _ _ _ _ _ _=>a
 | _=>{ posonlyargs:=[],args:=[],vararg:=none,kwonlyargs:=[],kw_defaults:=[],kwarg:=none,defaults:=[] }
def defBody (s:Stmt) : List Stmt:=match s with
 | .FunctionDef _ _ b _ _ _ _ _ _ _=>b
 | _=>[]
def defScope (s:Stmt) : Scope:=match s with
 | .FunctionDef _ _ _ _ _ _ sc _ _ _=>sc
 | _=>{ kind:=.function,names:=[],isGenerator:=false,isCoroutine:=false }
abbrev CX0:CXT:=fun _ _ _ _ _ _=>False
abbrev E0:XK:=fun _ _ _=>False
theorem pass0 {X:Cx} : Passes CX0 X E0:=fun _ _ _ _ _ _ _ h=>h.elim
structure Fun (K:PySem.W.Frag) (x qual:Str) (st:Stmt) (f:Addr) (fd:FuncData) : Prop where
 ex : ∃ (oc:Value) (od:Option Addr) (kV doc pm:Value) (an:Option Addr) (cdv ct:Value) (osl:Array (Option Value)),
  fd = PySem.W.fnOf x qual (defArgs st) (defBody st) (defScope st) .none kV doc pm an cdv ct ∧ K.lookup f = some ⟨oc,od,.func fd,osl⟩ ∧ PySem.W.codeIn K cdv qual = true
 kp:PySem.W.keepIn K (.ref f) = true
section
variable {P:Program} {w:World} {K:PySem.W.Frag} {mg:Str → Option Value} {base:Heap}
theorem Fun.ok {x qual:Str} {st:Stmt} {f:Addr} {fd:FuncData} {N ps:List Str} {k:Nat} {sp:Sp} (F:Fun K x qual st f fd) (S:FnScope N ps (defScope st)) (len : ∀ vs H Q E,sp vs H Q E → vs.length = ps.length)
  (hbody : ∀ (cdv:Value) (A:Around) (outer:List Env) (s:Shared) (H:Hp) (vs:List V) (Q:VK) (E:XK),Room k (A.deeper (envOfC qual (defScope st) s.heap.objs.size f cdv)) → sp vs H Q E →
   ∃ t,PSs (cxOf CX0 P w K mg base N qual (defScope st) f cdv A outer s H E).nox (defBody st) t ∧ t { nx:=fun _ H'=>Q .non H',rt:=Q } (start N vs) H) : FnOk P w K mg base CX0 (k + 1) f fd ps sp:=by
 obtain ⟨oc,od,kV,doc,pm,an,cdv,ct,osl,rfl,lk,hcd⟩:=F.ex
 refine fn_of lk hcd S len fun A outer s H vs Q E hr hsp=>?_
 obtain ⟨t,h,q⟩:=hbody cdv A outer s H vs Q E hr hsp
 exact ⟨t,h.nox,q⟩
theorem Fun.okA {x qual:Str} {st:Stmt} {f:Addr} {fd:FuncData} {N ps:List Str} {k:Nat} {sp:Sp} (F:Fun K x qual st f fd) (S:FnScope N ps (defScope st)) (hbody : ∀ (cdv:Value) (A:Around) (outer:List Env) (s:Shared) (H:Hp) (vs:List V) (Q:VK) (E:XK),Room k (A.deeper (envOfC qual (defScope st) s.heap.objs.size f cdv)) → sp vs H Q E →
   ∃ t,PSs (cxOf CX0 P w K mg base N qual (defScope st) f cdv A outer s H E).nox (defBody st) t ∧ t { nx:=fun _ H'=>Q .non H',rt:=Q } (start N vs) H) (len:autoParam (∀ vs H Q E,sp vs H Q E → vs.length = ps.length) aP7) : FnOk P w K mg base CX0 (k + 1) f fd ps sp:=F.ok S len hbody
theorem Fun.okB {x qual:Str} {st:Stmt} {f:Addr} {fd:FuncData} {N ps:List Str} {k:Nat} {sp:Sp} (F:Fun K x qual st f fd) (hbody : ∀ (cdv:Value) (A:Around) (outer:List Env) (s:Shared) (H:Hp) (vs:List V) (Q:VK) (E:XK),Room k (A.deeper (envOfC qual (defScope st) s.heap.objs.size f cdv)) → sp vs H Q E →
   ∃ t,PSs (cxOf CX0 P w K mg base N qual (defScope st) f cdv A outer s H E).nox (defBody st) t ∧ t { nx:=fun _ H'=>Q .non H',rt:=Q } (start N vs) H) (S:FnScope N ps (defScope st):=by exact fsc) (len:autoParam (∀ vs H Q E,sp vs H Q E → vs.length = ps.length) aP7) : FnOk P w K mg base CX0 (k + 1) f fd ps sp:=F.ok S len hbody
theorem Fun.binds {x qual:Str} {st:Stmt} {f:Addr} {fd:FuncData} {ps:List Str} (F:Fun K x qual st f fd)
  (h : ∀ (kV doc pm:Value) (an:Option Addr) (cdv ct:Value) (us:List Value),us.length = ps.length → bindArgs (PySem.W.fnOf x qual (defArgs st) (defBody st) (defScope st) .none kV doc pm an cdv ct) ⟨us,[]⟩ = pure (ps.zip us)) : Binds K fd ps []:=by
 obtain ⟨oc,od,kV,doc,pm,an,cdv,ct,osl,rfl,lk,hcd⟩:=F.ex
 exact .all (h kV doc pm an cdv ct)
theorem fun_mk {x qual:Str} {st:Stmt} {f:Addr} {oc:Value} {od an:Option Addr} {osl:Array (Option Value)} {kV doc pm cdv ct:Value} (l:K.lookup f = some ⟨oc,od,.func (PySem.W.fnOf x qual (defArgs st) (defBody st) (defScope st) .none kV doc pm an cdv ct),osl⟩)
  (c:PySem.W.codeIn K cdv qual = true) (k:PySem.W.keepIn K (.ref f) = true) : Fun K x qual st f (PySem.W.fnOf x qual (defArgs st) (defBody st) (defScope st) .none kV doc pm an cdv ct):=⟨⟨oc,od,kV,doc,pm,an,cdv,ct,osl,rfl,l,c⟩,k⟩
end
theorem hu_of {A:Around} {k:Nat} (hr:Room k A) : A.units + 1 < cLine:=Nat.lt_of_le_of_lt (Nat.add_le_add_left (by decide : 1 ≤ 64) _) hr.units
theorem small1000 {n:Nat} (h:n ≤ 1000) : n < sizeLine:=Nat.lt_of_le_of_lt h (by decide)
section
variable {X:Cx}
theorem pv (i:Nat) {x:Str} {pos:Pos} (hN:autoParam (X.N[i]? = some x) aP1) (hv:Vis X.env.scope x:=by first | exact Or.inl rfl | exact Or.inr (Or.inl rfl) | exact Or.inr (Or.inr rfl)) (hd:autoParam ((x == ("__debug__" : Str)) = false) aP2)
  (hcd:autoParam ((x == ("__classdict__" : Str)) = false) aP2) : PE X (.Name x pos) (tVar i):=pe_var hN hv hd hcd
end
theorem iteF {A B:Prop} (h:B) : if false = true then A else B:=by
 rw [if_neg Bool.false_ne_true]
 exact h
theorem iteT {A B:Prop} (h:A) : if true = true then A else B:=by
 rw [if_pos rfl]
 exact h
theorem ite2 {c A B:Prop} [Decidable c] (h1:c → A) (h2 : ¬ c → B) : if c then A else B:=by
 by_cases h:c
 ·rw [if_pos h]
  exact h1 h
 ·rw [if_neg h]
  exact h2 h
def Same (H H':Hp) : Prop:=∀ b o,H b = some o → H' b = some o
theorem Same.refl (H:Hp) : Same H H:=fun _ _ h=>h
theorem Same.trans {H H1 H2:Hp} (a:Same H H1) (b:Same H1 H2) : Same H H2:=fun c o h=>b c o (a c o h)
theorem Same.free {H H':Hp} (e:Same H H') {l:Addr} (h:H' l = Option.none) : H l = Option.none:=by
 cases q:H l with
 | none=>rfl
 | some o=>
  rw [e l o q] at h
  cases h
theorem Same.seq {K:PySem.W.Frag} {H H':Hp} {a:Addr} {xs:List V} (e:Same H H') (h:SqL K H a xs) : SqL K H' a xs:=by
 rcases h with (h | ⟨o,h⟩) | h
 ·exact .inl (.inl (e _ _ h))
 ·exact .inl (.inr ⟨o,e _ _ h⟩)
 ·exact .inr h
end L2
namespace L2
open PySem PySem.Spec PyProof.Rows
section
variable {κ : Type} [DecidableEq κ]
def valV (kvs:List (κ × V)) (k : κ) : Option V:=(kvs.find? fun kv=>decide (kv.1 = k)).map (·.2)
def putK (kvs:List (κ × V)) (k : κ) (v:V) : List (κ × V):=
 if (kvs.any fun kv=>decide (kv.1 = k)) = true then kvs.map (fun kv=>if kv.1 = k then (kv.1,v) else kv) else kvs ++ [(k,v)]
theorem valV_pos {p : κ × V} {r:List (κ × V)} {k : κ} (e:p.1 = k) : valV (p :: r) k = some p.2:=by simp [valV,List.find?_cons,e]
theorem valV_neg {p : κ × V} {r:List (κ × V)} {k : κ} (e : ¬ p.1 = k) : valV (p :: r) k = valV r k:=by simp [valV,List.find?_cons,e]
theorem valV_any (k : κ) : ∀ kvs:List (κ × V),(kvs.any fun kv=>decide (kv.1 = k)) = (valV kvs k).isSome
 | []=>rfl
 | p :: r=>by
  rw [List.any_cons]
  by_cases e:p.1 = k
  ·simp only [valV_pos e,decide_eq_true e,Bool.true_or,Option.isSome_some]
  ·rw [valV_neg e,decide_eq_false e,Bool.false_or]; exact valV_any k r
theorem length_putK (kvs:List (κ × V)) (k : κ) (v:V) : (putK kvs k v).length ≤ kvs.length + 1:=by
 unfold putK
 split
 ·rw [List.length_map]; omega
 ·rw [List.length_append,List.length_cons,List.length_nil]; omega
theorem putK_new {kvs:List (κ × V)} {k : κ} (v:V) (h:valV kvs k = none) : putK kvs k v = kvs ++ [(k,v)]:=by
 unfold putK
 rw [valV_any,h]
 exact if_neg (by decide)
theorem RelO.isSome_eq {o:Option V} {u:Option Value} (r:RelO o u) : o.isSome = u.isSome:=by
 cases o with
 | none=>cases u with
  | none=>rfl
  | some _=>exact (show False from r).elim
 | some _=>cases u with
  | none=>exact (show False from r).elim
  | some _=>rfl
theorem KV.val {kvs:List (κ × V)} {vs:List (κ × Value)} (r:KV kvs vs) (k : κ) : RelO (valV kvs k) (valueAt vs k):=by
 unfold KV at r
 induction r with
 | nil=>exact True.intro
 | @cons p q ps qs h t ih=>
  obtain ⟨h1,h2⟩:=h
  by_cases e:p.1 = k
  ·have e':q.1 = k:=h1.symm.trans e
   have b:valueAt (q :: qs) k = some q.2:=by simp [valueAt,List.find?_cons,e']
   rw [valV_pos e,b]; exact h2
  ·have e' : ¬ q.1 = k:=fun z=>e (h1.trans z)
   have b:valueAt (q :: qs) k = valueAt qs k:=by simp [valueAt,List.find?_cons,e']
   rw [valV_neg e,b]; exact ih
theorem KV.any {kvs:List (κ × V)} {vs:List (κ × Value)} (r:KV kvs vs) (k : κ) : (kvs.any fun kv=>decide (kv.1 = k)) = vs.any fun kv=>decide (kv.1 = k):=by
 unfold KV at r
 induction r with
 | nil=>rfl
 | cons h t ih=>rw [List.any_cons,List.any_cons,ih,h.1]
theorem KV.repl {kvs:List (κ × V)} {vs:List (κ × Value)} (r:KV kvs vs) (k : κ) {y:V} {u:Value} (ry:RelV y u) :
  KV (kvs.map fun kv=>if kv.1 = k then (kv.1,y) else kv) (vs.map fun kv=>if kv.1 = k then (kv.1,u) else kv):=by
 unfold KV at r ⊢
 induction r with
 | nil=>exact .nil
 | @cons p q ps qs h t ih=>
  rw [List.map_cons,List.map_cons]
  refine .cons ?_ ih
  obtain ⟨h1,h2⟩:=h
  by_cases e:p.1 = k
  ·rw [if_pos e,if_pos (h1.symm.trans e)]; exact ⟨h1,ry⟩
  ·rw [if_neg e,if_neg (fun z=>e (h1.trans z))]; exact ⟨h1,h2⟩
theorem KV.put {kvs:List (κ × V)} {vs:List (κ × Value)} (r:KV kvs vs) (k : κ) {y:V} {u:Value} (ry:RelV y u) : KV (putK kvs k y) (stored vs k u):=by
 unfold putK stored
 rw [r.any k]
 by_cases e:(vs.any fun kv=>decide (kv.1 = k)) = true
 ·rw [if_pos e,if_pos e]; exact r.repl k ry
 ·rw [if_neg e,if_neg e]; exact Paired.snoc r ⟨rfl,ry⟩
theorem KV.length {kvs:List (κ × V)} {vs:List (κ × Value)} (r:KV kvs vs) : kvs.length = vs.length:=Paired.length r
end
theorem kV_is {P:Program} {w:World} {k:Key} {u:Value} (r:RelV (kV k) u) : (mixKind P w).is k u = true:=by
 cases k with
 | inl i=>obtain ⟨t,e⟩:=(show ∃ t,u = Value.int i t from r); subst e; exact mixKind_int P w i t
 | inr x=>obtain ⟨t,e⟩:=(show ∃ t,u = Value.str x t from r); subst e; exact mixKind_str P w x t
theorem items_are {P:Program} {w:World} : ∀ {ks:List Key} {us:List Value},Vals (ks.map kV) us → ItemsAre (mixKind P w) ks us
 | [],_,r=>by rw [List.map_nil] at r; cases r; exact .nil
 | k :: ks,_,r=>by
  rw [List.map_cons] at r
  cases r with
  | cons h t=>exact .cons (kV_is h) (items_are t)
abbrev KT (H:Hp) : List (List Key × V) → List (List Key × Addr × Value) → Prop:=Paired fun p q=>p.1 = q.1 ∧ H q.2.1 = some (.tup (p.1.map kV)) ∧ RelV p.2 q.2.2
theorem KT.val {H:Hp} {kvs:List (List Key × V)} {xs:List (List Key × Addr × Value)} (r:KT H kvs xs) (k:List Key) : RelO (valV kvs k) ((atKey xs k).map (·.2)):=by
 induction r with
 | nil=>exact True.intro
 | @cons p q ps qs h t ih=>
  obtain ⟨h1,_,h2⟩:=h
  by_cases e:p.1 = k
  ·have e':q.1 = k:=h1.symm.trans e
   have b:atKey (q :: qs) k = some q.2:=by simp [atKey,List.find?_cons,e']
   rw [valV_pos e,b]; exact h2
  ·have e' : ¬ q.1 = k:=fun z=>e (h1.trans z)
   have b:atKey (q :: qs) k = atKey qs k:=by simp [atKey,List.find?_cons,e']
   rw [valV_neg e,b]; exact ih
theorem KT.repl {H:Hp} {kvs:List (List Key × V)} {xs:List (List Key × Addr × Value)} (r:KT H kvs xs) (k:List Key) {y:V} {u:Value} (ry:RelV y u) :
  KT H (kvs.map fun kv=>if kv.1 = k then (kv.1,y) else kv) (xs.map (putAt k u)):=by
 induction r with
 | nil=>exact .nil
 | @cons p q ps qs h t ih=>
  rw [List.map_cons,List.map_cons]
  refine .cons ?_ ih
  obtain ⟨h1,h2,h3⟩:=h
  unfold putAt
  by_cases e:p.1 = k
  ·rw [if_pos e,if_pos (h1.symm.trans e)]; exact ⟨h1,h2,ry⟩
  ·rw [if_neg e,if_neg (fun z=>e (h1.trans z))]; exact ⟨h1,h2,h3⟩
theorem KT.put {H:Hp} {kvs:List (List Key × V)} {xs:List (List Key × Addr × Value)} (r:KT H kvs xs) (k:List Key) {b:Addr} {y:V} {u:Value} (hb:H b = some (.tup (k.map kV))) (ry:RelV y u) :
  KT H (putK kvs k y) (storedH xs k b u):=by
 have e:(kvs.any fun kv=>decide (kv.1 = k)) = (atKey xs k).isSome:=by
  rw [valV_any,(r.val k).isSome_eq,Option.isSome_map]
 unfold putK storedH
 rw [e]
 by_cases q:(atKey xs k).isSome = true
 ·rw [if_pos q,if_pos q]; exact r.repl k ry
 ·rw [if_neg q,if_neg q]; exact Paired.snoc r ⟨rfl,hb,ry⟩
theorem KT.keeps {H H':Hp} {kvs:List (List Key × V)} {xs:List (List Key × Addr × Value)} (r:KT H kvs xs) (ht : ∀ b ys,H b = some (.tup ys) → H' b = some (.tup ys)) : KT H' kvs xs:=
 Paired.mapP r fun _ _ z=>⟨z.1,ht _ _ z.2.1,z.2.2⟩
section
variable {P:Program} {w:World} {H:Hp} {h:Heap} {a:Addr}
theorem rd_of {u:HO} (ok:HOk P w H h) (e:Rd H a u) : ObjOk P w H h a u:=e.ok ok
theorem dk_rd {kvs:List (Key × V)} (ok:HOk P w H h) (e:Rd H a (.dK kvs)) : kvs.length ≤ sizeLine ∧ (a == sysModules) = false ∧ ∃ vs,KV kvs vs ∧ h.DictOf (mixKind P w) a vs:=
 show ObjOk P w H h a (.dK kvs) from rd_of ok e
theorem dk_of {kvs:List (Key × V)} (ok:HOk P w H h) (e:H a = some (.dK kvs)) : kvs.length ≤ sizeLine ∧ (a == sysModules) = false ∧ ∃ vs,KV kvs vs ∧ h.DictOf (mixKind P w) a vs:=dk_rd ok (.inl e)
theorem key_of {ks:List Key} (ok:HOk P w H h) (e:H a = some (.tup (ks.map kV))) : (tupleKind (mixKind P w)).is h ks a:=by
 obtain ⟨_,its,r,o,h1,h2,n,h3⟩:=(show ObjOk P w H h a (.tup (ks.map kV)) from ok a _ e)
 exact ⟨o,its.toArray,n,h1,h2,h3,by simpa using items_are r⟩
theorem dt_rd {kvs:List (List Key × V)} (ok:HOk P w H h) (e:Rd H a (.dT kvs)) : kvs.length ≤ sizeLine ∧ (a == sysModules) = false ∧
  ∃ xs,KT H kvs xs ∧ h.DictOfH (tupleKind (mixKind P w)) a xs:=by
 obtain ⟨z,y,xs,r,o,es,ep,h1,h2,h3,h4,h5⟩:=(show ObjOk P w H h a (.dT kvs) from rd_of ok e)
 refine ⟨z,y,xs,r,o,es,ep,h1,h2,h3,h4,fun x hx=>?_,h5⟩
 have all : ∀ {l:List (List Key × V)} {m:List (List Key × Addr × Value)},KT H l m → ∀ x ∈ m,(tupleKind (mixKind P w)).is h x.1 x.2.1:=by
  intro l m q
  induction q with
  | nil=>intro x hx; exact nomatch hx
  | @cons p q ps qs hq t ih=>
   intro x hx
   rcases List.mem_cons.mp hx with e | hx
   ·subst e
    exact key_of ok (by rw [← hq.1]; exact hq.2.1)
   ·exact ih x hx
 exact all r x hx
theorem dt_of {kvs:List (List Key × V)} (ok:HOk P w H h) (e:H a = some (.dT kvs)) : kvs.length ≤ sizeLine ∧ (a == sysModules) = false ∧
  ∃ xs,KT H kvs xs ∧ h.DictOfH (tupleKind (mixKind P w)) a xs:=dt_rd ok (.inl e)
end
def DGet (H:Hp) (a:Addr) (y:V) (r:Option V) : Prop:=
 (∃ kvs k,Rd H a (.dK kvs) ∧ y = kV k ∧ r = valV kvs k) ∨ ∃ kvs k b,Rd H a (.dT kvs) ∧ y = .ref b ∧ H b = some (.tup (k.map kV)) ∧ r = valV kvs k
def DPut (H:Hp) (a:Addr) (y v:V) (H':Hp) : Prop:=
 (∃ kvs k,H a = some (.dK kvs) ∧ y = kV k ∧ kvs.length < sizeLine ∧ H' = upd H a (.dK (putK kvs k v))) ∨
 ∃ kvs k b,H a = some (.dT kvs) ∧ y = .ref b ∧ H b = some (.tup (k.map kV)) ∧ kvs.length < sizeLine ∧ H' = upd H a (.dT (putK kvs k v))
theorem DPut.k {H:Hp} {a:Addr} {kvs:List (Key × V)} {k:Key} {v:V} (e:H a = some (.dK kvs)) (hl:kvs.length < sizeLine) : DPut H a (kV k) v (upd H a (.dK (putK kvs k v))):=.inl ⟨kvs,k,e,rfl,hl,rfl⟩
theorem DPut.t {H:Hp} {a b:Addr} {kvs:List (List Key × V)} {k:List Key} {v:V} (e:H a = some (.dT kvs)) (eb:H b = some (.tup (k.map kV))) (hl:kvs.length < sizeLine) :
  DPut H a (.ref b) v (upd H a (.dT (putK kvs k v))):=.inr ⟨kvs,k,b,e,rfl,eb,hl,rfl⟩
section
variable {X:Cx} {pins:List (Addr × Obj)} {σ : St} {H:Hp} {s:Shared} {a:Addr} {y v:V} {u r:Value} {o:Option V} {A:Around} {E:Value → Shared → Prop}
theorem Inv.big (I:Inv X pins σ H s) : sysModules < s.heap.objs.size:=by
 have h:mainGlobals < s.heap.objs.size:=(I.mod.glob.keeps I.bk).lt
 exact Nat.lt_trans (by decide) h
theorem d_getItem {Q:Value → Shared → Prop} (hu:A.units + 1 < cLine) (I:Inv X pins σ H s) (g:DGet H a y (some v)) (ry:RelV y u) (h : ∀ w' s',Inv X pins σ H s' → RelV v w' → Q w' s') :
  wpAny (model X.prog X.w) A (getItem (.ref a) u) Q E s:=by
 rcases g with ⟨kvs,k,e,ey,l⟩ | ⟨kvs,k,b,e,ey,eb,l⟩
 ·subst ey
  obtain ⟨z,hd,vs,rel,dd⟩:=dk_rd I.hok e
  obtain ⟨w',hw,rw'⟩:=RelO.some_of (v:=v) (o:=valueAt vs k) (by rw [l]; exact rel.val k)
  exact wpAny_getItem_of (kV_is ry) dd.mapOf hw (h w' _ (I.tok _) rw')
 ·subst ey
  cases (show u = Value.ref b from ry)
  obtain ⟨z,hd,xs,rel,dd⟩:=dt_rd I.hok e
  obtain ⟨w',hw,rw'⟩:=RelO.some_of (v:=v) (o:=(atKey xs k).map (·.2)) (by rw [l]; exact rel.val k)
  obtain ⟨p,hp,hp2⟩:=Option.map_eq_some_iff.mp hw
  refine wpAny_getItem_heap (tupleKind_room_in1 hu) (key_of I.hok eb) dd hp ?_
  rw [hp2]
  exact h w' _ (I.tok _) rw'
theorem d_in {Q:Value → Shared → Prop} (hu:A.units + 1 < cLine) (I:Inv X pins σ H s) (g:DGet H a y o) (ry:RelV y u) (h : ∀ s',Inv X pins σ H s' → Q (.bool o.isSome) s') :
  wpAny (model X.prog X.w) A (compareOp .In u (.ref a)) Q E s:=by
 rcases g with ⟨kvs,k,e,ey,l⟩ | ⟨kvs,k,b,e,ey,eb,l⟩
 ·subst ey
  obtain ⟨z,hd,vs,rel,dd⟩:=dk_rd I.hok e
  refine wpAny_in_of (kV_is ry) hd dd.mapOf ?_
  rw [← (rel.val k).isSome_eq,← l]
  exact h _ (I.tok _)
 ·subst ey
  cases (show u = Value.ref b from ry)
  obtain ⟨z,hd,xs,rel,dd⟩:=dt_rd I.hok e
  refine wpAny_in_heap (tupleKind_room_in1 hu) (key_of I.hok eb) hd dd ?_
  have q:=(rel.val k).isSome_eq
  rw [Option.isSome_map] at q
  rw [← q,← l]
  exact h _ (I.tok _)
theorem d_notIn {Q:Value → Shared → Prop} (hu:A.units + 1 < cLine) (I:Inv X pins σ H s) (g:DGet H a y o) (ry:RelV y u) (h : ∀ s',Inv X pins σ H s' → Q (.bool (!o.isSome)) s') :
  wpAny (model X.prog X.w) A (compareOp .NotIn u (.ref a)) Q E s:=by
 rcases g with ⟨kvs,k,e,ey,l⟩ | ⟨kvs,k,b,e,ey,eb,l⟩
 ·subst ey
  obtain ⟨z,hd,vs,rel,dd⟩:=dk_rd I.hok e
  refine wpAny_notIn_of (kV_is ry) hd dd.mapOf ?_
  rw [← (rel.val k).isSome_eq,← l]
  exact h _ (I.tok _)
 ·subst ey
  cases (show u = Value.ref b from ry)
  obtain ⟨z,hd,xs,rel,dd⟩:=dt_rd I.hok e
  refine wpAny_notIn_heap (tupleKind_room_in1 hu) (key_of I.hok eb) hd dd ?_
  have q:=(rel.val k).isSome_eq
  rw [Option.isSome_map] at q
  rw [← q,← l]
  exact h _ (I.tok _)
theorem d_write {h':Heap} {t':Nat} {ob:HO} (I:Inv X pins σ H s) (mu:Mut (H a)) (hs:Heap.SameBut a s.heap h') (he : ∃ q,h'.get? a = some q) (new:ObjOk X.prog X.w (upd H a ob) h' a ob) :
  Inv X pins σ (upd H a ob) { s with heap:=h',toks:=t' }:=
 I.write (x:=a) (e:=a) mu (.inl rfl) (fun b q hb z=>(hs.2 b hb).trans z) he new
theorem dk_new {P:Program} {w:World} {H':Hp} {h':Heap} {kvs:List (Key × V)} {vs:List (Key × Value)} (z:kvs.length ≤ sizeLine) (hd:(a == sysModules) = false) (rel:KV kvs vs) (dd:h'.DictOf (mixKind P w) a vs) :
  ObjOk P w H' h' a (.dK kvs):=⟨z,hd,vs,rel,dd⟩
theorem d_setItem {H':Hp} {Q:Unit → Shared → Prop} (hu:A.units + 1 < cLine) (I:Inv X pins σ H s) (g:DPut H a y v H') (ry:RelV y u) (rv:RelV v r) (h : ∀ s',Inv X pins σ H' s' → Q () s') :
  wpAny (model X.prog X.w) A (setItem (.ref a) u r) Q E s:=by
 rcases g with ⟨kvs,k,e,ey,l,eH⟩ | ⟨kvs,k,b,e,ey,eb,l,eH⟩
 ·subst ey eH
  obtain ⟨z,hd,vs,rel,dd⟩:=dk_of I.hok e
  have hz:vs.length ≤ sizeLine:=by rw [← rel.length]; exact z
  have hl:(putK kvs k v).length ≤ sizeLine:=by have:=length_putK kvs k v; omega
  refine wpAny_setItem_pairs (hsz:=hz) (kV_is ry) dd fun h' dd' hs=>h _ ?_
  have he : ∃ q,h'.get? a = some q:=let ⟨q,_,_,hq,_⟩:=dd'; ⟨q,hq⟩
  exact d_write I (by rw [e]; exact True.intro) hs he (dk_new hl hd (rel.put k rv) dd')
 ·subst ey eH
  cases (show u = Value.ref b from ry)
  obtain ⟨z,hd,xs,rel,dd⟩:=dt_of I.hok e
  have hz:xs.length ≤ sizeLine:=by rw [← Paired.length rel]; exact z
  have hl:(putK kvs k v).length ≤ sizeLine:=by have:=length_putK kvs k v; omega
  refine wpAny_setItem_heap (hsz:=hz) (tupleKind_room_in1 hu) (key_of I.hok eb) dd fun h' dd' hs=>h _ ?_
  obtain ⟨q,es,ep,hq,h2,h3,h4,_,h5⟩:=dd'
  refine d_write I (by rw [e]; exact True.intro) hs ⟨q,hq⟩ ⟨hl,hd,_,(rel.put k eb rv).keeps fun c ys ec=>?_,q,es,ep,hq,h2,h3,h4,h5⟩
  rw [upd_ne (ne_of ec e (fun z=>nomatch z))]
  exact ec
end
section
variable {X:Cx} {pins:List (Addr × Obj)} {σ : St} {H:Hp} {s:Shared} {a:Addr} {kvs:List (Key × V)} {k:Key} {u:Value} {A:Around} {E:Value → Shared → Prop}
end
def NoSl (i:Expr) : Prop:=∀ ov iv,subscripted i false ov iv = operate [ov,iv] (getItem ov iv)
theorem subD_of {prog:Program} {w:World} {A:Around} {E:Value → Shared → Prop} {s:Shared} {env:Env} {value slice:Expr} {pos:Pos} {T id:String} {Q:Value → Shared → Prop}
  (hl:typeLookup (.type T) "__getitem__" = pure (some (.builtin id))) (hs:NoSl slice)
  (h:wpAny (model prog w) A (eval value env) (fun o s₁=>wpAny (model prog w) A (eval slice env) (fun i s₂=>s₂.TypeIs o T ∧ wpAny (model prog w) A (getItem o i) Q E s₂) E s₁) E s) :
  wpAny (model prog w) A (eval (.Subscript value slice pos) env) Q E s:=by
 refine Subscript_ (wpAny_mono h (fun o s₁ h₁=>wpAny_mono h₁ (fun i s₂ h₂=>?_) fun _ _ x=>x) fun _ _ x=>x)
 obtain ⟨hT,h₂⟩:=h₂
 unfold subscriptTail
 refine wpAny_bind ?_
 rw [getitemInPython_of_ne hT.not_modules]
 refine wpAny_bind (wpAny_specialOf hT hl ?_)
 have fin:wpAny (model prog w) A (subscripted slice false o i) (fun r s₃=>wpAny (model prog w) A (letTemporaryGo value o r >>= fun _=>pure r) Q E s₃) E s₂:=by
  rw [hs o i]
  exact wpAny_operating (wpAny_mono h₂ (fun r s₃ h₃=>wpAny_bind (wpAny_letTemporaryGo (wpAny_pure h₃))) fun _ _ x=>x)
 first
  | exact wpAny_pure (wpAny_bind fin)
  | exact wpAny_bind (wpAny_pure (wpAny_bind fin))
  | exact wpAny_bind fin
theorem dict_typeIs {X:Cx} {pins:List (Addr × Obj)} {σ : St} {H:Hp} {s:Shared} {a:Addr} {y:V} {o:Option V} (I:Inv X pins σ H s) (g:DGet H a y o) : s.TypeIs (.ref a) "dict" := by
 rcases g with ⟨kvs,k,e,_,_⟩ | ⟨kvs,k,b,e,_,_,_⟩
 ·obtain ⟨_,_,vs,_,dd⟩:=dk_rd I.hok e
  exact dd.typeIs
 ·obtain ⟨_,_,xs,_,dd⟩:=dt_rd I.hok e
  exact dd.typeIs
def tDGet (td ty:TE) : TE:=fun σ H Q=>td σ H fun x H1=>ty σ H1 fun y H2=>∃ a v,x = .ref a ∧ DGet H2 a y (some v) ∧ Q v H2
def tDIn (ty td:TE) : TE:=fun σ H Q=>ty σ H fun y H1=>td σ H1 fun x H2=>∃ a o,x = .ref a ∧ DGet H2 a y o ∧ Q (.bl o.isSome) H2
def tDNotIn (ty td:TE) : TE:=fun σ H Q=>ty σ H fun y H1=>td σ H1 fun x H2=>∃ a o,x = .ref a ∧ DGet H2 a y o ∧ Q (.bl (!o.isSome)) H2
def sDPut (td ty tv:TE) : TS:=fun D σ H=>tv σ H fun v H1=>td σ H1 fun x H2=>ty σ H2 fun y H3=>∃ a H4,x = .ref a ∧ DPut H3 a y v H4 ∧ D.nx σ H4
section
variable {X:Cx} {o i e value:Expr} {pos pos' tpos:Pos} {td ty tv:TE}
theorem pe_dget (hu:X.A.units + 1 < cLine) (ho:PE X o td) (hi:PE X i ty) (hs:NoSl i) : PE X (.Subscript o i pos) (tDGet td ty):=by
 intro pins s σ H Q I h
 refine subD_of PySem.F.slot_dict_getitem.lookup hs (thn (ho pins s σ H _ I h) fun u s1 ⟨x,H1,I1,rx,q1⟩=>thn (hi pins s1 σ H1 _ I1 q1) fun iv s2 ⟨y,H2,I2,ry,a,v,ex,g,q2⟩=>?_)
 subst ex
 obtain rfl:u = Value.ref a:=rx
 exact ⟨dict_typeIs I2 g,d_getItem hu I2 g ry fun w' s3 I3 rw'=>⟨v,H2,I3,rw',q2⟩⟩
theorem pc_din (hu:X.A.units + 1 < cLine) (hi:PE X i ty) (ho:PE X o td) : PC X .In i o (tDIn ty td):=by
 intro pins s σ H Q I h
 refine thn (hi pins s σ H _ I h) fun iv s1 ⟨y,H1,I1,ry,q1⟩=>thn (ho pins s1 σ H1 _ I1 q1) fun u s2 ⟨x,H2,I2,rx,a,ov,ex,g,q2⟩=>?_
 subst ex
 obtain rfl:u = Value.ref a:=rx
 exact d_in hu I2 g ry fun s3 I3=>⟨.bl ov.isSome,H2,I3,rfl,q2⟩
theorem pc_dnotin (hu:X.A.units + 1 < cLine) (hi:PE X i ty) (ho:PE X o td) : PC X .NotIn i o (tDNotIn ty td):=by
 intro pins s σ H Q I h
 refine thn (hi pins s σ H _ I h) fun iv s1 ⟨y,H1,I1,ry,q1⟩=>thn (ho pins s1 σ H1 _ I1 q1) fun u s2 ⟨x,H2,I2,rx,a,ov,ex,g,q2⟩=>?_
 subst ex
 obtain rfl:u = Value.ref a:=rx
 exact d_notIn hu I2 g ry fun s3 I3=>⟨.bl (!ov.isSome),H2,I3,rfl,q2⟩
theorem ps_dput (hu:X.A.units + 1 < cLine) (ho:PE X o td) (hi:PE X i ty) (hv:PE X value tv) (hs:swapsWith value (some (.Subscript o i pos')) pos.line X.env = pure false) :
  PS X (.Assign [.Subscript o i pos'] value pos) (sDPut td ty tv):=by
 intro pins s σ H D I h
 refine wpAny_Assign_Subscript (thn (hv pins s σ H _ I h) fun r s1 ⟨v,H1,I1,rv,q1⟩=>thn (ho pins s1 σ H1 _ I1 q1) fun u s2 ⟨x,H2,I2,rx,q2⟩=>thn (hi pins s2 σ H2 _ I2 q2) fun iv s3 ⟨y,H3,I3,ry,a,H4,ex,g,q3⟩=>?_) hs
 subst ex
 obtain rfl:u = Value.ref a:=rx
 exact d_setItem hu I3 g ry rv fun s4 I4=>⟨σ,H4,I4,q3⟩
end
theorem dk_empty {P:Program} {w:World} {H:Hp} (h:Heap) (hb:sysModules < h.objs.size) : ObjOk P w H (h.push { cls:=.type "dict",data:=.dict #[] }) h.objs.size (.dK []):=
 ⟨Nat.zero_le _,beq_eq_false_iff_ne.mpr (Ne.symm (Nat.ne_of_lt hb)),[],.nil,Heap.DictOf.new h⟩
theorem dt_empty {P:Program} {w:World} {H:Hp} (h:Heap) (hb:sysModules < h.objs.size) : ObjOk P w H (h.push { cls:=.type "dict",data:=.dict #[] }) h.objs.size (.dT []):=
 ⟨Nat.zero_le _,beq_eq_false_iff_ne.mpr (Ne.symm (Nat.ne_of_lt hb)),[],.nil,_,#[],0,Heap.get?_push_size _ rfl,⟨rfl,rfl,rfl⟩,rfl,rfl,List.nodup_nil⟩
def tDNewT:TE:=fun _ H Q=>∀ p,H p = none → Q (.ref p) (upd H p (.dT []))
section
variable {X:Cx} {pos:Pos}
theorem pe_dnewT:PE X (.Dict [] [] pos) tDNewT:=fun pins s σ H Q I h=>
 wpAny_Dict_empty ⟨.ref s.heap.objs.size,_,I.laid (a:=s.heap.objs.size) (o:=.dT []) (t':=s.toks) (fun _ _ q=>Heap.get?_push_of_some _ q) (Nat.le_refl _) (dt_empty s.heap I.big),rfl,h _ (I.hok.fresh (Nat.le_refl _))⟩
end
structure M2 (X:Cx) (o:Expr) (m:Str) (apos:Pos) (e f:Expr) (cpos:Pos) : Prop where
 base:attributeBase o m X.env (eval o X.env) = eval o X.env
 few:((backTo cpos (starEach [e,f] X.env)).all (fun x=>!x.1) && (backToKw cpos (keywordEach [] X.env)).all (fun x=>x.1.isSome)
  && decide (([e,f] : List Expr).length + ([] : List Keyword).length + (if ([] : List Keyword).isEmpty then 0 else 1) < 30)) = true
 line:(apos.endLine == cpos.line) = true
 trees:backTo cpos (starEach [e,f] X.env) = [(false,eval e X.env),(false,eval f X.env)]
def IsD (H:Hp) (a:Addr) : Prop:=(∃ kvs,Rd H a (.dK kvs)) ∨ ∃ kvs,Rd H a (.dT kvs)
theorem isD_at {X:Cx} {pins:List (Addr × Obj)} {σ : St} {H:Hp} {s:Shared} {a:Addr} (I:Inv X pins σ H s) (d:IsD H a) :
  s.TypeIs (.ref a) "dict" ∧ (∀ b,Value.ref a = .ref b → ∃ ob,s.heap.get? b = some ob ∧ ob.dict = none) ∧ (a == sysModules) = false:=by
 rcases d with ⟨kvs,e⟩ | ⟨kvs,e⟩
 ·obtain ⟨_,hd,vs,_,dd⟩:=dk_rd I.hok e
  refine ⟨dd.typeIs,fun b q=>?_,hd⟩
  cases q
  obtain ⟨ob,_,_,h1,h2,_⟩:=dd
  exact ⟨ob,h1,h2.2.1⟩
 ·obtain ⟨_,hd,xs,_,dd⟩:=dt_rd I.hok e
  refine ⟨dd.typeIs,fun b q=>?_,hd⟩
  cases q
  obtain ⟨ob,_,_,h1,h2,_⟩:=dd
  exact ⟨ob,h1,h2.2.1⟩
section
variable {X:Cx} {pins:List (Addr × Obj)} {σ : St} {H:Hp} {s:Shared} {a:Addr} {y d:V} {u r:Value} {o:Option V} {A:Around} {E:Value → Shared → Prop}
end
section
variable {X:Cx} {o e f:Expr} {apos cpos:Pos} {td ty tx:TE}
end
section
variable {X:Cx} {pins:List (Addr × Obj)} {σ : St} {H:Hp} {s:Shared} {a:Addr} {kvs:List (Key × V)} {A:Around} {E:Value → Shared → Prop}
end
section
variable {X:Cx} {pins:List (Addr × Obj)} {σ : St} {H:Hp} {s:Shared} {a:Addr} {y:V} {u:Value} {A:Around} {E:Value → Shared → Prop}
end
end L2
namespace Att
open PySem PySem.W PySem.Calls PyProof.Rows
section
variable {prog:Program} {w:World} {A:Around} {E:Value → Shared → Prop} {s:Shared} {K:Frag}
end
end Att
namespace L2
open PySem PySem.Spec PyProof.Rows
end L2
namespace L2
open PySem PySem.Spec PyProof.Rows
end L2
namespace L2
open PySem PySem.Spec PyProof.Rows
section
variable {P:Program} {w:World} {K:PySem.W.Frag} {mg:Str → Option Value} {base:Heap}
end
section
variable {X:Cx}
end
section
variable {κ : Type} [DecidableEq κ]
theorem valV_in {kvs:List (κ × V)} {k : κ} {v:V} (h:valV kvs k = some v) : k ∈ kvs.map (·.1):=by
 have q:(kvs.any fun kv=>decide (kv.1 = k)) = true:=by
  rw [valV_any,h]
  all_goals rfl
 obtain ⟨p,hp,e⟩:=List.any_eq_true.mp q
 exact List.mem_map.mpr ⟨p,hp,of_decide_eq_true e⟩
end
end L2
namespace L2
open PySem PySem.Spec PyProof.Rows
def clOf (scope:Scope) (env:Env) : List (Str × Addr):=
 (scope.names.filterMap fun p=>if p.2 = NameKind.free then (env.cells.lookup p.1).map fun c=>(p.1,c) else none).reverse
theorem lookup_memOf {α : Type} {x:Str} {c : α} : ∀ {l:List (Str × α)},l.lookup x = some c → (x,c) ∈ l
 | [],h=>by simp at h
 | (y,d) :: r,h=>by
  rw [List.lookup_cons] at h
  cases e:x == y with
  | true=>
   rw [e] at h
   have h':d = c:=Option.some.inj h
   rw [h',eq_of_beq e]
   exact List.mem_cons_self
  | false=>
   rw [e] at h
   exact List.mem_cons_of_mem _ (lookup_memOf h)
theorem lookup_ofMem {α : Type} {x:Str} {c : α} : ∀ {l:List (Str × α)},(x,c) ∈ l → ∃ d,l.lookup x = some d
 | [],h=>by simp at h
 | (y, d) :: r,h=>by
  rw [List.lookup_cons]
  cases e:x == y with
  | true=>exact ⟨d,rfl⟩
  | false=>
   rcases List.mem_cons.mp h with z | z
   ·have z1:x = y:=congrArg Prod.fst z
    rw [z1,beq_self_eq_true] at e
    cases e
   ·exact lookup_ofMem z
theorem mem_clOf {scope:Scope} {env:Env} {x:Str} {c:Addr} : (x,c) ∈ clOf scope env ↔ (x,NameKind.free) ∈ scope.names ∧ env.cells.lookup x = some c:=by
 unfold clOf
 rw [List.mem_reverse,List.mem_filterMap]
 constructor
 ·rintro ⟨⟨y,k⟩,hm,e⟩
  by_cases hk:k = NameKind.free
  ·subst hk
   rw [if_pos rfl] at e
   cases q:env.cells.lookup y with
   | none=>rw [q] at e; cases e
   | some d=>
    rw [q] at e
    have e':(y,d) = (x,c):=Option.some.inj e
    cases e'
    exact ⟨hm,q⟩
  ·rw [if_neg hk] at e
   cases e
 ·rintro ⟨hm,q⟩
  exact ⟨(x,NameKind.free),hm,by rw [if_pos rfl]; rw [q]; rfl⟩
theorem clOf_env {scope:Scope} {env:Env} {x:Str} {c:Addr} (h:(clOf scope env).lookup x = some c) : env.cells.lookup x = some c:=(mem_clOf.mp (lookup_memOf h)).2
theorem clOf_has {scope:Scope} {env:Env} {x:Str} {c:Addr} (hm:(x,NameKind.free) ∈ scope.names) (h:env.cells.lookup x = some c) : (clOf scope env).lookup x = some c:=by
 obtain ⟨d,e⟩:=lookup_ofMem (mem_clOf.mpr ⟨hm,h⟩)
 rw [e,← h]
 exact (clOf_env e).symm
theorem closure_go {env:Env} : ∀ (names:List (Str × NameKind)) (cs:List (Str × Addr)),(∀ p ∈ names,p.2 = .free → ∃ c,env.cells.lookup p.1 = some c) →
  (forIn names cs fun (x:Str × NameKind) (cs:List (Str × Addr))=>(match x with
   | (name,kind)=>if (kind == .free) = true then (do let a ← cellOf env name; pure (ForInStep.yield ((name,a) :: cs))) else pure (ForInStep.yield cs) : Sem (ForInStep (List (Str × Addr)))))
   = pure ((names.filterMap fun p=>if p.2 = NameKind.free then (env.cells.lookup p.1).map fun c=>(p.1,c) else none).reverse ++ cs)
 | [],cs,_=>rfl
 | (n,k) :: r,cs,h=>by
  rw [List.forIn_cons]
  have hr : ∀ p ∈ r,p.2 = .free → ∃ c,env.cells.lookup p.1 = some c:=fun p hp=>h p (List.mem_cons_of_mem _ hp)
  by_cases hk:k = NameKind.free
  ·subst hk
   obtain ⟨c,hc⟩:=h (n,.free) List.mem_cons_self rfl
   have e1:cellOf env n = pure c:=by unfold cellOf; rw [show env.cells.lookup n = some c from hc]
   show ((do let a ← cellOf env n; pure (ForInStep.yield ((n,a) :: cs)) : Sem (ForInStep (List (Str × Addr)))) >>= _) = _
   rw [e1]
   simp only [pure_bind]
   rw [closure_go r ((n,c) :: cs) hr,List.filterMap_cons,if_pos rfl,show env.cells.lookup n = some c from hc]
   simp
  ·have hb:(k == NameKind.free) = false:=by simpa using hk
   show ((if (k == NameKind.free) = true then (do let a ← cellOf env n; pure (ForInStep.yield ((n,a) :: cs))) else pure (ForInStep.yield cs) : Sem (ForInStep (List (Str × Addr)))) >>= _) = _
   rw [hb,if_neg Bool.false_ne_true]
   simp only [pure_bind]
   rw [closure_go r cs hr,List.filterMap_cons,if_neg hk]
theorem closure_is {scope:Scope} {env:Env} (h : ∀ p ∈ scope.names,p.2 = .free → ∃ c,env.cells.lookup p.1 = some c) : closureFor scope env = pure (clOf scope env):=by
 have e:=closure_go scope.names [] h
 rw [List.append_nil] at e
 unfold closureFor clOf
 simp only [bind_pure]
 exact e
theorem lookup_relabel {env:Env} {x:Str} : ∀ {names:List (Str × NameKind)} {k:NameKind},
  (names.map fun (n,k)=>if (k == NameKind.free && env.scope.kind == .function && env.kindOf n == some .cell) then (n,NameKind.cell) else (n,k)).lookup x = some k →
   ∃ k',(x,k') ∈ names ∧ (k' = k ∨ (k' = .free ∧ k = .cell))
 | [],_,h=>by simp at h
 | (n, j) :: r,k,h=>by
  by_cases hc:(j == NameKind.free && env.scope.kind == .function && env.kindOf n == some .cell) = true
  ·rw [List.map_cons] at h
   have h':List.lookup x ((if (j == NameKind.free && env.scope.kind == .function && env.kindOf n == some .cell) = true then (n,NameKind.cell) else (n,j)) :: _) = some k:=h
   rw [if_pos hc,List.lookup_cons] at h'
   cases e:x == n with
   | true=>
    rw [e] at h'
    have h2:NameKind.cell = k:=Option.some.inj h'
    have hj:j = NameKind.free:=by
     have:=hc
     rw [Bool.and_eq_true,Bool.and_eq_true] at this
     exact eq_of_beq this.1.1
    exact ⟨j,by rw [eq_of_beq e]; exact List.mem_cons_self,.inr ⟨hj,h2.symm⟩⟩
   | false=>
    rw [e] at h'
    obtain ⟨k',hm,q⟩:=lookup_relabel h'
    exact ⟨k',List.mem_cons_of_mem _ hm,q⟩
  ·rw [List.map_cons] at h
   have h':List.lookup x ((if (j == NameKind.free && env.scope.kind == .function && env.kindOf n == some .cell) = true then (n,NameKind.cell) else (n,j)) :: _) = some k:=h
   rw [if_neg hc,List.lookup_cons] at h'
   cases e:x == n with
   | true=>
    rw [e] at h'
    exact ⟨j,by rw [eq_of_beq e]; exact List.mem_cons_self,.inl (Option.some.inj h')⟩
   | false=>
    rw [e] at h'
    obtain ⟨k',hm,q⟩:=lookup_relabel h'
    exact ⟨k',List.mem_cons_of_mem _ hm,q⟩
def compOk (N:List Str) (sc scope:Scope) (N':List Str) (ix:List (Option Nat)) : Bool:=
 scope.kind == .function && scope.names.all (fun y=>y.2 != .cell) && scope.names.all (fun y=>y.2 != .local || scope.names.lookup y.1 == some .local) &&
 scope.names.all (fun y=>y.2 != .free || sc.names.lookup y.1 == some .cell || sc.names.lookup y.1 == some .free) &&
 decide (ix.length = N'.length) && decide N'.Nodup &&
 (N'.zip ix).all fun p=>match p.2 with
  | none=>scope.names.all fun y=>y.1 != p.1 || y.2 == .local
  | some k=>N[k]? == some p.1 && scope.names.lookup p.1 == some .free && scope.names.all fun y=>y.1 != p.1 || y.2 == .free
structure CompOk (N:List Str) (sc scope:Scope) (N':List Str) (ix:List (Option Nat)) : Prop where
 kind:scope.kind = .function
 nocell : ∀ y ∈ scope.names,y.2 ≠ .cell
 names : ∀ y ∈ scope.names,y.2 = .local → scope.names.lookup y.1 = some .local
 frees : ∀ y ∈ scope.names,y.2 = .free → sc.names.lookup y.1 = some .cell ∨ sc.names.lookup y.1 = some .free
 len:ix.length = N'.length
 nd:N'.Nodup
 own : ∀ (i:Nat) (x:Str),N'[i]? = some x → ix[i]? = some none → ∀ y ∈ scope.names,y.1 = x → y.2 = .local
 out : ∀ (i:Nat) (x:Str) (k:Nat),N'[i]? = some x → ix[i]? = some (some k) → N[k]? = some x ∧ (x,NameKind.free) ∈ scope.names ∧ ∀ y ∈ scope.names,y.1 = x → y.2 = .free
theorem compOk_is {N:List Str} {sc scope:Scope} {N':List Str} {ix:List (Option Nat)} (h:compOk N sc scope N' ix = true) : CompOk N sc scope N' ix:=by
 unfold compOk at h
 simp only [Bool.and_eq_true,List.all_eq_true,Bool.or_eq_true,bne_iff_ne,beq_iff_eq,decide_eq_true_eq,ne_eq] at h
 obtain ⟨⟨⟨⟨⟨⟨h1,h2⟩,h3⟩,h4⟩,h5⟩,h6⟩,h7⟩:=h
 have zipAt : ∀ {i:Nat} {x:Str} {o:Option Nat},N'[i]? = some x → ix[i]? = some o → (x,o) ∈ N'.zip ix:=fun {i x o} a b=>by
  refine List.mem_of_getElem? (i:=i) ?_
  rw [List.getElem?_zip_eq_some]
  exact ⟨a,b⟩
 refine ⟨h1,fun y hy=>h2 y hy,fun y hy e=>?_,fun y hy e=>?_,h5,h6,fun i x a b y hy e=>?_,fun i x k a b=>?_⟩
 ·rcases h3 y hy with z | z
  ·exact absurd e z
  ·exact z
 ·rcases h4 y hy with (z | z) | z
  ·exact absurd e z
  ·exact .inl z
  ·exact .inr z
 ·have q:=h7 _ (zipAt a b)
  simp only [List.all_eq_true,Bool.or_eq_true,bne_iff_ne,beq_iff_eq,ne_eq] at q
  rcases q y hy with z | z
  ·exact absurd e z
  ·exact z
 ·have q:=h7 _ (zipAt a b)
  simp only [Bool.and_eq_true,List.all_eq_true,Bool.or_eq_true,bne_iff_ne,beq_iff_eq,ne_eq] at q
  obtain ⟨⟨q1,q2⟩,q3⟩:=q
  refine ⟨q1,lookup_memOf q2,fun y hy e=>?_⟩
  rcases q3 y hy with z | z
  ·exact absurd e z
  ·exact z
def blkSt (ix:List (Option Nat)) (σ : St) : St:=ix.map fun o=>match o with
 | some k=>(σ[k]?).join
 | none=>none
def blk (X:Cx) (scope:Scope) (N':List Str) (C:Addr) (fp:List Addr) (s₂:Shared) (H₂:Hp) : Cx:=
 { X with N:=N',s₀:=s₂,H₀:=H₂,env:=compEnvC scope (clOf scope X.env) C X.env,outer:=X.stack,stack:=X.stack,ex:=fp,fn:=fun _=>false,pn:=[],xe:=fun _ _=>False }
abbrev lstO (its:List Value) (n:Nat) : Obj:={ cls:=.type "list",data:=.seq its.toArray n }
section
variable {X:Cx} {scope:Scope} {N':List Str} {ix:List (Option Nat)} {C:Addr} {fp:List Addr} {s₂:Shared} {H₂:Hp} {pins:List (Addr × Obj)} {σ : St}
theorem blk_cells (I:Inv X pins σ H₂ s₂) {x:Str} {c:Addr} (h:(clOf scope X.env).lookup x = some c) : c < s₂.heap.objs.size:=by
 obtain ⟨v,q⟩:=I.cell x c (clOf_env h)
 exact q.lt
theorem blk_ok (I:Inv X pins σ H₂ s₂) (co:CompOk X.N X.env.scope scope N' ix) (hC : @LE.le Nat _ s₂.heap.objs.size C) (hf : ∀ b ∈ fp,FpOk X pins H₂ b) (hlt : ∀ b ∈ fp,b < s₂.heap.objs.size) : (blk X scope N' C fp s₂ H₂).Ok where
 mod:=I.ok.mod
 kind:=co.kind
 glob:=I.ok.glob
 blt:=I.ok.blt
 above:=hC
 inj:=fun x y c e1 e2=>I.ok.inj x y c (clOf_env e1) (clOf_env e2)
 has := fun x h=>by
  have h1 : ∃ k,(relabel scope X.env).names.lookup x = some k ∧ (k = .cell ∨ k = .free):=by
   rcases h with h | h
   ·exact ⟨_,h,.inl rfl⟩
   ·exact ⟨_,h,.inr rfl⟩
  obtain ⟨k,h1,h2⟩:=h1
  obtain ⟨k',hm,q⟩:=lookup_relabel h1
  have hk:k' = .free:=by
   rcases q with q | ⟨q,_⟩
   ·rcases h2 with z | z
    ·exact absurd (q.trans z) (co.nocell _ hm)
    ·exact q.trans z
   ·exact q
  rw [hk] at hm
  obtain ⟨c,hc⟩:=I.ok.has x (co.frees _ hm rfl)
  exact ⟨c,clOf_has hm hc⟩
 cab:=fun x c h=>by
  have h':false = true:=h
  cases h'
 hd:=I.ok.hd
 frames:=I.ok.frames
 stk:=.inl rfl
 exf:=fun b hb=>⟨Nat.ne_of_lt (Nat.lt_of_lt_of_le (hlt b hb) hC),fun x c e=>(hf b hb).2.2.2.2.1 x c (clOf_env e)⟩
 bs:=I.bs
 bsz:=Nat.le_trans I.ok.bsz I.sz
 noex:=fun b o e hb=>by
  rcases (hf b hb).2.2.2.1 with z | z
  ·exact I.ok.noex b o e z
  ·exact absurd (Nat.lt_of_lt_of_le (Heap.lt_size (I.ok.bs b o e).1) z) (Nat.lt_irrefl _)
 exfs:=fun b hb z=>by
  rcases List.mem_cons.mp (I.stkSub b z) with e | e
  ·exact (hf b hb).2.1 e
  ·exact (hf b hb).2.2.1 e
 funs:=I.stack
 frf:=I.stkFree
theorem blk_nofs (I:Inv X pins σ H₂ s₂) {b:Addr} (h:s₂.heap.objs.size ≤ b) : b ∉ frs X.stack:=fun z=>by
 rcases List.mem_cons.mp (I.stkSub b z) with e | e
 ·rw [e] at h; exact absurd (Nat.lt_of_lt_of_le I.lt h) (Nat.lt_irrefl _)
 ·exact I.nofs h e
theorem blk_start (I:Inv X pins σ H₂ s₂) (co:CompOk X.N X.env.scope scope N' ix) {D:Addr} {h₁:Heap} {t':Nat} (hD : @Eq Nat D s₂.heap.objs.size) (hC : @Eq Nat C (s₂.heap.objs.size + 1)) (hf : ∀ b ∈ fp,FpOk X pins H₂ b) (hlt : ∀ b ∈ fp,b < s₂.heap.objs.size)
  (old : ∀ b o,s₂.heap.get? b = some o → h₁.get? b = some o) (hacc:h₁.get? D = some (lstO [] 0)) {m:Str → Option Value} (hns:h₁.Ns C m) :
  Inv (blk X scope N' C fp s₂ H₂) [(D,lstO [] 0)] (blkSt ix σ) H₂ { s₂ with heap:=h₁,toks:=t' } where
 ok:=blk_ok I co (by omega) hf hlt
 os:=rfl
 bare:=I.bare
 base:=Un.kept old
 loc := by
  refine ⟨m,hns,fun i x v e1 e2 e3=>?_⟩
  unfold blkSt at e2
  rw [List.getElem?_map] at e2
  cases q:ix[i]? with
  | none=>rw [q] at e2; cases e2
  | some o=>
   rw [q] at e2
   cases o with
   | none=>cases e2
   | some k=>
    have e2':(σ[k]?).join = some v:=Option.some.inj e2
    have e2'' : σ[k]? = some (some v):=by
     cases z : σ[k]? with
     | none=>rw [z] at e2'; cases e2'
     | some o=>rw [z] at e2'; exact congrArg some e2'
    obtain ⟨o1,o2,o3⟩:=co.out i x k e1 q
    have hk:X.env.kindOf x = some .cell ∨ X.env.kindOf x = some .free:=co.frees _ o2 rfl
    have vis:Vis X.env.scope x:=.inr hk
    obtain ⟨m0,_,hl⟩:=I.loc
    obtain ⟨u,r,l⟩:=hl k x v o1 e2'' vis
    refine ⟨u,r,?_⟩
    rcases l with ⟨l,_⟩ | ⟨_,c,ec,hcell⟩
    ·rcases hk with z | z
     ·rw [z] at l; cases l
     ·rw [z] at l; cases l
    ·refine .inr ⟨?_,c,clOf_has o2 ec,?_⟩
     ·rcases e3 with z | z | z
      ·obtain ⟨k',hm,q⟩:=lookup_relabel z
       rcases q with q | ⟨_,q⟩
       ·have:=o3 _ hm rfl
        rw [show k' = NameKind.local from q] at this
        cases this
       ·cases q
      ·exact .inl z
      ·exact .inr z
     ·obtain ⟨o,ho,hd⟩:=hcell
      exact ⟨o,old _ _ ho,hd⟩
 cell:=fun x c e=>by
  obtain ⟨v,o,ho,hd⟩:=I.cell x c (clOf_env e)
  exact ⟨v,o,old _ _ ho,hd⟩
 free:=I.hok.fresh (by show @LE.le Nat _ s₂.heap.objs.size C; omega)
 freeC:=fun x c e=>I.freeC x c (clOf_env e)
 pin:=fun p hp=>by
  have e:p = (D,lstO [] 0):=by simpa [blk] using hp
  subst e
  refine ⟨hacc,I.hok.fresh (by show @LE.le Nat _ s₂.heap.objs.size D; omega),by show ¬ @Eq Nat D C; omega,blk_nofs I (by show @LE.le Nat _ s₂.heap.objs.size D; omega),fun v z=>?_⟩
  have z':Data.seq _ _ = Data.cell v:=z
  cases z'
 hok:=I.hok.kept old
 len:=by unfold blkSt; rw [List.length_map]; exact co.len
theorem blk_leave (I:Inv X pins σ H₂ s₂) {D:Addr} (hD : @Eq Nat D s₂.heap.objs.size) (hf : ∀ b ∈ fp,FpOk X pins H₂ b) {ys:List V} {its:List Value} {n:Nat} {σ':St} {H':Hp} {s':Shared}
  (I':Inv (blk X scope N' C fp s₂ H₂) [(D,lstO its n)] σ' H' s') (hv:Vals ys its) (hz:ys.length ≤ sizeLine) : Inv X pins σ (upd H' D (.lst ys)) s':=by
 obtain ⟨dp,dn,_,_,_⟩:=I'.pin (D,lstO its n) (by simp)
 have dp':s'.heap.get? D = some (lstO its n):=dp
 have dn':H' D = none:=dn
 have u:=I'.base
 have ne : ∀ b o,s₂.heap.get? b = some o → b ≠ D:=fun b o e z=>by
  have h1 : @LT.lt Nat _ b s₂.heap.objs.size:=Heap.lt_size e
  have h2 : @Eq Nat b D:=z
  omega
 have neH : ∀ b o,H₂ b = some o → b ≠ D:=fun b o e z=>by
  have h1 : @LT.lt Nat _ b s₂.heap.objs.size:=I.hok.lt e
  have h2 : @Eq Nat b D:=z
  omega
 refine I.call' (ch:=fp) I'.os ⟨u.keep,u.slot,fun b o e q hb=>?_,u.there,fun b xs q=>?_,fun b o xs q=>?_,fun b ps q=>?_⟩ (fun b o e=>?_) I'.bare fun b hb=>?_
 ·rw [upd_ne (ne b o e)]
  exact u.free b o e q hb
 ·rw [upd_ne (neH b _ q)]
  exact u.tups b xs q
 ·rw [upd_ne (neH b _ q)]
  exact u.frzs b o xs q
 ·rw [upd_ne (neH b _ q)]
  exact u.tbls b ps q
 ·by_cases hb:b = D
  ·subst hb
   rw [upd_same] at e
   cases e
   exact ⟨hz,its,n,hv,dp'⟩
  ·rw [upd_ne hb] at e
   exact (I'.hok b o e).stay (fun c v _ q=>q) (fun c q=>by rw [upd_ne (ne_of_none q dn')]; exact q) fun c xs q=>by rw [upd_ne (ne_of_none q dn')]; exact q
 ·obtain ⟨_,f1,_,f3,f4,f5⟩:=hf b hb
  exact ⟨f3,f1,f4,f5⟩
end
end L2
namespace L2
open PySem PySem.Spec PyProof.Rows
abbrev NoE:Value → Shared → Prop:=fun _ _=>False
section
variable {prog:Program} {w:World} {A:Around} {R:Result → Shared → Prop} {s:Shared}
theorem compLoop_own {elt target iter:Expr} {ifs:List Expr} {scope:Scope} {pos:Pos} {it acc:Value} {env:Env} (I:Nat → Shared → Prop)
  (turn : ∀ n s,I n s → wpAny (model prog w) A (pyNext it) (fun r s₁=>match r with
   | none=>R (.ok .next) s₁
   | some v=>wpAny (model prog w) A (letOwnedTupleGo target it v) (fun _ s₁=>wpAny (model prog w) A (assign target env v) (fun _ s₂=>
     wpAny (model prog w) A (forIn ifs true fun c r=>if r = true then do let ok ← isTrue c env (eval c env); pure (ForInStep.yield ok) else pure (ForInStep.yield r)) (fun ok s₃=>
      if ok = true then wpAny (model prog w) A (eval elt env) (fun x s₄=>
       wpAny (model prog w) A (call (.builtin "list.append") [acc,x]) (fun _ s₅=>∃ m,m < n ∧ I m s₅) NoE s₄) NoE s₃
      else ∃ m,m < n ∧ I m s₃) NoE s₂) NoE s₁) NoE s₁) NoE s)
  (n:Nat) (h:I n s) : codeAny (model prog w) A (.compLoop (.ListComp elt [⟨target,iter,ifs,0⟩] scope pos) 0 it acc env) R s:=by
 refine codeAny_loop rfl I (fun n s hI=>?_) n h
 show wpAny _ A ((compTurn (.ListComp elt [⟨target,iter,ifs,0⟩] scope pos) 0 it acc env).onRaise (fun x=>do noteFrame x env; theTreesLotGoes x)) _ _ s
 refine wpAny_noted ?_
 rw [compTurn_list]
 refine wpAny_bind (wpAny_standAt (wpAny_bind (wpAny_mono (turn n s hI) (fun r s₁ h₁=>?_) fun _ _ h'=>h'.elim)))
 cases r with
 | none=>exact wpAny_pure h₁
 | some v=>
  refine wpAny_bind (wpAny_mono h₁ (fun _ s₁ h₁=>?_) fun _ _ h'=>h'.elim)
  refine wpAny_bind (wpAny_mono h₁ (fun _ s₂ h₂=>wpAny_bind (wpAny_mono h₂ (fun ok s₃ h₃=>?_) fun _ _ h'=>h'.elim)) fun _ _ h'=>h'.elim)
  cases ok with
  | false=>exact wpAny_pure ⟨rfl,h₃⟩
  | true=>
   exact wpAny_bind (wpAny_bind (wpAny_mono h₃ (fun x s₄ h₄=>wpAny_bind (wpAny_mono h₄ (fun _ s₅ h₅=>wpAny_pure (wpAny_pure ⟨rfl,h₅⟩)) fun _ _ h'=>h'.elim)) fun _ _ h'=>h'.elim))
end
def PIf (X:Cx) (ifs:List Expr) (t:TT) : Prop:=
 ∀ (pins:List (Addr × Obj)) (s:Shared) (σ : St) (H:Hp) (Q:Bool → Hp → Prop),Inv X pins σ H s → t σ H Q →
  wpAny (model X.prog X.w) X.A (forIn ifs true fun c r=>if r = true then do let ok ← isTrue c X.env (eval c X.env); pure (ForInStep.yield ok) else pure (ForInStep.yield r)) (TP X pins σ Q) X.xe s
def tYes:TT:=fun _ H Q=>Q true H
theorem pif_nil {X:Cx} : PIf X [] tYes:=fun _ _ _ H _ I h=>wpAny_tests_nil ⟨H,I,h⟩
theorem pif_one {X:Cx} {c:Expr} {t:TT} (h:PT X c t) : PIf X [c] t:=fun pins s σ H Q I q=>wpAny_tests_one (h pins s σ H Q I q)
def lcEnd (Q:VK) (ys:List V) (H:Hp) : Prop:=∀ p,H p = none → Q (.ref p) (upd H p (.lst ys))
def tLc (ix:List (Option Nat)) (wi:TI) (g:TG) (ti:TT) (te:TE) : TE:=fun σ H Q=>wi σ H fun J H1=>∃ W:Nat → Nat → List V → St → Hp → Prop,(∃ m,W 0 m [] (blkSt ix σ) H1) ∧ ∀ i m ys σ H,W i m ys σ H →
 ys.length ≤ sizeLine ∧ ((J.stop i H ∧ lcEnd Q ys H) ∨
  (J.go i H ∧ ∃ N:List V → St → Hp → Prop,(∀ ys' σ' H',N ys' σ' H' → ∃ m',m' < m ∧ W (i + 1) m' ys' σ' H') ∧
   ∀ x H',J.yld i H x H' → g x σ H' fun σ2 H2=>ti σ2 H2 fun b H3=>if b = true then te σ2 H3 fun y H4=>N (ys ++ [y]) σ2 H4 else N ys σ2 H3))
structure Gone (X:Cx) (pins:List (Addr × Obj)) (H:Hp) (s:Shared) (C:Addr) : Prop where
 ns : ∃ m,s.heap.Ns C m
 fr:H C = none
 nl:C ≠ X.env.locals
 ab:X.s₀.heap.objs.size ≤ C
 nc : ∀ x c,X.env.cells.lookup x = some c → c ≠ C
 np : ∀ p ∈ X.pn ++ pins,p.1 ≠ C
section
variable {X:Cx}
theorem blk_run {scope:Scope} {N':List Str} {ix:List (Option Nat)} {pins:List (Addr × Obj)} {σ : St} {tg iter elt:Expr} {ifs:List Expr} {pos:Pos} {g:TG} {ti:TT} {te:TE} {E:Value → Shared → Prop}
  (co:CompOk X.N X.env.scope scope N' ix) (hc:X.calm = true)
  (hg : ∀ C fp s₂ H₂,PG (blk X scope N' C fp s₂ H₂) tg g) (hi : ∀ C fp s₂ H₂,PIf (blk X scope N' C fp s₂ H₂) ifs ti) (he : ∀ C fp s₂ H₂,PE (blk X scope N' C fp s₂ H₂) elt te)
  {H₂:Hp} {s₂:Shared} {J:It} {fp:List Addr} {it:Addr} {tn:Nat → Heap → Prop} {QF:List V → Hp → Prop}
  (I:Inv X pins σ H₂ s₂) (T:Turn X.prog X.w X.K tg J fp it tn) (st:tn 0 s₂.heap) (hf : ∀ b ∈ fp,FpOk X pins H₂ b)
  {W:Nat → Nat → List V → St → Hp → Prop} (w0 : ∃ m,W 0 m [] (blkSt ix σ) H₂)
  (hW : ∀ i m ys σ H,W i m ys σ H → ys.length ≤ sizeLine ∧ ((J.stop i H ∧ QF ys H) ∨
   (J.go i H ∧ ∃ N:List V → St → Hp → Prop,(∀ ys' σ' H',N ys' σ' H' → ∃ m',m' < m ∧ W (i + 1) m' ys' σ' H') ∧
    ∀ x H',J.yld i H x H' → g x σ H' fun σ2 H2=>ti σ2 H2 fun b H3=>if b = true then te σ2 H3 fun y H4=>N (ys ++ [y]) σ2 H4 else N ys σ2 H3)))
  {RR:Value → Addr → Result → Shared → Prop}
  (hRR : ∀ D C ys H' s',Inv X pins σ (upd H' D (.lst ys)) s' → H' D = none → QF ys H' → Gone X pins (upd H' D (.lst ys)) s' C → RR (.ref D) C (.ok .next) s') :
  wpAny (model X.prog X.w) X.A (newList []) (fun acc s₃=>wpAny (model X.prog X.w) X.A (newFunctionEnv scope X.env.globals (clOf scope X.env) [] X.env.qual none .none (some X.env)) (fun cenv s₄=>
   codeAny (model X.prog X.w) X.A (.compStart (.ListComp elt [⟨tg,iter,ifs,0⟩] scope pos) 0 (.ref it) acc { cenv with scope:=relabel scope X.env }) (RR acc cenv.locals) s₄) E s₃) E s₂:=by
 have hlt : ∀ b ∈ fp,@LT.lt Nat _ b s₂.heap.objs.size:=fun b hb=>by
  obtain ⟨o,e,_⟩:=T.obj _ _ st b hb
  exact Heap.lt_size e
 refine wpAny_newObj_type (wpAny_newFunctionEnv co.nocell (by intro y hy; simp at hy) (fun h₁ hns₁ hsb₁=>?_) co.kind)
 dsimp only at hns₁ hsb₁ ⊢
 generalize hH2:s₂.heap.push { cls:=.type "list",dict:=none,data:=.seq ([] : List Value).toArray } = H2 at hns₁ hsb₁ ⊢
 have hC : @Eq Nat H2.objs.size (s₂.heap.objs.size + 1):=by rw [← hH2,Heap.size_push]
 have below : ∀ b:Nat,b < s₂.heap.objs.size → ¬ @Eq Nat b H2.objs.size:=fun b hb=>by omega
 have hDC : ¬ @Eq Nat s₂.heap.objs.size H2.objs.size:=by omega
 have old : ∀ b o,s₂.heap.get? b = some o → h₁.get? b = some o:=fun b o e=>hsb₁.extBut b o (below b (Heap.lt_size e)) (Heap.get?_push_of_some _ (hH2 ▸ Heap.get?_push_of_some _ e))
 have hacc:h₁.get? s₂.heap.objs.size = some (lstO [] 0):=hsb₁.extBut _ _ hDC (Heap.get?_push_of_some _ (hH2 ▸ Heap.get?_push_size _ rfl))
 have st₁:tn 0 h₁:=T.keep _ _ _ st fun b _ o e=>old b o e
 generalize hCe:H2.objs.size = C at hns₁ hsb₁ hC below hDC ⊢
 generalize hDe:s₂.heap.objs.size = D at hacc hDC ⊢
 have loop : ∀ s₃:Shared,s₃ = { s₂ with heap:=h₁,toks:=s₂.toks + ([] : List (Str × Value)).length } →
   codeAny (model X.prog X.w) X.A (.compLoop (.ListComp elt [⟨tg,iter,ifs,0⟩] scope pos) 0 (.ref it) (.ref D) (compEnvC scope (clOf scope X.env) C X.env)) (RR (.ref D) C) s₃:=by
  rintro s₃ rfl
  obtain ⟨m0,w0⟩:=w0
  have I3:Inv (blk X scope N' C fp s₂ H₂) [(D,lstO [] 0)] (blkSt ix σ) H₂ { s₂ with heap:=h₁,toks:=s₂.toks + ([] : List (Str × Value)).length }:=blk_start I co hDe.symm hC hf hlt old hacc hns₁
  refine compLoop_own (fun k s'=>∃ i ys its n σ' H',Inv (blk X scope N' C fp s₂ H₂) [(D,lstO its n)] σ' H' s' ∧ Vals ys its ∧ tn i s'.heap ∧ (∀ b ∈ fp,H' b = none) ∧ W i k ys σ' H') ?_ m0
   ⟨0,[],[],0,_,_,I3,.nil,st₁,fun b hb=>(hf b hb).1,w0⟩
  rintro k s' ⟨i,ys,its,n,σ',H',I',hv,st',fr',w'⟩
  have fpok : ∀ {H':Hp} {o:Obj},(∀ b ∈ fp,H' b = none) → ∀ b ∈ fp,FpOk (blk X scope N' C fp s₂ H₂) [(D,o)] H' b:=fun {H' o} hn b hb=>by
   refine ⟨hn b hb,below b (hlt b hb),fun z=>?_,.inl hb,fun x c e=>(hf b hb).2.2.2.2.1 x c (clOf_env e),fun p hp z=>?_⟩
   ·rcases List.mem_cons.mp (I.stkSub b z) with e | e
    ·exact (hf b hb).2.1 e
    ·exact (hf b hb).2.2.1 e
   ·have e:p = (D,o):=by simpa [blk] using hp
    subst e
    have z' : @Eq Nat D b:=z
    have z2:=hlt b hb
    omega
  obtain ⟨hz,hW'⟩:=hW i k ys σ' H' w'
  rcases hW' with ⟨stop,q⟩ | ⟨go,N,hN,step⟩
  ·refine thn (T.done (blk X scope N' C fp s₂ H₂) rfl rfl rfl hc i _ s' σ' H' NoE I' (fpok fr') st' stop) fun r s4 ⟨hr,I4⟩=>?_
   subst hr
   obtain ⟨_,dn,_⟩:=I4.pin (D,lstO its n) (by simp)
   have cf:H' C = none:=I4.free
   refine hRR D C ys H' s4 (blk_leave I hDe.symm hf I4 hv hz) dn q ⟨?_,by rw [upd_ne (Ne.symm hDC)]; exact cf,?_,?_,fun x c e=>?_,fun p hp=>?_⟩
   ·obtain ⟨m,hn,_⟩:=I4.loc
    exact ⟨m,hn⟩
   ·have z : @LT.lt Nat _ X.env.locals s₂.heap.objs.size:=I.lt
    show ¬ @Eq Nat C X.env.locals
    omega
   ·have z : @LE.le Nat _ X.s₀.heap.objs.size s₂.heap.objs.size:=I.sz
    show @LE.le Nat _ X.s₀.heap.objs.size C
    omega
   ·obtain ⟨v,z⟩:=I.cell x c e
    have z2 : @LT.lt Nat _ c s₂.heap.objs.size:=z.lt
    show ¬ @Eq Nat c C
    omega
   ·have z2 : @LT.lt Nat _ p.1 s₂.heap.objs.size:=Heap.lt_size (I.pin p hp).1
    show ¬ @Eq Nat p.1 C
    omega
  ·refine thn (T.item (blk X scope N' C fp s₂ H₂) rfl rfl rfl hc i _ s' σ' H' NoE I' (fpok fr') st' go) fun r s4 ⟨u,hr,h4⟩=>?_
   subst hr
   refine thn h4 fun _ s5 ⟨x,H5,I5,r5,y5,st5,fr5⟩=>?_
   have I5':=I5.pinned (fpok fr5) (T.obj _ _ st5)
   refine thn (hg C fp s₂ H₂ _ s5 σ' H5 x u _ I5' r5 (step x H5 y5)) fun _ s6 ⟨σ6,H6,I6,q6⟩=>?_
   refine thn (hi C fp s₂ H₂ _ s6 σ6 H6 _ I6 q6) fun ok s7 ⟨H7,I7,q7⟩=>?_
   have fpin : ∀ {σ8:St} {H8:Hp} {s8:Shared},Inv (blk X scope N' C fp s₂ H₂) ([(D,lstO its n)] ++ pinsAt fp s5.heap) σ8 H8 s8 → ∀ b ∈ fp,∀ o,s5.heap.get? b = some o → s8.heap.get? b = some o ∧ H8 b = none:=fun {σ8 H8 s8} I8 b hb o e=>by
    have z:=I8.pin (b,o) (List.mem_append_right _ (List.mem_append_right _ (mem_pinsAt hb e)))
    exact ⟨z.1,z.2.1⟩
   cases ok with
   | false=>
    have q7':N ys σ6 H7:=by
     have q7':=q7
     rw [if_neg Bool.false_ne_true] at q7'
     exact q7'
    obtain ⟨m',hm,w7⟩:=hN _ _ _ q7'
    refine ⟨m',hm,i + 1,ys,its,n,σ6,H7,I7.unpinned,hv,T.keep _ _ _ st5 fun b hb o e=>(fpin I7 b hb o e).1,fun b hb=>?_,w7⟩
    obtain ⟨o,e,_⟩:=T.obj _ _ st5 b hb
    exact (fpin I7 b hb o e).2
   | true=>
    have q7':te σ6 H7 fun y H4=>N (ys ++ [y]) σ6 H4:=by
     have q7':=q7
     rw [if_pos rfl] at q7'
     exact q7'
    show wpAny _ _ _ _ _ _
    refine thn (he C fp s₂ H₂ _ s7 σ6 H7 _ I7 q7') fun yv s8 ⟨y,H8,I8,r8,q8⟩=>?_
    obtain ⟨m',hm,w8⟩:=hN _ _ _ q8
    obtain ⟨z1,z2,z3,z4,z5⟩:=I8.pin (D,lstO its n) (by simp)
    have zD:s8.heap.get? D = some (lstO its n):=z1
    have lenv:=hv.length
    refine append_at (hsz:=by rw [List.size_toArray]; omega) zD fun h9 hs9 hD9=>?_
    have I8':Inv (blk X scope N' C fp s₂ H₂) (pinsAt fp s5.heap) σ6 H8 s8:=I8.pins_of fun p hp=>I8.pin p (List.mem_append_right _ (List.mem_append_right _ hp))
    have I9:Inv (blk X scope N' C fp s₂ H₂) (pinsAt fp s5.heap) σ6 H8 { s8 with heap:=h9 }:=I8'.turned (it:=D) (t':=s8.toks) (fun b o hb e=>(hs9.2 b hb).trans e) z2 z3
     (.inr (by show s₂.heap.objs.size ≤ D; omega)) (fun x c e=>by have z : @LT.lt Nat _ c s₂.heap.objs.size:=blk_cells (scope:=scope) I e; show ¬ @Eq Nat c D; omega) (fun p hp=>by
      have hp':p ∈ pinsAt fp s5.heap:=by simpa [blk] using hp
      have z:=hlt _ (of_pinsAt hp').1
      show ¬ @Eq Nat p.1 D
      omega)
    have hD9':h9.get? D = some (lstO (its ++ [yv]) (n + 1)):=by
     rw [hD9]
     simp [lstO]
    have I10:Inv (blk X scope N' C fp s₂ H₂) [(D,lstO (its ++ [yv]) (n + 1))] σ6 H8 { s8 with heap:=h9 }:=I9.pins_of fun p hp=>by
     have e:p = (D,lstO (its ++ [yv]) (n + 1)):=by simpa using hp
     subst e
     refine ⟨hD9',z2,z3,z4,fun v z=>?_⟩
     have z':Data.seq _ _ = Data.cell v:=z
     cases z'
    refine ⟨m',hm,i + 1,ys ++ [y],its ++ [yv],n + 1,σ6,H8,I10,hv.append (.cons r8 .nil),T.keep _ _ _ st5 fun b hb o e=>?_,fun b hb=>?_,w8⟩
    ·have hbD:b ≠ D:=by
      have z:=hlt b hb
      show ¬ @Eq Nat b D
      omega
     exact (hs9.2 b hbD).trans (fpin I8 b hb o e).1
    ·obtain ⟨o,e,_⟩:=T.obj _ _ st5 b hb
     exact (fpin I8 b hb o e).2
 exact codeAny_compStart_list (loop _ rfl) (T.self _ 0 _ _ _ st₁ (loop _ rfl))
theorem Gone.go {pins:List (Addr × Obj)} {σ : St} {H:Hp} {s:Shared} {C:Addr} {h':Heap} (G:Gone X pins H s C) (I:Inv X pins σ H s) (hs:Heap.SameBut C s.heap h') : Inv X pins σ H { s with heap:=h' }:=
 I.turned (it:=C) (t':=s.toks) (fun b o hb e=>(hs.2 b hb).trans e) G.fr G.nl (.inr G.ab) G.nc G.np
variable {scope:Scope} {N':List Str} {ix:List (Option Nat)} {tg iter elt:Expr} {ifs:List Expr} {pos:Pos} {wi:TI} {g:TG} {ti:TT} {te:TE}
theorem comp_clos (co:CompOk X.N X.env.scope scope N' ix) {pins:List (Addr × Obj)} {σ : St} {H:Hp} {s:Shared} (I:Inv X pins σ H s) : closureFor scope X.env = pure (clOf scope X.env):=
 closure_is fun p hp e=>I.ok.has p.1 (co.frees p hp e)
theorem pe_lcomp (co:CompOk X.N X.env.scope scope N' ix) (hc:X.calm = true) (hit:PI X tg iter wi) (hg : ∀ C fp s₂ H₂,PG (blk X scope N' C fp s₂ H₂) tg g) (hi : ∀ C fp s₂ H₂,PIf (blk X scope N' C fp s₂ H₂) ifs ti)
  (he : ∀ C fp s₂ H₂,PE (blk X scope N' C fp s₂ H₂) elt te) (hs:autoParam (∀ x,foldedSetIterable iter X.env x = pure x) aP3) :
  PE X (.ListComp elt [⟨tg,iter,ifs,0⟩] scope pos) (tLc ix wi g ti te):=by
 intro pins s σ H Q I h
 rw [eval_ListComp]
 refine wpAny_comprehension_free (use:=none) rfl hs (comp_clos co I) co.kind co.names (thn (hit pins s σ H _ I h) fun xv s₁ h₁=>thn h₁ fun itv s₂ h₂=>?_)
 obtain ⟨it,fp,tn,J,H₂,e,I₂,T,st,hf,W,w0,hW⟩:=h₂
 subst e
 refine blk_run co hc hg hi he I₂ T st hf w0 hW (RR:=fun acc C=>compPost (model X.prog X.w) X.A X.xe none (EP X pins σ Q) acc C) fun D C ys H' s' I' dn q G=>?_
 obtain ⟨m,hn⟩:=G.ns
 exact ⟨m,hn,fun h' hs'=>⟨.ref D,_,G.go I' hs',rfl,q D dn⟩⟩
theorem ps_lcomp {i:Nat} {y:Str} {py spos:Pos} (hN:X.N.Nodup) (hiy:X.N[i]? = some y) (hy:X.env.scope.names.lookup y = some .local) (co:CompOk X.N X.env.scope scope N' ix) (hc:X.calm = true) (hit:PI X tg iter wi)
  (hg : ∀ C fp s₂ H₂,PG (blk X scope N' C fp s₂ H₂) tg g) (hi : ∀ C fp s₂ H₂,PIf (blk X scope N' C fp s₂ H₂) ifs ti)
  (he : ∀ C fp s₂ H₂,PE (blk X scope N' C fp s₂ H₂) elt te) (hs:autoParam (∀ x,foldedSetIterable iter X.env x = pure x) aP3)
  (hsw:autoParam (swapsWith (.ListComp elt [⟨tg,iter,ifs,0⟩] scope pos) (some (.Name y py)) spos.line X.env = pure true) aP1) :
  PS X (.Assign [.Name y py] (.ListComp elt [⟨tg,iter,ifs,0⟩] scope pos) spos) (tAsg (tLc ix wi g ti te) (gName i)):=by
 intro pins s σ H D I h
 rw [exec_Assign_Name_used _ _ _ _ hsw]
 refine wpAny_bind (wpAny_standAt (wpAny_bind ?_))
 show wpAny _ X.A (do let _ ← comprehension (.ListComp elt [⟨tg,iter,ifs,0⟩] scope pos) scope X.env _ (newList []) false (eval iter X.env) (some (assign (.Name y py) X.env))) _ _ s
 refine wpAny_bind (wpAny_mono (wpAny_comprehension_free (use:=some (assign (.Name y py) X.env)) (Q:=fun _ s'=>SP X pins D .next s') rfl hs (comp_clos co I) co.kind co.names
  (thn (hit pins s σ H _ I h) fun xv s₁ h₁=>thn h₁ fun itv s₂ h₂=>?_)) (fun _ s' hq=>wpAny_pure (wpAny_pure hq)) fun _ _ e=>e)
 obtain ⟨it,fp,tn,J,H₂,e,I₂,T,st,hf,W,w0,hW⟩:=h₂
 subst e
 refine blk_run co hc hg hi he I₂ T st hf w0 hW (RR:=fun acc C=>compPost (model X.prog X.w) X.A X.xe (some (assign (.Name y py) X.env)) (fun _ s'=>SP X pins D .next s') acc C) fun Da C ys H' s' I' dn q G=>?_
 show wpAny _ _ (assign (.Name y py) X.env (.ref Da)) _ _ s'
 refine wpAny_assign_Name (store_ok2 (v:=.ref Da) I' hN hiy (.inl hy) rfl (fun s'' I'' ⟨a,sb,ha⟩=>?_) (.inr hy))
 have hCa:C ≠ a:=by
  rcases ha with z | z
  ·rw [z]; exact G.nl
  ·exact Ne.symm (G.nc _ _ z)
 obtain ⟨m,hn⟩:=G.ns
 have hn2:=hn.sameBut sb hCa
 have G2:Gone X pins (upd H' Da (.lst ys)) s'' C:=⟨⟨m,hn2⟩,G.fr,G.nl,G.ab,G.nc,G.np⟩
 exact ⟨m,hn2,fun h' hs'=>⟨_,_,G2.go I'' hs',q Da dn⟩⟩
end
theorem lc_list {K:PySem.W.Frag} {a:Addr} {xs:List V} {g:TG} {ti:TT} {te:TE} {σ0:St} {H0:Hp} {Q:VK} (Pv:Nat → List V → St → Hp → Prop) (h0:Pv 0 [] σ0 H0)
  (hl : ∀ i ys σ H,i ≤ xs.length → Pv i ys σ H → SqL K H a xs ∧ ys.length ≤ sizeLine)
  (hs : ∀ i x ys σ H,xs[i]? = some x → Pv i ys σ H → g x σ H fun σ2 H2=>ti σ2 H2 fun b H3=>if b = true then te σ2 H3 fun y H4=>Pv (i + 1) (ys ++ [y]) σ2 H4 else Pv (i + 1) ys σ2 H3)
  (hd : ∀ ys σ H,Pv xs.length ys σ H → ∀ p,H p = none → Q (.ref p) (upd H p (.lst ys))) :
  ∃ W : Nat → Nat → List V → St → Hp → Prop,(∃ m,W 0 m [] σ0 H0) ∧ ∀ i m ys σ H,W i m ys σ H →
   ys.length ≤ sizeLine ∧ (((Itl K a).stop i H ∧ lcEnd Q ys H) ∨
    ((Itl K a).go i H ∧ ∃ N:List V → St → Hp → Prop,(∀ ys' σ' H',N ys' σ' H' → ∃ m',m' < m ∧ W (i + 1) m' ys' σ' H') ∧
     ∀ x H',(Itl K a).yld i H x H' → g x σ H' fun σ2 H2=>ti σ2 H2 fun b H3=>if b = true then te σ2 H3 fun y H4=>N (ys ++ [y]) σ2 H4 else N ys σ2 H3)):=by
 refine ⟨fun i m ys σ H=>m = xs.length - i ∧ i ≤ xs.length ∧ Pv i ys σ H,⟨xs.length,by simp,Nat.zero_le _,h0⟩,?_⟩
 rintro i m ys σ H ⟨rfl,hi,p⟩
 obtain ⟨q,hz⟩:=hl i ys σ H hi p
 refine ⟨hz,?_⟩
 by_cases hlt:i < xs.length
 ·refine .inr ⟨⟨xs,xs[i],q,by simp [hlt]⟩,Pv (i + 1),fun ys' σ' H' p'=>⟨xs.length - (i + 1),by omega,rfl,hlt,p'⟩,fun x H' y=>?_⟩
  obtain ⟨e,y⟩:=y
  subst e
  exact hs i x ys σ _ (y xs q) p
 ·have e:i = xs.length:=by omega
  subst e
  exact .inl ⟨⟨xs,q,Nat.le_refl _⟩,hd ys σ H p⟩
theorem lc_range {lo:Int} {n:Nat} {g:TG} {ti:TT} {te:TE} {σ0:St} {H0:Hp} {Q:VK} (Pv:Nat → List V → St → Hp → Prop) (h0:Pv 0 [] σ0 H0)
  (hl : ∀ i ys σ H,i ≤ n → Pv i ys σ H → ys.length ≤ sizeLine)
  (hs : ∀ i ys σ H,i < n → Pv i ys σ H → g (.int (lo + i)) σ H fun σ2 H2=>ti σ2 H2 fun b H3=>if b = true then te σ2 H3 fun y H4=>Pv (i + 1) (ys ++ [y]) σ2 H4 else Pv (i + 1) ys σ2 H3)
  (hd : ∀ ys σ H,Pv n ys σ H → ∀ p,H p = none → Q (.ref p) (upd H p (.lst ys))) :
  ∃ W : Nat → Nat → List V → St → Hp → Prop,(∃ m,W 0 m [] σ0 H0) ∧ ∀ i m ys σ H,W i m ys σ H →
   ys.length ≤ sizeLine ∧ (((Itr lo n).stop i H ∧ lcEnd Q ys H) ∨
    ((Itr lo n).go i H ∧ ∃ N:List V → St → Hp → Prop,(∀ ys' σ' H',N ys' σ' H' → ∃ m',m' < m ∧ W (i + 1) m' ys' σ' H') ∧
     ∀ x H',(Itr lo n).yld i H x H' → g x σ H' fun σ2 H2=>ti σ2 H2 fun b H3=>if b = true then te σ2 H3 fun y H4=>N (ys ++ [y]) σ2 H4 else N ys σ2 H3)):=by
 refine ⟨fun i m ys σ H=>m = n - i ∧ i ≤ n ∧ Pv i ys σ H,⟨n,by simp,Nat.zero_le _,h0⟩,?_⟩
 rintro i m ys σ H ⟨rfl,hi,p⟩
 refine ⟨hl i ys σ H hi p,?_⟩
 by_cases hlt:i < n
 ·refine .inr ⟨hlt,Pv (i + 1),fun ys' σ' H' p'=>⟨n - (i + 1),by omega,rfl,hlt,p'⟩,fun x H' y=>?_⟩
  obtain ⟨e,y⟩:=y
  subst e y
  exact hs i ys σ _ hlt p
 ·have e:i = n:=by omega
  subst e
  exact .inl ⟨Nat.le_refl _,hd ys σ H p⟩
end L2
namespace L2
open PySem PySem.Spec PyProof.Rows
section
variable {X:Cx}
theorem call_isinst:CallR X (.builtin "isinstance") (fun xs H Q=>∃ x t T b,xs = [x,.ty T] ∧ TyOf X.K H x t ∧ PySem.W.kitOne X.K t (.type T) = some b ∧ Q (.bl b) H):=by
 intro pins s σ H xs us Q I r h
 obtain ⟨x,t,T,b,rfl,ty,e,q⟩:=h
 obtain ⟨u,w,rfl,r1,r2⟩:=vals2 r
 obtain rfl:w = Value.type T:=r2
 exact isinst_ok I r1 ty e fun tk=>⟨.bl b,H,I.tok tk,rfl,q⟩
theorem walks_list {A:Around} {s:Shared} {p:Addr} {its:List Value} (hh:A.handled = none) (hl:s.heap.IsList p its.toArray) :
  ∃ (fp:List Addr),(∀ b ∈ fp,b < s.heap.objs.size + 1) ∧ Walks X.prog X.w A s.heap.objs.size fp [s.heap.objs.size] its.toArray.size (fun i v=>its.toArray[i]? = some v) (fun i h=>h.IsListIter s.heap.objs.size p i ∧ h.IsList p its.toArray) ∧
   ((s.heap.push { cls:=.type "list_iterator",data:=.fields #[.ref p,.int 0 0] }).IsListIter s.heap.objs.size p 0 ∧ (s.heap.push { cls:=.type "list_iterator",data:=.fields #[.ref p,.int 0 0] }).IsList p its.toArray):=by
 have hlt:p < s.heap.objs.size:=by obtain ⟨_,e,_⟩:=hl; exact Heap.lt_size e
 refine ⟨[s.heap.objs.size,p],fun b hb=>?_,Walks.list (A:=A) hh _ p (Nat.ne_of_lt hlt) its.toArray,⟨_,Heap.get?_push_size _ rfl,rfl,rfl⟩,hl.push _⟩
 rcases List.mem_cons.mp hb with e | e
 ·rw [e]; exact Nat.lt_succ_self _
 ·rw [List.mem_singleton.mp e]; exact Nat.lt_succ_of_lt hlt
theorem kept_iter' {s:Shared} {h':Heap} {o:Obj} (hk : ∀ b x,b ∉ [s.heap.objs.size] → (s.heap.push o).get? b = some x → h'.get? b = some x) : ∀ b x,s.heap.get? b = some x → h'.get? b = some x:=
 fun b x e=>hk b x (fun hm=>by rw [List.mem_singleton.mp hm] at e; exact Nat.lt_irrefl _ (Heap.lt_size e)) (Heap.get?_push_of_some _ e)
theorem vals_bl : ∀ {bs:List Bool} {us:List Value},Vals (bs.map V.bl) us → us = bs.map Value.bool
 | [],us,h=>by
  rw [List.map_nil] at h
  cases h
  rfl
 | b :: bs,us,h=>by
  rw [List.map_cons] at h
  cases h with
  | cons r1 r2=>
   cases r1
   rw [vals_bl r2,List.map_cons]
theorem truth_bl {A:Around} (bs:List Bool) (d:Bool) : ∀ (i:Nat) (v:Value) (s':Shared) (Q':Bool → Shared → Prop) (E':Value → Shared → Prop),(bs.map Value.bool).toArray[i]? = some v → Q' ((bs[i]?).getD d) s' → wpAny (model X.prog X.w) A (truthy v) Q' E' s':=
 fun i v s' Q' E' hP hQ=>by
  have e:(bs.map Value.bool)[i]? = some v:=by simpa using hP
  rw [List.getElem?_map] at e
  cases q:bs[i]? with
  | none=>rw [q] at e; cases e
  | some b=>
   rw [q] at e hQ
   have e':Value.bool b = v:=Option.some.inj e
   subst e'
   exact wpAny_truthy_bool hQ
theorem call_all (hc:X.calm = true) : CallR X (.builtin "all") (fun xs H Q=>∃ (p:Addr) (bs:List Bool),xs = [.ref p] ∧ SqL X.K H p (bs.map V.bl) ∧ Q (.bl (bs.all id)) H):=by
 intro pins s σ H xs us Q I r h
 obtain ⟨p,bs,rfl,hq,q⟩:=h
 obtain ⟨u,rfl,rx⟩:=vals1 r
 cases rx
 obtain ⟨its,r',pl,hz⟩:=I.list hq
 have ei:=vals_bl r'
 subst ei
 obtain ⟨fp,hfp,W,st⟩:=walks_list (X:=X) (A:=X.A.in1) (s:=s) (I.ok.hd hc) pl.isList
 refine call_all_walk (wpAny_pyIter_list pl.isList ⟨_,fp,_,_,_,_,fun i=>(bs[i]?).getD true,rfl,W,st,truth_bl bs true,fun h' tk hk=>?_⟩)
 have e:((List.range (bs.map Value.bool).toArray.size).all fun i=>(bs[i]?).getD true) = bs.all id:=by
  rw [List.size_toArray,List.length_map]; exact LSm.range_all bs
 rw [e]
 exact ⟨.bl (bs.all id),H,I.kept (t':=tk) (kept_iter' hk),rfl,q⟩
theorem call_sum (hc:X.calm = true) : CallR X (.builtin "sum") (fun xs H Q=>∃ (p:Addr) (ns:List Int),xs = [.ref p] ∧ SqL X.K H p (ns.map V.int) ∧ Q (.int ns.sum) H):=by
 intro pins s σ H xs us Q I r h
 obtain ⟨p,ns,rfl,hq,q⟩:=h
 obtain ⟨u,rfl,rx⟩:=vals1 r
 cases rx
 obtain ⟨its,r',pl,hz⟩:=I.list hq
 have hi:=intsAre_of r'
 obtain ⟨ms,hx⟩:=hi.allInts.items
 have hl':s.heap.IsList p (intItems ms):=hx ▸ pl.isList
 refine sum_intListG (I.ok.hd hc) hl' fun h' tk t' hk=>?_
 have e1:ns = ms.toList.map (·.1):=by
  rw [← nums_intItems,← hx]
  exact (show numsOf its.toArray.toList = ns from hi.numsOf).symm
 have e2:preSum (numAt ms) ms.size = ns.sum:=by
  rw [preSum_eq,List.take_of_length_le (by simp),e1]
 rw [e2]
 exact ⟨.int ns.sum,H,I.kept (t':=tk) hk,⟨t',rfl⟩,q⟩
end
end L2
namespace L2
open PySem PySem.Spec PyProof.Rows
inductive Dt where
 | non | bl (b:Bool) | int (i:Int) | str (x:Str) | tup (ds:List Dt) | lst (ds:List Dt)
mutual
def HasD (K:PySem.W.Frag) (H:Hp) : Dt → V → Prop
 | .non,v=>v = .non
 | .bl b,v=>v = .bl b
 | .int i,v=>v = .int i
 | .str x,v=>v = .str x
 | .tup ds,v=>∃ a xs,v = .ref a ∧ SqT K H a xs ∧ HasDs K H ds xs
 | .lst ds,v=>∃ a xs,v = .ref a ∧ SqL K H a xs ∧ HasDs K H ds xs
def HasDs (K:PySem.W.Frag) (H:Hp) : List Dt → List V → Prop
 | [],xs=>xs = []
 | d :: ds,xs=>∃ x r,xs = x :: r ∧ HasD K H d x ∧ HasDs K H ds r
end
mutual
def eqD:Dt → Dt → Bool
 | .non,.non=>true
 | .bl a,.bl b=>a == b
 | .bl a,.int b=>(if a then 1 else 0) == b
 | .int a,.bl b=>a == (if b then 1 else 0)
 | .int a,.int b=>a == b
 | .str a,.str b=>a == b
 | .tup as,.tup bs=>eqDs as bs
 | .lst as,.lst bs=>eqDs as bs
 | _,_=>false
def eqDs:List Dt → List Dt → Bool
 | [],[]=>true
 | a :: as,b :: bs=>eqD a b && eqDs as bs
 | _,_=>false
end
mutual
def depD:Dt → Nat
 | .tup ds=>depDs ds + 1
 | .lst ds=>depDs ds + 1
 | _=>0
def depDs:List Dt → Nat
 | []=>0
 | d :: ds=>max (depD d) (depDs ds)
end
def eqAtI (ds es:List Dt) (j:Nat) : Bool:=match ds[j]?,es[j]? with
 | some a,some b=>eqD a b
 | _,_=>true
theorem range_eqDs : ∀ (ds es:List Dt),((List.range (min ds.length es.length)).all (eqAtI ds es) && (ds.length == es.length)) = eqDs ds es
 | [],[]=>by simp [eqDs]
 | [],e :: es=>by simp [eqDs]
 | d :: ds,[]=>by simp [eqDs]
 | d :: ds,e :: es=>by
  have ih:=range_eqDs ds es
  have e1:min (d :: ds).length (e :: es).length = min ds.length es.length + 1:=by simp only [List.length_cons]; omega
  have e2:((d :: ds).length == (e :: es).length) = (ds.length == es.length):=by simp
  have e3:(eqAtI (d :: ds) (e :: es) ∘ Nat.succ) = eqAtI ds es:=by funext j; simp [eqAtI,Function.comp]
  have e4:eqAtI (d :: ds) (e :: es) 0 = eqD d e:=by simp [eqAtI]
  rw [e1,e2,List.range_succ_eq_map,List.all_cons,List.all_map,e3,e4,Bool.and_assoc,ih,eqDs]
theorem HasDs.length {K:PySem.W.Frag} {H:Hp} : ∀ {ds:List Dt} {xs:List V},HasDs K H ds xs → ds.length = xs.length
 | [],xs,h=>by
  rw [HasDs] at h
  rw [h]
  rfl
 | d :: ds,xs,h=>by
  rw [HasDs] at h
  obtain ⟨x,r,rfl,_,h2⟩:=h
  rw [List.length_cons,List.length_cons,HasDs.length h2]
theorem HasDs.get {K:PySem.W.Frag} {H:Hp} : ∀ {ds:List Dt} {xs:List V} {j:Nat} {x:V},HasDs K H ds xs → xs[j]? = some x → ∃ d,ds[j]? = some d ∧ HasD K H d x
 | [],xs,j,x,h,e=>by
  rw [HasDs] at h
  subst h
  simp at e
 | d :: ds,xs,j,x,h,e=>by
  rw [HasDs] at h
  obtain ⟨y,r,rfl,h1,h2⟩:=h
  cases j with
  | zero=>
   have e':y = x:=by simpa using e
   subst e'
   exact ⟨d,by simp,h1⟩
  | succ j=>
   obtain ⟨d',q1,q2⟩:=HasDs.get (j:=j) h2 (by simpa using e)
   exact ⟨d',by simpa using q1,q2⟩
theorem dep_get : ∀ {ds:List Dt} {j:Nat} {d:Dt},ds[j]? = some d → depD d ≤ depDs ds
 | [],j,d,e=>by simp at e
 | c :: ds,j,d,e=>by
  rw [depDs]
  cases j with
  | zero=>
   have e':c = d:=by simpa using e
   subst e'
   exact Nat.le_max_left _ _
  | succ j=>exact Nat.le_trans (dep_get (j:=j) (by simpa using e)) (Nat.le_max_right _ _)
section
variable {X:Cx} {pins:List (Addr × Obj)} {σ : St} {H:Hp} {s:Shared}
theorem list_not_tuple (I:Inv X pins σ H s) {a:Addr} {xs ys:List V} (h:SqL X.K H a xs) (h':SqT X.K H a ys) : False:=by
 obtain ⟨_,_,p,_⟩:=I.list h
 obtain ⟨_,_,q,_⟩:=I.tuple h'
 obtain ⟨o,e,c,_⟩:=p.isList
 obtain ⟨o',e',c',_⟩:=q
 rw [e] at e'
 cases e'
 rw [c] at c'
 exact absurd c' (by decide)
mutual
theorem hasD_same (I:Inv X pins σ H s) : ∀ (d e:Dt) (x:V),HasD X.K H d x → HasD X.K H e x → eqD d e = true
 | .non,e,x,h,k=>by
  rw [HasD] at h
  subst h
  cases e <;> rw [HasD] at k <;> first | (obtain ⟨_,_,z,_⟩:=k; cases z) | rfl | cases k
 | .bl b,e,x,h,k=>by
  rw [HasD] at h
  subst h
  cases e <;> rw [HasD] at k <;> first | (obtain ⟨_,_,z,_⟩:=k; cases z) | (cases k; simp [eqD]; done) | cases k
 | .int b,e,x,h,k=>by
  rw [HasD] at h
  subst h
  cases e <;> rw [HasD] at k <;> first | (obtain ⟨_,_,z,_⟩:=k; cases z) | (cases k; simp [eqD]; done) | cases k
 | .str b,e,x,h,k=>by
  rw [HasD] at h
  subst h
  cases e <;> rw [HasD] at k <;> first | (obtain ⟨_,_,z,_⟩:=k; cases z) | (cases k; simp [eqD]; done) | cases k
 | .tup ds,e,x,h,k=>by
  rw [HasD] at h
  obtain ⟨a,xs,rfl,h1,h2⟩:=h
  cases e with
  | tup es=>
   rw [HasD] at k
   obtain ⟨b,ys,z,k1,k2⟩:=k
   cases z
   have e:=I.tuple_inj k1 h1
   subst e
   rw [eqD]
   exact hasDs_same I ds es _ h2 k2
  | lst es=>
   rw [HasD] at k
   obtain ⟨b,ys,z,k1,k2⟩:=k
   cases z
   exact (list_not_tuple I k1 h1).elim
  | non=>rw [HasD] at k; cases k
  | bl b=>rw [HasD] at k; cases k
  | int b=>rw [HasD] at k; cases k
  | str b=>rw [HasD] at k; cases k
 | .lst ds,e,x,h,k=>by
  rw [HasD] at h
  obtain ⟨a,xs,rfl,h1,h2⟩:=h
  cases e with
  | lst es=>
   rw [HasD] at k
   obtain ⟨b,ys,z,k1,k2⟩:=k
   cases z
   have e:=I.list_inj k1 h1
   subst e
   rw [eqD]
   exact hasDs_same I ds es _ h2 k2
  | tup es=>
   rw [HasD] at k
   obtain ⟨b,ys,z,k1,k2⟩:=k
   cases z
   exact (list_not_tuple I h1 k1).elim
  | non=>rw [HasD] at k; cases k
  | bl b=>rw [HasD] at k; cases k
  | int b=>rw [HasD] at k; cases k
  | str b=>rw [HasD] at k; cases k
theorem hasDs_same (I:Inv X pins σ H s) : ∀ (ds es:List Dt) (xs:List V),HasDs X.K H ds xs → HasDs X.K H es xs → eqDs ds es = true
 | [],es,xs,h,k=>by
  rw [HasDs] at h
  subst h
  cases es with
  | nil=>rw [eqDs]
  | cons e es=>
   rw [HasDs] at k
   obtain ⟨_,_,z,_⟩:=k
   cases z
 | d :: ds,es,xs,h,k=>by
  rw [HasDs] at h
  obtain ⟨x,r,rfl,h1,h2⟩:=h
  cases es with
  | nil=>rw [HasDs] at k; cases k
  | cons e es=>
   rw [HasDs] at k
   obtain ⟨y,r',z,k1,k2⟩:=k
   cases z
   rw [eqDs,hasD_same I d e _ h1 k1,hasDs_same I ds es _ h2 k2]
   rfl
end
theorem items_eqAt {A:Around} {ds es:List Dt} {xs ys:List V} {is js:List Value} (hd:HasDs X.K H ds xs) (he:HasDs X.K H es ys) (vi:Vals xs is) (vj:Vals ys js)
  (rec : ∀ d e x y u v,d ∈ ds → depD d ≤ depDs ds → HasD X.K H d x → HasD X.K H e y → RelV x u → RelV y v → SeqAt.EqAt A s u v (eqD d e)) :
  ∀ j (h1:j < is.toArray.size) (h2:j < js.toArray.size),SeqAt.EqAt A s is.toArray[j] js.toArray[j] (eqAtI ds es j):=fun j h1 h2=>by
 have h1':j < is.length:=by simpa using h1
 have h2':j < js.length:=by simpa using h2
 have lx:j < xs.length:=by rw [vi.length]; exact h1'
 have ly:j < ys.length:=by rw [vj.length]; exact h2'
 obtain ⟨u,eu,ru⟩:=vi.get (i:=j) (x:=xs[j]) (by simp [lx])
 obtain ⟨v,ev,rv⟩:=vj.get (i:=j) (x:=ys[j]) (by simp [ly])
 obtain ⟨d,ed,kd⟩:=hd.get (j:=j) (x:=xs[j]) (by simp [lx])
 obtain ⟨e,ee,ke⟩:=he.get (j:=j) (x:=ys[j]) (by simp [ly])
 have e1:is.toArray[j] = u:=by
  rw [List.getElem?_eq_getElem h1'] at eu
  simpa using eu
 have e2:js.toArray[j] = v:=by
  rw [List.getElem?_eq_getElem h2'] at ev
  simpa using ev
 have e3:eqAtI ds es j = eqD d e:=by simp [eqAtI,ed,ee]
 rw [e1,e2,e3]
 exact rec d e _ _ u v (List.mem_of_getElem? ed) (dep_get ed) kd ke ru rv
theorem same_len {ds es:List Dt} {xs ys:List V} {is js:List Value} (hd:HasDs X.K H ds xs) (he:HasDs X.K H es ys) (vi:Vals xs is) (vj:Vals ys js) : ds.length = is.toArray.size ∧ es.length = js.toArray.size:=by
 rw [hd.length,he.length,vi.length,vj.length]
 simp
theorem lists_all {ds es:List Dt} (h:ds.length = es.length) : (List.range ds.length).all (eqAtI ds es) = eqDs ds es:=by
 have q:=range_eqDs ds es
 rw [← h,Nat.min_self,beq_self_eq_true,Bool.and_true] at q
 exact q
theorem lists_no {ds es:List Dt} (h:ds.length ≠ es.length) : eqDs ds es = false:=by
 have q:=range_eqDs ds es
 rw [show (ds.length == es.length) = false from by simpa using h,Bool.and_false] at q
 exact q.symm
theorem eqAt_D (I:Inv X pins σ H s) : ∀ (n:Nat) (d e:Dt) (x y:V) (u v:Value) (A:Around),depD d ≤ n → A.units + n < cLine → HasD X.K H d x → HasD X.K H e y → RelV x u → RelV y v → SeqAt.EqAt A s u v (eqD d e):=by
 intro n
 induction n with
 | zero=>
  intro d e x y u v A hn hu hd he ru rv
  have hu':A.units < cLine:=by omega
  cases d with
  | tup ds=>rw [depD] at hn; omega
  | lst ds=>rw [depD] at hn; omega
  | non=>
   rw [HasD] at hd; subst hd; cases ru
   cases e <;> rw [HasD] at he
   case non=>subst he; cases rv; exact SeqAt.EqAt.same _
   case bl b=>subst he; cases rv; exact SeqAt.EqAt.none_bool b
   case int b=>subst he; obtain ⟨t,rfl⟩:=rv; exact SeqAt.EqAt.none_int b t
   case str b=>subst he; obtain ⟨t,rfl⟩:=rv; exact SeqAt.EqAt.none_str b t
   case tup es=>obtain ⟨b,ys,rfl,k1,k2⟩:=he; cases rv; obtain ⟨js,vj,pj,_⟩:=I.tuple k1; exact SeqAt.EqAt.none_tuple pj hu'
   case lst es=>obtain ⟨b,ys,rfl,k1,k2⟩:=he; cases rv; obtain ⟨js,vj,pj,_⟩:=I.list k1; exact SeqAt.EqAt.none_list pj.isList hu'
  | bl a=>
   rw [HasD] at hd; subst hd; cases ru
   cases e <;> rw [HasD] at he
   case non=>subst he; cases rv; exact SeqAt.EqAt.bool_none a
   case bl b=>subst he; cases rv; exact SeqAt.EqAt.bool_bool a b
   case int b=>subst he; obtain ⟨t,rfl⟩:=rv; exact SeqAt.EqAt.bool_int a b t
   case str b=>subst he; obtain ⟨t,rfl⟩:=rv; exact SeqAt.EqAt.bool_str a b t
   case tup es=>obtain ⟨b,ys,rfl,k1,k2⟩:=he; cases rv; obtain ⟨js,vj,pj,_⟩:=I.tuple k1; exact SeqAt.EqAt.bool_tuple a pj hu'
   case lst es=>obtain ⟨b,ys,rfl,k1,k2⟩:=he; cases rv; obtain ⟨js,vj,pj,_⟩:=I.list k1; exact SeqAt.EqAt.bool_list a pj.isList hu'
  | int a=>
   rw [HasD] at hd; subst hd; obtain ⟨t0,rfl⟩:=ru
   cases e <;> rw [HasD] at he
   case non=>subst he; cases rv; exact SeqAt.EqAt.int_none a t0
   case bl b=>subst he; cases rv; exact SeqAt.EqAt.int_bool a t0 b
   case int b=>subst he; obtain ⟨t,rfl⟩:=rv; exact SeqAt.EqAt.int_int a t0 b t
   case str b=>subst he; obtain ⟨t,rfl⟩:=rv; exact SeqAt.EqAt.int_str a t0 b t
   case tup es=>obtain ⟨b,ys,rfl,k1,k2⟩:=he; cases rv; obtain ⟨js,vj,pj,_⟩:=I.tuple k1; exact SeqAt.EqAt.int_tuple a t0 pj hu'
   case lst es=>obtain ⟨b,ys,rfl,k1,k2⟩:=he; cases rv; obtain ⟨js,vj,pj,_⟩:=I.list k1; exact SeqAt.EqAt.int_list a t0 pj.isList hu'
  | str a=>
   rw [HasD] at hd; subst hd; obtain ⟨t0,rfl⟩:=ru
   cases e <;> rw [HasD] at he
   case non=>subst he; cases rv; exact SeqAt.EqAt.str_none a t0
   case bl b=>subst he; cases rv; exact SeqAt.EqAt.str_bool a t0 b
   case int b=>subst he; obtain ⟨t,rfl⟩:=rv; exact SeqAt.EqAt.str_int a t0 b t
   case str b=>subst he; obtain ⟨t,rfl⟩:=rv; exact SeqAt.EqAt.str_str a t0 b t
   case tup es=>obtain ⟨b,ys,rfl,k1,k2⟩:=he; cases rv; obtain ⟨js,vj,pj,_⟩:=I.tuple k1; exact SeqAt.EqAt.str_tuple a t0 pj hu'
   case lst es=>obtain ⟨b,ys,rfl,k1,k2⟩:=he; cases rv; obtain ⟨js,vj,pj,_⟩:=I.list k1; exact SeqAt.EqAt.str_list a t0 pj.isList hu'
 | succ n ih=>
  intro d e x y u v A hn hu hd he ru rv
  have hu':A.units < cLine:=by omega
  have hu1:A.in1.units + n < cLine:=by rw [units_in1]; omega
  cases d with
  | tup ds=>
   rw [depD] at hn
   have hd0:=hd
   rw [HasD] at hd
   obtain ⟨a,xs,rfl,k1,k2⟩:=hd
   cases ru
   obtain ⟨is,vi,pi,_⟩:=I.tuple k1
   cases e with
   | tup es=>
    have he0:=he
    rw [HasD] at he
    obtain ⟨b,ys,rfl,l1,l2⟩:=he
    cases rv
    obtain ⟨js,vj,pj,_⟩:=I.tuple l1
    by_cases hab:a = b
    ·subst hab
     rw [hasD_same I _ _ _ hd0 he0]
     exact SeqAt.EqAt.same _
    ·have q:=SeqAt.RcAt.tuples (A:=A) pi pj hu' (items_eqAt k2 l2 vi vj fun d e x y u v _ hdd=>ih d e x y u v A.in1 (by omega) hu1)
     obtain ⟨z1,z2⟩:=same_len k2 l2 vi vj
     rw [← z1,← z2,range_eqDs] at q
     rw [eqD]
     exact SeqAt.EqAt.of_refs hab q
   | lst es=>rw [HasD] at he; obtain ⟨b,ys,rfl,l1,l2⟩:=he; cases rv; obtain ⟨js,vj,pj,_⟩:=I.list l1; exact SeqAt.EqAt.tuple_list pi pj.isList hu'
   | non=>rw [HasD] at he; subst he; cases rv; exact SeqAt.EqAt.tuple_none pi hu'
   | bl b=>rw [HasD] at he; subst he; cases rv; exact SeqAt.EqAt.tuple_bool b pi hu'
   | int b=>rw [HasD] at he; subst he; obtain ⟨t,rfl⟩:=rv; exact SeqAt.EqAt.tuple_int b t pi hu'
   | str b=>rw [HasD] at he; subst he; obtain ⟨t,rfl⟩:=rv; exact SeqAt.EqAt.tuple_str b t pi hu'
  | lst ds=>
   rw [depD] at hn
   have hd0:=hd
   rw [HasD] at hd
   obtain ⟨a,xs,rfl,k1,k2⟩:=hd
   cases ru
   obtain ⟨is,vi,pi,_⟩:=I.list k1
   cases e with
   | lst es=>
    have he0:=he
    rw [HasD] at he
    obtain ⟨b,ys,rfl,l1,l2⟩:=he
    cases rv
    obtain ⟨js,vj,pj,_⟩:=I.list l1
    obtain ⟨z1,z2⟩:=same_len k2 l2 vi vj
    by_cases hab:a = b
    ·subst hab
     rw [hasD_same I _ _ _ hd0 he0]
     exact SeqAt.EqAt.same _
    ·rw [eqD]
     by_cases hsz:ds.length = es.length
     ·have q:=SeqAt.RcAt.lists (A:=A) pi.isList pj.isList (by omega) hu' (items_eqAt k2 l2 vi vj fun d e x y u v _ hdd=>ih d e x y u v A.in1 (by omega) hu1)
      rw [← z1,lists_all hsz] at q
      exact SeqAt.EqAt.of_refs hab q
     ·rw [lists_no hsz]
      exact SeqAt.EqAt.of_refs hab (SeqAt.RcAt.lists_lengths pi.isList pj.isList (by rw [← z1,← z2]; simpa using hsz) hu')
   | tup es=>rw [HasD] at he; obtain ⟨b,ys,rfl,l1,l2⟩:=he; cases rv; obtain ⟨js,vj,pj,_⟩:=I.tuple l1; exact SeqAt.EqAt.list_tuple pi.isList pj hu'
   | non=>rw [HasD] at he; subst he; cases rv; exact SeqAt.EqAt.list_none pi.isList hu'
   | bl b=>rw [HasD] at he; subst he; cases rv; exact SeqAt.EqAt.list_bool b pi.isList hu'
   | int b=>rw [HasD] at he; subst he; obtain ⟨t,rfl⟩:=rv; exact SeqAt.EqAt.list_int b t pi.isList hu'
   | str b=>rw [HasD] at he; subst he; obtain ⟨t,rfl⟩:=rv; exact SeqAt.EqAt.list_str b t pi.isList hu'
  | non=>exact ih _ _ _ _ _ _ _ (Nat.zero_le n) (by omega) hd he ru rv
  | bl b=>exact ih _ _ _ _ _ _ _ (Nat.zero_le n) (by omega) hd he ru rv
  | int b=>exact ih _ _ _ _ _ _ _ (Nat.zero_le n) (by omega) hd he ru rv
  | str b=>exact ih _ _ _ _ _ _ _ (Nat.zero_le n) (by omega) hd he ru rv
end
end L2
namespace L2
open PySem PySem.Spec PyProof.Rows
section
variable {X:Cx} {pins:List (Addr × Obj)} {σ : St} {H:Hp} {s:Shared}
theorem rcAt_D (I:Inv X pins σ H s) {n:Nat} {d e:Dt} {x y:V} {u v:Value} {A:Around} (hn:depD d ≤ n) (hu:A.units + n < cLine) (hd:HasD X.K H d x) (he:HasD X.K H e y) (ru:RelV x u) (rv:RelV y v) : SeqAt.RcAt A s u v (eqD d e):=by
 have hu':A.units < cLine:=by omega
 cases d with
 | non=>
  rw [HasD] at hd; subst hd; cases ru
  cases e <;> rw [HasD] at he
  case non=>subst he; cases rv; exact SeqAt.RcAt.none_none
  case bl b=>subst he; cases rv; exact SeqAt.RcAt.none_bool b
  case int b=>subst he; obtain ⟨t,rfl⟩:=rv; exact SeqAt.RcAt.none_int b t
  case str b=>subst he; obtain ⟨t,rfl⟩:=rv; exact SeqAt.RcAt.none_str b t
  case tup es=>obtain ⟨b,ys,rfl,k1,k2⟩:=he; cases rv; obtain ⟨js,vj,pj,_⟩:=I.tuple k1; exact SeqAt.RcAt.none_tuple pj hu'
  case lst es=>obtain ⟨b,ys,rfl,k1,k2⟩:=he; cases rv; obtain ⟨js,vj,pj,_⟩:=I.list k1; exact SeqAt.RcAt.none_list pj.isList hu'
 | bl a=>
  rw [HasD] at hd; subst hd; cases ru
  cases e <;> rw [HasD] at he
  case non=>subst he; cases rv; exact SeqAt.RcAt.bool_none a
  case bl b=>subst he; cases rv; exact SeqAt.RcAt.bool_bool a b
  case int b=>subst he; obtain ⟨t,rfl⟩:=rv; exact SeqAt.RcAt.bool_int a b t
  case str b=>subst he; obtain ⟨t,rfl⟩:=rv; exact SeqAt.RcAt.bool_str a b t
  case tup es=>obtain ⟨b,ys,rfl,k1,k2⟩:=he; cases rv; obtain ⟨js,vj,pj,_⟩:=I.tuple k1; exact SeqAt.RcAt.bool_tuple a pj hu'
  case lst es=>obtain ⟨b,ys,rfl,k1,k2⟩:=he; cases rv; obtain ⟨js,vj,pj,_⟩:=I.list k1; exact SeqAt.RcAt.bool_list a pj.isList hu'
 | int a=>
  rw [HasD] at hd; subst hd; obtain ⟨t0,rfl⟩:=ru
  cases e <;> rw [HasD] at he
  case non=>subst he; cases rv; exact SeqAt.RcAt.int_none a t0
  case bl b=>subst he; cases rv; exact SeqAt.RcAt.int_bool a t0 b
  case int b=>subst he; obtain ⟨t,rfl⟩:=rv; exact SeqAt.RcAt.int_int a t0 b t
  case str b=>subst he; obtain ⟨t,rfl⟩:=rv; exact SeqAt.RcAt.int_str a t0 b t
  case tup es=>obtain ⟨b,ys,rfl,k1,k2⟩:=he; cases rv; obtain ⟨js,vj,pj,_⟩:=I.tuple k1; exact SeqAt.RcAt.int_tuple a t0 pj hu'
  case lst es=>obtain ⟨b,ys,rfl,k1,k2⟩:=he; cases rv; obtain ⟨js,vj,pj,_⟩:=I.list k1; exact SeqAt.RcAt.int_list a t0 pj.isList hu'
 | str a=>
  rw [HasD] at hd; subst hd; obtain ⟨t0,rfl⟩:=ru
  cases e <;> rw [HasD] at he
  case non=>subst he; cases rv; exact SeqAt.RcAt.str_none a t0
  case bl b=>subst he; cases rv; exact SeqAt.RcAt.str_bool a t0 b
  case int b=>subst he; obtain ⟨t,rfl⟩:=rv; exact SeqAt.RcAt.str_int a t0 b t
  case str b=>subst he; obtain ⟨t,rfl⟩:=rv; exact SeqAt.RcAt.str_str a t0 b t
  case tup es=>obtain ⟨b,ys,rfl,k1,k2⟩:=he; cases rv; obtain ⟨js,vj,pj,_⟩:=I.tuple k1; exact SeqAt.RcAt.str_tuple a t0 pj hu'
  case lst es=>obtain ⟨b,ys,rfl,k1,k2⟩:=he; cases rv; obtain ⟨js,vj,pj,_⟩:=I.list k1; exact SeqAt.RcAt.str_list a t0 pj.isList hu'
 | tup ds=>
  rw [depD] at hn
  have hu1:A.in1.units + (n - 1) < cLine:=by rw [units_in1]; omega
  rw [HasD] at hd
  obtain ⟨a,xs,rfl,k1,k2⟩:=hd
  cases ru
  obtain ⟨is,vi,pi,_⟩:=I.tuple k1
  cases e with
  | tup es=>
   rw [HasD] at he
   obtain ⟨b,ys,rfl,l1,l2⟩:=he
   cases rv
   obtain ⟨js,vj,pj,_⟩:=I.tuple l1
   have q:=SeqAt.RcAt.tuples (A:=A) pi pj hu' (items_eqAt k2 l2 vi vj fun d e x y u v _ hdd=>eqAt_D I (n - 1) d e x y u v A.in1 (by omega) hu1)
   obtain ⟨z1,z2⟩:=same_len k2 l2 vi vj
   rw [← z1,← z2,range_eqDs] at q
   rw [eqD]
   exact q
  | lst es=>rw [HasD] at he; obtain ⟨b,ys,rfl,l1,l2⟩:=he; cases rv; obtain ⟨js,vj,pj,_⟩:=I.list l1; exact SeqAt.RcAt.tuple_list pi pj.isList hu'
  | non=>rw [HasD] at he; subst he; cases rv; exact SeqAt.RcAt.tuple_none pi hu'
  | bl b=>rw [HasD] at he; subst he; cases rv; exact SeqAt.RcAt.tuple_bool b pi hu'
  | int b=>rw [HasD] at he; subst he; obtain ⟨t,rfl⟩:=rv; exact SeqAt.RcAt.tuple_int b t pi hu'
  | str b=>rw [HasD] at he; subst he; obtain ⟨t,rfl⟩:=rv; exact SeqAt.RcAt.tuple_str b t pi hu'
 | lst ds=>
  rw [depD] at hn
  have hu1:A.in1.units + (n - 1) < cLine:=by rw [units_in1]; omega
  rw [HasD] at hd
  obtain ⟨a,xs,rfl,k1,k2⟩:=hd
  cases ru
  obtain ⟨is,vi,pi,_⟩:=I.list k1
  cases e with
  | lst es=>
   rw [HasD] at he
   obtain ⟨b,ys,rfl,l1,l2⟩:=he
   cases rv
   obtain ⟨js,vj,pj,_⟩:=I.list l1
   obtain ⟨z1,z2⟩:=same_len k2 l2 vi vj
   rw [eqD]
   by_cases hsz:ds.length = es.length
   ·have q:=SeqAt.RcAt.lists (A:=A) pi.isList pj.isList (by omega) hu' (items_eqAt k2 l2 vi vj fun d e x y u v _ hdd=>eqAt_D I (n - 1) d e x y u v A.in1 (by omega) hu1)
    rw [← z1,lists_all hsz] at q
    exact q
   ·rw [lists_no hsz]
    exact SeqAt.RcAt.lists_lengths pi.isList pj.isList (by rw [← z1,← z2]; simpa using hsz) hu'
  | tup es=>rw [HasD] at he; obtain ⟨b,ys,rfl,l1,l2⟩:=he; cases rv; obtain ⟨js,vj,pj,_⟩:=I.tuple l1; exact SeqAt.RcAt.list_tuple pi.isList pj hu'
  | non=>rw [HasD] at he; subst he; cases rv; exact SeqAt.RcAt.list_none pi.isList hu'
  | bl b=>rw [HasD] at he; subst he; cases rv; exact SeqAt.RcAt.list_bool b pi.isList hu'
  | int b=>rw [HasD] at he; subst he; obtain ⟨t,rfl⟩:=rv; exact SeqAt.RcAt.list_int b t pi.isList hu'
  | str b=>rw [HasD] at he; subst he; obtain ⟨t,rfl⟩:=rv; exact SeqAt.RcAt.list_str b t pi.isList hu'
theorem rcNeAt_D (I:Inv X pins σ H s) {n:Nat} {d e:Dt} {x y:V} {u v:Value} {A:Around} (hn:depD d ≤ n) (hu:A.units + n < cLine) (hd:HasD X.K H d x) (he:HasD X.K H e y) (ru:RelV x u) (rv:RelV y v) : SeqAt.RcNeAt A s u v (!(eqD d e)):=by
 have hu':A.units < cLine:=by omega
 cases d with
 | non=>
  rw [HasD] at hd; subst hd; cases ru
  cases e <;> rw [HasD] at he
  case non=>subst he; cases rv; exact SeqAt.RcNeAt.none_none
  case bl b=>subst he; cases rv; exact SeqAt.RcNeAt.none_bool b
  case int b=>subst he; obtain ⟨t,rfl⟩:=rv; exact SeqAt.RcNeAt.none_int b t
  case str b=>subst he; obtain ⟨t,rfl⟩:=rv; exact SeqAt.RcNeAt.none_str b t
  case tup es=>obtain ⟨b,ys,rfl,k1,k2⟩:=he; cases rv; obtain ⟨js,vj,pj,_⟩:=I.tuple k1; exact SeqAt.RcNeAt.none_tuple pj hu'
  case lst es=>obtain ⟨b,ys,rfl,k1,k2⟩:=he; cases rv; obtain ⟨js,vj,pj,_⟩:=I.list k1; exact SeqAt.RcNeAt.none_list pj.isList hu'
 | bl a=>
  rw [HasD] at hd; subst hd; cases ru
  cases e <;> rw [HasD] at he
  case non=>subst he; cases rv; exact SeqAt.RcNeAt.bool_none a
  case bl b=>subst he; cases rv; exact SeqAt.RcNeAt.bool_bool a b
  case int b=>subst he; obtain ⟨t,rfl⟩:=rv; exact SeqAt.RcNeAt.bool_int a b t
  case str b=>subst he; obtain ⟨t,rfl⟩:=rv; exact SeqAt.RcNeAt.bool_str a b t
  case tup es=>obtain ⟨b,ys,rfl,k1,k2⟩:=he; cases rv; obtain ⟨js,vj,pj,_⟩:=I.tuple k1; exact SeqAt.RcNeAt.bool_tuple a pj hu'
  case lst es=>obtain ⟨b,ys,rfl,k1,k2⟩:=he; cases rv; obtain ⟨js,vj,pj,_⟩:=I.list k1; exact SeqAt.RcNeAt.bool_list a pj.isList hu'
 | int a=>
  rw [HasD] at hd; subst hd; obtain ⟨t0,rfl⟩:=ru
  cases e <;> rw [HasD] at he
  case non=>subst he; cases rv; exact SeqAt.RcNeAt.int_none a t0
  case bl b=>subst he; cases rv; exact SeqAt.RcNeAt.int_bool a t0 b
  case int b=>subst he; obtain ⟨t,rfl⟩:=rv; exact SeqAt.RcNeAt.int_int a t0 b t
  case str b=>subst he; obtain ⟨t,rfl⟩:=rv; exact SeqAt.RcNeAt.int_str a t0 b t
  case tup es=>obtain ⟨b,ys,rfl,k1,k2⟩:=he; cases rv; obtain ⟨js,vj,pj,_⟩:=I.tuple k1; exact SeqAt.RcNeAt.int_tuple a t0 pj hu'
  case lst es=>obtain ⟨b,ys,rfl,k1,k2⟩:=he; cases rv; obtain ⟨js,vj,pj,_⟩:=I.list k1; exact SeqAt.RcNeAt.int_list a t0 pj.isList hu'
 | str a=>
  rw [HasD] at hd; subst hd; obtain ⟨t0,rfl⟩:=ru
  cases e <;> rw [HasD] at he
  case non=>subst he; cases rv; exact SeqAt.RcNeAt.str_none a t0
  case bl b=>subst he; cases rv; exact SeqAt.RcNeAt.str_bool a t0 b
  case int b=>subst he; obtain ⟨t,rfl⟩:=rv; exact SeqAt.RcNeAt.str_int a t0 b t
  case str b=>subst he; obtain ⟨t,rfl⟩:=rv; exact SeqAt.RcNeAt.str_str a t0 b t
  case tup es=>obtain ⟨b,ys,rfl,k1,k2⟩:=he; cases rv; obtain ⟨js,vj,pj,_⟩:=I.tuple k1; exact SeqAt.RcNeAt.str_tuple a t0 pj hu'
  case lst es=>obtain ⟨b,ys,rfl,k1,k2⟩:=he; cases rv; obtain ⟨js,vj,pj,_⟩:=I.list k1; exact SeqAt.RcNeAt.str_list a t0 pj.isList hu'
 | tup ds=>
  rw [depD] at hn
  have hu1:A.in1.units + (n - 1) < cLine:=by rw [units_in1]; omega
  rw [HasD] at hd
  obtain ⟨a,xs,rfl,k1,k2⟩:=hd
  cases ru
  obtain ⟨is,vi,pi,_⟩:=I.tuple k1
  cases e with
  | tup es=>
   rw [HasD] at he
   obtain ⟨b,ys,rfl,l1,l2⟩:=he
   cases rv
   obtain ⟨js,vj,pj,_⟩:=I.tuple l1
   have q:=SeqAt.RcNeAt.tuples (A:=A) pi pj hu' (items_eqAt k2 l2 vi vj fun d e x y u v _ hdd=>eqAt_D I (n - 1) d e x y u v A.in1 (by omega) hu1)
   obtain ⟨z1,z2⟩:=same_len k2 l2 vi vj
   rw [← z1,← z2,range_eqDs] at q
   rw [eqD]
   exact q
  | lst es=>rw [HasD] at he; obtain ⟨b,ys,rfl,l1,l2⟩:=he; cases rv; obtain ⟨js,vj,pj,_⟩:=I.list l1; exact SeqAt.RcNeAt.tuple_list pi pj.isList hu'
  | non=>rw [HasD] at he; subst he; cases rv; exact SeqAt.RcNeAt.tuple_none pi hu'
  | bl b=>rw [HasD] at he; subst he; cases rv; exact SeqAt.RcNeAt.tuple_bool b pi hu'
  | int b=>rw [HasD] at he; subst he; obtain ⟨t,rfl⟩:=rv; exact SeqAt.RcNeAt.tuple_int b t pi hu'
  | str b=>rw [HasD] at he; subst he; obtain ⟨t,rfl⟩:=rv; exact SeqAt.RcNeAt.tuple_str b t pi hu'
 | lst ds=>
  rw [depD] at hn
  have hu1:A.in1.units + (n - 1) < cLine:=by rw [units_in1]; omega
  rw [HasD] at hd
  obtain ⟨a,xs,rfl,k1,k2⟩:=hd
  cases ru
  obtain ⟨is,vi,pi,_⟩:=I.list k1
  cases e with
  | lst es=>
   rw [HasD] at he
   obtain ⟨b,ys,rfl,l1,l2⟩:=he
   cases rv
   obtain ⟨js,vj,pj,_⟩:=I.list l1
   obtain ⟨z1,z2⟩:=same_len k2 l2 vi vj
   rw [eqD]
   by_cases hsz:ds.length = es.length
   ·have q:=SeqAt.RcNeAt.lists (A:=A) pi.isList pj.isList (by omega) hu' (items_eqAt k2 l2 vi vj fun d e x y u v _ hdd=>eqAt_D I (n - 1) d e x y u v A.in1 (by omega) hu1)
    rw [← z1,lists_all hsz] at q
    exact q
   ·rw [lists_no hsz]
    exact SeqAt.RcNeAt.lists_lengths pi.isList pj.isList (by rw [← z1,← z2]; simpa using hsz) hu'
  | tup es=>rw [HasD] at he; obtain ⟨b,ys,rfl,l1,l2⟩:=he; cases rv; obtain ⟨js,vj,pj,_⟩:=I.tuple l1; exact SeqAt.RcNeAt.list_tuple pi.isList pj hu'
  | non=>rw [HasD] at he; subst he; cases rv; exact SeqAt.RcNeAt.list_none pi.isList hu'
  | bl b=>rw [HasD] at he; subst he; cases rv; exact SeqAt.RcNeAt.list_bool b pi.isList hu'
  | int b=>rw [HasD] at he; subst he; obtain ⟨t,rfl⟩:=rv; exact SeqAt.RcNeAt.list_int b t pi.isList hu'
  | str b=>rw [HasD] at he; subst he; obtain ⟨t,rfl⟩:=rv; exact SeqAt.RcNeAt.list_str b t pi.isList hu'
end
def rEqD (K:PySem.W.Frag) : R2:=fun x y H Q=>∃ d e,HasD K H d x ∧ HasD K H e y ∧ depD d ≤ 60 ∧ Q (.bl (eqD d e)) H
def rNeD (K:PySem.W.Frag) : R2:=fun x y H Q=>∃ d e,HasD K H d x ∧ HasD K H e y ∧ depD d ≤ 60 ∧ Q (.bl (!eqD d e)) H
section
variable {X:Cx}
theorem op_eqD (hu:X.A.units + 64 < cLine) : OpR X (compareOp .Eq) (rEqD X.K):=by
 intro pins s σ H x y v u Q I rx ry h
 obtain ⟨d,e,hd,he,hn,q⟩:=h
 exact rcAt_D I hn (by omega) hd he rx ry _ _ _ _ ⟨.bl _,H,I,rfl,q⟩
theorem op_neD (hu:X.A.units + 64 < cLine) : OpR X (compareOp .NotEq) (rNeD X.K):=by
 intro pins s σ H x y v u Q I rx ry h
 obtain ⟨d,e,hd,he,hn,q⟩:=h
 exact rcNeAt_D I hn (by omega) hd he rx ry _ _ _ _ ⟨.bl _,H,I,rfl,q⟩
theorem op_isB:OpR X (compareOp .Is) (fun x y H Q=>∃ a b,x = .bl a ∧ y = .bl b ∧ Q (.bl (a == b)) H):=by
 intro pins s σ H x y v u Q I rx ry h
 obtain ⟨a,b,rfl,rfl,q⟩:=h
 cases rx
 cases ry
 exact is_bool ⟨.bl _,H,I,rfl,q⟩
end
theorem hasDs_ints (K:PySem.W.Frag) (H:Hp) : ∀ ns:List Int,HasDs K H (ns.map Dt.int) (ns.map V.int)
 | []=>by rw [List.map_nil,List.map_nil,HasDs]
 | n :: ns=>by
  rw [List.map_cons,List.map_cons,HasDs]
  exact ⟨_,_,rfl,by rw [HasD],hasDs_ints K H ns⟩
theorem hasD_listI {K:PySem.W.Frag} {H:Hp} {a:Addr} {ns:List Int} (h:SqL K H a (ns.map V.int)) : HasD K H (.lst (ns.map Dt.int)) (.ref a):=by
 rw [HasD]
 exact ⟨a,_,rfl,h,hasDs_ints K H ns⟩
theorem hasD_tupI {K:PySem.W.Frag} {H:Hp} {a:Addr} {ns:List Int} (h:SqT K H a (ns.map V.int)) : HasD K H (.tup (ns.map Dt.int)) (.ref a):=by
 rw [HasD]
 exact ⟨a,_,rfl,h,hasDs_ints K H ns⟩
theorem depDs_ints : ∀ ns:List Int,depDs (ns.map Dt.int) = 0
 | []=>by rw [List.map_nil,depDs]
 | n :: ns=>by
  show max (depD (Dt.int n)) (depDs (ns.map Dt.int)) = 0
  rw [depDs_ints ns]
  rfl
theorem eqDs_ints : ∀ ms ns:List Int,eqDs (ms.map Dt.int) (ns.map Dt.int) = decide (ms = ns)
 | [],[]=>by simp [eqDs]
 | [],n :: ns=>by simp [eqDs]
 | m :: ms,[]=>by simp [eqDs]
 | m :: ms,n :: ns=>by
  rw [List.map_cons,List.map_cons,eqDs,eqDs_ints ms ns,eqD]
  by_cases h:m = n
  ·subst h; simp
  ·simp [h]
theorem eqD_listI (ms ns:List Int) : eqD (.lst (ms.map Dt.int)) (.lst (ns.map Dt.int)) = decide (ms = ns):=by rw [eqD,eqDs_ints]
theorem eqD_tupI (ms ns:List Int) : eqD (.tup (ms.map Dt.int)) (.tup (ns.map Dt.int)) = decide (ms = ns):=by rw [eqD,eqDs_ints]
theorem dep_listI (ns:List Int) : depD (.lst (ns.map Dt.int)) ≤ 60:=by rw [depD,depDs_ints]; decide
theorem dep_tupI (ns:List Int) : depD (.tup (ns.map Dt.int)) ≤ 60:=by rw [depD,depDs_ints]; decide
end L2
namespace L2
open PySem PySem.Spec PyProof.Rows
section
variable {X:Cx}
def rGetL (K:PySem.W.Frag) : R2:=fun x y H Q=>∃ p xs i v,x = .ref p ∧ y = .int i ∧ SqL K H p xs ∧ 0 ≤ i ∧ xs[i.toNat]? = some v ∧ Q v H
theorem get_list:PGet X (rGetL X.K):=by
 intro pins s σ H o i ov iv Q I ro ri h
 obtain ⟨p,xs,k,z,rfl,rfl,hq,h0,he,q⟩:=h
 cases ro
 obtain ⟨t,rfl⟩:=ri
 obtain ⟨its,r,pl,hz⟩:=I.list hq
 obtain ⟨w,ew,rw'⟩:=r.get he
 have hl:=r.length
 have hn:=line63
 have hk:k.toNat < its.length:=(List.getElem?_eq_some_iff.mp ew).1
 exact wpAny_getItem_list pl.isList h0 (by omega) (by simpa using ew) ⟨z,H,I,rw',q⟩
end
def kb11 {α : Type} : List α → List α → List α
 | [u0],[w0]=>[u0,w0]
 | _,_=>[]
theorem kb_rel11 {vs:List V} {us:List Value} {zs:List V} {ws:List Value} (r1:Vals vs us) (r2:Vals zs ws) : Vals (kb11 vs zs) (kb11 us ws):=by
 cases r1 with
 | nil=>exact .nil
 | cons a ra=>
  cases ra with
  | nil=>
   cases r2 with
   | nil=>exact .nil
   | cons b rb=>
    cases rb with
    | nil=>exact .cons a (.cons b .nil)
    | cons _ _=>exact .nil
  | cons _ _=>exact .nil
theorem bd_kw1 {K:PySem.W.Frag} {fd:FuncData} {p k:Str} {kd:Addr} {v:Value} (e:PySem.W.nsIn K kd k = some (some v)) (hp:fd.params.posonlyargs = []) (ha:fd.params.args.map (·.arg) = [p]) (hv:fd.params.vararg = none) (hk:fd.params.kwonlyargs.map (·.arg) = [k])
  (hkw:fd.params.kwarg = none) (hd:fd.defaults = .none) (hkd:fd.kwdefaults = .ref kd) (hpk:(k == p) = false) : Binds K fd [p,k] [v]:=by
 intro s us KX hl
 obtain ⟨u,rfl⟩ : ∃ u,us = [u]:=by
  match us,hl with
  | [u],_=>exact ⟨u,rfl⟩
  | _ :: _ :: _,hl=>simp at hl
 intro Mo A E Q hq
 have L:=PySem.W.looks_nsIn (M:=Mo) KX e
 unfold bindArgs
 have hz:seqItems? Value.none = pure none:=rfl
 simp only [hp,ha,hv,hk,hkw,hd,hkd,hz,List.map_nil,List.nil_append,List.length_cons,List.length_nil,List.zip_cons_cons,List.zip_nil_right,pure_bind,Option.getD_none,List.forIn_nil]
 simp [List.lookup_cons,hpk]
 refine wpAny_bind (L A _ E s (fun _ _ h=>h) ?_)
 simp [List.lookup_cons,hpk]
 exact wpAny_pure hq
end L2
namespace L2
open PySem PySem.Spec PyProof.Rows
section
variable {X:Cx} {pins:List (Addr × Obj)} {σ : St} {H H':Hp} {s s':Shared} {ea:Addr} {cls:Value}
end
section
variable {P:Program} {w:World} {K:PySem.W.Frag} {mg:Str → Option Value} {base:Heap} {N:List Str} {qual:Str} {scope:Scope} {f:Addr} {cd:Value} {A:Around} {outer:List Env} {s:Shared} {H:Hp} {E:XK}
end
end L2
namespace L2
open PySem PySem.Spec PyProof.Rows
section
variable {X:Cx}
end
section
variable {X:Cx} {pins pn:List (Addr × Obj)} {σ : St} {H H':Hp} {s s':Shared}
end
end L2
namespace L2
open PySem PySem.Spec PyProof.Rows
section
variable {X:Cx}
end
end L2
namespace L2
open PySem PySem.Spec PyProof.Rows
section
variable {prog:Program} {w:World} {A:Around} {E:Value → Shared → Prop} {K:PySem.W.Frag} {h:Heap} {g:Array GenState} {d:Drawn} {t:Nat} {os:OsState} {a C:Addr} {o:Obj}
end
section
variable {X:Cx}
end
end L2
namespace L2
open PySem PySem.Spec PyProof.Rows
section
variable {X:Cx}
end
section
variable {P:Program} {w:World} {K:PySem.W.Frag} {mg:Str → Option Value} {base:Heap}
end
end L2
namespace L2
open PySem
end L2
namespace L2
open PySem PySem.Spec PyProof.Rows
def isStar:Expr → Bool
 | .Starred _ _=>true
 | _=>false
theorem starEach_no {e:Expr} {es:List Expr} {env:Env} (h:isStar e = false) : starEach (e :: es) env = (false,eval e env) :: starEach es env:=by
 cases e <;> first | rfl | cases h
section
variable {X:Cx} {e:Expr} {es:List Expr} {te:TE} {t:TA}
theorem pa_more (ha:PE X e te) (hr:PA X es t) (h:autoParam (isStar e = false) aP1) : PA X (e :: es) (tCons te t):=pa_cons ha hr (starEach_no h)
end
end L2
namespace L2
open PySem PySem.Spec PyProof.Rows
section
variable {prog:Program} {w:World} {A:Around} {E:Value → Shared → Prop} {s:Shared}
end
section
variable {X:Cx}
end
def kb12 {α : Type} : List α → List α → List α
 | [u0],[w0,w1]=>[u0,w0,w1]
 | _,_=>[]
theorem kb_rel12 {vs:List V} {us:List Value} {zs:List V} {ws:List Value} (r1:Vals vs us) (r2:Vals zs ws) : Vals (kb12 vs zs) (kb12 us ws):=by
 rcases r1 with _ | ⟨a,_ | ⟨_,_⟩⟩ <;> rcases r2 with _ | ⟨b,_ | ⟨c,_ | ⟨_,_⟩⟩⟩
 all_goals first | exact .nil | exact .cons a (.cons b (.cons c .nil))
end L2
namespace L2
open PySem PySem.Spec PyProof.Rows
section
open PySem.SeqAt
open PySem.MeetsSeq PySem.MeetsSeq2 PySem.MeetsSeq3
end
end L2
namespace L2
open PySem PySem.Spec PyProof.Rows
section
variable {X:Cx}
end
end L2
namespace HT
open PySem PyProof.Rows
section
variable {prog:Program} {w:World} {A:Around} {E:Value → Shared → Prop} {s:Shared}
end
end HT
namespace L2
open PySem PySem.Spec PyProof.Rows
section
variable {X:Cx}
end
end L2
namespace L2
open PySem PySem.Spec PyProof.Rows
section
variable {X:Cx} {e v1 v2:Expr} {es:List Expr} {te:TE} {t:Str → TE} {pos:Pos}
end
end L2
namespace L2
open PySem PySem.Spec PyProof.Rows
section
variable {X:Cx} {pins:List (Addr × Obj)} {σ : St} {H:Hp} {s:Shared} {a:Addr} {o:Obj} {u:HO}
theorem Inv.freeze (I:Inv X pins σ H s) (hm:Mut (some u)) (ha:H a = some u) (ho:s.heap.get? a = some o) : Inv X pins σ (upd H a (.frz o u)) s:=by
 have new:ObjOk X.prog X.w (upd H a (.frz o u)) s.heap a (.frz o u):=by
  refine ⟨ho,(I.hok a u ha).stay (fun _ _ _ q=>q) (fun c q=>?_) fun c xs q=>?_⟩
  ·have hc:c ≠ a:=fun z=>by
    subst z
    rw [ha] at q
    cases q
    exact hm
   rw [upd_ne hc]
   exact q
  ·have hc:c ≠ a:=fun z=>by
    subst z
    rw [ha] at q
    cases q
    exact hm
   rw [upd_ne hc]
   exact q
 exact I.write (t':=s.toks) (x:=a) (e:=a) (o:=.frz o u) (h':=s.heap) (by rw [ha]; exact hm) (.inl rfl) (fun b v _ q=>q) ⟨o,ho⟩ new
theorem Inv.thaw (I:Inv X pins σ H s) (ha:H a = some (.frz o u)) (h0 : ∀ o' u',X.H₀ a ≠ some (.frz o' u')) (hm:Mut (some u)) : Inv X pins σ (upd H a u) s:=by
 have ne : ∀ {b:Addr} {v:HO},H b = some v → (∀ o' u',v ≠ .frz o' u') → b ≠ a:=fun {b v} e h z=>by
  subst z
  rw [ha] at e
  exact h _ _ (Option.some.inj e).symm
 have nen : ∀ {b:Addr},H b = none → b ≠ a:=fun {b} e z=>by
  subst z
  rw [ha] at e
  cases e
 refine ⟨I.ok,I.os,I.bare,⟨I.base.keep,I.base.slot,fun b ob e n hx=>?_,I.base.there,fun b xs q=>?_,fun b ob v q=>?_,fun b ps q=>?_⟩,I.loc,I.cell,?_,fun x c e=>?_,fun p hp=>?_,fun b v e=>?_,I.len⟩
 ·have q:=I.base.free b ob e n hx
  rw [upd_ne (nen q)]
  exact q
 ·have q':=I.base.tups b xs q
  rw [upd_ne (ne q' fun _ _ z=>nomatch z)]
  exact q'
 ·have hb:b ≠ a:=fun z=>by
   subst z
   exact h0 _ _ q
  rw [upd_ne hb]
  exact I.base.frzs b ob v q
 ·obtain ⟨more,z⟩:=I.base.tbls b ps q
  exact ⟨more,by rw [upd_ne (ne z fun _ _ z=>nomatch z)]; exact z⟩
 ·rw [upd_ne (nen I.free)]
  exact I.free
 ·rw [upd_ne (nen (I.freeC x c e))]
  exact I.freeC x c e
 ·obtain ⟨q1,q2,q3⟩:=I.pin p hp
  exact ⟨q1,by rw [upd_ne (nen q2)]; exact q2,q3⟩
 ·have own : ∀ (c y:Addr),H c = some (.own y) → upd H a u c = some (.own y):=fun c y q=>by
   rw [upd_ne (ne q fun _ _ z=>nomatch z)]
   exact q
  have tup : ∀ (c:Addr) (xs:List V),H c = some (.tup xs) → upd H a u c = some (.tup xs):=fun c xs q=>by
   rw [upd_ne (ne q fun _ _ z=>nomatch z)]
   exact q
  by_cases hb:b = a
  ·subst hb
   rw [upd_same] at e
   cases e
   obtain ⟨_,q⟩:=I.hok _ _ ha
   exact q.stay (fun _ _ _ q=>q) (fun c q=>own c _ q) tup
  ·rw [upd_ne hb] at e
   exact (I.hok b v e).stay (fun _ _ _ q=>q) (fun c q=>own c _ q) tup
def tThaw (H0:Hp) (t:TS) : TS:=fun D σ H=>
 let un:(Hp → Prop) → Hp → Prop:=fun Q H'=>∃ a o u,H' a = some (.frz o u) ∧ (∀ o' u',H0 a ≠ some (.frz o' u')) ∧ Mut (some u) ∧ Q (upd H' a u)
 t { nx:=fun σ' H'=>un (D.nx σ') H',rt:=fun v H'=>un (D.rt v) H',bk:=D.bk,ct:=D.ct } σ H
theorem ps_thaw {st:Stmt} {t:TS} (h:PS X st t) : PS X st (tThaw X.H₀ t):=by
 intro pins s σ H D I q
 refine thn (h pins s σ H _ I q) fun f s1 q1=>?_
 cases f with
 | next=>
  obtain ⟨σ1,H1,I1,a,o,u,ha,h0,hm,q⟩:=q1
  exact ⟨σ1,_,I1.thaw ha h0 hm,q⟩
 | ret v=>
  obtain ⟨x,σ1,H1,I1,r,a,o,u,ha,h0,hm,q⟩:=q1
  exact ⟨x,σ1,_,I1.thaw ha h0 hm,r,q⟩
 | brk=>exact q1
 | cont=>exact q1
def tThawE (H0:Hp) (t:TE) : TE:=fun σ H Q=>t σ H fun v H'=>∃ a o u,H' a = some (.frz o u) ∧ (∀ o' u',H0 a ≠ some (.frz o' u')) ∧ Mut (some u) ∧ Q v (upd H' a u)
theorem pe_thaw {e:Expr} {t:TE} (h:PE X e t) : PE X e (tThawE X.H₀ t):=by
 intro pins s σ H Q I q
 refine thn (h pins s σ H _ I q) fun v s1 ⟨x,H1,I1,r,a,o,u,ha,h0,hm,q⟩=>?_
 exact ⟨x,_,I1.thaw ha h0 hm,r,q⟩
end
theorem rel_key {k:Key} {v:Value} (h:keyIs k v = true) : RelV (kV k) v:=by
 rcases keyIs_shape h with ⟨i,t,rfl,rfl⟩ | ⟨x,t,rfl,rfl⟩
 ·exact ⟨t,rfl⟩
 ·exact ⟨t,rfl⟩
def Itd (a:Addr) (o:Obj) (kvs:List (Key × V)) : It where
 go:=fun i H=>i < kvs.length ∧ H a = some (.frz o (.dK kvs))
 yld:=fun i H x H'=>H' = H ∧ ∃ kv,kvs[i]? = some kv ∧ x = kV kv.1
 stop:=fun i H=>kvs.length ≤ i ∧ H a = some (.frz o (.dK kvs))
theorem kv_get {kvs:List (Key × V)} {vs:List (Key × Value)} : ∀ {i:Nat} {kv:Key × V},KV kvs vs → kvs[i]? = some kv → ∃ v,vs[i]? = some (kv.1,v) ∧ RelV kv.2 v:=by
 intro i kv r
 unfold KV at r
 induction r generalizing i with
 | nil=>intro e; simp at e
 | @cons p q ps qs h t ih=>
  intro e
  cases i with
  | zero=>
   have e':=Option.some.inj e
   subst e'
   exact ⟨q.2,by rw [h.1]; rfl,h.2⟩
  | succ i=>exact ih e
theorem turn_dK {P:Program} {w:World} {K:PySem.W.Frag} {tg:Expr} (a it:Addr) (o:Obj) (kvs:List (Key × V)) (es:Array DictEntry) (ep:Nat) (hd:o.data = .dict es ep) : Turn P w K tg (Itd a o kvs) [it] it (fun i h=>h.IsKeyIter it a i kvs.length ep) where
 mem:=by simp
 obj:=fun i h st b hb=>by
  have e:b = it:=by simpa using hb
  subst e
  obtain ⟨o,e,c,d⟩:=st
  exact ⟨o,e,fun v z=>by rw [d] at z; cases z⟩
 keep:=fun i h h' st k=>st.at fun o e=>k it (by simp) o e
 item:=by
  intro X hP hw hK hc i pins s σ H E I hf st hg
  subst hP hw hK
  obtain ⟨hi,hq⟩:=hg
  obtain ⟨ho,hz,hs,vs,r,o',es',ep',ho',hx',hd',r1,r2,r3⟩:=I.hok a _ hq
  have eo:o' = o:=Option.some.inj (ho'.symm.trans ho)
  subst eo
  have ee:ep' = ep:=by
   rw [hd] at hd'
   cases hd'
   rfl
  subst ee
  have hlen:kvs.length = vs.length:=Paired.length r
  have hm:s.heap.DictAt (mixKind X.prog X.w) a vs ep':=⟨o',es',ho,hx',hd',r1,r2,r3⟩
  obtain ⟨kv,ekv⟩ : ∃ kv,kvs[i]? = some kv:=⟨kvs[i],by simp [hi]⟩
  obtain ⟨v,ev,rv⟩:=kv_get r ekv
  obtain ⟨f0,f1,f2,f3,f4,f5⟩:=hf it (by simp)
  rw [hlen] at st
  refine wpAny_pyNext_dict_item st hm ev fun key h' hk st' sb=>?_
  have I1:Inv X pins σ H { s with heap:=h' }:=I.turned (t':=s.toks) (fun b o hb e=>(sb.2 b hb).trans e) f0 f1 f3 f4 f5
  rw [← hlen] at st'
  obtain ⟨oi,ei,ci,di⟩:=id st'
  exact ⟨key,rfl,go_of (s:={ s with heap:=h' }) ei ci di (by decide) ⟨kV kv.1,H,I1,rel_key hk,⟨rfl,kv,ekv,rfl⟩,st',fun b hb=>(hf b hb).1⟩⟩
 done:=by
  intro X hP hw hK hc i pins s σ H E I hf st hg
  subst hP hw hK
  obtain ⟨hi,hq⟩:=hg
  obtain ⟨ho,hz,hs,vs,r,o',es',ep',ho',hx',hd',r1,r2,r3⟩:=I.hok a _ hq
  have eo:o' = o:=Option.some.inj (ho'.symm.trans ho)
  subst eo
  have ee:ep' = ep:=by
   rw [hd] at hd'
   cases hd'
   rfl
  subst ee
  have hlen:kvs.length = vs.length:=Paired.length r
  have hm:s.heap.DictAt (mixKind X.prog X.w) a vs ep':=⟨o',es',ho,hx',hd',r1,r2,r3⟩
  obtain ⟨f0,f1,f2,f3,f4,f5⟩:=hf it (by simp)
  rw [hlen] at st
  exact wpAny_pyNext_dict_end (I.ok.hd hc) st hm (List.getElem?_eq_none_iff.mpr (by omega)) fun h' eb=>⟨rfl,I.turned (t':=s.toks) (fun b o hb e=>eb b o hb e) f0 f1 f3 f4 f5⟩
 self:=fun _ _ _ _ _ st h=>wpAny_pyIter_keyiter st h
def iDk (tl:TE) : TI:=fun σ H R=>tl σ H fun x H1=>∃ a kvs,x = .ref a ∧ H1 a = some (.dK kvs) ∧ ∀ o,R (Itd a o kvs) (upd H1 a (.frz o (.dK kvs)))
theorem pi_dK {X:Cx} {tg l:Expr} {tl:TE} (hl:PE X l tl) : PI X tg l (iDk tl):=by
 intro pins s σ H R I h
 refine thn (hl pins s σ H _ I h) fun v s1 ⟨x,H1,I1,r1,q1⟩=>?_
 obtain ⟨a,kvs,e,hq,q⟩:=q1
 subst e
 cases r1
 obtain ⟨hz,hs,vs,r,o,es,ep,ho,hx,hd,r1,r2,r3⟩:=I1.hok a _ hq
 have hlen:kvs.length = vs.length:=Paired.length r
 have hm:s1.heap.DictAt (mixKind X.prog X.w) a vs ep:=⟨o,es,ho,hx,hd,r1,r2,r3⟩
 refine wpAny_pyIter_dict hs hm ?_
 have I2:=I1.freeze (show Mut (some (HO.dK kvs)) from True.intro) hq ho
 have hn:upd H1 a (.frz o (.dK kvs)) s1.heap.objs.size = none:=I2.hok.fresh (Nat.le_refl _)
 refine ⟨s1.heap.objs.size,[s1.heap.objs.size],_,_,_,rfl,I2.kept (t':=s1.toks) fun b o e=>Heap.get?_push_of_some _ e,turn_dK a _ o kvs es ep hd,?_,fun b hb=>?_,q o⟩
 ·rw [hlen]
  exact ⟨_,Heap.get?_push_size _ rfl,rfl,rfl⟩
 ·have e:b = s1.heap.objs.size:=by simpa using hb
  subst e
  exact I2.fpOk (Nat.le_refl _) hn
end L2
namespace L2
open PySem PySem.Spec PyProof.Rows
def ViewV (v d:Addr) : HO:=.ext fun h=>h.IsValuesView v d
def Itv (a:Addr) (o:Obj) (kvs:List (Key × V)) : It where
 go:=fun i H=>i < kvs.length ∧ H a = some (.frz o (.dK kvs))
 yld:=fun i H x H'=>H' = H ∧ ∃ kv,kvs[i]? = some kv ∧ x = kv.2
 stop:=fun i H=>kvs.length ≤ i ∧ H a = some (.frz o (.dK kvs))
section
variable {X:Cx}
theorem mt_values:MtR X "dict.values" (fun x xs H Q=>∃ d kvs,x = .ref d ∧ xs = [] ∧ H d = some (.dK kvs) ∧ ∀ p,H p = none → Q (.ref p) (upd H p (ViewV p d))):=by
 intro pins s σ H x xs v us Q I rx rs h
 obtain ⟨d,kvs,rfl,rfl,hq,q⟩:=h
 cases rx
 cases rs
 obtain ⟨hz,hs,vs,r,hd⟩:=I.hok d _ hq
 refine call_meetsIn PySem.F.slot_dict_values hd.typeIs PySem.F.entry_dict_values (PySem.F.args_dict_values_1 _) (meets_dict_values (mixKind X.prog X.w) d hs) ⟨⟨vs,hd⟩,?_⟩
 refine ⟨.ref s.heap.objs.size,_,I.laid (t':=s.toks) (o:=ViewV s.heap.objs.size d) (fun b ob q=>Heap.get?_push_of_some _ q) (Nat.le_refl _) ?_,rfl,q _ I.fresh⟩
 refine ⟨⟨_,Heap.get?_push_size _ rfl,rfl,rfl⟩,⟨_,Heap.get?_push_size _ rfl⟩,fun h1 h2 p k=>?_⟩
 obtain ⟨o,e,c,d⟩:=p
 exact ⟨o,k o e,c,d⟩
end
theorem turn_vK {P:Program} {w:World} {K:PySem.W.Frag} {tg:Expr} (a it:Addr) (o:Obj) (kvs:List (Key × V)) (es:Array DictEntry) (ep:Nat) (hd:o.data = .dict es ep) : Turn P w K tg (Itv a o kvs) [it] it (fun i h=>h.IsValIter it a i kvs.length ep) where
 mem:=by simp
 obj:=fun i h st b hb=>by
  have e:b = it:=by simpa using hb
  subst e
  obtain ⟨o,e,c,d⟩:=st
  exact ⟨o,e,fun v z=>by rw [d] at z; cases z⟩
 keep:=fun i h h' st k=>st.at fun o e=>k it (by simp) o e
 item:=by
  intro X hP hw hK hc i pins s σ H E I hf st hg
  subst hP hw hK
  obtain ⟨hi,hq⟩:=hg
  obtain ⟨ho,hz,hs,vs,r,o',es',ep',ho',hx',hd',r1,r2,r3⟩:=I.hok a _ hq
  have eo:o' = o:=Option.some.inj (ho'.symm.trans ho)
  subst eo
  have ee:ep' = ep:=by
   rw [hd] at hd'
   cases hd'
   rfl
  subst ee
  have hlen:kvs.length = vs.length:=Paired.length r
  have hm:s.heap.DictAt (mixKind X.prog X.w) a vs ep':=⟨o',es',ho,hx',hd',r1,r2,r3⟩
  obtain ⟨kv,ekv⟩ : ∃ kv,kvs[i]? = some kv:=⟨kvs[i],by simp [hi]⟩
  obtain ⟨v,ev,rv⟩:=kv_get r ekv
  obtain ⟨f0,f1,f2,f3,f4,f5⟩:=hf it (by simp)
  rw [hlen] at st
  refine wpAny_pyNext_values_item st hm ev fun h' st' sb=>?_
  have I1:Inv X pins σ H { s with heap:=h' }:=I.turned (t':=s.toks) (fun b o hb e=>(sb.2 b hb).trans e) f0 f1 f3 f4 f5
  rw [← hlen] at st'
  obtain ⟨oi,ei,ci,di⟩:=id st'
  exact ⟨v,rfl,go_of (s:={ s with heap:=h' }) ei ci di (by decide) ⟨kv.2,H,I1,rv,⟨rfl,kv,ekv,rfl⟩,st',fun b hb=>(hf b hb).1⟩⟩
 done:=by
  intro X hP hw hK hc i pins s σ H E I hf st hg
  subst hP hw hK
  obtain ⟨hi,hq⟩:=hg
  obtain ⟨ho,hz,hs,vs,r,o',es',ep',ho',hx',hd',r1,r2,r3⟩:=I.hok a _ hq
  have eo:o' = o:=Option.some.inj (ho'.symm.trans ho)
  subst eo
  have ee:ep' = ep:=by
   rw [hd] at hd'
   cases hd'
   rfl
  subst ee
  have hlen:kvs.length = vs.length:=Paired.length r
  have hm:s.heap.DictAt (mixKind X.prog X.w) a vs ep':=⟨o',es',ho,hx',hd',r1,r2,r3⟩
  obtain ⟨f0,f1,f2,f3,f4,f5⟩:=hf it (by simp)
  rw [hlen] at st
  exact wpAny_pyNext_values_end (I.ok.hd hc) st hm (List.getElem?_eq_none_iff.mpr (by omega)) fun h' eb=>⟨rfl,I.turned (t':=s.toks) (fun b o hb e=>eb b o hb e) f0 f1 f3 f4 f5⟩
 self:=fun _ _ _ _ _ st h=>wpAny_pyIter_valiter st h
def iVk (tl:TE) : TI:=fun σ H R=>tl σ H fun x H1=>∃ v a kvs,x = .ref v ∧ H1 v = some (ViewV v a) ∧ H1 a = some (.dK kvs) ∧ ∀ o,R (Itv a o kvs) (upd H1 a (.frz o (.dK kvs)))
theorem pi_vK {X:Cx} {tg l:Expr} {tl:TE} (hl:PE X l tl) : PI X tg l (iVk tl):=by
 intro pins s σ H R I h
 refine thn (hl pins s σ H _ I h) fun v s1 ⟨x,H1,I1,r1,q1⟩=>?_
 obtain ⟨v,a,kvs,e,hv,hq,q⟩:=q1
 subst e
 cases r1
 obtain ⟨hz,hs,vs,r,o,es,ep,ho,hx,hd,r1,r2,r3⟩:=I1.hok a _ hq
 have hlen:kvs.length = vs.length:=Paired.length r
 have hm:s1.heap.DictAt (mixKind X.prog X.w) a vs ep:=⟨o,es,ho,hx,hd,r1,r2,r3⟩
 obtain ⟨hvv,_,_⟩:=(show ObjOk X.prog X.w H1 s1.heap v (ViewV v a) from I1.hok v _ hv)
 refine wpAny_pyIter_values hvv hm ?_
 have I2:=I1.freeze (show Mut (some (HO.dK kvs)) from True.intro) hq ho
 have hn:upd H1 a (.frz o (.dK kvs)) s1.heap.objs.size = none:=I2.hok.fresh (Nat.le_refl _)
 refine ⟨s1.heap.objs.size,[s1.heap.objs.size],_,_,_,rfl,I2.kept (t':=s1.toks) fun b o e=>Heap.get?_push_of_some _ e,turn_vK a _ o kvs es ep hd,?_,fun b hb=>?_,q o⟩
 ·rw [hlen]
  exact ⟨_,Heap.get?_push_size _ rfl,rfl,rfl⟩
 ·have e:b = s1.heap.objs.size:=by simpa using hb
  subst e
  exact I2.fpOk (Nat.le_refl _) hn
end L2
namespace L2
open PySem PySem.Spec PyProof.Rows PySem.W
section
variable {prog:Program} {w:World} {A:Around} {E:Value → Shared → Prop} {s:Shared}
end
section
variable {X:Cx} {pins:List (Addr × Obj)} {σ : St} {H:Hp} {s:Shared}
end
end L2
namespace L2
open PySem PySem.Spec PyProof.Rows
def TupI (K:PySem.W.Frag) (H:Hp) (x:V) (ns:List Int) : Prop:=∃ a,x = .ref a ∧ SqT K H a (ns.map V.int)
noncomputable def isT (K:PySem.W.Frag) (H:Hp) (n:List Int) (u:Value) : Bool:=@decide (∃ a,u = .ref a ∧ SqT K H a (n.map V.int)) (Classical.propDecidable _)
theorem map_int_inj {ns ms:List Int} (h:ns.map V.int = ms.map V.int) : ns = ms:=by
 induction ns generalizing ms with
 | nil=>cases ms with
  | nil=>rfl
  | cons _ _=>cases h
 | cons n ns ih=>cases ms with
  | nil=>cases h
  | cons m ms=>
   rw [List.map_cons,List.map_cons] at h
   injection h with h1 h2
   injection h1 with h1
   rw [h1,ih h2]
section
variable {X:Cx} {pins:List (Addr × Obj)} {σ : St} {H:Hp} {s:Shared}
theorem isT_is (I:Inv X pins σ H s) {x:V} {u:Value} {ns n:List Int} (h:TupI X.K H x ns) (r:RelV x u) : isT X.K H n u = decide (ns = n):=by
 obtain ⟨a,rfl,ha⟩:=h
 cases r
 unfold isT
 by_cases e:ns = n
 ·subst e
  rw [decide_eq_true rfl]
  exact @decide_eq_true _ (Classical.propDecidable _) ⟨a,rfl,ha⟩
 ·rw [decide_eq_false e]
  refine @decide_eq_false _ (Classical.propDecidable _) fun ⟨b,z,hb⟩=>?_
  cases z
  exact e (map_int_inj (I.tuple_inj ha hb))
theorem tups_eqAt (I:Inv X pins σ H s) {A:Around} (hu:A.units + 60 < cLine) {x:V} {v:Value} {n:List Int} (hx:TupI X.K H x n) (rx:RelV x v) : ∀ {xs:List V} {us:List Value} {nss:List (List Int)},Vals xs us → Paired (TupI X.K H) xs nss → ∀ u ∈ us,SeqAt.EqAt A s u v (isT X.K H n u)
 | _,_,_,.nil,_=>fun u hu=>by cases hu
 | y :: xs,w :: us,m :: nss,.cons r t,.cons h hs=>fun u hm=>by
  rcases List.mem_cons.mp hm with rfl | hm
  ·rw [isT_is I h r]
   obtain ⟨a,rfl,ha⟩:=h
   obtain ⟨b,rfl,hb⟩:=hx
   have q:=eqAt_D I 60 (.tup (m.map Dt.int)) (.tup (n.map Dt.int)) (.ref a) (.ref b) u v A (dep_tupI _) hu (hasD_tupI ha) (hasD_tupI hb) r rx
   rw [eqD_tupI] at q
   exact q
  ·exact tups_eqAt I hu hx rx t hs u hm
theorem tups_any (I:Inv X pins σ H s) {n:List Int} : ∀ {xs:List V} {us:List Value} {nss:List (List Int)},Vals xs us → Paired (TupI X.K H) xs nss → us.any (isT X.K H n) = decide (n ∈ nss)
 | _,_,_,.nil,.nil=>by simp
 | y :: xs,w :: us,m :: nss,.cons r t,.cons h hs=>by
  rw [List.any_cons,isT_is I h r,tups_any I t hs]
  by_cases e:m = n
  ·subst e; simp
  ·have e' : ¬ n = m:=fun z=>e z.symm
   simp [e,e']
def rInT (K:PySem.W.Frag) (neg:Bool) : R2:=fun x y H Q=>∃ p xs n nss,y = .ref p ∧ SqL K H p xs ∧ TupI K H x n ∧ Paired (TupI K H) xs nss ∧ Q (.bl (if neg then !decide (n ∈ nss) else decide (n ∈ nss))) H
end
section
variable {X:Cx}
theorem op_inT (hu:X.A.units + 64 < cLine) : OpR X (compareOp .In) (rInT X.K false):=by
 intro pins s σ H x y v u Q I rx ry h
 obtain ⟨p,xs,n,nss,rfl,hq,hx,hs,q⟩:=h
 cases ry
 obtain ⟨its,r,pl,hz⟩:=I.list hq
 refine SeqAt.in_listAt (isT X.K H n) pl.isList (fun w hw=>tups_eqAt I ?_ hx rx r hs w (by simpa using hw)) ⟨.bl _,H,I,rfl,?_⟩
 ·first | (have e:X.A.in1.units = X.A.units + 1:=rfl; omega) | (have e:X.A.in1.units = X.A.units:=rfl; omega) | (have e:=Around.units_in1 X.A; omega)
 ·rw [show its.toArray.any (isT X.K H n) = its.any (isT X.K H n) by simp,tups_any I r hs]
  exact q
theorem op_notInT (hu:X.A.units + 64 < cLine) : OpR X (compareOp .NotIn) (rInT X.K true):=by
 intro pins s σ H x y v u Q I rx ry h
 obtain ⟨p,xs,n,nss,rfl,hq,hx,hs,q⟩:=h
 cases ry
 obtain ⟨its,r,pl,hz⟩:=I.list hq
 refine SeqAt.notIn_listAt (isT X.K H n) pl.isList (fun w hw=>tups_eqAt I ?_ hx rx r hs w (by simpa using hw)) ⟨.bl _,H,I,rfl,?_⟩
 ·first | (have e:X.A.in1.units = X.A.units + 1:=rfl; omega) | (have e:X.A.in1.units = X.A.units:=rfl; omega) | (have e:=Around.units_in1 X.A; omega)
 ·rw [show its.toArray.any (isT X.K H n) = its.any (isT X.K H n) by simp,tups_any I r hs]
  exact q
end
end L2
namespace L2
open PySem PySem.Spec PyProof.Rows
section
variable {X:Cx} {pins:List (Addr × Obj)} {σ : St} {H H':Hp} {s s':Shared} {ea:Addr} {cls:Value}
end
section
variable {X:Cx} {scope:Scope} {N':List Str} {ix:List (Option Nat)} {C:Addr} {fp:List Addr} {s₂:Shared} {H₂:Hp} {pins:List (Addr × Obj)} {σ : St}
theorem blk_leave0 (I:Inv X pins σ H₂ s₂) (hf : ∀ b ∈ fp,FpOk X pins H₂ b) {ps:List (Addr × Obj)} {σ':St} {H':Hp} {s':Shared} (I':Inv (blk X scope N' C fp s₂ H₂) ps σ' H' s') : Inv X pins σ H' s':=
 I.call' (ch:=fp) I'.os I'.base I'.hok I'.bare fun b hb=>by
  obtain ⟨_,f1,_,f3,f4,f5⟩:=hf b hb
  exact ⟨f3,f1,f4,f5⟩
end
section
variable {prog:Program} {w:World} {A:Around} {R:Result → Shared → Prop} {s:Shared}
end
section
variable {X:Cx} {scope:Scope} {N':List Str} {ix:List (Option Nat)}
variable {tg iter elt:Expr} {ifs:List Expr} {pos:Pos} {wi:TI} {g:TG} {ti:TT} {te:TE} {W:Value → Hp → Prop}
end
end L2
namespace L2
open PySem PySem.Spec PyProof.Rows
section
variable {X:Cx} {pins:List (Addr × Obj)} {σ : St} {H:Hp} {s:Shared} {a:Addr} {y v:V} {u r:Value} {A:Around} {E:Value → Shared → Prop}
theorem d_dictSet {H':Hp} {Q:Unit → Shared → Prop} (hu:A.units < cLine) (I:Inv X pins σ H s) (g:DPut H a y v H') (ry:RelV y u) (rv:RelV v r) (h : ∀ s',Inv X pins σ H' s' → Q () s') : wpAny (model X.prog X.w) A (dictSet a u r) Q E s:=by
 rcases g with ⟨kvs,k,e,ey,l,eH⟩ | ⟨kvs,k,b,e,ey,eb,l,eH⟩
 ·subst ey eH
  obtain ⟨z,hd,vs,rel,dd⟩:=dk_of I.hok e
  have hz:vs.length ≤ sizeLine:=by rw [← rel.length]; exact z
  have hl:(putK kvs k v).length ≤ sizeLine:=by have:=length_putK kvs k v; omega
  refine wpAny_dictSet_pairs (hsz:=hz) (kV_is ry) dd fun h' dd' hs=>h _ ?_
  have he : ∃ q,h'.get? a = some q:=let ⟨q,_,_,hq,_⟩:=dd'; ⟨q,hq⟩
  exact d_write I (by rw [e]; exact True.intro) hs he (dk_new hl hd (rel.put k rv) dd')
 ·subst ey eH
  cases (show u = Value.ref b from ry)
  obtain ⟨z,hd,xs,rel,dd⟩:=dt_of I.hok e
  have hz:xs.length ≤ sizeLine:=by rw [← Paired.length rel]; exact z
  have hl:(putK kvs k v).length ≤ sizeLine:=by have:=length_putK kvs k v; omega
  refine wpAny_dictSet_heap (hsz:=hz) (knd:=tupleKind (mixKind X.prog X.w)) hu (key_of I.hok eb) dd fun h' dd' hs=>h _ ?_
  obtain ⟨q,es,ep,hq,h2,h3,h4,_,h5⟩:=dd'
  refine d_write I (by rw [e]; exact True.intro) hs ⟨q,hq⟩ ⟨hl,hd,_,(rel.put k eb rv).keeps fun c ys ec=>?_,q,es,ep,hq,h2,h3,h4,h5⟩
  rw [upd_ne (ne_of ec e (fun z=>nomatch z))]
  exact ec
end
section
variable {prog:Program} {w:World} {A:Around} {R:Result → Shared → Prop} {s:Shared}
theorem dcLoop_own {kx vx target iter:Expr} {ifs:List Expr} {scope:Scope} {pos:Pos} {it:Value} {D:Addr} {env:Env} (I:Nat → Shared → Prop)
  (turn : ∀ n s,I n s → wpAny (model prog w) A (pyNext it) (fun r s₁=>match r with
   | none=>R (.ok .next) s₁
   | some v=>wpAny (model prog w) A (letOwnedTupleGo target it v) (fun _ s₁=>wpAny (model prog w) A (assign target env v) (fun _ s₂=>wpAny (model prog w) A (forIn ifs true fun c r=>if r = true then do let ok ← isTrue c env (eval c env); pure (ForInStep.yield ok) else pure (ForInStep.yield r)) (fun ok s₃=>
      if ok = true then wpAny (model prog w) A (eval kx env) (fun kv s₄=>wpAny (model prog w) A (eval vx env) (fun vv s₅=>wpAny (model prog w) A (dictSet D kv vv) (fun _ s₆=>∃ m,m < n ∧ I m s₆) NoE s₅) NoE s₄) NoE s₃
      else ∃ m,m < n ∧ I m s₃) NoE s₂) NoE s₁) NoE s₁) NoE s)
  (n:Nat) (h:I n s) : codeAny (model prog w) A (.compLoop (.DictComp kx vx [⟨target,iter,ifs,0⟩] scope pos) 0 it (.ref D) env) R s:=by
 refine codeAny_loop rfl I (fun n s hI=>?_) n h
 have no : ∀ {α : Type} {t:Sem α} {Q : α → Shared → Prop} {E:Value → Shared → Prop} {s:Shared},wpAny (model prog w) A t Q NoE s → wpAny (model prog w) A t Q E s:=fun h=>wpAny_mono h (fun _ _ q=>q) fun _ _ z=>z.elim
 show wpAny _ A ((compTurn (.DictComp kx vx [⟨target,iter,ifs,0⟩] scope pos) 0 it (.ref D) env).onRaise (fun x=>do noteFrame x env; theTreesLotGoes x)) _ _ s
 rw [compTurn_dict]
 refine wpAny_noted (wpAny_bind (wpAny_standAt (wpAny_bind (no (thn (turn n s hI) fun r s₁ h₁=>?_)))))
 cases r with
 | none=>exact wpAny_pure h₁
 | some v=>
  refine wpAny_bind (no (thn h₁ fun _ s₁ h₁=>wpAny_bind (no (thn h₁ fun _ s₂ h₂=>wpAny_bind (no (thn h₂ fun ok s₃ h₃=>?_))))))
  cases ok with
  | false=>exact wpAny_pure ⟨rfl,h₃⟩
  | true=>
   refine wpAny_bind (wpAny_bind (no (thn h₃ fun kv s₄ h₄=>wpAny_bind (wpAny_holding (no (thn h₄ fun vv s₅ h₅=>?_))))))
   exact wpAny_bind (wpAny_standAt (wpAny_holding (no (thn h₅ fun _ s₆ h₆=>wpAny_pure ⟨rfl,h₆⟩))))
end
section
variable {X:Cx} {scope:Scope} {N':List Str} {ix:List (Option Nat)} {C:Addr} {fp:List Addr} {s₂:Shared} {H₂:Hp} {pins:List (Addr × Obj)} {σ : St}
theorem blk_start0 (I:Inv X pins σ H₂ s₂) (co:CompOk X.N X.env.scope scope N' ix) {h₁:Heap} {t':Nat} (hC : @Eq Nat C s₂.heap.objs.size) (hf : ∀ b ∈ fp,FpOk X pins H₂ b) (hlt : ∀ b ∈ fp,b < s₂.heap.objs.size)
  (old : ∀ b o,s₂.heap.get? b = some o → h₁.get? b = some o) {m:Str → Option Value} (hns:h₁.Ns C m) :
  Inv (blk X scope N' C fp s₂ H₂) [] (blkSt ix σ) H₂ { s₂ with heap:=h₁,toks:=t' } where
 ok:=blk_ok I co (by omega) hf hlt
 os:=rfl
 bare:=I.bare
 base:=Un.kept old
 loc := by
  refine ⟨m,hns,fun i x v e1 e2 e3=>?_⟩
  unfold blkSt at e2
  rw [List.getElem?_map] at e2
  cases q:ix[i]? with
  | none=>rw [q] at e2; cases e2
  | some o=>
   rw [q] at e2
   cases o with
   | none=>cases e2
   | some k=>
    have e2':(σ[k]?).join = some v:=Option.some.inj e2
    have e2'' : σ[k]? = some (some v):=by
     cases z : σ[k]? with
     | none=>rw [z] at e2'; cases e2'
     | some o=>rw [z] at e2'; exact congrArg some e2'
    obtain ⟨o1,o2,o3⟩:=co.out i x k e1 q
    have hk:X.env.kindOf x = some .cell ∨ X.env.kindOf x = some .free:=co.frees _ o2 rfl
    obtain ⟨m0,_,hl⟩:=I.loc
    obtain ⟨u,r,l⟩:=hl k x v o1 e2'' (.inr hk)
    refine ⟨u,r,?_⟩
    rcases l with ⟨l,_⟩ | ⟨_,c,ec,hcell⟩
    ·rcases hk with z | z
     ·rw [z] at l; cases l
     ·rw [z] at l; cases l
    ·refine .inr ⟨?_,c,clOf_has o2 ec,?_⟩
     ·rcases e3 with z | z | z
      ·obtain ⟨k',hm,q⟩:=lookup_relabel z
       rcases q with q | ⟨_,q⟩
       ·have:=o3 _ hm rfl
        rw [show k' = NameKind.local from q] at this
        cases this
       ·cases q
      ·exact .inl z
      ·exact .inr z
     ·obtain ⟨o,ho,hd⟩:=hcell
      exact ⟨o,old _ _ ho,hd⟩
 cell:=fun x c e=>by
  obtain ⟨v,o,ho,hd⟩:=I.cell x c (clOf_env e)
  exact ⟨v,o,old _ _ ho,hd⟩
 free:=I.hok.fresh (by show @LE.le Nat _ s₂.heap.objs.size C; omega)
 freeC:=fun x c e=>I.freeC x c (clOf_env e)
 pin:=fun p hp=>by
  have hp':p ∈ ([] : List (Addr × Obj)):=by simpa [blk] using hp
  cases hp'
 hok:=I.hok.kept old
 len:=by unfold blkSt; rw [List.length_map]; exact co.len
end
def DcW (J:It) (g:TG) (ti:TT) (tk tv:TE) (D:Addr) (QF:Hp → Prop) (W:Nat → Nat → St → Hp → Prop) : Prop:=∀ i m σ H,W i m σ H → (J.stop i H ∧ QF H) ∨
 (J.go i H ∧ ∃ N:St → Hp → Prop,(∀ σ' H',N σ' H' → ∃ m',m' < m ∧ W (i + 1) m' σ' H') ∧
  ∀ x H',J.yld i H x H' → g x σ H' fun σ2 H2=>ti σ2 H2 fun b H3=>if b = true then tk σ2 H3 fun y H4=>tv σ2 H4 fun z H5=>∃ H6,DPut H5 D y z H6 ∧ N σ2 H6 else N σ2 H3)
def tDc (new:HO) (ix:List (Option Nat)) (wi:TI) (g:TG) (ti:TT) (tk tv:TE) : TE:=fun σ H Q=>wi σ H fun J H1=>∀ D,H1 D = none → ∃ W:Nat → Nat → St → Hp → Prop,(∃ m,W 0 m (blkSt ix σ) (upd H1 D new)) ∧ DcW J g ti tk tv D (fun H=>Q (.ref D) H) W
section
variable {X:Cx}
theorem dblk_run {scope:Scope} {N':List Str} {ix:List (Option Nat)} {pins:List (Addr × Obj)} {σ : St} {tg iter kx vx:Expr} {ifs:List Expr} {pos:Pos} {g:TG} {ti:TT} {tk tv:TE} {E:Value → Shared → Prop} {D:Addr}
  (co:CompOk X.N X.env.scope scope N' ix) (hc:X.calm = true) (hu:X.A.units < cLine)
  (hg : ∀ C fp s₂ H₂,PG (blk X scope N' C fp s₂ H₂) tg g) (hi : ∀ C fp s₂ H₂,PIf (blk X scope N' C fp s₂ H₂) ifs ti) (hk : ∀ C fp s₂ H₂,PE (blk X scope N' C fp s₂ H₂) kx tk) (hv : ∀ C fp s₂ H₂,PE (blk X scope N' C fp s₂ H₂) vx tv)
  {H₂:Hp} {s₂:Shared} {J:It} {fp:List Addr} {it:Addr} {tn:Nat → Heap → Prop} {QF:Hp → Prop} {W:Nat → Nat → St → Hp → Prop}
  (I:Inv X pins σ H₂ s₂) (T:Turn X.prog X.w X.K tg J fp it tn) (st:tn 0 s₂.heap) (hf : ∀ b ∈ fp,FpOk X pins H₂ b) (w0 : ∃ m,W 0 m (blkSt ix σ) H₂) (hW:DcW J g ti tk tv D QF W)
  {RR:Addr → Result → Shared → Prop} (hRR : ∀ C H' s',Inv X pins σ H' s' → QF H' → Gone X pins H' s' C → RR C (.ok .next) s') :
  wpAny (model X.prog X.w) X.A (newFunctionEnv scope X.env.globals (clOf scope X.env) [] X.env.qual none .none (some X.env)) (fun cenv s₄=>
   codeAny (model X.prog X.w) X.A (.compStart (.DictComp kx vx [⟨tg,iter,ifs,0⟩] scope pos) 0 (.ref it) (.ref D) { cenv with scope:=relabel scope X.env }) (RR cenv.locals) s₄) E s₂:=by
 have hlt : ∀ b ∈ fp,@LT.lt Nat _ b s₂.heap.objs.size:=fun b hb=>by
  obtain ⟨o,e,_⟩:=T.obj _ _ st b hb
  exact Heap.lt_size e
 refine wpAny_newFunctionEnv co.nocell (by intro y hy; simp at hy) (fun h₁ hns₁ hsb₁=>?_) co.kind
 have below : ∀ b:Nat,b < s₂.heap.objs.size → ¬ @Eq Nat b s₂.heap.objs.size:=fun b hb=>by omega
 have old : ∀ b o,s₂.heap.get? b = some o → h₁.get? b = some o:=fun b o e=>hsb₁.extBut b o (below b (Heap.lt_size e)) (Heap.get?_push_of_some _ e)
 have st₁:tn 0 h₁:=T.keep _ _ _ st fun b _ o e=>old b o e
 generalize hCe:s₂.heap.objs.size = C at hns₁ hsb₁ below ⊢
 have loop : ∀ s₃:Shared,s₃ = { s₂ with heap:=h₁,toks:=s₂.toks + ([] : List (Str × Value)).length } →
   codeAny (model X.prog X.w) X.A (.compLoop (.DictComp kx vx [⟨tg,iter,ifs,0⟩] scope pos) 0 (.ref it) (.ref D) (compEnvC scope (clOf scope X.env) C X.env)) (RR C) s₃:=by
  rintro s₃ rfl
  obtain ⟨m0,w0⟩:=w0
  have I3:Inv (blk X scope N' C fp s₂ H₂) [] (blkSt ix σ) H₂ { s₂ with heap:=h₁,toks:=s₂.toks + ([] : List (Str × Value)).length }:=blk_start0 I co hCe.symm hf hlt old hns₁
  refine dcLoop_own (fun k s'=>∃ i σ' H',Inv (blk X scope N' C fp s₂ H₂) [] σ' H' s' ∧ tn i s'.heap ∧ (∀ b ∈ fp,H' b = none) ∧ W i k σ' H') ?_ m0 ⟨0,_,_,I3,st₁,fun b hb=>(hf b hb).1,w0⟩
  rintro k s' ⟨i,σ',H',I',st',fr',w'⟩
  have fpok : ∀ {H':Hp},(∀ b ∈ fp,H' b = none) → ∀ b ∈ fp,FpOk (blk X scope N' C fp s₂ H₂) [] H' b:=fun {H'} hn b hb=>by
   refine ⟨hn b hb,below b (hCe ▸ hlt b hb),fun z=>?_,.inl hb,fun x c e=>(hf b hb).2.2.2.2.1 x c (clOf_env e),fun p hp=>?_⟩
   ·rcases List.mem_cons.mp (I.stkSub b z) with e | e
    ·exact (hf b hb).2.1 e
    ·exact (hf b hb).2.2.1 e
   ·have hp':p ∈ ([] : List (Addr × Obj)):=by simpa [blk] using hp
    cases hp'
  rcases hW i k σ' H' w' with ⟨stop,q⟩ | ⟨go,N,hN,step⟩
  ·refine thn (T.done (blk X scope N' C fp s₂ H₂) rfl rfl rfl hc i _ s' σ' H' NoE I' (fpok fr') st' stop) fun r s4 ⟨hr,I4⟩=>?_
   subst hr
   have cf:H' C = none:=I4.free
   refine hRR C H' s4 (blk_leave0 I hf I4) q ⟨?_,cf,?_,?_,fun x c e=>?_,fun p hp=>?_⟩
   ·obtain ⟨m,hn,_⟩:=I4.loc
    exact ⟨m,hn⟩
   ·have z : @LT.lt Nat _ X.env.locals s₂.heap.objs.size:=I.lt
    show ¬ @Eq Nat C X.env.locals
    omega
   ·have z : @LE.le Nat _ X.s₀.heap.objs.size s₂.heap.objs.size:=I.sz
    show @LE.le Nat _ X.s₀.heap.objs.size C
    omega
   ·obtain ⟨v,z⟩:=I.cell x c e
    have z2 : @LT.lt Nat _ c s₂.heap.objs.size:=z.lt
    show ¬ @Eq Nat c C
    omega
   ·have z2 : @LT.lt Nat _ p.1 s₂.heap.objs.size:=Heap.lt_size (I.pin p hp).1
    show ¬ @Eq Nat p.1 C
    omega
  ·refine thn (T.item (blk X scope N' C fp s₂ H₂) rfl rfl rfl hc i _ s' σ' H' NoE I' (fpok fr') st' go) fun r s4 ⟨u,hr,h4⟩=>?_
   subst hr
   refine thn h4 fun _ s5 ⟨x,H5,I5,r5,y5,st5,fr5⟩=>?_
   have I5':=I5.pinned (fpok fr5) (T.obj _ _ st5)
   refine thn (hg C fp s₂ H₂ _ s5 σ' H5 x u _ I5' r5 (step x H5 y5)) fun _ s6 ⟨σ6,H6,I6,q6⟩=>?_
   refine thn (hi C fp s₂ H₂ _ s6 σ6 H6 _ I6 q6) fun ok s7 ⟨H7,I7,q7⟩=>?_
   have back : ∀ {σ8:St} {H8:Hp} {s8:Shared},Inv (blk X scope N' C fp s₂ H₂) ([] ++ pinsAt fp s5.heap) σ8 H8 s8 → N σ8 H8 → ∃ m',m' < k ∧ ∃ i σ' H',Inv (blk X scope N' C fp s₂ H₂) [] σ' H' s8 ∧ tn i s8.heap ∧ (∀ b ∈ fp,H' b = none) ∧ W i m' σ' H':=fun {σ8 H8 s8} I8 n8=>by
    obtain ⟨m',hm,w8⟩:=hN _ _ n8
    have fpin : ∀ b ∈ fp,∀ o,s5.heap.get? b = some o → s8.heap.get? b = some o ∧ H8 b = none:=fun b hb o e=>by
     have z:=I8.pin (b,o) (List.mem_append_right _ (List.mem_append_right _ (mem_pinsAt hb e)))
     exact ⟨z.1,z.2.1⟩
    refine ⟨m',hm,i + 1,σ8,H8,I8.unpinned,T.keep _ _ _ st5 fun b hb o e=>(fpin b hb o e).1,fun b hb=>?_,w8⟩
    obtain ⟨o,e,_⟩:=T.obj _ _ st5 b hb
    exact (fpin b hb o e).2
   cases ok with
   | false=>
    have q7':=q7
    rw [if_neg Bool.false_ne_true] at q7'
    exact back I7 q7'
   | true=>
    have q7':=q7
    rw [if_pos rfl] at q7'
    show wpAny _ _ _ _ _ _
    refine thn (hk C fp s₂ H₂ _ s7 σ6 H7 _ I7 q7') fun kv s8 ⟨y,H8,I8,r8,q8⟩=>?_
    refine thn (hv C fp s₂ H₂ _ s8 σ6 H8 _ I8 q8) fun vv s9 ⟨z,H9,I9,r9,H10,dp,q9⟩=>?_
    exact d_dictSet (X:=blk X scope N' C fp s₂ H₂) (A:=X.A) hu I9 dp r8 r9 fun s10 I10=>back I10 q9
 exact codeAny_compStart_dict (loop _ rfl) (T.self _ 0 _ _ _ st₁ (loop _ rfl))
variable {scope:Scope} {N':List Str} {ix:List (Option Nat)} {tg iter kx vx:Expr} {ifs:List Expr} {pos:Pos} {wi:TI} {g:TG} {ti:TT} {tk tv:TE}
theorem pe_dcomp (new:HO) (hnew:new = .dK [] ∨ new = .dT []) (hu:X.A.units + 1 < cLine) (co:CompOk X.N X.env.scope scope N' ix) (hc:X.calm = true) (hit:PI X tg iter wi) (hg : ∀ C fp s₂ H₂,PG (blk X scope N' C fp s₂ H₂) tg g) (hi : ∀ C fp s₂ H₂,PIf (blk X scope N' C fp s₂ H₂) ifs ti)
  (hk : ∀ C fp s₂ H₂,PE (blk X scope N' C fp s₂ H₂) kx tk) (hv : ∀ C fp s₂ H₂,PE (blk X scope N' C fp s₂ H₂) vx tv) (hs:autoParam (∀ x,foldedSetIterable iter X.env x = pure x) aP3) :
  PE X (.DictComp kx vx [⟨tg,iter,ifs,0⟩] scope pos) (tDc new ix wi g ti tk tv):=by
 intro pins s σ H Q I h
 show wpAny _ _ (comprehension (.DictComp kx vx [⟨tg,iter,ifs,0⟩] scope pos) scope X.env _ newDict false (eval iter X.env)) _ _ s
 refine wpAny_comprehension_free (use:=none) rfl hs (comp_clos co I) co.kind co.names (thn (hit pins s σ H _ I h) fun xv s₁ h₁=>thn h₁ fun itv s₂ h₂=>?_)
 obtain ⟨it,fp,tn,J,H₂,e,I₂,T,st,hf,hq⟩:=h₂
 subst e
 refine wpAny_newObj_type ?_
 have hn:H₂ s₂.heap.objs.size = none:=I₂.hok.fresh (Nat.le_refl _)
 have hob:ObjOk X.prog X.w (upd H₂ s₂.heap.objs.size new) (s₂.heap.push { cls:=.type "dict",dict:=none,data:=.dict #[] }) s₂.heap.objs.size new:=by
  rcases hnew with z | z
  ·rw [z]; exact dk_empty s₂.heap I₂.big
  ·rw [z]; exact dt_empty s₂.heap I₂.big
 have I₃:Inv X pins σ (upd H₂ s₂.heap.objs.size new) { s₂ with heap:=s₂.heap.push { cls:=.type "dict",dict:=none,data:=.dict #[] } }:=I₂.laid (a:=s₂.heap.objs.size) (o:=new) (t':=s₂.toks) (fun _ _ q=>Heap.get?_push_of_some _ q) (Nat.le_refl _) hob
 obtain ⟨W,w0,hW⟩:=hq s₂.heap.objs.size hn
 have hf' : ∀ b ∈ fp,FpOk X pins (upd H₂ s₂.heap.objs.size new) b:=fun b hb=>by
  obtain ⟨f0,f⟩:=hf b hb
  obtain ⟨o,e,_⟩:=T.obj _ _ st b hb
  exact ⟨by rw [upd_ne (Nat.ne_of_lt (Heap.lt_size e))]; exact f0,f⟩
 refine dblk_run co hc (Nat.lt_of_succ_lt hu) hg hi hk hv I₃ T (T.keep _ _ _ st fun b _ o e=>Heap.get?_push_of_some _ e) hf' w0 hW
  (RR:=fun C=>compPost (model X.prog X.w) X.A X.xe none (EP X pins σ Q) (.ref s₂.heap.objs.size) C) fun C H' s' I' q G=>?_
 obtain ⟨m,hn⟩:=G.ns
 exact ⟨m,hn,fun h' hs'=>⟨.ref s₂.heap.objs.size,_,G.go I' hs',rfl,q⟩⟩
end
end L2
namespace L2
open PySem PySem.Spec PyProof.Rows
section
variable {X:Cx} {pins:List (Addr × Obj)} {σ : St} {H:Hp} {s:Shared} {h':Heap}
theorem Inv.turnedNew {t':Nat} {ch:List Addr} {p:Addr} {o':HO} (I:Inv X pins σ H s) (hch : ∀ b ∈ ch,FpOk X pins H b) (k : ∀ b o,b ∉ ch → s.heap.get? b = some o → h'.get? b = some o) (hp:s.heap.objs.size ≤ p) (new:ObjOk X.prog X.w (upd H p o') h' p o') :
  Inv X pins σ (upd H p o') { s with heap:=h',toks:=t' }:=by
 have neT : ∀ {b:Addr} {u:HO},H b = some u → b ≠ p:=fun {b u} e=>Nat.ne_of_lt (Nat.lt_of_lt_of_le (I.hok.lt e) hp)
 have neC : ∀ {b:Addr} {u:HO},H b = some u → b ∉ ch:=fun {b u} e z=>by rw [(hch b z).1] at e; cases e
 refine I.step (g':=s.gens) (d':=s.drawn) (ch:=ch) (fun b hb=>?_) (fun b o _ _ hc e _=>k b o hc e) (fun b o _ _ hc e _=>⟨o.slots,k b o hc e⟩) (fun b o _ e n=>?_) (fun b o hc e=>⟨o,k b o hc e⟩)
  (fun b xs e=>by rw [upd_ne (neT e)]; exact e) (fun b o u e=>by rw [upd_ne (neT e)]; exact e) (fun b ps e=>⟨#[],by rw [upd_ne (neT e),e]; simp⟩) (fun m hm=>?_) (fun b u e=>?_) I.bare
 ·obtain ⟨_,f1,_,f3,f4,f5⟩:=hch b hb
  exact ⟨f3,f1,f4,f5⟩
 ·rw [upd_ne (Nat.ne_of_lt (Nat.lt_of_lt_of_le (Heap.lt_size e) hp))]
  exact n
 ·obtain ⟨o,es,ep,ho,r⟩:=hm
  exact ⟨o,es,ep,k _ o (fun z=>(hch _ z).2.1 rfl) ho,r⟩
 ·by_cases hb:b = p
  ·subst hb
   rw [upd_same] at e
   cases e
   exact new
  ·rw [upd_ne hb] at e
   refine (I.hok b u e).stay (fun c v hc q=>k c v ?_ q) (fun c q=>by rw [upd_ne (neT q)]; exact q) fun c xs q=>by rw [upd_ne (neT q)]; exact q
   rcases hc with z | z
   ·rw [z]; exact neC e
   ·exact neC z
end
end L2
namespace L2
open PySem PySem.Spec PyProof.Rows
theorem argBest_le (bt:Nat → Nat → Bool) : ∀ k,argBest bt k ≤ k
 | 0=>Nat.le_refl _
 | k + 1=>by
  have:=argBest_le bt k
  unfold argBest
  split <;> omega
section
variable {prog:Program} {w:World} {A:Around} {s:Shared} {l it S:Addr} {vs:List Value} {bt:Nat → Nat → Bool} {R:Result → Shared → Prop}
theorem den_builtin {id:String} {args:Args} {b:Builtin} (hb:entryFor table id = some b) : (model prog w).den (.builtin id args) = b args:=by
 show (match entryFor table id with | some b=>b args | none=>unsupported ((withoutEnding? id "#data").getD id)) = _
 rw [hb]
end
section
variable {prog:Program} {w:World} {A:Around} {s:Shared} {l:Addr} {vs:List Value} {bt:Nat → Nat → Bool} {E:Value → Shared → Prop}
end
theorem vals_ofInts : ∀ {vs:List Value} {ns:List Int},IntsAre vs ns → Vals (ns.map V.int) vs
 | _,_,.nil=>.nil
 | _,_,.cons n t r=>.cons ⟨t,rfl⟩ (vals_ofInts r)
section
variable {X:Cx}
theorem call_sortedI:CallR X (.builtin "sorted") (fun xs H Q=>∃ (p:Addr) (ns:List Int),xs = [.ref p] ∧ SqL X.K H p (ns.map V.int) ∧ ns.length < 64 ∧ ∀ (q:Addr) (ns':List Int),H q = none → ns'.Perm ns → ns'.Pairwise (· ≤ ·) → Q (.ref q) (upd H q (.lst (ns'.map V.int)))):=by
 intro pins s σ H xs us Q I r h
 obtain ⟨p,ns,rfl,hq,h64,q⟩:=h
 obtain ⟨u,rfl,rx⟩:=vals1 r
 cases rx
 obtain ⟨its,r',pl,hz⟩:=I.list hq
 have hlen:ns.length = its.length:=by have:=r'.length; rw [List.length_map] at this; exact this
 refine sorted_ints pl.isList (intsAre_of r') (by omega) fun out ns' a1 a2 a3=>?_
 obtain ⟨e,he⟩:=sortedAll_at s.heap its out
 have hn:H (s.heap.objs.size + 1) = none:=I.hok.fresh (Nat.le_succ _)
 refine ⟨.ref (s.heap.objs.size + 1),_,I.laid (a:=s.heap.objs.size + 1) (o:=.lst (ns'.map V.int)) (t':=s.toks) (fun b o z=>sortedAll_old z) (Nat.le_succ _) ⟨?_,out.toList,e,vals_ofInts a1,he⟩,rfl,q _ ns' hn a2 a3⟩
 rw [List.length_map,a2.length_eq]
 exact Nat.le_trans (Nat.le_of_lt h64) (by rw [sizeLine_eq]; omega)
end
end L2
namespace L2
open PySem PySem.Spec PyProof.Rows
section
variable {X:Cx} {K:PySem.W.Frag}
theorem pg_tupK {es:List Expr} {k:Nat} {pos:Pos} {t:TGs} (hK:X.K = K) (hc:X.calm = true) (n:Nat) (h:PGs X es t) (hn:(assignEach es X.env).length = n) (hst:(assignEach es X.env).findIdx? (·.1) = none) : PG X (.Tuple es k pos) (gTup K n t):=by
 subst hK
 exact pg_tup hc h hn hst
theorem pe_fldK {e:Expr} {f:Str} {pos:Pos} {ta:TE} (hK:X.K = K) (he:PE X e ta) (hb:attributeBase e f X.env (eval e X.env) = eval e X.env) : PE X (.Attribute e f pos) (tFld K ta f):=by
 subst hK
 exact pe_fld he hb
theorem ix_tupK (hK:X.K = K) : IxR X (rIxT K):=by
 subst hK
 exact ix_tup
end
end L2
namespace PySem
section
variable {prog:Program} {w:World} {K:Type} [DecidableEq K] {knd:HeapKind prog w K} {A:Around} {E:Value → Shared → Prop} {s:Shared}
theorem pushH {h:Heap} {d a:Addr} {xs:List (K × Addr × Value)} {k:K} {v:Value} {o:Obj} {es:Array DictEntry} {ep:Nat} (ho:h.get? d = some o) (hc:o.ExactDict) (hd:o.data = .dict es ep) (he:es.toList = xs.map (entryOfKey knd))
  (his : ∀ x ∈ xs,knd.is h x.1 x.2.1) (hn:(xs.map (·.1)).Nodup) (hkey:knd.is h k a) (hnot:k ∉ xs.map (·.1)) :
  (h.update d (Obj.mapDictKeys (·.push ⟨knd.hash k,.ref a,v⟩))).DictOfH knd d (xs ++ [(k,a,v)]):=by
 refine ⟨_,_,ep + 1,Heap.get?_update_self _ ho (Obj.isFreed_of_dict (Obj.data_mapDictKeys hd _)),hc.mapDictKeys _,Obj.data_mapDictKeys hd _,by simp [he,entryOfKey],fun x hx=>?_,?_⟩
 ·have old:knd.is h x.1 x.2.1:=(List.mem_append.mp hx).elim (his x) fun z=>by
   rw [List.mem_singleton.mp z]
   exact hkey
  exact knd.keeps old ho hd (Heap.SameBut.update ..)
 ·have p:((xs ++ [(k,a,v)]).map (·.1)).Perm (k :: xs.map (·.1)):=by
   rw [List.map_append]
   exact List.perm_append_comm
  exact p.nodup_iff.mpr (List.nodup_cons.mpr ⟨hnot,hn⟩)
theorem setDefH {d a:Addr} {xs:List (K × Addr × Value)} {k:K} {dflt:Value} {Q:Value → Shared → Prop} (hu:knd.room A) (hkey:knd.is s.heap k a) (hm:s.heap.DictOfH knd d xs) (hsz:xs.length ≤ sizeLine)
  (h1 : ∀ p,atKey xs k = some p → Q p.2 { s with toks:=s.toks + knd.draws k })
  (h2:atKey xs k = none → ∀ h',h'.DictOfH knd d (xs ++ [(k,a,dflt)]) → Heap.SameBut d s.heap h' → Q dflt { s with heap:=h',toks:=s.toks + knd.draws k }) :
  wpAny (model prog w) A (dictSetDefault d (.ref a) dflt) Q E s:=by
 obtain ⟨o,es,ep,ho,hc,hd,he,his,hn⟩:=hm
 have sz:es.size = xs.length:=by
  have:=congrArg List.length he
  simpa using this
 unfold dictSetDefault
 refine wpAny_holding (wpAny_bind (knd.pyHash hu hkey (wpAny_bind (wpAny_dictFind_heap (s:={ s with toks:=s.toks + knd.draws k }) hu hkey ho hd he his hn (fun hno=>?_) (fun j p hj=>?_)))))
 ·refine wpAny_bind (wpAny_rule (wpAny_bind (wpAny_updateDictKeys (hz:=by omega) (s:={ s with toks:=s.toks + knd.draws k }) ho hd (wpAny_pure (h2 (atKey_none_of_get hno) _ (pushH ho hc hd he his hn hkey (not_mem_keys_of_get hno)) (Heap.SameBut.update ..))))))
 ·refine wpAny_bind (wpAny_dictEntries (s:={ s with toks:=s.toks + knd.draws k }) ho hd ?_)
  rw [entry_at he j,hj]
  exact wpAny_bind (wpAny_rule (wpAny_pure (h1 _ (atKey_of_get hn hj))))
theorem meetsH_setdefault (knd:HeapKind prog w K) (d a:Addr) (hd:(d == sysModules) = false) (dflt:Value) :
  MeetsIn prog w (Builtin.«dict.setdefault» ⟨[.ref d,.ref a,dflt],[]⟩) (fun A R s=>knd.room A.in1 ∧ ∃ k xs,knd.is s.heap k a ∧ s.heap.DictOfH knd d xs ∧ xs.length ≤ sizeLine ∧
   (∀ p,atKey xs k = some p → R (.ok (.ret p.2)) { s with toks:=s.toks + knd.draws k }) ∧
   (atKey xs k = none → ∀ h',h'.DictOfH knd d (xs ++ [(k,a,dflt)]) → Heap.SameBut d s.heap h' → R (.ok (.ret dflt)) { s with heap:=h',toks:=s.toks + knd.draws k })):=
 .of_wp fun A R s ⟨hu,k,xs,hkey,hm,hz,h1,h2⟩=>by
  have run:=setDefH (prog:=prog) (w:=w) (E:=fun e s'=>R (.error e) s') (Q:=fun v s'=>R (.ok (.ret v)) s') hu hkey hm hz h1 h2
  unfold Builtin.«dict.setdefault» Builtin.Dict.keyAndDefault
  refine wpAny_bind (wpAny_bind (wpAny_notOrdered_dict hm.typeIs ?_))
  show wpAny _ _ (pure (d,Value.ref a,some dflt)) _ _ s
  refine wpAny_pure ?_
  show wpAny _ _ (if (d == sysModules) = true then _ else (dictSetDefault d (.ref a) dflt >>= _)) _ _ s
  rw [if_neg (by rw [hd]; exact Bool.false_ne_true)]
  exact wpAny_bind (wpAny_mono run (fun v s' q=>wpAny_pure ⟨v,rfl,q⟩) fun _ _ z=>z)
end
end PySem
namespace L2
open PySem PySem.Spec PyProof.Rows
def tDSetDef (td ty tx:TE) : TE:=fun σ H Q=>td σ H fun x H1=>∃ a,x = .ref a ∧ IsD H1 a ∧ ty σ H1 fun y H2=>tx σ H2 fun z H3=>∃ kvs k b,H3 a = some (.dT kvs) ∧ y = .ref b ∧ H3 b = some (.tup (k.map kV)) ∧ kvs.length < sizeLine ∧
 (∀ v,valV kvs k = some v → Q v H3) ∧ (valV kvs k = none → Q z (upd H3 a (.dT (putK kvs k z))))
section
variable {X:Cx} {o e f:Expr} {apos cpos:Pos} {td ty tx:TE}
theorem pe_dsetdef (hu:X.A.units + 1 < cLine) (ho:PE X o td) (he:PE X e ty) (hf:PE X f tx) (m:M2 X o "setdefault" apos e f cpos) : PE X (.Call (.Attribute o "setdefault" apos) [e,f] [] cpos) (tDSetDef td ty tx):=by
 intro pins s σ H Q I h
 refine wpAny_Call_method m.base m.few m.line PySem.F.plainAttrs_dict PySem.F.slot_dict_setdefault PySem.F.type_dict_setdefault (thn (ho pins s σ H _ I h) fun u s1 ⟨x,H1,I1,rx,a,ex,d,q1⟩=>?_)
 subst ex
 obtain rfl:u = Value.ref a:=rx
 obtain ⟨t1,t2,_⟩:=isD_at I1 d
 refine ⟨t1,t2,?_⟩
 rw [m.trees]
 refine Calls.callWith_builtin rfl (Calls.evalArgs_plain (Calls.spliced_cons (thn (he pins s1 σ H1 _ I1 q1) fun iv s2 ⟨y,H2,I2,ry,q2⟩=>
  Calls.spliced_cons (thn (hf pins s2 σ H2 _ I2 q2) fun fv s3 ⟨z,H3,I3,rz,kvs,k,b,ea,ey,eb,hl,g1,g2⟩=>Calls.spliced_nil ?_))))
 subst ey
 cases (show iv = Value.ref b from ry)
 obtain ⟨hz,hd,xs,rel,dd⟩:=dt_of I3.hok ea
 have hz':xs.length ≤ sizeLine:=by rw [← Paired.length rel]; exact hz
 refine call_meetsIn PySem.F.slot_dict_setdefault dd.typeIs PySem.F.entry_dict_setdefault (PySem.F.args_dict_setdefault_3 _ _ _) (meetsH_setdefault (tupleKind (mixKind X.prog X.w)) a b hd fv) ⟨tupleKind_room_in1 hu,k,xs,key_of I3.hok eb,dd,hz',fun p hp=>?_,fun hn h' dd' hs=>?_⟩
 ·have rv:=rel.val k
  rw [hp] at rv
  cases hv:valV kvs k with
  | none=>
   rw [hv] at rv
   cases rv
  | some v=>
   rw [hv] at rv
   exact ⟨v,H3,I3.tok _,rv,g1 v hv⟩
 ·have rv:=rel.val k
  rw [hn] at rv
  have hv:valV kvs k = none:=by
   cases hv:valV kvs k with
   | none=>rfl
   | some v=>
    rw [hv] at rv
    cases rv
  have hl2:(putK kvs k z).length ≤ sizeLine:=by have:=length_putK kvs k z; omega
  have rel':=rel.put k eb rz
  rw [storedH_new hn] at rel'
  obtain ⟨q,es,ep,hq,h2,h3,h4,_,h5⟩:=dd'
  refine ⟨z,_,d_write (ob:=.dT (putK kvs k z)) I3 (by rw [ea]; exact True.intro) hs ⟨q,hq⟩ ⟨hl2,hd,_,rel'.keeps fun c ys ec=>?_,q,es,ep,hq,h2,h3,h4,h5⟩,rz,g2 hv⟩
  rw [upd_ne (ne_of ec ea (fun z=>nomatch z))]
  exact ec
end
end L2
namespace PySem
section
variable {prog:Program} {w:World} {A:Around} {E:Value → Shared → Prop} {s:Shared}
theorem next_key {it d:Addr} {i ep:Nat} {es:Array DictEntry} {od:Obj} {Q:Option Value → Shared → Prop} (hit:s.heap.IsKeyIter it d i es.size ep) (hod:s.heap.get? d = some od) (hdd:od.data = .dict es ep) (hlt:i < es.size)
  (hQ : ∀ h',h'.IsKeyIter it d (i + 1) es.size ep → Heap.SameBut it s.heap h' → Q (some es[i].key) { s with heap:=h' }) : wpAny (model prog w) A (pyNext (.ref it)) Q E s:=by
 obtain ⟨o,ho,hc,hd⟩:=id hit
 have hT:=hit.typeIs
 unfold pyNext
 refine wpAny_bind (wpAny_attempt ?_)
 refine wpAny_callSpecial?_slot hT F.slot_dict_keyiterator_next ?_
 refine wpAny_call_entry F.slot_dict_keyiterator_next hT F.entry_dict_keyiterator_next ?_ (F.args_dict_keyiterator_next_1 _)
 unfold Builtin.«dict_keyiterator.__next__»
 wp_walk using wpAny_typeNameOfWhole_keyiter hT,wpAny_fieldsOf ho hd,wpAny_dictEntries hod hdd,wpAny_dictEpoch hod hdd,wpAny_isOneOf_keyiter hT
 rw [if_neg (show ¬ (i:Int) < 0 by omega),Int.toNat_natCast,Array.getElem?_eq_getElem hlt]
 have hown:Builtin.Dict_items.ownsTuple "dict_keyiterator" = false:=by decide
 have hit':(s.heap.update it (Obj.mapFields (·.setIfInBounds 1 (rawInt ((i:Int) + 1))))).IsKeyIter it d (i + 1) es.size ep:=
  ⟨_,Heap.get?_update_self _ ho (Obj.isFreed_of_fields (Obj.data_mapFields hd _)),(Obj.cls_mapFields ..).trans hc,by rw [Obj.data_mapFields hd]; simp [rawInt]⟩
 refine wpAny_bind ?_
 wp_walk using wpAny_typeNameOfWhole_keyiter hT
 rw [hd]
 show wpAny _ _ (update it (Obj.mapFields (·.setIfInBounds 1 (rawInt ((i:Int) + 1))))) _ _ s
 refine wpAny_update ho (wpAny_bind (wpAny_holding ?_))
 wp_walk using wpAny_isOneOf_keyiter (s:={ s with heap:=s.heap.update it (Obj.mapFields (·.setIfInBounds 1 (rawInt ((i:Int) + 1)))) }) hit'.typeIs
 exact ⟨_,rfl,wpAny_pure (hQ _ hit' (Heap.SameBut.update ..))⟩
theorem next_key_end {it d:Addr} {i ep:Nat} {es:Array DictEntry} {od:Obj} {Q:Option Value → Shared → Prop} (hh:A.handled = none) (hit:s.heap.IsKeyIter it d i es.size ep) (hod:s.heap.get? d = some od) (hdd:od.data = .dict es ep) (hge:es.size ≤ i)
    (hQ : ∀ h',Heap.ExtBut it s.heap h' → Q none { s with heap:=h' }) : wpAny (model prog w) A (pyNext (.ref it)) Q E s:=by
  obtain ⟨o,ho,hc,hd⟩:=id hit
  have hT:=hit.typeIs
  unfold pyNext
  refine wpAny_bind (wpAny_attempt ?_)
  refine wpAny_callSpecial?_slot hT F.slot_dict_keyiterator_next ?_
  refine wpAny_call_entry F.slot_dict_keyiterator_next hT F.entry_dict_keyiterator_next ?_ (F.args_dict_keyiterator_next_1 _)
  unfold Builtin.«dict_keyiterator.__next__»
  wp_walk using wpAny_typeNameOfWhole_keyiter hT,wpAny_fieldsOf ho hd,wpAny_dictEntries hod hdd,wpAny_dictEpoch hod hdd,wpAny_isOneOf_keyiter hT
  rw [if_neg (show ¬ (i:Int) < 0 by omega),Int.toNat_natCast,Array.getElem?_eq_none hge]
  wp_walk using wpAny_typeNameOfWhole_keyiter hT
  rw [hd]
  show wpAny _ _ (update it (Obj.mapFields (·.setIfInBounds 0 .none))) _ _ s
  refine wpAny_update ho ?_
  unfold newExc raiseNew newTuple firstArgMember
  wp_walk using wpAny_newObj_type
  all_goals first
    | (show wpAny _ _ (isSubtype (.type "StopIteration") (.type "StopIteration")) _ _ _
       rw [isSubtype_stop]
       exact wpAny_pure (wpAny_pure (hQ _ (((Heap.SameBut.update ..).extBut.push _).push _))))
    | (unfold autoParam; size_fits)
    | size_fits
theorem iter_key {d:Addr} {es:Array DictEntry} {ep:Nat} {od:Obj} {Q:Value → Shared → Prop} (hd:(d == sysModules) = false) (hod:s.heap.get? d = some od) (hx:od.ExactDict) (hdd:od.data = .dict es ep)
  (hQ:Q (.ref s.heap.objs.size) { s with heap:=s.heap.push { cls:=.type "dict_keyiterator",data:=.fields #[.ref d,.int 0 0,.int es.size 0,.int ep 0] } }) : wpAny (model prog w) A (pyIter (.ref d)) Q E s:=by
 have hT:s.TypeIs (.ref d) "dict" := ⟨od,hod,hx.1⟩
 have run:wpAny (model prog w) A.in1 (Builtin.«dict.__iter__» ⟨[.ref d],[]⟩) (fun fin s'=>fin = .done (.ret (.ref s.heap.objs.size)) ∧ s' = { s with heap:=s.heap.push { cls:=.type "dict_keyiterator",data:=.fields #[.ref d,.int 0 0,.int es.size 0,.int ep 0] } }) E s:=by
  unfold Builtin.«dict.__iter__» Builtin.Dict.dictSlotNone Builtin.Dict.showsAll
  wp_walk using wpAny_notOrdered_dict hT,wpAny_dictEntries hod hdd,wpAny_dictEpoch hod hdd
  exact ⟨rfl,rfl⟩
 refine wpAny_pyIter_slot hT F.slot_dict_iter (wpAny_call_entry F.slot_dict_iter hT F.entry_dict_iter (wpAny_mono run (fun f s' z=>?_) fun _ _ z=>z) (F.args_dict_iter_1 _))
 obtain ⟨rfl,rfl⟩:=z
 exact ⟨_,rfl,"dict_keyiterator",_,⟨_,Heap.get?_push_size _ rfl,rfl⟩,F.slot_dict_keyiterator_next.lookup,hQ⟩
theorem iter_item {v d:Addr} {es:Array DictEntry} {ep:Nat} {od:Obj} {Q:Value → Shared → Prop} (hv:s.heap.IsItemsView v d) (hod:s.heap.get? d = some od) (hdd:od.data = .dict es ep)
  (hQ:Q (.ref s.heap.objs.size) { s with heap:=s.heap.push { cls:=.type "dict_itemiterator",data:=.fields #[.none,.bool false,.ref d,.int 0 0,.int es.size 0,.int ep 0,.none,.none] } }) : wpAny (model prog w) A (pyIter (.ref v)) Q E s:=by
 obtain ⟨ov,hov,hcv,hdv⟩:=id hv
 have hT:=hv.typeIs
 have run:wpAny (model prog w) A.in1 (Builtin.«dict_items.__iter__» ⟨[.ref v],[]⟩) (fun fin s'=>fin = .done (.ret (.ref s.heap.objs.size)) ∧ s' = { s with heap:=s.heap.push { cls:=.type "dict_itemiterator",data:=.fields #[.none,.bool false,.ref d,.int 0 0,.int es.size 0,.int ep 0,.none,.none] } }) E s:=by
  unfold Builtin.«dict_items.__iter__» Builtin.Dict_items.dictOf Builtin.Dict_items.newIterator
  wp_walk using wpAny_field hov hdv (x:=.ref d) rfl,wpAny_dictEntries hod hdd,wpAny_dictEpoch hod hdd
  exact ⟨rfl,by simp [rawInt,Builtin.Dict_items.ownedTupleFields,show Builtin.Dict_items.ownsTuple "dict_itemiterator" = true by decide]⟩
 refine wpAny_pyIter_slot hT F.slot_dict_items_iter (wpAny_call_entry F.slot_dict_items_iter hT F.entry_dict_items_iter (wpAny_mono run (fun f s' z=>?_) fun _ _ z=>z) (F.args_dict_items_iter_1 _))
 obtain ⟨rfl,rfl⟩:=z
 exact ⟨_,rfl,"dict_itemiterator",_,⟨_,Heap.get?_push_size _ rfl,rfl⟩,F.slot_dict_itemiterator_next.lookup,hQ⟩
end
end PySem
namespace L2
open PySem PySem.Spec PyProof.Rows
theorem paired_get {α β : Type} {F : α → β → Prop} : ∀ {xs:List α} {ys:List β} {i:Nat} {x : α},Paired F xs ys → xs[i]? = some x → ∃ y,ys[i]? = some y ∧ F x y
 | _,_,_,_,.nil,e=>by simp at e
 | _,_,0,_,.cons h _,e=>by
  cases Option.some.inj e
  exact ⟨_,rfl,h⟩
 | _,_,i + 1,_,.cons _ r,e=>paired_get (i:=i) r e
end L2
namespace PySem
theorem outHeap {h:Heap} {it d:Addr} {i n ep:Nat} {ok ov:Value} (hit:IsItemIter h it d i n ep ok ov) (k v:Value) :
  let h':=(((((h.update it (Obj.mapFields fun x=>x.setIfInBounds 3 (rawInt ((i:Int) + 1)))).push { cls:=.type "tuple",data:=.seq #[k,v] }).update it (Obj.mapFields fun x=>x.setIfInBounds 6 k)).update it (Obj.mapFields fun x=>x.setIfInBounds 7 v)).update it (Obj.mapFields fun x=>x.setIfInBounds 0 (rawInt (h.objs.size:Int)))).update it (Obj.mapFields fun x=>x.setIfInBounds 1 (.bool false))
  IsItemIterOut h' it d (i + 1) n ep k v h.objs.size ∧ h'.get? h.objs.size = some { cls:=.type "tuple",data:=.seq #[k,v] } ∧ ∀ b o,b ≠ it → h.get? b = some o → h'.get? b = some o:=by
 have ne:h.objs.size ≠ it:=Ne.symm (Nat.ne_of_lt (Heap.lt_size hit))
 have up : ∀ {g:Heap} {vs:Array Value} (j:Nat) (x:Value),g.get? it = some { cls:=.type "dict_itemiterator",dict:=none,data:=.fields vs,slots:=#[] } →
   (g.update it (Obj.mapFields fun y=>y.setIfInBounds j x)).get? it = some { cls:=.type "dict_itemiterator",dict:=none,data:=.fields (vs.setIfInBounds j x),slots:=#[] }:=fun {g vs} j x e=>
  Heap.get?_update_self _ e (Obj.isFreed_of_fields (Obj.data_mapFields rfl _))
 have h1:=up 3 (rawInt ((i:Int) + 1)) hit
 have h2:=Heap.get?_push_of_some ({ cls:=.type "tuple",data:=.seq #[k,v] } : Obj) h1
 have h3:=up 1 (.bool false) (up 0 (rawInt (h.objs.size:Int)) (up 7 v (up 6 k h2)))
 refine ⟨?_,?_,fun b o hb e=>?_⟩
 ·refine h3.trans ?_
  simp [rawInt]
 ·simp only [Heap.get?_update_ne _ _ _ _ ne]
  have sz:(h.update it (Obj.mapFields fun x=>x.setIfInBounds 3 (rawInt ((i:Int) + 1)))).objs.size = h.objs.size:=Heap.size_update ..
  rw [← sz]
  exact Heap.get?_push_size _ rfl
 ·simp only [Heap.get?_update_ne _ _ _ _ hb]
  exact Heap.get?_push_of_some _ ((Heap.get?_update_ne _ _ _ _ hb).trans e)
section
variable {prog:Program} {w:World} {A:Around} {E:Value → Shared → Prop} {s:Shared}
set_option maxHeartbeats 0 in
theorem next_item {it d:Addr} {i ep:Nat} {es:Array DictEntry} {od:Obj} {ok ov:Value} {Q:Option Value → Shared → Prop} (hit:IsItemIter s.heap it d i es.size ep ok ov) (hod:s.heap.get? d = some od) (hdd:od.data = .dict es ep) (hlt:i < es.size)
  (hQ : ∀ h',IsItemIterOut h' it d (i + 1) es.size ep es[i].key es[i].val s.heap.objs.size → h'.get? s.heap.objs.size = some { cls:=.type "tuple",data:=.seq #[es[i].key,es[i].val] } →
   (∀ b o,b ≠ it → s.heap.get? b = some o → h'.get? b = some o) → Q (some (.ref s.heap.objs.size)) { s with heap:=h' }) : wpAny (model prog w) A (pyNext (.ref it)) Q E s:=by
 have hT:s.TypeIs (.ref it) "dict_itemiterator" := ⟨_,hit,rfl⟩
 unfold pyNext
 refine wpAny_bind (wpAny_attempt ?_)
 refine wpAny_callSpecial?_slot hT F.slot_dict_itemiterator_next ?_
 refine wpAny_call_entry F.slot_dict_itemiterator_next hT F.entry_dict_itemiterator_next ?_ (F.args_dict_itemiterator_next_1 _)
 unfold Builtin.«dict_itemiterator.__next__»
 have fl : ∀ {Q':Array Value → Shared → Prop} {E':Value → Shared → Prop},Q' #[.none,.bool false,.ref d,.int i 0,.int es.size 0,.int ep 0,ok,ov] s → wpAny (model prog w) A.in1 (fieldsOf (.ref it)) Q' E' s:=fun h=>wpAny_fieldsOf hit rfl h
 wp_walk using wpAny_typeNameOfWhole_itemiter hT,fl,wpAny_dictEntries hod hdd,wpAny_dictEpoch hod hdd
 rw [if_neg (show ¬ (i:Int) < 0 by omega),Int.toNat_natCast,Array.getElem?_eq_getElem hlt]
 refine wpAny_bind ?_
 wp_walk using wpAny_typeNameOfWhole_itemiter hT
 refine ⟨_,rfl,wpAny_pure ?_⟩
 rw [Heap.size_update]
 obtain ⟨f1,f2,f3⟩:=outHeap hit es[i].key es[i].val
 exact hQ _ f1 f2 f3
set_option maxHeartbeats 0 in
theorem next_item_end {it d:Addr} {i ep:Nat} {es:Array DictEntry} {od:Obj} {ok ov:Value} {Q:Option Value → Shared → Prop} (hh:A.handled = none) (hit:IsItemIter s.heap it d i es.size ep ok ov) (hod:s.heap.get? d = some od) (hdd:od.data = .dict es ep) (hge:es.size ≤ i)
    (hQ : ∀ h',Heap.ExtBut it s.heap h' → Q none { s with heap:=h' }) : wpAny (model prog w) A (pyNext (.ref it)) Q E s:=by
  have hT:s.TypeIs (.ref it) "dict_itemiterator" := ⟨_,hit,rfl⟩
  unfold pyNext
  refine wpAny_bind (wpAny_attempt ?_)
  refine wpAny_callSpecial?_slot hT F.slot_dict_itemiterator_next ?_
  refine wpAny_call_entry F.slot_dict_itemiterator_next hT F.entry_dict_itemiterator_next ?_ (F.args_dict_itemiterator_next_1 _)
  have hh1:A.in1.handled = none:=hh
  unfold Builtin.«dict_itemiterator.__next__»
  have fl : ∀ {Q':Array Value → Shared → Prop} {E':Value → Shared → Prop},Q' #[.none,.bool false,.ref d,.int i 0,.int es.size 0,.int ep 0,ok,ov] s → wpAny (model prog w) A.in1 (fieldsOf (.ref it)) Q' E' s:=fun h=>wpAny_fieldsOf hit rfl h
  wp_walk using wpAny_typeNameOfWhole_itemiter hT,fl,wpAny_dictEntries hod hdd,wpAny_dictEpoch hod hdd
  rw [if_neg (show ¬ (i:Int) < 0 by omega),Int.toNat_natCast,Array.getElem?_eq_none hge]
  wp_walk using wpAny_typeNameOfWhole_itemiter hT
  all_goals (try (unfold raiseNew; refine wpAny_bind (wpAny_handled ?_); rw [hh1]))
  all_goals (try wp_walk)
  all_goals first
    | (show wpAny _ _ (isSubtype (.type "StopIteration") (.type "StopIteration")) _ _ _
       rw [isSubtype_stop]
       exact wpAny_pure (wpAny_pure (hQ _ (((Heap.SameBut.update ..).extBut.push _).push _))))
    | (unfold autoParam; size_fits)
    | size_fits
end
end PySem
namespace L2
open PySem PySem.Spec PyProof.Rows
def subs2:List (List Nat):=[] :: (List.range 8).flatMap fun a=>[a] :: (List.range a).map fun b=>[b,a]
def tabF (led:Bool) (js:List Nat) : SetTable:={ mask:=if js.length < 5 then 7 else 31,place:=js.toArray,dummies:=#[],finger:=0,led:=led,moves:=if js.length < 5 then 0 else 1,plain:=true }
def tabG (led:Bool) (js:List Nat) (n:Nat) : SetTable:={ mask:=if n < 5 then 7 else 31,place:=js.toArray,dummies:=#[],finger:=0,led:=led,moves:=if n < 5 then 0 else 1,plain:=true }
def posF (j:Nat) (js:List Nat) : Nat:=(js.filter (· < j)).length
def insF (j:Nat) (js:List Nat) : List Nat:=js.take (posF j js) ++ j :: js.drop (posF j js)
def okF (led:Bool) (js:List Nat) (j:Nat) : Bool:=
 decide ((tabF led js).freeSlot (j:Int) = some (j,false)) && decide ((tabF led js).put j = (tabG led (insF j js) js.length,posF j js)) && decide ((tabG led (insF j js) js.length).fits (js.length + 1) = true)
  && decide (insF j js ∈ subs2) && decide (posF j js ≤ js.length)
  && decide (if (tabG led (insF j js) js.length).tooFull = true then (tabG led (insF j js) js.length).relaid ((insF j js).map fun (k:Nat)=>(k:Int)).toArray (SetTable.grown (js.length + 1)) = some (tabF led (insF j js),Array.range (js.length + 1)) ∧ coversAll (Array.range (js.length + 1)) (js.length + 1) = true ∧ (tabF led (insF j js)).fits (js.length + 1) = true
    else tabG led (insF j js) js.length = tabF led (insF j js))
set_option maxRecDepth 100000 in
theorem okF_all : ∀ led ∈ [true,false],∀ js ∈ subs2,∀ j ∈ List.range 8,j ∈ js ∨ 2 ≤ js.length ∨ okF led js j = true:=by decide +kernel
def wkF (led:Bool) (js:List Nat) (i:Nat) : Bool:=
 decide (SetTable.below (tabF led js).place (if i = 0 then 0 else js.getD (i - 1) 0 + 1) = i)
set_option maxRecDepth 100000 in
theorem wkF_all : ∀ led ∈ [true,false],∀ js ∈ subs2,(tabF led js).fits js.length = true ∧ js.length ≤ 2 ∧ js.Pairwise (· < ·) ∧ (∀ j ∈ js,j < 8) ∧ ∀ i ∈ List.range (js.length + 1),wkF led js i = true:=by decide +kernel
theorem hash6 : ∀ j ∈ List.range 8,hashInt (j:Int) = (j:Int):=by decide +kernel
def esF (tk:Nat → Tok) (js:List Nat) : List (Int × Value):=js.map fun (j:Nat)=>((j:Int),Value.int (j:Int) (tk j))
def ledF (w:World) : Bool:=!w.params.followText "set-order"
def SetAt (w:World) (h:Heap) (a:Addr) (js:List Nat) : Prop:=∃ o tk ep,h.get? a = some o ∧ o.ExactSet ∧ o.data = .set (esF tk js).toArray ep (tabF (ledF w) js)
theorem led_mem (b:Bool) : b ∈ [true,false]:=by cases b <;> simp
theorem esF_len (tk:Nat → Tok) (js:List Nat) : (esF tk js).toArray.size = js.length:=by simp [esF]
section
variable {prog:Program} {w:World} {A:Around} {E:Value → Shared → Prop} {s:Shared} {a:Addr} {js:List Nat}
theorem esF_elems (tk:Nat → Tok) (h : ∀ j ∈ js,j < 8) : ElemsOf (intKind prog w) (esF tk js).toArray.toList:=by
 intro e he
 simp only [esF,List.mem_map] at he
 obtain ⟨j,hj,rfl⟩:=he
 exact ⟨⟨(j:Int),intKind_is _ _ _ _,(hash6 j (List.mem_range.mpr (h j hj))).symm⟩,rfl⟩
theorem esF_find (tk:Nat → Tok) {j:Nat} : ((esF tk js).findIdx? (fun e=>(intKind prog w).is (j:Int) e.2)).isSome = decide (j ∈ js):=by
 rw [List.findIdx?_isSome,Bool.eq_iff_iff]
 simp only [esF,List.any_map,List.any_eq_true,decide_eq_true_eq,Function.comp]
 constructor
 ·rintro ⟨k,hk,e⟩
  have:(k:Int) = j:=by simpa [intKind,Value.isInt] using e.symm
  have:j = k:=by omega
  rw [this]; exact hk
 ·intro hj
  exact ⟨j,hj,intKind_is _ _ _ _⟩
theorem esF_ins (tk:Nat → Tok) {j:Nat} {t:Tok} (hj:j ∉ js) (hp:posF j js ≤ js.length) : (SetTable.insertAt (esF tk js).toArray (posF j js) ((j:Int),Value.int (j:Int) t)).toList = esF (fun k=>if k = j then t else tk k) (insF j js):=by
 have same : ∀ l:List Nat,(∀ k ∈ l,k ∈ js) → esF (fun k=>if k = j then t else tk k) l = esF tk l:=fun l hl=>List.map_congr_left fun k hk=>by
  have:k ≠ j:=fun z=>hj (z ▸ hl k hk)
  simp [this]
 rw [SetTable.toList_insertAt]
 unfold insF
 have e1:=same _ fun k hk=>List.mem_of_mem_take (i:=posF j js) hk
 have e2:=same _ fun k hk=>List.mem_of_mem_drop (i:=posF j js) hk
 simp only [esF,List.map_append,List.map_cons,List.map_take,List.map_drop,if_true] at e1 e2 ⊢
 rw [e1,e2]
theorem mem_ins {j k:Nat} : k ∈ insF j js ↔ k ∈ js ∨ k = j:=by
 unfold insF
 rw [List.mem_append,List.mem_cons]
 constructor
 ·rintro (h | h | h)
  ·exact .inl (List.mem_of_mem_take h)
  ·exact .inr h
  ·exact .inl (List.mem_of_mem_drop h)
 ·rintro (h | h)
  ·rw [← List.take_append_drop (posF j js) js,List.mem_append] at h
   rcases h with h | h
   ·exact .inl h
   ·exact .inr (.inr h)
  ·exact .inr (.inl h)
theorem ins_len {j:Nat} (hp:posF j js ≤ js.length) : (insF j js).length = js.length + 1:=by
 unfold insF
 rw [List.length_append,List.length_cons,List.length_take,List.length_drop]
 omega
theorem add6 {j:Nat} {t:Tok} {Q:Bool → Shared → Prop} (hS:SetAt w s.heap a js) (hjs:js ∈ subs2) (hj:j < 8) (hfw:j ∈ js ∨ js.length < 2)
  (h : ∀ b h' js',Heap.SameBut a s.heap h' → js' ∈ subs2 → (∀ k,k ∈ js' ↔ k ∈ js ∨ k = j) → SetAt w h' a js' → Q b { s with heap:=h' }) :
  wpAny (model prog w) A (setAddHashed a (.int (j:Int) t) (hashInt (j:Int))) Q E s:=by
 obtain ⟨o,tk,ep,ho,hex,hd⟩:=id hS
 obtain ⟨hf,hl6,hup,hlt,_⟩:=wkF_all _ (led_mem (ledF w)) js hjs
 have hz:=esF_len tk js
 have hf':(tabF (ledF w) js).fits (esF tk js).toArray.size = true:=by rw [hz]; exact hf
 have hel:=esF_elems (prog:=prog) (w:=w) tk hlt
 have hsc:byScan (.int (j:Int) t) (esF tk js).toArray = true:=byScan_of (knd:=intKind prog w) rfl (by rw [hz]; unfold scanBound; omega) hel
 have line : ∀ n:Nat,n ≤ 7 → n ≤ sizeLine:=fun n hn=>by rw [sizeLine_eq]; omega
 refine wpAny_holding (wpAny_bind (wpAny_setState_of ho hd hf' ?_))
 dsimp only
 rw [if_pos hsc]
 unfold setAddByScan
 refine wpAny_bind (wpAny_bind (wpAny_rule (wpAny_bind (wpAny_setScan_of (knd:=intKind prog w) (k:=(j:Int)) (intKind_is _ _ _ _) ho hd hf' hel ?_))))
 have hfd:=esF_find (prog:=prog) (w:=w) (js:=js) tk (j:=j)
 rw [List.toList_toArray]
 cases hr:List.findIdx? (fun e=>(intKind prog w).is (j:Int) e.2) (esF tk js) with
 | some i=>
  rw [hr] at hfd
  have hm:j ∈ js:=by simpa using hfd.symm
  refine wpAny_pure (wpAny_pure ?_)
  have:=h false s.heap js (Heap.SameBut.refl a s.heap) hjs (fun k=>⟨.inl,fun z=>z.elim id fun z=>z ▸ hm⟩) hS
  exact this
 | none=>
  rw [hr] at hfd
  have hm:j ∉ js:=by simpa using hfd.symm
  have hok:=((okF_all _ (led_mem (ledF w)) js hjs j (List.mem_range.mpr hj)).resolve_left hm).resolve_left (Nat.not_le.mpr (hfw.resolve_left hm))
  simp only [okF,Bool.and_eq_true,decide_eq_true_eq] at hok
  obtain ⟨⟨⟨⟨⟨k1,k2⟩,k3⟩,k4⟩,k5⟩,k6⟩:=hok
  rw [hash6 j (List.mem_range.mpr hj)]
  have hn:=layNew (tabF (ledF w) js) (esF tk js).toArray (j:Int) (Value.int (j:Int) t)
  have hlay:layNew (tabF (ledF w) js) (esF tk js).toArray (j:Int) (Value.int (j:Int) t) = ((esF (fun k=>if k = j then t else tk k) (insF j js)).toArray,tabG (ledF w) (insF j js) js.length,false,false):=by
   have e1:SetTable.insertAt (esF tk js).toArray (posF j js) ((j:Int),Value.int (j:Int) t) = (esF (fun k=>if k = j then t else tk k) (insF j js)).toArray:=by
    rw [← esF_ins tk hm k5]
   unfold layNew
   rw [k1]
   dsimp only
   rw [k2]
   dsimp only
   rw [e1,esF_len,ins_len k5]
   unfold SetTable.orStandIn
   rw [k3]
   rfl
  rw [hlay]
  have hbv:hashByValue 8 (Value.int (j:Int) t) = pure true:=hashByValue_scannable 8 rfl
  have lenI:=ins_len k5
  have hz2:=esF_len (fun k=>if k = j then t else tk k) (insF j js)
  refine wpAny_bind (wpAny_pure (wpAny_bind (wpAny_of_eq hbv ?_)))
  dsimp only
  refine wpAny_bind (wpAny_storeSet_of ho hd ?_ (line _ (by rw [hz2,lenI]; omega)))
  have ho1:=Heap.get?_update_self (Obj.putSet (esF (fun k=>if k = j then t else tk k) (insF j js)).toArray (tabG (ledF w) (insF j js) js.length)) ho (by rw [putSet_of _ _ hd]; rfl)
  rw [putSet_of _ _ hd] at ho1
  simp only [if_true,Bool.not_false,Bool.true_and]
  by_cases hfull:(tabG (ledF w) (insF j js) js.length).tooFull = true
  ·rw [if_pos hfull] at k6
   obtain ⟨q1,q2,q3⟩:=k6
   have hrl:relayAll (tabG (ledF w) (insF j js) js.length) (esF (fun k=>if k = j then t else tk k) (insF j js)).toArray (SetTable.grown (js.length + 1)) = ((esF (fun k=>if k = j then t else tk k) (insF j js)).toArray,tabF (ledF w) (insF j js),false):=by
    have e1:(esF (fun k=>if k = j then t else tk k) (insF j js)).toArray.map (·.1) = ((insF j js).map fun (k:Nat)=>(k:Int)).toArray:=by
     rw [List.map_toArray]
     simp [esF,Function.comp_def]
    have e2:(Array.range (js.length + 1)).filterMap ((esF (fun k=>if k = j then t else tk k) (insF j js)).toArray[·]?) = (esF (fun k=>if k = j then t else tk k) (insF j js)).toArray:=by
     refine Array.toList_inj.mp ?_
     rw [Array.toList_filterMap,Array.toList_range,← lenI,← hz2]
     exact filterMap_getElem?_range _
    unfold relayAll
    rw [e1,q1]
    dsimp only
    rw [e2,hz2,lenI,q2,q3]
    rfl
   rw [if_pos hfull,hz2,lenI,hrl]
   dsimp only
   refine wpAny_bind (wpAny_pure (wpAny_bind (wpAny_storeSet_of ho1 rfl ?_ (line _ (by rw [hz2,lenI]; omega)))))
   have ho2:=Heap.get?_update_self (Obj.putSet (esF (fun k=>if k = j then t else tk k) (insF j js)).toArray (tabF (ledF w) (insF j js))) ho1 (by rw [putSet_of _ _ rfl]; rfl)
   rw [putSet_of _ _ rfl] at ho2
   exact wpAny_pure (wpAny_pure (h true _ (insF j js) ((Heap.SameBut.update _ a _).trans (Heap.SameBut.update _ a _)) k4 (fun k=>mem_ins) ⟨_,_,_,ho2,hex,rfl⟩))
  ·rw [if_neg hfull] at k6
   rw [if_neg hfull]
   rw [k6] at ho1 ⊢
   exact wpAny_pure (wpAny_pure (h true _ (insF j js) (Heap.SameBut.update _ a _) k4 (fun k=>mem_ins) ⟨_,_,_,ho1,hex,rfl⟩))
theorem intsLen : ∀ {vs:List Value} {ns:List Int},IntsAre vs ns → vs.length = ns.length
 | _,_,.nil=>rfl
 | _,_,.cons _ _ r=>by rw [List.length_cons,List.length_cons,intsLen r]
theorem two_few {js:List Nat} (hjs:js ∈ subs2) {a b j:Nat} (h : ∀ k ∈ js,k = a ∨ k = b) (hj:j = a ∨ j = b) : j ∈ js ∨ js.length < 2:=by
 obtain ⟨_,l2,up,_,_⟩:=wkF_all true (led_mem true) js hjs
 match js,l2,up,h with
 | [],_,_,_=>exact .inr (by decide)
 | [_],_,_,_=>exact .inr (by show 1 < 2; decide)
 | [x,y],_,up,h=>
  have h1:=h x (by simp)
  have h2:=h y (by simp)
  have h3:x < y:=by simpa using up
  refine .inl ?_
  rw [List.mem_cons,List.mem_singleton]
  omega
structure UpdSt (s:Shared) (l it S:Addr) (w:World) (ns:List Int) (i:Nat) (s':Shared) : Prop where
 same:s' = { s with heap:=s'.heap,toks:=s'.toks }
 it:s'.heap.IsListIter it l i
 old : ∀ b o,s.heap.get? b = some o → s'.heap.get? b = some o
 le:i ≤ ns.length
 set : ∃ js,js ∈ subs2 ∧ (∀ k:Nat,k ∈ js ↔ (k:Int) ∈ ns.take i) ∧ SetAt w s'.heap S js
theorem SetAt.keep {h h':Heap} (x:SetAt w h a js) (k : ∀ o,h.get? a = some o → h'.get? a = some o) : SetAt w h' a js:=by
 obtain ⟨o,tk,ep,e,r⟩:=x
 exact ⟨o,tk,ep,k o e,r⟩
theorem upd_turns {l it S:Addr} {vs:List Value} {ns:List Int} {R:Result → Shared → Prop} (hh:A.handled = none) (hl:s.heap.IsList l vs.toArray) (hI:IntsAre vs ns) (h6 : ∃ a b:Nat,a < 8 ∧ b < 8 ∧ ∀ z ∈ ns,z = (a:Int) ∨ z = (b:Int))
  (hit : ∀ o,s.heap.get? it ≠ some o) (hS : ∀ o,s.heap.get? S ≠ some o) (hIS:it ≠ S)
  (hR : ∀ h' tk js,js ∈ subs2 → (∀ k:Nat,k ∈ js ↔ (k:Int) ∈ ns) → SetAt w h' S js → (∀ b o,s.heap.get? b = some o → h'.get? b = some o) → R (.ok (.ret .none)) { s with heap:=h',toks:=tk }) {s1:Shared} (h1:UpdSt s l it S w ns 0 s1) :
  codeAny (model prog w) A (.builtin "set.update.loop" ⟨[.ref S,.ref it],[]⟩) R s1:=by
 have lenv:vs.length = ns.length:=intsLen hI
 refine codeAny_loop (plainId_quiet F.plain_set_update_loop _) (fun n s'=>∃ i,n = ns.length - i ∧ UpdSt s l it S w ns i s') (fun n s' ⟨i,en,M⟩=>?_) ns.length ⟨0,by simp,h1⟩
 rw [Around.under_plainId F.plain_set_update_loop,den_builtin F.entry_set_update_loop]
 have hl':s'.heap.IsList l vs.toArray:=by
  obtain ⟨o,ho,r⟩:=hl
  exact ⟨o,M.old l o ho,r⟩
 obtain ⟨js,hjs,hmem,hset⟩:=M.set
 show wpAny _ A.in1 (pyNext (.ref it) >>= _) _ _ s'
 by_cases hi:i < ns.length
 ·obtain ⟨v,hv⟩ : ∃ v,vs[i]? = some v:=⟨vs[i]'(by omega),by simp [lenv,hi]⟩
  obtain ⟨t,ev⟩:=hI.int_at i v hv
  obtain ⟨z,hz⟩ : ∃ z,ns[i]? = some z:=⟨ns[i],by simp [hi]⟩
  have hzm:z ∈ ns:=List.mem_of_getElem? hz
  obtain ⟨ja,jb,la,lb,hab⟩:=id h6
  obtain ⟨j,rfl,hj⟩ : ∃ j:Nat,z = (j:Int) ∧ (j = ja ∨ j = jb):=by
   rcases hab z hzm with e | e
   ·exact ⟨ja,e,.inl rfl⟩
   ·exact ⟨jb,e,.inr rfl⟩
  have few:=two_few hjs (fun k hk=>by
   have:=hab _ (List.mem_of_mem_take ((hmem k).mp hk))
   omega) hj
  rw [List.getD_eq_getElem?_getD,hz] at ev
  have ev':v = Value.int (j:Int) t:=ev
  subst ev'
  refine wpAny_bind (wpAny_pyNext_list_item M.it hl' (by simpa using hv) fun h2 i2 sb=>?_)
  have old2 : ∀ b o,s.heap.get? b = some o → h2.get? b = some o:=fun b o e=>(sb.2 b (fun q=>hit o (by rw [← q]; exact e))).trans (M.old b o e)
  show wpAny _ A.in1 (holding [Value.int (j:Int) t] (setAdd S (.int (j:Int) t)) >>= _) _ _ _
  refine wpAny_bind (wpAny_holding (wpAny_holding (wpAny_bind ((intKind prog w).pyHash (k:=(j:Int)) (intKind_is _ _ _ _) ?_))))
  refine add6 (js:=js) (hset.keep fun o e=>(sb.2 S (Ne.symm hIS)).trans e) hjs (by omega) few fun b h3 js' sb3 hjs' hm3 hs3=>?_
  refine wpAny_pure ⟨rfl,ns.length - (i + 1),by omega,i + 1,rfl,?_,i2.at fun o q=>(sb3.2 it hIS).trans q,fun b o e=>(sb3.2 b (fun q=>hS o (by rw [← q]; exact e))).trans (old2 b o e),hi,js',hjs',fun k=>?_,hs3⟩
  ·rw [M.same]
  ·rw [hm3 k,hmem k,List.take_succ,hz]
   rw [List.mem_append]
   simp only [Option.toList_some,List.mem_singleton,Int.ofNat_inj]
 ·have ei:i = ns.length:=by have:=M.le; omega
  subst ei
  refine wpAny_bind (wpAny_pyNext_list_end hh M.it hl' (by simp; omega) fun h2 eb=>?_)
  refine wpAny_pure ?_
  have:=hR h2 s'.toks js hjs (fun k=>by rw [hmem k,List.take_length]) (hset.keep fun o e=>eb S o (Ne.symm hIS) e) (fun b o e=>eb b o (fun q=>hit o (by rw [← q]; exact e)) (M.old b o e))
  rw [M.same]
  exact this
abbrev set0 (w:World) : Obj:={ cls:=.type "set",dict:=none,data:=.set #[] 0 (tabF (ledF w) []) }
theorem new6 {v:Value} {R:Result → Shared → Prop} (h:R (.ok (.ret (.ref s.heap.objs.size))) { s with heap:=s.heap.push (set0 w) }) :
  codeAny (model prog w) A (.call (.builtin "set.__new__") ⟨[.type "set",v],[]⟩) R s:=by
 refine codeAny_call_builtin F.plain_set_new F.entry_set_new (wpAny_of_eq (F.newCall_set_1 v) ?_)
 unfold Builtin.«set.__new__» Builtin.Frozenset.newClass
 have i1:=sub_set_self
 obtain ⟨hp,g,d,tk,os⟩:=s
 wp_walk
 refine wpAny_askSetting (wpAny_pure ?_)
 exact wpAny_newObj_type (wpAny_pure h)
set_option maxHeartbeats 4000000 in
theorem call_set6 {l:Addr} {vs:List Value} {ns:List Int} {Q:Value → Shared → Prop} (hh:A.handled = none) (hl:s.heap.IsList l vs.toArray) (hI:IntsAre vs ns) (h6 : ∃ a b:Nat,a < 8 ∧ b < 8 ∧ ∀ z ∈ ns,z = (a:Int) ∨ z = (b:Int))
  (h : ∀ h' tk js,js ∈ subs2 → (∀ k:Nat,k ∈ js ↔ (k:Int) ∈ ns) → SetAt w h' s.heap.objs.size js → (∀ b o,s.heap.get? b = some o → h'.get? b = some o) → Q (.ref s.heap.objs.size) { s with heap:=h',toks:=tk }) :
  wpAny (model prog w) A (call (.type "set") [.ref l]) Q E s:=by
 have cs:=F.called_set
 obtain ⟨c,tl,m1⟩:=cs.mro
 have m2:=cs.made
 have m3:=cs.sub
 have m4:=cs.notType
 have m5:=cs.canCreate
 have m6:=F.typeCall_set_1 (.ref l)
 refine wpAny_call (codeAny_of_tree ?_)
 refine wpAny_pure ⟨Code.quiet_builtin _ (by decide +kernel),codeAny_builtin F.entry_type_call ?_⟩
 rw [Around.under_plain (weight_type_call_type "set" [.ref l] []) rfl]
 repeat (any_goals (first | assumption | wp_step))
 refine new6 ?_
 have at0:(s.heap.push (set0 w)).get? s.heap.objs.size = some (set0 w):=Heap.get?_push_size _ rfl
 have hT:Shared.TypeIs { s with heap:=s.heap.push (set0 w) } (.ref s.heap.objs.size) "set" := ⟨_,at0,rfl⟩
 have m7:=cs.init.lookup
 have m8:=cs.init.bind (.ref s.heap.objs.size)
 dsimp only
 repeat (any_goals (first | assumption | wp_step))
 refine codeAny_call_builtin cs.init.plain F.entry_set_init (check_set_init_1 hT ?_)
 obtain ⟨ol,hol,hcl,nl,hdl⟩:=id hl
 have hl1:(s.heap.push (set0 w)).IsList l vs.toArray:=hl.push _
 have hTl:Shared.TypeIs { s with heap:=s.heap.push (set0 w) } (.ref l) "list" := ⟨ol,Heap.get?_push_of_some _ hol,hcl⟩
 have n1:=F.sub_list_set
 have n2:=F.sub_list_frozenset
 unfold Builtin.«set.__init__» noKeywords Builtin.Frozenset.updateFrom
 generalize hPI:pyIter = PI
 wp_walk using wpAny_typeOf hTl
 subst hPI
 have hsz:(s.heap.push (set0 w)).objs.size = s.heap.objs.size + 1:=Heap.size_push ..
 refine wpAny_pyIter_list hl1 (wpAny_bind (wpAny_runValue ?_))
 show codeAny (model prog w) A.in1.in1 (.builtin "set.update.loop" ⟨[.ref s.heap.objs.size,.ref (s.heap.push (set0 w)).objs.size],[]⟩) _ _
 rw [hsz]
 have fr : ∀ {b:Addr},s.heap.objs.size ≤ b → ∀ o,s.heap.get? b ≠ some o:=fun {b} z o e=>absurd (Heap.lt_size e) (Nat.not_lt.mpr z)
 have U:UpdSt s l (s.heap.objs.size + 1) s.heap.objs.size w ns 0 { s with heap:=(s.heap.push (set0 w)).push { cls:=.type "list_iterator",data:=.fields #[.ref l,.int 0 0] } }:=
  ⟨rfl,⟨_,hsz ▸ Heap.get?_push_size _ rfl,rfl,rfl⟩,fun b o e=>Heap.get?_push_of_some _ (Heap.get?_push_of_some _ e),Nat.zero_le _,[],by decide,fun k=>by simp,⟨_,fun _=>0,0,Heap.get?_push_of_some _ at0,⟨rfl,rfl,rfl⟩,rfl⟩⟩
 refine upd_turns (A:=A.in1.in1) (prog:=prog) (s:=s) (show A.in1.in1.handled = none from hh) hl hI h6 (fr (Nat.le_succ _)) (fr (Nat.le_refl _)) (Nat.ne_of_gt (Nat.lt_succ_self _)) (fun h' tk js a1 a2 a3 a4=>?_) U
 exact wpAny_pure (wpAny_pure (wpAny_pure (wpAny_pure (h h' tk js a1 a2 a3 a4))))
theorem slot_setit:Slot "set_iterator" "__next__" "set_iterator.__next__" :=
 .of (owner := "set_iterator") (n := "__next__") (by rw [typeLookup_type,builtinLookup_eq_fast]; kernel_rfl) (by decide +kernel) (by decide +kernel) (by decide +kernel)
  (by first | exact .inl (by decide +kernel) | exact .inr (by decide +kernel)) (by rw [isSubtype_type]; kernel_rfl)
theorem entry_setit:entryFor table "set_iterator.__next__" = some Builtin.«set_iterator.__next__» := entryFor_of_tree (by kernel_rfl)
theorem owner_setit:Manifest.owners.lookup (String.ofList ['r','o','t','a','r','e','t','i','_','t','e','s'].reverse) = some Manifest.sig_set_iterator:=by kernel_rfl
theorem args_setit (a:Value) : argsOk "set_iterator.__next__" ⟨[a],[]⟩:=by
 unfold argsOk; rw [signature?_of (id := "set_iterator.__next__") (n:=['_','_','t','x','e','n','_','_']) (o:=['r','o','t','a','r','e','t','i','_','t','e','s']) (by kernel_rfl) owner_setit]; kernel_rfl
theorem entry_setiter:entryFor table "set.__iter__" = some Builtin.«frozenset.__iter__» := entryFor_alias (id' := "frozenset.__iter__") (by kernel_rfl) rfl (by decide +kernel) (by kernel_rfl)
def rowF (w:World) (a:Addr) (ep:Nat) (es:Array (Int × Value)) : Array (Int × Value):=if w.params.followText "set-order" = true then pickOrder (w.params.setOrder a ep) es else es
def SetIt (w:World) (h:Heap) (it a:Addr) (js:List Nat) (ep i:Nat) : Prop:=∃ o,∃ slot:Nat,h.get? it = some o ∧ o.cls = .type "set_iterator" ∧ o.data = .fields #[.int (slot:Int) 0,.int i 0,.ref a,.int js.length 0,.int ep 0] ∧
 (w.params.followText "set-order" = false → slot = if i = 0 then 0 else js.getD (i - 1) 0 + 1)
def SetK (w:World) (h:Heap) (a:Addr) (js:List Nat) (tk:Nat → Tok) (ep:Nat) : Prop:=∃ o,h.get? a = some o ∧ o.ExactSet ∧ o.data = .set (esF tk js).toArray ep (tabF (ledF w) js)
theorem iter6 {tk:Nat → Tok} {ep:Nat} {Q:Value → Shared → Prop} (hS:SetK w s.heap a js tk ep) (hjs:js ∈ subs2)
  (hQ:Q (.ref s.heap.objs.size) { s with heap:=s.heap.push { cls:=.type "set_iterator",data:=.fields #[.int 0 0,.int 0 0,.ref a,.int js.length 0,.int ep 0] } }) : wpAny (model prog w) A (pyIter (.ref a)) Q E s:=by
 obtain ⟨o,ho,hex,hd⟩:=hS
 obtain ⟨hf,hl6,hup,hlt,_⟩:=wkF_all _ (led_mem (ledF w)) js hjs
 have hz:=esF_len tk js
 have hf':(tabF (ledF w) js).fits (esF tk js).toArray.size = true:=by rw [hz]; exact hf
 have hT:s.TypeIs (.ref a) "set" := ⟨o,ho,hex.1⟩
 have run:wpAny (model prog w) A.in1 (Builtin.«frozenset.__iter__» ⟨[.ref a],[]⟩) (fun fin s'=>fin = .done (.ret (.ref s.heap.objs.size)) ∧ s' = { s with heap:=s.heap.push { cls:=.type "set_iterator",data:=.fields #[.int 0 0,.int 0 0,.ref a,.int js.length 0,.int ep 0] } }) E s:=by
  unfold Builtin.«frozenset.__iter__» Builtin.Frozenset.sizeOf setDrawn setsByText
  wp_walk using wpAny_setEntries_of ho hd hf',wpAny_setState_of ho hd hf',wpAny_setEpoch_of ho hd hf'
  refine wpAny_askSetting (wpAny_pure (wpAny_pure ?_))
  refine wpAny_ite_split (fun z=>?_) fun _=>?_
  ·rw [Bool.and_eq_true] at z
   exact absurd (show false = true from z.2) (by decide)
  ·wp_walk using wpAny_setEpoch_of ho hd hf'
   rw [hz]
   exact ⟨rfl,rfl⟩
 refine wpAny_pyIter_slot hT F.slot_set_iter (wpAny_call_entry F.slot_set_iter hT entry_setiter (wpAny_mono run (fun f s' z=>?_) fun _ _ z=>z) (F.args_set_iter_1 _))
 obtain ⟨rfl,rfl⟩:=z
 exact ⟨_,rfl,"set_iterator",_,⟨_,Heap.get?_push_size _ rfl,rfl⟩,slot_setit.lookup,hQ⟩
theorem setNext6 {tk:Nat → Tok} {slot ep i:Nat} {Q:Option (Value × Nat) → Shared → Prop} (hS:SetK w s.heap a js tk ep) (hjs:js ∈ subs2) (hi:i ≤ js.length) (hsl:w.params.followText "set-order" = false → slot = if i = 0 then 0 else js.getD (i - 1) 0 + 1)
  (h:Q ((rowF w a ep (esF tk js).toArray)[i]?.map fun e=>(e.2,if w.params.followText "set-order" = true then slot else js.getD i 0 + 1)) s) : wpAny (model prog w) A (setNext a slot i ep) Q E s:=by
 obtain ⟨o,ho,hex,hd⟩:=hS
 obtain ⟨hf,hl6,hup,hlt,hbl⟩:=wkF_all _ (led_mem (ledF w)) js hjs
 have hz:=esF_len tk js
 have hf':(tabF (ledF w) js).fits (esF tk js).toArray.size = true:=by rw [hz]; exact hf
 unfold setNext setsByText
 refine wpAny_bind (wpAny_setState_of ho hd hf' (wpAny_bind (wpAny_bind (wpAny_askSetting (wpAny_pure ?_)))))
 dsimp only
 refine wpAny_ite_split (fun hb=>?_) fun hb=>?_
 ·have hb':w.params.followText "set-order" = true:=hb
  refine wpAny_ite_split (fun z=>absurd z (by simp)) fun _=>?_
  refine wpAny_bind ?_
  unfold setWalk setsByText
  refine wpAny_bind (wpAny_setState_of ho hd hf' (wpAny_bind (wpAny_bind (wpAny_askSetting (wpAny_pure ?_)))))
  dsimp only
  refine wpAny_ite_split (fun _=>?_) fun z=>absurd hb z
  refine wpAny_bind (wpAny_askSetting (wpAny_pure (wpAny_pure ?_)))
  rw [if_pos hb'] at h
  unfold rowF at h
  rw [if_pos hb'] at h
  exact h
 ·have hb':w.params.followText "set-order" = false:=by
   cases z:w.params.followText "set-order" with
   | false=>rfl
   | true=>exact absurd z hb
  have hled:ledF w = true:=by unfold ledF; rw [hb']; rfl
  refine wpAny_ite_split (fun z=>absurd (show false = true from z) (by decide)) fun _=>?_
  rw [hled] at hbl ⊢
  refine wpAny_bind ?_
  show wpAny _ _ (pure ()) _ _ _
  refine wpAny_pure (wpAny_pure ?_)
  have e1:=hbl i (List.mem_range.mpr (by omega))
  simp only [wkF,decide_eq_true_eq] at e1
  rw [hsl hb',e1]
  have e2:rowF w a ep (esF tk js).toArray = (esF tk js).toArray:=by unfold rowF; rw [hb']; rfl
  rw [e2] at h
  simp only [hb',Bool.false_eq_true,if_false] at h
  by_cases hlt':i < js.length
  ·have e3:(tabF true js).place[i]? = some js[i]:=by simp [tabF,hlt']
   have e4:(esF tk js).toArray[i]? = some ((js[i] : Int),Value.int (js[i] : Int) (tk js[i])):=by simp [esF,hlt']
   rw [e4] at h ⊢
   rw [e3]
   have e5:js.getD i 0 = js[i]:=by simp [List.getD_eq_getElem?_getD,hlt']
   rw [e5] at h
   exact h
  ·have e4:(esF tk js).toArray[i]? = none:=by simp [esF]; omega
   rw [e4] at h ⊢
   exact h
end
theorem pick_go {α : Type} (next:Nat → Nat) : ∀ (fuel k:Nat) (left:List α) (out:Array α),left.length = fuel → (pickOrder.go next fuel k left out).toList.Perm (out.toList ++ left)
 | 0,k,left,out,h=>by
  have:left = []:=List.length_eq_zero_iff.mp h
  subst this
  simp [pickOrder.go]
 | fuel + 1,k,left,out,h=>by
  have hp : 0 < left.length:=by omega
  have hlt:next k % left.length < left.length:=Nat.mod_lt _ hp
  have he:left[next k % left.length]? = some left[next k % left.length]:=by simp [hlt]
  unfold pickOrder.go
  rw [he]
  dsimp only
  refine (pick_go next fuel (k + 1) _ _ (by rw [List.length_eraseIdx_of_lt hlt]; omega)).trans ?_
  rw [Array.toList_push,List.append_assoc]
  refine List.Perm.append_left _ ?_
  rw [List.eraseIdx_eq_take_drop_succ]
  have e:=List.take_append_drop (next k % left.length) left
  rw [List.drop_eq_getElem_cons hlt] at e
  refine (List.perm_middle (a:=left[next k % left.length]) (l₁:=left.take (next k % left.length)) (l₂:=left.drop (next k % left.length + 1))).symm.trans ?_
  rw [e]
theorem row_perm (w:World) (a:Addr) (ep:Nat) (es:Array (Int × Value)) : (rowF w a ep es).toList.Perm es.toList:=by
 unfold rowF
 split
 ·have:=pick_go (w.params.setOrder a ep) es.size 0 es.toList #[] (by simp)
  simpa [pickOrder] using this
 ·exact List.Perm.refl _
section
variable {prog:Program} {w:World} {A:Around} {E:Value → Shared → Prop} {s:Shared} {a:Addr} {js:List Nat}
theorem row_size (tk:Nat → Tok) (ep:Nat) : (rowF w a ep (esF tk js).toArray).size = js.length:=by
 have:=(row_perm w a ep (esF tk js).toArray).length_eq
 rw [Array.length_toList,Array.length_toList,esF_len] at this
 exact this
theorem next6 {tk:Nat → Tok} {it:Addr} {ep i:Nat} {Q:Option Value → Shared → Prop} (hit:SetIt w s.heap it a js ep i) (hS:SetK w s.heap a js tk ep) (hjs:js ∈ subs2) (hi:i < js.length)
  (hQ : ∀ v h',(rowF w a ep (esF tk js).toArray)[i]?.map (·.2) = some v → SetIt w h' it a js ep (i + 1) → Heap.SameBut it s.heap h' → Q (some v) { s with heap:=h' }) : wpAny (model prog w) A (pyNext (.ref it)) Q E s:=by
 obtain ⟨oi,slot,hoi,hci,hdi,hsl⟩:=hit
 obtain ⟨o,ho,hex,hd⟩:=hS
 obtain ⟨hf,hl6,hup,hlt,hbl⟩:=wkF_all _ (led_mem (ledF w)) js hjs
 have hz:=esF_len tk js
 have hf':(tabF (ledF w) js).fits (esF tk js).toArray.size = true:=by rw [hz]; exact hf
 have hT:s.TypeIs (.ref it) "set_iterator" := ⟨oi,hoi,hci⟩
 unfold pyNext
 refine wpAny_bind (wpAny_attempt (wpAny_callSpecial?_slot hT slot_setit (wpAny_call_entry slot_setit hT entry_setit ?_ (args_setit _))))
 unfold Builtin.«set_iterator.__next__»
 generalize hN:setNext = SN
 wp_walk using wpAny_fieldsOf hoi hdi,wpAny_setEntries_of ho hd hf'
 subst hN
 rw [Int.toNat_natCast,Int.toNat_natCast,Int.toNat_natCast]
 refine setNext6 (tk:=tk) ⟨o,ho,hex,hd⟩ hjs (Nat.le_of_lt hi) hsl ?_
 have hrs:=row_size (w:=w) (a:=a) (js:=js) tk ep
 obtain ⟨e,he⟩ : ∃ e,(rowF w a ep (esF tk js).toArray)[i]? = some e:=⟨(rowF w a ep (esF tk js).toArray)[i]'(by omega),by simp [hrs,hi]⟩
 rw [he]
 have ho1:=Heap.get?_update_self (Obj.mapFields (·.setIfInBounds 0 (rawInt ((if w.params.followText "set-order" = true then slot else js.getD i 0 + 1:Nat) : Int)))) hoi (Obj.isFreed_of_fields (Obj.data_mapFields hdi _))
 have hd1:=Obj.data_mapFields hdi (·.setIfInBounds 0 (rawInt ((if w.params.followText "set-order" = true then slot else js.getD i 0 + 1:Nat) : Int)))
 have ho2:=Heap.get?_update_self (Obj.mapFields (·.setIfInBounds 1 (rawInt ((i:Int) + 1)))) ho1 (Obj.isFreed_of_fields (Obj.data_mapFields hd1 _))
 have hd2:=Obj.data_mapFields hd1 (·.setIfInBounds 1 (rawInt ((i:Int) + 1)))
 refine wpAny_bind (wpAny_setField hoi hdi (by simp) ?_)
 refine wpAny_bind (wpAny_setField ho1 hd1 (by simp) ?_)
 refine wpAny_pure ⟨_,rfl,wpAny_pure (hQ _ _ (by rw [he]; rfl) ⟨_,if w.params.followText "set-order" = true then slot else js.getD i 0 + 1,ho2,?_,?_,fun z=>?_⟩ ((Heap.SameBut.update ..).trans (Heap.SameBut.update ..)))⟩
 ·rw [Obj.cls_mapFields,Obj.cls_mapFields]; exact hci
 ·rw [hd2]; simp [rawInt]
 ·rw [z]; simp
theorem end6 {tk:Nat → Tok} {it:Addr} {ep:Nat} {Q:Option Value → Shared → Prop} (hh:A.handled = none) (hit:SetIt w s.heap it a js ep js.length) (hS:SetK w s.heap a js tk ep) (hjs:js ∈ subs2)
    (hQ : ∀ h',Heap.ExtBut it s.heap h' → Q none { s with heap:=h' }) : wpAny (model prog w) A (pyNext (.ref it)) Q E s:=by
  obtain ⟨oi,slot,hoi,hci,hdi,hsl⟩:=hit
  obtain ⟨o,ho,hex,hd⟩:=hS
  obtain ⟨hf,hl6,hup,hlt,hbl⟩:=wkF_all _ (led_mem (ledF w)) js hjs
  have hz:=esF_len tk js
  have hf':(tabF (ledF w) js).fits (esF tk js).toArray.size = true:=by rw [hz]; exact hf
  have hT:s.TypeIs (.ref it) "set_iterator" := ⟨oi,hoi,hci⟩
  unfold pyNext
  refine wpAny_bind (wpAny_attempt (wpAny_callSpecial?_slot hT slot_setit (wpAny_call_entry slot_setit hT entry_setit ?_ (args_setit _))))
  unfold Builtin.«set_iterator.__next__»
  generalize hN:setNext = SN
  wp_walk using wpAny_fieldsOf hoi hdi,wpAny_setEntries_of ho hd hf'
  subst hN
  rw [Int.toNat_natCast,Int.toNat_natCast,Int.toNat_natCast]
  refine setNext6 (tk:=tk) ⟨o,ho,hex,hd⟩ hjs (Nat.le_refl _) hsl ?_
  have hrs:=row_size (w:=w) (a:=a) (js:=js) tk ep
  have he:(rowF w a ep (esF tk js).toArray)[js.length]? = none:=by simp [hrs]
  rw [he]
  refine wpAny_bind (wpAny_setField hoi hdi (by simp) ?_)
  unfold newExc raiseNew newTuple firstArgMember
  wp_walk using wpAny_newObj_type
  all_goals first
    | (show wpAny _ _ (isSubtype (.type "StopIteration") (.type "StopIteration")) _ _ _
       rw [isSubtype_stop]
       exact wpAny_pure (wpAny_pure (hQ _ (((Heap.SameBut.update ..).extBut.push _).push _))))
    | (unfold autoParam; size_fits)
    | size_fits
end
section
variable {prog:Program} {w:World} {A:Around} {E:Value → Shared → Prop} {s:Shared} {a:Addr} {js:List Nat}
theorem hint6 {Q:Bool → Shared → Prop} (hT:s.TypeIs (.ref a) "set") (h:Q false s) : wpAny (model prog w) A (Builtin.List.listLengthHint (.ref a)) Q E s:=by
 have i2:splitId "set.__len__" = some ("set","__len__"):=by decide +kernel
 unfold Builtin.List.listLengthHint
 refine wpAny_bind (wpAny_specialOf hT F.slot_set_len.lookup ?_)
 dsimp only
 rw [i2]
 refine wpAny_bind (wpAny_isInstance (T := "set") (b:=true) hT sub_set_self (wpAny_ite_split (fun z=>absurd z (by decide)) fun _=>?_))
 refine wpAny_ite_split (fun _=>wpAny_bind (wpAny_typeOf hT (wpAny_pure h))) fun z=>absurd (by decide +kernel) z
theorem SetK.keep {tk:Nat → Tok} {ep:Nat} {h h':Heap} (x:SetK w h a js tk ep) (k : ∀ o,h.get? a = some o → h'.get? a = some o) : SetK w h' a js tk ep:=by
 obtain ⟨o,e,r⟩:=x
 exact ⟨o,k o e,r⟩
theorem SetIt.keep {it:Addr} {ep i:Nat} {h h':Heap} (x:SetIt w h it a js ep i) (k : ∀ o,h.get? it = some o → h'.get? it = some o) : SetIt w h' it a js ep i:=by
 obtain ⟨o,sl,e,r⟩:=x
 exact ⟨o,sl,k o e,r⟩
theorem slot_setself:Slot "set_iterator" "__iter__" "set_iterator.__iter__" :=
 .of (owner := "set_iterator") (n := "__iter__") (by rw [typeLookup_type,builtinLookup_eq_fast]; kernel_rfl) (by decide +kernel) (by decide +kernel) (by decide +kernel)
  (by first | exact .inl (by decide +kernel) | exact .inr (by decide +kernel)) (by rw [isSubtype_type]; kernel_rfl)
theorem entry_setself:entryFor table "set_iterator.__iter__" = some Builtin.«dict_keyiterator.__iter__» := entryFor_alias (id' := "dict_keyiterator.__iter__") (by kernel_rfl) rfl (by decide +kernel) (by kernel_rfl)
theorem args_setself (a:Value) : argsOk "set_iterator.__iter__" ⟨[a],[]⟩:=by
 unfold argsOk; rw [signature?_of (id := "set_iterator.__iter__") (n:=['_','_','r','e','t','i','_','_']) (o:=['r','o','t','a','r','e','t','i','_','t','e','s']) (by kernel_rfl) owner_setit]; kernel_rfl
theorem self6 {it:Addr} {Q:Value → Shared → Prop} (hT:s.TypeIs (.ref it) "set_iterator") (hQ:Q (.ref it) s) : wpAny (model prog w) A (pyIter (.ref it)) Q E s:=by
 refine wpAny_pyIter_slot hT slot_setself (wpAny_call_entry slot_setself hT entry_setself ?_ (args_setself _))
 unfold Builtin.«dict_keyiterator.__iter__»
 wp_walk
 exact ⟨_,rfl,"set_iterator",_,hT,slot_setit.lookup,hQ⟩
theorem src6 {tk:Nat → Tok} {ep:Nat} (hjs:js ∈ subs2) : PySem.W.KdlSrc prog w "set" a a js.length (fun i v=>(rowF w a ep (esF tk js).toArray)[i]?.map (·.2) = some v) (fun h=>SetK w h a js tk ep) where
 type:=fun _ ⟨o,ho,hex,_⟩=>⟨o,ho,hex.1⟩
 there:=fun _ ⟨o,ho,_⟩=>⟨Heap.lt_size ho,Heap.lt_size ho⟩
 keep:=fun _ _ hm hk=>hm.keep fun o e=>hk a (.inl rfl) o e
 notList:=by decide
 notTuple:=by decide
 hint:=fun _ _ _ _ ⟨o,ho,hex,_⟩ hq=>hint6 ⟨o,ho,hex.1⟩ hq
 iter:=fun A s hh hm=>⟨_,fun i h=>SetIt w h s.heap.objs.size a js ep i ∧ SetK w h a js tk ep,fun _ _ hq=>iter6 hm hjs hq,by
  obtain ⟨o,ho,hr⟩:=id hm
  have ne:a ≠ s.heap.objs.size:=Nat.ne_of_lt (Heap.lt_size ho)
  refine ⟨fun b hb=>List.mem_cons.mpr (.inl (List.mem_singleton.mp hb)),fun i h h' ⟨x,y⟩ k=>⟨x.keep fun o e=>k _ (by simp) o e,y.keep fun o e=>k _ (by simp) o e⟩,fun i s' Q E hi ⟨x,y⟩ hQ=>?_,fun s' Q E ⟨x,y⟩ hQ=>?_,fun i s' Q E ⟨x,y⟩ hQ=>?_⟩
  ·refine next6 x y hjs hi fun v h' hv x' sb=>?_
   exact hQ v h' s'.toks hv ⟨x',y.keep fun o e=>(sb.2 a ne).trans e⟩ fun b o hb e=>(sb.2 b (fun z=>hb (by simp [z]))).trans e
  ·exact end6 hh x y hjs fun h' eb=>hQ h' s'.toks fun b o hb e=>eb b o (fun z=>hb (by simp [z])) e
  ·obtain ⟨o,sl,e,c,_⟩:=x
   exact self6 ⟨o,e,c⟩ hQ,⟨⟨_,0,Heap.get?_push_size _ rfl,rfl,rfl,fun _=>by simp⟩,hm.keep fun o e=>Heap.get?_push_of_some _ e⟩⟩
end
def IsSet (w:World) (a:Addr) (js:List Nat) : HO:=.ext fun h=>SetAt w h a js
section
variable {X:Cx}
theorem up_eq {js:List Nat} (up:js.Pairwise (· < ·)) {ns:List Int} (hp:ns.Perm (js.map fun (j:Nat)=>(j:Int))) (hs:ns.Pairwise (· ≤ ·)) : ns = js.map fun (j:Nat)=>(j:Int):=by
 have up':(js.map fun (j:Nat)=>(j:Int)).Pairwise (· ≤ ·):=by
  rw [List.pairwise_map]
  exact up.imp fun h=>by omega
 exact List.Perm.eq_of_pairwise (fun a b _ _ h1 h2=>Int.le_antisymm h1 h2) hs up' hp
theorem ints_perm {tk:Nat → Tok} {l:List Nat} {vs:List Value} (h:vs.Perm (l.map fun (j:Nat)=>Value.int (j:Int) (tk j))) : ∃ ns,IntsAre vs ns ∧ ns.Perm (l.map fun (j:Nat)=>(j:Int)):=by
 have all : ∀ v ∈ vs,∃ (z:Int) (t:Tok),v = Value.int z t:=fun v hv=>by
  obtain ⟨j,_,rfl⟩:=List.mem_map.mp (h.mem_iff.mp hv)
  exact ⟨_,_,rfl⟩
 let f:Value → Int:=fun v=>match v with | .int z _=>z | _=>0
 refine ⟨vs.map f,?_,?_⟩
 ·clear h
  induction vs with
  | nil=>exact .nil
  | cons v r ih=>
   obtain ⟨z,t,rfl⟩:=all v (List.mem_cons_self ..)
   exact .cons z t (ih fun u hu=>all u (List.mem_cons_of_mem _ hu))
 ·have:=h.map f
  rw [List.map_map] at this
  exact this
theorem call_setI (hc:X.calm = true) : CallR X (.type "set") (fun xs H Q=>∃ (p:Addr) (ns:List Int),xs = [.ref p] ∧ SqL X.K H p (ns.map V.int) ∧ (∃ a b:Nat,a < 8 ∧ b < 8 ∧ ∀ z ∈ ns,z = (a:Int) ∨ z = (b:Int)) ∧
  ∀ (q:Addr) (js:List Nat),H q = none → js ∈ subs2 → (∀ k:Nat,k ∈ js ↔ (k:Int) ∈ ns) → Q (.ref q) (upd H q (IsSet X.w q js))):=by
 intro pins s σ H xs us Q I r h
 obtain ⟨p,ns,rfl,hq,h6,q⟩:=h
 obtain ⟨u,rfl,rx⟩:=vals1 r
 cases rx
 obtain ⟨its,r',pl,hz⟩:=I.list hq
 refine call_set6 (I.ok.hd hc) pl.isList (intsAre_of r') h6 fun h' tk js a1 a2 a3 a4=>?_
 have hn:H s.heap.objs.size = none:=I.fresh
 obtain ⟨o,_,_,ho,_⟩:=id a3
 exact ⟨.ref s.heap.objs.size,_,I.laid (a:=s.heap.objs.size) (o:=IsSet X.w s.heap.objs.size js) (t':=tk) a4 (Nat.le_refl _) ⟨a3,⟨o,ho⟩,fun h1 h2 x k=>x.keep k⟩,rfl,q _ js hn a1 a2⟩
theorem call_sortedS (hc:X.calm = true) : CallR X (.builtin "sorted") (fun xs H Q=>∃ (p:Addr) (js:List Nat),xs = [.ref p] ∧ H p = some (IsSet X.w p js) ∧ js ∈ subs2 ∧
  ∀ q:Addr,H q = none → Q (.ref q) (upd H q (.lst (js.map fun (j:Nat)=>V.int j)))):=by
 intro pins s σ H xs us Q I r h
 obtain ⟨p,js,rfl,hq,hjs,q⟩:=h
 obtain ⟨u,rfl,rx⟩:=vals1 r
 cases rx
 obtain ⟨hS,_,_⟩:=I.hok p _ hq
 obtain ⟨o,tk,ep,ho,hex,hd⟩:=hS
 obtain ⟨hf,hl6,hup,hlt,_⟩:=wkF_all _ (led_mem (ledF X.w)) js hjs
 have line:js.length ≤ sizeLine:=by rw [sizeLine_eq]; omega
 refine Calls.call_function_entry kind_sorted plain_sorted entry_sorted (args_sorted1 _) ?_
 show wpAny (model X.prog X.w) X.A.in1 (do checkCount "sorted" 1 1 _; _) _ _ s
 refine wpAny_bind (m:=checkCount "sorted" 1 1 _) (wpAny_pure (wpAny_bind (PySem.W.kdu_collect (A:=X.A.in1) (src6 (tk:=tk) (ep:=ep) hjs) (I.ok.hd hc) ⟨o,ho,hex,hd⟩ line fun h' tk' acc hk hacc=>?_)))
 have hl:acc.toList.length = js.length:=by rw [Array.length_toList]; exact hacc.1
 refine wpAny_bind (wpAny_newList ?_ (by rw [hl]; exact line))
 have hrs:=row_size (w:=X.w) (a:=p) (js:=js) tk ep
 have eacc:acc.toList = (rowF X.w p ep (esF tk js).toArray).toList.map (·.2):=by
  refine List.ext_getElem? fun i=>?_
  rw [List.getElem?_map,Array.getElem?_toList,Array.getElem?_toList]
  cases e:acc[i]? with
  | some v=>rw [hacc.2 i v e]
  | none=>
   have:js.length ≤ i:=by rw [← hacc.1]; exact Array.getElem?_eq_none_iff.mp e
   rw [Array.getElem?_eq_none (by omega)]
   rfl
 have at1:(h'.push (seqObj "list" acc.toList.toArray 0)).get? h'.objs.size = some (seqObj "list" acc.toList.toArray 0):=Heap.get?_push_size _ rfl
 have hI : ∃ ns,IntsAre acc.toList ns ∧ ns.Perm (js.map fun (j:Nat)=>(j:Int)):=by
  have hpm:=(row_perm X.w p ep (esF tk js).toArray).map (·.2)
  rw [← eacc,List.toList_toArray] at hpm
  exact ints_perm (l:=js) (tk:=tk) (by simpa [esF,Function.comp_def] using hpm)
 obtain ⟨ns,hI,hperm⟩:=hI
 refine wpAny_bind (wpAny_holding (wpAny_call_entry slot_list_sort ⟨_,at1,rfl⟩ entry_list_sort (list_sort_tree at1 hI (by rw [hl]; omega) fun out ns' a1 a2 a3=>⟨_,rfl,?_⟩) (args_list_sort _)))
 have I1:Inv X pins σ H { s with heap:=h',toks:=tk' }:=I.kept hk
 obtain ⟨e,he⟩:=sortedHeap_at (out:=out) at1
 have old : ∀ b o,h'.get? b = some o → (sortedHeap (h'.push (seqObj "list" acc.toList.toArray 0)) h'.objs.size acc.toList out).get? b = some o:=fun b o z=>
  (sortedHeap_old (Nat.ne_of_lt (Heap.lt_size z)) (Heap.lt_size (Heap.get?_push_of_some _ z))).trans (Heap.get?_push_of_some _ z)
 have hn:H h'.objs.size = none:=I1.hok.fresh (Nat.le_refl _)
 have e3:=up_eq hup (a2.trans hperm) a3
 refine wpAny_pure ⟨_,rfl,.ref h'.objs.size,_,I1.laid (a:=h'.objs.size) (o:=.lst (js.map fun (j:Nat)=>V.int j)) (t':=tk') old (Nat.le_refl _) ⟨?_,out.toList,e,?_,he⟩,rfl,q _ hn⟩
 ·rw [List.length_map]; exact line
 ·have:=vals_ofInts a1
  rw [e3,List.map_map] at this
  exact this
end
end L2
namespace L2
open PySem PySem.Spec PyProof.Rows
section
variable {K:Type} [DecidableEq K]
end
section
variable {prog:Program} {w:World} {A:Around} {E:Value → Shared → Prop} {s:Shared}
end
section
variable {X:Cx}
end
end L2
namespace L2
open PySem PySem.Spec PyProof.Rows
section
variable {X:Cx}
end
section
variable {X:Cx} {K:PySem.W.Frag}
theorem sl_tupK (hK:X.K = K) : SlR X (rSlT K):=by
 subst hK
 exact sl_tup
theorem op_eqDK (hK:X.K = K) (hu:X.A.units + 64 < cLine) : OpR X (compareOp .Eq) (rEqD K):=by
 subst hK
 exact op_eqD hu
end
end L2
namespace L2
open PySem PySem.Spec PyProof.Rows
def ViewI (v d:Addr) : HO:=.ext fun h=>h.IsItemsView v d
theorem meets_itemsAny (d:Addr) (hd:(d == sysModules) = false) : Meets (Builtin.«dict.items» ⟨[.ref d],[]⟩) (fun _ R s=>(∃ o es ep,s.heap.get? d = some o ∧ o.ExactDict ∧ o.data = .dict es ep) ∧
  R (.ok (.ret (.ref s.heap.objs.size))) { s with heap:=s.heap.push { cls:=.type "dict_items",data:=.fields #[.ref d] } }):=
 .of_wp fun prog w A R s h=>by
  obtain ⟨hp,g,dr,tk,os⟩:=s
  obtain ⟨⟨o,es,ep,ho,hx,hdd⟩,h⟩:=h
  have hT:Shared.TypeIs ⟨hp,g,dr,tk,os⟩ (.ref d) "dict" := ⟨o,ho,hx.1⟩
  unfold Builtin.«dict.items» Builtin.Dict.showsAll
  wp_walk using wpAny_notOrdered_dict hT
  exact ⟨_,rfl,h⟩
def ItiT (a:Addr) (o:Obj) (kvs:List (List Key × V)) : It where
 go:=fun i H=>i < kvs.length ∧ H a = some (.frz o (.dT kvs))
 yld:=fun i H x H'=>∃ p kv b,H p = none ∧ x = .ref p ∧ kvs[i]? = some kv ∧ H b = some (.tup (kv.1.map kV)) ∧ H' = upd H p (.tup [.ref b,kv.2])
 stop:=fun i H=>kvs.length ≤ i ∧ H a = some (.frz o (.dT kvs))
section
variable {X:Cx}
theorem mt_itemsT:MtR X "dict.items" (fun x xs H Q=>∃ d kvs,x = .ref d ∧ xs = [] ∧ H d = some (.dT kvs) ∧ ∀ p,H p = none → Q (.ref p) (upd H p (ViewI p d))):=by
 intro pins s σ H x xs v us Q I rx rs h
 obtain ⟨d,kvs,rfl,rfl,hq,q⟩:=h
 cases rx
 cases rs
 obtain ⟨hz,hs,xs,r,o,es,ep,ho,hx,hd,he,nd⟩:=I.hok d _ hq
 refine call_meets PySem.F.slot_dict_items ⟨o,ho,hx.1⟩ PySem.F.entry_dict_items (PySem.F.args_dict_items_1 _) (meets_itemsAny d hs) ⟨⟨o,es,ep,ho,hx,hd⟩,?_⟩
 refine ⟨.ref s.heap.objs.size,_,I.laid (t':=s.toks) (o:=ViewI s.heap.objs.size d) (fun b ob q=>Heap.get?_push_of_some _ q) (Nat.le_refl _) ?_,rfl,q _ I.fresh⟩
 refine ⟨⟨_,Heap.get?_push_size _ rfl,rfl,rfl⟩,⟨_,Heap.get?_push_size _ rfl⟩,fun h1 h2 p k=>?_⟩
 obtain ⟨o,e,c,d⟩:=p
 exact ⟨o,k o e,c,d⟩
end
theorem entry_itemself:entryFor table "dict_itemiterator.__iter__" = some Builtin.«dict_keyiterator.__iter__» := entryFor_alias (id' := "dict_keyiterator.__iter__") (by kernel_rfl) rfl (by decide +kernel) (by kernel_rfl)
theorem itemIter_self {prog:Program} {w:World} {A:Around} {E:Value → Shared → Prop} {s:Shared} {it d:Addr} {i n ep:Nat} {ok ov:Value} {Q:Value → Shared → Prop} (hit:IsItemIter s.heap it d i n ep ok ov) (h:Q (.ref it) s) : wpAny (model prog w) A (pyIter (.ref it)) Q E s:=by
 have hT:s.TypeIs (.ref it) "dict_itemiterator" := ⟨_,hit,rfl⟩
 refine wpAny_pyIter_slot hT F.slot_dict_itemiterator_iter (wpAny_call_entry F.slot_dict_itemiterator_iter hT entry_itemself ?_ (F.args_dict_itemiterator_iter_1 _))
 unfold Builtin.«dict_keyiterator.__iter__»
 wp_walk
 exact ⟨_,rfl,"dict_itemiterator",_,hT,F.slot_dict_itemiterator_next.lookup,h⟩
theorem turn_iT {P:Program} {w:World} {K:PySem.W.Frag} {elts:List Expr} {k:Nat} {tpos:Pos} (a it:Addr) (o:Obj) (kvs:List (List Key × V)) (es:Array DictEntry) (ep:Nat) (hd:o.data = .dict es ep) :
  Turn P w K (.Tuple elts k tpos) (ItiT a o kvs) [it] it (fun i h=>∃ ok ov,IsItemIter h it a i kvs.length ep ok ov) where
 mem:=by simp
 obj := fun i h st b hb=>by
  have e:b = it:=by simpa using hb
  subst e
  obtain ⟨ok,ov,st⟩:=st
  exact ⟨_,st,fun v z=>by
   have z':Data.fields _ = Data.cell v:=z
   cases z'⟩
 keep:=fun i h h' st k=>st.imp fun ok=>Exists.imp fun ov st=>k it (by simp) _ st
 item:=by
  intro X hP hw hK hc i pins s σ H E I hf st hg
  subst hP hw hK
  obtain ⟨hi,hq⟩:=hg
  obtain ⟨ho,hz,hs,xs,r,o',es',ep',ho',hx',hd',he,nd⟩:=I.hok a _ hq
  cases Option.some.inj (ho'.symm.trans ho)
  rw [hd] at hd'
  cases hd'
  have hsz:es.size = kvs.length:=by
   have e1:=congrArg List.length he
   rw [List.length_map,← Paired.length r] at e1
   simpa using e1
  obtain ⟨kv,ekv⟩ : ∃ kv,kvs[i]? = some kv:=⟨kvs[i],by simp [hi]⟩
  obtain ⟨x,ex,e1,e2,e3⟩:=paired_get r ekv
  have hlt:i < es.size:=by omega
  have hent:es[i] = entryOfKey (tupleKind (mixKind X.prog X.w)) x:=by
   have h1:es.toList[i]? = some es[i]:=by simp [hlt]
   rw [he,List.getElem?_map,ex] at h1
   exact (Option.some.inj h1).symm
  have hkey:es[i].key = .ref x.2.1:=by rw [hent]; rfl
  have hval:es[i].val = x.2.2:=by rw [hent]; rfl
  obtain ⟨ok,ov,st⟩:=st
  rw [← hsz] at st
  refine next_item st ho hd hlt fun h' io ht hk=>?_
  rw [hkey,hval] at ht
  refine ⟨_,rfl,wpAny_letOwnedTupleGo_items io fun h'' it' sb=>?_⟩
  have ne:s.heap.objs.size ≠ it:=Ne.symm (Nat.ne_of_lt (Heap.lt_size st))
  have ht'':=(sb.2 s.heap.objs.size ne).trans ht
  have hb:H x.2.1 = some (.tup (kv.1.map kV)):=by rw [e1]; rw [e1] at e2; exact e2
  refine ⟨.ref s.heap.objs.size,upd H s.heap.objs.size (.tup [.ref x.2.1,kv.2]),?_,rfl,⟨_,kv,x.2.1,I.fresh,rfl,ekv,hb,rfl⟩,⟨_,_,by rw [← hsz]; exact it'⟩,fun b hb'=>?_⟩
  ·refine I.turnedNew (ch:=[it]) (t':=s.toks) hf (fun b o hb q=>?_) (Nat.le_refl _) ⟨(by show 2 ≤ sizeLine; decide),[.ref x.2.1,x.2.2],.cons rfl (.cons e3 .nil),_,ht'',rfl,_,rfl⟩
   have hb1:b ≠ it:=fun z=>hb (by simp [z])
   exact (sb.2 b hb1).trans (hk b o hb1 q)
  ·have e:b = it:=by simpa using hb'
   subst e
   rw [upd_ne (Ne.symm ne)]
   exact (hf b (by simp)).1
 done:=by
  intro X hP hw hK hc i pins s σ H E I hf st hg
  subst hP hw hK
  obtain ⟨hi,hq⟩:=hg
  obtain ⟨ho,hz,hs,xs,r,o',es',ep',ho',hx',hd',he,nd⟩:=I.hok a _ hq
  cases Option.some.inj (ho'.symm.trans ho)
  rw [hd] at hd'
  cases hd'
  have hsz:es.size = kvs.length:=by
   have e1:=congrArg List.length he
   rw [List.length_map,← Paired.length r] at e1
   simpa using e1
  obtain ⟨ok,ov,st⟩:=st
  rw [← hsz] at st
  obtain ⟨f0,f1,f2,f3,f4,f5⟩:=hf it (by simp)
  exact next_item_end (I.ok.hd hc) st ho hd (by omega) fun h' eb=>⟨rfl,I.turned (t':=s.toks) (fun b o hb e=>eb b o hb e) f0 f1 f3 f4 f5⟩
 self:=fun _ _ _ _ _ ⟨_,_,st⟩ h=>itemIter_self st h
def iIt (tl:TE) : TI:=fun σ H R=>tl σ H fun x H1=>∃ v a kvs,x = .ref v ∧ H1 v = some (ViewI v a) ∧ H1 a = some (.dT kvs) ∧ ∀ o,R (ItiT a o kvs) (upd H1 a (.frz o (.dT kvs)))
theorem pi_iT {X:Cx} {elts:List Expr} {k:Nat} {tpos:Pos} {l:Expr} {tl:TE} (hl:PE X l tl) : PI X (.Tuple elts k tpos) l (iIt tl):=by
 intro pins s σ H R I h
 refine thn (hl pins s σ H _ I h) fun v s1 ⟨x,H1,I1,r1,q1⟩=>?_
 obtain ⟨v,a,kvs,e,hv,hq,q⟩:=q1
 subst e
 cases r1
 obtain ⟨hz,hs,xs,r,o,es,ep,ho,hx,hd,he,nd⟩:=I1.hok a _ hq
 have hsz:es.size = kvs.length:=by
  have e1:=congrArg List.length he
  rw [List.length_map,← Paired.length r] at e1
  simpa using e1
 obtain ⟨hvv,_,_⟩:=(show ObjOk X.prog X.w H1 s1.heap v (ViewI v a) from I1.hok v _ hv)
 refine iter_item hvv ho hd ?_
 have I2:=I1.freeze (show Mut (some (HO.dT kvs)) from True.intro) hq ho
 have hn:upd H1 a (.frz o (.dT kvs)) s1.heap.objs.size = none:=I2.hok.fresh (Nat.le_refl _)
 refine ⟨s1.heap.objs.size,[s1.heap.objs.size],_,_,_,rfl,I2.kept (t':=s1.toks) fun b o e=>Heap.get?_push_of_some _ e,turn_iT a _ o kvs es ep hd,⟨.none,.none,?_⟩,fun b hb=>?_,q o⟩
 ·rw [← hsz]
  exact Heap.get?_push_size _ rfl
 ·have e:b = s1.heap.objs.size:=by simpa using hb
  subst e
  exact I2.fpOk (Nat.le_refl _) hn
theorem lc_iT {a:Addr} {o:Obj} {kvs:List (List Key × V)} {g:TG} {ti:TT} {te:TE} {σ0:St} {H0:Hp} {Q:VK} (Pv:Nat → List V → St → Hp → Prop) (h0:Pv 0 [] σ0 H0)
  (hl : ∀ i ys σ H,i ≤ kvs.length → Pv i ys σ H → H a = some (.frz o (.dT kvs)) ∧ ys.length ≤ sizeLine)
  (hs : ∀ i kv b p ys σ H,kvs[i]? = some kv → H b = some (.tup (kv.1.map kV)) → H p = none → Pv i ys σ H → g (.ref p) σ (upd H p (.tup [.ref b,kv.2])) fun σ2 H2=>ti σ2 H2 fun c H3=>if c = true then te σ2 H3 fun y H4=>Pv (i + 1) (ys ++ [y]) σ2 H4 else Pv (i + 1) ys σ2 H3)
  (hd : ∀ ys σ H,Pv kvs.length ys σ H → ∀ p,H p = none → Q (.ref p) (upd H p (.lst ys))) :
  ∃ W : Nat → Nat → List V → St → Hp → Prop,(∃ m,W 0 m [] σ0 H0) ∧ ∀ i m ys σ H,W i m ys σ H →
   ys.length ≤ sizeLine ∧ (((ItiT a o kvs).stop i H ∧ lcEnd Q ys H) ∨
    ((ItiT a o kvs).go i H ∧ ∃ N:List V → St → Hp → Prop,(∀ ys' σ' H',N ys' σ' H' → ∃ m',m' < m ∧ W (i + 1) m' ys' σ' H') ∧
     ∀ x H',(ItiT a o kvs).yld i H x H' → g x σ H' fun σ2 H2=>ti σ2 H2 fun b H3=>if b = true then te σ2 H3 fun y H4=>N (ys ++ [y]) σ2 H4 else N ys σ2 H3)):=by
 refine ⟨fun i m ys σ H=>m = kvs.length - i ∧ i ≤ kvs.length ∧ Pv i ys σ H,⟨kvs.length,by simp,Nat.zero_le _,h0⟩,?_⟩
 rintro i m ys σ H ⟨rfl,hi,p⟩
 obtain ⟨q,hz⟩:=hl i ys σ H hi p
 refine ⟨hz,?_⟩
 by_cases hlt:i < kvs.length
 ·refine .inr ⟨⟨hlt,q⟩,Pv (i + 1),fun ys' σ' H' p'=>⟨kvs.length - (i + 1),by omega,rfl,hlt,p'⟩,fun x H' y=>?_⟩
  obtain ⟨c,kv,b,hc,rfl,ek,eb,rfl⟩:=y
  exact hs i kv b c ys σ H ek eb hc p
 ·have e:i = kvs.length:=by omega
  subst e
  exact .inl ⟨⟨Nat.le_refl _,q⟩,hd ys σ H p⟩
theorem op_in_seqK {X:Cx} {K:PySem.W.Frag} (hK:X.K = K) : OpR X (compareOp .In) (rIn K false):=by
 subst hK
 exact op_in_seq
end L2
namespace L2
open PySem PySem.Spec PyProof.Rows
section
variable {X:Cx}
theorem call_isSeq:CallR X (.builtin "isinstance") (fun xs H Q=>∃ x q,xs = [.ref x,.ref q] ∧ H q = some (.tup [.ty "list",.ty "tuple"]) ∧ ((∃ ys,SqL X.K H x ys) ∨ ∃ ys,SqT X.K H x ys) ∧ Q (.bl true) H):=by
 intro pins s σ H xs us Q I r h
 obtain ⟨x,q,rfl,hq,hx,k⟩:=h
 obtain ⟨u,w,rfl,r1,r2⟩:=vals2 r
 cases r1
 cases r2
 obtain ⟨ts,rt,ht,_⟩:=I.tuple (SqT.of hq)
 obtain ⟨a,b,rfl,ra,rb⟩:=vals2 rt
 obtain rfl:a = Value.type "list" := ra
 obtain rfl:b = Value.type "tuple" := rb
 obtain ⟨⟨c,dd,dt,sl⟩,ho,hc,n,hd⟩:=ht
 simp only at hc hd
 subst hc hd
 have fin : ∀ tk,EP X pins σ Q (.bool true) { s with toks:=tk }:=fun tk=>⟨.bl true,H,I.tok tk,rfl,k⟩
 rcases hx with ⟨ys,hy⟩ | ⟨ys,hy⟩
 ·obtain ⟨its,_,pl,_⟩:=I.list hy
  obtain ⟨o,ho2,hc2,_⟩:=pl.isList
  exact PySem.W.kia_tup (its:=[.type "list",.type "tuple"]) PySem.W.kitx_list I.kIn ⟨o,ho2,hc2⟩ ho rfl (fun z=>nomatch z) fin
 ·obtain ⟨its,_,⟨o,ho2,hc2,_⟩,_⟩:=I.tuple hy
  exact PySem.W.kia_tup (its:=[.type "list",.type "tuple"]) PySem.W.kitx_tuple I.kIn ⟨o,ho2,hc2⟩ ho rfl (fun z=>nomatch z) fin
def iOr (a b:TI) : TI:=fun σ H R=>a σ H R ∨ b σ H R
theorem pi_or {tg l:Expr} {a b:TI} (h1:PI X tg l a) (h2:PI X tg l b) : PI X tg l (iOr a b):=by
 intro pins s σ H R I h
 rcases h with h | h
 ·exact h1 pins s σ H R I h
 ·exact h2 pins s σ H R I h
theorem pi_seq {tg l:Expr} {tl:TE} (hl:PE X l tl) : PI X tg l (iOr (iList X.K tl) (iTup X.K tl)):=pi_or (pi_list hl) (pi_tup hl)
end
def tTruth (K:PySem.W.Frag) (t:TE) : TT:=fun σ H Q=>t σ H fun x H'=>∃ k,TruV K x H' k ∧ Q k H'
theorem pt_truthK {X:Cx} {K:PySem.W.Frag} {a:Expr} {ta:TE} (hK:X.K = K) (ha:PE X a ta) (he : ∀ whole,isTrue a X.env whole = (do let v ← whole; standAt a.pos; holding [v] (truthy v))) :
  PT X a (tTruth K ta):=by
 subst hK
 exact pt_truth ha he
end L2
namespace L2
open PySem PySem.Spec PyProof.Rows
section
variable {X:Cx} {CX:CXT} {k:Nat} {C f:Addr} {fd:FuncData} {ps ks:List Str} {sp:Sp} {E:XK} {g:List Value → List Value → List Value} {gV:List V → List V → List V} {x:Str} {p pos:Pos} {e:Expr} {es:List Expr} {kws:List Keyword} {t tk:TA}
theorem run_makeK {pins:List (Addr × Obj)} {σ : St} {H:Hp} {s:Shared} {Q:VK} {us ws:List Value} {vs zs:List V} (M:Mk X.K C f) (F:FnOk X.prog X.w X.K X.mg X.base CX k f fd ps sp) (hr:Room (k + 1) X.A) (hb:KBinds X.K fd ps ks g gV)
  (hx:Passes CX X E) (I:Inv X pins σ H s) (r:Vals vs us) (rz:Vals zs ws)
  (h : ∀ x dx,H x = none → H dx = none → dx ≠ x → sp (gV (.ref x :: vs) zs) (upd (upd H dx (.own x)) x (.ins C dx [])) (fun v H2=>v = .non ∧ Q (.ref x) H2) E) :
  wpAny (model X.prog X.w) X.A (call (.ref C) us (ks.zip ws)) (EP X pins σ Q) X.xe s:=by
 have hq:=h (s.heap.objs.size + 1) s.heap.objs.size (I.hok.fresh (Nat.le_succ _)) (I.hok.fresh (Nat.le_refl _)) (Nat.ne_of_lt (Nat.lt_succ_self _))
 have I2:=Inv.made (C:=C) I
 have r2:=hb.rel (Paired.cons (show RelV (V.ref (s.heap.objs.size + 1)) (Value.ref (s.heap.objs.size + 1)) from rfl) r) rz
 have hl:(g (Value.ref (s.heap.objs.size + 1) :: us) ws).length = ps.length:=by
  rw [← Paired.length r2]
  exact F.len _ _ _ _ hq
 refine wpAny_call (make_map (f:=f) I.kIn M.makes M.init (beq_iff_eq.mp M.fn) (codeAny_mono (F.run _ X.stack _ _ ⟨Value.ref (s.heap.objs.size + 1) :: us,ks.zip ws⟩ _ _ _ E (hr.make C us (ks.zip ws))
  (I2.env0.make C us (ks.zip ws)) (hb.to _ _ _ I2.kIn hl) r2 hq) fun r s' hq'=>?_))
 cases r with
 | error e=>exact hx pins σ _ _ e s' I2 hq'
 | ok fl=>
  cases fl with
  | ret u=>
   obtain ⟨v,H',I3,rv,ev,q3⟩:=I2.after hq'
   subst ev
   exact ⟨rv,⟨V.ref (s.heap.objs.size + 1),H',I3,rfl,q3⟩⟩
  | next=>exact False.elim hq'
  | brk=>exact False.elim hq'
  | cont=>exact False.elim hq'
def tMakeK (C:Addr) (sp:Sp) (gV:List V → List V → List V) (E:XK) (t tk:TA) : TE:=fun σ H Q=>t σ H fun vs H1=>tk σ H1 fun zs H2=>∀ x dx,H2 x = none → H2 dx = none → dx ≠ x → sp (gV (.ref x :: vs) zs) (upd (upd H2 dx (.own x)) x (.ins C dx [])) (fun v H3=>v = .non ∧ Q (.ref x) H3) E
theorem pe_makeK (M:Mk X.K C f) (F:FnOk X.prog X.w X.K X.mg X.base CX k f fd ps sp) (hr:Room (k + 1) X.A) (hg:Gl X x) (hm:X.mg x = some (.ref C)) (hb:KBinds X.K fd ps ks g gV) (hx:Passes CX X E)
  (ha:PA X (e :: es) t) (hkw:PK X kws tk) (hall:autoParam ((backToKw pos (keywordEach kws X.env)).all (·.1.isSome) = true) aP1) (hks:autoParam ((backToKw pos (keywordEach kws X.env)).filterMap (·.1) = ks) aP1)
  (hdb:autoParam ((x == ("__debug__" : Str)) = false) aP2) (he:autoParam (starEach (e :: es) X.env = (false,eval e X.env) :: starEach es X.env) aP1)
  (hpl:autoParam (((backTo pos (starEach (e :: es) X.env)).any (·.1) || (backToKw pos (keywordEach kws X.env)).any (·.1.isNone)) = false) aP1) :
  PE X (.Call (.Name x p) (e :: es) kws pos) (tMakeK C sp gV E t tk):=by
 intro pins s σ H Q I h
 refine wpAny_Call_Name_kw (ld_glob I hg hm ?_ hdb)
 refine PySem.W.callWith_KW (h₀:=X.base) I.ok.mod.kin M.kp hall (thn (ha pos pins s σ H _ I h) fun us s1 ⟨vs,H1,I1,r,q⟩=>?_) hpl he
 refine thn (hkw pos pins s1 σ H1 _ I1 q) fun ws s2 ⟨zs,H2,I2,rz,q2⟩=>⟨I2.kIn,?_⟩
 rw [hks]
 exact run_makeK M F hr hb hx I2 r rz q2
end
section
variable {X:Cx}
end
section
variable {X:Cx} {K:PySem.W.Frag}
theorem op_notIn_seqK (hK:X.K = K) : OpR X (compareOp .NotIn) (rIn K true):=by
 subst hK
 exact op_notIn_seq
theorem op_neDK (hK:X.K = K) (hu:X.A.units + 64 < cLine) : OpR X (compareOp .NotEq) (rNeD K):=by
 subst hK
 exact op_neD hu
end
end L2
namespace L2
open PySem PySem.Spec PyProof.Rows
end L2
namespace PySem
section
variable {prog:Program} {w:World} {A:Around} {E:Value → Shared → Prop} {h:Heap} {g:Array GenState} {d:Drawn} {t:Nat} {os:OsState}
variable {nm q:Str} {C N:Addr} {bs bm bmB:List Value} {hdct:Bool} {sn:List Str} {sub:List Value} {ab:Bool} {col:Option Bool} {dd:Option Addr} {k0 k1 k2 k3 k5:Option Value} {B newId initId:String}
end
end PySem
namespace PySem
open Builtin Builtin.ObjectAttr
section
variable {prog:Program} {w:World} {A:Around} {E:Value → Shared → Prop} {h:Heap} {g:Array GenState} {d:Drawn} {t:Nat} {os:OsState}
variable {nm q:Str} {C N x:Addr} {bs bm:List Value} {hdct:Bool} {sn:List Str} {sub:List Value} {ab:Bool} {col:Option Bool} {dd:Option Addr} {k0 k1 k2 k3 k5:Option Value} {newId:String} {name:Str} {v:Value} {o:Obj}
end
end PySem
namespace L2
open PySem PySem.Spec PyProof.Rows
section
variable {X:Cx} {pins:List (Addr × Obj)} {σ : St} {H:Hp} {s:Shared}
end
section
variable {P:Program} {w:World} {K:PySem.W.Frag} {mg:Str → Option Value} {base:Heap} {N:List Str} {qual:Str} {scope:Scope} {f:Addr} {cd:Value} {A:Around} {outer:List Env} {s:Shared} {H:Hp} {E:XK}
end
end L2
namespace L2
open PySem PySem.Spec PyProof.Rows
section
variable {P:Program} {w:World} {K:PySem.W.Frag} {mg:Str → Option Value} {base:Heap}
end
section
variable {X:Cx}
end
end L2
namespace L2
open PySem PySem.Spec PyProof.Rows
section
variable {X:Cx} {pins pn:List (Addr × Obj)} {σ : St} {H H':Hp} {s s':Shared}
end
section
variable {X:Cx}
end
end L2
namespace L2
open PySem PySem.Spec PyProof.Rows
end L2
namespace L2
open PySem PySem.Spec PyProof.Rows
end L2
namespace L2
open PySem PySem.Spec PyProof.Rows
end L2
namespace L2
open PySem PySem.Spec PyProof.Rows
section
variable {X:Cx} {pn:List (Addr × Obj)}
end
section
variable {X:Cx}
end
end L2
namespace L2
open PySem PySem.Spec PyProof.Rows
def kb24 {α : Type} : List α → List α → List α
 | [a,b],[c,d,e,f]=>[a,b,c,d,e,f]
 | _,_=>[]
theorem kb_rel24 {vs:List V} {us:List Value} {zs:List V} {ws:List Value} (r1:Vals vs us) (r2:Vals zs ws) : Vals (kb24 vs zs) (kb24 us ws):=by
 cases r1 with
 | nil=>exact .nil
 | cons a r1 =>
  cases r1 with
  | nil=>exact .nil
  | cons b r1 =>
   cases r1 with
   | cons _ _=>exact .nil
   | nil =>
    cases r2 with
    | nil=>exact .nil
    | cons c r2=>
     cases r2 with
     | nil=>exact .nil
     | cons d r2=>
      cases r2 with
      | nil=>exact .nil
      | cons e r2=>
       cases r2 with
       | nil=>exact .nil
       | cons f r2=>
        cases r2 with
        | nil=>exact .cons a (.cons b (.cons c (.cons d (.cons e (.cons f .nil)))))
        | cons _ _=>exact .nil
theorem dc_range {lo:Int} {n:Nat} {D:Addr} {g:TG} {ti:TT} {tk tv:TE} {σ0:St} {H0:Hp} {QF:Hp → Prop} (Pv:Nat → St → Hp → Prop) (h0:Pv 0 σ0 H0)
  (hs : ∀ i σ H,i < n → Pv i σ H → g (.int (lo + i)) σ H fun σ2 H2=>ti σ2 H2 fun b H3=>if b = true then tk σ2 H3 fun y H4=>tv σ2 H4 fun z H5=>∃ H6,DPut H5 D y z H6 ∧ Pv (i + 1) σ2 H6 else Pv (i + 1) σ2 H3)
  (hd : ∀ σ H,Pv n σ H → QF H) : ∃ W:Nat → Nat → St → Hp → Prop,(∃ m,W 0 m σ0 H0) ∧ DcW (Itr lo n) g ti tk tv D QF W:=by
 refine ⟨fun i m σ H=>m = n - i ∧ i ≤ n ∧ Pv i σ H,⟨n,by simp,Nat.zero_le _,h0⟩,?_⟩
 rintro i m σ H ⟨rfl,hi,p⟩
 by_cases hlt:i < n
 ·refine .inr ⟨hlt,Pv (i + 1),fun σ' H' p'=>⟨n - (i + 1),by omega,rfl,hlt,p'⟩,fun x H' y=>?_⟩
  obtain ⟨e,y⟩:=y
  subst e y
  exact hs i σ _ hlt p
 ·have e:i = n:=by omega
  subst e
  exact .inl ⟨Nat.le_refl _,hd σ H p⟩
theorem paired_back {α β : Type} {R : α → β → Prop} : ∀ {xs:List α} {ys:List β} {i:Nat} {y : β},Paired R xs ys → ys[i]? = some y → ∃ x,xs[i]? = some x ∧ R x y
 | _,_,i,y,.nil,e=>by simp at e
 | _,_,0,y,.cons h _,e=>by
  cases Option.some.inj e
  exact ⟨_,rfl,h⟩
 | _,_,i + 1,y,.cons _ t,e=>paired_back (i:=i) t e
section
variable {X:Cx}
end
structure ClsM (K:PySem.W.Frag) (C:Addr) (m:Str) (f:Addr) : Prop where
 sp:PySem.W.specialIn K (.ref C) "__getattribute__" = some (some (.builtin "type.__getattribute__"))
 rd:PySem.W.readsIn K C (.type "type") = true
 at_:PySem.W.findCls K (.ref C) (.type "type") m = some (.val (.ref f))
 kp:PySem.W.keepIn K (.ref f) = true
section
variable {X:Cx} {CX:CXT} {E:XK} {k:Nat} {f C:Addr} {fd:FuncData} {ps:List Str} {sp:Sp} {dvs:List V} {ds:List Value} {x m:Str} {p apos pos:Pos} {e:Expr} {es:List Expr} {t:TA}
theorem pe_clsM {pl:Sem Bool} (hg:Gl X x) (hC:X.mg x = some (.ref C)) (hm:ClsM X.K C m f) (F:FnOk X.prog X.w X.K X.mg X.base CX k f fd ps sp) (hr:Room k X.A) (hb:Binds X.K fd ps ds) (hd:Vals dvs ds) (hx:Passes CX X E) (ha:PA X (e :: es) t)
  (hdb:autoParam ((x == ("__debug__" : Str)) = false) aP2) (hst:autoParam (starEach (e :: es) X.env = (false,eval e X.env) :: starEach es X.env) aP1) (hpl:autoParam ((backTo pos (starEach es X.env)).any (·.1) = false) aP1)
  (ht:autoParam (eval (.Call (.Attribute (.Name x p) m apos) (e :: es) [] pos) X.env = (do
   let ov ← eval (.Name x p) X.env
   standAt apos.atName
   let (f,first) ← holding [ov] (getMethod ov m pl)
   callWith pos f first (backTo pos (starEach (e :: es) X.env)) (backToKw pos (keywordEach [] X.env)))) aP1) :
  PE X (.Call (.Attribute (.Name x p) m apos) (e :: es) [] pos) (tCall sp dvs E t):=by
 intro pins s σ H Q I h
 refine PySem.W.methodCall_KW (pl:=pl) (thn (ld_glob (Q:=EP X pins σ fun v H'=>v = V.ref C ∧ H' = H) I hg hC ⟨V.ref C,H,I,rfl,rfl,rfl⟩ hdb) fun u s1 ⟨y,H1,I1,ry,ey,eH⟩=>?_) ht
 subst ey eH
 obtain rfl:u = Value.ref C:=ry
 refine PySem.W.method_cls I1.kIn hm.sp (PySem.W.cls_value I1.kIn hm.rd hm.at_ rfl ?_)
 have I2:=I1.tok (s1.toks + 1)
 refine PySem.W.callWith_K (first:=[]) (h₀:=X.base) I.ok.mod.kin hm.kp (thn (ha pos pins _ σ H1 _ I2 h) fun us s2 ⟨vs,H2,I3,r,q2⟩=>⟨I3.kIn,?_⟩) hst hpl
 exact run_fn F hr hb hd hx I3 r q2
end
section
variable {X:Cx}
end
end L2
namespace L2
open PySem PySem.Spec PyProof.Rows
end L2
namespace L2
open PySem PySem.Spec PyProof.Rows
open AutoSeq1 (wpAny_loadPart')
theorem rm_walk {l:Addr} {its:List Value} {n:Nat} {x:Value} {e:Value → Bool} {j:Nat} {y:Value} (hj:its[j]? = some y) (hit:e y = true) (hz:its.length ≤ sizeLine) :
  ∀ (d i:Nat),i + d = j → (∀ m z,i ≤ m → m < j → its[m]? = some z → e z = false) → Meets (Builtin.«list.remove.loop» ⟨[.ref l,x,rawInt i],[]⟩)
   (fun A R s=>s.heap.get? l = some { cls:=.type "list",dict:=none,data:=.seq its.toArray n,slots:=#[] } ∧ (∀ u ∈ its,SeqAt.EqAt A.in1 s u x (e u)) ∧ R (.ok (.ret .none)) { s with heap:=s.heap.update l (Obj.mapSeq fun xs=>xs.eraseIdxIfInBounds j) })
 | d,i,hd,hno=>by
  intro prog w A R s h
  obtain ⟨hp,g,dp,tk,os⟩:=s
  obtain ⟨hl,he,h⟩:=h
  have lt:i < its.length:=by
   have:=(List.getElem?_eq_some_iff.mp hj).1
   omega
  obtain ⟨v,hv⟩ : ∃ v,its[i]? = some v:=⟨_,List.getElem?_eq_getElem lt⟩
  have hi:its.toArray[((i:Nat) : Int).toNat]? = some v:=by simpa using hv
  have hs1:its.toArray.size ≤ sizeLine:=by rw [List.size_toArray]; exact hz
  wp_walk using wpAny_loadPart' hl
  rw [hi]
  refine wpAny_bind (he v (List.mem_of_getElem? hv) prog w _ _ ?_)
  cases d with
  | zero=>
   have e1:i = j:=by omega
   subst e1
   rw [hj] at hv
   cases hv
   rw [hit]
   wp_walk using wpAny_loadPart' hl
   have small:(Obj.mapSeq (fun x=>x.eraseIdxIfInBounds ((i:Nat) : Int).toNat) { cls:=Value.type "list",data:=Data.seq its.toArray n }).data.pastItsLine = none:=by
    refine pastItsLine_seq (Nat.le_trans ?_ (Nat.le_succ_of_le hz))
    show (its.toArray.eraseIdxIfInBounds ((i:Nat) : Int).toNat).size ≤ its.length
    rw [List.eraseIdxIfInBounds_toArray,List.size_toArray]
    exact List.length_eraseIdx_le _ _
   rw [small]
   wp_walk
   exact h
  | succ d=>
   rw [hno i v (Nat.le_refl _) (by omega) hv]
   wp_walk
   have ec:((i:Int) + 1) = ((i + 1:Nat) : Int):=by push_cast; rfl
   rw [ec]
   refine ⟨plainId_quiet MeetsSeq.plain_remove_loop _,codeAny_builtin MeetsSeq.entry_remove_loop ?_⟩
   rw [Around.under_plainId MeetsSeq.plain_remove_loop _]
   exact rm_walk hj hit hz d (i + 1) (by omega) (fun m z h1 h2=>hno m z (by omega) h2) prog w A R _ ⟨hl,he,h⟩
theorem rm_list {l:Addr} {its:List Value} {n:Nat} {x:Value} {e:Value → Bool} {j:Nat} {y:Value} (hj:its[j]? = some y) (hit:e y = true) (hz:its.length ≤ sizeLine) (hno : ∀ m z,m < j → its[m]? = some z → e z = false) :
  Meets (Builtin.«list.remove» ⟨[.ref l,x],[]⟩)
   (fun A R s=>s.heap.get? l = some { cls:=.type "list",dict:=none,data:=.seq its.toArray n,slots:=#[] } ∧ (∀ u ∈ its,SeqAt.EqAt A.in1 s u x (e u)) ∧ R (.ok (.ret .none)) { s with heap:=s.heap.update l (Obj.mapSeq fun xs=>xs.eraseIdxIfInBounds j) }):=by
 intro prog w A R s h
 obtain ⟨hp,g,dp,tk,os⟩:=s
 have go:=rm_walk (l:=l) (n:=n) (x:=x) hj hit hz j 0 (Nat.zero_add j) (fun m z _ h2=>hno m z h2) prog w A R _ h
 wp_walk using wpAny_loadPart' h.1
 refine ⟨plainId_quiet MeetsSeq.plain_remove_loop _,codeAny_builtin MeetsSeq.entry_remove_loop ?_⟩
 rw [Around.under_plainId MeetsSeq.plain_remove_loop _]
 exact go
def rRemT (K:PySem.W.Frag) : V → List V → Hp → VK → Prop:=fun x vs H Q=>∃ l xs y n nss,x = .ref l ∧ vs = [y] ∧ H l = some (.lst xs) ∧ TupI K H y n ∧ Paired (TupI K H) xs nss ∧ n ∈ nss ∧ Q .non (upd H l (.lst (xs.eraseIdx (nss.idxOf n))))
section
variable {X:Cx}
theorem mt_removeT (hu:X.A.units + 64 < cLine) : MtM X "list.remove" (rRemT X.K):=by
 intro pins s σ H x vs v us Q I rx rv h
 obtain ⟨l,xs,y,n,nss,rfl,rfl,hH,hy,hs,hm,q⟩:=h
 cases rx
 obtain ⟨u,rfl,ru⟩:=rv.one
 obtain ⟨z,its,k,r,hl,e⟩:=I.lstM hH
 have lx:=Paired.length hs
 have hi:nss.idxOf n < nss.length:=List.idxOf_lt_length_iff.mpr hm
 obtain ⟨w,hw,rw'⟩:=r.get (List.getElem?_eq_getElem (show nss.idxOf n < xs.length by omega))
 have is : ∀ (m:Nat) (v:Value),its[m]? = some v → ∃ t,nss[m]? = some t ∧ isT X.K H n v = decide (t = n):=fun m v hv=>by
  obtain ⟨x',hx',rv'⟩:=paired_back r hv
  obtain ⟨t,ht,q'⟩:=paired_get hs hx'
  exact ⟨t,ht,isT_is I q' rv'⟩
 have yes:isT X.K H n w = true:=by
  obtain ⟨t,ht,q'⟩:=is _ _ hw
  rw [List.getElem?_eq_getElem hi,List.getElem_idxOf hi] at ht
  rw [q',← Option.some.inj ht]
  exact decide_eq_true rfl
 refine call_meets F.slot_list_remove ⟨_,e,rfl⟩ F.entry_list_remove (F.args_list_remove_2 _ _) (rm_list (e:=isT X.K H n) hw yes (by omega) (fun m v hlt hv=>?_)) ⟨e,fun v hv=>tups_eqAt I ?_ hy ru r hs v hv,?_⟩
 ·obtain ⟨t,ht,q'⟩:=is _ _ hv
  rw [q']
  refine decide_eq_false fun z=>?_
  subst z
  obtain ⟨a1,b1⟩:=List.getElem?_eq_some_iff.mp ht
  have no:=List.not_of_lt_findIdx (p:=(· == t)) (xs:=nss) (i:=m) hlt
  rw [b1] at no
  simp at no
 ·first | (have e:X.A.in1.units = X.A.units + 1:=rfl; omega) | (have e:X.A.in1.units = X.A.units:=rfl; omega) | (have e:=Around.units_in1 X.A; omega)
 ·refine ⟨.non,_,I.lset (its':=its.eraseIdx (nss.idxOf n)) hH e ?_ (r.eraseIdx _) ?_,rfl,q⟩
  ·show its.toArray.eraseIdxIfInBounds _ = (its.eraseIdx _).toArray
   rw [List.eraseIdxIfInBounds_toArray]
  ·have:=List.length_eraseIdx_le xs (nss.idxOf n)
   omega
end
end L2
namespace L2
open PySem PySem.Spec PyProof.Rows
section
variable {X:Cx}
theorem paired_mk {α β : Type} {F : α → β → Prop} : ∀ {xs:List α} {ys:List β},xs.length = ys.length → (∀ (i:Nat) x y,xs[i]? = some x → ys[i]? = some y → F x y) → Paired F xs ys
 | [],[],_,_=>.nil
 | x :: xs,y :: ys,e,h=>.cons (h 0 x y rfl rfl) (paired_mk (Nat.succ.inj e) fun i a b ea eb=>h (i + 1) a b ea eb)
theorem call_listD (hc:X.calm = true) : CallR X (.type "list") (fun xs H Q=>∃ (p:Addr) (kvs:List (Key × V)),xs = [.ref p] ∧ H p = some (.dK kvs) ∧ ∀ l,H l = none → Q (.ref l) (upd H l (.lst (kvs.map fun kv=>kV kv.1)))):=by
 intro pins s σ H xs us Q I r h
 obtain ⟨p,kvs,rfl,hp,q⟩:=h
 obtain ⟨u,rfl,rx⟩:=vals1 r
 cases rx
 obtain ⟨hz,lo,vs,rel,o,es,ep,ho,hx,hd,r1,r2,r3⟩:=I.hok p _ hp
 have hm:s.heap.DictAt (mixKind X.prog X.w) p vs ep:=⟨o,es,ho,hx,hd,r1,r2,r3⟩
 have hlen:kvs.length = vs.length:=Paired.length rel
 refine PySem.W.kdl_call (PySem.W.kdl_dict (knd:=mixKind X.prog X.w) (kvs:=vs) (ep:=ep) lo) (I.ok.hd hc) hm (by omega) fun h' tk acc' c' hk hD hacc=>?_
 refine ⟨.ref s.heap.objs.size,_,I.laid (t':=tk) hk (Nat.le_refl _) (show ObjOk X.prog X.w _ h' _ (.lst (kvs.map fun kv=>kV kv.1)) from ⟨?_,acc'.toList,c',?_,?_⟩),rfl,q _ (I.hok.fresh (Nat.le_refl _))⟩
 ·rw [List.length_map]
  omega
 ·refine paired_mk (by have e:=hacc.1; rw [List.length_map,show acc'.toList.length = acc'.size from Array.length_toList,e]; exact hlen) fun i x v ex ev=>?_
  obtain ⟨k,y,e1,hk'⟩:=hacc.2 i v (by rw [← Array.getElem?_toList]; exact ev)
  rw [List.getElem?_map] at ex
  cases e2:kvs[i]? with
  | none=>rw [e2] at ex; cases ex
  | some kv=>
   rw [e2] at ex
   cases ex
   obtain ⟨z,e3,_⟩:=kv_get rel e2
   rw [e3] at e1
   cases e1
   exact rel_key hk'
 ·simpa using hD
end
end L2
namespace L2
open PySem PySem.Spec PyProof.Rows
section
variable {X:Cx} {K:PySem.W.Frag}
end
end L2
namespace L2
open PySem PySem.Spec PyProof.Rows
structure IsOwn (K:PySem.W.Frag) (C:Addr) : Prop where
 ha:PySem.W.findIn K (.ref C) "__class__" = some (some (.builtin "object.__class__"))
 hn:PySem.W.specialIn K (.builtin "object.__class__") "__get__" = some (some (.builtin "getset_descriptor.__get__"))
 tk:PySem.W.takesIn K (.builtin "object.__class__") = some true
 hm:PySem.W.mroIn K C (.type "object") = some true
 ki:PySem.W.kitOne K (.ref C) (.ref C) = some true
theorem argBest_bot (val:Nat → Int) : ∀ k i,i ≤ k → val (argBest (fun i j=>decide (val i < val j)) k) ≤ val i
 | 0,i,h=>by
  have:i = 0:=by omega
  subst this
  exact Int.le_refl _
 | k + 1,i,h=>by
  have ih:=argBest_bot val k
  unfold argBest
  by_cases z:val (k + 1) < val (argBest (fun i j=>decide (val i < val j)) k)
  ·rw [if_pos (decide_eq_true z)]
   by_cases q:i = k + 1
   ·rw [q]
    exact Int.le_refl _
   ·have:=ih i (by omega)
    omega
  ·rw [if_neg (by simpa using z)]
   by_cases q:i = k + 1
   ·rw [q]; omega
   ·exact ih i (by omega)
section
variable {X:Cx}
theorem call_isown:CallR X (.builtin "isinstance") (fun xs H Q=>∃ a C dx fs,xs = [.ref a,.ref C] ∧ H a = some (.ins C dx fs) ∧ Cls X.K C ∧ IsOwn X.K C ∧ Q (.bl true) H):=by
 intro pins s σ H xs us Q I r h
 obtain ⟨a,C,dx,fs,rfl,ha,cl,io,q⟩:=h
 obtain ⟨u,w,rfl,r1,r2⟩:=vals2 r
 cases r2
 exact isinst_ok I r1 (.ins ha cl io.ha io.hn io.tk io.hm) io.ki fun tk=>⟨.bl true,H,I.tok tk,rfl,q⟩
theorem call_minL (hc:X.calm = true) : CallR X (.builtin "min") (fun xs H Q=>∃ (p:Addr) (ns:List Int),xs = [.ref p] ∧ SqL X.K H p (ns.map V.int) ∧ 0 < ns.length ∧ ∀ M,M ∈ ns → (∀ a ∈ ns,M ≤ a) → Q (.int M) H):=by
 intro pins s σ H xs us Q I r h
 obtain ⟨p,ns,rfl,hq,hne,q⟩:=h
 obtain ⟨u,rfl,rx⟩:=vals1 r
 cases rx
 obtain ⟨its,r',pl,hz⟩:=I.list hq
 have hlen:ns.length = its.length:=by have:=r'.length; rw [List.length_map] at this; exact this
 have hv : ∀ i v,its.toArray[i]? = some v → ∃ t,v = Value.int (ns.getD i 0) t:=fun i v e=>by
  have e':its[i]? = some v:=by simpa using e
  obtain ⟨y,ey,ry⟩:=paired_back r' e'
  rw [List.getElem?_map] at ey
  cases hn:ns[i]? with
  | none=>rw [hn] at ey; cases ey
  | some n=>
   rw [hn] at ey
   cases ey
   obtain ⟨t,et⟩:=ry
   refine ⟨t,?_⟩
   rw [et,List.getD_eq_getElem?_getD,hn]
   rfl
 have hp:p ≠ s.heap.objs.size:=by
  obtain ⟨o,ho,_⟩:=pl.isList
  exact Nat.ne_of_lt (Heap.lt_size ho)
 refine call_min_walk (wpAny_pyIter_list pl.isList ⟨s.heap.objs.size,_,_,_,_,_,_,rfl,Walks.list (A:=X.A.in1) (show X.A.in1.handled = none from I.ok.hd hc) s.heap.objs.size p hp its.toArray,⟨⟨_,Heap.get?_push_size _ rfl,rfl,rfl⟩,?_⟩,fun b hb=>?_,by simpa using (by omega : 0 < its.length),CmpOf.ints_lt (fun i=>ns.getD i 0) hv,fun v h' tk hP hk=>?_⟩)
 ·obtain ⟨o,ho,hr⟩:=pl.isList
  exact ⟨o,Heap.get?_push_of_some _ ho,hr⟩
 ·rw [Heap.size_push]
  rcases List.mem_cons.mp hb with rfl | hb
  ·exact Nat.lt_succ_self _
  ·rw [List.mem_singleton.mp hb]
   obtain ⟨o,ho,_⟩:=pl.isList
   exact Nat.lt_succ_of_lt (Heap.lt_size ho)
 ·obtain ⟨t,rfl⟩:=hv _ _ hP
  refine ⟨V.int (ns.getD (argBest (fun i j=>decide (ns.getD i 0 < ns.getD j 0)) (its.toArray.size - 1)) 0),H,I.kept (t':=tk) fun b o e=>hk b o (fun z=>?_) (Heap.get?_push_of_some _ e),⟨t,rfl⟩,q _ ?_ fun a ha=>?_⟩
  ·have:b = s.heap.objs.size:=by simpa using z
   have lt:=Heap.lt_size e
   rw [this] at lt
   exact Nat.lt_irrefl _ lt
  ·have hb:=argBest_le (fun i j=>decide (ns.getD i 0 < ns.getD j 0)) (its.toArray.size - 1)
   have hs:its.toArray.size = its.length:=by simp
   generalize argBest (fun i j=>decide (ns.getD i 0 < ns.getD j 0)) (its.toArray.size - 1) = j at hb
   have hj:j < ns.length:=by omega
   rw [List.getD_eq_getElem?_getD,List.getElem?_eq_getElem hj]
   exact List.getElem_mem hj
  ·obtain ⟨i,hi,rfl⟩:=List.mem_iff_getElem.mp ha
   have:=argBest_bot (fun i=>ns.getD i 0) (its.toArray.size - 1) i (by simp; omega)
   rw [show ns.getD i 0 = ns[i] by rw [List.getD_eq_getElem?_getD,List.getElem?_eq_getElem hi]; rfl] at this
   exact this
theorem call_minLK {K:PySem.W.Frag} (hK:X.K = K) (hc:X.calm = true) : CallR X (.builtin "min") (fun xs H Q=>∃ (p:Addr) (ns:List Int),xs = [.ref p] ∧ SqL K H p (ns.map V.int) ∧ 0 < ns.length ∧ ∀ M,M ∈ ns → (∀ a ∈ ns,M ≤ a) → Q (.int M) H):=by
 subst hK
 exact call_minL hc
theorem call_sumK {K:PySem.W.Frag} (hK:X.K = K) (hc:X.calm = true) : CallR X (.builtin "sum") (fun xs H Q=>∃ (p:Addr) (ns:List Int),xs = [.ref p] ∧ SqL K H p (ns.map V.int) ∧ Q (.int ns.sum) H):=by
 subst hK
 exact call_sum hc
end
end L2
namespace L2
open PySem PySem.Spec PyProof.Rows
section
variable {K:PySem.W.Frag} {x qual:Str} {st:Stmt} {f:Addr} {fd:FuncData} {p1 p2 p3 p4 p5:Str}
abbrev BndAt (x qual:Str) (st:Stmt) (ps:List Str) (us:List Value) : Prop:=∀ (kV doc pm:Value) (an:Option Addr) (cdv ct:Value),bindArgs (PySem.W.fnOf x qual (defArgs st) (defBody st) (defScope st) .none kV doc pm an cdv ct) ⟨us,[]⟩ = pure (ps.zip us)
theorem bn1 (F:Fun K x qual st f fd) (h : ∀ a,BndAt x qual st [p1] [a]) : Binds K fd [p1] []:=F.binds fun kV doc pm an cdv ct us hl=>by
 obtain ⟨a,rfl⟩:=List.length_eq_one_iff.mp hl
 exact h a kV doc pm an cdv ct
theorem len_succ {us:List Value} {n:Nat} (h:us.length = n + 1) : ∃ a r,us = a :: r ∧ r.length = n:=by
 cases us with
 | nil=>cases h
 | cons a r=>exact ⟨a,r,rfl,Nat.succ.inj h⟩
theorem bn2 (F:Fun K x qual st f fd) (h : ∀ a b,BndAt x qual st [p1,p2] [a,b]) : Binds K fd [p1,p2] []:=F.binds fun kV doc pm an cdv ct us hl=>by
 obtain ⟨a,r1,rfl,h1⟩:=len_succ hl
 obtain ⟨b,rfl⟩:=List.length_eq_one_iff.mp h1
 exact h a b kV doc pm an cdv ct
theorem bn3 (F:Fun K x qual st f fd) (h : ∀ a b c,BndAt x qual st [p1,p2,p3] [a,b,c]) : Binds K fd [p1,p2,p3] []:=F.binds fun kV doc pm an cdv ct us hl=>by
 obtain ⟨a,r1,rfl,h1⟩:=len_succ hl
 obtain ⟨b,r2,rfl,h2⟩:=len_succ h1
 obtain ⟨c,rfl⟩:=List.length_eq_one_iff.mp h2
 exact h a b c kV doc pm an cdv ct
theorem kbm11 {k1:Str} (h : ∀ (s:Shared) a b,BindsTo s fd ⟨[a],[(k1,b)]⟩ [(p1,a),(p2,b)]) : KBinds K fd [p1,p2] [k1] kb11 kb11:=⟨fun s us ws _ hl=>by
 rcases us with _ | ⟨a,_ | ⟨_,_⟩⟩ <;> rcases ws with _ | ⟨b,_ | ⟨_,_⟩⟩
 all_goals first | exact h s a b | (cases hl),fun r1 r2=>kb_rel11 r1 r2⟩
theorem kbm12 {k1 k2:Str} (h : ∀ (s:Shared) a b c,BindsTo s fd ⟨[a],[(k1,b),(k2,c)]⟩ [(p1,a),(p2,b),(p3,c)]) : KBinds K fd [p1,p2,p3] [k1,k2] kb12 kb12:=⟨fun s us ws _ hl=>by
 rcases us with _ | ⟨a,_ | ⟨_,_⟩⟩ <;> rcases ws with _ | ⟨b,_ | ⟨c,_ | ⟨_,_⟩⟩⟩
 all_goals first | exact h s a b c | (cases hl),fun r1 r2=>kb_rel12 r1 r2⟩
end
section
variable {X:Cx} {a:Expr} {ta:TE} {pos:Pos}
end
end L2
namespace L2
open PySem PySem.Spec PyProof.Rows
end L2
namespace SortQ
open PySem PyProof.Rows PySem.W
section
variable {n:Nat} {p:Array Nat}
variable {f:Nat → Nat → Bool}
end
end SortQ
namespace L2
open PySem PySem.Spec PyProof.Rows PySem.W
section
variable {X:Cx} {pins:List (Addr × Obj)} {σ : St} {H:Hp} {s:Shared}
end
end L2
namespace L2
open PySem PySem.Spec PyProof.Rows
section
variable {prog:Program} {w:World} {A:Around} {E:Value → Shared → Prop} {R:Result → Shared → Prop} {s:Shared}
theorem add_call {D:Addr} {js:List Nat} {j:Nat} {t:Tok} {Q:Value → Shared → Prop} (hS:SetAt w s.heap D js) (hjs:js ∈ subs2) (hj:j < 8) (hfw:j ∈ js ∨ js.length < 2)
  (h : ∀ h' tk js',Heap.SameBut D s.heap h' → js' ∈ subs2 → (∀ k,k ∈ js' ↔ k ∈ js ∨ k = j) → SetAt w h' D js' → Q .none { s with heap:=h',toks:=tk }) :
  wpAny (model prog w) A (call (.builtin "set.add") [.ref D,.int (j:Int) t]) Q E s:=by
 have hT:s.TypeIs (.ref D) "set" := by
  obtain ⟨o,_,_,ho,hex,_⟩:=hS
  exact ⟨o,ho,hex.1⟩
 refine wpAny_call_entry F.slot_set_add hT F.entry_set_add ?_ (F.args_set_add_2 _ _)
 show wpAny _ _ (setAdd D (.int (j:Int) t) >>= _) _ _ s
 refine wpAny_bind (wpAny_holding (wpAny_bind ((intKind prog w).pyHash (k:=(j:Int)) (intKind_is _ _ _ _) ?_)))
 refine add6 (js:=js) hS hjs hj hfw fun b h' js' sb hjs' hm hs=>?_
 exact wpAny_pure ⟨_,rfl,h _ _ js' sb hjs' hm hs⟩
theorem turn_set (el target iter:Expr) (ifs:List Expr) (scope:Scope) (pos:Pos) (it:Value) (D:Addr) (env:Env) :
  compTurn (.SetComp el [⟨target,iter,ifs,0⟩] scope pos) 0 it (.ref D) env = (do
   standAt iter.pos
   match ← pyNext it with
   | none=>pure (.done .next)
   | some v=>
    letOwnedTupleGo target it v
    assign target env v
    let mut ok:=true
    for c in ifs do
     if ok then ok ← isTrue c env (eval c env)
    if ok then
     (do let v ← eval el env; standAt el.pos; let _ ← call (.builtin "set.add") [.ref D,v])
    again (.compLoop (.SetComp el [⟨target,iter,ifs,0⟩] scope pos) 0 it (.ref D) env)):=by rfl
theorem start_set {el target iter ifs rest scope pos it acc env} (h0:codeAny (model prog w) A (.compLoop (.SetComp el (⟨target,iter,ifs,0⟩ :: rest) scope pos) 0 it acc env) R s)
  (h:wpAny (model prog w) A (pyIter it) (fun it' s'=>codeAny (model prog w) A (.compLoop (.SetComp el (⟨target,iter,ifs,0⟩ :: rest) scope pos) 0 it' acc env) R s') (notedBy (model prog w) A env fun x s'=>R (.error x) s') s) :
  codeAny (model prog w) A (.compStart (.SetComp el (⟨target,iter,ifs,0⟩ :: rest) scope pos) 0 it acc env) R s:=by
 refine codeAny_of_tree ?_
 show wpAny _ A ((compStart _ 0 it acc env).onRaise _) _ _ s
 refine wpAny_notedAt ?_
 delta compStart
 show wpAny _ _ (ask >>= _) _ _ s
 refine wpAny_bind (wpAny_askSetting (wpAny_ite ?_))
 split
 ·exact wpAny_pure ⟨rfl,h0⟩
 ·refine wpAny_bind (wpAny_rule ?_)
  show wpAny _ _ (standAt iter.pos >>= _) _ _ s
  exact wpAny_bind (wpAny_standAt (wpAny_bind (thn h fun it' s' h'=>wpAny_pure ⟨rfl,h'⟩)))
theorem scLoop_own {el target iter:Expr} {ifs:List Expr} {scope:Scope} {pos:Pos} {it:Value} {D:Addr} {env:Env} (I:Nat → Shared → Prop)
  (turn : ∀ n s,I n s → wpAny (model prog w) A (pyNext it) (fun r s₁=>match r with
   | none=>R (.ok .next) s₁
   | some v=>wpAny (model prog w) A (letOwnedTupleGo target it v) (fun _ s₁=>wpAny (model prog w) A (assign target env v) (fun _ s₂=>wpAny (model prog w) A (forIn ifs true fun c r=>if r = true then do let ok ← isTrue c env (eval c env); pure (ForInStep.yield ok) else pure (ForInStep.yield r)) (fun ok s₃=>
      if ok = true then wpAny (model prog w) A (eval el env) (fun kv s₄=>wpAny (model prog w) A (call (.builtin "set.add") [.ref D,kv]) (fun _ s₆=>∃ m,m < n ∧ I m s₆) NoE s₄) NoE s₃
      else ∃ m,m < n ∧ I m s₃) NoE s₂) NoE s₁) NoE s₁) NoE s)
  (n:Nat) (h:I n s) : codeAny (model prog w) A (.compLoop (.SetComp el [⟨target,iter,ifs,0⟩] scope pos) 0 it (.ref D) env) R s:=by
 refine codeAny_loop rfl I (fun n s hI=>?_) n h
 have no : ∀ {α : Type} {t:Sem α} {Q : α → Shared → Prop} {E:Value → Shared → Prop} {s:Shared},wpAny (model prog w) A t Q NoE s → wpAny (model prog w) A t Q E s:=fun h=>wpAny_mono h (fun _ _ q=>q) fun _ _ z=>z.elim
 show wpAny _ A ((compTurn (.SetComp el [⟨target,iter,ifs,0⟩] scope pos) 0 it (.ref D) env).onRaise (fun x=>do noteFrame x env; theTreesLotGoes x)) _ _ s
 rw [turn_set]
 refine wpAny_noted (wpAny_bind (wpAny_standAt (wpAny_bind (no (thn (turn n s hI) fun r s₁ h₁=>?_)))))
 cases r with
 | none=>exact wpAny_pure h₁
 | some v=>
  refine wpAny_bind (no (thn h₁ fun _ s₁ h₁=>wpAny_bind (no (thn h₁ fun _ s₂ h₂=>wpAny_bind (no (thn h₂ fun ok s₃ h₃=>?_))))))
  cases ok with
  | false=>exact wpAny_pure ⟨rfl,h₃⟩
  | true=>exact wpAny_bind (wpAny_bind (no (thn h₃ fun kv s₄ h₄=>wpAny_bind (wpAny_standAt (wpAny_bind (no (thn h₄ fun _ s₆ h₆=>wpAny_pure (wpAny_pure ⟨rfl,h₆⟩))))))))
end
def SPut (w:World) (H:Hp) (D:Addr) (y:V) (N:Hp → Prop) : Prop:=∃ (js:List Nat) (j:Nat),H D = some (IsSet w D js) ∧ js ∈ subs2 ∧ y = .int (j:Int) ∧ j < 8 ∧ (j ∈ js ∨ js.length < 2) ∧ ∀ js',js' ∈ subs2 → (∀ k,k ∈ js' ↔ k ∈ js ∨ k = j) → N (upd H D (IsSet w D js'))
theorem d_setAdd {X:Cx} {pins:List (Addr × Obj)} {σ : St} {H:Hp} {s:Shared} {D:Addr} {y:V} {u:Value} {A:Around} {E:Value → Shared → Prop} {N:Hp → Prop} {Q:Value → Shared → Prop} (I:Inv X pins σ H s) (g:SPut X.w H D y N) (ry:RelV y u)
  (h : ∀ H' s',Inv X pins σ H' s' → N H' → Q .none s') : wpAny (model X.prog X.w) A (call (.builtin "set.add") [.ref D,u]) Q E s:=by
 obtain ⟨js,j,e,hjs,rfl,hj,hfw,k⟩:=g
 obtain ⟨t,rfl⟩:=ry
 obtain ⟨hS,_,_⟩:=I.hok D _ e
 refine add_call hS hjs hj hfw fun h' tk js' sb hjs' hm hs'=>?_
 have he : ∃ q,h'.get? D = some q:=let ⟨q,_,_,hq,_⟩:=hs'; ⟨q,hq⟩
 exact h _ _ (d_write (ob:=IsSet X.w D js') I (by rw [e]; exact True.intro) sb he ⟨hs',he,fun h1 h2 x z=>x.keep z⟩) (k js' hjs' hm)
def ScW (w:World) (J:It) (g:TG) (ti:TT) (te:TE) (D:Addr) (QF:Hp → Prop) (W:Nat → Nat → St → Hp → Prop) : Prop:=∀ i m σ H,W i m σ H → (J.stop i H ∧ QF H) ∨
 (J.go i H ∧ ∃ N:St → Hp → Prop,(∀ σ' H',N σ' H' → ∃ m',m' < m ∧ W (i + 1) m' σ' H') ∧
  ∀ x H',J.yld i H x H' → g x σ H' fun σ2 H2=>ti σ2 H2 fun b H3=>if b = true then te σ2 H3 fun y H4=>SPut w H4 D y (N σ2) else N σ2 H3)
def tSc (w:World) (ix:List (Option Nat)) (wi:TI) (g:TG) (ti:TT) (te:TE) : TE:=fun σ H Q=>wi σ H fun J H1=>∀ D,H1 D = none → ∃ W:Nat → Nat → St → Hp → Prop,(∃ m,W 0 m (blkSt ix σ) (upd H1 D (IsSet w D []))) ∧ ScW w J g ti te D (fun H=>Q (.ref D) H) W
section
variable {X:Cx}
theorem sblk_run {scope:Scope} {N':List Str} {ix:List (Option Nat)} {pins:List (Addr × Obj)} {σ : St} {tg iter el:Expr} {ifs:List Expr} {pos:Pos} {g:TG} {ti:TT} {te:TE} {E:Value → Shared → Prop} {D:Addr}
  (co:CompOk X.N X.env.scope scope N' ix) (hc:X.calm = true)
  (hg : ∀ C fp s₂ H₂,PG (blk X scope N' C fp s₂ H₂) tg g) (hi : ∀ C fp s₂ H₂,PIf (blk X scope N' C fp s₂ H₂) ifs ti) (hk : ∀ C fp s₂ H₂,PE (blk X scope N' C fp s₂ H₂) el te)
  {H₂:Hp} {s₂:Shared} {J:It} {fp:List Addr} {it:Addr} {tn:Nat → Heap → Prop} {QF:Hp → Prop} {W:Nat → Nat → St → Hp → Prop}
  (I:Inv X pins σ H₂ s₂) (T:Turn X.prog X.w X.K tg J fp it tn) (st:tn 0 s₂.heap) (hf : ∀ b ∈ fp,FpOk X pins H₂ b) (w0 : ∃ m,W 0 m (blkSt ix σ) H₂) (hW:ScW X.w J g ti te D QF W)
  {RR:Addr → Result → Shared → Prop} (hRR : ∀ C H' s',Inv X pins σ H' s' → QF H' → Gone X pins H' s' C → RR C (.ok .next) s') :
  wpAny (model X.prog X.w) X.A (newFunctionEnv scope X.env.globals (clOf scope X.env) [] X.env.qual none .none (some X.env)) (fun cenv s₄=>
   codeAny (model X.prog X.w) X.A (.compStart (.SetComp el [⟨tg,iter,ifs,0⟩] scope pos) 0 (.ref it) (.ref D) { cenv with scope:=relabel scope X.env }) (RR cenv.locals) s₄) E s₂:=by
 have hlt : ∀ b ∈ fp,@LT.lt Nat _ b s₂.heap.objs.size:=fun b hb=>by
  obtain ⟨o,e,_⟩:=T.obj _ _ st b hb
  exact Heap.lt_size e
 refine wpAny_newFunctionEnv co.nocell (by intro y hy; simp at hy) (fun h₁ hns₁ hsb₁=>?_) co.kind
 have below : ∀ b:Nat,b < s₂.heap.objs.size → ¬ @Eq Nat b s₂.heap.objs.size:=fun b hb=>by omega
 have old : ∀ b o,s₂.heap.get? b = some o → h₁.get? b = some o:=fun b o e=>hsb₁.extBut b o (below b (Heap.lt_size e)) (Heap.get?_push_of_some _ e)
 have st₁:tn 0 h₁:=T.keep _ _ _ st fun b _ o e=>old b o e
 generalize hCe:s₂.heap.objs.size = C at hns₁ hsb₁ below ⊢
 have loop : ∀ s₃:Shared,s₃ = { s₂ with heap:=h₁,toks:=s₂.toks + ([] : List (Str × Value)).length } →
   codeAny (model X.prog X.w) X.A (.compLoop (.SetComp el [⟨tg,iter,ifs,0⟩] scope pos) 0 (.ref it) (.ref D) (compEnvC scope (clOf scope X.env) C X.env)) (RR C) s₃:=by
  rintro s₃ rfl
  obtain ⟨m0,w0⟩:=w0
  have I3:Inv (blk X scope N' C fp s₂ H₂) [] (blkSt ix σ) H₂ { s₂ with heap:=h₁,toks:=s₂.toks + ([] : List (Str × Value)).length }:=blk_start0 I co hCe.symm hf hlt old hns₁
  refine scLoop_own (fun k s'=>∃ i σ' H',Inv (blk X scope N' C fp s₂ H₂) [] σ' H' s' ∧ tn i s'.heap ∧ (∀ b ∈ fp,H' b = none) ∧ W i k σ' H') ?_ m0 ⟨0,_,_,I3,st₁,fun b hb=>(hf b hb).1,w0⟩
  rintro k s' ⟨i,σ',H',I',st',fr',w'⟩
  have fpok : ∀ {H':Hp},(∀ b ∈ fp,H' b = none) → ∀ b ∈ fp,FpOk (blk X scope N' C fp s₂ H₂) [] H' b:=fun {H'} hn b hb=>by
   refine ⟨hn b hb,below b (hCe ▸ hlt b hb),fun z=>?_,.inl hb,fun x c e=>(hf b hb).2.2.2.2.1 x c (clOf_env e),fun p hp=>?_⟩
   ·rcases List.mem_cons.mp (I.stkSub b z) with e | e
    ·exact (hf b hb).2.1 e
    ·exact (hf b hb).2.2.1 e
   ·have hp':p ∈ ([] : List (Addr × Obj)):=by simpa [blk] using hp
    cases hp'
  rcases hW i k σ' H' w' with ⟨stop,q⟩ | ⟨go,N,hN,step⟩
  ·refine thn (T.done (blk X scope N' C fp s₂ H₂) rfl rfl rfl hc i _ s' σ' H' NoE I' (fpok fr') st' stop) fun r s4 ⟨hr,I4⟩=>?_
   subst hr
   have cf:H' C = none:=I4.free
   refine hRR C H' s4 (blk_leave0 I hf I4) q ⟨?_,cf,?_,?_,fun x c e=>?_,fun p hp=>?_⟩
   ·obtain ⟨m,hn,_⟩:=I4.loc
    exact ⟨m,hn⟩
   ·have z : @LT.lt Nat _ X.env.locals s₂.heap.objs.size:=I.lt
    show ¬ @Eq Nat C X.env.locals
    omega
   ·have z : @LE.le Nat _ X.s₀.heap.objs.size s₂.heap.objs.size:=I.sz
    show @LE.le Nat _ X.s₀.heap.objs.size C
    omega
   ·obtain ⟨v,z⟩:=I.cell x c e
    have z2 : @LT.lt Nat _ c s₂.heap.objs.size:=z.lt
    show ¬ @Eq Nat c C
    omega
   ·have z2 : @LT.lt Nat _ p.1 s₂.heap.objs.size:=Heap.lt_size (I.pin p hp).1
    show ¬ @Eq Nat p.1 C
    omega
  ·refine thn (T.item (blk X scope N' C fp s₂ H₂) rfl rfl rfl hc i _ s' σ' H' NoE I' (fpok fr') st' go) fun r s4 ⟨u,hr,h4⟩=>?_
   subst hr
   refine thn h4 fun _ s5 ⟨x,H5,I5,r5,y5,st5,fr5⟩=>?_
   have I5':=I5.pinned (fpok fr5) (T.obj _ _ st5)
   refine thn (hg C fp s₂ H₂ _ s5 σ' H5 x u _ I5' r5 (step x H5 y5)) fun _ s6 ⟨σ6,H6,I6,q6⟩=>?_
   refine thn (hi C fp s₂ H₂ _ s6 σ6 H6 _ I6 q6) fun ok s7 ⟨H7,I7,q7⟩=>?_
   have back : ∀ {σ8:St} {H8:Hp} {s8:Shared},Inv (blk X scope N' C fp s₂ H₂) ([] ++ pinsAt fp s5.heap) σ8 H8 s8 → N σ8 H8 → ∃ m',m' < k ∧ ∃ i σ' H',Inv (blk X scope N' C fp s₂ H₂) [] σ' H' s8 ∧ tn i s8.heap ∧ (∀ b ∈ fp,H' b = none) ∧ W i m' σ' H':=fun {σ8 H8 s8} I8 n8=>by
    obtain ⟨m',hm,w8⟩:=hN _ _ n8
    have fpin : ∀ b ∈ fp,∀ o,s5.heap.get? b = some o → s8.heap.get? b = some o ∧ H8 b = none:=fun b hb o e=>by
     have z:=I8.pin (b,o) (List.mem_append_right _ (List.mem_append_right _ (mem_pinsAt hb e)))
     exact ⟨z.1,z.2.1⟩
    refine ⟨m',hm,i + 1,σ8,H8,I8.unpinned,T.keep _ _ _ st5 fun b hb o e=>(fpin b hb o e).1,fun b hb=>?_,w8⟩
    obtain ⟨o,e,_⟩:=T.obj _ _ st5 b hb
    exact (fpin b hb o e).2
   cases ok with
   | false=>
    have q7':=q7
    rw [if_neg Bool.false_ne_true] at q7'
    exact back I7 q7'
   | true=>
    have q7':=q7
    rw [if_pos rfl] at q7'
    show wpAny _ _ _ _ _ _
    refine thn (hk C fp s₂ H₂ _ s7 σ6 H7 _ I7 q7') fun kv s8 ⟨y,H8,I8,r8,q8⟩=>?_
    exact d_setAdd (X:=blk X scope N' C fp s₂ H₂) (A:=X.A) I8 q8 r8 fun H9 s9 I9 n9=>back I9 n9
 exact start_set (loop _ rfl) (T.self _ 0 _ _ _ st₁ (loop _ rfl))
variable {scope:Scope} {N':List Str} {ix:List (Option Nat)} {tg iter el:Expr} {ifs:List Expr} {pos:Pos} {wi:TI} {g:TG} {ti:TT} {te:TE}
theorem pe_scomp (co:CompOk X.N X.env.scope scope N' ix) (hc:X.calm = true) (hit:PI X tg iter wi) (hg : ∀ C fp s₂ H₂,PG (blk X scope N' C fp s₂ H₂) tg g) (hi : ∀ C fp s₂ H₂,PIf (blk X scope N' C fp s₂ H₂) ifs ti)
  (hk : ∀ C fp s₂ H₂,PE (blk X scope N' C fp s₂ H₂) el te) (hs:autoParam (∀ x,foldedSetIterable iter X.env x = pure x) aP3) :
  PE X (.SetComp el [⟨tg,iter,ifs,0⟩] scope pos) (tSc X.w ix wi g ti te):=by
 intro pins s σ H Q I h
 show wpAny _ _ (comprehension (.SetComp el [⟨tg,iter,ifs,0⟩] scope pos) scope X.env _ (newSet (.type "set")) false (eval iter X.env)) _ _ s
 refine wpAny_comprehension_free (use:=none) rfl hs (comp_clos co I) co.kind co.names (thn (hit pins s σ H _ I h) fun xv s₁ h₁=>thn h₁ fun itv s₂ h₂=>?_)
 obtain ⟨it,fp,tn,J,H₂,e,I₂,T,st,hf,hq⟩:=h₂
 subst e
 delta newSet setsByText
 refine wpAny_bind (wpAny_bind (wpAny_askSetting (wpAny_pure (wpAny_newObj_type ?_))))
 have hn:H₂ s₂.heap.objs.size = none:=I₂.hok.fresh (Nat.le_refl _)
 have at0:(s₂.heap.push (set0 X.w)).get? s₂.heap.objs.size = some (set0 X.w):=Heap.get?_push_size _ rfl
 have hS:SetAt X.w (s₂.heap.push (set0 X.w)) s₂.heap.objs.size []:=⟨_,fun _=>0,0,at0,⟨rfl,rfl,rfl⟩,rfl⟩
 have I₃:Inv X pins σ (upd H₂ s₂.heap.objs.size (IsSet X.w s₂.heap.objs.size [])) { s₂ with heap:=s₂.heap.push (set0 X.w) }:=I₂.laid (a:=s₂.heap.objs.size) (o:=IsSet X.w s₂.heap.objs.size []) (t':=s₂.toks) (fun _ _ q=>Heap.get?_push_of_some _ q) (Nat.le_refl _) ⟨hS,⟨_,at0⟩,fun h1 h2 x z=>x.keep z⟩
 obtain ⟨W,w0,hW⟩:=hq s₂.heap.objs.size hn
 have hf' : ∀ b ∈ fp,FpOk X pins (upd H₂ s₂.heap.objs.size (IsSet X.w s₂.heap.objs.size [])) b:=fun b hb=>by
  obtain ⟨f0,f⟩:=hf b hb
  obtain ⟨o,e,_⟩:=T.obj _ _ st b hb
  exact ⟨by rw [upd_ne (Nat.ne_of_lt (Heap.lt_size e))]; exact f0,f⟩
 refine sblk_run co hc hg hi hk I₃ T (T.keep _ _ _ st fun b _ o e=>Heap.get?_push_of_some _ e) hf' w0 hW
  (RR:=fun C=>compPost (model X.prog X.w) X.A X.xe none (EP X pins σ Q) (.ref s₂.heap.objs.size) C) fun C H' s' I' q G=>?_
 obtain ⟨m,hn⟩:=G.ns
 exact ⟨m,hn,fun h' hs'=>⟨.ref s₂.heap.objs.size,_,G.go I' hs',rfl,q⟩⟩
end
theorem sc_list {K:PySem.W.Frag} {w:World} {a D:Addr} {xs:List V} {g:TG} {ti:TT} {te:TE} {σ0:St} {H0:Hp} {QF:Hp → Prop} (Pv:Nat → St → Hp → Prop) (h0:Pv 0 σ0 H0) (hl : ∀ i σ H,i ≤ xs.length → Pv i σ H → SqL K H a xs)
  (hs : ∀ i x σ H,xs[i]? = some x → Pv i σ H → g x σ H fun σ2 H2=>ti σ2 H2 fun b H3=>if b = true then te σ2 H3 fun y H4=>SPut w H4 D y (Pv (i + 1) σ2) else Pv (i + 1) σ2 H3)
  (hd : ∀ σ H,Pv xs.length σ H → QF H) : ∃ W:Nat → Nat → St → Hp → Prop,(∃ m,W 0 m σ0 H0) ∧ ScW w (Itl K a) g ti te D QF W:=by
 refine ⟨fun i m σ H=>m = xs.length - i ∧ i ≤ xs.length ∧ Pv i σ H,⟨xs.length,by simp,Nat.zero_le _,h0⟩,?_⟩
 rintro i m σ H ⟨rfl,hi,p⟩
 have q:=hl i σ H hi p
 by_cases hlt:i < xs.length
 ·refine .inr ⟨⟨xs,xs[i],q,by simp [hlt]⟩,Pv (i + 1),fun σ' H' p'=>⟨xs.length - (i + 1),by omega,rfl,hlt,p'⟩,fun x H' y=>?_⟩
  obtain ⟨e,y⟩:=y
  subst e
  exact hs i x σ _ (y xs q) p
 ·have e:i = xs.length:=by omega
  subst e
  exact .inl ⟨⟨xs,q,Nat.le_refl _⟩,hd σ H p⟩
end L2
namespace L2
open PySem PySem.Spec PyProof.Rows
section
variable {prog:Program} {w:World} {d:Addr} {es:Array DictEntry} {ep:Nat}
def RawD (d:Addr) (es:Array DictEntry) (ep:Nat) (h:Heap) : Prop:=∃ o,h.get? d = some o ∧ o.ExactDict ∧ o.data = .dict es ep
theorem RawD.keep {h h':Heap} (x:RawD d es ep h) (k : ∀ o,h.get? d = some o → h'.get? d = some o) : RawD d es ep h':=let ⟨o,e,r⟩:=x; ⟨o,k o e,r⟩
theorem srcDT (hd:(d == sysModules) = false) : PySem.W.KdlSrc prog w "dict" d d es.size (fun i v=>es[i]?.map (·.key) = some v) (RawD d es ep) where
 type:=fun _ ⟨o,ho,hex,_⟩=>⟨o,ho,hex.1⟩
 there:=fun _ ⟨o,ho,_⟩=>⟨Heap.lt_size ho,Heap.lt_size ho⟩
 keep:=fun _ _ hm hk=>hm.keep fun o e=>hk d (.inl rfl) o e
 notList:=by decide
 notTuple:=by decide
 hint:=fun _ _ _ _ ⟨o,ho,hex,_⟩ hq=>PySem.W.kdl_hint_dict ⟨o,ho,hex.1⟩ hq
 iter:=fun A s hh hm=>⟨_,fun i h=>h.IsKeyIter s.heap.objs.size d i es.size ep ∧ RawD d es ep h,fun _ _ hq=>by
  obtain ⟨o,ho,hx,hdd⟩:=id hm
  exact iter_key hd ho hx hdd hq,by
  obtain ⟨o,ho,hr⟩:=id hm
  have ne:d ≠ s.heap.objs.size:=Nat.ne_of_lt (Heap.lt_size ho)
  refine ⟨fun b hb=>List.mem_cons.mpr (.inl (List.mem_singleton.mp hb)),fun i h h' ⟨x,y⟩ k=>⟨x.at fun o e=>k _ (by simp) o e,y.keep fun o e=>k _ (by simp) o e⟩,fun i s' Q E hi ⟨x,y⟩ hQ=>?_,fun s' Q E ⟨x,y⟩ hQ=>?_,fun i s' Q E ⟨x,y⟩ hQ=>?_⟩
  ·obtain ⟨o',ho',hx',hd'⟩:=id y
   refine next_key x ho' hd' hi fun h' st' sb=>?_
   exact hQ _ h' s'.toks (by simp [hi]) ⟨st',y.keep fun o e=>(sb.2 d ne).trans e⟩ fun b o hb e=>(sb.2 b (fun z=>hb (by simp [z]))).trans e
  ·obtain ⟨o',ho',hx',hd'⟩:=id y
   exact next_key_end hh x ho' hd' (Nat.le_refl _) fun h' eb=>hQ h' s'.toks fun b o hb e=>eb b o (fun z=>hb (by simp [z])) e
  ·exact wpAny_pyIter_keyiter x hQ,⟨⟨_,Heap.get?_push_size _ rfl,rfl,rfl⟩,hm.keep fun o e=>Heap.get?_push_of_some _ e⟩⟩
end
section
variable {X:Cx}
theorem call_listDT (hc:X.calm = true) : CallR X (.type "list") (fun xs H Q=>∃ (p:Addr) (kvs:List (List Key × V)),xs = [.ref p] ∧ H p = some (.dT kvs) ∧ ∀ l vs,H l = none → Paired (fun (v:V) (kv:List Key × V)=>∃ b,v = .ref b ∧ H b = some (.tup (kv.1.map kV))) vs kvs → Q (.ref l) (upd H l (.lst vs))):=by
 intro pins s σ H xs us Q I r h
 obtain ⟨p,kvs,rfl,hp,q⟩:=h
 obtain ⟨u,rfl,rx⟩:=vals1 r
 cases rx
 obtain ⟨hz,hs,ys,rel,o,es,ep,ho,hx,hd,he,nd⟩:=I.hok p _ hp
 have hsz:es.size = kvs.length:=by
  have e1:=congrArg List.length he
  rw [List.length_map,← Paired.length rel] at e1
  simpa using e1
 refine PySem.W.kdl_call (srcDT (es:=es) (ep:=ep) hs) (I.ok.hd hc) ⟨o,ho,hx,hd⟩ (by omega) fun h' tk acc' c' hk hD hacc=>?_
 refine ⟨.ref s.heap.objs.size,_,I.laid (t':=tk) hk (Nat.le_refl _) (show ObjOk X.prog X.w _ h' _ (.lst (ys.map fun y=>V.ref y.2.1)) from ⟨?_,acc'.toList,c',?_,by simpa using hD⟩),rfl,q _ _ (I.hok.fresh (Nat.le_refl _)) ?_⟩
 ·rw [List.length_map,← Paired.length rel]
  omega
 ·refine paired_mk (by rw [List.length_map,show acc'.toList.length = acc'.size from Array.length_toList,hacc.1,hsz]; exact (Paired.length rel).symm) fun i x v ex ev=>?_
  have e1:es[i]?.map (·.key) = some v:=hacc.2 i v (by rw [← Array.getElem?_toList]; exact ev)
  rw [← Array.getElem?_toList,he,List.getElem?_map] at e1
  rw [List.getElem?_map] at ex
  cases e2:ys[i]? with
  | none=>rw [e2] at ex; cases ex
  | some y=>
   rw [e2] at ex e1
   cases ex
   cases e1
   exact rfl
 ·refine paired_mk (by rw [List.length_map]; exact (Paired.length rel).symm) fun i v kv ev ek=>?_
  obtain ⟨y,ey,_,e3,_⟩:=paired_get rel ek
  rw [List.getElem?_map,ey] at ev
  cases ev
  exact ⟨_,rfl,e3⟩
end
end L2
set_option Elab.async false
set_option linter.all false
set_option maxRecDepth 100000
namespace M
structure O where
 p:Int
 n:Int
 g:Int
 m:Int
 deriving DecidableEq
def isOrd (q:Int) (o:O) : Bool:=decide (0 ≤ o.p ∧ o.p ≤ q - 1 ∧ 0 ≤ o.g ∧ o.g ≤ q - 1 ∧ o.p ≠ o.g ∧ 0 ≤ o.n ∧ o.n ≤ 99 ∧ 1 ≤ o.m ∧ o.m ≤ 1000)
theorem isOrd_iff {q:Int} {o:O} : isOrd q o = true ↔ (0 ≤ o.p ∧ o.p ≤ q - 1 ∧ 0 ≤ o.g ∧ o.g ≤ q - 1 ∧ o.p ≠ o.g ∧ 0 ≤ o.n ∧ o.n ≤ 99 ∧ 1 ≤ o.m ∧ o.m ≤ 1000):=by
 unfold isOrd
 rw [decide_eq_true_iff]
end M
namespace M
open PySem L2
theorem zs0 : 0 ≤ sizeLine:=by decide
theorem zs1 : 1 ≤ sizeLine:=by decide
theorem zs2 : 2 ≤ sizeLine:=by decide
theorem zs3 : 3 ≤ sizeLine:=by decide
theorem zs4 : 4 ≤ sizeLine:=by decide
theorem zs5 : 5 ≤ sizeLine:=by decide
theorem zs7 : 7 ≤ sizeLine:=by decide
theorem pa_2 {X:Cx} {e0 e1:Expr} {t0 t1:TE} (h0:PE X e0 t0) (h1:PE X e1 t1) (s0:autoParam (isStar e0 = false) aP1) (s1:autoParam (isStar e1 = false) aP1) : PA X [e0,e1] (tCons t0 (tCons t1 tNil)):=by
 refine pa_more h0 ?_ s0
 refine pa_more h1 ?_ s1
 exact pa_nil
theorem pa_3 {X:Cx} {e0 e1 e2:Expr} {t0 t1 t2:TE} (h0:PE X e0 t0) (h1:PE X e1 t1) (h2:PE X e2 t2) (s0:autoParam (isStar e0 = false) aP1) (s1:autoParam (isStar e1 = false) aP1) (s2:autoParam (isStar e2 = false) aP1) : PA X [e0,e1,e2] (tCons t0 (tCons t1 (tCons t2 tNil))):=by
 refine pa_more h0 ?_ s0
 refine pa_more h1 ?_ s1
 refine pa_more h2 ?_ s2
 exact pa_nil
theorem pa_4 {X:Cx} {e0 e1 e2 e3:Expr} {t0 t1 t2 t3:TE} (h0:PE X e0 t0) (h1:PE X e1 t1) (h2:PE X e2 t2) (h3:PE X e3 t3) (s0:autoParam (isStar e0 = false) aP1) (s1:autoParam (isStar e1 = false) aP1) (s2:autoParam (isStar e2 = false) aP1) (s3:autoParam (isStar e3 = false) aP1) : PA X [e0,e1,e2,e3] (tCons t0 (tCons t1 (tCons t2 (tCons t3 tNil)))):=by
 refine pa_more h0 ?_ s0
 refine pa_more h1 ?_ s1
 refine pa_more h2 ?_ s2
 refine pa_more h3 ?_ s3
 exact pa_nil
theorem pa_5 {X:Cx} {e0 e1 e2 e3 e4:Expr} {t0 t1 t2 t3 t4:TE} (h0:PE X e0 t0) (h1:PE X e1 t1) (h2:PE X e2 t2) (h3:PE X e3 t3) (h4:PE X e4 t4) (s0:autoParam (isStar e0 = false) aP1) (s1:autoParam (isStar e1 = false) aP1) (s2:autoParam (isStar e2 = false) aP1) (s3:autoParam (isStar e3 = false) aP1) (s4:autoParam (isStar e4 = false) aP1) : PA X [e0,e1,e2,e3,e4] (tCons t0 (tCons t1 (tCons t2 (tCons t3 (tCons t4 tNil))))):=by
 refine pa_more h0 ?_ s0
 refine pa_more h1 ?_ s1
 refine pa_more h2 ?_ s2
 refine pa_more h3 ?_ s3
 refine pa_more h4 ?_ s4
 exact pa_nil
theorem pa_7 {X:Cx} {e0 e1 e2 e3 e4 e5 e6:Expr} {t0 t1 t2 t3 t4 t5 t6:TE} (h0:PE X e0 t0) (h1:PE X e1 t1) (h2:PE X e2 t2) (h3:PE X e3 t3) (h4:PE X e4 t4) (h5:PE X e5 t5) (h6:PE X e6 t6) (s0:autoParam (isStar e0 = false) aP1) (s1:autoParam (isStar e1 = false) aP1) (s2:autoParam (isStar e2 = false) aP1) (s3:autoParam (isStar e3 = false) aP1) (s4:autoParam (isStar e4 = false) aP1) (s5:autoParam (isStar e5 = false) aP1) (s6:autoParam (isStar e6 = false) aP1) : PA X [e0,e1,e2,e3,e4,e5,e6] (tCons t0 (tCons t1 (tCons t2 (tCons t3 (tCons t4 (tCons t5 (tCons t6 tNil))))))):=by
 refine pa_more h0 ?_ s0
 refine pa_more h1 ?_ s1
 refine pa_more h2 ?_ s2
 refine pa_more h3 ?_ s3
 refine pa_more h4 ?_ s4
 refine pa_more h5 ?_ s5
 refine pa_more h6 ?_ s6
 exact pa_nil
def top (i:Nat) : Stmt:=PySem.Challenge.pw_manypurses_k08_whole_shown.main.body.getD i (.Pass ⟨0,0,0,0⟩)
abbrev s_is_whole:Stmt:=top 11
abbrev s_is_between:Stmt:=top 12
abbrev s_is_order:Stmt:=top 26
abbrev s_place_of:Stmt:=top 27
abbrev s_are_rising:Stmt:=top 13
abbrev s_is_rising_row:Stmt:=top 14
abbrev s_is_house_count:Stmt:=top 18
abbrev s_is_few:Stmt:=top 19
abbrev s_outnumber:Stmt:=top 20
abbrev s_enough_of:Stmt:=top 21
abbrev s_are_sums:Stmt:=top 38
abbrev s_are_first_sums:Stmt:=top 39
abbrev s_check_houses:Stmt:=top 43
abbrev s_check_purses:Stmt:=top 44
abbrev s_check_world:Stmt:=top 45
abbrev s_clashing_places:Stmt:=top 28
abbrev s_Board___init__:Stmt:=inClass (top 30) 0
abbrev s_Board_put:Stmt:=inClass (top 30) 1
abbrev s_Board_things_of:Stmt:=inClass (top 30) 3
abbrev s_Book___init__:Stmt:=inClass (top 32) 0
abbrev s_Book_is_past:Stmt:=inClass (top 32) 1
abbrev s_Book_is_due:Stmt:=inClass (top 32) 2
abbrev s_Book_settle:Stmt:=inClass (top 32) 3
abbrev s_Keeper___init__:Stmt:=inClass (top 34) 0
abbrev s_Keeper_give_votes:Stmt:=inClass (top 34) 8
abbrev s_Keeper_first_due:Stmt:=inClass (top 34) 7
abbrev s_Keeper_go_on:Stmt:=inClass (top 34) 6
abbrev s_Keeper_hear:Stmt:=inClass (top 34) 3
abbrev s_Keeper_take_paper:Stmt:=inClass (top 34) 4
abbrev s_World___init__:Stmt:=inClass (top 46) 0
abbrev s_World_letters:Stmt:=inClass (top 46) 7
abbrev s_World_honest:Stmt:=inClass (top 46) 1
abbrev s_World_keeper_of:Stmt:=inClass (top 46) 20
abbrev s_World_sums:Stmt:=inClass (top 46) 9
abbrev s_World_check_order:Stmt:=inClass (top 46) 24
abbrev s_World_check_liar:Stmt:=inClass (top 46) 21
abbrev s_World_write_to_all:Stmt:=inClass (top 46) 19
abbrev s_World_put_votes:Stmt:=inClass (top 46) 18
abbrev s_World_cheat:Stmt:=inClass (top 46) 4
abbrev s_World_lie:Stmt:=inClass (top 46) 5
abbrev s_World_come:Stmt:=inClass (top 46) 8
abbrev s_written_orders:Stmt:=top 51
abbrev s_false_owners:Stmt:=top 48
abbrev s_false_houses:Stmt:=top 49
abbrev s_lost_nothing:Stmt:=top 50
abbrev s__law_town:Stmt:=top 53
abbrev s__law_draw:Stmt:=top 54
abbrev s__law_pick:Stmt:=top 55
abbrev s__law_whole:Stmt:=top 56
abbrev s__law_whole_list:Stmt:=top 57
abbrev s__law_some:Stmt:=top 58
abbrev s__law_world:Stmt:=top 59
abbrev s__law_letter:Stmt:=top 60
abbrev s__law_order:Stmt:=top 61
abbrev s_law:Stmt:=top 62
theorem sc_is_order:FnScope ["thing","purses","purse","number","goal","much"] ["thing","purses"] (defScope s_is_order):=fsc
theorem sc_are_rising:FnScope ["things","bound","least","thing"] ["things","bound"] (defScope s_are_rising):=fsc
theorem sc_clashing_places:FnScope ["orders","firsts","found","order"] ["orders"] (defScope s_clashing_places):=fsc
theorem sc_Board_put:FnScope ["self","house","thing","houses"] ["self","house","thing"] (defScope s_Board_put):=fsc
theorem sc_Book_is_due:FnScope ["self","order","purse","number","goal","much"] ["self","order"] (defScope s_Book_is_due):=fsc
theorem sc_Book_settle:FnScope ["self","order","purse","number","goal","much"] ["self","order"] (defScope s_Book_settle):=fsc
theorem sc_Keeper_give_votes:FnScope ["self","votes","later","order"] ["self"] (defScope s_Keeper_give_votes):=fsc
theorem sc_Keeper_first_due:FnScope ["self","order"] ["self"] (defScope s_Keeper_first_due):=fsc
theorem sc_Keeper_go_on:FnScope ["self","order"] ["self"] (defScope s_Keeper_go_on):=fsc
theorem sc_World_write_to_all:FnScope ["self","word","order","house"] ["self","word","order"] (defScope s_World_write_to_all):=fsc
theorem sc_World_put_votes:FnScope ["self","house","orders","order"] ["self","house","orders"] (defScope s_World_put_votes):=fsc
theorem sc_World_come:FnScope ["self","at","letter","word","house","order","keeper"] ["self","at"] (defScope s_World_come):=fsc
theorem sc_written_orders:FnScope ["world","orders","keeper"] ["world"] (defScope s_written_orders):=fsc
theorem sc_false_houses:FnScope ["world","houses"] ["world"] (defScope s_false_houses):=fsc
theorem sc_lost_nothing:FnScope ["world","rows"] ["world"] (defScope s_lost_nothing):=fsc
theorem sc__law_draw:FnScope ["_law_town_here","_law_many","_law_row","_law_at","_law_cell","_law_mixed"] ["_law_town_here","_law_many"] (defScope s__law_draw):=fsc
theorem sc__law_some:FnScope ["_law_town_here","_law_size","_law_most","_law_found","_law_one"] ["_law_town_here","_law_size","_law_most"] (defScope s__law_some):=fsc
theorem sc__law_world:FnScope ["_law_town_here","_law_some_here","_law_crew","_law_foes","_law_begin","_law_rogues","_law_world_here"] ["_law_town_here"] (defScope s__law_world):=fsc
theorem sc__law_letter:FnScope ["_law_town_here","_law_world_here","_law_there"] ["_law_town_here","_law_world_here"] (defScope s__law_letter):=fsc
theorem sc__law_order:FnScope ["_law_town_here","_law_parts","_law_purse","_law_many","_law_goal"] ["_law_town_here","_law_parts","_law_purse"] (defScope s__law_order):=fsc
theorem sc_law:FnScope ["_law_script","_law_town_here","_law_parts","_law_world_here","_law_crew","_law_some_here","_law_foes","_law_honest","_law_begin","_law_rogues","_law_written","_law_signed","_law_turn","_law_order_here","_law_foe","_law_due","_law_one"] ["_law_script"] (defScope s_law):=fsc
theorem nd_0:(["each"] : List Str).Nodup:=by decide +kernel
theorem nd_1:(["each"] : List Str).Nodup:=by decide +kernel
theorem nd_2:(["house","sums","liars"] : List Str).Nodup:=by decide +kernel
theorem nd_3:(["_law_k","_law_foes"] : List Str).Nodup:=by decide +kernel
theorem nd_4:(["_law_k","_law_town_here"] : List Str).Nodup:=by decide +kernel
theorem nd_5:(["sums","world"] : List Str).Nodup:=by decide +kernel
theorem nd_6:(["house","world"] : List Str).Nodup:=by decide +kernel
theorem nd_7:(["word","house","order"] : List Str).Nodup:=by decide +kernel
theorem nd_8:(["purse","number"] : List Str).Nodup:=by decide +kernel
theorem nd_9:(["thing","houses","house"] : List Str).Nodup:=by decide +kernel
theorem nd_10:(["house","world"] : List Str).Nodup:=by decide +kernel
theorem nd_11:(["_law_one"] : List Str).Nodup:=by decide +kernel
theorem nd_12:(["_law_two","_law_foe","_law_one"] : List Str).Nodup:=by decide +kernel
theorem nd_13:(["_law_one","_law_rogues"] : List Str).Nodup:=by decide +kernel
theorem nd_14:(["_law_two","_law_one"] : List Str).Nodup:=by decide +kernel
theorem boot_isinstance:bootBuiltins "isinstance" = some (.builtin "isinstance"):=by decide +kernel
theorem boot_bool:bootBuiltins "bool" = some (.type "bool"):=by decide +kernel
theorem boot_int:bootBuiltins "int" = some (.type "int"):=by decide +kernel
theorem boot_len:bootBuiltins "len" = some (.builtin "len"):=by decide +kernel
theorem boot_tuple:bootBuiltins "tuple" = some (.type "tuple"):=by decide +kernel
theorem boot_list:bootBuiltins "list" = some (.type "list"):=by decide +kernel
theorem boot_all:bootBuiltins "all" = some (.builtin "all"):=by decide +kernel
theorem boot_sum:bootBuiltins "sum" = some (.builtin "sum"):=by decide +kernel
theorem boot_min:bootBuiltins "min" = some (.builtin "min"):=by decide +kernel
theorem boot_sorted:bootBuiltins "sorted" = some (.builtin "sorted"):=by decide +kernel
theorem boot_set:bootBuiltins "set" = some (.type "set"):=by decide +kernel
set_option genInjectivity false in
structure Ad where
 f_is_whole:Addr
 d_is_whole:FuncData
 f_is_between:Addr
 d_is_between:FuncData
 f_is_order:Addr
 d_is_order:FuncData
 f_place_of:Addr
 d_place_of:FuncData
 f_are_rising:Addr
 d_are_rising:FuncData
 f_is_rising_row:Addr
 d_is_rising_row:FuncData
 f_is_house_count:Addr
 d_is_house_count:FuncData
 f_is_few:Addr
 d_is_few:FuncData
 f_outnumber:Addr
 d_outnumber:FuncData
 f_enough_of:Addr
 d_enough_of:FuncData
 f_are_sums:Addr
 d_are_sums:FuncData
 f_are_first_sums:Addr
 d_are_first_sums:FuncData
 f_check_houses:Addr
 d_check_houses:FuncData
 f_check_purses:Addr
 d_check_purses:FuncData
 f_check_world:Addr
 d_check_world:FuncData
 f_clashing_places:Addr
 d_clashing_places:FuncData
 f_Board___init__:Addr
 d_Board___init__:FuncData
 f_Board_put:Addr
 d_Board_put:FuncData
 f_Board_things_of:Addr
 d_Board_things_of:FuncData
 f_Book___init__:Addr
 d_Book___init__:FuncData
 f_Book_is_past:Addr
 d_Book_is_past:FuncData
 f_Book_is_due:Addr
 d_Book_is_due:FuncData
 f_Book_settle:Addr
 d_Book_settle:FuncData
 f_Keeper___init__:Addr
 d_Keeper___init__:FuncData
 f_Keeper_give_votes:Addr
 d_Keeper_give_votes:FuncData
 f_Keeper_first_due:Addr
 d_Keeper_first_due:FuncData
 f_Keeper_go_on:Addr
 d_Keeper_go_on:FuncData
 f_Keeper_hear:Addr
 d_Keeper_hear:FuncData
 f_Keeper_take_paper:Addr
 d_Keeper_take_paper:FuncData
 f_World___init__:Addr
 d_World___init__:FuncData
 f_World_letters:Addr
 d_World_letters:FuncData
 f_World_honest:Addr
 d_World_honest:FuncData
 f_World_keeper_of:Addr
 d_World_keeper_of:FuncData
 f_World_sums:Addr
 d_World_sums:FuncData
 f_World_check_order:Addr
 d_World_check_order:FuncData
 f_World_check_liar:Addr
 d_World_check_liar:FuncData
 f_World_write_to_all:Addr
 d_World_write_to_all:FuncData
 f_World_put_votes:Addr
 d_World_put_votes:FuncData
 f_World_cheat:Addr
 d_World_cheat:FuncData
 f_World_lie:Addr
 d_World_lie:FuncData
 f_World_come:Addr
 d_World_come:FuncData
 f_written_orders:Addr
 d_written_orders:FuncData
 f_false_owners:Addr
 d_false_owners:FuncData
 f_false_houses:Addr
 d_false_houses:FuncData
 f_lost_nothing:Addr
 d_lost_nothing:FuncData
 f__law_town:Addr
 d__law_town:FuncData
 f__law_draw:Addr
 d__law_draw:FuncData
 f__law_pick:Addr
 d__law_pick:FuncData
 f__law_whole:Addr
 d__law_whole:FuncData
 f__law_whole_list:Addr
 d__law_whole_list:FuncData
 f__law_some:Addr
 d__law_some:FuncData
 f__law_world:Addr
 d__law_world:FuncData
 f__law_letter:Addr
 d__law_letter:FuncData
 f__law_order:Addr
 d__law_order:FuncData
 f_law:Addr
 d_law:FuncData
 a_Keeper:Addr
 a_Board:Addr
 a_World:Addr
 a_Book:Addr
structure Txt (K:W.Frag) (mg:Str → Option Value) (t:Ad) : Prop where
 F_is_whole:Fun K "is_whole" "is_whole" s_is_whole t.f_is_whole t.d_is_whole
 m_is_whole:mg "is_whole" = some (.ref t.f_is_whole)
 b_is_whole:Binds K t.d_is_whole ["thing"] []
 F_is_between:Fun K "is_between" "is_between" s_is_between t.f_is_between t.d_is_between
 m_is_between:mg "is_between" = some (.ref t.f_is_between)
 b_is_between:Binds K t.d_is_between ["thing","low","high"] []
 F_is_order:Fun K "is_order" "is_order" s_is_order t.f_is_order t.d_is_order
 m_is_order:mg "is_order" = some (.ref t.f_is_order)
 bk0_is_order:KBinds K t.d_is_order ["thing","purses"] ["purses"] kb11 kb11
 bd0_is_order : ∃ tk,Binds K t.d_is_order ["thing","purses"] [.int 8 tk]
 F_place_of:Fun K "place_of" "place_of" s_place_of t.f_place_of t.d_place_of
 m_place_of:mg "place_of" = some (.ref t.f_place_of)
 b_place_of:Binds K t.d_place_of ["order"] []
 F_are_rising:Fun K "are_rising" "are_rising" s_are_rising t.f_are_rising t.d_are_rising
 m_are_rising:mg "are_rising" = some (.ref t.f_are_rising)
 b_are_rising:Binds K t.d_are_rising ["things","bound"] []
 F_is_rising_row:Fun K "is_rising_row" "is_rising_row" s_is_rising_row t.f_is_rising_row t.d_is_rising_row
 m_is_rising_row:mg "is_rising_row" = some (.ref t.f_is_rising_row)
 b_is_rising_row:Binds K t.d_is_rising_row ["thing","bound"] []
 F_is_house_count:Fun K "is_house_count" "is_house_count" s_is_house_count t.f_is_house_count t.d_is_house_count
 m_is_house_count:mg "is_house_count" = some (.ref t.f_is_house_count)
 b_is_house_count:Binds K t.d_is_house_count ["thing"] []
 F_is_few:Fun K "is_few" "is_few" s_is_few t.f_is_few t.d_is_few
 m_is_few:mg "is_few" = some (.ref t.f_is_few)
 b_is_few:Binds K t.d_is_few ["thing"] []
 F_outnumber:Fun K "outnumber" "outnumber" s_outnumber t.f_outnumber t.d_outnumber
 m_outnumber:mg "outnumber" = some (.ref t.f_outnumber)
 bk0_outnumber:KBinds K t.d_outnumber ["houses","few"] ["few"] kb11 kb11
 F_enough_of:Fun K "enough_of" "enough_of" s_enough_of t.f_enough_of t.d_enough_of
 m_enough_of:mg "enough_of" = some (.ref t.f_enough_of)
 bk0_enough_of:KBinds K t.d_enough_of ["houses","few"] ["few"] kb11 kb11
 F_are_sums:Fun K "are_sums" "are_sums" s_are_sums t.f_are_sums t.d_are_sums
 m_are_sums:mg "are_sums" = some (.ref t.f_are_sums)
 b_are_sums:Binds K t.d_are_sums ["thing"] []
 F_are_first_sums:Fun K "are_first_sums" "are_first_sums" s_are_first_sums t.f_are_first_sums t.d_are_first_sums
 m_are_first_sums:mg "are_first_sums" = some (.ref t.f_are_first_sums)
 b_are_first_sums:Binds K t.d_are_first_sums ["thing"] []
 F_check_houses:Fun K "check_houses" "check_houses" s_check_houses t.f_check_houses t.d_check_houses
 m_check_houses:mg "check_houses" = some (.ref t.f_check_houses)
 bk0_check_houses:KBinds K t.d_check_houses ["houses","few","liars"] ["few","liars"] kb12 kb12
 F_check_purses:Fun K "check_purses" "check_purses" s_check_purses t.f_check_purses t.d_check_purses
 m_check_purses:mg "check_purses" = some (.ref t.f_check_purses)
 bk0_check_purses:KBinds K t.d_check_purses ["sums","cheats"] ["cheats"] kb11 kb11
 F_check_world:Fun K "check_world" "check_world" s_check_world t.f_check_world t.d_check_world
 m_check_world:mg "check_world" = some (.ref t.f_check_world)
 b_check_world:Binds K t.d_check_world ["thing"] []
 F_clashing_places:Fun K "clashing_places" "clashing_places" s_clashing_places t.f_clashing_places t.d_clashing_places
 m_clashing_places:mg "clashing_places" = some (.ref t.f_clashing_places)
 b_clashing_places:Binds K t.d_clashing_places ["orders"] []
 F_Board___init__:Fun K "__init__" "Board.__init__" s_Board___init__ t.f_Board___init__ t.d_Board___init__
 mt_Board___init__:Meth K t.a_Board "__init__" t.f_Board___init__
 mk_Board:Mk K t.a_Board t.f_Board___init__
 b_Board___init__:Binds K t.d_Board___init__ ["self","enough"] []
 F_Board_put:Fun K "put" "Board.put" s_Board_put t.f_Board_put t.d_Board_put
 mt_Board_put:Meth K t.a_Board "put" t.f_Board_put
 b_Board_put:Binds K t.d_Board_put ["self","house","thing"] []
 F_Board_things_of:Fun K "things_of" "Board.things_of" s_Board_things_of t.f_Board_things_of t.d_Board_things_of
 mt_Board_things_of:Meth K t.a_Board "things_of" t.f_Board_things_of
 b_Board_things_of:Binds K t.d_Board_things_of ["self","house"] []
 F_Book___init__:Fun K "__init__" "Book.__init__" s_Book___init__ t.f_Book___init__ t.d_Book___init__
 mt_Book___init__:Meth K t.a_Book "__init__" t.f_Book___init__
 mk_Book:Mk K t.a_Book t.f_Book___init__
 b_Book___init__:Binds K t.d_Book___init__ ["self","sums"] []
 F_Book_is_past:Fun K "is_past" "Book.is_past" s_Book_is_past t.f_Book_is_past t.d_Book_is_past
 mt_Book_is_past:Meth K t.a_Book "is_past" t.f_Book_is_past
 b_Book_is_past:Binds K t.d_Book_is_past ["self","order"] []
 F_Book_is_due:Fun K "is_due" "Book.is_due" s_Book_is_due t.f_Book_is_due t.d_Book_is_due
 mt_Book_is_due:Meth K t.a_Book "is_due" t.f_Book_is_due
 b_Book_is_due:Binds K t.d_Book_is_due ["self","order"] []
 F_Book_settle:Fun K "settle" "Book.settle" s_Book_settle t.f_Book_settle t.d_Book_settle
 mt_Book_settle:Meth K t.a_Book "settle" t.f_Book_settle
 b_Book_settle:Binds K t.d_Book_settle ["self","order"] []
 F_Keeper___init__:Fun K "__init__" "Keeper.__init__" s_Keeper___init__ t.f_Keeper___init__ t.d_Keeper___init__
 mt_Keeper___init__:Meth K t.a_Keeper "__init__" t.f_Keeper___init__
 mk_Keeper:Mk K t.a_Keeper t.f_Keeper___init__
 b_Keeper___init__:Binds K t.d_Keeper___init__ ["self","sums"] []
 F_Keeper_give_votes:Fun K "give_votes" "Keeper.give_votes" s_Keeper_give_votes t.f_Keeper_give_votes t.d_Keeper_give_votes
 mt_Keeper_give_votes:Meth K t.a_Keeper "give_votes" t.f_Keeper_give_votes
 b_Keeper_give_votes:Binds K t.d_Keeper_give_votes ["self"] []
 F_Keeper_first_due:Fun K "first_due" "Keeper.first_due" s_Keeper_first_due t.f_Keeper_first_due t.d_Keeper_first_due
 mt_Keeper_first_due:Meth K t.a_Keeper "first_due" t.f_Keeper_first_due
 b_Keeper_first_due:Binds K t.d_Keeper_first_due ["self"] []
 F_Keeper_go_on:Fun K "go_on" "Keeper.go_on" s_Keeper_go_on t.f_Keeper_go_on t.d_Keeper_go_on
 mt_Keeper_go_on:Meth K t.a_Keeper "go_on" t.f_Keeper_go_on
 b_Keeper_go_on:Binds K t.d_Keeper_go_on ["self"] []
 F_Keeper_hear:Fun K "hear" "Keeper.hear" s_Keeper_hear t.f_Keeper_hear t.d_Keeper_hear
 mt_Keeper_hear:Meth K t.a_Keeper "hear" t.f_Keeper_hear
 b_Keeper_hear:Binds K t.d_Keeper_hear ["self","order"] []
 F_Keeper_take_paper:Fun K "take_paper" "Keeper.take_paper" s_Keeper_take_paper t.f_Keeper_take_paper t.d_Keeper_take_paper
 mt_Keeper_take_paper:Meth K t.a_Keeper "take_paper" t.f_Keeper_take_paper
 b_Keeper_take_paper:Binds K t.d_Keeper_take_paper ["self","order"] []
 F_World___init__:Fun K "__init__" "World.__init__" s_World___init__ t.f_World___init__ t.d_World___init__
 mt_World___init__:Meth K t.a_World "__init__" t.f_World___init__
 mk_World:Mk K t.a_World t.f_World___init__
 bk0_World___init__:KBinds K t.d_World___init__ ["self","houses","few","sums","liars","cheats"] ["few","sums","liars","cheats"] kb24 kb24
 F_World_letters:Fun K "letters" "World.letters" s_World_letters t.f_World_letters t.d_World_letters
 mt_World_letters:Meth K t.a_World "letters" t.f_World_letters
 b_World_letters:Binds K t.d_World_letters ["self"] []
 F_World_honest:Fun K "honest" "World.honest" s_World_honest t.f_World_honest t.d_World_honest
 mt_World_honest:Meth K t.a_World "honest" t.f_World_honest
 b_World_honest:Binds K t.d_World_honest ["self"] []
 F_World_keeper_of:Fun K "keeper_of" "World.keeper_of" s_World_keeper_of t.f_World_keeper_of t.d_World_keeper_of
 mt_World_keeper_of:Meth K t.a_World "keeper_of" t.f_World_keeper_of
 b_World_keeper_of:Binds K t.d_World_keeper_of ["self","house"] []
 F_World_sums:Fun K "sums" "World.sums" s_World_sums t.f_World_sums t.d_World_sums
 mt_World_sums:Meth K t.a_World "sums" t.f_World_sums
 b_World_sums:Binds K t.d_World_sums ["self","house"] []
 F_World_check_order:Fun K "check_order" "World.check_order" s_World_check_order t.f_World_check_order t.d_World_check_order
 mt_World_check_order:Meth K t.a_World "check_order" t.f_World_check_order
 b_World_check_order:Binds K t.d_World_check_order ["self","order"] []
 F_World_check_liar:Fun K "check_liar" "World.check_liar" s_World_check_liar t.f_World_check_liar t.d_World_check_liar
 mt_World_check_liar:Meth K t.a_World "check_liar" t.f_World_check_liar
 b_World_check_liar:Binds K t.d_World_check_liar ["self","liar"] []
 F_World_write_to_all:Fun K "write_to_all" "World.write_to_all" s_World_write_to_all t.f_World_write_to_all t.d_World_write_to_all
 mt_World_write_to_all:Meth K t.a_World "write_to_all" t.f_World_write_to_all
 b_World_write_to_all:Binds K t.d_World_write_to_all ["self","word","order"] []
 F_World_put_votes:Fun K "put_votes" "World.put_votes" s_World_put_votes t.f_World_put_votes t.d_World_put_votes
 mt_World_put_votes:Meth K t.a_World "put_votes" t.f_World_put_votes
 b_World_put_votes:Binds K t.d_World_put_votes ["self","house","orders"] []
 F_World_cheat:Fun K "cheat" "World.cheat" s_World_cheat t.f_World_cheat t.d_World_cheat
 mt_World_cheat:Meth K t.a_World "cheat" t.f_World_cheat
 b_World_cheat:Binds K t.d_World_cheat ["self","order","house"] []
 F_World_lie:Fun K "lie" "World.lie" s_World_lie t.f_World_lie t.d_World_lie
 mt_World_lie:Meth K t.a_World "lie" t.f_World_lie
 b_World_lie:Binds K t.d_World_lie ["self","liar","order"] []
 F_World_come:Fun K "come" "World.come" s_World_come t.f_World_come t.d_World_come
 mt_World_come:Meth K t.a_World "come" t.f_World_come
 b_World_come:Binds K t.d_World_come ["self","at"] []
 F_written_orders:Fun K "written_orders" "written_orders" s_written_orders t.f_written_orders t.d_written_orders
 m_written_orders:mg "written_orders" = some (.ref t.f_written_orders)
 b_written_orders:Binds K t.d_written_orders ["world"] []
 F_false_owners:Fun K "false_owners" "false_owners" s_false_owners t.f_false_owners t.d_false_owners
 m_false_owners:mg "false_owners" = some (.ref t.f_false_owners)
 b_false_owners:Binds K t.d_false_owners ["world"] []
 F_false_houses:Fun K "false_houses" "false_houses" s_false_houses t.f_false_houses t.d_false_houses
 m_false_houses:mg "false_houses" = some (.ref t.f_false_houses)
 b_false_houses:Binds K t.d_false_houses ["world"] []
 F_lost_nothing:Fun K "lost_nothing" "lost_nothing" s_lost_nothing t.f_lost_nothing t.d_lost_nothing
 m_lost_nothing:mg "lost_nothing" = some (.ref t.f_lost_nothing)
 b_lost_nothing:Binds K t.d_lost_nothing ["world"] []
 F__law_town:Fun K "_law_town" "_law_town" s__law_town t.f__law_town t.d__law_town
 m__law_town:mg "_law_town" = some (.ref t.f__law_town)
 b__law_town:Binds K t.d__law_town ["_law_script"] []
 F__law_draw:Fun K "_law_draw" "_law_draw" s__law_draw t.f__law_draw t.d__law_draw
 m__law_draw:mg "_law_draw" = some (.ref t.f__law_draw)
 b__law_draw:Binds K t.d__law_draw ["_law_town_here","_law_many"] []
 F__law_pick:Fun K "_law_pick" "_law_pick" s__law_pick t.f__law_pick t.d__law_pick
 m__law_pick:mg "_law_pick" = some (.ref t.f__law_pick)
 b__law_pick:Binds K t.d__law_pick ["_law_town_here","_law_some_here"] []
 F__law_whole:Fun K "_law_whole" "_law_whole" s__law_whole t.f__law_whole t.d__law_whole
 m__law_whole:mg "_law_whole" = some (.ref t.f__law_whole)
 b__law_whole:Binds K t.d__law_whole ["_law_thing"] []
 F__law_whole_list:Fun K "_law_whole_list" "_law_whole_list" s__law_whole_list t.f__law_whole_list t.d__law_whole_list
 m__law_whole_list:mg "_law_whole_list" = some (.ref t.f__law_whole_list)
 b__law_whole_list:Binds K t.d__law_whole_list ["_law_thing"] []
 F__law_some:Fun K "_law_some" "_law_some" s__law_some t.f__law_some t.d__law_some
 m__law_some:mg "_law_some" = some (.ref t.f__law_some)
 b__law_some:Binds K t.d__law_some ["_law_town_here","_law_size","_law_most"] []
 F__law_world:Fun K "_law_world" "_law_world" s__law_world t.f__law_world t.d__law_world
 m__law_world:mg "_law_world" = some (.ref t.f__law_world)
 b__law_world:Binds K t.d__law_world ["_law_town_here"] []
 F__law_letter:Fun K "_law_letter" "_law_letter" s__law_letter t.f__law_letter t.d__law_letter
 m__law_letter:mg "_law_letter" = some (.ref t.f__law_letter)
 b__law_letter:Binds K t.d__law_letter ["_law_town_here","_law_world_here"] []
 F__law_order:Fun K "_law_order" "_law_order" s__law_order t.f__law_order t.d__law_order
 m__law_order:mg "_law_order" = some (.ref t.f__law_order)
 b__law_order:Binds K t.d__law_order ["_law_town_here","_law_parts","_law_purse"] []
 F_law:Fun K "law" "law" s_law t.f_law t.d_law
 m_law:mg "law" = some (.ref t.f_law)
 b_law:Binds K t.d_law ["_law_script"] []
 c_MOST_MUCH : ∃ tk,mg "MOST_MUCH" = some (.int 1000 tk)
 c_LAST_NUMBER : ∃ tk,mg "LAST_NUMBER" = some (.int 99 tk)
 c_PAPER_LETTER : ∃ tk,mg "PAPER_LETTER" = some (.str "paper" tk)
 c_ORDER_LETTER : ∃ tk,mg "ORDER_LETTER" = some (.str "order" tk)
 c_MOST_HOUSES : ∃ tk,mg "MOST_HOUSES" = some (.int 16 tk)
 c_MOST_FEW : ∃ tk,mg "MOST_FEW" = some (.int 5 tk)
 c_MOST_FIRST_SUM : ∃ tk,mg "MOST_FIRST_SUM" = some (.int 1000 tk)
 c_LEAST_PURSES : ∃ tk,mg "LEAST_PURSES" = some (.int 2 tk)
 c_MOST_PURSES : ∃ tk,mg "MOST_PURSES" = some (.int 8 tk)
 m_Keeper:mg "Keeper" = some (.ref t.a_Keeper)
 cl_Keeper:Cls K t.a_Keeper
 na_Keeper_held:NoAttr K t.a_Keeper "held"
 na_Keeper_next_numbers:NoAttr K t.a_Keeper "next_numbers"
 na_Keeper_done:NoAttr K t.a_Keeper "done"
 na_Keeper_heard:NoAttr K t.a_Keeper "heard"
 na_Keeper_unvoted:NoAttr K t.a_Keeper "unvoted"
 na_Keeper_choices:NoAttr K t.a_Keeper "choices"
 na_Keeper_waiting:NoAttr K t.a_Keeper "waiting"
 m_Board:mg "Board" = some (.ref t.a_Board)
 cl_Board:Cls K t.a_Board
 na_Board_enough:NoAttr K t.a_Board "enough"
 na_Board_signers:NoAttr K t.a_Board "signers"
 m_World:mg "World" = some (.ref t.a_World)
 cl_World:Cls K t.a_World
 io_World:IsOwn K t.a_World
 na_World_purses:NoAttr K t.a_World "purses"
 na_World_total:NoAttr K t.a_World "total"
 na_World_lying:NoAttr K t.a_World "lying"
 na_World_cheating:NoAttr K t.a_World "cheating"
 na_World_keepers:NoAttr K t.a_World "keepers"
 na_World_board:NoAttr K t.a_World "board"
 na_World_asked:NoAttr K t.a_World "asked"
 na_World_on_way:NoAttr K t.a_World "on_way"
 m_Book:mg "Book" = some (.ref t.a_Book)
 cl_Book:Cls K t.a_Book
 na_Book_held:NoAttr K t.a_Book "held"
 na_Book_next_numbers:NoAttr K t.a_Book "next_numbers"
 na_Book_done:NoAttr K t.a_Book "done"
 mt_Keeper_is_due:Meth K t.a_Keeper "is_due" t.f_Book_is_due
 mt_Keeper_is_past:Meth K t.a_Keeper "is_past" t.f_Book_is_past
 mt_Keeper_settle:Meth K t.a_Keeper "settle" t.f_Book_settle
 cm_Book___init__:ClsM K t.a_Book "__init__" t.f_Book___init__
 n_isinstance:mg "isinstance" = none
 n_bool:mg "bool" = none
 n_int:mg "int" = none
 n_len:mg "len" = none
 n_tuple:mg "tuple" = none
 n_list:mg "list" = none
 n_all:mg "all" = none
 n_range:mg "range" = none
 n_sum:mg "sum" = none
 n_min:mg "min" = none
 n_sorted:mg "sorted" = none
 n_set:mg "set" = none
def ordV (o:O) : List V:=[.int o.p,.int o.n,.int o.g,.int o.m]
def OrdAt (H:Hp) (x:V) (o:O) : Prop:=∃ a,x = .ref a ∧ H a = some (.tup (ordV o))
abbrev OrdsAt (H:Hp) (xs:List V) (os:List O) : Prop:=Paired (OrdAt H) xs os
theorem ords_get {F:V → O → Prop} : ∀ {xs:List V} {os:List O} {i:Nat} {x:V},Paired F xs os → xs[i]? = some x → ∃ o,os[i]? = some o ∧ F x o
 | _,_,i,x,.nil,e=>by simp at e
 | _,_,0,x,.cons h _,e=>by
  have e':=Option.some.inj e
  subst e'
  exact ⟨_,rfl,h⟩
 | _,_,i + 1,x,.cons _ t,e=>ords_get (i:=i) t e
theorem OrdAt.same {H H':Hp} {x:V} {o:O} (s:Same H H') (h:OrdAt H x o) : OrdAt H' x o:=by
 obtain ⟨a,e,q⟩:=h
 exact ⟨a,e,s _ _ q⟩
theorem same_upd {H:Hp} {p:Addr} {o:HO} (h:H p = none) : Same H (upd H p o):=fun b u e=>by rw [upd_ne (ne_of_none e h)]; exact e
theorem nd {c:Prop} [Decidable c] (h:(!decide c) = true) : ¬ c:=fun z=>by rw [decide_eq_true z] at h; cases h
theorem yd {c:Prop} [Decidable c] (h : ¬ (!decide c) = true) : c:=by
 by_cases z:c
 ·exact z
 ·exact absurd (by rw [decide_eq_false z]; rfl) h
theorem ifTrue {b:Bool} {A B:Prop} (e:b = true) (h:B) : if (!b) = true then A else B:=by subst e; exact iteF h
theorem take_snoc {α : Type} {l:List α} {i:Nat} {x : α} (h:l[i]? = some x) : l.take (i + 1) = l.take i ++ [x]:=by rw [List.take_add_one,h]; rfl
theorem set_map (s:List Int) (i:Nat) (z:Int) : (s.map V.int).set i (.int z) = (s.set i z).map V.int:=by rw [List.map_set]
theorem get_map {s:List Int} {i:Nat} (h:i < s.length) : (s.map V.int)[i]? = some (.int (s.getD i 0)):=by
 rw [List.getElem?_map,List.getElem?_eq_getElem h,List.getD_eq_getElem?_getD,List.getElem?_eq_getElem h]
 rfl
theorem ixN_of {n:Nat} {i:Int} (h0 : 0 ≤ i) (h1:i.toNat < n) : ixN n i = some i.toNat:=by
 unfold ixN
 rw [if_pos h0,if_pos (by omega)]
theorem atI_of {α : Type} {xs:List α} {i:Int} {v : α} (h0 : 0 ≤ i) (h:xs[i.toNat]? = some v) : atI xs i = some v:=by
 unfold atI
 rw [ixN_of h0 (List.getElem?_eq_some_iff.mp h).1]
 exact h
theorem len1000 {n:Nat} (h:n ≤ 1000) : n ≤ sizeLine:=Nat.le_of_lt (small1000 h)
def Town (T R:Addr) (H:Hp) : Prop:=∃ (row:List Int) (c:Int),H T = some (.lst [.ref R,.int c]) ∧ H R = some (.lst (row.map V.int)) ∧ 0 < row.length
def KeepT (T R:Addr) (H H':Hp) : Prop:=∀ b o,H b = some o → b ≠ T → b ≠ R → H' b = some o
theorem Town.ne {T R:Addr} {H:Hp} (h:Town T R H) : T ≠ R:=by
 obtain ⟨row,c,h1,h2,h3⟩:=h
 refine ne_of h1 h2 fun e=>?_
 have e':=HO.lst.inj e
 cases row with
 | nil=>cases h3
 | cons x r=>rw [List.map_cons] at e'; cases (List.cons.inj e').1
theorem Town.same {T R:Addr} {H H':Hp} (h:Town T R H) (s:Same H H') : Town T R H':=by
 obtain ⟨row,c,h1,h2,h3⟩:=h
 exact ⟨row,c,s _ _ h1,s _ _ h2,h3⟩
theorem Town.fresh {T R b:Addr} {H:Hp} (h:Town T R H) (hb:H b = none) : b ≠ T ∧ b ≠ R:=by
 obtain ⟨row,c,h1,h2,h3⟩:=h
 exact ⟨(ne_of_none h1 hb).symm,(ne_of_none h2 hb).symm⟩
def sp_is_whole:Sp:=fun vs H Q _=>∃ i,vs = [.int i] ∧ Q (.bl true) H
def sp_is_between:Sp:=fun vs H Q _=>∃ i l h,vs = [.int i,.int l,.int h] ∧ Q (.bl (decide (l ≤ i ∧ i ≤ h))) H
def sp_is_order:Sp:=fun vs H Q _=>∃ a o q,vs = [.ref a,.int q] ∧ H a = some (.tup (ordV o)) ∧ Q (.bl (isOrd q o)) H
def sp_place_of:Sp:=fun vs H Q _=>∃ a o,vs = [.ref a] ∧ H a = some (.tup (ordV o)) ∧ isOrd 8 o = true ∧ ∀ p,H p = none → Q (.ref p) (upd H p (.tup [.int o.p,.int o.n]))
theorem ok_is_whole (T:Txt K mg t) : FnOk P w K mg base CX0 1 t.f_is_whole t.d_is_whole ["thing"] sp_is_whole:=by
 refine T.F_is_whole.okB (N:=["thing"]) fun _ A _ s H vs Q E hr h=>?_
 obtain ⟨i,rfl,q⟩:=h
 refine ⟨_,(@pss_one _ _ _ (ps_ret (pe_and (pe_callB call_isinst rfl T.n_isinstance boot_isinstance (@pa_2 _ _ _ _ _ (pv 0) (pe_bltn (v:=.ty "int") rfl T.n_int boot_int rfl) rfl rfl)) (pe_one (pe_not (pe_callB call_isinst rfl T.n_isinstance boot_isinstance (@pa_2 _ _ _ _ _ (pv 0) (pe_bltn (v:=.ty "bool") rfl T.n_bool boot_bool rfl) rfl rfl))))))),?_⟩
 refine ⟨_,rfl,_,_,_,true,rfl,.int _,rfl,_,rfl,iteT ?_⟩
 exact ⟨_,rfl,_,_,_,false,rfl,.int _,rfl,_,rfl,q⟩
theorem ok_is_between (T:Txt K mg t) : FnOk P w K mg base CX0 2 t.f_is_between t.d_is_between ["thing","low","high"] sp_is_between:=by
 refine T.F_is_between.okB (N:=["thing","low","high"]) fun _ A _ s H vs Q E hr h=>?_
 obtain ⟨i,l,u,rfl,q⟩:=h
 refine ⟨_,(@pss_one _ _ _ (ps_ret (pe_and (pe_call (ok_is_whole T) hr.dn rfl T.m_is_whole T.F_is_whole.kp T.b_is_whole .nil pass0 (pa_more (pv 0) pa_nil)) (pe_one (pe_chain op_le op_le (pv 1) (pv 0) (pv 2)))))),?_⟩
 refine ⟨_,rfl,i,rfl,_,rfl,iteT ?_⟩
 refine ⟨_,rfl,_,rfl,_,_,rfl,rfl,_,rfl,?_⟩
 refine ite2 (fun h1=>?_) (fun h1=>?_)
 ·refine ⟨_,rfl,_,_,rfl,rfl,?_⟩
  have e:decide (l ≤ i ∧ i ≤ u) = decide (i ≤ u):=by
   have h1':=of_decide_eq_true h1
   simp [h1']
  rw [e] at q
  exact q
 ·have e:decide (l ≤ i ∧ i ≤ u) = false:=by
   have h1' : ¬ l ≤ i:=fun z=>h1 (decide_eq_true z)
   simp [h1']
  rw [e] at q
  exact q
theorem ok_is_order (T:Txt K mg t) : FnOk P w K mg base CX0 3 t.f_is_order t.d_is_order ["thing","purses"] sp_is_order:=by
 refine T.F_is_order.okA sc_is_order fun _ A _ s H vs Q E hr h=>?_
 obtain ⟨a,o,q,rfl,ha,k⟩:=h
 refine ⟨_,(@pss_cons _ _ _ _ _ (ps_if (PW.pt (pw_or (pt_not (pt_val (pe_callB call_isinst rfl T.n_isinstance boot_isinstance (@pa_2 _ _ _ _ _ (pv 0) (pe_bltn (v:=.ty "tuple") rfl T.n_tuple boot_tuple rfl) rfl rfl)))) (pw_or1 (pt_cmpR op_ne (pe_callB call_len_seq rfl T.n_len boot_len (pa_more (pv 0) pa_nil)) pe_int (nomark _))))) (@pss_one _ _ _ (ps_ret pe_bl)) pss_nil)
  (@pss_cons _ _ _ _ _ (ps_asg (pv 0) (pg_tup rfl (pgs_cons (pg_name (i:=2) sc_is_order.nd rfl (Or.inl rfl)) (pgs_cons (pg_name (i:=3) sc_is_order.nd rfl (Or.inl rfl)) (pgs_cons (pg_name (i:=4) sc_is_order.nd rfl (Or.inl rfl)) (pgs_cons (pg_name (i:=5) sc_is_order.nd rfl (Or.inl rfl)) pgs_nil))))))
  (@pss_cons _ _ _ _ _ (ps_if (PW.pt (pw_or (pt_not (pt_val (pe_call (ok_is_between T) hr.dn rfl T.m_is_between T.F_is_between.kp T.b_is_between .nil pass0 (@pa_3 _ _ _ _ _ _ _ (pv 2) pe_int (pe_op op_sub (pv 1) pe_int) rfl rfl rfl)))) (pw_or1 (pt_not (pt_val (pe_call (ok_is_between T) hr.dn rfl T.m_is_between T.F_is_between.kp T.b_is_between .nil pass0 (@pa_3 _ _ _ _ _ _ _ (pv 4) pe_int (pe_op op_sub (pv 1) pe_int) rfl rfl rfl))))))) (@pss_one _ _ _ (ps_ret pe_bl)) pss_nil)
  (@pss_one _ _ _ (ps_ret (pe_and (pe_cmpR op_ne (pv 2) (pv 4) (nomark _)) (pe_and (pe_call (ok_is_between T) hr.dn rfl T.m_is_between T.F_is_between.kp T.b_is_between .nil pass0 (@pa_3 _ _ _ _ _ _ _ (pv 3) pe_int (pe_glob (v:=.int 99) rfl T.c_LAST_NUMBER.choose_spec ⟨_,rfl⟩) rfl rfl rfl)) (pe_one (pe_call (ok_is_between T) hr.dn rfl T.m_is_between T.F_is_between.kp T.b_is_between .nil pass0 (@pa_3 _ _ _ _ _ _ _ (pv 5) pe_int (pe_glob (v:=.int 1000) rfl T.c_MOST_MUCH.choose_spec ⟨_,rfl⟩) rfl rfl rfl)))))))))),?_⟩
 refine ⟨_,rfl,_,_,_,true,rfl,.tup ha,rfl,_,rfl,?_⟩
 refine iteF ?_
 refine ⟨_,rfl,a,ordV o,rfl,.inr (SqT.of ha),rfl,_,rfl,?_⟩
 refine iteF ?_
 refine ⟨_,rfl,a,ordV o,rfl,SqT.of ha,rfl,_,_,rfl,_,_,rfl,_,_,rfl,_,_,rfl,rfl,?_⟩
 have fin : ∀ b,b = isOrd q o → Q (.bl b) H:=fun b e=>e ▸ k
 refine ⟨_,rfl,_,rfl,_,_,rfl,rfl,_,_,_,rfl,_,rfl,?_⟩
 refine ite2 (fun h1=>fin _ ?_) (fun h1=>?_)
 ·have z:=nd h1
  unfold isOrd
  exact (decide_eq_false (fun h=>z ⟨h.1,h.2.1⟩)).symm
 have z1:=yd h1
 refine ⟨_,rfl,_,rfl,_,_,rfl,rfl,_,_,_,rfl,_,rfl,?_⟩
 refine ite2 (fun h2=>fin _ ?_) (fun h2=>?_)
 ·have z:=nd h2
  unfold isOrd
  exact (decide_eq_false (fun h=>z ⟨h.2.2.1,h.2.2.2.1⟩)).symm
 have z2:=yd h2
 refine ⟨_,rfl,_,rfl,rfl,_,rfl,?_⟩
 refine ite2 (fun h3=>?_) (fun h3=>fin _ ?_)
 ·have z3 : ¬ o.p = o.g:=by simpa using h3
  refine ⟨_,rfl,_,_,_,rfl,_,rfl,?_⟩
  refine ite2 (fun h4=>?_) (fun h4=>fin _ ?_)
  ·have z4:=of_decide_eq_true h4
   refine ⟨_,rfl,_,_,_,rfl,fin _ ?_⟩
   unfold isOrd
   rw [Bool.eq_iff_iff,decide_eq_true_iff,decide_eq_true_iff]
   exact ⟨fun h=>⟨z1.1,z1.2,z2.1,z2.2,z3,z4.1,z4.2,h.1,h.2⟩,fun h=>h.2.2.2.2.2.2.2⟩
  ·have z4 : ¬ (0 ≤ o.n ∧ o.n ≤ 99):=fun h=>h4 (decide_eq_true h)
   unfold isOrd
   exact (decide_eq_false (fun h=>z4 ⟨h.2.2.2.2.2.1,h.2.2.2.2.2.2.1⟩)).symm
 ·have z3:o.p = o.g:=by simpa using h3
  unfold isOrd
  exact (decide_eq_false (fun h=>h.2.2.2.2.1 z3)).symm
theorem ok_place_of (T:Txt K mg t) : FnOk P w K mg base CX0 4 t.f_place_of t.d_place_of ["order"] sp_place_of:=by
 refine T.F_place_of.okB (N:=["order"]) fun _ A _ s H vs Q E hr h=>?_
 obtain ⟨a,o,rfl,ha,ho,k⟩:=h
 refine ⟨_,(@pss_cons _ _ _ _ _ (ps_if (pt_not (pt_val (pe_call (ok_is_order T) hr.dn rfl T.m_is_order T.F_is_order.kp T.bd0_is_order.choose_spec (show Vals [.int 8] _ from .cons ⟨_,rfl⟩ .nil) pass0 (pa_more (pv 0) pa_nil)))) (@pss_one _ _ _ (ps_never)) pss_nil)
  (@pss_one _ _ _ (ps_ret (@pe_tup _ _ _ _ _ (@pa_2 _ _ _ _ _ (pe_ix ix_tup (pv 0) pe_int (fun _ _=>rfl)) (pe_ix ix_tup (pv 0) pe_int (fun _ _=>rfl)) rfl rfl))))),?_⟩
 refine ⟨_,rfl,a,o,8,rfl,ha,_,rfl,ifTrue ho ?_⟩
 exact ⟨_,rfl,a,ordV o,0,.int o.p,rfl,rfl,SqT.of ha,rfl,_,rfl,a,ordV o,1,.int o.n,rfl,rfl,SqT.of ha,rfl,zs2,fun p hp=>k p hp⟩
theorem upd_none' {H:Hp} {a b:Addr} {o:HO} (h:upd H a o b = none) : b ≠ a ∧ H b = none:=by
 have hb:b ≠ a:=fun z=>by
  rw [z,upd_same] at h
  cases h
 rw [upd_ne hb] at h
 exact ⟨hb,h⟩
def brd (S:Addr) (en:Int) : List (Str × V):=putF "signers" (.ref S) (putF "enough" (.int en) [])
theorem brd_signers (S:Addr) (en:Int) : (brd S en).lookup ("signers" : Str) = some (.ref S):=by
 unfold brd
 rw [lookup_putF,if_pos rfl]
theorem brd_enough (S:Addr) (en:Int) : (brd S en).lookup ("enough" : Str) = some (.int en):=by
 unfold brd
 rw [lookup_putF,if_neg (by decide +kernel),lookup_putF,if_pos rfl]
theorem brd_no (S:Addr) (en:Int) {m:Str} (h1 : ¬ m = "signers") (h2 : ¬ m = "enough") : (brd S en).lookup m = none:=by
 unfold brd
 rw [lookup_putF,if_neg h1,lookup_putF,if_neg h2]
 rfl
abbrev Things:=List (List Key × List Int)
def HsAt (H:Hp) (kv:List Key × V) (p:List Key × List Int) : Prop:=kv.1 = p.1 ∧ ∃ b,kv.2 = .ref b ∧ H b = some (.lst (p.2.map V.int))
structure BoardAt (t:Ad) (H:Hp) (p dx S:Addr) (en:Int) (kvs:List (List Key × V)) (ps:Things) : Prop where
 ob:H p = some (.ins t.a_Board dx (brd S en))
 sg:H S = some (.dT kvs)
 hs:Paired (HsAt H) kvs ps
 un:(kvs.map (·.2)).Nodup
theorem BoardAt.same {t:Ad} {H H':Hp} {p dx S:Addr} {en:Int} {kvs:List (List Key × V)} {ps:Things} (s:Same H H') (b:BoardAt t H p dx S en kvs ps) : BoardAt t H' p dx S en kvs ps:=
 ⟨s _ _ b.ob,s _ _ b.sg,Paired.mapP b.hs fun _ _ ⟨e,c,ec,h⟩=>⟨e,c,ec,s _ _ h⟩,b.un⟩
theorem rd_same {H H':Hp} {a:Addr} {u:HO} (s:Same H H') (h:Rd H a u) : Rd H' a u:=by
 rcases h with h | ⟨o,h⟩
 ·exact .inl (s _ _ h)
 ·exact .inr ⟨o,s _ _ h⟩
def housesOf:Things → List Key → List Int
 | [],_=>[]
 | p :: ps,k=>if p.1 = k then p.2 else housesOf ps k
theorem val_houses {H:Hp} {k:List Key} : ∀ {kvs:List (List Key × V)} {ps:Things},Paired (HsAt H) kvs ps → (valV kvs k = none ∧ housesOf ps k = [] ∧ k ∉ ps.map (·.1)) ∨ ∃ b,valV kvs k = some (.ref b) ∧ H b = some (.lst ((housesOf ps k).map V.int))
 | _,_,.nil=>.inl ⟨rfl,rfl,by simp⟩
 | kv :: kvs,p :: ps,.cons ⟨e,b,eb,h⟩ r=>by
  by_cases z:p.1 = k
  ·refine .inr ⟨b,?_,?_⟩
   ·rw [valV_pos (e.trans z),eb]
   ·rw [housesOf,if_pos z]
    exact h
  ·have z' : ¬ kv.1 = k:=fun q=>z (e.symm.trans q)
   rw [housesOf,if_neg z,valV_neg z']
   rcases val_houses r with ⟨h1,h2,h3⟩ | h
   ·exact .inl ⟨h1,h2,by rw [List.map_cons,List.mem_cons]; exact fun q=>q.elim (fun q=>z q.symm) h3⟩
   ·exact .inr h
def sp_brinit (t:Ad) : Sp:=fun vs H Q _=>∃ x dx en,vs = [.ref x,.int en] ∧ H x = some (.ins t.a_Board dx []) ∧ ∀ S H',H S = none → BoardAt t H' x dx S en [] [] → (∀ b o,H b = some o → b ≠ x → H' b = some o) → Q .non H'
def signP:Things → List Key → Int → Things
 | [],k,h=>[(k,[h])]
 | p :: ps,k,h=>if p.1 = k then (p.1,p.2 ++ [h]) :: ps else p :: signP ps k h
def NotIn (kvs:List (List Key × V)) (c:Addr) : Prop:=∀ kv ∈ kvs,kv.2 ≠ .ref c
def sp_put (t:Ad) : Sp:=fun vs H Q _=>∃ p dx S en kvs ps b k h,vs = [.ref p,.int h,.ref b] ∧ BoardAt t H p dx S en kvs ps ∧ H b = some (.tup (k.map kV)) ∧ kvs.length ≤ 1000 ∧ (housesOf ps k).length ≤ 1000 ∧
 (h ∈ housesOf ps k → ∀ H',Same H H' → Q (.bl false) H') ∧
 (h ∉ housesOf ps k → ∀ kvs' H',BoardAt t H' p dx S en kvs' (signP ps k h) → (∀ c u,H c = some u → c ≠ S → NotIn kvs c → H' c = some u) → (∀ c u,H c = some u → NotIn kvs c → NotIn kvs' c) → Q (.bl (decide (((housesOf ps k).length:Int) + 1 = en))) H')
theorem signP_new : ∀ {ps:Things} {k:List Key} {h:Int},k ∉ ps.map (·.1) → signP ps k h = ps ++ [(k,[h])]
 | [],_,_,_=>rfl
 | p :: ps,k,h,z=>by
  rw [List.map_cons,List.mem_cons] at z
  rw [signP,if_neg (fun e=>z (.inl e.symm)),signP_new fun e=>z (.inr e)]
  rfl
theorem paired_app {α β : Type} {F : α → β → Prop} : ∀ {xs:List α} {ys:List β} {x : α} {y : β},Paired F xs ys → F x y → Paired F (xs ++ [x]) (ys ++ [y])
 | _,_,_,_,.nil,h=>.cons h .nil
 | _,_,_,_,.cons a r,h=>.cons a (paired_app r h)
theorem val_mem {k:List Key} {v:V} {kvs:List (List Key × V)} (ev:valV kvs k = some v) : v ∈ kvs.map (·.2):=by
 unfold valV at ev
 cases hf:kvs.find? (fun kv=>decide (kv.1 = k)) with
 | none=>
  rw [hf] at ev
  cases ev
 | some q=>
  rw [hf] at ev
  have e3:q.2 = v:=Option.some.inj ev
  rw [← e3]
  exact List.mem_map_of_mem (List.mem_of_find?_eq_some hf)
theorem inV_ints {h:Int} : ∀ {hs:List Int},inV (.int h) (hs.map V.int) = decide (h ∈ hs)
 | []=>rfl
 | x :: hs=>by
  have ih:=inV_ints (h:=h) (hs:=hs)
  simp only [List.map_cons,inV,List.any_cons] at ih ⊢
  rw [ih]
  show (x == h || decide (h ∈ hs)) = _
  by_cases e:h = x
  ·simp [e]
  ·have e' : ¬ x = h:=fun z=>e z.symm
   simp [e,e']
theorem flat_ints (hs:List Int) : (hs.map V.int).all flatV = true:=by
 rw [List.all_eq_true]
 intro y hy
 obtain ⟨i,_,rfl⟩:=List.mem_map.mp hy
 rfl
theorem refs_old {H:Hp} {r:Addr} (hr:H r = none) : ∀ {kvs:List (List Key × V)} {ps:Things},Paired (HsAt H) kvs ps → V.ref r ∉ kvs.map (·.2)
 | _,_,.nil=>by simp
 | _,_,.cons ⟨_,b,eb,hb⟩ q=>by
  rw [List.map_cons,List.mem_cons]
  rintro (z | z)
  ·rw [eb] at z
   cases z
   rw [hr] at hb
   cases hb
  ·exact refs_old hr q z
theorem grown {H:Hp} {k:List Key} {h:Int} {c:Addr} : ∀ {kvs:List (List Key × V)} {ps:Things},Paired (HsAt H) kvs ps → (kvs.map (·.2)).Nodup → valV kvs k = some (.ref c) → Paired (HsAt (upd H c (.lst ((housesOf ps k ++ [h]).map V.int)))) kvs (signP ps k h)
 | _,_,.nil,_,e=>by cases e
 | kv :: kvs,p :: ps,.cons ⟨e,b,eb,hb⟩ r,nd,ev=>by
  rw [List.map_cons,List.nodup_cons] at nd
  have keep : ∀ {kvs:List (List Key × V)} {ps:Things} {o:HO} {a:Addr},V.ref a ∉ kvs.map (·.2) → Paired (HsAt H) kvs ps → Paired (HsAt (upd H a o)) kvs ps:=fun {kvs ps o a} ha r=>by
   induction r with
   | nil=>exact .nil
   | cons q _ ih=>
    rw [List.map_cons,List.mem_cons] at ha
    obtain ⟨q1,b,q2,q3⟩:=q
    refine .cons ⟨q1,b,q2,?_⟩ (ih fun z=>ha (.inr z))
    rw [upd_ne (fun z=>ha (.inl (by rw [q2,z])))]
    exact q3
  by_cases z:p.1 = k
  ·rw [valV_pos (e.trans z),eb] at ev
   cases ev
   rw [signP,if_pos z,housesOf,if_pos z]
   rw [eb] at nd
   exact .cons ⟨e,c,eb,upd_same⟩ (keep nd.1 r)
  ·have z' : ¬ kv.1 = k:=fun q=>z (e.symm.trans q)
   rw [valV_neg z'] at ev
   rw [signP,if_neg z,housesOf,if_neg z]
   have hm:V.ref c ∈ kvs.map (·.2):=val_mem ev
   have hbc:b ≠ c:=fun q=>nd.1 (by rw [eb,q]; exact hm)
   exact .cons ⟨e,b,eb,by rw [upd_ne hbc]; exact hb⟩ (grown r nd.2 ev)
abbrev IThings:=List (List Int × List Int)
def keyI (t:List Int) : List Key:=t.map Sum.inl
def thP (is:IThings) : Things:=is.map fun p=>(keyI p.1,p.2)
theorem keyI_map (t:List Int) : (keyI t).map kV = t.map V.int:=by
 unfold keyI
 rw [List.map_map]
 rfl
theorem keyI_inj {t u:List Int} (h:keyI t = keyI u) : t = u:=(List.map_inj_right (fun _ _ z=>Sum.inl.inj z)).mp h
theorem houses_at : ∀ {is:IThings} {i:Nat} {p:List Int × List Int},(is.map (·.1)).Nodup → is[i]? = some p → housesOf (thP is) (keyI p.1) = p.2
 | [],_,_,_,e=>by simp at e
 | x :: is,0,p,_,e=>by
  cases Option.some.inj e
  show (if keyI x.1 = keyI x.1 then x.2 else _) = _
  rw [if_pos rfl]
 | x :: is,i + 1,p,nd,e=>by
  rw [List.map_cons,List.nodup_cons] at nd
  have hm:p ∈ is:=List.mem_of_getElem? (by simpa using e)
  show (if keyI x.1 = keyI p.1 then x.2 else housesOf (thP is) (keyI p.1)) = _
  rw [if_neg fun z=>nd.1 (by rw [keyI_inj z]; exact List.mem_map_of_mem hm)]
  exact houses_at nd.2 (by simpa using e)
section
variable {P:Program} {w:World} {K:W.Frag} {mg:Str → Option Value} {base:Heap} {t:Ad}
theorem ok_Board_put (T:Txt K mg t) : FnOk P w K mg base CX0 1 t.f_Board_put t.d_Board_put ["self","house","thing"] (sp_put t):=by
 refine T.F_Board_put.okA sc_Board_put fun _ A _ s H vs Q E hr h=>?_
 obtain ⟨p,dx,S,en,kvs,ps,b,k,h,rfl,B,hb,l1,l2,q1,q2⟩:=h
 refine ⟨_,(@pss_cons _ _ _ _ _ (ps_set (i:=3) sc_Board_put.nd rfl (Or.inl rfl) (pe_dsetdef (hu_of hr) (pe_fld (pv 0) rfl) (pv 2) (@pe_lst _ _ _ _ pa_nil) ⟨rfl,rfl,rfl,rfl⟩))
  (@pss_cons _ _ _ _ _ (ps_if (pt_cmpR op_in_seq (pv 1) (pv 3) (by with_unfolding_all rfl)) (@pss_one _ _ _ (ps_ret pe_bl)) pss_nil)
  (@pss_cons _ _ _ _ _ (ps_expr (pe_bm PySem.F.plainAttrs_list PySem.F.slot_list_append PySem.F.type_list_append mt_append (pv 3) (pa_more (pv 1) pa_nil)))
  (@pss_one _ _ _ (ps_ret (pe_cmpR op_eq (pe_callB call_len_seq rfl T.n_len boot_len (pa_more (pv 3) pa_nil)) (pe_fld (pv 0) rfl) (nomark _))))))),?_⟩
 refine ⟨_,rfl,p,_,dx,_,_,rfl,B.ob,T.cl_Board,T.na_Board_signers,brd_signers _ _,S,rfl,.inr ⟨kvs,.inl B.sg⟩,_,rfl,zs0,fun r hr=>?_⟩
 have s1:=same_upd (o:=.lst []) hr
 have B1:=B.same s1
 refine ⟨kvs,k,b,B1.sg,rfl,s1 _ _ hb,small1000 l1,fun v hv=>?_,fun hv=>?_⟩
 ·rcases val_houses (k:=k) B1.hs with ⟨z,_⟩ | ⟨c,h1,h2⟩
  ·rw [hv] at z
   cases z
  cases Option.some.inj (hv.symm.trans h1)
  refine ⟨_,rfl,_,rfl,c,_,rfl,.inl (SqL.of h2),rfl,flat_ints _,_,rfl,ite2 (fun z=>?_) (fun z=>?_)⟩
  ·rw [if_neg (by decide),inV_ints] at z
   exact q1 (of_decide_eq_true z) _ s1
  rw [if_neg (by decide),inV_ints] at z
  have nh:h ∉ housesOf ps k:=fun y=>z (decide_eq_true y)
  have pc:p ≠ c:=ne_of B1.ob h2 (by intro z; cases z)
  have Sc:S ≠ c:=ne_of B1.sg h2 (by intro z; cases z)
  refine ⟨_,rfl,.inl ⟨rfl,_,SqL.of h2⟩,_,rfl,c,_,_,rfl,rfl,h2,small1000 (by rw [List.length_map]; exact l2),?_⟩
  refine ⟨_,rfl,c,_,rfl,.inl (SqL.of upd_same),_,rfl,p,_,dx,_,_,rfl,(by rw [upd_ne pc]; exact B1.ob),T.cl_Board,T.na_Board_enough,brd_enough _ _,rfl,?_⟩
  have G:=grown (h:=h) B1.hs B1.un h1
  rw [List.map_append] at G
  have e:decide (V.int (((housesOf ps k).map V.int ++ [V.int h]).length:Nat) = V.int en) = decide (((housesOf ps k).length:Int) + 1 = en):=by
   rw [List.length_append,List.length_map]
   simp
  have goal:=q2 nh kvs _ ⟨by rw [upd_ne pc]; exact B1.ob,by rw [upd_ne Sc]; exact B1.sg,G,B1.un⟩ fun c' u hc cS cN=>by
   have ne:c' ≠ c:=fun y=>by
    obtain ⟨kv,hm,ek⟩:=List.mem_map.mp (val_mem h1)
    exact cN kv hm (by rw [ek,y])
   rw [upd_ne ne]
   exact s1 _ _ hc
  have goal:=goal fun _ _ _ z=>z
  rw [← e] at goal
  exact goal
 ·rcases val_houses (k:=k) B1.hs with ⟨_,h2,h3⟩ | ⟨c,z,_⟩
  case inr=>rw [hv] at z; cases z
  have rS:r ≠ S:=(ne_of_none B.sg hr).symm
  have rp:r ≠ p:=(ne_of_none B.ob hr).symm
  have Sp:S ≠ p:=ne_of B.sg B.ob (by intro z; cases z)
  rw [putK_new _ hv]
  have hr1:upd (upd H r (.lst [])) S (.dT (kvs ++ [(k,.ref r)])) r = some (.lst []):=by rw [upd_ne rS]; exact upd_same
  refine ⟨_,rfl,_,rfl,r,[],rfl,.inl (SqL.of hr1),rfl,rfl,_,rfl,iteF ?_⟩
  refine ⟨_,rfl,.inl ⟨rfl,_,SqL.of hr1⟩,_,rfl,r,[],_,rfl,rfl,hr1,(by show 0 < sizeLine; decide),?_⟩
  have ob2:upd (upd (upd H r (.lst [])) S (.dT (kvs ++ [(k,.ref r)]))) r (.lst ([] ++ [.int h])) p = some (.ins t.a_Board dx (brd S en)):=by rw [upd_ne rp.symm,upd_ne Sp.symm]; exact B1.ob
  refine ⟨_,rfl,r,_,rfl,.inl (SqL.of upd_same),_,rfl,p,_,dx,_,_,rfl,ob2,T.cl_Board,T.na_Board_enough,brd_enough _ _,rfl,?_⟩
  have goal:=q2 (by rw [h2]; simp) (kvs ++ [(k,.ref r)]) (upd (upd (upd H r (.lst [])) S (.dT (kvs ++ [(k,.ref r)]))) r (.lst ([] ++ [.int h]))) ⟨ob2,by rw [upd_ne rS.symm]; exact upd_same,by
   rw [signP_new h3]
   refine paired_app (Paired.mapP B.hs fun kv pp ⟨e1,c,e2,e3⟩=>⟨e1,c,e2,?_⟩) ⟨rfl,r,rfl,upd_same⟩
   rw [upd_ne (ne_of_none e3 hr),upd_ne (ne_of e3 B.sg (by intro z; cases z)),upd_ne (ne_of_none e3 hr)]
   exact e3,by
   rw [List.map_append,List.nodup_append]
   refine ⟨B.un,by simp,fun x hx y hy e=>?_⟩
   rw [List.map_cons,List.map_nil,List.mem_singleton] at hy
   rw [e,hy] at hx
   exact refs_old hr B.hs hx⟩ fun c' u hc cS _=>by
    rw [upd_ne (ne_of_none hc hr),upd_ne cS,upd_ne (ne_of_none hc hr)]
    exact hc
  have goal:=goal fun c u hc z kv hm=>by
   rcases List.mem_append.mp hm with y | y
   ·exact z kv y
   ·have y':kv = (k,.ref r):=by simpa using y
    rw [y']
    intro w
    have w':r = c:=by simpa using w
    rw [← w',hr] at hc
    cases hc
  rw [h2] at goal
  have e:decide (V.int ((([] : List V) ++ [V.int h]).length:Nat) = V.int en) = decide ((([] : List Int).length:Int) + 1 = en):=by simp
  rw [← e] at goal
  exact goal
theorem ok_Board___init__ (T:Txt K mg t) : FnOk P w K mg base CX0 1 t.f_Board___init__ t.d_Board___init__ ["self","enough"] (sp_brinit t):=by
 refine T.F_Board___init__.okB (N:=["self","enough"]) fun _ A _ s H vs Q E hr h=>?_
 obtain ⟨x,dx,en,rfl,hx,k⟩:=h
 refine ⟨_,(@pss_cons _ _ _ _ _ (ps_fld (pv 0) (pv 1) rfl)
  (@pss_one _ _ _ (ps_fld (pv 0) pe_dnewT rfl))),?_⟩
 refine ⟨_,rfl,_,rfl,x,_,dx,_,rfl,hx,T.cl_Board,T.na_Board_enough,(by show 0 < 1000; decide),fun S hS=>?_⟩
 obtain ⟨Sx,hS0⟩:=upd_none' hS
 refine ⟨_,rfl,x,_,dx,_,rfl,(by rw [upd_ne (Ne.symm Sx),upd_same]),T.cl_Board,T.na_Board_signers,(by show 1 < 1000; decide),?_⟩
 refine k S _ hS0 ⟨upd_same,by rw [upd_ne Sx]; exact upd_same,.nil,.nil⟩ fun b o e bx=>?_
 rw [upd_ne bx,upd_ne (ne_of_none e hS0),upd_ne bx]
 exact e
theorem seqN {a b:TS} {D:Ends} {σ : St} {H:Hp} (h : ∀ N:St → Hp → Prop,(∀ σ' H',b D σ' H' → N σ' H') → a { D with nx:=N } σ H) : tSeq a b D σ H:=h _ fun _ _ x=>x
theorem ifN {c:TT} {a b:TS} {D:Ends} {σ : St} {H:Hp} (h : ∀ N:Bool → Hp → Prop,(∀ k H',(if k = true then a D σ H' else b D σ H') → N k H') → c σ H N) : tIfS c a b D σ H:=h _ fun _ _ x=>x
structure Kp where
 held:List Int
 nexts:List Int
 done:List O
 heard:List O
 unv:List O
 cho:List ((Int × Int) × O)
 wait:List O
def gI (xs:List Int) (i:Int) : Int:=(xs[i.toNat]?).getD 0
def addI (xs:List Int) (i d:Int) : List Int:=xs.set i.toNat (gI xs i + d)
theorem addI_len (xs:List Int) (i d:Int) : (addI xs i d).length = xs.length:=List.length_set ..
theorem gI_of {xs:List Int} {i:Int} (h0 : 0 ≤ i) (h:i < xs.length) : xs[i.toNat]? = some (gI xs i):=by
 unfold gI
 rw [List.getElem?_eq_getElem (by omega)]
 rfl
def Kp.past (k:Kp) (o:O) : Bool:=decide (o.n < gI k.nexts o.p)
def Kp.due (k:Kp) (o:O) : Bool:=decide (o.n = gI k.nexts o.p) && decide (o.m ≤ gI k.held o.p)
def Kp.settle (k:Kp) (o:O) : Kp:={ k with held:=addI (addI k.held o.p (-o.m)) o.g o.m,nexts:=addI k.nexts o.p 1,done:=k.done ++ [o] }
def chose (c:List ((Int × Int) × O)) (o:O) : Bool:=c.any fun x=>decide (x.1 = (o.p,o.n))
abbrev Gv:=List ((Int × Int) × O) × List O × List O
def gvS (k:Kp) (o:O) (a:Gv) : Gv:=if (k.due o && !chose a.1 o) = true then (a.1 ++ [((o.p,o.n),o)],a.2.1 ++ [o],a.2.2) else if (!k.past o && !chose a.1 o) = true then (a.1,a.2.1,a.2.2 ++ [o]) else a
def gv (k:Kp) (os:List O) (a:Gv) : Gv:=os.foldl (fun a o=>gvS k o a) a
def Kp.votes (k:Kp) : Kp × List O:=({ k with cho:=(gv k k.unv (k.cho,[],[])).1,unv:=(gv k k.unv (k.cho,[],[])).2.2 },(gv k k.unv (k.cho,[],[])).2.1)
def Kp.first (k:Kp) : Option O:=k.wait.find? k.due
def Kp.step (k:Kp) (o:O) : Kp:={ k with wait:=k.wait.erase o }.settle o
def Kp.go:Nat → Kp → Kp
 | 0,k=>k
 | n + 1,k=>match k.first with
  | none=>k
  | some o=>Kp.go n (k.step o)
def Kp.goOn (k:Kp) : Kp:=Kp.go k.wait.length k
def Kp.hear (k:Kp) (o:O) : Kp × List O:=if o ∈ k.heard then (k,[]) else Kp.votes { k with heard:=k.heard ++ [o],unv:=k.unv ++ [o] }
def Kp.paper (k:Kp) (o:O) : Kp × List O:=if (k.past o || decide (o ∈ k.wait)) = true then (k,[]) else (Kp.goOn { k with wait:=k.wait ++ [o] }).votes
structure Kp.Ok (n:Nat) (k:Kp) : Prop where
 h:k.held.length = n
 x:k.nexts.length = n
 u : ∀ o ∈ k.unv,isOrd n o = true
 w : ∀ o ∈ k.wait,isOrd n o = true
 nd:k.wait.Nodup
theorem Kp.Ok.settle {n:Nat} {k:Kp} (q:k.Ok n) (o:O) : (k.settle o).Ok n:=⟨by show (addI (addI _ _ _) _ _).length = n; rw [addI_len,addI_len]; exact q.h,by show (addI _ _ _).length = n; rw [addI_len]; exact q.x,q.u,q.w,q.nd⟩
theorem Kp.Ok.step {n:Nat} {k:Kp} (q:k.Ok n) (o:O) : (k.step o).Ok n:=Kp.Ok.settle (k:={ k with wait:=k.wait.erase o }) ⟨q.h,q.x,q.u,fun o' h=>q.w o' (List.mem_of_mem_erase h),q.nd.erase o⟩ o
theorem gv_later (k:Kp) {P:O → Prop} : ∀ (os:List O) (a:Gv),(∀ o ∈ os,P o) → (∀ o ∈ a.2.2,P o) → ∀ o ∈ (gv k os a).2.2,P o
 | [],a,_,h=>h
 | o :: os,a,h1,h2=>by
  unfold gv
  rw [List.foldl_cons]
  refine gv_later k os _ (fun o' h=>h1 o' (List.mem_cons_of_mem _ h)) ?_
  unfold gvS
  split
  ·exact h2
  ·split
   ·intro o' h
    rcases List.mem_append.mp h with h | h
    ·exact h2 o' h
    ·rw [List.mem_singleton.mp h]
     exact h1 o List.mem_cons_self
   ·exact h2
theorem Kp.Ok.votes {n:Nat} {k:Kp} (q:k.Ok n) : k.votes.1.Ok n:=⟨q.h,q.x,gv_later k k.unv _ q.u (fun o h=>by cases h),q.w,q.nd⟩
set_option genInjectivity true in
inductive Part where
 | x | wy | ak | bd | sd | sg | kd
 | row (i:Nat)
 | kp (h:Int) (f:Nat)
 | own (i:Nat)
 deriving DecidableEq
abbrev Role:=Nat × Part
abbrev Rho:=Addr → Option Role
def noTup:HO → Prop
 | .tup _=>False
 | .frz _ (.tup _)=>False
 | _=>True
def OkR (ρ : Rho) (H:Hp) : Prop:=∀ a r,ρ a = some r → ∃ u,H a = some u ∧ noTup u
def Fr (P:Role → Prop) (ρ : Rho) (H:Hp) (ρ':Rho) (H':Hp) : Prop:=∀ a u,H a = some u → (∀ r,ρ a = some r → ¬ P r) → H' a = some u ∧ ρ' a = ρ a
def setR (ρ : Rho) (p:Addr) (r:Role) : Rho:=fun a=>if a = p then some r else ρ a
theorem setR_same {ρ : Rho} {p:Addr} {r:Role} : setR ρ p r p = some r:=if_pos rfl
theorem setR_ne {ρ : Rho} {p a:Addr} {r:Role} (h:a ≠ p) : setR ρ p r a = ρ a:=if_neg h
theorem Fr.refl {P:Role → Prop} {ρ : Rho} {H:Hp} : Fr P ρ H ρ H:=fun _ _ e _=>⟨e,rfl⟩
theorem Fr.trans {P:Role → Prop} {ρ ρ' ρ'':Rho} {H H' H'':Hp} (f:Fr P ρ H ρ' H') (g:Fr P ρ' H' ρ'' H'') : Fr P ρ H ρ'' H'':=fun a u e n=>by
 obtain ⟨e1,r1⟩:=f a u e n
 obtain ⟨e2,r2⟩:=g a u e1 (fun r h=>n r (r1 ▸ h))
 exact ⟨e2,r2.trans r1⟩
theorem Fr.mono {P P':Role → Prop} {ρ ρ':Rho} {H H':Hp} (h : ∀ r,P r → P' r) (f:Fr P ρ H ρ' H') : Fr P' ρ H ρ' H':=fun a u e n=>f a u e fun r hr p=>n r hr (h r p)
theorem Fr.same {P:Role → Prop} {ρ : Rho} {H H':Hp} (s:Same H H') : Fr P ρ H ρ H':=fun _ _ e _=>⟨s _ _ e,rfl⟩
theorem OkR.same {ρ : Rho} {H H':Hp} (s:Same H H') (o:OkR ρ H) : OkR ρ H':=fun a r h=>let ⟨u,e,n⟩:=o a r h; ⟨u,s _ _ e,n⟩
theorem OkR.none {ρ : Rho} {H:Hp} {p:Addr} (o:OkR ρ H) (h:H p = none) : ρ p = .none:=by
 cases e : ρ p with
 | none=>rfl
 | some r=>
  obtain ⟨u,q,_⟩:=o p r e
  rw [h] at q
  cases q
theorem Fr.put {P:Role → Prop} {ρ : Rho} {H:Hp} {a:Addr} {r:Role} {o:HO} (h : ρ a = some r) (p:P r) : Fr P ρ H ρ (upd H a o):=fun b u e n=>by
 have:b ≠ a:=fun z=>n r (z ▸ h) p
 exact ⟨by rw [upd_ne this]; exact e,rfl⟩
theorem OkR.put {ρ : Rho} {H:Hp} {a:Addr} {o:HO} (k:OkR ρ H) (ho:autoParam (noTup o) aP6) : OkR ρ (upd H a o):=fun b r h=>by
 by_cases z:b = a
 ·subst z
  exact ⟨_,upd_same,ho⟩
 ·obtain ⟨u,e,n⟩:=k b r h
  exact ⟨u,by rw [upd_ne z]; exact e,n⟩
theorem Fr.newR {P:Role → Prop} {ρ : Rho} {H:Hp} {p:Addr} {r:Role} {o:HO} (n:H p = none) : Fr P ρ H (setR ρ p r) (upd H p o):=fun b u e _=>by
 have:b ≠ p:=ne_of_none e n
 exact ⟨by rw [upd_ne this]; exact e,setR_ne this⟩
theorem OkR.newR {ρ : Rho} {H:Hp} {p:Addr} {r:Role} {o:HO} (k:OkR ρ H) (ho:autoParam (noTup o) aP6) : OkR (setR ρ p r) (upd H p o):=fun b r' h=>by
 by_cases z:b = p
 ·subst z
  exact ⟨_,upd_same,ho⟩
 ·rw [setR_ne z] at h
  obtain ⟨u,e,n⟩:=k b r' h
  exact ⟨u,by rw [upd_ne z]; exact e,n⟩
theorem ner {ρ : Rho} {a b:Addr} {r r':Role} (ha : ρ a = some r) (hb : ρ b = some r') (n:r ≠ r') : a ≠ b:=fun z=>by
 subst z
 rw [ha] at hb
 exact n (Option.some.inj hb)
theorem neu {ρ : Rho} {a b:Addr} {r:Role} (ha : ρ a = none) (hb : ρ b = some r) : a ≠ b:=fun z=>by
 subst z
 rw [ha] at hb
 cases hb
def OrdU (H:Hp) (ρ : Rho) (x:V) (o:O) : Prop:=∃ a,x = .ref a ∧ ρ a = none ∧ H a = some (.tup (ordV o))
theorem OrdU.fr {P:Role → Prop} {ρ ρ':Rho} {H H':Hp} {x:V} {o:O} (f:Fr P ρ H ρ' H') (h:OrdU H ρ x o) : OrdU H' ρ' x o:=by
 obtain ⟨a,e,n,q⟩:=h
 obtain ⟨q',n'⟩:=f a _ q fun r hr=>by rw [n] at hr; cases hr
 exact ⟨a,e,n'.trans n,q'⟩
theorem OrdU.at_ {H:Hp} {ρ : Rho} {x:V} {o:O} (h:OrdU H ρ x o) : OrdAt H x o:=let ⟨a,e,_,q⟩:=h; ⟨a,e,q⟩
def ordK (o:O) : List Key:=[.inl o.p,.inl o.n,.inl o.g,.inl o.m]
theorem ordK_V (o:O) : (ordK o).map kV = ordV o:=rfl
theorem ordK_inj {o u:O} (h:ordK o = ordK u) : o = u:=by
 cases o
 cases u
 unfold ordK at h
 simp at h
 simp [h]
def bkf (he nn dn:Addr) : List (Str × V):=putF "done" (.ref dn) (putF "next_numbers" (.ref nn) (putF "held" (.ref he) []))
def kf (he nn dn hd un cs wt:Addr) : List (Str × V):=putF "waiting" (.ref wt) (putF "choices" (.ref cs) (putF "unvoted" (.ref un) (putF "heard" (.ref hd) (bkf he nn dn))))
abbrev kfA (A:Nat → Addr) : List (Str × V):=kf (A 1) (A 2) (A 3) (A 4) (A 5) (A 6) (A 7)
def FldR (H:Hp) (ρ : Rho) (κ : Kp) (f:Nat) (u:HO) : Prop:=match f with
 | 1=>u = .lst (κ.held.map V.int)
 | 2=>u = .lst (κ.nexts.map V.int)
 | 3=>∃ xs,u = .lst xs ∧ Paired (OrdU H ρ) xs κ.done
 | 4=>∃ kvs,u = .dT kvs ∧ kvs.map (·.1) = κ.heard.map ordK
 | 5=>∃ xs,u = .lst xs ∧ Paired (OrdU H ρ) xs κ.unv
 | 6=>∃ kvs,u = .dT kvs ∧ Paired (fun kv (c:(Int × Int) × O)=>kv.1 = [.inl c.1.1,.inl c.1.2] ∧ OrdU H ρ kv.2 c.2) kvs κ.cho
 | 7=>∃ xs,u = .lst xs ∧ Paired (OrdU H ρ) xs κ.wait
 | _=>True
theorem FldR.fr {P:Role → Prop} {ρ ρ':Rho} {H H':Hp} {κ : Kp} {f:Nat} {u:HO} (fr:Fr P ρ H ρ' H') (h:FldR H ρ κ f u) : FldR H' ρ' κ f u:=by
 unfold FldR at h ⊢
 split at h
 ·exact h
 ·exact h
 ·obtain ⟨xs,e,p⟩:=h
  exact ⟨xs,e,Paired.mapP p fun _ _=>OrdU.fr fr⟩
 ·exact h
 ·obtain ⟨xs,e,p⟩:=h
  exact ⟨xs,e,Paired.mapP p fun _ _=>OrdU.fr fr⟩
 ·obtain ⟨xs,e,p⟩:=h
  exact ⟨xs,e,Paired.mapP p fun _ _ ⟨a,b⟩=>⟨a,b.fr fr⟩⟩
 ·obtain ⟨xs,e,p⟩:=h
  exact ⟨xs,e,Paired.mapP p fun _ _=>OrdU.fr fr⟩
 ·trivial
structure KeepR (t:Ad) (H:Hp) (ρ : Rho) (id:Nat) (h:Int) (k:Addr) (A:Nat → Addr) (dk:Addr) (κ : Kp) : Prop where
 ob:H k = some (.ins t.a_Keeper dk (kfA A))
 r0 : ρ k = some (id,.kp h 0)
 fl : ∀ f,1 ≤ f → f ≤ 7 → ρ (A f) = some (id,.kp h f) ∧ ∃ u,H (A f) = some u ∧ FldR H ρ κ f u
def isK (id:Nat) (h:Int) : Role → Prop:=fun r=>∃ f,r = (id,.kp h f)
section
variable {t:Ad} {H H':Hp} {ρ ρ':Rho} {id:Nat} {h:Int} {k dk:Addr} {A:Nat → Addr} {κ κ':Kp} {P:Role → Prop}
theorem KeepR.fr (hP : ∀ f,¬ P (id,.kp h f)) (f:Fr P ρ H ρ' H') (K:KeepR t H ρ id h k A dk κ) : KeepR t H' ρ' id h k A dk κ:=by
 obtain ⟨e1,r1⟩:=f _ _ K.ob fun r hr=>by rw [K.r0] at hr; cases hr; exact hP 0
 refine ⟨e1,r1.trans K.r0,fun i h1 h7=>?_⟩
 obtain ⟨ri,u,hu,q⟩:=K.fl i h1 h7
 obtain ⟨e2,r2⟩:=f _ _ hu fun r hr=>by rw [ri] at hr; cases hr; exact hP i
 exact ⟨r2.trans ri,u,e2,q.fr f⟩
theorem KeepR.put (K:KeepR t H ρ id h k A dk κ) {f0:Nat} (h1 : 1 ≤ f0) (h7:f0 ≤ 7) {u0:HO} (q0:FldR (upd H (A f0) u0) ρ κ' f0 u0) (hs : ∀ f u,f ≠ f0 → FldR H ρ κ f u → FldR H ρ κ' f u) : KeepR t (upd H (A f0) u0) ρ id h k A dk κ' ∧ Fr (isK id h) ρ H ρ (upd H (A f0) u0):=by
 obtain ⟨r0,_⟩:=K.fl f0 h1 h7
 have fr:Fr (isK id h) ρ H ρ (upd H (A f0) u0):=Fr.put r0 ⟨f0,rfl⟩
 refine ⟨⟨?_,K.r0,fun f a b=>?_⟩,fr⟩
 ·rw [upd_ne (ner K.r0 r0 (by intro z; cases z; omega))]
  exact K.ob
 ·obtain ⟨rf,u,hu,q⟩:=K.fl f a b
  by_cases z:f = f0
  ·subst z
   exact ⟨rf,_,upd_same,q0⟩
  ·refine ⟨rf,u,?_,(hs f u z q).fr fr⟩
   rw [upd_ne (ner rf r0 (by intro y; cases y; exact z rfl))]
   exact hu
end
theorem kfA_get (A:Nat → Addr) : (kfA A).lookup ("held" : Str) = some (.ref (A 1)) ∧ (kfA A).lookup ("next_numbers" : Str) = some (.ref (A 2)) ∧ (kfA A).lookup ("done" : Str) = some (.ref (A 3)) ∧ (kfA A).lookup ("heard" : Str) = some (.ref (A 4)) ∧ (kfA A).lookup ("unvoted" : Str) = some (.ref (A 5)) ∧ (kfA A).lookup ("choices" : Str) = some (.ref (A 6)) ∧ (kfA A).lookup ("waiting" : Str) = some (.ref (A 7)):=by
 unfold kfA kf bkf
 refine ⟨?_,?_,?_,?_,?_,?_,?_⟩ <;> repeat (first | rw [lookup_putF,if_pos rfl] | rw [lookup_putF,if_neg (by decide +kernel)])
theorem kfA_no (A:Nat → Addr) {m:Str} (h:autoParam (¬ m = "waiting" ∧ ¬ m = "choices" ∧ ¬ m = "unvoted" ∧ ¬ m = "heard" ∧ ¬ m = "done" ∧ ¬ m = "next_numbers" ∧ ¬ m = "held") aP4) : (kfA A).lookup m = none:=by
 obtain ⟨h1,h2,h3,h4,h5,h6,h7⟩:=h
 unfold kfA kf bkf
 rw [lookup_putF,if_neg h1,lookup_putF,if_neg h2,lookup_putF,if_neg h3,lookup_putF,if_neg h4,lookup_putF,if_neg h5,lookup_putF,if_neg h6,lookup_putF,if_neg h7]
 rfl
theorem KeepR.he {t:Ad} {H:Hp} {ρ : Rho} {id:Nat} {h:Int} {k dk:Addr} {A:Nat → Addr} {κ : Kp} (K:KeepR t H ρ id h k A dk κ) : H (A 1) = some (.lst (κ.held.map V.int)):=by
 obtain ⟨_,u,hu,q⟩:=K.fl 1 (by decide) (by decide)
 rw [hu,show u = _ from q]
theorem KeepR.nn {t:Ad} {H:Hp} {ρ : Rho} {id:Nat} {h:Int} {k dk:Addr} {A:Nat → Addr} {κ : Kp} (K:KeepR t H ρ id h k A dk κ) : H (A 2) = some (.lst (κ.nexts.map V.int)):=by
 obtain ⟨_,u,hu,q⟩:=K.fl 2 (by decide) (by decide)
 rw [hu,show u = _ from q]
theorem KeepR.dn {t:Ad} {H:Hp} {ρ : Rho} {id:Nat} {h:Int} {k dk:Addr} {A:Nat → Addr} {κ : Kp} (K:KeepR t H ρ id h k A dk κ) : ∃ xs,H (A 3) = some (.lst xs) ∧ Paired (OrdU H ρ) xs κ.done:=by
 obtain ⟨_,u,hu,xs,rfl,q⟩:=K.fl 3 (by decide) (by decide)
 exact ⟨xs,hu,q⟩
theorem KeepR.hd {t:Ad} {H:Hp} {ρ : Rho} {id:Nat} {h:Int} {k dk:Addr} {A:Nat → Addr} {κ : Kp} (K:KeepR t H ρ id h k A dk κ) : ∃ kvs,H (A 4) = some (.dT kvs) ∧ kvs.map (·.1) = κ.heard.map ordK:=by
 obtain ⟨_,u,hu,xs,rfl,q⟩:=K.fl 4 (by decide) (by decide)
 exact ⟨xs,hu,q⟩
theorem KeepR.un {t:Ad} {H:Hp} {ρ : Rho} {id:Nat} {h:Int} {k dk:Addr} {A:Nat → Addr} {κ : Kp} (K:KeepR t H ρ id h k A dk κ) : ∃ xs,H (A 5) = some (.lst xs) ∧ Paired (OrdU H ρ) xs κ.unv:=by
 obtain ⟨_,u,hu,xs,rfl,q⟩:=K.fl 5 (by decide) (by decide)
 exact ⟨xs,hu,q⟩
theorem KeepR.cs {t:Ad} {H:Hp} {ρ : Rho} {id:Nat} {h:Int} {k dk:Addr} {A:Nat → Addr} {κ : Kp} (K:KeepR t H ρ id h k A dk κ) : ∃ kvs,H (A 6) = some (.dT kvs) ∧ Paired (fun kv (c:(Int × Int) × O)=>kv.1 = [.inl c.1.1,.inl c.1.2] ∧ OrdU H ρ kv.2 c.2) kvs κ.cho:=by
 obtain ⟨_,u,hu,xs,rfl,q⟩:=K.fl 6 (by decide) (by decide)
 exact ⟨xs,hu,q⟩
theorem KeepR.wt {t:Ad} {H:Hp} {ρ : Rho} {id:Nat} {h:Int} {k dk:Addr} {A:Nat → Addr} {κ : Kp} (K:KeepR t H ρ id h k A dk κ) : ∃ xs,H (A 7) = some (.lst xs) ∧ Paired (OrdU H ρ) xs κ.wait:=by
 obtain ⟨_,u,hu,xs,rfl,q⟩:=K.fl 7 (by decide) (by decide)
 exact ⟨xs,hu,q⟩
theorem ord_ix {n:Nat} {o:O} {xs:List Int} (h:isOrd n o = true) (l:xs.length = n) : xs[o.p.toNat]? = some (gI xs o.p) ∧ 0 ≤ o.p ∧ o.p < n:=by
 obtain ⟨a1,a2,_⟩:=isOrd_iff.mp h
 exact ⟨gI_of a1 (by omega),a1,by omega⟩
theorem ok_Book_is_past (T:Txt K mg t) : FnOk P w K mg base CX0 1 t.f_Book_is_past t.d_Book_is_past ["self","order"] (fun vs H Q _=>∃ ρ id h k A dk κ n q o,vs = [.ref k,.ref q] ∧ KeepR t H ρ id h k A dk κ ∧ H q = some (.tup (ordV o)) ∧ isOrd (n:Nat) o = true ∧ κ.nexts.length = n ∧ Q (.bl (κ.past o)) H):=by
 refine T.F_Book_is_past.okB (N:=["self","order"]) fun _ A _ s H vs Q E hr h=>?_
 obtain ⟨ρ,id,h,k,A',dk,κ,n,q,o,rfl,R,hq,ho,l,g⟩:=h
 refine ⟨_,(@pss_one _ _ _ (ps_ret (pe_cmpR op_lt (pe_ix ix_tup (pv 1) pe_int (fun _ _=>rfl)) (pe_ix ix_list (pe_fld (pv 0) rfl) (pe_ix ix_tup (pv 1) pe_int (fun _ _=>rfl)) (fun _ _=>rfl)) (nomark _)))),?_⟩
 obtain ⟨e,p0,_⟩:=ord_ix ho l
 refine ⟨_,rfl,q,ordV o,1,.int o.n,rfl,rfl,SqT.of hq,rfl,_,rfl,k,_,dk,_,_,rfl,R.ob,T.cl_Keeper,T.na_Keeper_next_numbers,(kfA_get A').2.1,_,rfl,q,ordV o,0,.int o.p,rfl,rfl,SqT.of hq,rfl,A' 2,_,o.p,.int (gI κ.nexts o.p),rfl,rfl,SqL.of R.nn,atI_of p0 (by rw [List.getElem?_map,e]; rfl),_,_,rfl,rfl,g⟩
theorem ok_Book_is_due (T:Txt K mg t) : FnOk P w K mg base CX0 1 t.f_Book_is_due t.d_Book_is_due ["self","order"] (fun vs H Q _=>∃ ρ id h k A dk κ n q o,vs = [.ref k,.ref q] ∧ KeepR t H ρ id h k A dk κ ∧ H q = some (.tup (ordV o)) ∧ isOrd (n:Nat) o = true ∧ κ.nexts.length = n ∧ κ.held.length = n ∧ Q (.bl (κ.due o)) H):=by
 refine T.F_Book_is_due.okA sc_Book_is_due fun _ A _ s H vs Q E hr h=>?_
 obtain ⟨ρ,id,h,k,A',dk,κ,n,q,o,rfl,R,hq,ho,l,l2,g⟩:=h
 refine ⟨_,(@pss_cons _ _ _ _ _ (ps_asg (pv 1) (pg_tup rfl (pgs_cons (pg_name (i:=2) sc_Book_is_due.nd rfl (Or.inl rfl)) (pgs_cons (pg_name (i:=3) sc_Book_is_due.nd rfl (Or.inl rfl)) (pgs_cons (pg_name (i:=4) sc_Book_is_due.nd rfl (Or.inl rfl)) (pgs_cons (pg_name (i:=5) sc_Book_is_due.nd rfl (Or.inl rfl)) pgs_nil))))))
  (@pss_one _ _ _ (ps_ret (pe_and (pe_cmpR op_eq (pv 3) (pe_ix ix_list (pe_fld (pv 0) rfl) (pv 2) (fun _ _=>rfl)) (nomark _)) (pe_one (pe_cmpR op_le (pv 5) (pe_ix ix_list (pe_fld (pv 0) rfl) (pv 2) (fun _ _=>rfl)) (nomark _))))))),?_⟩
 obtain ⟨e,p0,_⟩:=ord_ix ho l
 obtain ⟨e2,_,_⟩:=ord_ix ho l2
 refine ⟨_,rfl,q,_,rfl,SqT.of hq,rfl,_,_,rfl,_,_,rfl,_,_,rfl,_,_,rfl,rfl,?_⟩
 refine ⟨_,rfl,_,rfl,k,_,dk,_,_,rfl,R.ob,T.cl_Keeper,T.na_Keeper_next_numbers,(kfA_get A').2.1,_,rfl,A' 2,_,o.p,.int (gI κ.nexts o.p),rfl,rfl,SqL.of R.nn,atI_of p0 (by rw [List.getElem?_map,e]; rfl),rfl,_,rfl,?_⟩
 unfold Kp.due at g
 refine ite2 (fun z=>?_) (fun z=>?_)
 ·refine ⟨_,rfl,_,rfl,k,_,dk,_,_,rfl,R.ob,T.cl_Keeper,T.na_Keeper_held,(kfA_get A').1,_,rfl,A' 1,_,o.p,.int (gI κ.held o.p),rfl,rfl,SqL.of R.he,atI_of p0 (by rw [List.getElem?_map,e2]; rfl),_,_,rfl,rfl,?_⟩
  rw [decide_eq_true (V.int.inj (of_decide_eq_true z)),Bool.true_and] at g
  exact g
 ·rw [decide_eq_false (fun y=>z (by rw [y]; exact decide_eq_true rfl)),Bool.false_and] at g
  exact g
theorem ok_Book_settle (T:Txt K mg t) : FnOk P w K mg base CX0 1 t.f_Book_settle t.d_Book_settle ["self","order"] (fun vs H Q _=>∃ ρ id h k A dk κ n q o,vs = [.ref k,.ref q] ∧ KeepR t H ρ id h k A dk κ ∧ OrdU H ρ (.ref q) o ∧ isOrd (n:Nat) o = true ∧ κ.nexts.length = n ∧ κ.held.length = n ∧ κ.done.length ≤ 1000 ∧ OkR ρ H ∧
  ∀ H',KeepR t H' ρ id h k A dk (κ.settle o) → Fr (isK id h) ρ H ρ H' → OkR ρ H' → Q .non H'):=by
 refine T.F_Book_settle.okA sc_Book_settle fun _ A _ s H vs Q E hr h=>?_
 obtain ⟨ρ,id,h,k,A',dk,κ,n,q,o,rfl,R,uq,ho,l,l2,ld,kr,g⟩:=h
 refine ⟨_,(@pss_cons _ _ _ _ _ (ps_asg (pv 1) (pg_tup rfl (pgs_cons (pg_name (i:=2) sc_Book_settle.nd rfl (Or.inl rfl)) (pgs_cons (pg_name (i:=3) sc_Book_settle.nd rfl (Or.inl rfl)) (pgs_cons (pg_name (i:=4) sc_Book_settle.nd rfl (Or.inl rfl)) (pgs_cons (pg_name (i:=5) sc_Book_settle.nd rfl (Or.inl rfl)) pgs_nil))))))
  (@pss_cons _ _ _ _ _ (ps_augS (pe_fld (pv 0) rfl) (pv 2) get_list (pv 5) ip_sub set_list)
  (@pss_cons _ _ _ _ _ (ps_augS (pe_fld (pv 0) rfl) (pv 4) get_list (pv 5) ip_add set_list)
  (@pss_cons _ _ _ _ _ (ps_augS (pe_fld (pv 0) rfl) (pv 2) get_list pe_int ip_add set_list)
  (@pss_one _ _ _ (ps_expr (pe_bm PySem.F.plainAttrs_list PySem.F.slot_list_append PySem.F.type_list_append mt_append (pe_fld (pv 0) rfl) (pa_more (pv 1) pa_nil)))))))),?_⟩
 obtain ⟨_,eq,nq,hq⟩:=uq
 cases eq
 obtain ⟨e,p0,p1⟩:=ord_ix ho l
 obtain ⟨e2,_,_⟩:=ord_ix ho l2
 refine ⟨_,rfl,q,_,rfl,SqT.of hq,rfl,_,_,rfl,_,_,rfl,_,_,rfl,_,_,rfl,rfl,?_⟩
 obtain ⟨g0,g1⟩:=(fun a=>⟨a.2.2.1,a.2.2.2.1⟩ : _ → 0 ≤ o.g ∧ o.g ≤ (n:Int) - 1) (isOrd_iff.mp ho)
 refine ⟨_,rfl,k,_,dk,_,_,rfl,R.ob,T.cl_Keeper,T.na_Keeper_held,(kfA_get A').1,_,rfl,A' 1,_,o.p,.int (gI κ.held o.p),rfl,rfl,SqL.of R.he,p0,(by rw [List.getElem?_map,e2]; rfl),_,rfl,_,_,rfl,rfl,A' 1,_,o.p,_,rfl,rfl,R.he,ixN_of p0 (by rw [List.length_map]; omega),?_⟩
 have m1:((κ.held.map V.int).set o.p.toNat (.int (gI κ.held o.p - o.m))) = (addI κ.held o.p (-o.m)).map V.int:=by
  rw [addI,List.map_set]
  rfl
 dsimp only
 rw [m1]
 obtain ⟨R1,f1⟩:=R.put (κ':={ κ with held:=addI κ.held o.p (-o.m) }) (f0:=1) (by decide) (by decide) (u0:=.lst ((addI κ.held o.p (-o.m)).map V.int)) rfl (fun f u hf q=>by unfold FldR at q ⊢; split at q <;> first | exact q | exact absurd rfl hf)
 have kr1:=kr.put (a:=A' 1) (o:=.lst ((addI κ.held o.p (-o.m)).map V.int))
 generalize upd H (A' 1) (.lst ((addI κ.held o.p (-o.m)).map V.int)) = H1 at R1 f1 kr1
 have l3:(addI κ.held o.p (-o.m)).length = n:=(addI_len ..).trans l2
 have e3:(addI κ.held o.p (-o.m))[o.g.toNat]? = some (gI (addI κ.held o.p (-o.m)) o.g):=gI_of g0 (by omega)
 refine ⟨_,rfl,k,_,dk,_,_,rfl,R1.ob,T.cl_Keeper,T.na_Keeper_held,(kfA_get A').1,_,rfl,A' 1,_,o.g,.int (gI (addI κ.held o.p (-o.m)) o.g),rfl,rfl,SqL.of R1.he,g0,(by rw [List.getElem?_map,e3]; rfl),_,rfl,_,_,rfl,rfl,A' 1,_,o.g,_,rfl,rfl,R1.he,ixN_of g0 (by rw [List.length_map]; show o.g.toNat < (addI κ.held o.p (-o.m)).length; omega),?_⟩
 have m2:((addI κ.held o.p (-o.m)).map V.int).set o.g.toNat (.int (gI (addI κ.held o.p (-o.m)) o.g + o.m)) = (addI (addI κ.held o.p (-o.m)) o.g o.m).map V.int:=by
  rw [addI.eq_def (addI κ.held o.p (-o.m)),List.map_set]
 dsimp only
 rw [m2]
 obtain ⟨R2,f2⟩:=R1.put (κ':={ κ with held:=addI (addI κ.held o.p (-o.m)) o.g o.m }) (f0:=1) (by decide) (by decide) (u0:=.lst ((addI (addI κ.held o.p (-o.m)) o.g o.m).map V.int)) rfl (fun f u hf q=>by unfold FldR at q ⊢; split at q <;> first | exact q | exact absurd rfl hf)
 have kr2:=kr1.put (a:=A' 1) (o:=.lst ((addI (addI κ.held o.p (-o.m)) o.g o.m).map V.int))
 generalize upd H1 (A' 1) (.lst ((addI (addI κ.held o.p (-o.m)) o.g o.m).map V.int)) = H2 at R2 f2 kr2
 refine ⟨_,rfl,k,_,dk,_,_,rfl,R2.ob,T.cl_Keeper,T.na_Keeper_next_numbers,(kfA_get A').2.1,_,rfl,A' 2,_,o.p,.int (gI κ.nexts o.p),rfl,rfl,SqL.of R2.nn,p0,(by rw [List.getElem?_map,e]; rfl),_,_,rfl,rfl,A' 2,_,o.p,_,rfl,rfl,R2.nn,ixN_of p0 (by rw [List.length_map]; show o.p.toNat < κ.nexts.length; rw [l]; omega),?_⟩
 have m3:(κ.nexts.map V.int).set o.p.toNat (.int (gI κ.nexts o.p + 1)) = (addI κ.nexts o.p 1).map V.int:=by
  rw [addI,List.map_set]
 dsimp only
 rw [m3]
 obtain ⟨R3,f3⟩:=R2.put (κ':={ κ with held:=addI (addI κ.held o.p (-o.m)) o.g o.m,nexts:=addI κ.nexts o.p 1 }) (f0:=2) (by decide) (by decide) (u0:=.lst ((addI κ.nexts o.p 1).map V.int)) rfl (fun f u hf q=>by unfold FldR at q ⊢; split at q <;> first | exact q | exact absurd rfl hf)
 have kr3:=kr2.put (a:=A' 2) (o:=.lst ((addI κ.nexts o.p 1).map V.int))
 generalize upd H2 (A' 2) (.lst ((addI κ.nexts o.p 1).map V.int)) = H3 at R3 f3 kr3
 obtain ⟨xs,hx,px⟩:=R3.dn
 have fr:=(f1.trans f2).trans f3
 have uq3:OrdU H3 ρ (.ref q) o:=OrdU.fr fr ⟨q,rfl,nq,hq⟩
 have lx:xs.length ≤ 1000:=by rw [Paired.length px]; exact ld
 refine ⟨_,rfl,k,_,dk,_,_,rfl,R3.ob,T.cl_Keeper,T.na_Keeper_done,(kfA_get A').2.2.1,.inl ⟨rfl,_,SqL.of hx⟩,_,rfl,A' 3,xs,.ref q,rfl,rfl,hx,small1000 lx,?_⟩
 obtain ⟨r3,_⟩:=R3.fl 3 (by decide) (by decide)
 obtain ⟨R4,f4⟩:=R3.put (κ':=κ.settle o) (f0:=3) (by decide) (by decide) (u0:=.lst (xs ++ [.ref q])) ⟨_,rfl,paired_app (Paired.mapP px fun _ _=>OrdU.fr (Fr.put (P:=isK id h) r3 ⟨3,rfl⟩)) (uq3.fr (Fr.put (P:=isK id h) r3 ⟨3,rfl⟩))⟩ (fun f u hf q=>by unfold FldR at q ⊢; split at q <;> first | exact q | exact absurd rfl hf)
 exact g _ R4 (fr.trans f4) kr3.put
theorem OrdU.ref {H:Hp} {ρ : Rho} {x:V} {o:O} (h:OrdU H ρ x o) : ∃ q,x = .ref q ∧ H q = some (.tup (ordV o)):=let ⟨q,e,_,h⟩:=h; ⟨q,e,h⟩
theorem ok_Keeper_first_due (T:Txt K mg t) : FnOk P w K mg base CX0 2 t.f_Keeper_first_due t.d_Keeper_first_due ["self"] (fun vs H Q _=>∃ ρ id h k A dk κ n,vs = [.ref k] ∧ KeepR t H ρ id h k A dk κ ∧ κ.Ok n ∧ ∀ v,((κ.first = none ∧ v = .non) ∨ ∃ o,κ.first = some o ∧ OrdU H ρ v o) → Q v H):=by
 refine T.F_Keeper_first_due.okA sc_Keeper_first_due fun _ A _ s H vs Q E hr h=>?_
 obtain ⟨ρ,id,h,k,A',dk,κ,n,rfl,R,hok,g⟩:=h
 refine ⟨_,(@pss_cons _ _ _ _ _ (ps_for PassesOwn.never rfl (@pi_list _ _ _ _ (pe_fld (pv 0) rfl)) (pg_name (i:=1) sc_Keeper_first_due.nd rfl (Or.inl rfl)) (@pss_one _ _ _ (ps_if (pt_val (pe_meth (pv 0) T.cl_Keeper T.mt_Keeper_is_due (ok_Book_is_due T) hr.dn T.b_Book_is_due .nil pass0 (pa_more (pv 1) pa_nil))) (@pss_one _ _ _ (ps_ret (pv 1))) pss_nil)))
  (@pss_one _ _ _ (ps_ret pe_non))),?_⟩
 obtain ⟨xs,hx,px⟩:=R.wt
 refine ⟨_,rfl,k,_,dk,_,_,rfl,R.ob,T.cl_Keeper,T.na_Keeper_waiting,(kfA_get A').2.2.2.2.2.2,A' 7,rfl,⟨_,SqL.of hx⟩,for_list (K:=K) (a:=A' 7) (xs:=xs) (fun i σ H'=>∃ v,σ = [some (.ref k),v] ∧ H' = H ∧ (κ.wait.take i).find? κ.due = none) ⟨none,rfl,rfl,rfl⟩ (fun i σ H' _ ⟨_,_,e,_⟩=>SqL.of (by rw [e]; exact hx)) ?_ ?_⟩
 ·rintro i x σ H' ex ⟨v,rfl,rfl,hf⟩
  obtain ⟨o,eo,uo⟩:=paired_get px ex
  obtain ⟨q,rfl,hq⟩:=uo.ref
  have om:o ∈ κ.wait:=List.mem_of_getElem? eo
  refine ⟨_,rfl,k,dk,_,rfl,R.ob,kfA_no A',_,rfl,ρ,id,h,k,A',dk,κ,n,q,o,rfl,R,hq,hok.w o om,hok.x,hok.h,_,rfl,?_⟩
  cases hd : κ.due o with
  | true=>
   refine iteT ⟨_,rfl,g _ (.inr ⟨o,?_,uo⟩)⟩
   have:(κ.wait.take (i + 1)).find? κ.due = some o:=by
    rw [take_snoc eo,List.find?_append,hf,List.find?_cons,hd]
    rfl
   unfold Kp.first
   rw [← List.take_append_drop (i + 1) κ.wait,List.find?_append,this]
   rfl
  | false=>
   refine iteF ⟨_,rfl,rfl,?_⟩
   rw [take_snoc eo,List.find?_append,hf,List.find?_cons,hd]
   rfl
 ·rintro σ H' ⟨v,rfl,rfl,hf⟩
  refine g _ (.inl ⟨?_,rfl⟩)
  rw [Paired.length px,List.take_length] at hf
  exact hf
theorem Fr.reR {P:Role → Prop} {ρ : Rho} {H:Hp} {a:Addr} {r r':Role} (h : ρ a = some r) (p:P r) : Fr P ρ H (setR ρ a r') H:=fun b u e n=>by
 have:b ≠ a:=fun z=>n r (z ▸ h) p
 exact ⟨e,setR_ne this⟩
theorem OkR.reR {ρ : Rho} {H:Hp} {a:Addr} {r r':Role} (h : ρ a = some r) (k:OkR ρ H) : OkR (setR ρ a r') H:=fun b r'' hb=>by
 by_cases z:b = a
 ·subst z
  exact k _ _ h
 ·rw [setR_ne z] at hb
  exact k _ _ hb
theorem cho_val {H:Hp} {ρ : Rho} {o:O} : ∀ {kvs:List (List Key × V)} {c:List ((Int × Int) × O)},Paired (fun kv (c:(Int × Int) × O)=>kv.1 = [.inl c.1.1,.inl c.1.2] ∧ OrdU H ρ kv.2 c.2) kvs c → (valV kvs [.inl o.p,.inl o.n]).isSome = chose c o
 | _,_,.nil=>rfl
 | kv :: kvs,c :: cs,.cons ⟨e,_⟩ r=>by
  have ih:=cho_val (o:=o) r
  unfold chose at ih ⊢
  rw [List.any_cons]
  by_cases z:c.1 = (o.p,o.n)
  ·rw [valV_pos (show kv.1 = _ by rw [e,z]),decide_eq_true z]
   rfl
  ·rw [valV_neg (fun y=>z ?_),ih,decide_eq_false z,Bool.false_or]
   rw [e] at y
   have y1:=(List.cons.inj y).1
   have y2:=(List.cons.inj (List.cons.inj y).2).1
   exact Prod.ext (Sum.inl.inj y1) (Sum.inl.inj y2)
theorem ord8 {n:Nat} {o:O} (h:isOrd n o = true) (l:n ≤ 8) : isOrd 8 o = true:=by
 rw [isOrd_iff] at h ⊢
 omega
theorem gv_snoc (κ : Kp) {os:List O} {i:Nat} {o:O} (e:os[i]? = some o) (a:Gv) : gv κ (os.take (i + 1)) a = gvS κ o (gv κ (os.take i) a):=by
 unfold gv
 rw [take_snoc e,List.foldl_append]
 rfl
theorem gvS_len (κ : Kp) (o:O) (a:Gv) : (gvS κ o a).1.length ≤ a.1.length + 1 ∧ (gvS κ o a).2.1.length ≤ a.2.1.length + 1 ∧ (gvS κ o a).2.2.length ≤ a.2.2.length + 1:=by
 unfold gvS
 split
 ·simp
 ·split
  ·simp
  ·simp
theorem gv_len (κ : Kp) : ∀ (os:List O) (a:Gv),(gv κ os a).1.length ≤ a.1.length + os.length ∧ (gv κ os a).2.1.length ≤ a.2.1.length + os.length ∧ (gv κ os a).2.2.length ≤ a.2.2.length + os.length
 | [],a=>by simp [gv]
 | o :: os,a=>by
  have h1:=gv_len κ os (gvS κ o a)
  have h2:=gvS_len κ o a
  unfold gv at h1 ⊢
  rw [List.foldl_cons,List.length_cons]
  omega
structure GvJ (t:Ad) (ρ : Rho) (id:Nat) (h:Int) (k:Addr) (A:Nat → Addr) (dk:Addr) (κ : Kp) (Vt Lt:Addr) (xs:List V) (H0:Hp) (a:Gv) (H:Hp) : Prop where
 fr:Fr (isK id h) ρ H0 ρ H
 kr:OkR ρ H
 R:KeepR t H ρ id h k A dk { κ with cho:=a.1 }
 hv : ∃ vs,H Vt = some (.lst vs) ∧ Paired (OrdU H ρ) vs a.2.1
 hl : ∃ ls,H Lt = some (.lst ls) ∧ Paired (OrdU H ρ) ls a.2.2
 hx:H (A 5) = some (.lst xs)
 px:Paired (OrdU H ρ) xs κ.unv
theorem GvJ.same {t:Ad} {ρ : Rho} {id:Nat} {h:Int} {k:Addr} {A:Nat → Addr} {dk:Addr} {κ : Kp} {Vt Lt:Addr} {xs:List V} {H0 H H':Hp} {a:Gv} (s:Same H H') (J:GvJ t ρ id h k A dk κ Vt Lt xs H0 a H) : GvJ t ρ id h k A dk κ Vt Lt xs H0 a H':=by
 have f:Fr (fun _=>False) ρ H ρ H':=Fr.same s
 obtain ⟨vs,v1,v2⟩:=J.hv
 obtain ⟨ls,l1,l2⟩:=J.hl
 exact ⟨J.fr.trans (Fr.same s),J.kr.same s,J.R.fr (fun _ z=>z) f,⟨vs,s _ _ v1,Paired.mapP v2 fun _ _=>OrdU.fr f⟩,⟨ls,s _ _ l1,Paired.mapP l2 fun _ _=>OrdU.fr f⟩,s _ _ J.hx,Paired.mapP J.px fun _ _=>OrdU.fr f⟩
theorem GvJ.putL {t:Ad} {ρ : Rho} {id:Nat} {h:Int} {k:Addr} {A:Nat → Addr} {dk:Addr} {κ : Kp} {Vt Lt:Addr} {xs ls ls':List V} {H0 H:Hp} {a:Gv} {later:List O} (J:GvJ t ρ id h k A dk κ Vt Lt xs H0 a H) (hl:H Lt = some (.lst ls)) (rL : ρ Lt = some (id,.kp h 9)) (rV : ρ Vt = some (id,.kp h 8)) (LV:Lt ≠ Vt)
  (fL:Fr (isK id h) ρ H ρ (upd H Lt (.lst ls'))) (pl:Paired (OrdU (upd H Lt (.lst ls')) ρ) ls' later) : GvJ t ρ id h k A dk κ Vt Lt xs H0 (a.1,a.2.1,later) (upd H Lt (.lst ls')):=by
 have f9:Fr (fun r=>r = (id,.kp h 9)) ρ H ρ (upd H Lt (.lst ls')):=Fr.put rL rfl
 obtain ⟨vs,v1,v2⟩:=J.hv
 have nf : ∀ {f:Nat},f ≤ 7 → ∀ {b:Addr},ρ b = some (id,.kp h f) → b ≠ Lt:=fun {f} hf {b} hb=>ner hb rL (by intro z; cases z; omega)
 refine ⟨J.fr.trans fL,J.kr.put,⟨?_,J.R.r0,fun f a1 b1=>?_⟩,⟨vs,?_,Paired.mapP v2 fun _ _=>OrdU.fr fL⟩,⟨ls',upd_same,pl⟩,?_,Paired.mapP J.px fun _ _=>OrdU.fr fL⟩
 ·rw [upd_ne (nf (by decide) J.R.r0)]
  exact J.R.ob
 ·obtain ⟨rf,u,hu,q⟩:=J.R.fl f a1 b1
  exact ⟨rf,u,by rw [upd_ne (nf b1 rf)]; exact hu,q.fr fL⟩
 ·rw [upd_ne LV.symm]
  exact v1
 ·rw [upd_ne (nf (by decide) (J.R.fl 5 (by decide) (by decide)).1)]
  exact J.hx
theorem GvJ.putV {t:Ad} {ρ : Rho} {id:Nat} {h:Int} {k:Addr} {A:Nat → Addr} {dk:Addr} {κ : Kp} {Vt Lt:Addr} {xs vs':List V} {H0 H:Hp} {a:Gv} {votes:List O} (J:GvJ t ρ id h k A dk κ Vt Lt xs H0 a H) (rV : ρ Vt = some (id,.kp h 8)) (LV:Lt ≠ Vt)
  (fL:Fr (isK id h) ρ H ρ (upd H Vt (.lst vs'))) (pv:Paired (OrdU (upd H Vt (.lst vs')) ρ) vs' votes) : GvJ t ρ id h k A dk κ Vt Lt xs H0 (a.1,votes,a.2.2) (upd H Vt (.lst vs')):=by
 obtain ⟨ls,l1,l2⟩:=J.hl
 have nf : ∀ {f:Nat},f ≤ 7 → ∀ {b:Addr},ρ b = some (id,.kp h f) → b ≠ Vt:=fun {f} hf {b} hb=>ner hb rV (by intro z; cases z; omega)
 refine ⟨J.fr.trans fL,J.kr.put,⟨?_,J.R.r0,fun f a1 b1=>?_⟩,⟨vs',upd_same,pv⟩,⟨ls,?_,Paired.mapP l2 fun _ _=>OrdU.fr fL⟩,?_,Paired.mapP J.px fun _ _=>OrdU.fr fL⟩
 ·rw [upd_ne (nf (by decide) J.R.r0)]
  exact J.R.ob
 ·obtain ⟨rf,u,hu,q⟩:=J.R.fl f a1 b1
  exact ⟨rf,u,by rw [upd_ne (nf b1 rf)]; exact hu,q.fr fL⟩
 ·rw [upd_ne LV]
  exact l1
 ·rw [upd_ne (nf (by decide) (J.R.fl 5 (by decide) (by decide)).1)]
  exact J.hx
theorem GvJ.putC {t:Ad} {ρ : Rho} {id:Nat} {h:Int} {k:Addr} {A:Nat → Addr} {dk:Addr} {κ : Kp} {Vt Lt:Addr} {xs:List V} {H0 H:Hp} {a:Gv} {cho:List ((Int × Int) × O)} {kvs:List (List Key × V)} (J:GvJ t ρ id h k A dk κ Vt Lt xs H0 a H) (rL : ρ Lt = some (id,.kp h 9)) (rV : ρ Vt = some (id,.kp h 8))
  (pc:Paired (fun kv (c:(Int × Int) × O)=>kv.1 = [.inl c.1.1,.inl c.1.2] ∧ OrdU (upd H (A 6) (.dT kvs)) ρ kv.2 c.2) kvs cho) : GvJ t ρ id h k A dk κ Vt Lt xs H0 (cho,a.2.1,a.2.2) (upd H (A 6) (.dT kvs)):=by
 obtain ⟨R,fL⟩:=J.R.put (κ':={ κ with cho:=cho }) (f0:=6) (by decide) (by decide) (u0:=.dT kvs) ⟨kvs,rfl,pc⟩ (fun f u hf q=>by unfold FldR at q ⊢; split at q <;> first | exact q | exact absurd rfl hf)
 obtain ⟨vs,v1,v2⟩:=J.hv
 obtain ⟨ls,l1,l2⟩:=J.hl
 have r6:=(J.R.fl 6 (by decide) (by decide)).1
 refine ⟨J.fr.trans fL,J.kr.put,R,⟨vs,?_,Paired.mapP v2 fun _ _=>OrdU.fr fL⟩,⟨ls,?_,Paired.mapP l2 fun _ _=>OrdU.fr fL⟩,?_,Paired.mapP J.px fun _ _=>OrdU.fr fL⟩
 ·rw [upd_ne (ner rV r6 (by intro z; cases z))]
  exact v1
 ·rw [upd_ne (ner rL r6 (by intro z; cases z))]
  exact l1
 ·rw [upd_ne (ner (J.R.fl 5 (by decide) (by decide)).1 r6 (by intro z; cases z))]
  exact J.hx
theorem kfA_un (A:Nat → Addr) (p:Addr) : putF "unvoted" (.ref p) (kfA A) = kfA (fun f=>if f = 5 then p else A f):=by
 unfold kfA kf bkf
 rfl
theorem ok_Keeper_give_votes (T:Txt K mg t) : FnOk P w K mg base CX0 5 t.f_Keeper_give_votes t.d_Keeper_give_votes ["self"] (fun vs H Q _=>∃ ρ id h k A dk κ n,vs = [.ref k] ∧ KeepR t H ρ id h k A dk κ ∧ κ.Ok n ∧ n ≤ 8 ∧ κ.unv.length + κ.cho.length ≤ 1000 ∧ OkR ρ H ∧
  ∀ ρ' H' A' r xs,KeepR t H' ρ' id h k A' dk κ.votes.1 → Fr (isK id h) ρ H ρ' H' → OkR ρ' H' → ρ' r = some (id,.kp h 8) → H' r = some (.lst xs) → Paired (OrdU H' ρ') xs κ.votes.2 → Q (.ref r) H'):=by
 refine T.F_Keeper_give_votes.okA sc_Keeper_give_votes fun _ A _ s H vs Q E hr h=>?_
 obtain ⟨ρ,id,h,k,A',dk,κ,n,rfl,R,hok,n8,ll,kr,g⟩:=h
 refine ⟨_,(@pss_cons _ _ _ _ _ (@ps_set _ _ 1 _ _ _ _ sc_Keeper_give_votes.nd rfl (Or.inl rfl) (@pe_lst _ _ _ _ pa_nil) (by rfl) (by first | exact .inl rfl | exact .inr rfl))
  (@pss_cons _ _ _ _ _ (@ps_set _ _ 2 _ _ _ _ sc_Keeper_give_votes.nd rfl (Or.inl rfl) (@pe_lst _ _ _ _ pa_nil) (by rfl) (by first | exact .inl rfl | exact .inr rfl))
  (@pss_cons _ _ _ _ _ (ps_for PassesOwn.never rfl (@pi_list _ _ _ _ (pe_fld (pv 0) rfl)) (pg_name (i:=3) sc_Keeper_give_votes.nd rfl (Or.inl rfl)) (@pss_one _ _ _ (ps_if (PW.pt (pw_and (pt_val (pe_meth (pv 0) T.cl_Keeper T.mt_Keeper_is_due (ok_Book_is_due T) hr.dn T.b_Book_is_due .nil pass0 (pa_more (pv 3) pa_nil))) (pw_and1 (pt_cmp (pc_dnotin (hu_of hr) (pe_call (ok_place_of T) hr.dn rfl T.m_place_of T.F_place_of.kp T.b_place_of .nil pass0 (pa_more (pv 3) pa_nil)) (pe_fld (pv 0) rfl)))))) (@pss_cons _ _ _ _ _ (ps_dput (hu_of hr) (pe_fld (pv 0) rfl) (pe_call (ok_place_of T) hr.dn rfl T.m_place_of T.F_place_of.kp T.b_place_of .nil pass0 (pa_more (pv 3) pa_nil)) (pv 3) rfl)
  (@pss_one _ _ _ (ps_expr (pe_bm PySem.F.plainAttrs_list PySem.F.slot_list_append PySem.F.type_list_append mt_append (pv 1) (pa_more (pv 3) pa_nil))))) (@pss_one _ _ _ (ps_if (PW.pt (pw_and (pt_not (pt_val (pe_meth (pv 0) T.cl_Keeper T.mt_Keeper_is_past (ok_Book_is_past T) hr.dn T.b_Book_is_past .nil pass0 (pa_more (pv 3) pa_nil)))) (pw_and1 (pt_cmp (pc_dnotin (hu_of hr) (pe_call (ok_place_of T) hr.dn rfl T.m_place_of T.F_place_of.kp T.b_place_of .nil pass0 (pa_more (pv 3) pa_nil)) (pe_fld (pv 0) rfl)))))) (@pss_one _ _ _ (ps_expr (pe_bm PySem.F.plainAttrs_list PySem.F.slot_list_append PySem.F.type_list_append mt_append (pv 2) (pa_more (pv 3) pa_nil)))) pss_nil)))))
  (@pss_cons _ _ _ _ _ (ps_fld (pv 0) (pv 2) rfl)
  (@pss_one _ _ _ (ps_ret (pv 1))))))),?_⟩
 refine ⟨zs0,fun Vt nV=>⟨zs0,fun Lt nL=>?_⟩⟩
 have kf0 : ∀ f,isK id h (id,.kp h f):=fun f=>⟨f,rfl⟩
 have f1:Fr (isK id h) ρ H (setR ρ Vt (id,.kp h 8)) (upd H Vt (.lst [])):=Fr.newR nV
 have kr1:OkR (setR ρ Vt (id,.kp h 8)) (upd H Vt (.lst [])):=kr.newR
 have f2:Fr (isK id h) (setR ρ Vt (id,.kp h 8)) (upd H Vt (.lst [])) (setR (setR ρ Vt (id,.kp h 8)) Lt (id,.kp h 9)) (upd (upd H Vt (.lst [])) Lt (.lst [])):=Fr.newR nL
 have kr2:OkR (setR (setR ρ Vt (id,.kp h 8)) Lt (id,.kp h 9)) (upd (upd H Vt (.lst [])) Lt (.lst [])):=kr1.newR
 generalize eρ : setR (setR ρ Vt (id,.kp h 8)) Lt (id,.kp h 9) = ρ2 at f2 kr2
 have f12:=f1.trans f2
 have LV:Lt ≠ Vt:=fun z=>by
  rw [z,upd_same] at nL
  cases nL
 have rV : ρ2 Vt = some (id,.kp h 8):=by rw [← eρ,setR_ne LV.symm,setR_same]
 have rL : ρ2 Lt = some (id,.kp h 9):=by rw [← eρ,setR_same]
 have hV2:upd (upd H Vt (.lst [])) Lt (.lst []) Vt = some (.lst []):=by rw [upd_ne LV.symm,upd_same]
 have hL2:upd (upd H Vt (.lst [])) Lt (.lst []) Lt = some (.lst []):=upd_same
 have R2:KeepR t (upd (upd H Vt (.lst [])) Lt (.lst [])) ρ2 id h k A' dk κ:=by
  have s2:=(same_upd (o:=.lst []) nV).trans (same_upd (o:=.lst []) nL)
  have nv2 : ∀ {a:Addr} {u:HO},H a = some u → ρ2 a = ρ a:=fun {a u} e=>by
   rw [← eρ,setR_ne (ne_of_none ((same_upd (o:=.lst []) nV) _ _ e) nL),setR_ne (ne_of_none e nV)]
  refine ⟨s2 _ _ R.ob,(nv2 R.ob).trans R.r0,fun f a b=>?_⟩
  obtain ⟨rf,u,hu,q⟩:=R.fl f a b
  exact ⟨(nv2 hu).trans rf,u,s2 _ _ hu,q.fr f12⟩
 generalize upd (upd H Vt (.lst [])) Lt (.lst []) = H2 at f12 kr2 R2 hV2 hL2
 obtain ⟨xs,hx,px⟩:=R2.un
 have lx:xs.length = κ.unv.length:=Paired.length px
 clear f1 f2 kr1 nV nL R
 refine ⟨_,rfl,k,_,dk,_,_,rfl,R2.ob,T.cl_Keeper,T.na_Keeper_unvoted,(kfA_get A').2.2.2.2.1,A' 5,rfl,⟨_,SqL.of hx⟩,for_list (K:=K) (a:=A' 5) (xs:=xs) (fun i σ H'=>∃ v,σ = [some (.ref k),some (.ref Vt),some (.ref Lt),v] ∧ GvJ t ρ2 id h k A' dk κ Vt Lt xs H2 (gv κ (κ.unv.take i) (κ.cho,[],[])) H') ⟨none,rfl,Fr.refl,kr2,R2,⟨_,hV2,.nil⟩,⟨_,hL2,.nil⟩,hx,px⟩ (fun i σ H' _ ⟨_,_,J⟩=>SqL.of J.hx) ?_ ?_⟩
 ·rintro i x σ H3 ex ⟨v,rfl,J⟩
  obtain ⟨o,eo,uo⟩:=paired_get J.px ex
  have gl:=gv_len κ (κ.unv.take i) (κ.cho,[],[])
  have li:(κ.unv.take i).length ≤ κ.unv.length:=by rw [List.length_take]; omega
  rw [gv_snoc κ eo]
  generalize gv κ (κ.unv.take i) (κ.cho,[],[]) = a at J gl ⊢
  obtain ⟨q,rfl,hq⟩:=uo.ref
  have om:o ∈ κ.unv:=List.mem_of_getElem? eo
  have ho:=hok.u o om
  have ho8:=ord8 ho n8
  obtain ⟨kvs,hk,pk⟩:=J.R.cs
  have ck:=cho_val (o:=o) pk
  refine ⟨_,rfl,k,dk,_,rfl,J.R.ob,kfA_no A',_,rfl,ρ2,id,h,k,A',dk,_,n,q,o,rfl,J.R,hq,ho,hok.x,hok.h,_,rfl,?_⟩
  show (if κ.due o = true then _ else _)
  have Js:Same H3 H3:=Same.refl _
  cases hd : κ.due o with
  | false=>
   refine iteF ?_
   have no : ¬ (κ.due o && !chose a.1 o) = true:=by simp [hd]
   refine ⟨_,rfl,k,dk,_,rfl,J.R.ob,kfA_no A',_,rfl,ρ2,id,h,k,A',dk,_,n,q,o,rfl,J.R,hq,ho,hok.x,_,rfl,?_⟩
   show (if (!κ.past o) = true then _ else _)
   cases hp : κ.past o with
   | true=>
    refine iteF ⟨_,rfl,?_⟩
    rw [gvS,if_neg no,if_neg (by simp [hp])]
    exact J
   | false=>
    refine iteT ⟨_,rfl,q,o,rfl,hq,ho8,fun p np=>?_⟩
    have sp:=same_upd (o:=.tup [.int o.p,.int o.n]) np
    have Jp:=J.same sp
    refine ⟨_,rfl,k,_,dk,_,_,rfl,Jp.R.ob,T.cl_Keeper,T.na_Keeper_choices,(kfA_get A').2.2.2.2.2.1,A' 6,valV kvs [.inl o.p,.inl o.n],rfl,.inr ⟨kvs,[.inl o.p,.inl o.n],p,.inl (sp _ _ hk),rfl,upd_same,rfl⟩,_,rfl,?_⟩
    rw [ck]
    cases hc:chose a.1 o with
    | true=>
     refine iteF ⟨_,rfl,?_⟩
     rw [gvS,if_neg no,if_neg (by rw [hc,Bool.not_true,Bool.and_false]; decide)]
     exact Jp
    | false=>
     obtain ⟨ls,hl,pl⟩:=Jp.hl
     have ll2:ls.length ≤ 1000:=by rw [Paired.length pl]; have:=gl.2.2; simp at this; omega
     refine iteT ⟨_,rfl,.inl ⟨rfl,_,SqL.of hl⟩,_,rfl,Lt,ls,.ref q,rfl,rfl,hl,small1000 ll2,⟨_,rfl,?_⟩⟩
     rw [gvS,if_neg no,if_pos (by rw [hp,hc]; rfl)]
     have fL:Fr (isK id h) ρ2 (upd H3 p (.tup [.int o.p,.int o.n])) ρ2 (upd (upd H3 p (.tup [.int o.p,.int o.n])) Lt (.lst (ls ++ [.ref q]))):=Fr.put rL ⟨9,rfl⟩
     have uq:=(uo.fr (Fr.same (P:=fun _=>False) ((Js).trans sp))).fr fL
     exact Jp.putL hl rL rV LV fL (paired_app (Paired.mapP pl fun _ _=>OrdU.fr fL) uq)
  | true=>
   refine iteT ⟨_,rfl,q,o,rfl,hq,ho8,fun p0 np0=>?_⟩
   have sp0:=same_upd (o:=.tup [.int o.p,.int o.n]) np0
   have J0:=J.same sp0
   have J0s:=sp0
   have hk0:=sp0 _ _ hk
   have hq0:=sp0 _ _ hq
   refine ⟨_,rfl,k,_,dk,_,_,rfl,J0.R.ob,T.cl_Keeper,T.na_Keeper_choices,(kfA_get A').2.2.2.2.2.1,A' 6,valV kvs [.inl o.p,.inl o.n],rfl,.inr ⟨kvs,[.inl o.p,.inl o.n],p0,.inl hk0,rfl,upd_same,rfl⟩,_,rfl,?_⟩
   rw [ck]
   cases hc0:chose a.1 o with
   | true=>
    refine iteF ?_
    have no : ¬ (κ.due o && !chose a.1 o) = true:=by rw [hc0,Bool.not_true,Bool.and_false]; decide
    generalize upd H3 p0 (.tup [.int o.p,.int o.n]) = H4 at sp0 J0 J0s hk0 hq0
    refine ⟨_,rfl,k,dk,_,rfl,J0.R.ob,kfA_no A',_,rfl,ρ2,id,h,k,A',dk,_,n,q,o,rfl,J0.R,hq0,ho,hok.x,_,rfl,?_⟩
    show (if (!κ.past o) = true then _ else _)
    cases hp : κ.past o with
    | true=>
     refine iteF ⟨_,rfl,?_⟩
     rw [gvS,if_neg no,if_neg (by simp [hp])]
     exact J0
    | false=>
     refine iteT ⟨_,rfl,q,o,rfl,hq0,ho8,fun p np=>?_⟩
     have sp:=same_upd (o:=.tup [.int o.p,.int o.n]) np
     have Jp:=J0.same sp
     refine ⟨_,rfl,k,_,dk,_,_,rfl,Jp.R.ob,T.cl_Keeper,T.na_Keeper_choices,(kfA_get A').2.2.2.2.2.1,A' 6,valV kvs [.inl o.p,.inl o.n],rfl,.inr ⟨kvs,[.inl o.p,.inl o.n],p,.inl (sp _ _ hk0),rfl,upd_same,rfl⟩,_,rfl,?_⟩
     rw [ck]
     cases hc:chose a.1 o with
     | true=>
      refine iteF ⟨_,rfl,?_⟩
      rw [gvS,if_neg no,if_neg (by rw [hc,Bool.not_true,Bool.and_false]; decide)]
      exact Jp
     | false=>
      obtain ⟨ls,hl,pl⟩:=Jp.hl
      have ll2:ls.length ≤ 1000:=by rw [Paired.length pl]; have:=gl.2.2; simp at this; omega
      refine iteT ⟨_,rfl,.inl ⟨rfl,_,SqL.of hl⟩,_,rfl,Lt,ls,.ref q,rfl,rfl,hl,small1000 ll2,⟨_,rfl,?_⟩⟩
      rw [gvS,if_neg no,if_pos (by rw [hp,hc]; rfl)]
      have fL:Fr (isK id h) ρ2 (upd H4 p (.tup [.int o.p,.int o.n])) ρ2 (upd (upd H4 p (.tup [.int o.p,.int o.n])) Lt (.lst (ls ++ [.ref q]))):=Fr.put rL ⟨9,rfl⟩
      have uq:=(uo.fr (Fr.same (P:=fun _=>False) ((J0s).trans sp))).fr fL
      exact Jp.putL hl rL rV LV fL (paired_app (Paired.mapP pl fun _ _=>OrdU.fr fL) uq)
   | false=>
    refine iteT ?_
    generalize upd H3 p0 (.tup [.int o.p,.int o.n]) = H4 at sp0 J0 J0s hk0 hq0
    refine ⟨_,rfl,_,rfl,k,_,dk,_,_,rfl,J0.R.ob,T.cl_Keeper,T.na_Keeper_choices,(kfA_get A').2.2.2.2.2.1,_,rfl,q,o,rfl,hq0,ho8,fun p np=>?_⟩
    have sp:=same_upd (o:=.tup [.int o.p,.int o.n]) np
    have Jp:=J0.same sp
    have lk:kvs.length ≤ 1000:=by rw [Paired.length pk]; have:=gl.1; show a.1.length ≤ 1000; simp at this; omega
    have nk:valV kvs [.inl o.p,.inl o.n] = none:=by
     cases e:valV kvs [.inl o.p,.inl o.n] with
     | none=>rfl
     | some v=>
      rw [e,hc0] at ck
      cases ck
    refine ⟨A' 6,_,rfl,DPut.t (k:=[.inl o.p,.inl o.n]) (sp _ _ hk0) upd_same (small1000 lk),?_⟩
    rw [putK_new _ nk]
    have r6:=(Jp.R.fl 6 (by decide) (by decide)).1
    have f6:Fr (isK id h) ρ2 (upd H4 p (.tup [.int o.p,.int o.n])) ρ2 (upd (upd H4 p (.tup [.int o.p,.int o.n])) (A' 6) (.dT (kvs ++ [([.inl o.p,.inl o.n],.ref q)]))):=Fr.put r6 ⟨6,rfl⟩
    have u4:=uo.fr (Fr.same (P:=fun _=>False) (J0s.trans sp))
    have pk4:=Paired.mapP pk fun _ _ ⟨e,b⟩=>(⟨e,(b.fr (Fr.same (P:=fun _=>False) (J0s.trans sp))).fr f6⟩ : _ ∧ OrdU _ ρ2 _ _)
    have J5:=Jp.putC rL rV (cho:=a.1 ++ [((o.p,o.n),o)]) (paired_app pk4 ⟨rfl,u4.fr f6⟩)
    have u5:=u4.fr f6
    generalize upd (upd H4 p (.tup [.int o.p,.int o.n])) (A' 6) (.dT (kvs ++ [([.inl o.p,.inl o.n],.ref q)])) = H5 at J5 u5
    obtain ⟨vs,hv,pv⟩:=J5.hv
    have lv:vs.length ≤ 1000:=by rw [Paired.length pv]; have:=gl.2.1; show a.2.1.length ≤ 1000; simp at this; omega
    refine ⟨_,rfl,.inl ⟨rfl,_,SqL.of hv⟩,_,rfl,Vt,vs,.ref q,rfl,rfl,hv,small1000 lv,⟨_,rfl,?_⟩⟩
    rw [gvS,if_pos (by simp [hd,hc0])]
    have fV:Fr (isK id h) ρ2 H5 ρ2 (upd H5 Vt (.lst (vs ++ [.ref q]))):=Fr.put rV ⟨8,rfl⟩
    exact J5.putV rV LV fV (paired_app (Paired.mapP pv fun _ _=>OrdU.fr fV) (u5.fr fV))
 ·rintro σ H3 ⟨v,rfl,J⟩
  rw [lx,List.take_length] at J
  obtain ⟨vs,hv,pv⟩:=J.hv
  obtain ⟨ls,hl,pl⟩:=J.hl
  refine ⟨_,rfl,_,rfl,k,_,dk,_,rfl,J.R.ob,T.cl_Keeper,T.na_Keeper_unvoted,(by show 7 < 1000; decide),⟨_,rfl,?_⟩⟩
  rw [kfA_un]
  have fo:Fr (isK id h) ρ2 H3 ρ2 (upd H3 k (.ins t.a_Keeper dk (kfA fun f=>if f = 5 then Lt else A' f))):=Fr.put J.R.r0 ⟨0,rfl⟩
  have fo':Fr (isK id h) ρ2 (upd H3 k (.ins t.a_Keeper dk (kfA fun f=>if f = 5 then Lt else A' f))) (setR ρ2 Lt (id,.kp h 5)) (upd H3 k (.ins t.a_Keeper dk (kfA fun f=>if f = 5 then Lt else A' f))):=Fr.reR rL ⟨9,rfl⟩
  have ff:=fo.trans fo'
  have kL:Lt ≠ k:=ner rL J.R.r0 (by intro z; cases z)
  have Vk:Vt ≠ k:=ner rV J.R.r0 (by intro z; cases z)
  refine g (setR ρ2 Lt (id,.kp h 5)) _ (fun f=>if f = 5 then Lt else A' f) Vt vs ⟨upd_same,?_,fun f a1 b1=>?_⟩ (f12.trans (J.fr.trans ff)) ?_ ?_ ?_ (Paired.mapP pv fun _ _=>OrdU.fr ff)
  ·rw [setR_ne kL.symm]
   exact J.R.r0
  ·by_cases z:f = 5
   ·subst z
    exact ⟨setR_same,.lst ls,(by show upd H3 k _ Lt = _; rw [upd_ne kL]; exact hl),ls,rfl,Paired.mapP pl fun _ _=>OrdU.fr ff⟩
   ·obtain ⟨rf,u,hu,q⟩:=J.R.fl f a1 b1
    have nL:A' f ≠ Lt:=ner rf rL (by intro y; cases y; omega)
    show setR ρ2 Lt (id,.kp h 5) (if f = 5 then Lt else A' f) = _ ∧ ∃ u,upd H3 k _ (if f = 5 then Lt else A' f) = _ ∧ _
    rw [if_neg z]
    refine ⟨by rw [setR_ne nL]; exact rf,u,by rw [upd_ne (ner rf J.R.r0 (by intro y; cases y; omega))]; exact hu,?_⟩
    have q':=q.fr ff
    unfold FldR at q' ⊢
    split at q' <;> first | exact q' | exact absurd rfl z
  ·exact OkR.reR rL J.kr.put
  ·rw [setR_ne LV.symm]
   exact rV
  ·rw [upd_ne Vk]
   exact hv
theorem paired_eraseIdx {α β : Type} {F : α → β → Prop} : ∀ {xs:List α} {ys:List β} {j:Nat},Paired F xs ys → Paired F (xs.eraseIdx j) (ys.eraseIdx j)
 | _,_,_,.nil=>.nil
 | _,_,0,.cons _ t=>t
 | _,_,j + 1,.cons h t=>.cons h (paired_eraseIdx t)
theorem erase_idx {α : Type} [DecidableEq α] (a : α) : ∀ l:List α,l.erase a = l.eraseIdx (l.idxOf a)
 | []=>rfl
 | b :: l=>by
  by_cases z:b = a
  ·subst z
   simp
  ·have e:(b :: l).idxOf a = l.idxOf a + 1:=by
    rw [List.idxOf_cons,show (b == a) = false by simpa using z]
    rfl
   rw [List.erase_cons_tail (by simpa using z),e,List.eraseIdx_cons_succ,erase_idx a l]
def ordI (o:O) : List Int:=[o.p,o.n,o.g,o.m]
theorem ordI_inj {o u:O} (h:ordI o = ordI u) : o = u:=by
 cases o
 cases u
 unfold ordI at h
 simp at h
 simp [h]
theorem idx_ordI (o:O) : ∀ l:List O,(l.map ordI).idxOf (ordI o) = l.idxOf o
 | []=>rfl
 | b :: l=>by
  rw [List.map_cons]
  by_cases z:b = o
  ·subst z
   simp
  ·rw [List.idxOf_cons,List.idxOf_cons,show (b == o) = false by simpa using z,show (ordI b == ordI o) = false by simpa using fun y=>z (ordI_inj y),idx_ordI o l]
theorem ords_tupI {K:W.Frag} {H:Hp} {ρ : Rho} : ∀ {xs:List V} {os:List O},Paired (OrdU H ρ) xs os → Paired (TupI K H) xs (os.map ordI)
 | _,_,.nil=>.nil
 | _,_,.cons ⟨a,e,_,h⟩ t=>.cons ⟨a,e,SqT.of h⟩ (ords_tupI t)
theorem first_mem {κ : Kp} {o:O} (h : κ.first = some o) : o ∈ κ.wait:=List.mem_of_find?_eq_some h
theorem go_none {κ : Kp} (h : κ.first = none) : ∀ m,Kp.go m κ = κ
 | 0=>rfl
 | m + 1=>by
  unfold Kp.go
  rw [h]
theorem go_some {κ : Kp} {o:O} (h : κ.first = some o) : Kp.go κ.wait.length κ = Kp.go (κ.step o).wait.length (κ.step o):=by
 have e:(κ.step o).wait.length = κ.wait.length - 1:=List.length_erase_of_mem (first_mem h)
 have p : 0 < κ.wait.length:=List.length_pos_of_mem (first_mem h)
 obtain ⟨m,hm⟩ : ∃ m,κ.wait.length = m + 1:=⟨κ.wait.length - 1,by omega⟩
 rw [e,hm]
 show (match κ.first with | none=>κ | some o=>Kp.go m (κ.step o)) = _
 rw [h]
 rfl
theorem ok_Keeper_go_on (T:Txt K mg t) : FnOk P w K mg base CX0 6 t.f_Keeper_go_on t.d_Keeper_go_on ["self"] (fun vs H Q _=>∃ ρ id h k A dk κ n,vs = [.ref k] ∧ KeepR t H ρ id h k A dk κ ∧ κ.Ok n ∧ n ≤ 8 ∧ κ.unv.length + κ.cho.length ≤ 1000 ∧ κ.done.length + κ.wait.length ≤ 1000 ∧ OkR ρ H ∧
  ∀ ρ' H' A' r xs,KeepR t H' ρ' id h k A' dk κ.goOn.votes.1 → Fr (isK id h) ρ H ρ' H' → OkR ρ' H' → ρ' r = some (id,.kp h 8) → H' r = some (.lst xs) → Paired (OrdU H' ρ') xs κ.goOn.votes.2 → Q (.ref r) H'):=by
 refine T.F_Keeper_go_on.okA sc_Keeper_go_on fun _ A _ s H vs Q E hr h=>?_
 obtain ⟨ρ,id,h,k,A',dk,κ,n,rfl,R,hok,n8,ll,ld,kr,g⟩:=h
 refine ⟨_,(@pss_cons _ _ _ _ _ (ps_set (i:=1) sc_Keeper_go_on.nd rfl (Or.inl rfl) (pe_meth0 (pv 0) T.cl_Keeper T.mt_Keeper_first_due (ok_Keeper_first_due T) hr.dn T.b_Keeper_first_due .nil pass0))
  (@pss_cons _ _ _ _ _ (ps_while PassesOwn.never (pt_cmpR op_notN (pv 1) pe_non (nomark _)) (@pss_cons _ _ _ _ _ (ps_expr (pe_bm PySem.F.plainAttrs_list PySem.F.slot_list_remove PySem.F.type_list_remove (mt_removeT hr.units) (pe_fld (pv 0) rfl) (pa_more (pv 1) pa_nil)))
  (@pss_cons _ _ _ _ _ (ps_expr (pe_meth (pv 0) T.cl_Keeper T.mt_Keeper_settle (ok_Book_settle T) hr.dn T.b_Book_settle .nil pass0 (pa_more (pv 1) pa_nil)))
  (@pss_one _ _ _ (ps_set (i:=1) sc_Keeper_go_on.nd rfl (Or.inl rfl) (pe_meth0 (pv 0) T.cl_Keeper T.mt_Keeper_first_due (ok_Keeper_first_due T) hr.dn T.b_Keeper_first_due .nil pass0))))))
  (@pss_one _ _ _ (ps_ret (pe_meth0 (pv 0) T.cl_Keeper T.mt_Keeper_give_votes (ok_Keeper_give_votes T) hr.dn T.b_Keeper_give_votes .nil pass0))))),?_⟩
 refine ⟨_,rfl,k,dk,_,rfl,R.ob,kfA_no A',ρ,id,h,k,A',dk,κ,n,rfl,R,hok,fun v0 h0=>?_⟩
 refine while_by (fun σ H'=>∃ κ' v,σ = [some (.ref k),some v] ∧ KeepR t H' ρ id h k A' dk κ' ∧ κ'.Ok n ∧ Fr (isK id h) ρ H ρ H' ∧ OkR ρ H' ∧ Kp.go κ'.wait.length κ' = κ.goOn ∧ κ'.unv = κ.unv ∧ κ'.cho = κ.cho ∧ κ'.done.length + κ'.wait.length ≤ 1000 ∧ ((κ'.first = none ∧ v = .non) ∨ ∃ o,κ'.first = some o ∧ OrdU H' ρ v o)) (fun _ H'=>match H' (A' 7) with | some (.lst xs)=>xs.length | _=>0) ⟨κ,v0,rfl,R,hok,Fr.refl,kr,rfl,rfl,rfl,ld,h0⟩ ?_ ?_
 ·rintro σ H1 ⟨κ',v,rfl,R1,hok1,f1,kr1,eg,eu,ec,ld1,hv⟩
  refine ⟨_,rfl,rfl,_,rfl,?_⟩
  rcases hv with ⟨e,rfl⟩ | ⟨o,e,uo⟩
  ·refine iteF ?_
   rw [go_none e] at eg
   subst eg
   refine ⟨_,rfl,k,dk,_,rfl,R1.ob,kfA_no A',ρ,id,h,k,A',dk,_,n,rfl,R1,hok1,n8,by rw [eu,ec]; exact ll,kr1,fun ρ' H' A'' r xs q1 q2 q3 q4 q5 q6=>g ρ' H' A'' r xs q1 (f1.trans q2) q3 q4 q5 q6⟩
  ·obtain ⟨q,rfl,nq,hq⟩:=uo
   refine iteT ?_
   obtain ⟨xs,hx,px⟩:=R1.wt
   have om:=first_mem e
   refine ⟨_,rfl,k,_,dk,_,_,rfl,R1.ob,T.cl_Keeper,T.na_Keeper_waiting,(kfA_get A').2.2.2.2.2.2,.inl ⟨rfl,_,SqL.of hx⟩,_,rfl,A' 7,xs,.ref q,ordI o,κ'.wait.map ordI,rfl,rfl,hx,⟨q,rfl,SqT.of hq⟩,ords_tupI px,List.mem_map_of_mem om,?_⟩
   rw [idx_ordI]
   obtain ⟨r7,_⟩:=R1.fl 7 (by decide) (by decide)
   obtain ⟨R2,f2⟩:=R1.put (κ':={ κ' with wait:=κ'.wait.erase o }) (f0:=7) (by decide) (by decide) (u0:=.lst (xs.eraseIdx (κ'.wait.idxOf o))) ⟨_,rfl,by show Paired _ _ (κ'.wait.erase o); rw [erase_idx]; exact paired_eraseIdx (Paired.mapP px fun _ _=>OrdU.fr (Fr.put (P:=isK id h) r7 ⟨7,rfl⟩))⟩ (fun f u hf q=>by unfold FldR at q ⊢; split at q <;> first | exact q | exact absurd rfl hf)
   have kr2:=kr1.put (a:=A' 7) (o:=.lst (xs.eraseIdx (κ'.wait.idxOf o)))
   have uq2:OrdU (upd H1 (A' 7) (.lst (xs.eraseIdx (κ'.wait.idxOf o)))) ρ (.ref q) o:=OrdU.fr f2 ⟨q,rfl,nq,hq⟩
   have ho:=hok1.w o om
   generalize upd H1 (A' 7) (.lst (xs.eraseIdx (κ'.wait.idxOf o))) = H2 at R2 f2 kr2 uq2
   refine ⟨_,rfl,k,dk,_,rfl,R2.ob,kfA_no A',_,rfl,ρ,id,h,k,A',dk,_,n,q,o,rfl,R2,uq2,ho,hok1.x,hok1.h,by show κ'.done.length ≤ 1000; omega,kr2,fun H3 R3 f3 kr3=>?_⟩
   have ok3:(κ'.step o).Ok n:=hok1.step o
   refine ⟨_,rfl,k,dk,_,rfl,R3.ob,kfA_no A',ρ,id,h,k,A',dk,κ'.step o,n,rfl,R3,ok3,fun v1 hv1=>⟨⟨κ'.step o,v1,rfl,R3,ok3,(f1.trans f2).trans f3,kr3,by rw [← go_some e]; exact eg,eu,ec,?_,hv1⟩,?_⟩⟩
   ·have l1:(κ'.step o).done.length = κ'.done.length + 1:=by show (κ'.done ++ [o]).length = _; rw [List.length_append]; rfl
    have l2:(κ'.step o).wait.length = κ'.wait.length - 1:=List.length_erase_of_mem om
    have:=List.length_pos_of_mem om
    omega
   ·obtain ⟨ys,hy,py⟩:=R3.wt
    have l2:(κ'.step o).wait.length = κ'.wait.length - 1:=List.length_erase_of_mem om
    have:=List.length_pos_of_mem om
    have e1:=Paired.length px
    have e2:ys.length = (κ'.step o).wait.length:=Paired.length py
    rw [hy,hx]
    show ys.length < xs.length
    omega
 ·intro σ H Q Q' hQ h
  obtain ⟨v,e1,e2,c,e3,q⟩:=h
  exact ⟨v,e1,e2,c,e3,hQ _ _ q⟩
theorem heard_val {o:O} : ∀ {kvs:List (List Key × V)} {os:List O},kvs.map (·.1) = os.map ordK → (valV kvs (ordK o)).isSome = decide (o ∈ os)
 | [],[],_=>rfl
 | [],_ :: _,e=>by simp at e
 | _ :: _,[],e=>by simp at e
 | kv :: kvs,u :: os,e=>by
  rw [List.map_cons,List.map_cons] at e
  obtain ⟨e1,e2⟩:=List.cons.inj e
  have ih:=heard_val (o:=o) e2
  by_cases z:u = o
  ·subst z
   rw [valV_pos e1]
   simp
  ·rw [valV_neg (fun y=>z (ordK_inj (e1.symm.trans y))),ih]
   simp [Ne.symm z]
theorem KeepR.newR {t:Ad} {H:Hp} {ρ : Rho} {id:Nat} {h:Int} {k dk:Addr} {A:Nat → Addr} {κ : Kp} {r:Addr} {ro:Role} {o:HO} (R:KeepR t H ρ id h k A dk κ) (kr:OkR ρ H) (nr:H r = none) : KeepR t (upd H r o) (setR ρ r ro) id h k A dk κ:=
 R.fr (P:=fun _=>False) (fun _ z=>z) (Fr.newR nr)
def sp_votes (t:Ad) (κ':Kp → O → Kp × List O) : Sp:=fun vs H Q _=>∃ ρ id h k A dk κ n q o,vs = [.ref k,.ref q] ∧ KeepR t H ρ id h k A dk κ ∧ OrdU H ρ (.ref q) o ∧ κ.Ok n ∧ n ≤ 8 ∧ isOrd (n:Nat) o = true ∧ κ.heard.length ≤ 900 ∧ κ.unv.length + κ.cho.length ≤ 900 ∧ κ.done.length + κ.wait.length ≤ 900 ∧ OkR ρ H ∧
  ∀ ρ' H' A' r xs,KeepR t H' ρ' id h k A' dk (κ' κ o).1 → Fr (isK id h) ρ H ρ' H' → OkR ρ' H' → ρ' r = some (id,.kp h 8) → H' r = some (.lst xs) → Paired (OrdU H' ρ') xs (κ' κ o).2 → Q (.ref r) H'
theorem ok_Keeper_hear (T:Txt K mg t) : FnOk P w K mg base CX0 6 t.f_Keeper_hear t.d_Keeper_hear ["self","order"] (sp_votes t Kp.hear):=by
 refine T.F_Keeper_hear.okB (N:=["self","order"]) fun _ A _ s H vs Q E hr h=>?_
 obtain ⟨ρ,id,h,k,A',dk,κ,n,q,o,rfl,R,uq,hok,n8,ho,lh,lu,ld,kr,g⟩:=h
 refine ⟨_,(@pss_cons _ _ _ _ _ (ps_if (pt_cmp (pc_din (hu_of hr) (pv 1) (pe_fld (pv 0) rfl))) (@pss_one _ _ _ (ps_ret (@pe_lst _ _ _ _ pa_nil))) pss_nil)
  (@pss_cons _ _ _ _ _ (ps_dput (hu_of hr) (pe_fld (pv 0) rfl) (pv 1) pe_bl rfl)
  (@pss_cons _ _ _ _ _ (ps_expr (pe_bm PySem.F.plainAttrs_list PySem.F.slot_list_append PySem.F.type_list_append mt_append (pe_fld (pv 0) rfl) (pa_more (pv 1) pa_nil)))
  (@pss_one _ _ _ (ps_ret (pe_meth0 (pv 0) T.cl_Keeper T.mt_Keeper_give_votes (ok_Keeper_give_votes T) hr.dn T.b_Keeper_give_votes .nil pass0)))))),?_⟩
 obtain ⟨_,eq,nq,hq⟩:=uq
 cases eq
 obtain ⟨kvs,hk,ek⟩:=R.hd
 have hv:=heard_val (o:=o) ek
 refine ⟨_,rfl,_,rfl,k,_,dk,_,_,rfl,R.ob,T.cl_Keeper,T.na_Keeper_heard,(kfA_get A').2.2.2.1,A' 4,valV kvs (ordK o),rfl,.inr ⟨kvs,ordK o,q,.inl hk,rfl,hq,rfl⟩,_,rfl,?_⟩
 rw [hv]
 unfold Kp.hear at g
 refine ite2 (fun z=>?_) (fun z=>?_)
 ·have z':o ∈ κ.heard:=of_decide_eq_true z
  rw [if_pos z'] at g
  refine ⟨zs0,fun r nr=>?_⟩
  have f1:Fr (isK id h) ρ H (setR ρ r (id,.kp h 8)) (upd H r (.lst [])):=Fr.newR nr
  refine g _ _ A' r [] (KeepR.newR R kr nr) f1 kr.newR setR_same upd_same .nil
 ·have z' : ¬ o ∈ κ.heard:=fun y=>z (decide_eq_true y)
  rw [if_neg z'] at g
  have nk:valV kvs (ordK o) = none:=by
   cases e:valV kvs (ordK o) with
   | none=>rfl
   | some v=>
    rw [e,decide_eq_false z'] at hv
    cases hv
  have lk:kvs.length ≤ 1000:=by
   have:=congrArg List.length ek
   rw [List.length_map,List.length_map] at this
   omega
  refine ⟨_,rfl,k,_,dk,_,_,rfl,R.ob,T.cl_Keeper,T.na_Keeper_heard,(kfA_get A').2.2.2.1,_,rfl,A' 4,_,rfl,DPut.t (k:=ordK o) hk hq (small1000 lk),?_⟩
  rw [putK_new _ nk]
  obtain ⟨R1,f1⟩:=R.put (κ':={ κ with heard:=κ.heard ++ [o] }) (f0:=4) (by decide) (by decide) (u0:=.dT (kvs ++ [(ordK o,.bl true)])) ⟨_,rfl,by rw [List.map_append,ek,List.map_append]; rfl⟩ (fun f u hf q=>by unfold FldR at q ⊢; split at q <;> first | exact q | exact absurd rfl hf)
  have kr1:=kr.put (a:=A' 4) (o:=.dT (kvs ++ [(ordK o,.bl true)]))
  have uq1:OrdU _ ρ (.ref q) o:=OrdU.fr f1 ⟨q,rfl,nq,hq⟩
  generalize upd H (A' 4) (.dT (kvs ++ [(ordK o,.bl true)])) = H1 at R1 f1 kr1 uq1
  obtain ⟨xs,hx,px⟩:=R1.un
  have lx:xs.length ≤ 1000:=by rw [Paired.length px]; show κ.unv.length ≤ 1000; omega
  refine ⟨_,rfl,k,_,dk,_,_,rfl,R1.ob,T.cl_Keeper,T.na_Keeper_unvoted,(kfA_get A').2.2.2.2.1,.inl ⟨rfl,_,SqL.of hx⟩,_,rfl,A' 5,xs,.ref q,rfl,rfl,hx,small1000 lx,?_⟩
  obtain ⟨r5,_⟩:=R1.fl 5 (by decide) (by decide)
  obtain ⟨R2,f2⟩:=R1.put (κ':={ κ with heard:=κ.heard ++ [o],unv:=κ.unv ++ [o] }) (f0:=5) (by decide) (by decide) (u0:=.lst (xs ++ [.ref q])) ⟨_,rfl,paired_app (Paired.mapP px fun _ _=>OrdU.fr (Fr.put (P:=isK id h) r5 ⟨5,rfl⟩)) (uq1.fr (Fr.put (P:=isK id h) r5 ⟨5,rfl⟩))⟩ (fun f u hf q=>by unfold FldR at q ⊢; split at q <;> first | exact q | exact absurd rfl hf)
  have kr2:=kr1.put (a:=A' 5) (o:=.lst (xs ++ [.ref q]))
  dsimp only
  generalize upd H1 (A' 5) (.lst (xs ++ [.ref q])) = H2 at R2 f2 kr2
  have ok2:Kp.Ok n { κ with heard:=κ.heard ++ [o],unv:=κ.unv ++ [o] }:=⟨hok.h,hok.x,fun u hu=>by
   rcases List.mem_append.mp hu with hu | hu
   ·exact hok.u u hu
   ·rw [List.mem_singleton.mp hu]; exact ho,hok.w,hok.nd⟩
  exact ⟨_,rfl,k,dk,_,rfl,R2.ob,kfA_no A',ρ,id,h,k,A',dk,_,n,rfl,R2,ok2,n8,by show (κ.unv ++ [o]).length + κ.cho.length ≤ 1000; rw [List.length_append]; show κ.unv.length + 1 + κ.cho.length ≤ 1000; omega,kr2,fun ρ' H' A'' r ys q1 q2 q3 q4 q5 q6=>g ρ' H' A'' r ys q1 ((f1.trans f2).trans q2) q3 q4 q5 q6⟩
theorem ok_Keeper_take_paper (T:Txt K mg t) : FnOk P w K mg base CX0 7 t.f_Keeper_take_paper t.d_Keeper_take_paper ["self","order"] (sp_votes t Kp.paper):=by
 refine T.F_Keeper_take_paper.okB (N:=["self","order"]) fun _ A _ s H vs Q E hr h=>?_
 obtain ⟨ρ,id,h,k,A',dk,κ,n,q,o,rfl,R,uq,hok,n8,ho,lh,lu,ld,kr,g⟩:=h
 refine ⟨_,(@pss_cons _ _ _ _ _ (ps_if (PW.pt (pw_or (pt_val (pe_meth (pv 0) T.cl_Keeper T.mt_Keeper_is_past (ok_Book_is_past T) hr.dn T.b_Book_is_past .nil pass0 (pa_more (pv 1) pa_nil))) (pw_or1 (pt_cmpR (op_inT hr.units) (pv 1) (pe_fld (pv 0) rfl) (by with_unfolding_all rfl))))) (@pss_one _ _ _ (ps_ret (@pe_lst _ _ _ _ pa_nil))) pss_nil)
  (@pss_cons _ _ _ _ _ (ps_expr (pe_bm PySem.F.plainAttrs_list PySem.F.slot_list_append PySem.F.type_list_append mt_append (pe_fld (pv 0) rfl) (pa_more (pv 1) pa_nil)))
  (@pss_one _ _ _ (ps_ret (pe_meth0 (pv 0) T.cl_Keeper T.mt_Keeper_go_on (ok_Keeper_go_on T) hr.dn T.b_Keeper_go_on .nil pass0))))),?_⟩
 obtain ⟨_,eq,nq,hq⟩:=uq
 cases eq
 obtain ⟨xs,hx,px⟩:=R.wt
 unfold Kp.paper at g
 have none_:(κ.past o || decide (o ∈ κ.wait)) = true → ∀ r H1,Same H H1 → H1 r = none → Q (.ref r) (upd H1 r (.lst [])):=fun z r H1 s1 nr=>by
  rw [if_pos z] at g
  have f0:Fr (isK id h) ρ H ρ H1:=Fr.same s1
  have f1:Fr (isK id h) ρ H1 (setR ρ r (id,.kp h 8)) (upd H1 r (.lst [])):=Fr.newR nr
  exact g _ _ A' r [] (KeepR.newR (R.fr (P:=fun _=>False) (fun _ z=>z) (Fr.same s1)) (kr.same s1) nr) (f0.trans f1) (kr.same s1).newR setR_same upd_same .nil
 refine ⟨_,rfl,k,dk,_,rfl,R.ob,kfA_no A',_,rfl,ρ,id,h,k,A',dk,κ,n,q,o,rfl,R,hq,ho,hok.x,_,rfl,?_⟩
 cases hp : κ.past o with
 | true=>
  refine iteT (iteT ⟨zs0,fun r nr=>none_ (by rw [hp]; rfl) r H (Same.refl _) nr⟩)
 | false=>
  refine iteF ⟨_,rfl,_,rfl,k,_,dk,_,_,rfl,R.ob,T.cl_Keeper,T.na_Keeper_waiting,(kfA_get A').2.2.2.2.2.2,A' 7,xs,ordI o,κ.wait.map ordI,rfl,SqL.of hx,⟨q,rfl,SqT.of hq⟩,ords_tupI px,_,rfl,ite2 (fun z=>?_) (fun z=>?_)⟩
  ·have z':o ∈ κ.wait:=by
    obtain ⟨u,hu,e⟩:=List.mem_map.mp (of_decide_eq_true z)
    rw [← ordI_inj e]
    exact hu
   exact ⟨zs0,fun r nr=>none_ (by rw [decide_eq_true z',Bool.or_true]) r H (Same.refl _) nr⟩
  ·have z' : ¬ o ∈ κ.wait:=fun y=>z (decide_eq_true (List.mem_map_of_mem y))
   rw [if_neg (by rw [hp,decide_eq_false z']; decide)] at g
   have lx:xs.length ≤ 1000:=by rw [Paired.length px]; omega
   refine ⟨_,rfl,k,_,dk,_,_,rfl,R.ob,T.cl_Keeper,T.na_Keeper_waiting,(kfA_get A').2.2.2.2.2.2,.inl ⟨rfl,_,SqL.of hx⟩,_,rfl,A' 7,xs,.ref q,rfl,rfl,hx,small1000 lx,?_⟩
   obtain ⟨r7,_⟩:=R.fl 7 (by decide) (by decide)
   obtain ⟨R2,f2⟩:=R.put (κ':={ κ with wait:=κ.wait ++ [o] }) (f0:=7) (by decide) (by decide) (u0:=.lst (xs ++ [.ref q])) ⟨_,rfl,paired_app (Paired.mapP px fun _ _=>OrdU.fr (Fr.put (P:=isK id h) r7 ⟨7,rfl⟩)) (OrdU.fr (Fr.put (P:=isK id h) r7 ⟨7,rfl⟩) ⟨q,rfl,nq,hq⟩)⟩ (fun f u hf q=>by unfold FldR at q ⊢; split at q <;> first | exact q | exact absurd rfl hf)
   have kr2:=kr.put (a:=A' 7) (o:=.lst (xs ++ [.ref q]))
   dsimp only
   generalize upd H (A' 7) (.lst (xs ++ [.ref q])) = H2 at R2 f2 kr2
   have ok2:Kp.Ok n { κ with wait:=κ.wait ++ [o] }:=⟨hok.h,hok.x,hok.u,fun u hu=>by
    rcases List.mem_append.mp hu with hu | hu
    ·exact hok.w u hu
    ·rw [List.mem_singleton.mp hu]; exact ho,List.nodup_append.mpr ⟨hok.nd,by simp,fun x hx y hy e=>by rw [List.mem_singleton.mp hy] at e; subst e; exact z' hx⟩⟩
   exact ⟨_,rfl,k,dk,_,rfl,R2.ob,kfA_no A',ρ,id,h,k,A',dk,_,n,rfl,R2,ok2,n8,by show κ.unv.length + κ.cho.length ≤ 1000; omega,by show κ.done.length + (κ.wait ++ [o]).length ≤ 1000; rw [List.length_append]; show κ.done.length + (κ.wait.length + 1) ≤ 1000; omega,kr2,fun ρ' H' A'' r ys q1 q2 q3 q4 q5 q6=>g ρ' H' A'' r ys q1 (f2.trans q2) q3 q4 q5 q6⟩
def wof (n tot:Int) (ly ch kd bd ak wy:Addr) : List (Str × V):=putF "on_way" (.ref wy) (putF "asked" (.ref ak) (putF "board" (.ref bd) (putF "keepers" (.ref kd) (putF "cheating" (.ref ch) (putF "lying" (.ref ly) (putF "total" (.int tot) (putF "purses" (.int n) [])))))))
theorem wof_purses {n tot:Int} {ly ch kd bd ak wy:Addr} : (wof n tot ly ch kd bd ak wy).lookup ("purses" : Str) = some (.int n):=by
 unfold wof
 repeat (first | rw [lookup_putF,if_pos rfl] | rw [lookup_putF,if_neg (by decide +kernel)])
theorem wof_lying {n tot:Int} {ly ch kd bd ak wy:Addr} : (wof n tot ly ch kd bd ak wy).lookup ("lying" : Str) = some (.ref ly):=by
 unfold wof
 repeat (first | rw [lookup_putF,if_pos rfl] | rw [lookup_putF,if_neg (by decide +kernel)])
theorem wof_cheating {n tot:Int} {ly ch kd bd ak wy:Addr} : (wof n tot ly ch kd bd ak wy).lookup ("cheating" : Str) = some (.ref ch):=by
 unfold wof
 repeat (first | rw [lookup_putF,if_pos rfl] | rw [lookup_putF,if_neg (by decide +kernel)])
theorem wof_keepers {n tot:Int} {ly ch kd bd ak wy:Addr} : (wof n tot ly ch kd bd ak wy).lookup ("keepers" : Str) = some (.ref kd):=by
 unfold wof
 repeat (first | rw [lookup_putF,if_pos rfl] | rw [lookup_putF,if_neg (by decide +kernel)])
theorem wof_board {n tot:Int} {ly ch kd bd ak wy:Addr} : (wof n tot ly ch kd bd ak wy).lookup ("board" : Str) = some (.ref bd):=by
 unfold wof
 repeat (first | rw [lookup_putF,if_pos rfl] | rw [lookup_putF,if_neg (by decide +kernel)])
theorem wof_asked {n tot:Int} {ly ch kd bd ak wy:Addr} : (wof n tot ly ch kd bd ak wy).lookup ("asked" : Str) = some (.ref ak):=by
 unfold wof
 repeat (first | rw [lookup_putF,if_pos rfl] | rw [lookup_putF,if_neg (by decide +kernel)])
theorem wof_on_way {n tot:Int} {ly ch kd bd ak wy:Addr} : (wof n tot ly ch kd bd ak wy).lookup ("on_way" : Str) = some (.ref wy):=by
 unfold wof
 repeat (first | rw [lookup_putF,if_pos rfl] | rw [lookup_putF,if_neg (by decide +kernel)])
theorem wof_no {n tot:Int} {ly ch kd bd ak wy:Addr} {m:Str} (h:autoParam (¬ m = "on_way" ∧ ¬ m = "asked" ∧ ¬ m = "board" ∧ ¬ m = "keepers" ∧ ¬ m = "cheating" ∧ ¬ m = "lying" ∧ ¬ m = "total" ∧ ¬ m = "purses") aP4) : (wof n tot ly ch kd bd ak wy).lookup m = none:=by
 obtain ⟨h1,h2,h3,h4,h5,h6,h7,h8⟩:=h
 unfold wof
 rw [lookup_putF,if_neg h1,lookup_putF,if_neg h2,lookup_putF,if_neg h3,lookup_putF,if_neg h4,lookup_putF,if_neg h5,lookup_putF,if_neg h6,lookup_putF,if_neg h7,lookup_putF,if_neg h8]
 rfl
structure Wd where
 n:Nat
 cheats:List Int
 ks:List (Int × Kp)
 bd:IThings
 en:Int
 asked:List (List O)
 way:List (Bool × Int × O)
def setK (ks:List (Int × Kp)) (h:Int) (κ : Kp) : List (Int × Kp):=ks.map fun c=>if c.1 = h then (h,κ) else c
def Wd.post (w:Wd) (b:Bool) (o:O) : Wd:={ w with way:=w.way ++ w.ks.map fun c=>(b,c.1,o) }
def housesI:IThings → List Int → List Int
 | [],_=>[]
 | p :: ps,k=>if p.1 = k then p.2 else housesI ps k
def signI:IThings → List Int → Int → IThings
 | [],k,h=>[(k,[h])]
 | p :: ps,k,h=>if p.1 = k then (p.1,p.2 ++ [h]) :: ps else p :: signI ps k h
def Wd.put (w:Wd) (h:Int) (o:O) : Wd × Bool:=if h ∈ housesI w.bd (ordI o) then (w,false) else ({ w with bd:=signI w.bd (ordI o) h },decide (((housesI w.bd (ordI o)).length:Int) + 1 = w.en))
def Wd.vote (h:Int) (w:Wd) (o:O) : Wd:=if (w.put h o).2 = true then (w.put h o).1.post false o else (w.put h o).1
def Wd.votes (w:Wd) (h:Int) (os:List O) : Wd:=os.foldl (Wd.vote h) w
def Wd.keep (w:Wd) (h:Int) : Option Kp:=(w.ks.find? fun c=>decide (c.1 = h)).map (·.2)
def Kp.take (κ : Kp) (b:Bool) (o:O) : Kp × List O:=if b = true then κ.hear o else κ.paper o
def Wd.come (w:Wd) (i:Nat) (l:Bool × Int × O) (κ : Kp) : Wd:=Wd.votes { w with way:=w.way.eraseIdx i,ks:=setK w.ks l.2.1 (κ.take l.1 l.2.2).1 } l.2.1 (κ.take l.1 l.2.2).2
theorem houses_thP (k:List Int) : ∀ is:IThings,housesOf (thP is) (keyI k) = housesI is k
 | []=>rfl
 | p :: ps=>by
  show (if keyI p.1 = keyI k then p.2 else housesOf (thP ps) (keyI k)) = if p.1 = k then p.2 else housesI ps k
  by_cases z:p.1 = k
  ·rw [if_pos z,if_pos (by rw [z])]
  ·rw [if_neg z,if_neg (fun y=>z (keyI_inj y)),houses_thP k ps]
theorem sign_thP (k:List Int) (h:Int) : ∀ is:IThings,signP (thP is) (keyI k) h = thP (signI is k h)
 | []=>rfl
 | p :: ps=>by
  show (if keyI p.1 = keyI k then (keyI p.1,p.2 ++ [h]) :: thP ps else (keyI p.1,p.2) :: signP (thP ps) (keyI k) h) = thP (if p.1 = k then (p.1,p.2 ++ [h]) :: ps else p :: signI ps k h)
  by_cases z:p.1 = k
  ·rw [if_pos z,if_pos (by rw [z])]
   rfl
  ·rw [if_neg z,if_neg (fun y=>z (keyI_inj y)),sign_thP k h ps]
   rfl
def wordV (b:Bool) : V:=.str (if b = true then "order" else "paper")
def LetU (H:Hp) (ρ : Rho) (x:V) (l:Bool × Int × O) : Prop:=∃ a q,x = .ref a ∧ ρ a = none ∧ H a = some (.tup [wordV l.1,.int l.2.1,.ref q]) ∧ OrdU H ρ (.ref q) l.2.2
theorem LetU.fr {P:Role → Prop} {ρ ρ':Rho} {H H':Hp} {x:V} {l:Bool × Int × O} (f:Fr P ρ H ρ' H') (h:LetU H ρ x l) : LetU H' ρ' x l:=by
 obtain ⟨a,q,e,n,h1,h2⟩:=h
 obtain ⟨h1',n'⟩:=f a _ h1 fun r hr=>by rw [n] at hr; cases hr
 exact ⟨a,q,e,n'.trans n,h1',h2.fr f⟩
structure WA where
 x:Addr
 dx:Addr
 tot:Int
 ly:Addr
 ch:Addr
 kd:Addr
 bd:Addr
 ak:Addr
 wy:Addr
 db:Addr
 S:Addr
abbrev WA.fs (W:WA) (n:Nat) : List (Str × V):=wof n W.tot W.ly W.ch W.kd W.bd W.ak W.wy
def KeepsR (t:Ad) (H:Hp) (ρ : Rho) (id:Nat) (kvs:List (Key × V)) (ks:List (Int × Kp)) : Prop:=Paired (fun kv (c:Int × Kp)=>kv.1 = .inl c.1 ∧ ∃ k A dk,kv.2 = .ref k ∧ KeepR t H ρ id c.1 k A dk c.2) kvs ks
def RowsR (H:Hp) (ρ : Rho) (id:Nat) (rs:List Addr) (asked:List (List O)) : Prop:=rs.length = asked.length ∧ ∀ (i:Nat) (r:Addr) (os:List O),rs[i]? = some r → asked[i]? = some os → ρ r = some (id,.row i) ∧ ∃ xs,H r = some (.lst xs) ∧ Paired (OrdU H ρ) xs os
def SigR (ρ : Rho) (id:Nat) (kvs:List (List Key × V)) : Prop:=∀ kv ∈ kvs,∃ c,kv.2 = .ref c ∧ ρ c = some (id,.sg)
structure WorldR (t:Ad) (H:Hp) (ρ : Rho) (id:Nat) (W:WA) (w:Wd) : Prop where
 ob:H W.x = some (.ins t.a_World W.dx (W.fs w.n)) ∧ ρ W.x = some (id,.x)
 ch:H W.ch = some (.lst (w.cheats.map V.int)) ∧ ρ W.ch = none
 kd : ρ W.kd = some (id,.kd) ∧ ∃ kvs,H W.kd = some (.dK kvs) ∧ KeepsR t H ρ id kvs w.ks
 bd : ρ W.bd = some (id,.bd) ∧ ρ W.S = some (id,.sd) ∧ ∃ kvs,BoardAt t H W.bd W.db W.S w.en kvs (thP w.bd) ∧ SigR ρ id kvs
 ak : ρ W.ak = some (id,.ak) ∧ ∃ rs,H W.ak = some (.lst (rs.map V.ref)) ∧ RowsR H ρ id rs w.asked
 wy : ρ W.wy = some (id,.wy) ∧ ∃ xs,H W.wy = some (.lst xs) ∧ Paired (LetU H ρ) xs w.way
section
variable {t:Ad} {H H':Hp} {ρ ρ':Rho} {id:Nat} {W:WA} {w:Wd} {P:Role → Prop}
theorem fr_at {a:Addr} {u:HO} {r:Role} (f:Fr P ρ H ρ' H') (e:H a = some u) (er : ρ a = some r) (n : ¬ P r) : H' a = some u ∧ ρ' a = some r:=by
 obtain ⟨e1,r1⟩:=f a u e fun r' hr=>by rw [er] at hr; cases hr; exact n
 exact ⟨e1,r1.trans er⟩
theorem fr_un {a:Addr} {u:HO} (f:Fr P ρ H ρ' H') (e:H a = some u) (er : ρ a = none) : H' a = some u ∧ ρ' a = none:=by
 obtain ⟨e1,r1⟩:=f a u e fun r' hr=>by rw [er] at hr; cases hr
 exact ⟨e1,r1.trans er⟩
theorem KeepsR.fr {kvs:List (Key × V)} {ks:List (Int × Kp)} (f:Fr P ρ H ρ' H') (hP : ∀ h i,¬ P (id,.kp h i)) (k:KeepsR t H ρ id kvs ks) : KeepsR t H' ρ' id kvs ks:=Paired.mapP k fun _ c ⟨e,k,A,dk,ek,q⟩=>⟨e,k,A,dk,ek,q.fr (hP c.1) f⟩
theorem RowsR.fr {rs:List Addr} {asked:List (List O)} (f:Fr P ρ H ρ' H') (hP : ∀ i,¬ P (id,.row i)) (k:RowsR H ρ id rs asked) : RowsR H' ρ' id rs asked:=⟨k.1,fun i r os e1 e2=>by
 obtain ⟨rr,xs,h,p⟩:=k.2 i r os e1 e2
 obtain ⟨h',r'⟩:=fr_at f h rr (hP i)
 exact ⟨r',xs,h',Paired.mapP p fun _ _=>OrdU.fr f⟩⟩
theorem BoardAt.fr {p dx S:Addr} {en:Int} {kvs:List (List Key × V)} {ps:Things} (f:Fr P ρ H ρ' H') (rp : ρ p = some (id,.bd)) (rS : ρ S = some (id,.sd)) (sg:SigR ρ id kvs) (n1 : ¬ P (id,.bd)) (n2 : ¬ P (id,.sd)) (n3 : ¬ P (id,.sg)) (B:BoardAt t H p dx S en kvs ps) : BoardAt t H' p dx S en kvs ps ∧ ρ' p = some (id,.bd) ∧ ρ' S = some (id,.sd) ∧ SigR ρ' id kvs:=by
 obtain ⟨e1,r1⟩:=fr_at f B.ob rp n1
 obtain ⟨e2,r2⟩:=fr_at f B.sg rS n2
 have hs : ∀ {kv:List Key × V} {q:List Key × List Int},kv ∈ kvs → HsAt H kv q → HsAt H' kv q ∧ ∃ c,kv.2 = .ref c ∧ ρ' c = some (id,.sg):=fun {kv q} m ⟨a,c,ec,hc⟩=>by
  obtain ⟨c',ec',rc⟩:=sg kv m
  rw [ec] at ec'
  cases ec'
  obtain ⟨h1,h2⟩:=fr_at f hc rc n3
  exact ⟨⟨a,c,ec,h1⟩,c,ec,h2⟩
 have all : ∀ {xs:List (List Key × V)} {ys:Things},(∀ x ∈ xs,x ∈ kvs) → Paired (HsAt H) xs ys → Paired (HsAt H') xs ys ∧ SigR ρ' id xs:=fun {xs ys} m q=>by
  induction q with
  | nil=>exact ⟨.nil,fun _ z=>by cases z⟩
  | cons h _ ih=>
   obtain ⟨i1,i2⟩:=ih fun x hx=>m x (List.mem_cons_of_mem _ hx)
   obtain ⟨j1,j2⟩:=hs (m _ List.mem_cons_self) h
   refine ⟨.cons j1 i1,fun x hx=>?_⟩
   rcases List.mem_cons.mp hx with rfl | hx
   ·exact j2
   ·exact i2 x hx
 obtain ⟨a1,a2⟩:=all (fun _ h=>h) B.hs
 exact ⟨⟨e1,e2,a1,B.un⟩,r1,r2,a2⟩
theorem WorldR.fr (hP : ∀ p,¬ P (id,p)) (f:Fr P ρ H ρ' H') (w1:WorldR t H ρ id W w) : WorldR t H' ρ' id W w:=by
 obtain ⟨rk,kvs,hk,ks⟩:=w1.kd
 obtain ⟨rb,rS,bvs,B,sg⟩:=w1.bd
 obtain ⟨ra,rs,ha,rows⟩:=w1.ak
 obtain ⟨rw_,xs,hw,pw⟩:=w1.wy
 obtain ⟨hk',rk'⟩:=fr_at f hk rk (hP _)
 obtain ⟨B',rb',rS',sg'⟩:=B.fr f rb rS sg (hP _) (hP _) (hP _)
 obtain ⟨ha',ra'⟩:=fr_at f ha ra (hP _)
 obtain ⟨hw',rw'⟩:=fr_at f hw rw_ (hP _)
 exact ⟨fr_at f w1.ob.1 w1.ob.2 (hP _),fr_un f w1.ch.1 w1.ch.2,⟨rk',kvs,hk',ks.fr f fun _ _=>hP _⟩,⟨rb',rS',bvs,B',sg'⟩,⟨ra',rs,ha',rows.fr f fun _=>hP _⟩,⟨rw',xs,hw',Paired.mapP pw fun _ _=>LetU.fr f⟩⟩
theorem WorldR.but (f:Fr P ρ H ρ' H') (w1:WorldR t H ρ id W w) (w':Wd) (n1 : ¬ P (id,.x)) (en:w'.n = w.n) (ec:w'.cheats = w.cheats)
  (kd:(ρ W.kd = some (id,.kd) → (∃ kvs,H W.kd = some (.dK kvs) ∧ KeepsR t H ρ id kvs w.ks) → ρ' W.kd = some (id,.kd) ∧ ∃ kvs,H' W.kd = some (.dK kvs) ∧ KeepsR t H' ρ' id kvs w'.ks))
  (bd:(ρ W.bd = some (id,.bd) → ρ W.S = some (id,.sd) → (∃ kvs,BoardAt t H W.bd W.db W.S w.en kvs (thP w.bd) ∧ SigR ρ id kvs) → ρ' W.bd = some (id,.bd) ∧ ρ' W.S = some (id,.sd) ∧ ∃ kvs,BoardAt t H' W.bd W.db W.S w'.en kvs (thP w'.bd) ∧ SigR ρ' id kvs))
  (ak:(ρ W.ak = some (id,.ak) → (∃ rs,H W.ak = some (.lst (rs.map V.ref)) ∧ RowsR H ρ id rs w.asked) → ρ' W.ak = some (id,.ak) ∧ ∃ rs,H' W.ak = some (.lst (rs.map V.ref)) ∧ RowsR H' ρ' id rs w'.asked))
  (wy:(ρ W.wy = some (id,.wy) → (∃ xs,H W.wy = some (.lst xs) ∧ Paired (LetU H ρ) xs w.way) → ρ' W.wy = some (id,.wy) ∧ ∃ xs,H' W.wy = some (.lst xs) ∧ Paired (LetU H' ρ') xs w'.way)) : WorldR t H' ρ' id W w':=by
 refine ⟨?_,?_,kd w1.kd.1 w1.kd.2,bd w1.bd.1 w1.bd.2.1 w1.bd.2.2,ak w1.ak.1 w1.ak.2,wy w1.wy.1 w1.wy.2⟩
 ·rw [en]
  exact fr_at f w1.ob.1 w1.ob.2 n1
 ·rw [ec]
  exact fr_un f w1.ch.1 w1.ch.2
theorem kd_keep (f:Fr P ρ H ρ' H') (n1 : ¬ P (id,.kd)) (n2 : ∀ h i,¬ P (id,.kp h i)) {kd:Addr} {ks:List (Int × Kp)} (r : ρ kd = some (id,.kd)) (h : ∃ kvs,H kd = some (.dK kvs) ∧ KeepsR t H ρ id kvs ks) : ρ' kd = some (id,.kd) ∧ ∃ kvs,H' kd = some (.dK kvs) ∧ KeepsR t H' ρ' id kvs ks:=by
 obtain ⟨kvs,hk,q⟩:=h
 obtain ⟨h',r'⟩:=fr_at f hk r n1
 exact ⟨r',kvs,h',q.fr f n2⟩
theorem bd_keep (f:Fr P ρ H ρ' H') (n1 : ¬ P (id,.bd)) (n2 : ¬ P (id,.sd)) (n3 : ¬ P (id,.sg)) {b db S:Addr} {en:Int} {is:IThings} (rb : ρ b = some (id,.bd)) (rS : ρ S = some (id,.sd)) (h : ∃ kvs,BoardAt t H b db S en kvs (thP is) ∧ SigR ρ id kvs) : ρ' b = some (id,.bd) ∧ ρ' S = some (id,.sd) ∧ ∃ kvs,BoardAt t H' b db S en kvs (thP is) ∧ SigR ρ' id kvs:=by
 obtain ⟨kvs,B,sg⟩:=h
 obtain ⟨B',rb',rS',sg'⟩:=B.fr f rb rS sg n1 n2 n3
 exact ⟨rb',rS',kvs,B',sg'⟩
theorem ak_keep (f:Fr P ρ H ρ' H') (n1 : ¬ P (id,.ak)) (n2 : ∀ i,¬ P (id,.row i)) {ak:Addr} {asked:List (List O)} (r : ρ ak = some (id,.ak)) (h : ∃ rs,H ak = some (.lst (rs.map V.ref)) ∧ RowsR H ρ id rs asked) : ρ' ak = some (id,.ak) ∧ ∃ rs,H' ak = some (.lst (rs.map V.ref)) ∧ RowsR H' ρ' id rs asked:=by
 obtain ⟨rs,hk,q⟩:=h
 obtain ⟨h',r'⟩:=fr_at f hk r n1
 exact ⟨r',rs,h',q.fr f n2⟩
theorem wy_keep (f:Fr P ρ H ρ' H') (n1 : ¬ P (id,.wy)) {wy:Addr} {way:List (Bool × Int × O)} (r : ρ wy = some (id,.wy)) (h : ∃ xs,H wy = some (.lst xs) ∧ Paired (LetU H ρ) xs way) : ρ' wy = some (id,.wy) ∧ ∃ xs,H' wy = some (.lst xs) ∧ Paired (LetU H' ρ') xs way:=by
 obtain ⟨rs,hk,q⟩:=h
 obtain ⟨h',r'⟩:=fr_at f hk r n1
 exact ⟨r',rs,h',Paired.mapP q fun _ _=>LetU.fr f⟩
end
theorem paired_cat {α β : Type} {F : α → β → Prop} : ∀ {xs xs':List α} {ys ys':List β},Paired F xs ys → Paired F xs' ys' → Paired F (xs ++ xs') (ys ++ ys')
 | _,_,_,_,.nil,h=>h
 | _,_,_,_,.cons a r,h=>.cons a (paired_cat r h)
theorem big {n:Nat} (h:n ≤ 1000000) : n < sizeLine:=Nat.lt_of_le_of_lt h (by decide)
theorem bigL {n:Nat} (h:n ≤ 1000000) : n ≤ sizeLine:=Nat.le_of_lt (big h)
abbrev Frm (H:Hp) (x:Addr) (G:Hp) : Prop:=∀ b u,H b = some u → b ≠ x → G b = some u
theorem Fr.ofFrm {P:Role → Prop} {ρ : Rho} {H G:Hp} {x:Addr} {r:Role} (h : ρ x = some r) (p:P r) (f:Frm H x G) : Fr P ρ H ρ G:=fun b u e n=>⟨f b u e fun z=>n r (z ▸ h) p,rfl⟩
theorem OkR.ofFrm {ρ : Rho} {H G:Hp} {x:Addr} {u:HO} (k:OkR ρ H) (f:Frm H x G) (hx:G x = some u) (nu:noTup u) : OkR ρ G:=fun b r h=>by
 by_cases z:b = x
 ·subst z
  exact ⟨u,hx,nu⟩
 ·obtain ⟨v,e,n⟩:=k b r h
  exact ⟨v,f b v e z,n⟩
def isP (id:Nat) (p:Part) : Role → Prop:=fun r=>r = (id,p)
theorem isP_ne {id:Nat} {p q:Part} (h:q ≠ p:=by intro z; cases z) : ¬ isP id p (id,q):=fun z=>h (Prod.mk.inj z).2
theorem for_dK {a:Addr} {o:Obj} {kvs:List (Key × V)} {g:TG} {tb:TS} {D:Ends} {σ : St} {H:Hp} (Pv:Nat → St → Hp → Prop) (h0:Pv 0 σ H) (hl : ∀ i σ H,i ≤ kvs.length → Pv i σ H → H a = some (.frz o (.dK kvs)))
  (hs : ∀ i kv σ H,kvs[i]? = some kv → Pv i σ H → g (kV kv.1) σ H fun σ2 H2=>tb { D with nx:=Pv (i + 1),ct:=Pv (i + 1),bk:=D.nx } σ2 H2) (hd : ∀ σ H,Pv kvs.length σ H → D.nx σ H) :
  ∃ W:Nat → Nat → St → Hp → Prop,(∃ m,W 0 m σ H) ∧ ∀ i m σ H,W i m σ H →
   ((Itd a o kvs).stop i H ∧ D.nx σ H) ∨ ((Itd a o kvs).go i H ∧ ∃ N:St → Hp → Prop,(∀ σ' H',N σ' H' → ∃ m',m' < m ∧ W (i + 1) m' σ' H') ∧ ∀ x H',(Itd a o kvs).yld i H x H' → g x σ H' fun σ2 H2=>tb { D with nx:=N,ct:=N,bk:=D.nx } σ2 H2):=by
 refine ⟨fun i m σ H=>m = kvs.length - i ∧ i ≤ kvs.length ∧ Pv i σ H,⟨kvs.length,by simp,Nat.zero_le _,h0⟩,?_⟩
 rintro i m σ H ⟨rfl,hi,p⟩
 have q:=hl i σ H hi p
 by_cases hlt:i < kvs.length
 ·refine .inr ⟨⟨hlt,q⟩,Pv (i + 1),fun σ' H' p'=>⟨kvs.length - (i + 1),by omega,rfl,hlt,p'⟩,fun x H' y=>?_⟩
  obtain ⟨e,kv,ek,ex⟩:=y
  subst e ex
  exact hs i kv σ _ ek p
 ·have e:i = kvs.length:=by omega
  subst e
  exact .inl ⟨⟨Nat.le_refl _,q⟩,hd σ H p⟩
theorem ok_World_letters (T:Txt K mg t) : FnOk P w K mg base CX0 1 t.f_World_letters t.d_World_letters ["self"] (fun vs H Q _=>∃ ρ id W ω,vs = [.ref W.x] ∧ WorldR t H ρ id W ω ∧ ω.way.length ≤ 100000 ∧ ∀ r xs,H r = none → Paired (LetU H ρ) xs ω.way → Q (.ref r) (upd H r (.lst xs))):=by
 refine T.F_World_letters.okB (N:=["self"]) fun _ A _ s H vs Q E hr h=>?_
 obtain ⟨ρ,id,W,ω,rfl,O,l,k⟩:=h
 refine ⟨_,(@pss_one _ _ _ (ps_ret (pe_callTy call_list_of rfl T.n_list boot_list (pa_more (pe_fld (pv 0) rfl) pa_nil)))),?_⟩
 obtain ⟨rw_,xs,hw,pw⟩:=O.wy
 exact ⟨_,rfl,W.x,_,W.dx,_,_,rfl,O.ob.1,T.cl_World,T.na_World_on_way,wof_on_way,W.wy,xs,rfl,.inl (SqL.of hw),fun r nr=>k r xs nr pw⟩
theorem ok_World_write_to_all (T:Txt K mg t) : FnOk P w K mg base CX0 1 t.f_World_write_to_all t.d_World_write_to_all ["self","word","order"] (fun vs H Q _=>∃ ρ id W ω b q o,vs = [.ref W.x,wordV b,.ref q] ∧ WorldR t H ρ id W ω ∧ OkR ρ H ∧ OrdU H ρ (.ref q) o ∧ ω.way.length ≤ 100000 ∧ ω.ks.length ≤ 16 ∧
  ∀ H',WorldR t H' ρ id W (ω.post b o) → Fr (isP id .wy) ρ H ρ H' → OkR ρ H' → Q .non H'):=by
 refine T.F_World_write_to_all.okA sc_World_write_to_all fun _ A _ s H vs Q E hr h=>?_
 obtain ⟨ρ,id,W,ω,b,q,o,rfl,O,kr,uq,l,l2,k⟩:=h
 refine ⟨_,(@pss_one _ _ _ (ps_thaw (ps_for PassesOwn.never rfl (pi_dK (pe_fld (pv 0) rfl)) (pg_name (i:=3) sc_World_write_to_all.nd rfl (Or.inl rfl)) (@pss_one _ _ _ (ps_expr (pe_bm PySem.F.plainAttrs_list PySem.F.slot_list_append PySem.F.type_list_append mt_append (pe_fld (pv 0) rfl) (pa_more (@pe_tup _ _ _ _ _ (@pa_3 _ _ _ _ _ _ _ (pv 1) (pv 3) (pv 2) rfl rfl rfl)) pa_nil))))))),?_⟩
 obtain ⟨rk,kvs,kd,ks⟩:=O.kd
 obtain ⟨rw_,way,wy,pw⟩:=O.wy
 have ob:=O.ob.1
 have kw:W.kd ≠ W.wy:=ner rk rw_ (by intro z; cases z)
 have kx:W.x ≠ W.kd:=ner O.ob.2 rk (by intro z; cases z)
 have wx:W.x ≠ W.wy:=ner O.ob.2 rw_ (by intro z; cases z)
 have lk:kvs.length = ω.ks.length:=Paired.length ks
 have lw:way.length = ω.way.length:=Paired.length pw
 refine ⟨_,rfl,W.x,_,W.dx,_,_,rfl,ob,T.cl_World,T.na_World_keepers,wof_keepers,W.kd,kvs,rfl,kd,fun oo=>for_dK (fun i σ H'=>∃ v ts,σ = [some (.ref W.x),some (wordV b),some (.ref q),v] ∧ ts.length = i ∧ H' W.wy = some (.lst (way ++ ts)) ∧ Frm (upd H W.kd (.frz oo (.dK kvs))) W.wy H' ∧ Paired (fun x (c:Int × Kp)=>∃ a,x = .ref a ∧ H a = none ∧ H' a = some (.tup [wordV b,.int c.1,.ref q])) ts (ω.ks.take i)) ?_ ?_ ?_ ?_⟩
 ·exact ⟨none,[],rfl,rfl,(by rw [List.append_nil,upd_ne kw.symm]; exact wy),(fun b u e _=>e),.nil⟩
 ·rintro i σ H' _ ⟨v,ts,_,_,_,f,_⟩
  exact f _ _ upd_same kw
 ·rintro i kv σ H' ek ⟨v,ts,rfl,lt,hw,f,pt⟩
  obtain ⟨c,ec,e1,_⟩:=paired_get ks ek
  have ob':H' W.x = some (.ins t.a_World W.dx (W.fs ω.n)):=f _ _ (by rw [upd_ne kx]; exact ob) wx
  have hi:=(List.getElem?_eq_some_iff.mp ek).1
  refine ⟨_,rfl,W.x,_,W.dx,_,_,rfl,ob',T.cl_World,T.na_World_on_way,wof_on_way,.inl ⟨rfl,_,SqL.of hw⟩,_,rfl,_,rfl,_,rfl,zs3,fun p np=>?_⟩
  have sp:=same_upd (o:=.tup [wordV b,kV kv.1,.ref q]) np
  have np0:H p = none:=by
   cases e:H p with
   | none=>rfl
   | some u=>
    exfalso
    by_cases z:p = W.wy
    ·rw [z,hw] at np
     cases np
    ·by_cases z2:p = W.kd
     ·rw [z2,f _ _ upd_same kw] at np
      cases np
     ·have:=f p u (by rw [upd_ne z2]; exact e) z
      rw [np] at this
      cases this
  have pw_:p ≠ W.wy:=fun z=>by
   rw [z,hw] at np
   cases np
  refine ⟨W.wy,_,_,rfl,rfl,sp _ _ hw,big (by rw [List.length_append,lt]; omega),_,ts ++ [.ref p],rfl,?_,?_,fun b' u e bw=>?_,?_⟩
  ·rw [List.length_append,lt]; rfl
  ·rw [upd_same,List.append_assoc]
  ·rw [upd_ne bw]
   exact sp _ _ (f _ _ e bw)
  ·rw [take_snoc ec]
   refine paired_app (Paired.mapP pt fun _ _ ⟨a,e,n,h'⟩=>⟨a,e,n,?_⟩) ⟨p,rfl,np0,?_⟩
   ·rw [upd_ne (fun z=>by rw [z,hw] at h'; cases h')]
    exact sp _ _ h'
   ·rw [upd_ne pw_,upd_same,e1]
    rfl
 ·rintro σ H' ⟨v,ts,rfl,lt,hw,f,pt⟩
  have fin:Frm H W.wy (upd H' W.kd (.dK kvs)):=fun b' u e bw=>by
   by_cases z:b' = W.kd
   ·subst z
    rw [kd] at e
    rw [upd_same,← e]
   ·rw [upd_ne z]
    exact f _ _ (by rw [upd_ne z]; exact e) bw
  have hw':upd H' W.kd (.dK kvs) W.wy = some (.lst (way ++ ts)):=by rw [upd_ne kw.symm]; exact hw
  refine ⟨W.kd,oo,.dK kvs,f _ _ upd_same kw,fun o' u' z=>?_,True.intro,?_⟩
  ·have z':H W.kd = some (.frz o' u'):=z
   rw [kd] at z'
   cases z'
  have fr:Fr (isP id .wy) ρ H ρ (upd H' W.kd (.dK kvs)):=Fr.ofFrm rw_ rfl fin
  rw [lk,List.take_length] at pt
  refine k _ (O.but fr (ω.post b o) isP_ne rfl rfl (kd_keep fr isP_ne (fun _ _=>isP_ne)) (bd_keep fr isP_ne isP_ne isP_ne) (ak_keep fr isP_ne (fun _=>isP_ne)) (fun _ _=>⟨rw_,_,hw',?_⟩)) fr (kr.ofFrm fin hw' (by exact True.intro))
  have up:=uq.fr fr
  have q2:Paired (LetU (upd H' W.kd (.dK kvs)) ρ) ts (ω.ks.map fun c=>(b,c.1,o)):=by
   clear hw' lt hw
   have gen : ∀ {xs:List V} {cs:List (Int × Kp)},Paired (fun x (c:Int × Kp)=>∃ a,x = .ref a ∧ H a = none ∧ H' a = some (.tup [wordV b,.int c.1,.ref q])) xs cs → Paired (LetU (upd H' W.kd (.dK kvs)) ρ) xs (cs.map fun c=>(b,c.1,o)):=fun {xs cs} h=>by
    induction h with
    | nil=>exact .nil
    | cons a _ ih=>
     obtain ⟨p,e,n,hp⟩:=a
     refine .cons ⟨p,q,e,kr.none n,?_,up⟩ ih
     rw [upd_ne (fun z=>by rw [z,kd] at n; cases n)]
     exact hp
   exact gen pt
  exact paired_cat (Paired.mapP pw fun _ _=>LetU.fr fr) q2
def isVt (id:Nat) : Role → Prop:=fun r=>r = (id,.wy) ∨ r = (id,.sd) ∨ r = (id,.sg)
theorem vt_no {id:Nat} {p:Part} (h1:p ≠ .wy) (h2:p ≠ .sd) (h3:p ≠ .sg) : ¬ isVt id (id,p):=fun z=>by
 rcases z with z | z | z
 ·exact h1 (Prod.mk.inj z).2
 ·exact h2 (Prod.mk.inj z).2
 ·exact h3 (Prod.mk.inj z).2
structure Sz (ω : Wd) (a b c:Nat) : Prop where
 bd : ω.bd.length ≤ a
 hs : ∀ x ∈ ω.bd,x.2.length ≤ b
 wy : ω.way.length ≤ c
 ks : ω.ks.length ≤ 16
theorem sign_len {k:List Int} {h:Int} : ∀ {is:IThings} {a b:Nat},is.length ≤ a → (∀ x ∈ is,x.2.length ≤ b) → (signI is k h).length ≤ a + 1 ∧ ∀ x ∈ signI is k h,x.2.length ≤ b + 1
 | [],a,b,_,_=>⟨by show 1 ≤ a + 1; omega,fun x hx=>by rw [List.mem_singleton.mp hx]; show 1 ≤ b + 1; omega⟩
 | p :: ps,a,b,h1,h2=>by
  unfold signI
  split
  ·refine ⟨by rw [List.length_cons] at h1 ⊢; omega,fun x hx=>?_⟩
   rcases List.mem_cons.mp hx with rfl | hx
   ·have:=h2 p List.mem_cons_self
    show (p.2 ++ [h]).length ≤ b + 1
    rw [List.length_append]
    show p.2.length + 1 ≤ b + 1
    omega
   ·have:=h2 x (List.mem_cons_of_mem _ hx)
    omega
  ·rw [List.length_cons] at h1
   obtain ⟨i1,i2⟩:=sign_len (k:=k) (h:=h) (is:=ps) (a:=a - 1) (b:=b) (by omega) (fun x hx=>h2 x (List.mem_cons_of_mem _ hx))
   refine ⟨by rw [List.length_cons]; omega,fun x hx=>?_⟩
   rcases List.mem_cons.mp hx with rfl | hx
   ·have:=h2 x List.mem_cons_self
    omega
   ·exact i2 x hx
theorem Sz.put {ω : Wd} {a b c:Nat} (z:Sz ω a b c) (h:Int) (o:O) : Sz (ω.put h o).1 (a + 1) (b + 1) c:=by
 unfold Wd.put
 split
 ·exact ⟨Nat.le_succ_of_le z.bd,fun x hx=>Nat.le_succ_of_le (z.hs x hx),z.wy,z.ks⟩
 ·obtain ⟨i1,i2⟩:=sign_len (k:=ordI o) (h:=h) z.bd z.hs
  exact ⟨i1,i2,z.wy,z.ks⟩
theorem Sz.vote {ω : Wd} {a b c:Nat} (z:Sz ω a b c) (h:Int) (o:O) : Sz (ω.vote h o) (a + 1) (b + 1) (c + 16):=by
 have p:=z.put h o
 unfold Wd.vote
 split
 ·refine ⟨p.bd,p.hs,?_,p.ks⟩
  show ((ω.put h o).1.way ++ _).length ≤ c + 16
  rw [List.length_append,List.length_map]
  have:=p.wy
  have:=p.ks
  omega
 ·exact ⟨p.bd,p.hs,by have:=p.wy; omega,p.ks⟩
theorem Sz.mono {ω : Wd} {a b c a' b' c':Nat} (z:Sz ω a b c) (h1:a ≤ a') (h2:b ≤ b') (h3:c ≤ c') : Sz ω a' b' c':=⟨Nat.le_trans z.bd h1,fun x hx=>Nat.le_trans (z.hs x hx) h2,Nat.le_trans z.wy h3,z.ks⟩
theorem votes_snoc (ω : Wd) (h:Int) {os:List O} {i:Nat} {o:O} (e:os[i]? = some o) : ω.votes h (os.take (i + 1)) = (ω.votes h (os.take i)).vote h o:=by
 unfold Wd.votes
 rw [take_snoc e,List.foldl_append]
 rfl
theorem Sz.votes {ω : Wd} {a b c:Nat} (z:Sz ω a b c) (h:Int) {os:List O} : ∀ i,i ≤ os.length → Sz (ω.votes h (os.take i)) (a + i) (b + i) (c + 16 * i)
 | 0,_=>z
 | i + 1,hi=>by
  rw [votes_snoc ω h (List.getElem?_eq_getElem (show i < os.length by omega))]
  exact ((Sz.votes z h i (by omega)).vote h _).mono (by omega) (by omega) (by omega)
theorem houses_mem {k:List Int} : ∀ {is:IThings},housesI is k = [] ∨ ∃ x ∈ is,housesI is k = x.2
 | []=>.inl rfl
 | p :: ps=>by
  unfold housesI
  split
  ·exact .inr ⟨p,List.mem_cons_self,rfl⟩
  ·rcases houses_mem (k:=k) (is:=ps) with h | ⟨x,hx,e⟩
   ·exact .inl h
   ·exact .inr ⟨x,List.mem_cons_of_mem _ hx,e⟩
theorem Sz.hl {ω : Wd} {a b c:Nat} (z:Sz ω a b c) (k:List Int) : (housesI ω.bd k).length ≤ b:=by
 rcases houses_mem (k:=k) (is:=ω.bd) with h | ⟨x,hx,e⟩
 ·rw [h]
  exact Nat.zero_le _
 ·rw [e]
  exact z.hs x hx
open Classical in
noncomputable def voteR (ρ : Rho) (id:Nat) (kvs kvs':List (List Key × V)) : Rho:=fun a=>if ∃ kv ∈ kvs',kv.2 = .ref a then some (id,.sg) else if ∃ kv ∈ kvs,kv.2 = .ref a then none else ρ a
theorem ok_World_put_votes (T:Txt K mg t) : FnOk P w K mg base CX0 2 t.f_World_put_votes t.d_World_put_votes ["self","house","orders"] (fun vs H Q _=>∃ ρ id W ω h r xs os a b c,vs = [.ref W.x,.int h,.ref r] ∧ WorldR t H ρ id W ω ∧ OkR ρ H ∧ H r = some (.lst xs) ∧ (∀ ro,ρ r = some ro → ¬ isVt id ro) ∧ Paired (OrdU H ρ) xs os ∧ Sz ω a b c ∧ a + os.length ≤ 1000 ∧ b + os.length ≤ 1000 ∧ c + 16 * os.length ≤ 100000 ∧
  ∀ ρ' H',WorldR t H' ρ' id W (ω.votes h os) → Fr (isVt id) ρ H ρ' H' → OkR ρ' H' → Q .non H'):=by
 refine T.F_World_put_votes.okA sc_World_put_votes fun _ A _ s H vs Q E hr h=>?_
 obtain ⟨ρ,id,W,ω,h,r,xs,os,a,b,c,rfl,O,kr,hx,nr,px,sz,la,lb,lc,k⟩:=h
 refine ⟨_,(@pss_one _ _ _ (ps_for PassesOwn.never rfl (@pi_list _ _ _ _ (pv 2)) (pg_name (i:=3) sc_World_put_votes.nd rfl (Or.inl rfl)) (@pss_one _ _ _ (ps_if (pt_val (pe_meth (pe_fld (pv 0) rfl) T.cl_Board T.mt_Board_put (ok_Board_put T) hr.dn T.b_Board_put .nil pass0 (@pa_2 _ _ _ _ _ (pv 1) (pv 3) rfl rfl))) (@pss_one _ _ _ (ps_expr (pe_meth (pv 0) T.cl_World T.mt_World_write_to_all (ok_World_write_to_all T) hr.dn T.b_World_write_to_all .nil pass0 (@pa_2 _ _ _ _ _ (pe_glob (v:=.str "paper") rfl T.c_PAPER_LETTER.choose_spec ⟨_,rfl⟩) (pv 3) rfl rfl)))) pss_nil)))),?_⟩
 have lx:xs.length = os.length:=Paired.length px
 refine ⟨_,rfl,r,rfl,⟨_,SqL.of hx⟩,for_list (K:=K) (a:=r) (xs:=xs) (fun i σ H'=>∃ v ρ',σ = [some (.ref W.x),some (.int h),some (.ref r),v] ∧ WorldR t H' ρ' id W (ω.votes h (os.take i)) ∧ Fr (isVt id) ρ H ρ' H' ∧ OkR ρ' H') ⟨none,ρ,rfl,O,Fr.refl,kr⟩ (fun i σ H' _ ⟨_,ρ',_,_,f,_⟩=>SqL.of (f _ _ hx nr).1) ?_ ?_⟩
 ·rintro i x σ H1 ex ⟨v,ρ1,rfl,O1,f1,kr1⟩
  obtain ⟨o,eo,uo⟩:=paired_get px ex
  have uo1:=uo.fr f1
  obtain ⟨q,rfl,nq,hq⟩:=uo1
  have hi:=(List.getElem?_eq_some_iff.mp eo).1
  have z1:=sz.votes h (os:=os) i (by omega)
  rw [votes_snoc ω h eo]
  generalize ω.votes h (os.take i) = ω1 at O1 z1 ⊢
  obtain ⟨rb,rS,kvs,B,sg⟩:=O1.bd
  have ek:housesOf (thP ω1.bd) (ordK o) = housesI ω1.bd (ordI o):=houses_thP (ordI o) ω1.bd
  have lk:kvs.length ≤ 1000:=by
   rw [Paired.length B.hs,thP,List.length_map]
   have:=z1.bd
   omega
  have lh:=z1.hl (ordI o)
  refine ⟨_,rfl,W.x,_,W.dx,_,_,rfl,O1.ob.1,T.cl_World,T.na_World_board,wof_board,W.bd,W.db,_,rfl,B.ob,brd_no _ _ (by decide +kernel) (by decide +kernel),_,rfl,_,rfl,W.bd,W.db,W.S,ω1.en,kvs,thP ω1.bd,q,ordK o,h,rfl,B,hq,lk,by rw [ek]; omega,fun hm H2 s2=>?_,fun hm kvs' H2 B2 k2 nn2=>?_⟩
  ·rw [ek] at hm
   refine ⟨_,rfl,iteF ⟨_,ρ1,rfl,?_,f1.trans (Fr.same s2),kr1.same s2⟩⟩
   have e : ω1.vote h o = ω1:=by
    unfold Wd.vote Wd.put
    rw [if_pos hm]
    rfl
   rw [e]
   exact O1.fr (P:=fun _=>False) (fun _ z=>z) (Fr.same s2)
  ·rw [ek] at hm
   rw [ek]
   have inS : ∀ {a:Addr},(∃ kv ∈ kvs,kv.2 = .ref a) → ρ1 a = some (id,.sg):=fun {a} ⟨kv,m,e⟩=>by
    obtain ⟨c,ec,rc⟩:=sg kv m
    rw [e] at ec
    cases ec
    exact rc
   have f2:Fr (isVt id) ρ1 H1 (voteR ρ1 id kvs kvs') H2:=fun a u e n=>by
    have n1 : ¬ ∃ kv ∈ kvs,kv.2 = .ref a:=fun z=>n _ (inS z) (.inr (.inr rfl))
    have n2:NotIn kvs a:=fun kv m e=>n1 ⟨kv,m,e⟩
    have n3 : ¬ ∃ kv ∈ kvs',kv.2 = .ref a:=fun ⟨kv,m,e'⟩=>nn2 a u e n2 kv m e'
    refine ⟨k2 a u e (fun z=>n _ (z ▸ rS) (.inr (.inl rfl))) n2,?_⟩
    unfold voteR
    rw [if_neg n3,if_neg n1]
   have kr2:OkR (voteR ρ1 id kvs kvs') H2:=fun a ro e=>by
    unfold voteR at e
    split at e
    ·rename_i hm'
     obtain ⟨kv,m,ev⟩:=hm'
     obtain ⟨j,hj,ej⟩:=List.mem_iff_getElem.mp m
     obtain ⟨pp,_,_,c,ec,hc⟩:=paired_get B2.hs (by rw [List.getElem?_eq_getElem hj,ej])
     rw [ev] at ec
     cases ec
     exact ⟨_,hc,True.intro⟩
    ·split at e
     ·cases e
     ·rename_i n1
      obtain ⟨u,hu,nu⟩:=kr1 a ro e
      by_cases z:a = W.S
      ·subst z
       exact ⟨_,B2.sg,True.intro⟩
      ·exact ⟨u,k2 a u hu z (fun kv m e=>n1 ⟨kv,m,e⟩),nu⟩
   have O2:WorldR t H2 (voteR ρ1 id kvs kvs') id W { ω1 with bd:=signI ω1.bd (ordI o) h }:=by
    refine O1.but f2 _ (vt_no (by intro z; cases z) (by intro z; cases z) (by intro z; cases z)) rfl rfl (kd_keep f2 (vt_no (by intro z; cases z) (by intro z; cases z) (by intro z; cases z)) fun _ _=>vt_no (by intro z; cases z) (by intro z; cases z) (by intro z; cases z)) (fun rb' rS' _=>?_) (ak_keep f2 (vt_no (by intro z; cases z) (by intro z; cases z) (by intro z; cases z)) fun _=>vt_no (by intro z; cases z) (by intro z; cases z) (by intro z; cases z)) (fun rw' hw'=>?_)
    ·have e:=sign_thP (ordI o) h ω1.bd
     rw [show keyI (ordI o) = ordK o from rfl] at e
     rw [e] at B2
     have nS : ∀ {a:Addr} {r:Role} {u:HO},ρ1 a = some r → H1 a = some u → r ≠ (id,.sg) → voteR ρ1 id kvs kvs' a = some r:=fun {a r u} er eu n=>by
      have n1 : ¬ ∃ kv ∈ kvs,kv.2 = .ref a:=fun z=>n (Option.some.inj (er.symm.trans (inS z)))
      have n3 : ¬ ∃ kv ∈ kvs',kv.2 = .ref a:=fun ⟨kv,m,e'⟩=>nn2 a u eu (fun kv m e=>n1 ⟨kv,m,e⟩) kv m e'
      unfold voteR
      rw [if_neg n3,if_neg n1]
      exact er
     refine ⟨nS rb B.ob (by intro z; cases z),nS rS B.sg (by intro z; cases z),kvs',B2,fun kv m=>?_⟩
     obtain ⟨j,hj,ej⟩:=List.mem_iff_getElem.mp m
     obtain ⟨pp,_,_,c,ec,hc⟩:=paired_get B2.hs (by rw [List.getElem?_eq_getElem hj,ej])
     refine ⟨c,ec,?_⟩
     unfold voteR
     rw [if_pos ⟨kv,m,ec⟩]
    ·obtain ⟨ws,h1,p1⟩:=hw'
     have n1 : ¬ ∃ kv ∈ kvs,kv.2 = .ref W.wy:=fun z=>by
      have:=inS z
      rw [rw'] at this
      cases this
     have n2:NotIn kvs W.wy:=fun kv m e=>n1 ⟨kv,m,e⟩
     have n3 : ¬ ∃ kv ∈ kvs',kv.2 = .ref W.wy:=fun ⟨kv,m,e'⟩=>nn2 _ _ h1 n2 kv m e'
     refine ⟨?_,ws,k2 _ _ h1 (ner rw' rS (by intro z; cases z)) n2,Paired.mapP p1 fun _ _=>LetU.fr f2⟩
     unfold voteR
     rw [if_neg n3,if_neg n1]
     exact rw'
   have ev : ω1.put h o = ({ ω1 with bd:=signI ω1.bd (ordI o) h },decide (((housesI ω1.bd (ordI o)).length:Int) + 1 = ω1.en)):=by
    unfold Wd.put
    rw [if_neg hm]
   refine ⟨_,rfl,ite2 (fun z=>?_) (fun z=>?_)⟩
   ·have zp:=z1.put h o
    rw [ev] at zp
    have hq2:OrdU H2 (voteR ρ1 id kvs kvs') (.ref q) o:=OrdU.fr f2 ⟨q,rfl,nq,hq⟩
    refine ⟨_,rfl,W.x,W.dx,_,rfl,O2.ob.1,wof_no,_,rfl,_,id,W,_,false,q,o,rfl,O2,kr2,hq2,by show ω1.way.length ≤ 100000; have:=z1.wy; omega,zp.ks,fun H3 O3 f3 kr3=>⟨_,_,rfl,?_,(f1.trans f2).trans (f3.mono fun r hr=>.inl hr),kr3⟩⟩
    have e : ω1.vote h o = Wd.post { ω1 with bd:=signI ω1.bd (ordI o) h } false o:=by
     unfold Wd.vote
     rw [ev,if_pos z]
    rw [e]
    exact O3
   ·refine ⟨_,_,rfl,?_,f1.trans f2,kr2⟩
    have e : ω1.vote h o = { ω1 with bd:=signI ω1.bd (ordI o) h }:=by
     unfold Wd.vote
     rw [ev,if_neg z]
    rw [e]
    exact O2
 ·rintro σ H1 ⟨v,ρ1,rfl,O1,f1,kr1⟩
  rw [lx,List.take_length] at O1
  exact k ρ1 H1 O1 f1 kr1
theorem setK_len (ks:List (Int × Kp)) (h:Int) (κ : Kp) : (setK ks h κ).length = ks.length:=List.length_map ..
theorem keeps_val {t:Ad} {H:Hp} {ρ : Rho} {id:Nat} {h:Int} {κ : Kp} : ∀ {kvs:List (Key × V)} {ks:List (Int × Kp)},KeepsR t H ρ id kvs ks → (ks.find? fun c=>decide (c.1 = h)).map (·.2) = some κ → ∃ k A dk,valV kvs (.inl h) = some (.ref k) ∧ KeepR t H ρ id h k A dk κ
 | _,_,.nil,e=>by cases e
 | kv :: kvs,c :: ks,.cons ⟨e1,k,A,dk,e2,R⟩ r,e=>by
  by_cases z:c.1 = h
  ·rw [List.find?_cons,decide_eq_true z] at e
   obtain rfl:c.2 = κ:=Option.some.inj e
   subst z
   exact ⟨k,A,dk,by rw [valV_pos (by rw [e1]),e2],R⟩
  ·rw [List.find?_cons,decide_eq_false z] at e
   obtain ⟨k',A',dk',v,R'⟩:=keeps_val r e
   exact ⟨k',A',dk',by rw [valV_neg (fun y=>z (Sum.inl.inj (e1.symm.trans y)))]; exact v,R'⟩
theorem keeps_set {t:Ad} {H H':Hp} {ρ ρ':Rho} {id:Nat} {h:Int} {κ':Kp} {k:Addr} {A':Nat → Addr} {dk:Addr} (f:Fr (isK id h) ρ H ρ' H') (R':KeepR t H' ρ' id h k A' dk κ') : ∀ {kvs:List (Key × V)} {ks:List (Int × Kp)},(ks.map (·.1)).Nodup → valV kvs (.inl h) = some (.ref k) → KeepsR t H ρ id kvs ks → KeepsR t H' ρ' id kvs (setK ks h κ')
 | _,_,_,_,.nil=>.nil
 | kv :: kvs,c :: ks,nd,ev,.cons ⟨e1,k0,A,dk0,e2,R⟩ r=>by
  rw [List.map_cons,List.nodup_cons] at nd
  show Paired _ (kv :: kvs) ((if c.1 = h then (h,κ') else c) :: setK ks h κ')
  have oth : ∀ {kvs:List (Key × V)} {ks:List (Int × Kp)},h ∉ ks.map (·.1) → KeepsR t H ρ id kvs ks → KeepsR t H' ρ' id kvs (setK ks h κ'):=fun {kvs ks} nh q=>by
   induction q with
   | nil=>exact .nil
   | cons a _ ih=>
    rename_i b _ _ _
    rw [List.map_cons,List.mem_cons] at nh
    obtain ⟨x1,x2,x3,x4,x5,x6⟩:=a
    have nb : ¬ b.1 = h:=fun z=>nh (.inl z.symm)
    show Paired _ (_ :: _) ((if b.1 = h then (h,κ') else b) :: setK _ h κ')
    rw [if_neg nb]
    exact .cons ⟨x1,x2,x3,x4,x5,x6.fr (fun i ⟨j,e⟩=>nb (by cases e; rfl)) f⟩ (ih fun z=>nh (.inr z))
  by_cases z:c.1 = h
  ·subst z
   rw [if_pos rfl]
   rw [valV_pos (by rw [e1])] at ev
   exact .cons ⟨e1,k,A',dk,Option.some.inj ev,R'⟩ (oth nd.1 r)
  ·rw [if_neg z]
   refine .cons ⟨e1,k0,A,dk0,e2,R.fr (fun i ⟨j,e⟩=>z (by cases e; rfl)) f⟩ (keeps_set f R' nd.2 ?_ r)
   rw [valV_neg (fun y=>z (Sum.inl.inj (e1.symm.trans y)))] at ev
   exact ev
theorem WorldR.keeper {t:Ad} {H H':Hp} {ρ ρ':Rho} {id:Nat} {W:WA} {ω : Wd} {h:Int} {κ':Kp} {k:Addr} {A':Nat → Addr} {dk:Addr} (f:Fr (isK id h) ρ H ρ' H') (O:WorldR t H ρ id W ω) (nd:(ω.ks.map (·.1)).Nodup) (ek : ∀ kvs,H W.kd = some (.dK kvs) → valV kvs (.inl h) = some (.ref k)) (R':KeepR t H' ρ' id h k A' dk κ') : WorldR t H' ρ' id W { ω with ks:=setK ω.ks h κ' }:=by
 have no : ∀ {p:Part},(∀ i,p ≠ .kp h i) → ¬ isK id h (id,p):=fun hp ⟨i,e⟩=>hp i (Prod.mk.inj e).2
 refine O.but f _ (no fun _ z=>by cases z) rfl rfl (fun rk hk=>?_) (bd_keep f (no fun _ z=>by cases z) (no fun _ z=>by cases z) (no fun _ z=>by cases z)) (ak_keep f (no fun _ z=>by cases z) fun _=>no fun _ z=>by cases z) (wy_keep f (no fun _ z=>by cases z))
 obtain ⟨kvs,h1,q⟩:=hk
 obtain ⟨h2,r2⟩:=fr_at f h1 rk (no fun _ z=>by cases z)
 exact ⟨r2,kvs,h2,keeps_set f R' nd (ek kvs h1) q⟩
theorem ok_World_keeper_of (T:Txt K mg t) : FnOk P w K mg base CX0 2 t.f_World_keeper_of t.d_World_keeper_of ["self","house"] (fun vs H Q _=>∃ ρ id W ω h κ,vs = [.ref W.x,.int h] ∧ WorldR t H ρ id W ω ∧ ω.keep h = some κ ∧ ∀ k A dk,KeepR t H ρ id h k A dk κ → Q (.ref k) H):=by
 refine T.F_World_keeper_of.okB (N:=["self","house"]) fun _ A _ s H vs Q E hr h=>?_
 obtain ⟨ρ,id,W,ω,h,κ,rfl,O,e,g⟩:=h
 refine ⟨_,(@pss_cons _ _ _ _ _ (ps_if (PW.pt (pw_or (pt_not (pt_val (pe_call (ok_is_whole T) hr.dn rfl T.m_is_whole T.F_is_whole.kp T.b_is_whole .nil pass0 (pa_more (pv 1) pa_nil)))) (pw_or1 (pt_cmp (pc_dnotin (hu_of hr) (pv 1) (pe_fld (pv 0) rfl)))))) pss_never pss_nil)
  (@pss_one _ _ _ (ps_ret (pe_dget (hu_of hr) (pe_fld (pv 0) rfl) (pv 1) (fun _ _=>rfl))))),?_⟩
 obtain ⟨rk,kvs,hk,ks⟩:=O.kd
 obtain ⟨k,A',dk,ev,R⟩:=keeps_val ks e
 refine ⟨_,rfl,h,rfl,_,rfl,iteF ?_⟩
 refine ⟨_,rfl,_,rfl,W.x,_,W.dx,_,_,rfl,O.ob.1,T.cl_World,T.na_World_keepers,wof_keepers,W.kd,some (.ref k),rfl,.inl ⟨kvs,.inl h,.inl hk,rfl,ev.symm⟩,_,rfl,iteF ?_⟩
 exact ⟨_,rfl,W.x,_,W.dx,_,_,rfl,O.ob.1,T.cl_World,T.na_World_keepers,wof_keepers,_,rfl,W.kd,.ref k,rfl,.inl ⟨kvs,.inl h,.inl hk,rfl,ev.symm⟩,g k A' dk R⟩
theorem ok_World_sums (T:Txt K mg t) : FnOk P w K mg base CX0 3 t.f_World_sums t.d_World_sums ["self","house"] (fun vs H Q _=>∃ ρ id W ω h κ,vs = [.ref W.x,.int h] ∧ WorldR t H ρ id W ω ∧ ω.keep h = some κ ∧ κ.held.length ≤ 1000 ∧ ∀ r,H r = none → Q (.ref r) (upd H r (.lst (κ.held.map V.int)))):=by
 refine T.F_World_sums.okB (N:=["self","house"]) fun _ A _ s H vs Q E hr h=>?_
 obtain ⟨ρ,id,W,ω,h,κ,rfl,O,e,l,g⟩:=h
 refine ⟨_,(@pss_one _ _ _ (ps_ret (pe_callTy call_list_of rfl T.n_list boot_list (pa_more (pe_fld (pe_meth (pv 0) T.cl_World T.mt_World_keeper_of (ok_World_keeper_of T) hr.dn T.b_World_keeper_of .nil pass0 (pa_more (pv 1) pa_nil)) rfl) pa_nil)))),?_⟩
 exact ⟨_,rfl,W.x,W.dx,_,rfl,O.ob.1,wof_no,_,rfl,ρ,id,W,ω,h,κ,rfl,O,e,fun k A' dk R=>⟨k,_,dk,_,_,rfl,R.ob,T.cl_Keeper,T.na_Keeper_held,(kfA_get A').1,A' 1,_,rfl,.inl (SqL.of R.he),g⟩⟩
theorem ok_World_check_order (T:Txt K mg t) : FnOk P w K mg base CX0 5 t.f_World_check_order t.d_World_check_order ["self","order"] (fun vs H Q _=>∃ ρ id W ω q o,vs = [.ref W.x,.ref q] ∧ WorldR t H ρ id W ω ∧ H q = some (.tup (ordV o)) ∧ isOrd ω.n o = true ∧ Q .non H):=by
 refine T.F_World_check_order.okB (N:=["self","order"]) fun _ A _ s H vs Q E hr h=>?_
 obtain ⟨ρ,id,W,ω,q,o,rfl,O,hq,ho,g⟩:=h
 refine ⟨_,(@pss_one _ _ _ (ps_if (pt_not (pt_val (pe_callK (ok_is_order T) hr.dn rfl T.m_is_order T.F_is_order.kp T.bk0_is_order pass0 (pa_more (pv 1) pa_nil) (pk_cons (pe_fld (pv 0) rfl) pk_nil)))) pss_never pss_nil)),?_⟩
 refine ⟨_,rfl,_,rfl,W.x,_,W.dx,_,_,rfl,O.ob.1,T.cl_World,T.na_World_purses,wof_purses,q,o,(ω.n:Int),rfl,hq,_,rfl,?_⟩
 rw [ho]
 exact iteF g
theorem ok_World_honest (T:Txt K mg t) : FnOk P w K mg base CX0 1 t.f_World_honest t.d_World_honest ["self"] (fun vs H Q _=>∃ ρ id W ω,vs = [.ref W.x] ∧ WorldR t H ρ id W ω ∧ ∀ r,H r = none → Q (.ref r) (upd H r (.lst ((ω.ks.map (·.1)).map V.int)))):=by
 refine T.F_World_honest.okB (N:=["self"]) fun _ A _ s H vs Q E hr h=>?_
 obtain ⟨ρ,id,W,ω,rfl,O,g⟩:=h
 refine ⟨_,(@pss_one _ _ _ (ps_ret (pe_callTy (call_listD rfl) rfl T.n_list boot_list (pa_more (pe_fld (pv 0) rfl) pa_nil)))),?_⟩
 obtain ⟨rk,kvs,hk,ks⟩:=O.kd
 have e:(kvs.map fun kv=>kV kv.1) = (ω.ks.map (·.1)).map V.int:=by
  clear hk
  have gen : ∀ {kvs:List (Key × V)} {ks:List (Int × Kp)},KeepsR t H ρ id kvs ks → (kvs.map fun kv=>kV kv.1) = (ks.map (·.1)).map V.int:=fun {kvs ks} q=>by
   induction q with
   | nil=>rfl
   | cons a _ ih=>
    rw [List.map_cons,List.map_cons,List.map_cons,ih,a.1]
    rfl
  exact gen ks
 refine ⟨_,rfl,W.x,_,W.dx,_,_,rfl,O.ob.1,T.cl_World,T.na_World_keepers,wof_keepers,W.kd,kvs,rfl,hk,fun r nr=>?_⟩
 rw [e]
 exact g r nr
theorem ok_World_cheat (T:Txt K mg t) : FnOk P w K mg base CX0 6 t.f_World_cheat t.d_World_cheat ["self","order","house"] (fun vs H Q _=>∃ ρ id W ω q o h κ,vs = [.ref W.x,.ref q,.int h] ∧ WorldR t H ρ id W ω ∧ OkR ρ H ∧ OrdU H ρ (.ref q) o ∧ isOrd ω.n o = true ∧ o.p ∈ ω.cheats ∧ ω.keep h = some κ ∧ ω.way.length ≤ 100000 ∧
  ∀ H',WorldR t H' ρ id W { ω with way:=ω.way ++ [(true,h,o)] } → Fr (isP id .wy) ρ H ρ H' → OkR ρ H' → Q .non H'):=by
 refine T.F_World_cheat.okB (N:=["self","order","house"]) fun _ A _ s H vs Q E hr h=>?_
 obtain ⟨ρ,id,W,ω,q,o,h,κ,rfl,O,kr,uq,ho,oc,ek,l,g⟩:=h
 refine ⟨_,(@pss_cons _ _ _ _ _ (ps_expr (pe_meth (pv 0) T.cl_World T.mt_World_check_order (ok_World_check_order T) hr.dn T.b_World_check_order .nil pass0 (pa_more (pv 1) pa_nil)))
  (@pss_cons _ _ _ _ _ (ps_if (pt_cmpR op_notIn_seq (pe_ix ix_tup (pv 1) pe_int (fun _ _=>rfl)) (pe_fld (pv 0) rfl) (by with_unfolding_all rfl)) pss_never pss_nil)
  (@pss_cons _ _ _ _ _ (ps_expr (pe_meth (pv 0) T.cl_World T.mt_World_keeper_of (ok_World_keeper_of T) hr.dn T.b_World_keeper_of .nil pass0 (pa_more (pv 2) pa_nil)))
  (@pss_one _ _ _ (ps_expr (pe_bm PySem.F.plainAttrs_list PySem.F.slot_list_append PySem.F.type_list_append mt_append (pe_fld (pv 0) rfl) (pa_more (@pe_tup _ _ _ _ _ (@pa_3 _ _ _ _ _ _ _ (pe_glob (v:=.str "order") rfl T.c_ORDER_LETTER.choose_spec ⟨_,rfl⟩) (pv 2) (pv 1) rfl rfl rfl)) pa_nil))))))),?_⟩
 have uq':=uq
 obtain ⟨_,eq,nq,hq⟩:=uq'
 cases eq
 refine ⟨_,rfl,W.x,W.dx,_,rfl,O.ob.1,wof_no,_,rfl,ρ,id,W,ω,q,o,rfl,O,hq,ho,?_⟩
 refine ⟨_,rfl,q,ordV o,0,.int o.p,rfl,rfl,SqT.of hq,rfl,_,rfl,W.x,_,W.dx,_,_,rfl,O.ob.1,T.cl_World,T.na_World_cheating,wof_cheating,W.ch,_,rfl,.inl (SqL.of O.ch.1),rfl,flat_ints _,_,rfl,?_⟩
 rw [if_pos rfl,inV_ints,decide_eq_true oc]
 refine iteF ?_
 refine ⟨_,rfl,W.x,W.dx,_,rfl,O.ob.1,wof_no,_,rfl,ρ,id,W,ω,h,κ,rfl,O,ek,fun k A' dk R=>?_⟩
 obtain ⟨rw_,xs,hw,pw⟩:=O.wy
 refine ⟨_,rfl,W.x,_,W.dx,_,_,rfl,O.ob.1,T.cl_World,T.na_World_on_way,wof_on_way,.inl ⟨rfl,_,SqL.of hw⟩,_,rfl,_,rfl,zs3,fun p np=>?_⟩
 have sp:=same_upd (o:=.tup [.str "order",.int h,.ref q]) np
 have lx:xs.length ≤ 1000000:=by rw [Paired.length pw]; omega
 refine ⟨W.wy,xs,.ref p,rfl,rfl,sp _ _ hw,big lx,?_⟩
 have O1:=O.fr (P:=fun _=>False) (fun _ z=>z) (Fr.same sp)
 have kr1:=kr.same sp
 have f2:Fr (isP id .wy) ρ (upd H p (.tup [.str "order",.int h,.ref q])) ρ (upd (upd H p (.tup [.str "order",.int h,.ref q])) W.wy (.lst (xs ++ [.ref p]))):=Fr.put rw_ rfl
 have f0:Fr (isP id .wy) ρ H ρ (upd H p (.tup [.str "order",.int h,.ref q])):=Fr.same sp
 refine g _ (O1.but f2 _ isP_ne rfl rfl (kd_keep f2 isP_ne (fun _ _=>isP_ne)) (bd_keep f2 isP_ne isP_ne isP_ne) (ak_keep f2 isP_ne (fun _=>isP_ne)) (fun _ _=>⟨rw_,_,upd_same,?_⟩)) (f0.trans f2) kr1.put
 have np0:=kr.none np
 refine paired_app (Paired.mapP pw fun _ _=>LetU.fr (f0.trans f2)) ⟨p,q,rfl,np0,?_,uq.fr (f0.trans f2)⟩
 rw [upd_ne (neu np0 rw_),upd_same]
 rfl
theorem paired_erase {α β : Type} {F : α → β → Prop} {xs:List α} {ys:List β} {j:Nat} (h:Paired F xs ys) : Paired F (xs.eraseIdx j) (ys.eraseIdx j):=paired_eraseIdx h
structure KSz (κ : Kp) (m:Nat) : Prop where
 hd : κ.heard.length ≤ m
 uc : κ.unv.length + κ.cho.length ≤ m
 dw : κ.done.length + κ.wait.length ≤ m
theorem ok_World_come (T:Txt K mg t) : FnOk P w K mg base CX0 8 t.f_World_come t.d_World_come ["self","at"] (fun vs H Q _=>∃ ρ id W ω i l κ a b c,vs = [.ref W.x,.int (i:Nat)] ∧ WorldR t H ρ id W ω ∧ OkR ρ H ∧ ω.way[i]? = some l ∧ ω.keep l.2.1 = some κ ∧ (ω.ks.map (·.1)).Nodup ∧ κ.Ok ω.n ∧ ω.n ≤ 8 ∧ isOrd ω.n l.2.2 = true ∧ KSz κ 900 ∧ Sz ω a b c ∧ a + (κ.take l.1 l.2.2).2.length ≤ 1000 ∧ b + (κ.take l.1 l.2.2).2.length ≤ 1000 ∧ c + 16 * (κ.take l.1 l.2.2).2.length ≤ 100000 ∧
  ∀ ρ' H' x,WorldR t H' ρ' id W (ω.come i l κ) → Fr (fun r=>r.1 = id) ρ H ρ' H' → OkR ρ' H' → LetU H' ρ' x l → Q x H'):=by
 refine T.F_World_come.okA sc_World_come fun _ A _ s H vs Q E hr h=>?_
 obtain ⟨ρ,id,W,ω,i,l,κ,a,b,c,rfl,O,kr,el,ek,nd,hok,n8,ho,ksz,sz,la,lb,lc,g⟩:=h
 refine ⟨_,(@pss_cons _ _ _ _ _ (ps_if (pt_not (pt_val (pe_call (ok_is_between T) hr.dn rfl T.m_is_between T.F_is_between.kp T.b_is_between .nil pass0 (@pa_3 _ _ _ _ _ _ _ (pv 1) pe_int (pe_op op_sub (pe_callB call_len_seq rfl T.n_len boot_len (pa_more (pe_fld (pv 0) rfl) pa_nil)) pe_int) rfl rfl rfl)))) pss_never pss_nil)
  (@pss_cons _ _ _ _ _ (ps_set (i:=2) sc_World_come.nd rfl (Or.inl rfl) (pe_bm PySem.F.plainAttrs_list PySem.F.slot_list_pop PySem.F.type_list_pop mt_popAt (pe_fld (pv 0) rfl) (pa_more (pv 1) pa_nil)))
  (@pss_cons _ _ _ _ _ (ps_asg (pv 2) (pg_tup rfl (pgs_cons (pg_name (i:=3) sc_World_come.nd rfl (Or.inl rfl)) (pgs_cons (pg_name (i:=4) sc_World_come.nd rfl (Or.inl rfl)) (pgs_cons (pg_name (i:=5) sc_World_come.nd rfl (Or.inl rfl)) pgs_nil)))))
  (@pss_cons _ _ _ _ _ (ps_set (i:=6) sc_World_come.nd rfl (Or.inl rfl) (pe_dget (hu_of hr) (pe_fld (pv 0) rfl) (pv 4) (fun _ _=>rfl)))
  (@pss_cons _ _ _ _ _ (ps_if (pt_cmpR op_eq (pv 3) (pe_glob (v:=.str "order") rfl T.c_ORDER_LETTER.choose_spec ⟨_,rfl⟩) (nomark _)) (@pss_one _ _ _ (ps_expr (pe_meth (pv 0) T.cl_World T.mt_World_put_votes (ok_World_put_votes T) hr.dn T.b_World_put_votes .nil pass0 (@pa_2 _ _ _ _ _ (pv 4) (pe_meth (pv 6) T.cl_Keeper T.mt_Keeper_hear (ok_Keeper_hear T) hr.dn T.b_Keeper_hear .nil pass0 (pa_more (pv 5) pa_nil)) rfl rfl)))) (@pss_one _ _ _ (ps_expr (pe_meth (pv 0) T.cl_World T.mt_World_put_votes (ok_World_put_votes T) hr.dn T.b_World_put_votes .nil pass0 (@pa_2 _ _ _ _ _ (pv 4) (pe_meth (pv 6) T.cl_Keeper T.mt_Keeper_take_paper (ok_Keeper_take_paper T) hr.dn T.b_Keeper_take_paper .nil pass0 (pa_more (pv 5) pa_nil)) rfl rfl)))))
  (@pss_one _ _ _ (ps_ret (pv 2)))))))),?_⟩
 obtain ⟨rw_,xs,hw,pw⟩:=O.wy
 have lx:xs.length = ω.way.length:=Paired.length pw
 have hi:=(List.getElem?_eq_some_iff.mp el).1
 have wl:=sz.wy
 refine ⟨_,rfl,_,rfl,W.x,_,W.dx,_,_,rfl,O.ob.1,T.cl_World,T.na_World_on_way,wof_on_way,W.wy,xs,rfl,.inl (SqL.of hw),_,_,rfl,rfl,(i:Int),0,(xs.length:Int) - 1,rfl,_,rfl,?_⟩
 rw [decide_eq_true (show 0 ≤ (i:Int) ∧ (i:Int) ≤ (xs.length:Int) - 1 by omega)]
 refine iteF ?_
 obtain ⟨x,ex,ux⟩:=paired_back pw el
 refine ⟨_,rfl,W.x,_,W.dx,_,_,rfl,O.ob.1,T.cl_World,T.na_World_on_way,wof_on_way,.inl ⟨rfl,_,SqL.of hw⟩,_,rfl,W.wy,xs,(i:Int),i,x,rfl,rfl,hw,by omega,by omega,?_,ex,?_⟩
 ·unfold seqIndex?
  simp
  omega
 have f1:Fr (isP id .wy) ρ H ρ (upd H W.wy (.lst (xs.eraseIdx i))):=Fr.put rw_ rfl
 have O1:WorldR t (upd H W.wy (.lst (xs.eraseIdx i))) ρ id W { ω with way:=ω.way.eraseIdx i }:=O.but f1 _ isP_ne rfl rfl (kd_keep f1 isP_ne (fun _ _=>isP_ne)) (bd_keep f1 isP_ne isP_ne isP_ne) (ak_keep f1 isP_ne (fun _=>isP_ne)) (fun _ _=>⟨rw_,_,upd_same,paired_erase (Paired.mapP pw fun _ _=>LetU.fr f1)⟩)
 have kr1:=kr.put (a:=W.wy) (o:=.lst (xs.eraseIdx i))
 have ux1:=ux.fr f1
 generalize upd H W.wy (.lst (xs.eraseIdx i)) = H1 at f1 O1 kr1 ux1
 obtain ⟨la',q,rfl,nl,hl,uq⟩:=ux1
 refine ⟨_,rfl,la',_,rfl,SqT.of hl,rfl,_,_,rfl,_,_,rfl,_,_,rfl,rfl,?_⟩
 obtain ⟨rk,kvs,hk,ks⟩:=O1.kd
 obtain ⟨k,A',dk,ev,R⟩:=keeps_val ks ek
 refine ⟨_,rfl,W.x,_,W.dx,_,_,rfl,O1.ob.1,T.cl_World,T.na_World_keepers,wof_keepers,_,rfl,W.kd,.ref k,rfl,.inl ⟨kvs,.inl l.2.1,.inl hk,rfl,ev.symm⟩,?_⟩
 obtain ⟨wb,h,o⟩:=l
 cases wb with
 | true=>
  refine ⟨_,rfl,rfl,_,rfl,iteT ?_⟩
  refine ⟨_,rfl,W.x,W.dx,_,rfl,O1.ob.1,wof_no,_,rfl,_,rfl,k,dk,_,rfl,R.ob,kfA_no A',_,rfl,ρ,id,h,k,A',dk,κ,ω.n,q,o,rfl,R,uq,hok,n8,ho,ksz.hd,ksz.uc,ksz.dw,kr1,fun ρ2 H2 A2 r ys R2 f2 kr2 rr hr2 pr=>?_⟩
  have O2:=O1.keeper f2 nd (fun kvs' hk'=>by rw [hk] at hk'; cases hk'; exact ev) R2
  have z2:Sz { { ω with way:=ω.way.eraseIdx i } with ks:=setK ω.ks h (Kp.hear κ o).1 } a b c:=⟨sz.bd,sz.hs,Nat.le_trans (List.length_eraseIdx_le _ _) sz.wy,by show (setK _ _ _).length ≤ 16; rw [setK_len]; exact sz.ks⟩
  refine ⟨ρ2,id,W,_,h,r,ys,(Kp.hear κ o).2,a,b,c,rfl,O2,kr2,hr2,fun ro e=>?_,pr,z2,la,lb,lc,fun ρ3 H3 O3 f3 kr3=>?_⟩
  ·rw [rr] at e
   cases e
   exact vt_no (by intro z; cases z) (by intro z; cases z) (by intro z; cases z)
  ·have fr:Fr (fun r=>r.1 = id) ρ H ρ3 H3:=((f1.mono fun r hr=>by rw [hr]).trans (f2.mono fun r ⟨j,hr⟩=>by rw [hr])).trans (f3.mono fun r hr=>by rcases hr with hr | hr | hr <;> rw [hr])
   exact ⟨_,rfl,g ρ3 H3 _ O3 fr kr3 (LetU.fr fr ux)⟩
 | false=>
  refine ⟨_,rfl,rfl,_,rfl,iteF ?_⟩
  refine ⟨_,rfl,W.x,W.dx,_,rfl,O1.ob.1,wof_no,_,rfl,_,rfl,k,dk,_,rfl,R.ob,kfA_no A',_,rfl,ρ,id,h,k,A',dk,κ,ω.n,q,o,rfl,R,uq,hok,n8,ho,ksz.hd,ksz.uc,ksz.dw,kr1,fun ρ2 H2 A2 r ys R2 f2 kr2 rr hr2 pr=>?_⟩
  have O2:=O1.keeper f2 nd (fun kvs' hk'=>by rw [hk] at hk'; cases hk'; exact ev) R2
  have z2:Sz { { ω with way:=ω.way.eraseIdx i } with ks:=setK ω.ks h (Kp.paper κ o).1 } a b c:=⟨sz.bd,sz.hs,Nat.le_trans (List.length_eraseIdx_le _ _) sz.wy,by show (setK _ _ _).length ≤ 16; rw [setK_len]; exact sz.ks⟩
  refine ⟨ρ2,id,W,_,h,r,ys,(Kp.paper κ o).2,a,b,c,rfl,O2,kr2,hr2,fun ro e=>?_,pr,z2,la,lb,lc,fun ρ3 H3 O3 f3 kr3=>?_⟩
  ·rw [rr] at e
   cases e
   exact vt_no (by intro z; cases z) (by intro z; cases z) (by intro z; cases z)
  ·have fr:Fr (fun r=>r.1 = id) ρ H ρ3 H3:=((f1.mono fun r hr=>by rw [hr]).trans (f2.mono fun r ⟨j,hr⟩=>by rw [hr])).trans (f3.mono fun r hr=>by rcases hr with hr | hr | hr <;> rw [hr])
   exact ⟨_,rfl,g ρ3 H3 _ O3 fr kr3 (LetU.fr fr ux)⟩
def Wd.carried (ω : Wd) (o:O) : Bool:=decide (ω.en ≤ ((housesI ω.bd (ordI o)).length:Int))
structure Wd.Ok (ω : Wd) : Prop where
 n8 : ω.n ≤ 8
 al : ω.asked.length = ω.n
 ao : ∀ row ∈ ω.asked,(∀ o ∈ row,isOrd ω.n o = true)
 ks : ∀ c ∈ ω.ks,c.2.Ok ω.n
 nd:(ω.ks.map (·.1)).Nodup
 k0 : 0 < ω.ks.length
 k1 : ω.ks.length ≤ 16
def CheatsAt (K:W.Frag) (H:Hp) (a:Addr) (ks:List Int) : Prop:=H a = some (.lst (ks.map V.int)) ∨ (ks = [] ∧ SqT K H a [])
def sp_rising (K:W.Frag) : Sp:=fun vs H Q _=>∃ a b ks,vs = [.ref a,.int b] ∧ CheatsAt K H a ks ∧ ks.Pairwise (· < ·) ∧ (∀ k ∈ ks,0 ≤ k ∧ k < b) ∧ Q (.bl true) H
theorem ok_are_rising (T:Txt K mg t) : FnOk P w K mg base CX0 3 t.f_are_rising t.d_are_rising ["things","bound"] (sp_rising K):=by
 refine T.F_are_rising.okA sc_are_rising fun _ A _ s H vs Q E hr h=>?_
 obtain ⟨a,b,ks,rfl,hc,up,rg,k⟩:=h
 refine ⟨_,(@pss_cons _ _ _ _ _ (ps_set (i:=2) sc_are_rising.nd rfl (Or.inl rfl) pe_int)
  (@pss_cons _ _ _ _ _ (ps_for PassesOwn.never rfl (pi_seq (pv 0)) (pg_name (i:=3) sc_are_rising.nd rfl (Or.inl rfl)) (@pss_cons _ _ _ _ _ (ps_if (pt_not (pt_val (pe_call (ok_is_between T) hr.dn rfl T.m_is_between T.F_is_between.kp T.b_is_between .nil pass0 (@pa_3 _ _ _ _ _ _ _ (pv 3) (pv 2) (pe_op op_sub (pv 1) pe_int) rfl rfl rfl)))) (@pss_one _ _ _ (ps_ret pe_bl)) pss_nil)
  (@pss_one _ _ _ (ps_set (i:=2) sc_are_rising.nd rfl (Or.inl rfl) (pe_op op_add (pv 3) pe_int)))))
  (@pss_one _ _ _ (ps_ret pe_bl)))),?_⟩
 rcases hc with ha | ⟨rfl,ha⟩
 ·refine .inl ⟨_,rfl,a,rfl,⟨_,SqL.of ha⟩,for_list (K:=K) (a:=a) (xs:=ks.map V.int) (fun i σ H'=>∃ v l,σ = [some (.ref a),some (.int b),some (.int l),v] ∧ H' = H ∧ ∀ z ∈ ks.drop i,l ≤ z) ⟨none,0,rfl,rfl,fun z hz=>(rg z hz).1⟩ (fun i σ H' _ ⟨_,_,_,e,_⟩=>SqL.of (by rw [e]; exact ha)) ?_ ?_⟩
  ·rintro i x σ H' hx ⟨v,l,rfl,rfl,hl⟩
   obtain ⟨z,ez,rfl⟩ : ∃ z,ks[i]? = some z ∧ x = .int z:=by
    rw [List.getElem?_map] at hx
    cases e:ks[i]? with
    | none=>rw [e] at hx; cases hx
    | some z=>rw [e] at hx; exact ⟨z,rfl,(Option.some.inj hx).symm⟩
   obtain ⟨hi,ez'⟩:=List.getElem?_eq_some_iff.mp ez
   have r:=rg z (List.mem_of_getElem? ez)
   have lz:l ≤ z:=hl z (by rw [List.drop_eq_getElem_cons hi,ez']; simp)
   refine ⟨_,rfl,_,rfl,_,rfl,_,_,rfl,rfl,_,_,_,rfl,?_⟩
   rw [decide_eq_true ⟨lz,(by omega:z ≤ b - 1)⟩]
   refine ⟨_,rfl,iteF ?_⟩
   refine ⟨_,rfl,_,_,rfl,rfl,_,_,rfl,rfl,fun y hy=>?_⟩
   obtain ⟨j,hj,e⟩:=List.mem_iff_getElem.mp hy
   rw [List.length_drop] at hj
   rw [List.getElem_drop] at e
   have:=List.pairwise_iff_getElem.mp up i (i + 1 + j) hi (by omega) (by omega)
   rw [ez',e] at this
   omega
  ·rintro σ H' ⟨v,l,rfl,rfl,_⟩
   exact k
 ·refine .inr ⟨_,rfl,a,rfl,⟨_,ha⟩,for_tup (K:=K) (a:=a) (xs:=[]) (fun i σ H'=>∃ v,σ = [some (.ref a),some (.int b),some (.int 0),v] ∧ H' = H) ⟨none,rfl,rfl⟩ (fun i σ H' _ ⟨_,_,e⟩=>by rw [e]; exact ha) (fun i x σ H' hx _=>by simp at hx) ?_⟩
  rintro σ H' ⟨v,rfl,rfl⟩
  exact k
theorem ok_is_rising_row (T:Txt K mg t) : FnOk P w K mg base CX0 4 t.f_is_rising_row t.d_is_rising_row ["thing","bound"] (fun vs H Q _=>∃ a b ks,vs = [.ref a,.int b] ∧ CheatsAt K H a ks ∧ ks.Pairwise (· < ·) ∧ (∀ k ∈ ks,0 ≤ k ∧ k < b) ∧ ∀ H',Same H H' → Q (.bl true) H'):=by
 refine T.F_is_rising_row.okB (N:=["thing","bound"]) fun _ A _ s H vs Q E hr h=>?_
 obtain ⟨a,b,ks,rfl,hc,up,rg,k⟩:=h
 refine ⟨_,(@pss_one _ _ _ (ps_ret (pe_and (pe_callB call_isSeq rfl T.n_isinstance boot_isinstance (@pa_2 _ _ _ _ _ (pv 0) (@pe_tup _ _ _ _ _ (@pa_2 _ _ _ _ _ (pe_bltn (v:=.ty "list") rfl T.n_list boot_list rfl) (pe_bltn (v:=.ty "tuple") rfl T.n_tuple boot_tuple rfl) rfl rfl)) rfl rfl)) (pe_one (pe_call (ok_are_rising T) hr.dn rfl T.m_are_rising T.F_are_rising.kp T.b_are_rising .nil pass0 (@pa_2 _ _ _ _ _ (pv 0) (pv 1) rfl rfl)))))),?_⟩
 refine ⟨_,rfl,zs2,fun q hq=>?_⟩
 have s1:=same_upd (o:=.tup [.ty "list",.ty "tuple"]) hq
 have hc1:CheatsAt K (upd H q (.tup [.ty "list",.ty "tuple"])) a ks:=by
  rcases hc with h | ⟨e,h⟩
  ·exact .inl (s1 _ _ h)
  ·refine .inr ⟨e,?_⟩
   rcases h with h | h
   ·exact .inl (rd_same s1 h)
   ·exact .inr h
 refine ⟨a,q,rfl,upd_same,?_,?_⟩
 ·rcases hc1 with h | ⟨_,h⟩
  ·exact .inl ⟨_,SqL.of h⟩
  ·exact .inr ⟨_,h⟩
 exact ⟨_,rfl,iteT ⟨_,rfl,_,rfl,a,b,ks,rfl,hc1,up,rg,k _ s1⟩⟩
theorem CheatsAt.same {K:W.Frag} {H H':Hp} {a:Addr} {ks:List Int} (s1:Same H H') (hc:CheatsAt K H a ks) : CheatsAt K H' a ks:=by
 rcases hc with h | ⟨e,h⟩
 ·exact .inl (s1 _ _ h)
 ·refine .inr ⟨e,?_⟩
  rcases h with h | h
  ·exact .inl (rd_same s1 h)
  ·exact .inr h
theorem CheatsAt.sq {K:W.Frag} {H:Hp} {a:Addr} {ks:List Int} (hc:CheatsAt K H a ks) : SqL K H a (ks.map V.int) ∨ SqT K H a (ks.map V.int):=by
 rcases hc with h | ⟨e,h⟩
 ·exact .inl (SqL.of h)
 ·subst e
  exact .inr h
theorem ok_is_house_count (T:Txt K mg t) : FnOk P w K mg base CX0 3 t.f_is_house_count t.d_is_house_count ["thing"] (fun vs H Q _=>∃ i,vs = [.int i] ∧ Q (.bl (decide (1 ≤ i ∧ i ≤ 16))) H):=by
 refine T.F_is_house_count.okB (N:=["thing"]) fun _ A _ s H vs Q E hr h=>?_
 obtain ⟨x,rfl,k⟩:=h
 refine ⟨_,(@pss_one _ _ _ (ps_ret (pe_call (ok_is_between T) hr.dn rfl T.m_is_between T.F_is_between.kp T.b_is_between .nil pass0 (@pa_3 _ _ _ _ _ _ _ (pv 0) pe_int (pe_glob (v:=.int 16) rfl T.c_MOST_HOUSES.choose_spec ⟨_,rfl⟩) rfl rfl rfl)))),?_⟩
 exact ⟨_,rfl,x,1,16,rfl,k⟩
theorem ok_is_few (T:Txt K mg t) : FnOk P w K mg base CX0 3 t.f_is_few t.d_is_few ["thing"] (fun vs H Q _=>∃ i,vs = [.int i] ∧ Q (.bl (decide (0 ≤ i ∧ i ≤ 5))) H):=by
 refine T.F_is_few.okB (N:=["thing"]) fun _ A _ s H vs Q E hr h=>?_
 obtain ⟨x,rfl,k⟩:=h
 refine ⟨_,(@pss_one _ _ _ (ps_ret (pe_call (ok_is_between T) hr.dn rfl T.m_is_between T.F_is_between.kp T.b_is_between .nil pass0 (@pa_3 _ _ _ _ _ _ _ (pv 0) pe_int (pe_glob (v:=.int 5) rfl T.c_MOST_FEW.choose_spec ⟨_,rfl⟩) rfl rfl rfl)))),?_⟩
 exact ⟨_,rfl,x,0,5,rfl,k⟩
theorem ok_outnumber (T:Txt K mg t) : FnOk P w K mg base CX0 1 t.f_outnumber t.d_outnumber ["houses","few"] (fun vs H Q _=>∃ h f:Int,vs = [.int h,.int f] ∧ Q (.bl (decide (h > 3 * f))) H):=by
 refine T.F_outnumber.okB (N:=["houses","few"]) fun _ A _ s H vs Q E hr h=>?_
 obtain ⟨i,j,rfl,q⟩:=h
 refine ⟨_,(@pss_one _ _ _ (ps_ret (pe_cmpR op_gt (pv 0) (pe_op op_mul pe_int (pv 1)) (nomark _)))),?_⟩
 exact ⟨_,rfl,_,rfl,_,_,rfl,rfl,.inl (by decide),_,_,rfl,rfl,q⟩
theorem ok_enough_of (T:Txt K mg t) : FnOk P w K mg base CX0 1 t.f_enough_of t.d_enough_of ["houses","few"] (fun vs H Q _=>∃ i j:Int,vs = [.int i,.int j] ∧ Q (.int (i - j)) H):=by
 refine T.F_enough_of.okB (N:=["houses","few"]) fun _ A _ s H vs Q E hr h=>?_
 obtain ⟨i,j,rfl,q⟩:=h
 refine ⟨_,(@pss_one _ _ _ (ps_ret (pe_op op_sub (pv 0) (pv 1)))),?_⟩
 exact ⟨_,rfl,_,rfl,_,_,rfl,rfl,q⟩
theorem ok_are_sums (T:Txt K mg t) : FnOk P w K mg base CX0 3 t.f_are_sums t.d_are_sums ["thing"] (fun vs H Q _=>∃ a ns,vs = [.ref a] ∧ H a = some (.lst ((ns:List Int).map V.int)) ∧ 2 ≤ ns.length ∧ ns.length ≤ 8 ∧ (∀ i ∈ ns,0 ≤ i ∧ i ≤ 1000) ∧ ∀ H',Same H H' → Q (.bl true) H'):=by
 refine T.F_are_sums.okB (N:=["thing"]) fun _ A _ s H vs Q E hr h=>?_
 obtain ⟨a,ns,rfl,e,l2,l8,rg,k⟩:=h
 refine ⟨_,(@pss_cons _ _ _ _ _ (ps_if (PW.pt (pw_or (pt_not (pt_val (pe_callB call_isinst rfl T.n_isinstance boot_isinstance (@pa_2 _ _ _ _ _ (pv 0) (pe_bltn (v:=.ty "list") rfl T.n_list boot_list rfl) rfl rfl)))) (pw_or1 (pt_cmpR op_lt (pe_callB call_len_seq rfl T.n_len boot_len (pa_more (pv 0) pa_nil)) (pe_glob (v:=.int 2) rfl T.c_LEAST_PURSES.choose_spec ⟨_,rfl⟩) (nomark _))))) (@pss_one _ _ _ (ps_ret pe_bl)) pss_nil)
  (@pss_one _ _ _ (ps_ret (pe_callB (call_all rfl) rfl T.n_all boot_all (pa_more (pe_lcomp (N':=["each"]) (ix:=[none]) (compOk_is (by kernel_rfl)) rfl (@pi_list _ _ _ _ (pv 0)) (fun _ _ _ _=>(pg_name (i:=0) nd_0 rfl (Or.inl rfl) (.inr rfl))) (fun _ _ _ _=>pif_nil) (fun _ _ _ _=>(pe_call (ok_is_between T) hr.dn rfl T.m_is_between T.F_is_between.kp T.b_is_between .nil pass0 (@pa_3 _ _ _ _ _ _ _ (pv 0) pe_int (pe_glob (v:=.int 1000) rfl T.c_MOST_FIRST_SUM.choose_spec ⟨_,rfl⟩) rfl rfl rfl)))) pa_nil))))),?_⟩
 refine ⟨_,rfl,_,_,_,true,rfl,.lst e,rfl,_,rfl,iteF ?_⟩
 refine ⟨_,rfl,a,_,rfl,.inl (SqL.of e),_,_,rfl,rfl,_,rfl,ite2 (fun h1=>?_) (fun h1=>?_)⟩
 ·exfalso
  have:=of_decide_eq_true h1
  rw [List.length_map] at this
  omega
 refine ⟨_,rfl,a,rfl,⟨_,SqL.of e⟩,lc_list (K:=K) (a:=a) (xs:=ns.map V.int) (fun i ys σ' H'=>∃ v,σ' = [v] ∧ H' = H ∧ ys = (List.replicate i true).map V.bl) ⟨none,rfl,rfl,rfl⟩ ?_ ?_ ?_⟩
 ·rintro i ys σ' H' hi ⟨v,rfl,rfl,rfl⟩
  refine ⟨SqL.of e,len1000 ?_⟩
  rw [List.length_map] at hi
  rw [List.length_map,List.length_replicate]
  omega
 ·rintro i x ys σ' H' hx ⟨v,rfl,rfl,rfl⟩
  obtain ⟨z,ez,rfl⟩ : ∃ z,ns[i]? = some z ∧ x = .int z:=by
   rw [List.getElem?_map] at hx
   cases e:ns[i]? with
   | none=>rw [e] at hx; cases hx
   | some z=>rw [e] at hx; exact ⟨z,rfl,(Option.some.inj hx).symm⟩
  dsimp only [gName,tYes]
  rw [if_pos rfl]
  refine ⟨_,rfl,z,0,1000,rfl,?_⟩
  rw [decide_eq_true (rg z (List.mem_of_getElem? ez))]
  refine ⟨_,rfl,rfl,?_⟩
  rw [List.replicate_succ',List.map_append]
  rfl
 ·rintro ys σ' H' ⟨v,rfl,rfl,rfl⟩ q hq
  refine ⟨q,List.replicate (ns.map V.int).length true,rfl,SqL.of upd_same,?_⟩
  have g:=k _ (same_upd (o:=.lst ((List.replicate (ns.map V.int).length true).map V.bl)) hq)
  rw [show (List.replicate (ns.map V.int).length true).all id = true by simp]
  exact g
theorem ok_are_first_sums (T:Txt K mg t) : FnOk P w K mg base CX0 4 t.f_are_first_sums t.d_are_first_sums ["thing"] (fun vs H Q _=>∃ a ns,vs = [.ref a] ∧ H a = some (.lst ((ns:List Int).map V.int)) ∧ 2 ≤ ns.length ∧ ns.length ≤ 8 ∧ (∀ i ∈ ns,0 ≤ i ∧ i ≤ 1000) ∧ ∀ H',Same H H' → Q (.bl true) H'):=by
 refine T.F_are_first_sums.okB (N:=["thing"]) fun _ A _ s H vs Q E hr h=>?_
 obtain ⟨a,ns,rfl,e,l2,l8,rg,k⟩:=h
 refine ⟨_,(@pss_one _ _ _ (ps_ret (pe_and (pe_call (ok_are_sums T) hr.dn rfl T.m_are_sums T.F_are_sums.kp T.b_are_sums .nil pass0 (pa_more (pv 0) pa_nil)) (pe_one (pe_cmpR op_le (pe_callB call_len_seq rfl T.n_len boot_len (pa_more (pv 0) pa_nil)) (pe_glob (v:=.int 8) rfl T.c_MOST_PURSES.choose_spec ⟨_,rfl⟩) (nomark _)))))),?_⟩
 refine ⟨_,rfl,a,ns,rfl,e,l2,l8,rg,fun H1 s1=>⟨_,rfl,iteT ?_⟩⟩
 refine ⟨_,rfl,a,_,rfl,.inl (SqL.of (s1 _ _ e)),_,_,rfl,rfl,?_⟩
 have g:=k H1 s1
 show Q (.bl (decide (((ns.map V.int).length:Int) ≤ 8))) H1
 rw [show decide (((ns.map V.int).length:Int) ≤ 8) = true from decide_eq_true (by rw [List.length_map]; omega)]
 exact g
theorem ok_check_houses (T:Txt K mg t) : FnOk P w K mg base CX0 5 t.f_check_houses t.d_check_houses ["houses","few","liars"] (fun vs H Q _=>∃ h f a ks,vs = [.int h,.int f,.ref a] ∧ (1 ≤ h ∧ h ≤ 16) ∧ (0 ≤ f ∧ f ≤ 5) ∧ 3 * f < h ∧ CheatsAt K H a ks ∧ ks.Pairwise (· < ·) ∧ (∀ k ∈ ks,0 ≤ k ∧ k < h) ∧ (ks.length:Int) ≤ f ∧ ∀ H',Same H H' → Q .non H'):=by
 refine T.F_check_houses.okB (N:=["houses","few","liars"]) fun _ A _ s H vs Q E hr h=>?_
 obtain ⟨h,f,a,ks,rfl,h1,f1,lt,hc,up,rg,l,k⟩:=h
 refine ⟨_,(@pss_cons _ _ _ _ _ (ps_if (PW.pt (pw_or (pt_not (pt_val (pe_call (ok_is_house_count T) hr.dn rfl T.m_is_house_count T.F_is_house_count.kp T.b_is_house_count .nil pass0 (pa_more (pv 0) pa_nil)))) (pw_or1 (pt_not (pt_val (pe_call (ok_is_few T) hr.dn rfl T.m_is_few T.F_is_few.kp T.b_is_few .nil pass0 (pa_more (pv 1) pa_nil))))))) pss_never pss_nil)
  (@pss_cons _ _ _ _ _ (ps_if (pt_not (pt_val (pe_callK (ok_outnumber T) hr.dn rfl T.m_outnumber T.F_outnumber.kp T.bk0_outnumber pass0 (pa_more (pv 0) pa_nil) (pk_cons (pv 1) pk_nil)))) pss_never pss_nil)
  (@pss_one _ _ _ (ps_if (PW.pt (pw_or (pt_not (pt_val (pe_call (ok_is_rising_row T) hr.dn rfl T.m_is_rising_row T.F_is_rising_row.kp T.b_is_rising_row .nil pass0 (@pa_2 _ _ _ _ _ (pv 2) (pv 0) rfl rfl)))) (pw_or1 (pt_cmpR op_gt (pe_callB call_len_seq rfl T.n_len boot_len (pa_more (pv 2) pa_nil)) (pv 1) (nomark _))))) pss_never pss_nil)))),?_⟩
 refine ⟨_,rfl,h,rfl,_,rfl,?_⟩
 rw [decide_eq_true h1]
 refine iteF ⟨_,rfl,f,rfl,_,rfl,?_⟩
 rw [decide_eq_true f1]
 refine iteF ⟨_,rfl,_,rfl,h,f,rfl,_,rfl,?_⟩
 rw [decide_eq_true (by omega)]
 refine iteF ⟨_,rfl,_,rfl,a,h,ks,rfl,hc,up,rg,fun H1 s1=>⟨_,rfl,iteF ?_⟩⟩
 refine ⟨_,rfl,a,_,rfl,(hc.same s1).sq,_,rfl,_,_,rfl,rfl,_,rfl,ite2 (fun z=>?_) (fun _=>k _ s1)⟩
 exfalso
 have:=of_decide_eq_true z
 rw [List.length_map] at this
 omega
theorem ok_check_purses (T:Txt K mg t) : FnOk P w K mg base CX0 5 t.f_check_purses t.d_check_purses ["sums","cheats"] (fun vs H Q _=>∃ a ns b ks,vs = [.ref a,.ref b] ∧ H a = some (.lst ((ns:List Int).map V.int)) ∧ 2 ≤ ns.length ∧ ns.length ≤ 8 ∧ (∀ i ∈ ns,0 ≤ i ∧ i ≤ 1000) ∧ CheatsAt K H b ks ∧ ks.Pairwise (· < ·) ∧ (∀ k ∈ ks,0 ≤ k ∧ k < (ns.length:Int)) ∧ ∀ H',Same H H' → Q .non H'):=by
 refine T.F_check_purses.okB (N:=["sums","cheats"]) fun _ A _ s H vs Q E hr h=>?_
 obtain ⟨a,ns,b,ks,rfl,e,l2,l8,r1,hc,up,rg,k⟩:=h
 refine ⟨_,(@pss_cons _ _ _ _ _ (ps_if (pt_not (pt_val (pe_call (ok_are_first_sums T) hr.dn rfl T.m_are_first_sums T.F_are_first_sums.kp T.b_are_first_sums .nil pass0 (pa_more (pv 0) pa_nil)))) pss_never pss_nil)
  (@pss_one _ _ _ (ps_if (pt_not (pt_val (pe_call (ok_is_rising_row T) hr.dn rfl T.m_is_rising_row T.F_is_rising_row.kp T.b_is_rising_row .nil pass0 (@pa_2 _ _ _ _ _ (pv 1) (pe_callB call_len_seq rfl T.n_len boot_len (pa_more (pv 0) pa_nil)) rfl rfl)))) pss_never pss_nil))),?_⟩
 refine ⟨_,rfl,a,ns,rfl,e,l2,l8,r1,fun H1 s1=>⟨_,rfl,iteF ?_⟩⟩
 refine ⟨_,rfl,_,rfl,a,_,rfl,.inl (SqL.of (s1 _ _ e)),b,_,ks,rfl,hc.same s1,up,fun k hk=>?_,fun H2 s2=>⟨_,rfl,iteF (k _ (s1.trans s2))⟩⟩
 rw [List.length_map]
 exact rg k hk
def PK (H:Hp) (ρ : Rho) (id:Nat) (h:Int) (L:List (Nat × Addr × HO)) : Prop:=∀ x ∈ L,1 ≤ x.1 ∧ ρ x.2.1 = some (id,.kp h x.1) ∧ H x.2.1 = some x.2.2
theorem PK.new {H:Hp} {ρ : Rho} {id:Nat} {h:Int} {L:List (Nat × Addr × HO)} {p:Addr} {f:Nat} {u:HO} (k:PK H ρ id h L) (n:H p = none) (hf : 1 ≤ f) : PK (upd H p u) (setR ρ p (id,.kp h f)) id h ((f,p,u) :: L):=fun x hx=>by
 rcases List.mem_cons.mp hx with rfl | hx
 ·exact ⟨hf,setR_same,upd_same⟩
 ·obtain ⟨a,b,c⟩:=k x hx
  have:x.2.1 ≠ p:=ne_of_none c n
  exact ⟨a,by rw [setR_ne this]; exact b,by rw [upd_ne this]; exact c⟩
theorem PK.obj {H:Hp} {ρ : Rho} {id:Nat} {h:Int} {L:List (Nat × Addr × HO)} {x:Addr} {o:HO} (k:PK H ρ id h L) (rx : ρ x = some (id,.kp h 0)) : PK (upd H x o) ρ id h L:=fun y hy=>by
 obtain ⟨a,b,c⟩:=k y hy
 exact ⟨a,b,by rw [upd_ne (ner b rx (fun z=>by have e:=(Part.kp.inj (Prod.mk.inj z).2).2; omega))]; exact c⟩
theorem PK.same {H H':Hp} {ρ : Rho} {id:Nat} {h:Int} {L:List (Nat × Addr × HO)} (s:Same H H') (k:PK H ρ id h L) : PK H' ρ id h L:=fun y hy=>let ⟨a,b,c⟩:=k y hy; ⟨a,b,s _ _ c⟩
theorem PK.at_ {H:Hp} {ρ : Rho} {id:Nat} {h:Int} {L:List (Nat × Addr × HO)} (k:PK H ρ id h L) (j:Nat) {f:Nat} {a:Addr} {u:HO} (e:L[j]? = some (f,a,u)) : ρ a = some (id,.kp h f) ∧ H a = some u:=(k _ (List.mem_of_getElem? e)).2
structure Mk (t:Ad) (ρ0:Rho) (H0:Hp) (id:Nat) (h:Int) (x dx:Addr) (fs:List (Str × V)) (L:List (Nat × Addr × HO)) (ρ : Rho) (H:Hp) : Prop where
 ob:H x = some (.ins t.a_Keeper dx fs)
 rx : ρ x = some (id,.kp h 0)
 pk:PK H ρ id h L
 fr:Fr (isK id h) ρ0 H0 ρ H
 kr:OkR ρ H
section
variable {t:Ad} {ρ0 ρ : Rho} {H0 H H':Hp} {id:Nat} {h:Int} {x dx:Addr} {fs fs':List (Str × V)} {L:List (Nat × Addr × HO)}
theorem Mk.new {p:Addr} {u:HO} (f:Nat) (m:Mk t ρ0 H0 id h x dx fs L ρ H) (n:H p = none) (hf : 1 ≤ f) (hu:autoParam (noTup u) aP6) : Mk t ρ0 H0 id h x dx fs ((f,p,u) :: L) (setR ρ p (id,.kp h f)) (upd H p u):=by
 have nx:x ≠ p:=ne_of_none m.ob n
 exact ⟨by rw [upd_ne nx]; exact m.ob,by rw [setR_ne nx]; exact m.rx,m.pk.new n hf,m.fr.trans (Fr.newR n),m.kr.newR hu⟩
theorem Mk.tmp (m:Mk t ρ0 H0 id h x dx fs L ρ H) (s:Same H H') : Mk t ρ0 H0 id h x dx fs L ρ H':=⟨s _ _ m.ob,m.rx,m.pk.same s,m.fr.trans (Fr.same s),m.kr.same s⟩
theorem Mk.obj (m:Mk t ρ0 H0 id h x dx fs L ρ H) : Mk t ρ0 H0 id h x dx fs' L ρ (upd H x (.ins t.a_Keeper dx fs')):=⟨upd_same,m.rx,m.pk.obj m.rx,m.fr.trans (Fr.put m.rx ⟨0,rfl⟩),m.kr.put⟩
end
theorem ok_Book___init__ (T:Txt K mg t) : FnOk P w K mg base CX0 1 t.f_Book___init__ t.d_Book___init__ ["self","sums"] (fun vs H Q _=>∃ ρ id h x dx sa,∃ ns:List Int,vs = [.ref x,.ref sa] ∧ H x = some (.ins t.a_Keeper dx []) ∧ ρ x = some (id,.kp h 0) ∧ OkR ρ H ∧ H sa = some (.lst (ns.map V.int)) ∧ ns.length ≤ 1000 ∧
  ∀ ρ' H' he nn dn,Mk t ρ H id h x dx (bkf he nn dn) [(3,dn,.lst []),(2,nn,.lst ((List.replicate ns.length 0).map V.int)),(1,he,.lst (ns.map V.int))] ρ' H' → Q .non H'):=by
 refine T.F_Book___init__.okB (N:=["self","sums"]) fun _ A _ s H vs Q E hr h=>?_
 obtain ⟨ρ,id,h,x,dx,sa,ns,rfl,hx,rx,kr,hs,ln,k⟩:=h
 refine ⟨_,(@pss_cons _ _ _ _ _ (ps_fld (pv 0) (pe_callTy call_list_of rfl T.n_list boot_list (pa_more (pv 1) pa_nil)) rfl)
  (@pss_cons _ _ _ _ _ (ps_fld (pv 0) (pe_op op_rep (@pe_lst _ _ _ _ (pa_more pe_int pa_nil)) (pe_callB call_len_seq rfl T.n_len boot_len (pa_more (pv 1) pa_nil))) rfl)
  (@pss_one _ _ _ (ps_fld (pv 0) (@pe_lst _ _ _ _ pa_nil) rfl)))),?_⟩
 have m0:Mk t ρ H id h x dx [] [] ρ H:=⟨hx,rx,(fun _ z=>by cases z),Fr.refl,kr⟩
 have sx:sa ≠ x:=ne_of hs hx (by intro z; cases z)
 refine ⟨_,rfl,sa,_,rfl,.inl (SqL.of hs),fun he nh=>?_⟩
 have m1:=m0.new 1 nh (u:=.lst (ns.map V.int)) (by decide)
 have hs1:=same_upd (o:=.lst (ns.map V.int)) nh _ _ hs
 refine ⟨_,rfl,x,_,dx,_,rfl,m1.ob,T.cl_Keeper,T.na_Keeper_held,(by show 0 < 1000; decide),?_⟩
 have m2:=m1.obj (fs':=putF "held" (.ref he) [])
 have hs2:upd (upd H he (.lst (ns.map V.int))) x (.ins t.a_Keeper dx (putF "held" (.ref he) [])) sa = some (.lst (ns.map V.int)):=by rw [upd_ne sx]; exact hs1
 dsimp only
 generalize upd (upd H he (.lst (ns.map V.int))) x (.ins t.a_Keeper dx (putF "held" (.ref he) [])) = G at m2 hs2
 refine ⟨zs1,fun z1 n1=>⟨_,rfl,sa,_,rfl,.inl (SqL.of ((same_upd n1) _ _ hs2)),?_⟩⟩
 have m3:=m2.tmp (same_upd (o:=.lst [.int 0]) n1)
 refine ⟨z1,_,[.int 0],rfl,rfl,upd_same,?_,?_,?_,fun nn n2=>?_⟩
 ·omega
 ·rw [List.length_map]; have:=line63; omega
 ·rw [List.length_map]; exact len1000 (by simp; omega)
 have er:(List.replicate (((ns.map V.int).length:Nat) : Int).toNat [V.int 0]).flatten = (List.replicate ns.length 0).map V.int:=by
  rw [Int.toNat_natCast,List.length_map,List.map_replicate]
  generalize ns.length = n
  induction n with
  | zero=>rfl
  | succ n ih=>rw [List.replicate_succ,List.flatten_cons,ih,List.replicate_succ]; rfl
 rw [er]
 have m4:=m3.new 2 n2 (u:=.lst ((List.replicate ns.length 0).map V.int)) (by decide)
 generalize upd (upd G z1 (.lst [.int 0])) nn (.lst ((List.replicate ns.length 0).map V.int)) = G4 at m4
 refine ⟨_,rfl,x,_,dx,_,rfl,m4.ob,T.cl_Keeper,T.na_Keeper_next_numbers,(by show 1 < 1000; decide),?_⟩
 have m5:=m4.obj (fs':=putF "next_numbers" (.ref nn) (putF "held" (.ref he) []))
 dsimp only
 generalize upd G4 x (.ins t.a_Keeper dx (putF "next_numbers" (.ref nn) (putF "held" (.ref he) []))) = G5 at m5
 refine ⟨zs0,fun dn n3=>⟨_,rfl,x,_,dx,_,rfl,(m5.new 3 n3 (u:=.lst []) (by decide)).ob,T.cl_Keeper,T.na_Keeper_done,(by show 2 < 1000; decide),?_⟩⟩
 exact k _ _ he nn dn ((m5.new 3 n3 (u:=.lst []) (by decide)).obj)
def kp0 (ns:List Int) : Kp:=⟨ns,List.replicate ns.length 0,[],[],[],[],[]⟩
theorem ok_Keeper___init__ (T:Txt K mg t) : FnOk P w K mg base CX0 2 t.f_Keeper___init__ t.d_Keeper___init__ ["self","sums"] (fun vs H Q _=>∃ ρ id h x dx sa,∃ ns:List Int,vs = [.ref x,.ref sa] ∧ H x = some (.ins t.a_Keeper dx []) ∧ ρ x = some (id,.kp h 0) ∧ OkR ρ H ∧ H sa = some (.lst (ns.map V.int)) ∧ ns.length ≤ 1000 ∧
  ∀ ρ' H' A,KeepR t H' ρ' id h x A dx (kp0 ns) → Fr (isK id h) ρ H ρ' H' → OkR ρ' H' → Q .non H'):=by
 refine T.F_Keeper___init__.okB (N:=["self","sums"]) fun _ A _ s H vs Q E hr h=>?_
 obtain ⟨ρ,id,h,x,dx,sa,ns,rfl,hx,rx,kr,hs,ln,k⟩:=h
 refine ⟨_,(@pss_cons _ _ _ _ _ (ps_expr (pe_clsM rfl T.m_Book T.cm_Book___init__ (ok_Book___init__ T) hr.dn T.b_Book___init__ .nil pass0 (@pa_2 _ _ _ _ _ (pv 0) (pv 1) rfl rfl)))
  (@pss_cons _ _ _ _ _ (ps_fld (pv 0) pe_dnewT rfl)
  (@pss_cons _ _ _ _ _ (ps_fld (pv 0) (@pe_lst _ _ _ _ pa_nil) rfl)
  (@pss_cons _ _ _ _ _ (ps_fld (pv 0) pe_dnewT rfl)
  (@pss_one _ _ _ (ps_fld (pv 0) (@pe_lst _ _ _ _ pa_nil) rfl)))))),?_⟩
 refine ⟨_,rfl,_,rfl,ρ,id,h,x,dx,sa,ns,rfl,hx,rx,kr,hs,ln,fun ρ1 H1 he nn dn m1=>?_⟩
 refine fun hd n1=>⟨_,rfl,x,_,dx,_,rfl,(m1.new 4 n1 (u:=.dT []) (by decide)).ob,T.cl_Keeper,T.na_Keeper_heard,(by show 3 < 1000; decide),?_⟩
 have m2:=(m1.new 4 n1 (u:=.dT []) (by decide)).obj (fs':=putF "heard" (.ref hd) (bkf he nn dn))
 dsimp only
 generalize upd (upd H1 hd (.dT [])) x (.ins t.a_Keeper dx (putF "heard" (.ref hd) (bkf he nn dn))) = G2 at m2
 refine ⟨zs0,fun un n2=>⟨_,rfl,x,_,dx,_,rfl,(m2.new 5 n2 (u:=.lst []) (by decide)).ob,T.cl_Keeper,T.na_Keeper_unvoted,(by show 4 < 1000; decide),?_⟩⟩
 have m3:=(m2.new 5 n2 (u:=.lst []) (by decide)).obj (fs':=putF "unvoted" (.ref un) (putF "heard" (.ref hd) (bkf he nn dn)))
 dsimp only
 generalize upd (upd G2 un (.lst [])) x (.ins t.a_Keeper dx (putF "unvoted" (.ref un) (putF "heard" (.ref hd) (bkf he nn dn)))) = G3 at m3
 refine fun cs n3=>⟨_,rfl,x,_,dx,_,rfl,(m3.new 6 n3 (u:=.dT []) (by decide)).ob,T.cl_Keeper,T.na_Keeper_choices,(by show 5 < 1000; decide),?_⟩
 have m4:=(m3.new 6 n3 (u:=.dT []) (by decide)).obj (fs':=putF "choices" (.ref cs) (putF "unvoted" (.ref un) (putF "heard" (.ref hd) (bkf he nn dn))))
 dsimp only
 generalize upd (upd G3 cs (.dT [])) x (.ins t.a_Keeper dx (putF "choices" (.ref cs) (putF "unvoted" (.ref un) (putF "heard" (.ref hd) (bkf he nn dn))))) = G4 at m4
 refine ⟨zs0,fun wt n4=>⟨_,rfl,x,_,dx,_,rfl,(m4.new 7 n4 (u:=.lst []) (by decide)).ob,T.cl_Keeper,T.na_Keeper_waiting,(by show 6 < 1000; decide),?_⟩⟩
 have m5:=(m4.new 7 n4 (u:=.lst []) (by decide)).obj (fs':=kf he nn dn hd un cs wt)
 refine k _ _ (fun f=>match f with | 1=>he | 2=>nn | 3=>dn | 4=>hd | 5=>un | 6=>cs | _=>wt) ⟨m5.ob,m5.rx,fun f h1 h7=>?_⟩ m5.fr m5.kr
 have p:=m5.pk
 match f,h1,h7 with
 | 1,_,_=>exact ⟨(p.at_ 6 rfl).1,_,(p.at_ 6 rfl).2,rfl⟩
 | 2,_,_=>exact ⟨(p.at_ 5 rfl).1,_,(p.at_ 5 rfl).2,rfl⟩
 | 3,_,_=>exact ⟨(p.at_ 4 rfl).1,_,(p.at_ 4 rfl).2,[],rfl,.nil⟩
 | 4,_,_=>exact ⟨(p.at_ 3 rfl).1,_,(p.at_ 3 rfl).2,[],rfl,rfl⟩
 | 5,_,_=>exact ⟨(p.at_ 2 rfl).1,_,(p.at_ 2 rfl).2,[],rfl,.nil⟩
 | 6,_,_=>exact ⟨(p.at_ 1 rfl).1,_,(p.at_ 1 rfl).2,[],rfl,.nil⟩
 | 7,_,_=>exact ⟨(p.at_ 0 rfl).1,_,(p.at_ 0 rfl).2,[],rfl,.nil⟩
def CheatsU (K:W.Frag) (H:Hp) (ρ : Rho) (id:Nat) (a:Addr) (ks:List Int) : Prop:=(H a = some (.lst (ks.map V.int)) ∧ ∀ r,ρ a = some r → ¬ r.1 = id) ∨ (ks = [] ∧ ∃ (o:Obj) (its:Array Value) (n:Nat),K.lookup a = some o ∧ o.cls = .type "tuple" ∧ o.data = .seq its n ∧ its.size ≤ sizeLine ∧ Vals [] its.toList)
theorem CheatsU.at_ {K:W.Frag} {H:Hp} {ρ : Rho} {id:Nat} {a:Addr} {ks:List Int} (h:CheatsU K H ρ id a ks) : CheatsAt K H a ks:=h.imp (fun q=>q.1) (fun q=>⟨q.1,.inr q.2⟩)
theorem CheatsU.fr {K:W.Frag} {H H':Hp} {ρ ρ':Rho} {id:Nat} {a:Addr} {ks:List Int} (f:Fr (fun r=>r.1 = id) ρ H ρ' H') (h:CheatsU K H ρ id a ks) : CheatsAt K H' a ks:=by
 rcases h with ⟨h,n⟩ | ⟨e,h⟩
 ·exact .inl (f a _ h n).1
 ·exact .inr ⟨e,.inr h⟩
theorem KeepsR.fr' {t:Ad} {P:Role → Prop} {ρ ρ':Rho} {H H':Hp} {id:Nat} (f:Fr P ρ H ρ' H') : ∀ {kvs:List (Key × V)} {ks:List (Int × Kp)},(∀ c ∈ ks,∀ j,¬ P (id,.kp c.1 j)) → KeepsR t H ρ id kvs ks → KeepsR t H' ρ' id kvs ks
 | _,_,_,.nil=>.nil
 | _,c :: _,n,.cons ⟨e,k,A,dk,ek,q⟩ r=>.cons ⟨e,k,A,dk,ek,q.fr (n c List.mem_cons_self) f⟩ (KeepsR.fr' f (fun c' hc=>n c' (List.mem_cons_of_mem _ hc)) r)
def allI (id:Nat) : Role → Prop:=fun r=>r.1 = id
structure MkW (t:Ad) (ρ0:Rho) (H0:Hp) (id:Nat) (x dx:Addr) (fs:List (Str × V)) (ρ : Rho) (H:Hp) : Prop where
 ob:H x = some (.ins t.a_World dx fs)
 rx : ρ x = some (id,.x)
 fr:Fr (allI id) ρ0 H0 ρ H
 kr:OkR ρ H
section
variable {t:Ad} {ρ0 ρ ρ':Rho} {H0 H H':Hp} {id:Nat} {x dx:Addr} {fs fs':List (Str × V)} {P:Role → Prop}
theorem MkW.step (m:MkW t ρ0 H0 id x dx fs ρ H) (f:Fr P ρ H ρ' H') (n : ¬ P (id,.x)) (hP : ∀ r,P r → r.1 = id) (kr:OkR ρ' H') : MkW t ρ0 H0 id x dx fs ρ' H':=by
 obtain ⟨e,r⟩:=fr_at f m.ob m.rx n
 exact ⟨e,r,m.fr.trans (f.mono hP),kr⟩
theorem MkW.tmp (m:MkW t ρ0 H0 id x dx fs ρ H) (s:Same H H') : MkW t ρ0 H0 id x dx fs ρ H':=m.step (P:=fun _=>False) (Fr.same s) (fun z=>z) (fun _ z=>z.elim) (m.kr.same s)
theorem MkW.new {p:Addr} {u:HO} {r:Role} (m:MkW t ρ0 H0 id x dx fs ρ H) (n:H p = none) (hu:autoParam (noTup u) aP6) : MkW t ρ0 H0 id x dx fs (setR ρ p r) (upd H p u):=m.step (P:=fun _=>False) (Fr.newR n) (fun z=>z) (fun _ z=>z.elim) (m.kr.newR hu)
theorem MkW.obj (m:MkW t ρ0 H0 id x dx fs ρ H) : MkW t ρ0 H0 id x dx fs' ρ (upd H x (.ins t.a_World dx fs')):=⟨upd_same,m.rx,m.fr.trans (Fr.put m.rx rfl),m.kr.put⟩
theorem MkW.fo (m:MkW t ρ0 H0 id x dx fs ρ H) : Fr (isP id .x) ρ H ρ (upd H x (.ins t.a_World dx fs')):=Fr.put m.rx rfl
end
def crew (ls:List Int) (n:Nat) : List Int:=((List.range n).map fun (i:Nat)=>(i:Int)).filter fun i=>!decide (i ∈ ls)
def w0 (h f:Int) (ns cs ls:List Int) : Wd:=⟨ns.length,cs,(crew ls h.toNat).map fun i=>(i,kp0 ns),[],h - f,List.replicate ns.length [],[]⟩
structure Two (H:Hp) (ρ : Rho) (ch ly:Addr) (cs ls:List Int) : Prop where
 c:H ch = some (.lst (cs.map V.int)) ∧ ρ ch = none
 l:H ly = some (.lst (ls.map V.int)) ∧ ρ ly = none
theorem Two.fr {P:Role → Prop} {ρ ρ':Rho} {H H':Hp} {ch ly:Addr} {cs ls:List Int} (f:Fr P ρ H ρ' H') (h:Two H ρ ch ly cs ls) : Two H' ρ' ch ly cs ls:=⟨fr_un f h.c.1 h.c.2,fr_un f h.l.1 h.l.2⟩
theorem crew_snoc (ls:List Int) (n:Nat) : crew ls (n + 1) = crew ls n ++ if (n:Int) ∈ ls then [] else [(n:Int)]:=by
 unfold crew
 rw [List.range_succ,List.map_append,List.filter_append]
 congr 1
 by_cases z:(n:Int) ∈ ls
 ·rw [if_pos z]
  simp [z]
 ·rw [if_neg z]
  simp [z]
theorem crew_lt {ls:List Int} {n:Nat} {i:Int} (h:i ∈ crew ls n) : 0 ≤ i ∧ i < (n:Int) ∧ i ∉ ls:=by
 unfold crew at h
 obtain ⟨h1,h2⟩:=List.mem_filter.mp h
 obtain ⟨j,hj,rfl⟩:=List.mem_map.mp h1
 have:=List.mem_range.mp hj
 exact ⟨by omega,by omega,by simpa using h2⟩
theorem crew_len (ls:List Int) (n:Nat) : (crew ls n).length ≤ n:=by
 unfold crew
 refine Nat.le_trans (List.length_filter_le _ _) ?_
 rw [List.length_map,List.length_range]
 exact Nat.le_refl _
abbrev q2 (ns:List Int) : List (Str × V):=putF "total" (.int ns.sum) (putF "purses" (.int (ns.map V.int).length) [])
abbrev q3 (ns:List Int) (ly:Addr) : List (Str × V):=putF "lying" (.ref ly) (q2 ns)
abbrev q4 (ns:List Int) (ly ch:Addr) : List (Str × V):=putF "cheating" (.ref ch) (q3 ns ly)
abbrev q5 (ns:List Int) (ly ch D:Addr) : List (Str × V):=putF "keepers" (.ref D) (q4 ns ly ch)
abbrev q6 (ns:List Int) (ly ch D b:Addr) : List (Str × V):=putF "board" (.ref b) (q5 ns ly ch D)
abbrev q7 (ns:List Int) (ly ch D b ak:Addr) : List (Str × V):=putF "asked" (.ref ak) (q6 ns ly ch D b)
def sp_winit (K:PySem.W.Frag) (t:Ad) : Sp:=fun vs H Q _=>∃ ρ id x dx h f sa ns la ca cs ls,vs = [.ref x,.int h,.int f,.ref sa,.ref la,.ref ca] ∧ H x = some (.ins t.a_World dx []) ∧ ρ x = some (id,.x) ∧ OkR ρ H ∧ (1 ≤ h ∧ h ≤ 16) ∧ (0 ≤ f ∧ f ≤ 5) ∧ 3 * f < h ∧
 H sa = some (.lst ((ns:List Int).map V.int)) ∧ (∀ r,ρ sa = some r → ¬ allI id r) ∧ 2 ≤ ns.length ∧ ns.length ≤ 8 ∧ (∀ i ∈ ns,0 ≤ i ∧ i ≤ 1000) ∧ CheatsU K H ρ id la ls ∧ ls.Pairwise (· < ·) ∧ (∀ k ∈ ls,0 ≤ k ∧ k < h) ∧ (ls.length:Int) ≤ f ∧ CheatsU K H ρ id ca cs ∧ cs.Pairwise (· < ·) ∧ (∀ k ∈ cs,0 ≤ k ∧ k < (ns.length:Int)) ∧
 ∀ ρ' H' W,W.x = x → W.tot = ns.sum → WorldR t H' ρ' id W (w0 h f ns cs ls) → (H' W.ly = some (.lst (ls.map V.int)) ∧ ρ' W.ly = none) → Fr (allI id) ρ H ρ' H' → OkR ρ' H' → Q .non H'
set_option maxHeartbeats 0 in
theorem ok_World___init__ (T:Txt K mg t) : FnOk P w K mg base CX0 6 t.f_World___init__ t.d_World___init__ ["self","houses","few","sums","liars","cheats"] (sp_winit K t):=by
 refine T.F_World___init__.okB (N:=["self","houses","few","sums","liars","cheats"]) fun _ A _ s H vs Q E hr h=>?_
 obtain ⟨ρ,id,x,dx,h,f,sa,ns,la,ca,cs,ls,rfl,hx,rx,kr,h1,f1,lt,hs,nsa,l2,l8,rg,ula,upl,rgl,llf,uca,up,rgc,k⟩:=h
 have hla:=ula.at_
 have hca:=uca.at_
 refine ⟨_,(@pss_cons _ _ _ _ _ (ps_expr (pe_callK (ok_check_houses T) hr.dn rfl T.m_check_houses T.F_check_houses.kp T.bk0_check_houses pass0 (pa_more (pv 1) pa_nil) (pk_cons (pv 2) (pk_cons (pv 4) pk_nil))))
  (@pss_cons _ _ _ _ _ (ps_expr (pe_callK (ok_check_purses T) hr.dn rfl T.m_check_purses T.F_check_purses.kp T.bk0_check_purses pass0 (pa_more (pv 3) pa_nil) (pk_cons (pv 5) pk_nil)))
  (@pss_cons _ _ _ _ _ (ps_fld (pv 0) (pe_callB call_len_seq rfl T.n_len boot_len (pa_more (pv 3) pa_nil)) rfl)
  (@pss_cons _ _ _ _ _ (ps_fld (pv 0) (pe_callB (call_sum rfl) rfl T.n_sum boot_sum (pa_more (pv 3) pa_nil)) rfl)
  (@pss_cons _ _ _ _ _ (ps_fld (pv 0) (pe_callTy call_list_of rfl T.n_list boot_list (pa_more (pv 4) pa_nil)) rfl)
  (@pss_cons _ _ _ _ _ (ps_fld (pv 0) (pe_callTy call_list_of rfl T.n_list boot_list (pa_more (pv 5) pa_nil)) rfl)
  (@pss_cons _ _ _ _ _ (ps_fld (pv 0) (pe_dcomp (.dK []) (.inl rfl) (hu_of hr) (N':=["house","sums","liars"]) (ix:=[none,some 3,some 4]) (compOk_is (by kernel_rfl)) rfl (pi_range1 rfl T.n_range (pa_more (pv 1) pa_nil)) (fun _ _ _ _=>(pg_name (i:=0) nd_2 rfl (Or.inl rfl) (.inr rfl))) (fun _ _ _ _=>(pif_one (pt_cmpR (op_notIn_seqK (K:=K) rfl) (pv 0) (pv 2) (by with_unfolding_all rfl)))) (fun _ _ _ _=>(pv 0)) (fun _ _ _ _=>(pe_make T.mk_Keeper (ok_Keeper___init__ T) hr.dn rfl T.m_Keeper T.b_Keeper___init__ .nil pass0 (pa_more (pv 1) pa_nil)))) rfl)
  (@pss_cons _ _ _ _ _ (ps_fld (pv 0) (pe_make T.mk_Board (ok_Board___init__ T) hr.dn rfl T.m_Board T.b_Board___init__ .nil pass0 (pa_more (pe_callK (ok_enough_of T) hr.dn rfl T.m_enough_of T.F_enough_of.kp T.bk0_enough_of pass0 (pa_more (pv 1) pa_nil) (pk_cons (pv 2) pk_nil)) pa_nil)) rfl)
  (@pss_cons _ _ _ _ _ (ps_fld (pv 0) (pe_lcomp (N':=["each"]) (ix:=[none]) (compOk_is (by kernel_rfl)) rfl (@pi_list _ _ _ _ (pv 3)) (fun _ _ _ _=>(pg_name (i:=0) nd_1 rfl (Or.inl rfl) (.inr rfl))) (fun _ _ _ _=>pif_nil) (fun _ _ _ _=>(@pe_lst _ _ _ _ pa_nil))) rfl)
  (@pss_one _ _ _ (ps_fld (pv 0) (@pe_lst _ _ _ _ pa_nil) rfl))))))))))),?_⟩
 refine seqN fun N hN=>⟨_,rfl,_,rfl,_,rfl,h,f,la,ls,rfl,h1,f1,lt,hla,upl,rgl,llf,fun H1 s1=>?_⟩
 refine hN _ _ (seqN fun N hN=>⟨_,rfl,_,rfl,sa,ns,ca,cs,rfl,s1 _ _ hs,l2,l8,rg,hca.same s1,up,rgc,fun H2 s2=>?_⟩)
 have m2:MkW t ρ H id x dx [] ρ H2:=MkW.tmp ⟨hx,rx,Fr.refl,kr⟩ (s1.trans s2)
 have sa_ : ∀ {ρ' H' fs},MkW t ρ H id x dx fs ρ' H' → H' sa = some (.lst (ns.map V.int)):=fun m=>(m.fr _ _ hs nsa).1
 have la_ : ∀ {ρ' H' fs},MkW t ρ H id x dx fs ρ' H' → CheatsAt K H' la ls:=fun m=>ula.fr m.fr
 have ca_ : ∀ {ρ' H' fs},MkW t ρ H id x dx fs ρ' H' → CheatsAt K H' ca cs:=fun m=>uca.fr m.fr
 refine hN _ _ (seqN fun N hN=>⟨_,rfl,sa,_,rfl,.inl (SqL.of (sa_ m2)),_,rfl,x,_,dx,_,rfl,m2.ob,T.cl_World,T.na_World_purses,(by show 0 < 1000; decide),?_⟩)
 have m3:=m2.obj (fs':=putF "purses" (.int (ns.map V.int).length) [])
 dsimp only
 generalize upd H2 x (.ins t.a_World dx (putF "purses" (.int (ns.map V.int).length) [])) = G3 at m3
 refine hN _ _ (seqN fun N hN=>⟨_,rfl,sa,ns,rfl,SqL.of (sa_ m3),_,rfl,x,_,dx,_,rfl,m3.ob,T.cl_World,T.na_World_total,(by show 1 < 1000; decide),?_⟩)
 have m4:=m3.obj (fs':=q2 ns)
 dsimp only
 generalize upd G3 x (.ins t.a_World dx (q2 ns)) = G4 at m4
 refine hN _ _ (seqN fun N hN=>⟨_,rfl,la,_,rfl,(la_ m4).sq,fun ly nly=>?_⟩)
 have m5:=m4.tmp (same_upd (o:=.lst (ls.map V.int)) nly)
 have l5:upd G4 ly (.lst (ls.map V.int)) ly = some (.lst (ls.map V.int)) ∧ ρ ly = none:=⟨upd_same,m4.kr.none nly⟩
 refine ⟨_,rfl,x,_,dx,_,rfl,m5.ob,T.cl_World,T.na_World_lying,(by show 2 < 1000; decide),?_⟩
 have m6:=m5.obj (fs':=q3 ns ly)
 have l6:=fr_un (m5.fo (fs':=q3 ns ly)) l5.1 l5.2
 dsimp only
 generalize upd (upd G4 ly (.lst (ls.map V.int))) x (.ins t.a_World dx (q3 ns ly)) = G6 at m6 l6
 refine hN _ _ (seqN fun N hN=>⟨_,rfl,ca,_,rfl,(ca_ m6).sq,fun ch nch=>?_⟩)
 have m7:=m6.tmp (same_upd (o:=.lst (cs.map V.int)) nch)
 have c7:Two (upd G6 ch (.lst (cs.map V.int))) ρ ch ly cs ls:=⟨⟨upd_same,m6.kr.none nch⟩,fr_un (P:=fun _=>False) (Fr.same (same_upd nch)) l6.1 l6.2⟩
 refine ⟨_,rfl,x,_,dx,_,rfl,m7.ob,T.cl_World,T.na_World_cheating,(by show 3 < 1000; decide),?_⟩
 have m8:=m7.obj (fs':=q4 ns ly ch)
 have c8:=c7.fr (m7.fo (fs':=q4 ns ly ch))
 dsimp only
 generalize upd (upd G6 ch (.lst (cs.map V.int))) x (.ins t.a_World dx (q4 ns ly ch)) = G8 at m8 c8
 clear m2 m3 m4 m5 m6 m7 c7 nly nch l5 l6
 refine hN _ _ (seqN fun N hN=>⟨_,rfl,h,rfl,(by omega),(by omega),fun D nD=>?_⟩)
 have m9:=m8.new (r:=(id,.kd)) nD (u:=.dK [])
 have c9:Two (upd G8 D (.dK [])) (setR ρ D (id,.kd)) ch ly cs ls:=c8.fr (P:=fun _=>False) (Fr.newR nD)
 refine dc_range (lo:=0) (n:=h.toNat) (fun i σ H'=>∃ v kvs ρ',σ = [v,some (.ref sa),some (.ref la)] ∧ MkW t ρ H id x dx (q4 ns ly ch) ρ' H' ∧ Two H' ρ' ch ly cs ls ∧ ρ' D = some (id,.kd) ∧ H' D = some (.dK kvs) ∧ KeepsR t H' ρ' id kvs ((crew ls i).map fun i=>(i,kp0 ns))) ⟨none,[],_,rfl,m9,c9,setR_same,upd_same,.nil⟩ ?_ ?_
 ·rintro i σ H' hi ⟨v,kvs,ρ',rfl,m,hc,rD,hD,ks⟩
  have e0:(0:Int) + (i:Int) = i:=Int.zero_add _
  rw [e0]
  refine ⟨_,rfl,_,rfl,la,_,rfl,(la_ m).sq,rfl,flat_ints _,_,rfl,ite2 (fun zz=>?_) (fun zz=>?_)⟩
  rotate_left
  ·have nl:(i:Int) ∈ ls:=by
    rw [if_pos rfl,inV_ints] at zz
    simpa using zz
   refine ⟨_,kvs,ρ',rfl,m,hc,rD,hD,?_⟩
   rw [crew_snoc,if_pos nl,List.append_nil]
   exact ks
  have nl : ¬ (i:Int) ∈ ls:=by
   rw [if_pos rfl,inV_ints] at zz
   simpa using zz
  refine ⟨_,rfl,_,rfl,fun k dk nk ndk ne=>?_⟩
  have sk:Same H' (upd H' dk (.own k)):=same_upd ndk
  have nk1:upd H' dk (.own k) k = none:=by rw [upd_ne ne.symm]; exact nk
  have f1:Fr (fun _=>False) ρ' H' (setR ρ' k (id,.kp i 0)) (upd (upd H' dk (.own k)) k (.ins t.a_Keeper dk [])):=(Fr.same sk).trans (Fr.newR nk1)
  have kr1:OkR (setR ρ' k (id,.kp i 0)) (upd (upd H' dk (.own k)) k (.ins t.a_Keeper dk [])):=(m.kr.same sk).newR
  have m1:=m.step f1 (fun z=>z) (fun _ z=>z.elim) kr1
  refine ⟨_,id,(i:Int),k,dk,sa,ns,rfl,upd_same,setR_same,kr1,sa_ m1,by omega,fun ρ2 H2' A2 R2 f2 kr2=>⟨rfl,?_⟩⟩
  have f12:Fr (isK id i) ρ' H' ρ2 H2':=(f1.mono fun _ z=>z.elim).trans f2
  have nk2 : ∀ {p:Part},(∀ j,p ≠ .kp (i:Int) j) → ¬ isK id (i:Int) (id,p):=fun hp ⟨j,e⟩=>hp j (Prod.mk.inj e).2
  have mm:=m.step f12 (nk2 fun _ z=>by cases z) (fun r ⟨j,e⟩=>by rw [e]) kr2
  have hc2:=hc.fr f12
  obtain ⟨hD2,rD2⟩:=fr_at f12 hD rD (nk2 fun _ z=>by cases z)
  have ks2:KeepsR t H2' ρ2 id kvs ((crew ls i).map fun i=>(i,kp0 ns)):=KeepsR.fr' f12 (fun c hc j=>by
   obtain ⟨i',hi',rfl⟩:=List.mem_map.mp hc
   have:=crew_lt hi'
   refine nk2 fun j' z=>?_
   have:i' = (i:Int):=(Part.kp.inj z).1
   omega) ks
  have nv:valV kvs (.inl (i:Int)) = none:=by
   cases e:valV kvs (.inl (i:Int)) with
   | none=>rfl
   | some v=>
    exfalso
    have hm:=valV_in e
    obtain ⟨j,hj,ej⟩:=List.mem_iff_getElem.mp hm
    rw [List.length_map] at hj
    obtain ⟨c,ec,e1,_⟩:=paired_get ks2 (List.getElem?_eq_getElem hj)
    rw [List.getElem_map] at ej
    rw [e1] at ej
    obtain ⟨i',hi',rfl⟩:=List.mem_map.mp (List.mem_of_getElem? ec)
    have:=crew_lt hi'
    have:i' = (i:Int):=Sum.inl.inj ej
    omega
  have lk:kvs.length ≤ 1000:=by
   rw [Paired.length ks2,List.length_map]
   have:=crew_len ls i
   omega
  refine ⟨_,DPut.k (k:=.inl (i:Int)) hD2 (small1000 lk),?_⟩
  rw [putK_new _ nv]
  have f3:Fr (isP id .kd) ρ2 H2' ρ2 (upd H2' D (.dK (kvs ++ [(.inl (i:Int),.ref k)]))):=Fr.put rD2 rfl
  refine ⟨_,_,ρ2,rfl,mm.step f3 isP_ne (fun r e=>by rw [e]) kr2.put,hc2.fr f3,rD2,upd_same,?_⟩
  rw [crew_snoc,if_neg nl,List.map_append]
  exact paired_app (KeepsR.fr f3 (fun _ _=>isP_ne) ks2) ⟨rfl,k,A2,dk,rfl,R2.fr (fun _=>isP_ne) f3⟩
 ·rintro σ G10 ⟨v,kvs,ρ1,rfl,m10,c10,rD,hD,ks⟩
  clear m8 c8 m9 c9 nD
  refine ⟨_,rfl,x,_,dx,_,rfl,m10.ob,T.cl_World,T.na_World_keepers,(by show 4 < 1000; decide),?_⟩
  have m11:=m10.obj (fs':=q5 ns ly ch D)
  have fo11:=m10.fo (fs':=q5 ns ly ch D)
  have c11:=c10.fr fo11
  have k11:=kd_keep fo11 isP_ne (fun _ _=>isP_ne) rD ⟨kvs,hD,ks⟩
  dsimp only
  generalize upd G10 x (.ins t.a_World dx (q5 ns ly ch D)) = G11 at m11 c11 k11
  clear fo11 m10 c10
  refine hN _ _ (seqN fun N hN=>⟨_,rfl,_,rfl,h,f,rfl,fun b db nb ndb neb=>?_⟩)
  have sb:Same G11 (upd G11 db (.own b)):=same_upd ndb
  have nb1:upd G11 db (.own b) b = none:=by rw [upd_ne neb.symm]; exact nb
  refine ⟨b,db,h - f,rfl,upd_same,fun S G12 nS B fr=>⟨rfl,?_⟩⟩
  have nS0:G11 S = none:=by
   have nSb:S ≠ b:=fun z=>by rw [z,upd_same] at nS; cases nS
   rw [upd_ne nSb] at nS
   exact sb.free nS
  have s12:Same G11 G12:=fun c u e=>fr _ _ (by rw [upd_ne (ne_of_none (sb _ _ e) nb1)]; exact sb _ _ e) (ne_of_none e nb)
  have bS:b ≠ S:=ne_of B.ob B.sg (by intro z; cases z)
  have f12:Fr (fun _=>False) ρ1 G11 (setR (setR ρ1 b (id,.bd)) S (id,.sd)) G12:=fun a u e _=>⟨s12 _ _ e,by rw [setR_ne (ne_of_none e nS0),setR_ne (ne_of_none e nb)]⟩
  have kr12:OkR (setR (setR ρ1 b (id,.bd)) S (id,.sd)) G12:=fun a r e=>by
   by_cases z:a = S
   ·subst z
    exact ⟨_,B.sg,True.intro⟩
   ·rw [setR_ne z] at e
    by_cases y:a = b
    ·subst y
     exact ⟨_,B.ob,True.intro⟩
    ·rw [setR_ne y] at e
     obtain ⟨u,hu,nu⟩:=m11.kr a r e
     exact ⟨u,s12 _ _ hu,nu⟩
  have m12:=m11.step f12 (fun z=>z) (fun _ z=>z.elim) kr12
  have c12:=c11.fr f12
  have k12:=kd_keep f12 (fun z=>z) (fun _ _ z=>z) k11.1 k11.2
  have b12:(setR (setR ρ1 b (id,.bd)) S (id,.sd)) b = some (id,.bd) ∧ (setR (setR ρ1 b (id,.bd)) S (id,.sd)) S = some (id,.sd) ∧ ∃ kvs,BoardAt t G12 b db S (h - f) kvs (thP []) ∧ SigR (setR (setR ρ1 b (id,.bd)) S (id,.sd)) id kvs:=⟨by rw [setR_ne bS,setR_same],setR_same,[],B,fun _ z=>by cases z⟩
  generalize setR (setR ρ1 b (id,.bd)) S (id,.sd) = ρ2 at m12 c12 k12 b12 kr12 f12
  clear m11 c11 k11 f12 kr12
  refine ⟨_,rfl,x,_,dx,_,rfl,m12.ob,T.cl_World,T.na_World_board,(by show 5 < 1000; decide),?_⟩
  have m13:=m12.obj (fs':=q6 ns ly ch D b)
  have fo:=m12.fo (fs':=q6 ns ly ch D b)
  have c13:=c12.fr fo
  have k13:=kd_keep fo isP_ne (fun _ _=>isP_ne) k12.1 k12.2
  have b13:=bd_keep fo isP_ne isP_ne isP_ne b12.1 b12.2.1 b12.2.2
  dsimp only
  generalize upd G12 x (.ins t.a_World dx (q6 ns ly ch D b)) = G13 at m13 c13 k13 b13
  clear m12 c12 k12 b12 fo
  have hsa:=sa_ m13
  refine hN _ _ (seqN fun N hN=>⟨_,rfl,sa,rfl,⟨_,SqL.of hsa⟩,lc_list (K:=K) (a:=sa) (xs:=ns.map V.int) (fun i ys σ H'=>∃ v rr ρ',σ = [v] ∧ ys = rr.map V.ref ∧ rr.length = i ∧ MkW t ρ H id x dx (q6 ns ly ch D b) ρ' H' ∧ Fr (fun _=>False) ρ2 G13 ρ' H' ∧ ∀ (j:Nat) r,rr[j]? = some r → ρ' r = some (id,.row j) ∧ H' r = some (.lst [])) ⟨none,[],ρ2,rfl,rfl,rfl,m13,Fr.refl,fun j r e=>by cases e⟩ ?_ ?_ ?_⟩)
  ·rintro i ys σ H' hi ⟨v,rr,ρ',rfl,rfl,lr,mm,ff,hrr⟩
   rw [List.length_map] at hi
   refine ⟨SqL.of (sa_ mm),len1000 ?_⟩
   rw [List.length_map]
   omega
  ·rintro i y ys σ H' hy ⟨v,rr,ρ',rfl,rfl,lr,mm,ff,hrr⟩
   dsimp only [gName,tYes]
   rw [if_pos rfl]
   refine ⟨zs0,fun p np=>⟨_,rr ++ [p],setR ρ' p (id,.row i),rfl,?_,?_,mm.new np,ff.trans (Fr.newR np),fun j r e=>?_⟩⟩
   ·rw [List.map_append]; rfl
   ·rw [List.length_append,lr]; rfl
   ·by_cases z:j < rr.length
    ·rw [List.getElem?_append_left z] at e
     obtain ⟨q1,q2⟩:=hrr j r e
     have:r ≠ p:=ne_of_none q2 np
     exact ⟨by rw [setR_ne this]; exact q1,by rw [upd_ne this]; exact q2⟩
    ·rw [List.getElem?_append_right (by omega)] at e
     have j0:j = rr.length:=by
      have:=(List.getElem?_eq_some_iff.mp e).1
      simp at this
      omega
     subst j0
     rw [Nat.sub_self] at e
     cases e
     rw [lr]
     exact ⟨setR_same,upd_same⟩
  ·rintro ys σ H' ⟨v,rr,ρ3,rfl,rfl,lr,m14,f14,hrr⟩ ak nak
   rw [List.length_map] at lr
   have c14:=c13.fr f14
   have k14:=kd_keep f14 (fun z=>z) (fun _ _ z=>z) k13.1 k13.2
   have b14:=bd_keep f14 (fun z=>z) (fun z=>z) (fun z=>z) b13.1 b13.2.1 b13.2.2
   have f15:Fr (fun _=>False) ρ3 H' (setR ρ3 ak (id,.ak)) (upd H' ak (.lst (rr.map V.ref))):=Fr.newR nak
   have m15:=m14.new (r:=(id,.ak)) nak (u:=.lst (rr.map V.ref))
   have c15:=c14.fr f15
   have k15:=kd_keep f15 (fun z=>z) (fun _ _ z=>z) k14.1 k14.2
   have b15:=bd_keep f15 (fun z=>z) (fun z=>z) (fun z=>z) b14.1 b14.2.1 b14.2.2
   have a15:(setR ρ3 ak (id,.ak)) ak = some (id,.ak) ∧ ∃ rs,upd H' ak (.lst (rr.map V.ref)) ak = some (.lst (rs.map V.ref)) ∧ RowsR (upd H' ak (.lst (rr.map V.ref))) (setR ρ3 ak (id,.ak)) id rs (List.replicate ns.length []):=by
    refine ⟨setR_same,rr,upd_same,by rw [lr,List.length_replicate],fun i r os e1 e2=>?_⟩
    obtain ⟨q1,q2⟩:=hrr i r e1
    obtain ⟨q3,q4⟩:=fr_at f15 q2 q1 (fun z=>z)
    have:os = []:=List.eq_of_mem_replicate (List.mem_of_getElem? e2)
    subst this
    exact ⟨q4,[],q3,.nil⟩
   generalize setR ρ3 ak (id,.ak) = ρ4 at f15 m15 c15 k15 b15 a15
   refine ⟨_,rfl,x,_,dx,_,rfl,m15.ob,T.cl_World,T.na_World_asked,(by show 6 < 1000; decide),?_⟩
   have m16:=m15.obj (fs':=q7 ns ly ch D b ak)
   have fo:=m15.fo (fs':=q7 ns ly ch D b ak)
   have c16:=c15.fr fo
   have k16:=kd_keep fo isP_ne (fun _ _=>isP_ne) k15.1 k15.2
   have b16:=bd_keep fo isP_ne isP_ne isP_ne b15.1 b15.2.1 b15.2.2
   have a16:=ak_keep fo isP_ne (fun _=>isP_ne) a15.1 a15.2
   dsimp only
   generalize upd (upd H' ak (.lst (rr.map V.ref))) x (.ins t.a_World dx (q7 ns ly ch D b ak)) = G16 at m16 c16 k16 b16 a16
   refine hN _ _ ⟨zs0,fun wy nwy=>?_⟩
   have f17:Fr (fun _=>False) ρ4 G16 (setR ρ4 wy (id,.wy)) (upd G16 wy (.lst [])):=Fr.newR nwy
   have m17:=m16.new (r:=(id,.wy)) nwy (u:=.lst [])
   have c17:=c16.fr f17
   have k17:=kd_keep f17 (fun z=>z) (fun _ _ z=>z) k16.1 k16.2
   have b17:=bd_keep f17 (fun z=>z) (fun z=>z) (fun z=>z) b16.1 b16.2.1 b16.2.2
   have a17:=ak_keep f17 (fun z=>z) (fun _ z=>z) a16.1 a16.2
   refine ⟨_,rfl,x,_,dx,_,rfl,m17.ob,T.cl_World,T.na_World_on_way,(by show 7 < 1000; decide),?_⟩
   have m18:=m17.obj (fs':=wof (ns.map V.int).length ns.sum ly ch D b ak wy)
   have fo18:=m17.fo (fs':=wof (ns.map V.int).length ns.sum ly ch D b ak wy)
   have c18:=c17.fr fo18
   have k18:=kd_keep fo18 isP_ne (fun _ _=>isP_ne) k17.1 k17.2
   have b18:=bd_keep fo18 isP_ne isP_ne isP_ne b17.1 b17.2.1 b17.2.2
   have a18:=ak_keep fo18 isP_ne (fun _=>isP_ne) a17.1 a17.2
   have y18:=wy_keep (way:=[]) fo18 isP_ne setR_same ⟨[],upd_same,.nil⟩
   refine k _ _ ⟨x,dx,ns.sum,ly,ch,D,b,ak,wy,db,S⟩ rfl rfl ⟨⟨?_,m18.rx⟩,c18.c,k18,b18,a18,y18⟩ c18.l m18.fr m18.kr
   refine (m18.ob).trans ?_
   show some (HO.ins t.a_World dx (wof ((ns.map V.int).length:Int) ns.sum ly ch D b ak wy)) = some (HO.ins t.a_World dx (wof (ns.length:Int) ns.sum ly ch D b ak wy))
   rw [List.length_map]
theorem ok_World_check_liar (T:Txt K mg t) : FnOk P w K mg base CX0 3 t.f_World_check_liar t.d_World_check_liar ["self","liar"] (fun vs H Q _=>∃ ρ id W ω h ls,vs = [.ref W.x,.int h] ∧ WorldR t H ρ id W ω ∧ H W.ly = some (.lst ((ls:List Int).map V.int)) ∧ h ∈ ls ∧ Q .non H):=by
 refine T.F_World_check_liar.okB (N:=["self","liar"]) fun _ A _ s H vs Q E hr h=>?_
 obtain ⟨ρ,id,W,ω,h,ls,rfl,O,hl,hm,g⟩:=h
 refine ⟨_,(@pss_one _ _ _ (ps_if (PW.pt (pw_or (pt_not (pt_val (pe_call (ok_is_whole T) hr.dn rfl T.m_is_whole T.F_is_whole.kp T.b_is_whole .nil pass0 (pa_more (pv 1) pa_nil)))) (pw_or1 (pt_cmpR op_notIn_seq (pv 1) (pe_fld (pv 0) rfl) (by with_unfolding_all rfl))))) pss_never pss_nil)),?_⟩
 refine ⟨_,rfl,h,rfl,_,rfl,iteF ?_⟩
 refine ⟨_,rfl,_,rfl,W.x,_,W.dx,_,_,rfl,O.ob.1,T.cl_World,T.na_World_lying,wof_lying,W.ly,_,rfl,.inl (SqL.of hl),rfl,flat_ints _,_,rfl,?_⟩
 rw [if_pos rfl,inV_ints,decide_eq_true hm]
 exact iteF g
theorem tupsI_ord {K:W.Frag} {H:Hp} {ρ : Rho} {xs:List V} {os:List O} (p:Paired (OrdU H ρ) xs os) : Paired (TupI K H) xs (os.map ordI):=by
 induction p with
 | nil=>exact .nil
 | cons h _ ih=>
  obtain ⟨a,e,_,q⟩:=h
  exact .cons ⟨a,e,SqT.of q⟩ ih
def Wd.may (ω : Wd) (o:O) : Prop:=o.p ∈ ω.cheats ∨ ∃ row,ω.asked[o.p.toNat]? = some row ∧ o ∈ row
theorem ok_World_lie (T:Txt K mg t) : FnOk P w K mg base CX0 6 t.f_World_lie t.d_World_lie ["self","liar","order"] (fun vs H Q _=>∃ ρ id W ω h q o ls a b c,vs = [.ref W.x,.int h,.ref q] ∧ WorldR t H ρ id W ω ∧ OkR ρ H ∧ H W.ly = some (.lst ((ls:List Int).map V.int)) ∧ h ∈ ls ∧ OrdU H ρ (.ref q) o ∧ isOrd ω.n o = true ∧ ω.may o ∧ Sz ω a b c ∧ a + 1 ≤ 1000 ∧ b + 1 ≤ 1000 ∧ c + 16 ≤ 100000 ∧
  ∀ ρ' H',WorldR t H' ρ' id W (ω.votes h [o]) → Fr (isVt id) ρ H ρ' H' → OkR ρ' H' → Q .non H'):=by
 refine T.F_World_lie.okB (N:=["self","liar","order"]) fun _ A _ s H vs Q E hr h=>?_
 obtain ⟨ρ,id,W,ω,h,q,o,ls,a,b,c,rfl,O,kr,hl,hm,uq,ho,may,sz,la,lb,lc,g⟩:=h
 refine ⟨_,(@pss_cons _ _ _ _ _ (ps_expr (pe_meth (pv 0) T.cl_World T.mt_World_check_liar (ok_World_check_liar T) hr.dn T.b_World_check_liar .nil pass0 (pa_more (pv 1) pa_nil)))
  (@pss_cons _ _ _ _ _ (ps_expr (pe_meth (pv 0) T.cl_World T.mt_World_check_order (ok_World_check_order T) hr.dn T.b_World_check_order .nil pass0 (pa_more (pv 2) pa_nil)))
  (@pss_cons _ _ _ _ _ (ps_if (PW.pt (pw_and (pt_cmpR op_notIn_seq (pe_ix ix_tup (pv 2) pe_int (fun _ _=>rfl)) (pe_fld (pv 0) rfl) (by with_unfolding_all rfl)) (pw_and1 (pt_cmpR (op_notInT hr.units) (pv 2) (pe_ix ix_list (pe_fld (pv 0) rfl) (pe_ix ix_tup (pv 2) pe_int (fun _ _=>rfl)) (fun _ _=>rfl)) (by with_unfolding_all rfl))))) pss_never pss_nil)
  (@pss_one _ _ _ (ps_expr (pe_meth (pv 0) T.cl_World T.mt_World_put_votes (ok_World_put_votes T) hr.dn T.b_World_put_votes .nil pass0 (@pa_2 _ _ _ _ _ (pv 1) (@pe_lst _ _ _ _ (pa_more (pv 2) pa_nil)) rfl rfl))))))),?_⟩
 have uq':=uq
 obtain ⟨_,eq,nq,hq⟩:=uq'
 cases eq
 refine ⟨_,rfl,W.x,W.dx,_,rfl,O.ob.1,wof_no,_,rfl,ρ,id,W,ω,h,ls,rfl,O,hl,hm,?_⟩
 refine ⟨_,rfl,W.x,W.dx,_,rfl,O.ob.1,wof_no,_,rfl,ρ,id,W,ω,q,o,rfl,O,hq,ho,?_⟩
 refine ⟨_,rfl,q,ordV o,0,.int o.p,rfl,rfl,SqT.of hq,rfl,_,rfl,W.x,_,W.dx,_,_,rfl,O.ob.1,T.cl_World,T.na_World_cheating,wof_cheating,W.ch,_,rfl,.inl (SqL.of O.ch.1),rfl,flat_ints _,_,rfl,?_⟩
 rw [if_pos rfl,inV_ints]
 refine ite2 (fun z=>?_) (fun _=>iteF ?_)
 rotate_left
 ·refine ⟨_,rfl,W.x,W.dx,_,rfl,O.ob.1,wof_no,_,rfl,_,rfl,zs1,fun L nL=>?_⟩
  have s1:=same_upd (o:=.lst [.ref q]) nL
  refine ⟨ρ,id,W,ω,h,L,[.ref q],[o],a,b,c,rfl,O.fr (P:=fun _=>False) (fun _ z=>z) (Fr.same s1),kr.same s1,upd_same,fun ro e=>?_,.cons (uq.fr (P:=fun _=>False) (Fr.same s1)) .nil,sz,la,lb,lc,fun ρ' H' O' f' kr'=>g ρ' H' O' ((Fr.same s1).trans f') kr'⟩
  rw [kr.none nL] at e
  cases e
 have nc:o.p ∉ ω.cheats:=by simpa using z
 obtain ⟨row,er,om⟩ : ∃ row,ω.asked[o.p.toNat]? = some row ∧ o ∈ row:=may.resolve_left nc
 obtain ⟨ra,rs,ha,hrows⟩:=O.ak
 obtain ⟨r,ers⟩ : ∃ r,rs[o.p.toNat]? = some r:=⟨_,List.getElem?_eq_getElem (by rw [hrows.1]; exact (List.getElem?_eq_some_iff.mp er).1)⟩
 obtain ⟨rr,xs,hr0,px⟩:=hrows.2 _ _ _ ers er
 have p0 : 0 ≤ o.p:=(isOrd_iff.mp ho).1
 refine ⟨_,rfl,_,rfl,W.x,_,W.dx,_,_,rfl,O.ob.1,T.cl_World,T.na_World_asked,wof_asked,_,rfl,q,ordV o,0,.int o.p,rfl,rfl,SqT.of hq,rfl,W.ak,_,o.p,.ref r,rfl,rfl,SqL.of ha,atI_of p0 (by rw [List.getElem?_map,ers]; rfl),?_⟩
 refine ⟨r,xs,ordI o,row.map ordI,rfl,SqL.of hr0,⟨q,rfl,SqT.of hq⟩,tupsI_ord px,_,rfl,?_⟩
 rw [if_pos rfl,decide_eq_true (List.mem_map_of_mem om)]
 refine iteF ?_
 refine ⟨_,rfl,W.x,W.dx,_,rfl,O.ob.1,wof_no,_,rfl,_,rfl,zs1,fun L nL=>?_⟩
 have s1:=same_upd (o:=.lst [.ref q]) nL
 refine ⟨ρ,id,W,ω,h,L,[.ref q],[o],a,b,c,rfl,O.fr (P:=fun _=>False) (fun _ z=>z) (Fr.same s1),kr.same s1,upd_same,fun ro e=>?_,.cons (uq.fr (P:=fun _=>False) (Fr.same s1)) .nil,sz,la,lb,lc,fun ρ' H' O' f' kr'=>g ρ' H' O' ((Fr.same s1).trans f') kr'⟩
 rw [kr.none nL] at e
 cases e
theorem nodup_len {α : Type} [DecidableEq α] : ∀ {xs ys:List α},xs.Nodup → (∀ x ∈ xs,x ∈ ys) → xs.length ≤ ys.length
 | [],_,_,_=>Nat.zero_le _
 | x :: xs,ys,nd,h=>by
  rw [List.nodup_cons] at nd
  have hx:=h x List.mem_cons_self
  have:=nodup_len (xs:=xs) (ys:=ys.erase x) nd.2 fun y hy=>(List.mem_erase_of_ne (fun z=>nd.1 (by rw [← z]; exact hy))).mpr (h y (List.mem_cons_of_mem _ hy))
  rw [List.length_erase_of_mem hx] at this
  have:=List.length_pos_of_mem hx
  rw [List.length_cons]
  omega
theorem gvS_sum (κ : Kp) (o:O) (a:Gv) : (gvS κ o a).1.length + (gvS κ o a).2.2.length ≤ a.1.length + a.2.2.length + 1:=by
 unfold gvS
 split
 ·simp; omega
 ·split
  ·simp; omega
  ·omega
theorem gv_sum (κ : Kp) : ∀ (os:List O) (a:Gv),(gv κ os a).1.length + (gv κ os a).2.2.length ≤ a.1.length + a.2.2.length + os.length
 | [],a=>by simp [gv]
 | o :: os,a=>by
  have h1:=gv_sum κ os (gvS κ o a)
  have h2:=gvS_sum κ o a
  unfold gv at h1 ⊢
  rw [List.foldl_cons,List.length_cons]
  omega
theorem gv_votes (κ : Kp) {P:O → Prop} : ∀ (os:List O) (a:Gv),(∀ o ∈ os,P o) → (∀ o ∈ a.2.1,P o) → ∀ o ∈ (gv κ os a).2.1,P o
 | [],a,_,h=>h
 | o :: os,a,h1,h2=>by
  unfold gv
  rw [List.foldl_cons]
  refine gv_votes κ os _ (fun o' h=>h1 o' (List.mem_cons_of_mem _ h)) ?_
  unfold gvS
  split
  ·intro o' h
   rcases List.mem_append.mp h with h | h
   ·exact h2 o' h
   ·rw [List.mem_singleton.mp h]
    exact h1 o List.mem_cons_self
  ·split
   ·exact h2
   ·exact h2
structure KIn (L:List O) (m n:Nat) (κ : Kp) : Prop where
 ok : κ.Ok n
 sz:KSz κ m
 u : ∀ o ∈ κ.unv,o ∈ L
 w : ∀ o ∈ κ.wait,o ∈ L
theorem KIn.votes {L:List O} {m n:Nat} {κ : Kp} (k:KIn L m n κ) : KIn L m n κ.votes.1 ∧ (∀ o ∈ κ.votes.2,o ∈ L) ∧ κ.votes.2.length ≤ m:=by
 refine ⟨⟨k.ok.votes,⟨k.sz.hd,?_,k.sz.dw⟩,gv_later κ κ.unv _ k.u (fun o h=>by cases h),k.w⟩,gv_votes κ κ.unv _ k.u (fun o h=>by cases h),?_⟩
 ·have h1:=gv_sum κ κ.unv (κ.cho,[],[])
  have h2:=k.sz.uc
  show (gv κ κ.unv (κ.cho,[],[])).2.2.length + (gv κ κ.unv (κ.cho,[],[])).1.length ≤ m
  simp at h1
  omega
 ·have h1:=(gv_len κ κ.unv (κ.cho,[],[])).2.1
  have h2:=k.sz.uc
  show (gv κ κ.unv (κ.cho,[],[])).2.1.length ≤ m
  simp at h1
  omega
theorem KIn.go {L:List O} {m n:Nat} : ∀ {j:Nat} {κ : Kp},KIn L m n κ → KIn L m n (Kp.go j κ)
 | 0,_,k=>k
 | j + 1,κ,k=>by
  unfold Kp.go
  cases e : κ.first with
  | none=>exact k
  | some o=>
   have om:=first_mem e
   have l2:(κ.step o).wait.length = κ.wait.length - 1:=List.length_erase_of_mem om
   have l1:(κ.step o).done.length = κ.done.length + 1:=by show (κ.done ++ [o]).length = _; rw [List.length_append]; rfl
   have:=List.length_pos_of_mem om
   have:=k.sz.dw
   exact KIn.go (κ:=κ.step o) ⟨k.ok.step o,⟨k.sz.hd,k.sz.uc,by omega⟩,k.u,fun o' h=>k.w o' (List.mem_of_mem_erase h)⟩
theorem KIn.mono {L L':List O} {m m' n:Nat} {κ : Kp} (k:KIn L m n κ) (h1 : ∀ o ∈ L,o ∈ L') (h2:m ≤ m') : KIn L' m' n κ:=⟨k.ok,⟨Nat.le_trans k.sz.hd h2,Nat.le_trans k.sz.uc h2,Nat.le_trans k.sz.dw h2⟩,fun o h=>h1 o (k.u o h),fun o h=>h1 o (k.w o h)⟩
theorem KIn.take {L:List O} {m n:Nat} {κ : Kp} (k:KIn L m n κ) (b:Bool) {o:O} (ol:o ∈ L) (ho:isOrd n o = true) : KIn L (m + 1) n (κ.take b o).1 ∧ (∀ o' ∈ (κ.take b o).2,o' ∈ L) ∧ (κ.take b o).2.length ≤ m + 1:=by
 have h1:=k.sz.hd
 have h2:=k.sz.uc
 have h3:=k.sz.dw
 have nil_:KIn L (m + 1) n κ ∧ (∀ o' ∈ ([] : List O),o' ∈ L) ∧ ([] : List O).length ≤ m + 1:=⟨k.mono (fun _ h=>h) (by omega),(fun _ z=>by cases z),Nat.zero_le _⟩
 unfold Kp.take
 split
 ·unfold Kp.hear
  split
  ·exact nil_
  ·refine KIn.votes (m:=m + 1) ⟨⟨k.ok.h,k.ok.x,fun u hu=>?_,k.ok.w,k.ok.nd⟩,⟨by show (κ.heard ++ [o]).length ≤ m + 1; rw [List.length_append]; show κ.heard.length + 1 ≤ m + 1; omega,by show (κ.unv ++ [o]).length + κ.cho.length ≤ m + 1; rw [List.length_append]; show κ.unv.length + 1 + κ.cho.length ≤ m + 1; omega,by show κ.done.length + κ.wait.length ≤ m + 1; omega⟩,fun u hu=>?_,k.w⟩
   ·rcases List.mem_append.mp hu with hu | hu
    ·exact k.ok.u u hu
    ·rw [List.mem_singleton.mp hu]; exact ho
   ·rcases List.mem_append.mp hu with hu | hu
    ·exact k.u u hu
    ·rw [List.mem_singleton.mp hu]; exact ol
 ·unfold Kp.paper
  split
  ·exact nil_
  ·rename_i nz
   have no : ¬ o ∈ κ.wait:=fun z=>nz (by rw [decide_eq_true z,Bool.or_true])
   refine KIn.votes (m:=m + 1) (KIn.go ⟨⟨k.ok.h,k.ok.x,k.ok.u,fun u hu=>?_,?_⟩,⟨by show κ.heard.length ≤ m + 1; omega,by show κ.unv.length + κ.cho.length ≤ m + 1; omega,by show κ.done.length + (κ.wait ++ [o]).length ≤ m + 1; rw [List.length_append]; show κ.done.length + (κ.wait.length + 1) ≤ m + 1; omega⟩,k.u,fun u hu=>?_⟩)
   ·rcases List.mem_append.mp hu with hu | hu
    ·exact k.ok.w u hu
    ·rw [List.mem_singleton.mp hu]; exact ho
   ·exact List.nodup_append.mpr ⟨k.ok.nd,by simp,fun x hx y hy e=>by rw [List.mem_singleton.mp hy] at e; subst e; exact no hx⟩
   ·rcases List.mem_append.mp hu with hu | hu
    ·exact k.w u hu
    ·rw [List.mem_singleton.mp hu]; exact ol
structure BIn (L:List O) (hs:List Int) (is:IThings) : Prop where
 nd:(is.map (·.1)).Nodup
 ks : ∀ x ∈ is,∃ o ∈ L,x.1 = ordI o
 hn : ∀ x ∈ is,x.2.Nodup ∧ ∀ h ∈ x.2,h ∈ hs
theorem sign_keys {k:List Int} {h:Int} : ∀ {is:IThings} {y:List Int},y ∈ (signI is k h).map (·.1) → y ∈ is.map (·.1) ∨ y = k
 | [],y,hy=>.inr (List.mem_singleton.mp hy)
 | p :: ps,y,hy=>by
  unfold signI at hy
  split at hy
  ·rw [List.map_cons,List.mem_cons] at hy ⊢
   exact .inl hy
  ·rw [List.map_cons,List.mem_cons] at hy ⊢
   rcases hy with hy | hy
   ·exact .inl (.inl hy)
   ·rcases sign_keys hy with h | h
    ·exact .inl (.inr h)
    ·exact .inr h
theorem BIn.sign {L:List O} {hs:List Int} {o:O} {h:Int} (ol:o ∈ L) (hh:h ∈ hs) : ∀ {is:IThings},BIn L hs is → h ∉ housesI is (ordI o) → BIn L hs (signI is (ordI o) h)
 | [],_,_=>⟨by simp [signI],fun x hx=>by rw [List.mem_singleton.mp hx]; exact ⟨o,ol,rfl⟩,fun x hx=>by rw [List.mem_singleton.mp hx]; exact ⟨by simp,fun y hy=>by rw [List.mem_singleton.mp hy]; exact hh⟩⟩
 | p :: ps,b,hn=>by
  have bt:BIn L hs ps:=⟨(List.nodup_cons.mp b.nd).2,fun x hx=>b.ks x (List.mem_cons_of_mem _ hx),fun x hx=>b.hn x (List.mem_cons_of_mem _ hx)⟩
  unfold signI
  unfold housesI at hn
  split
  ·rename_i z
   rw [if_pos z] at hn
   refine ⟨b.nd,fun x hx=>?_,fun x hx=>?_⟩
   ·rcases List.mem_cons.mp hx with rfl | hx
    ·exact b.ks p List.mem_cons_self
    ·exact bt.ks x hx
   ·rcases List.mem_cons.mp hx with rfl | hx
    ·obtain ⟨q1,q2⟩:=b.hn p List.mem_cons_self
     refine ⟨List.nodup_append.mpr ⟨q1,by simp,fun x1 hx1 y1 hy1 e=>by rw [List.mem_singleton.mp hy1] at e; subst e; exact hn hx1⟩,fun y hy=>?_⟩
     rcases List.mem_append.mp hy with hy | hy
     ·exact q2 y hy
     ·rw [List.mem_singleton.mp hy]; exact hh
    ·exact bt.hn x hx
  ·rename_i z
   rw [if_neg z] at hn
   have ih:=bt.sign ol hh hn
   refine ⟨?_,fun x hx=>?_,fun x hx=>?_⟩
   ·rw [List.map_cons,List.nodup_cons]
    refine ⟨fun y=>?_,ih.nd⟩
    rcases sign_keys y with y | y
    ·exact (List.nodup_cons.mp b.nd).1 y
    ·exact z y
   ·rcases List.mem_cons.mp hx with rfl | hx
    ·exact b.ks _ List.mem_cons_self
    ·exact ih.ks x hx
   ·rcases List.mem_cons.mp hx with rfl | hx
    ·exact b.hn _ List.mem_cons_self
    ·exact ih.hn x hx
theorem BIn.len {L:List O} {hs:List Int} {is:IThings} (b:BIn L hs is) : is.length ≤ L.length ∧ ∀ x ∈ is,x.2.length ≤ hs.length:=by
 refine ⟨?_,fun x hx=>nodup_len (b.hn x hx).1 (b.hn x hx).2⟩
 have:=nodup_len (ys:=L.map ordI) b.nd fun y hy=>by
  obtain ⟨x,hx,rfl⟩:=List.mem_map.mp hy
  obtain ⟨o,ol,e⟩:=b.ks x hx
  rw [e]
  exact List.mem_map_of_mem ol
 rwa [List.length_map,List.length_map] at this
structure Wd.Like (ω ω':Wd) : Prop where
 n : ω'.n = ω.n
 c : ω'.cheats = ω.cheats
 k : ω'.ks = ω.ks
 e : ω'.en = ω.en
 a : ω'.asked = ω.asked
theorem Wd.Like.trans {a b c:Wd} (x:a.Like b) (y:b.Like c) : a.Like c:=⟨y.n.trans x.n,y.c.trans x.c,y.k.trans x.k,y.e.trans x.e,y.a.trans x.a⟩
theorem put_like (ω : Wd) (h:Int) (o:O) : ω.Like (ω.put h o).1:=by
 unfold Wd.put
 split
 ·exact ⟨rfl,rfl,rfl,rfl,rfl⟩
 ·exact ⟨rfl,rfl,rfl,rfl,rfl⟩
theorem vote_like (ω : Wd) (h:Int) (o:O) : ω.Like (ω.vote h o):=by
 have p:=put_like ω h o
 unfold Wd.vote
 split
 ·exact ⟨p.n,p.c,p.k,p.e,p.a⟩
 ·exact p
theorem keep_of {ω : Wd} {h:Int} (m:h ∈ ω.ks.map (·.1)) : ∃ κ,ω.keep h = some κ ∧ (h,κ) ∈ ω.ks:=by
 unfold Wd.keep
 cases e : ω.ks.find? fun c=>decide (c.1 = h) with
 | none=>
  obtain ⟨c,hc,rfl⟩:=List.mem_map.mp m
  have:=List.find?_eq_none.mp e c hc
  simp at this
 | some c=>
  have h1:c.1 = h:=of_decide_eq_true (List.find?_some (p:=fun c:Int × Kp=>decide (c.1 = h)) e)
  refine ⟨c.2,rfl,?_⟩
  rw [← h1]
  exact List.mem_of_find?_eq_some e
def payI (xs:List Int) (o:O) : List Int:=addI (addI xs o.p (-o.m)) o.g o.m
def paid (ns:List Int) (os:List O) : List Int:=os.foldl payI ns
theorem gI_mem {xs:List Int} {i:Int} : gI xs i = 0 ∨ gI xs i ∈ xs:=by
 unfold gI
 cases e:xs[i.toNat]? with
 | none=>exact .inl rfl
 | some x=>exact .inr (List.mem_of_getElem? e)
theorem sum_set : ∀ (xs:List Int) (i:Nat) (v:Int),i < xs.length → (xs.set i v).sum = xs.sum - (xs[i]?).getD 0 + v
 | [],_,_,h=>by cases h
 | x :: xs,0,v,_=>by simp; omega
 | x :: xs,i + 1,v,h=>by
  have:=sum_set xs i v (by simpa using h)
  simp only [List.set_cons_succ,List.sum_cons,List.getElem?_cons_succ]
  omega
theorem addI_sum {xs:List Int} {i d:Int} (h0 : 0 ≤ i) (h1:i < xs.length) : (addI xs i d).sum = xs.sum + d:=by
 unfold addI
 rw [sum_set xs i.toNat _ (by omega)]
 unfold gI
 omega
theorem addI_get {xs:List Int} {i j d:Int} (h0 : 0 ≤ i) (h1:i < xs.length) (j0 : 0 ≤ j) : gI (addI xs i d) j = if j = i then gI xs i + d else gI xs j:=by
 unfold addI gI
 by_cases z:j = i
 ·subst z
  rw [if_pos rfl,List.getElem?_set_self (by omega)]
  rfl
 ·rw [if_neg z,List.getElem?_set_ne (by omega)]
theorem addI_pos {xs:List Int} {i d:Int} (h : ∀ x ∈ xs,0 ≤ x) (hd : 0 ≤ gI xs i + d) : ∀ x ∈ addI xs i d,0 ≤ x:=fun x hx=>by
 rcases List.mem_or_eq_of_mem_set hx with hx | rfl
 ·exact h x hx
 ·exact hd
def ofP (p:Int) (os:List O) : List O:=os.filter fun o=>decide (o.p = p)
def upTo (k:Int) : List Int:=(List.range k.toNat).map fun (i:Nat)=>(i:Int)
theorem upTo_snoc {k:Int} (h : 0 ≤ k) : upTo (k + 1) = upTo k ++ [k]:=by
 unfold upTo
 rw [show (k + 1).toNat = k.toNat + 1 by omega,List.range_succ,List.map_append]
 congr 1
 show [((k.toNat:Nat) : Int)] = [k]
 rw [Int.toNat_of_nonneg h]
structure KX (L:List O) (C:O → Bool) (n:Nat) (ns:List Int) (κ : Kp) : Prop where
 he : κ.held = paid ns κ.done
 h0 : ∀ x ∈ κ.held,0 ≤ x
 hs : κ.held.sum = ns.sum
 nm : ∀ p:Int,0 ≤ p → p < (n:Int) → 0 ≤ gI κ.nexts p ∧ (ofP p κ.done).map (·.n) = upTo (gI κ.nexts p)
 dl : ∀ o ∈ κ.done,o ∈ L ∧ C o = true
 wc : ∀ o ∈ κ.wait,C o = true
 wd : ∀ o ∈ κ.wait,o ∉ κ.done
theorem KX.mono {L L':List O} {C C':O → Bool} {n:Nat} {ns:List Int} {κ : Kp} (k:KX L C n ns κ) (h : ∀ o ∈ L,o ∈ L') (hc : ∀ o,C o = true → C' o = true) : KX L' C' n ns κ:=⟨k.he,k.h0,k.hs,k.nm,fun o ho=>⟨h o (k.dl o ho).1,hc o (k.dl o ho).2⟩,fun o ho=>hc o (k.wc o ho),k.wd⟩
theorem KX.votes {L:List O} {C:O → Bool} {n:Nat} {ns:List Int} {κ : Kp} (k:KX L C n ns κ) : KX L C n ns κ.votes.1:=⟨k.he,k.h0,k.hs,k.nm,k.dl,k.wc,k.wd⟩
theorem KX.past {L:List O} {C:O → Bool} {n:Nat} {ns:List Int} {κ : Kp} (k:KX L C n ns κ) (lo : ∀ o ∈ L,isOrd n o = true) {o:O} (h:o ∈ κ.done) : κ.past o = true:=by
 obtain ⟨p0,p1,_⟩:=isOrd_iff.mp (lo o (k.dl o h).1)
 obtain ⟨g0,e⟩:=k.nm o.p p0 (by omega)
 have m:o.n ∈ (ofP o.p κ.done).map (·.n):=List.mem_map_of_mem (List.mem_filter.mpr ⟨h,decide_eq_true rfl⟩)
 rw [e] at m
 obtain ⟨i,hi,ei⟩:=List.mem_map.mp m
 have:=List.mem_range.mp hi
 exact decide_eq_true (by omega)
theorem KX.step {L:List O} {C:O → Bool} {n:Nat} {ns:List Int} {κ : Kp} (k:KX L C n ns κ) (ok : κ.Ok n) {o:O} (ho:isOrd n o = true) (ol:o ∈ L) (ow:o ∈ κ.wait) (du : κ.due o = true) : KX L C n ns (κ.step o):=by
 obtain ⟨p0,p1,g0,g1,png,n0,n1,m1,m2⟩:=isOrd_iff.mp ho
 unfold Kp.due at du
 rw [Bool.and_eq_true,decide_eq_true_eq,decide_eq_true_eq] at du
 have lh:=ok.h
 have lx:=ok.x
 refine ⟨?_,?_,?_,fun p pp0 pp1=>?_,fun u hu=>?_,fun u hu=>k.wc u (List.mem_of_mem_erase hu),fun u hu hd=>?_⟩
 ·show payI κ.held o = paid ns (κ.done ++ [o])
  have e:paid ns (κ.done ++ [o]) = payI (paid ns κ.done) o:=by
   unfold paid
   rw [List.foldl_append]
   rfl
  rw [e,← k.he]
 ·show ∀ x ∈ addI (addI κ.held o.p (-o.m)) o.g o.m,0 ≤ x
  have h1 : ∀ x ∈ addI κ.held o.p (-o.m),0 ≤ x:=addI_pos k.h0 (by omega)
  refine addI_pos h1 ?_
  rcases gI_mem (xs:=addI κ.held o.p (-o.m)) (i:=o.g) with e | e
  ·omega
  ·have:=h1 _ e
   omega
 ·show (addI (addI κ.held o.p (-o.m)) o.g o.m).sum = ns.sum
  rw [addI_sum g0 (by rw [addI_len,lh]; omega),addI_sum p0 (by rw [lh]; omega),k.hs]
  omega
 ·obtain ⟨q0,e⟩:=k.nm p pp0 pp1
  show 0 ≤ gI (addI κ.nexts o.p 1) p ∧ (ofP p (κ.done ++ [o])).map (·.n) = upTo (gI (addI κ.nexts o.p 1) p)
  rw [addI_get p0 (by rw [lx]; omega) pp0]
  unfold ofP at e ⊢
  rw [List.filter_append,List.map_append,e]
  by_cases z:p = o.p
  ·subst z
   rw [if_pos rfl]
   refine ⟨by omega,?_⟩
   rw [upTo_snoc q0,← du.1]
   simp
  ·rw [if_neg z]
   refine ⟨q0,?_⟩
   have : ¬ o.p = p:=fun y=>z y.symm
   simp [this]
 ·have hu':u ∈ κ.done ++ [o]:=hu
  rcases List.mem_append.mp hu' with h | h
  ·exact k.dl u h
  ·rw [List.mem_singleton.mp h]
   exact ⟨ol,k.wc o ow⟩
 ·have hd':u ∈ κ.done ++ [o]:=hd
  have hu':u ∈ κ.wait.erase o:=hu
  rcases List.mem_append.mp hd' with h | h
  ·exact k.wd u (List.mem_of_mem_erase hu') h
  ·rw [List.mem_singleton.mp h] at hu'
   exact (List.Nodup.mem_erase_iff ok.nd).mp hu' |>.1 rfl
theorem KX.go {L:List O} {C:O → Bool} {n:Nat} {ns:List Int} (lo : ∀ o ∈ L,isOrd n o = true) : ∀ {j:Nat} {κ : Kp},KX L C n ns κ → κ.Ok n → (∀ o ∈ κ.wait,o ∈ L) → KX L C n ns (Kp.go j κ)
 | 0,_,k,_,_=>k
 | j + 1,κ,k,ok,wl=>by
  unfold Kp.go
  cases e : κ.first with
  | none=>exact k
  | some o=>
   have om:=first_mem e
   have du : κ.due o = true:=List.find?_some e
   exact KX.go lo (k.step ok (lo o (wl o om)) (wl o om) om du) (ok.step o) fun u hu=>wl u (List.mem_of_mem_erase hu)
theorem KX.take {L:List O} {C:O → Bool} {n:Nat} {ns:List Int} {κ : Kp} (k:KX L C n ns κ) (lo : ∀ o ∈ L,isOrd n o = true) (ok : κ.Ok n) (wl : ∀ o ∈ κ.wait,o ∈ L) (b:Bool) {o:O} (ol:o ∈ L) (oc:b = false → C o = true) : KX L C n ns (κ.take b o).1:=by
 unfold Kp.take
 split
 ·unfold Kp.hear
  split
  ·exact k
  ·exact KX.votes ⟨k.he,k.h0,k.hs,k.nm,k.dl,k.wc,k.wd⟩
 ·rename_i nb
  have cb:C o = true:=oc (by simpa using nb)
  unfold Kp.paper
  split
  ·exact k
  ·rename_i nz
   have no : ¬ o ∈ κ.wait:=fun z=>nz (by rw [decide_eq_true z,Bool.or_true])
   have np : ¬ κ.past o = true:=fun z=>nz (by rw [z,Bool.true_or])
   refine KX.votes (KX.go lo (κ:={ κ with wait:=κ.wait ++ [o] }) ⟨k.he,k.h0,k.hs,k.nm,k.dl,fun u hu=>?_,fun u hu hd=>?_⟩ ⟨ok.h,ok.x,ok.u,fun u hu=>?_,?_⟩ fun u hu=>?_)
   ·rcases List.mem_append.mp hu with hu | hu
    ·exact k.wc u hu
    ·rw [List.mem_singleton.mp hu]; exact cb
   ·rcases List.mem_append.mp hu with hu | hu
    ·exact k.wd u hu hd
    ·rw [List.mem_singleton.mp hu] at hd
     exact np (k.past lo hd)
   ·rcases List.mem_append.mp hu with hu | hu
    ·exact ok.w u hu
    ·rw [List.mem_singleton.mp hu]; exact lo o ol
   ·exact List.nodup_append.mpr ⟨ok.nd,by simp,fun x hx y hy e=>by rw [List.mem_singleton.mp hy] at e; subst e; exact no hx⟩
   ·rcases List.mem_append.mp hu with hu | hu
    ·exact wl u hu
    ·rw [List.mem_singleton.mp hu]; exact ol
theorem houses_sign {k k':List Int} {h:Int} : ∀ {is:IThings},housesI (signI is k h) k' = if k' = k then housesI is k ++ [h] else housesI is k'
 | []=>by
  show (if k = k' then [h] else []) = _
  by_cases z:k' = k
  ·rw [if_pos z,if_pos z.symm]
   rfl
  ·rw [if_neg z,if_neg (fun y=>z y.symm)]
   rfl
 | p :: ps=>by
  unfold signI
  by_cases y:p.1 = k
  ·rw [if_pos y]
   show (if p.1 = k' then p.2 ++ [h] else housesI ps k') = if k' = k then (if p.1 = k then p.2 else housesI ps k) ++ [h] else if p.1 = k' then p.2 else housesI ps k'
   by_cases z:k' = k
   ·rw [if_pos z,if_pos y,if_pos (by rw [y,z])]
   ·rw [if_neg z,if_neg (fun q=>z (by rw [← q,y])),if_neg (fun q=>z (by rw [← q,y]))]
  ·rw [if_neg y]
   show (if p.1 = k' then p.2 else housesI (signI ps k h) k') = if k' = k then (if p.1 = k then p.2 else housesI ps k) ++ [h] else if p.1 = k' then p.2 else housesI ps k'
   rw [houses_sign (is:=ps),if_neg y]
   by_cases z:k' = k
   ·rw [if_pos z,if_pos z,if_neg (fun q=>y (by rw [q,z]))]
   ·rw [if_neg z,if_neg z]
theorem put_houses (ω : Wd) (h:Int) (o:O) (k:List Int) : (housesI ω.bd k).length ≤ (housesI (ω.put h o).1.bd k).length:=by
 unfold Wd.put
 split
 ·exact Nat.le_refl _
 ·show _ ≤ (housesI (signI ω.bd (ordI o) h) k).length
  rw [houses_sign]
  split
  ·rename_i z
   rw [z,List.length_append]
   omega
  ·exact Nat.le_refl _
theorem put_carried (ω : Wd) (h:Int) (o u:O) (c : ω.carried u = true) : (ω.put h o).1.carried u = true:=by
 have e:=(put_like ω h o).e
 have l:=put_houses ω h o (ordI u)
 unfold Wd.carried at c ⊢
 have:=of_decide_eq_true c
 exact decide_eq_true (by rw [e]; omega)
theorem put_now {ω : Wd} {h:Int} {o:O} (c:(ω.put h o).2 = true) : (ω.put h o).1.carried o = true:=by
 unfold Wd.put at c ⊢
 split at c
 ·cases c
 ·rename_i z
  rw [if_neg z]
  have:=of_decide_eq_true c
  refine decide_eq_true ?_
  show ω.en ≤ ((housesI (signI ω.bd (ordI o) h) (ordI o)).length:Int)
  rw [houses_sign,if_pos rfl,List.length_append]
  show ω.en ≤ (((housesI ω.bd (ordI o)).length + 1:Nat) : Int)
  omega
theorem vote_bd (ω : Wd) (h:Int) (o:O) : (ω.vote h o).bd = (ω.put h o).1.bd:=by
 unfold Wd.vote
 split <;> rfl
theorem vote_carried {ω : Wd} {h:Int} {o u:O} (c : ω.carried u = true) : (ω.vote h o).carried u = true:=by
 have:=put_carried ω h o u c
 unfold Wd.carried at this ⊢
 rw [vote_bd,(vote_like ω h o).e,← (put_like ω h o).e]
 exact this
structure WG (ω : Wd) (L:List O) (hb:List Int) : Prop where
 b:BIn L hb ω.bd
 y : ∀ x ∈ ω.way,x.2.2 ∈ L ∧ x.2.1 ∈ ω.ks.map (·.1) ∧ (x.1 = false → ω.carried x.2.2 = true)
theorem WG.vote {ω : Wd} {L:List O} {hb:List Int} {h:Int} {o:O} (g:WG ω L hb) (ol:o ∈ L) (hh:h ∈ hb) : WG (ω.vote h o) L hb ∧ (ω.vote h o).way.length ≤ ω.way.length + ω.ks.length:=by
 have pb:BIn L hb (ω.put h o).1.bd ∧ (ω.put h o).1.way = ω.way ∧ (ω.put h o).1.ks = ω.ks:=by
  unfold Wd.put
  split
  ·exact ⟨g.b,rfl,rfl⟩
  ·rename_i hn
   exact ⟨g.b.sign ol hh hn,rfl,rfl⟩
 have lk:=vote_like ω h o
 have old : ∀ x ∈ ω.way,x.2.2 ∈ L ∧ x.2.1 ∈ (ω.vote h o).ks.map (·.1) ∧ (x.1 = false → (ω.vote h o).carried x.2.2 = true):=fun x hx=>by
  obtain ⟨a,b,c⟩:=g.y x hx
  exact ⟨a,by rw [lk.k]; exact b,fun e=>vote_carried (c e)⟩
 by_cases z:(ω.put h o).2 = true
 ·have ew:(ω.vote h o).way = ω.way ++ ω.ks.map fun c=>(false,c.1,o):=by
   unfold Wd.vote
   rw [if_pos z]
   show (ω.put h o).1.way ++ _ = _
   rw [pb.2.1,pb.2.2]
  refine ⟨⟨by rw [vote_bd]; exact pb.1,fun x hx=>?_⟩,by rw [ew,List.length_append,List.length_map]; exact Nat.le_refl _⟩
  rw [ew] at hx
  rcases List.mem_append.mp hx with hx | hx
  ·exact old x hx
  ·obtain ⟨c,hc,rfl⟩:=List.mem_map.mp hx
   refine ⟨ol,by rw [lk.k]; exact List.mem_map_of_mem hc,fun _=>?_⟩
   have:=put_now z
   unfold Wd.carried at this ⊢
   rw [vote_bd,lk.e,← (put_like ω h o).e]
   exact this
 ·have ew:(ω.vote h o).way = ω.way:=by
   unfold Wd.vote
   rw [if_neg z,pb.2.1]
  exact ⟨⟨by rw [vote_bd]; exact pb.1,fun x hx=>old x (by rw [← ew]; exact hx)⟩,by rw [ew]; omega⟩
theorem WG.votes {L:List O} {hb:List Int} {h:Int} (hh:h ∈ hb) : ∀ {os:List O} {ω : Wd},(∀ o ∈ os,o ∈ L) → WG ω L hb → WG (ω.votes h os) L hb ∧ ω.Like (ω.votes h os) ∧ (∀ u,ω.carried u = true → (ω.votes h os).carried u = true) ∧ (ω.votes h os).way.length ≤ ω.way.length + ω.ks.length * os.length
 | [],ω,_,g=>⟨g,⟨rfl,rfl,rfl,rfl,rfl⟩,fun _ h=>h,Nat.le_refl _⟩
 | o :: os,ω,ol,g=>by
  obtain ⟨g1,l1⟩:=g.vote (ol o List.mem_cons_self) hh
  have lk:=vote_like ω h o
  obtain ⟨g2,k2,c2,l2⟩:=WG.votes hh (os:=os) (ω:=ω.vote h o) (fun o' h'=>ol o' (List.mem_cons_of_mem _ h')) g1
  refine ⟨g2,lk.trans k2,fun u hu=>c2 u (vote_carried hu),?_⟩
  show ((ω.vote h o).votes h os).way.length ≤ _
  rw [lk.k] at l2
  rw [List.length_cons,Nat.mul_succ]
  omega
structure Gn (ω : Wd) (T M:Nat) (L:List O) (ls ns:List Int) : Prop where
 ok : ω.Ok
 l:L.length ≤ T
 lo : ∀ o ∈ L,isOrd ω.n o = true
 mw : ∀ o ∈ L,ω.may o
 ks : ∀ c ∈ ω.ks,KIn L T ω.n c.2 ∧ KX L ω.carried ω.n ns c.2
 g:WG ω L (ω.ks.map (·.1) ++ ls)
 wl : ω.way.length ≤ M
 al : ∀ row ∈ ω.asked,row.length ≤ T
 e1 : 1 ≤ ω.en
theorem BIn.mono {L L':List O} {hs:List Int} {is:IThings} (b:BIn L hs is) (h : ∀ o ∈ L,o ∈ L') : BIn L' hs is:=⟨b.nd,fun x hx=>let ⟨o,a,c⟩:=b.ks x hx; ⟨o,h o a,c⟩,b.hn⟩
section
variable {ω : Wd} {T M T' M':Nat} {L:List O} {ls ns:List Int}
theorem Gn.mono (g:Gn ω T M L ls ns) (hT:T ≤ T') (hM:M ≤ M') : Gn ω T' M' L ls ns:=⟨g.ok,Nat.le_trans g.l hT,g.lo,g.mw,fun c hc=>⟨(g.ks c hc).1.mono (fun _ h=>h) hT,(g.ks c hc).2⟩,g.g,Nat.le_trans g.wl hM,fun row hr=>Nat.le_trans (g.al row hr) hT,g.e1⟩
theorem Gn.letter (g:Gn ω T M L ls ns) {b:Bool} {h:Int} {o:O} (ol:o ∈ L) (hh:h ∈ ω.ks.map (·.1)) (hb:b = false → ω.carried o = true) : Gn { ω with way:=ω.way ++ [(b,h,o)] } T (M + 1) L ls ns:=by
 refine ⟨⟨g.ok.n8,g.ok.al,g.ok.ao,g.ok.ks,g.ok.nd,g.ok.k0,g.ok.k1⟩,g.l,g.lo,g.mw,g.ks,⟨g.g.b,fun x hx=>?_⟩,?_,g.al,g.e1⟩
 ·rcases List.mem_append.mp (show x ∈ ω.way ++ [(b,h,o)] from hx) with hx | hx
  ·exact g.g.y x hx
  ·rw [List.mem_singleton.mp hx]
   exact ⟨ol,hh,hb⟩
 ·show (ω.way ++ [(b,h,o)]).length ≤ M + 1
  rw [List.length_append]
  have:=g.wl
  show ω.way.length + 1 ≤ M + 1
  omega
theorem Gn.more (g:Gn ω T M L ls ns) {o:O} (ho:isOrd ω.n o = true) (hm : ω.may o) : Gn ω (T + 1) M (o :: L) ls ns:=by
 have sub : ∀ u ∈ L,u ∈ o :: L:=fun u h=>List.mem_cons_of_mem _ h
 refine ⟨g.ok,by rw [List.length_cons]; have:=g.l; omega,fun u hu=>?_,fun u hu=>?_,fun c hc=>⟨(g.ks c hc).1.mono sub (by omega),(g.ks c hc).2.mono sub fun _ h=>h⟩,⟨g.g.b.mono sub,fun x hx=>?_⟩,g.wl,fun row hr=>Nat.le_succ_of_le (g.al row hr),g.e1⟩
 ·rcases List.mem_cons.mp hu with rfl | hu
  ·exact ho
  ·exact g.lo u hu
 ·rcases List.mem_cons.mp hu with rfl | hu
  ·exact hm
  ·exact g.mw u hu
 ·obtain ⟨a,b,c⟩:=g.g.y x hx
  exact ⟨sub _ a,b,c⟩
theorem Gn.cheat (g:Gn ω T M L ls ns) {o:O} {h:Int} (ho:isOrd ω.n o = true) (hm:o.p ∈ ω.cheats) (hh:h ∈ ω.ks.map (·.1)) : Gn { ω with way:=ω.way ++ [(true,h,o)] } (T + 1) (M + 1) (o :: L) ls ns:=(g.more ho (.inl hm)).letter List.mem_cons_self hh (fun z=>by cases z)
theorem Gn.votes (g:Gn ω T M L ls ns) {h:Int} (hh:h ∈ ω.ks.map (·.1) ++ ls) {os:List O} (ol : ∀ o ∈ os,o ∈ L) : Gn (ω.votes h os) T (M + 16 * os.length) L ls ns:=by
 obtain ⟨g2,lk,cc,l2⟩:=WG.votes hh ol g.g
 refine ⟨⟨by rw [lk.n]; exact g.ok.n8,by rw [lk.a,lk.n]; exact g.ok.al,by rw [lk.a,lk.n]; exact g.ok.ao,by rw [lk.k,lk.n]; exact g.ok.ks,by rw [lk.k]; exact g.ok.nd,by rw [lk.k]; exact g.ok.k0,by rw [lk.k]; exact g.ok.k1⟩,g.l,by rw [lk.n]; exact g.lo,fun o ho=>?_,?_,by rw [lk.k]; exact g2,?_,by rw [lk.a]; exact g.al,by rw [lk.e]; exact g.e1⟩
 ·have:=g.mw o ho
  unfold Wd.may at this ⊢
  rw [lk.c,lk.a]
  exact this
 ·rw [lk.k,lk.n]
  exact fun c hc=>⟨(g.ks c hc).1,(g.ks c hc).2.mono (fun _ h=>h) cc⟩
 ·refine Nat.le_trans l2 ?_
  have h1:=g.wl
  have h2:=Nat.mul_le_mul_right os.length g.ok.k1
  omega
theorem Gn.come (g:Gn ω T M L ls ns) {i:Nat} {l:Bool × Int × O} {κ : Kp} (el : ω.way[i]? = some l) (ek : ω.keep l.2.1 = some κ) : Gn (ω.come i l κ) (T + 1) (M + 16 * (T + 1)) L ls ns:=by
 obtain ⟨lL,lh,lc⟩:=g.g.y l (List.mem_of_getElem? el)
 obtain ⟨κ',ek',km⟩:=keep_of lh
 rw [ek] at ek'
 cases ek'
 obtain ⟨kk,kx⟩:=g.ks _ km
 obtain ⟨k1,k2,k3⟩:=kk.take l.1 lL (g.lo _ lL)
 have kx1:=kx.take g.lo kk.ok kk.w l.1 lL lc
 have ekeys:(setK ω.ks l.2.1 (κ.take l.1 l.2.2).1).map (·.1) = ω.ks.map (·.1):=by
  unfold setK
  rw [List.map_map]
  refine List.map_congr_left fun c _=>?_
  show (if c.1 = l.2.1 then (l.2.1,(κ.take l.1 l.2.2).1) else c).1 = c.1
  split
  ·rename_i z
   exact z.symm
  ·rfl
 have ks3 : ∀ c ∈ setK ω.ks l.2.1 (κ.take l.1 l.2.2).1,KIn L (T + 1) ω.n c.2 ∧ KX L ω.carried ω.n ns c.2:=fun c hc=>by
  obtain ⟨c',hc',rfl⟩:=List.mem_map.mp hc
  split
  ·exact ⟨k1,kx1⟩
  ·exact ⟨(g.ks c' hc').1.mono (fun _ h=>h) (by omega),(g.ks c' hc').2⟩
 have mid:Gn { ω with way:=ω.way.eraseIdx i,ks:=setK ω.ks l.2.1 (κ.take l.1 l.2.2).1 } (T + 1) M L ls ns:=by
  refine ⟨⟨g.ok.n8,g.ok.al,g.ok.ao,fun c hc=>(ks3 c hc).1.ok,by show ((setK ω.ks l.2.1 _).map _).Nodup; rw [ekeys]; exact g.ok.nd,by show 0 < (setK _ _ _).length; rw [setK_len]; exact g.ok.k0,by show (setK _ _ _).length ≤ 16; rw [setK_len]; exact g.ok.k1⟩,Nat.le_succ_of_le g.l,g.lo,g.mw,ks3,?_,Nat.le_trans (List.length_eraseIdx_le _ _) g.wl,fun row hr=>Nat.le_succ_of_le (g.al row hr),g.e1⟩
  show WG _ L ((setK ω.ks l.2.1 _).map (·.1) ++ ls)
  rw [ekeys]
  refine ⟨g.g.b,fun x hx=>?_⟩
  obtain ⟨a,b,c⟩:=g.g.y x (List.mem_of_mem_eraseIdx hx)
  exact ⟨a,by show _ ∈ (setK ω.ks l.2.1 _).map (·.1); rw [ekeys]; exact b,c⟩
 have q:=mid.votes (h:=l.2.1) (by show _ ∈ (setK ω.ks l.2.1 _).map (·.1) ++ ls; rw [ekeys]; exact List.mem_append_left _ lh) k2
 exact q.mono (Nat.le_refl _) (by have:=Nat.mul_le_mul_left 16 k3; omega)
theorem Gn.sz (g:Gn ω T M L ls ns) : Sz ω L.length (ω.ks.length + ls.length) M:=by
 obtain ⟨b1,b2⟩:=g.g.b.len
 refine ⟨b1,fun x hx=>?_,g.wl,g.ok.k1⟩
 have:=b2 x hx
 rwa [List.length_append,List.length_map] at this
end
theorem w0_gn {h f:Int} {ns cs ls:List Int} (h1 : 1 ≤ h ∧ h ≤ 16) (hf : 0 ≤ f) (lt : 3 * f < h) (l8:ns.length ≤ 8) (n0 : ∀ x ∈ ns,0 ≤ x) (ll:(ls.length:Int) ≤ f) (lr : ∀ x ∈ ls,0 ≤ x ∧ x < h) : Gn (w0 h f ns cs ls) 0 0 [] ls ns:=by
 have ek:(w0 h f ns cs ls).ks.map (·.1) = crew ls h.toNat:=by
  show ((crew ls h.toNat).map fun i=>(i,kp0 ns)).map (·.1) = _
  rw [List.map_map]
  exact List.map_id _
 have kall : ∀ c ∈ (w0 h f ns cs ls).ks,c.2 = kp0 ns:=fun c hc=>by
  obtain ⟨i,_,rfl⟩:=List.mem_map.mp (show c ∈ (crew ls h.toNat).map fun i=>(i,kp0 ns) from hc)
  rfl
 have lk:(w0 h f ns cs ls).ks.length = (crew ls h.toNat).length:=List.length_map ..
 have kin:KIn [] 0 ns.length (kp0 ns):=⟨⟨rfl,by show (List.replicate _ _).length = _; rw [List.length_replicate],fun _ z=>(by cases z),fun _ z=>(by cases z),List.nodup_nil⟩,⟨Nat.le_refl _,Nat.le_refl _,Nat.le_refl _⟩,fun _ z=>(by cases z),fun _ z=>(by cases z)⟩
 have kx:KX [] (w0 h f ns cs ls).carried ns.length ns (kp0 ns):=by
  refine ⟨rfl,n0,rfl,fun p p0 p1=>?_,fun _ z=>(by cases z),fun _ z=>(by cases z),fun _ z=>(by cases z)⟩
  have e:gI (kp0 ns).nexts p = 0:=by
   unfold gI
   show ((List.replicate ns.length (0:Int))[p.toNat]?).getD 0 = 0
   rw [List.getElem?_replicate]
   split <;> rfl
  rw [e]
  exact ⟨Int.le_refl _,rfl⟩
 have cn:(crew ls h.toNat).Nodup:=by
  unfold crew
  exact List.Pairwise.filter _ (List.Pairwise.map _ (fun a b hab z=>hab (Int.ofNat.inj z)) List.nodup_range)
 have c1 : 0 < (crew ls h.toNat).length:=by
  have hl:((List.range h.toNat).map fun (i:Nat)=>(i:Int)).length ≤ (crew ls h.toNat).length + ls.length:=by
   rw [← List.length_append]
   refine nodup_len (List.Pairwise.map _ (fun a b hab z=>hab (Int.ofNat.inj z)) List.nodup_range) fun x hx=>?_
   by_cases z:x ∈ ls
   ·exact List.mem_append_right _ z
   ·exact List.mem_append_left _ (List.mem_filter.mpr ⟨hx,by simp [z]⟩)
  rw [List.length_map,List.length_range] at hl
  omega
 have c2:=crew_len ls h.toNat
 refine ⟨⟨l8,by show (List.replicate _ _).length = _; rw [List.length_replicate]; rfl,fun row hr o ho=>?_,fun c hc=>by rw [kall c hc]; exact kin.ok,by rw [ek]; exact cn,by rw [lk]; exact c1,by rw [lk]; omega⟩,Nat.le_refl _,fun _ z=>(by cases z),fun _ z=>(by cases z),fun c hc=>by rw [kall c hc]; exact ⟨kin,kx⟩,⟨⟨List.nodup_nil,fun _ z=>(by cases z),fun _ z=>(by cases z)⟩,fun _ z=>(by cases z)⟩,Nat.le_refl _,fun row hr=>?_,by show 1 ≤ h - f; omega⟩
 ·have:row = []:=List.eq_of_mem_replicate hr
  subst this
  cases ho
 ·have:row = []:=List.eq_of_mem_replicate hr
  subst this
  exact Nat.le_refl _
theorem votes_like (h:Int) : ∀ (os:List O) (ω : Wd),ω.Like (ω.votes h os)
 | [],ω=>⟨rfl,rfl,rfl,rfl,rfl⟩
 | o :: os,ω=>(vote_like ω h o).trans (votes_like h os (ω.vote h o))
theorem perm_same {α : Type} [DecidableEq α] : ∀ {xs ys:List α},xs.Nodup → ys.Nodup → (∀ x,x ∈ xs ↔ x ∈ ys) → xs.Perm ys
 | [],[],_,_,_=>.nil
 | [],y :: ys,_,_,h=>by cases (h y).mpr List.mem_cons_self
 | x :: xs,ys,nx,ny,h=>by
  rw [List.nodup_cons] at nx
  have hx:=(h x).mp List.mem_cons_self
  refine .trans (.cons x (perm_same (ys:=ys.erase x) nx.2 (ny.erase x) fun z=>?_)) (List.perm_cons_erase hx).symm
  rw [ny.mem_erase_iff]
  constructor
  ·exact fun hz=>⟨fun e=>nx.1 (e ▸ hz),(h z).mp (List.mem_cons_of_mem _ hz)⟩
  ·rintro ⟨ne,hz⟩
   rcases List.mem_cons.mp ((h z).mpr hz) with e | e
   ·exact absurd e ne
   ·exact e
theorem nodup_of_map {α β : Type} {f : α → β} : ∀ {xs:List α},(xs.map f).Nodup → xs.Nodup
 | [],_=>List.nodup_nil
 | x :: xs,h=>by
  rw [List.map_cons,List.nodup_cons] at h
  exact List.nodup_cons.mpr ⟨fun z=>h.1 (List.mem_map_of_mem z),nodup_of_map h.2⟩
theorem gv_ind {κ : Kp} {Q:Gv → Prop} : ∀ {os:List O} {a:Gv},(∀ o ∈ os,∀ a,Q a → Q (gvS κ o a)) → Q a → Q (gv κ os a)
 | [],_,_,h=>h
 | o :: os,a,hs,h=>by
  unfold gv
  rw [List.foldl_cons]
  exact gv_ind (fun u hu=>hs u (List.mem_cons_of_mem _ hu)) (hs o List.mem_cons_self a h)
structure GvOk (c0:List ((Int × Int) × O)) (a:Gv) : Prop where
 ck:(a.1.map (·.1)).Nodup
 cp : ∀ c ∈ a.1,c.1 = (c.2.p,c.2.n)
 mo : ∀ c ∈ c0,c ∈ a.1
 vt : ∀ o ∈ a.2.1,((o.p,o.n),o) ∈ a.1
theorem GvOk.step {c0:List ((Int × Int) × O)} {κ : Kp} {o:O} {a:Gv} (g:GvOk c0 a) : GvOk c0 (gvS κ o a):=by
 unfold gvS
 split
 ·rename_i z
  rw [Bool.and_eq_true] at z
  have nc : ∀ x ∈ a.1,x.1 ≠ (o.p,o.n):=fun x hx e=>by
   have:chose a.1 o = true:=List.any_eq_true.mpr ⟨x,hx,decide_eq_true e⟩
   rw [this] at z
   cases z.2
  refine ⟨?_,fun c hc=>?_,fun c hc=>List.mem_append_left _ (g.mo c hc),fun u hu=>?_⟩
  ·show ((a.1 ++ [((o.p,o.n),o)]).map (·.1)).Nodup
   rw [List.map_append]
   refine List.nodup_append.mpr ⟨g.ck,by simp,fun x hx y hy e=>?_⟩
   obtain ⟨c,hc,rfl⟩:=List.mem_map.mp hx
   rw [List.mem_singleton.mp hy] at e
   exact nc c hc e
  ·rcases List.mem_append.mp hc with hc | hc
   ·exact g.cp c hc
   ·rw [List.mem_singleton.mp hc]
  ·rcases List.mem_append.mp hu with hu | hu
   ·exact List.mem_append_left _ (g.vt u hu)
   ·rw [List.mem_singleton.mp hu]
    exact List.mem_append_right _ (List.mem_singleton.mpr rfl)
 ·split
  ·exact ⟨g.ck,g.cp,g.mo,g.vt⟩
  ·exact g
structure KV (L:List O) (κ : Kp) : Prop where
 hl : ∀ o ∈ κ.heard,o ∈ L
 ck:(κ.cho.map (·.1)).Nodup
 cp : ∀ c ∈ κ.cho,c.1 = (c.2.p,c.2.n)
structure Hrd (L:List O) (κ κ':Kp) (vs:List O) : Prop where
 z:KV L κ'
 mo : ∀ c ∈ κ.cho,c ∈ κ'.cho
 vt : ∀ o ∈ vs,((o.p,o.n),o) ∈ κ'.cho
 hm : ∀ o ∈ κ.heard,o ∈ κ'.heard
theorem KV.votes {L:List O} {κ : Kp} (z:KV L κ) : Hrd L κ κ.votes.1 κ.votes.2:=by
 have g:GvOk κ.cho (gv κ κ.unv (κ.cho,[],[])):=gv_ind (fun o _ a h=>h.step) ⟨z.ck,z.cp,fun _ h=>h,fun _ h=>by cases h⟩
 exact ⟨⟨z.hl,g.ck,g.cp⟩,g.mo,g.vt,fun _ h=>h⟩
theorem go_keeps : ∀ {m:Nat} {κ : Kp},(Kp.go m κ).cho = κ.cho ∧ (Kp.go m κ).heard = κ.heard
 | 0,_=>⟨rfl,rfl⟩
 | m + 1,κ=>by
  unfold Kp.go
  cases κ.first with
  | none=>exact ⟨rfl,rfl⟩
  | some o=>exact go_keeps (m:=m) (κ:=κ.step o)
theorem KV.take {L:List O} {κ : Kp} (z:KV L κ) (b:Bool) {o:O} (ol:o ∈ L) : Hrd L κ (κ.take b o).1 (κ.take b o).2 ∧ (b = true → o ∈ (κ.take b o).1.heard):=by
 have same:Hrd L κ κ []:=⟨z,fun _ h=>h,fun _ h=>(by cases h),fun _ h=>h⟩
 unfold Kp.take
 split
 ·unfold Kp.hear
  split
  ·rename_i h
   exact ⟨same,fun _=>h⟩
  ·have z1:KV L { κ with heard:=κ.heard ++ [o],unv:=κ.unv ++ [o] }:=by
    refine ⟨fun u hu=>?_,z.ck,z.cp⟩
    rcases List.mem_append.mp hu with hu | hu
    ·exact z.hl u hu
    ·rw [List.mem_singleton.mp hu]; exact ol
   have r:=z1.votes
   exact ⟨⟨r.z,r.mo,r.vt,fun u hu=>r.hm u (List.mem_append_left _ hu)⟩,fun _=>r.hm o (List.mem_append_right _ (List.mem_singleton.mpr rfl))⟩
 ·rename_i nb
  refine ⟨?_,fun e=>absurd e nb⟩
  unfold Kp.paper
  split
  ·exact same
  ·obtain ⟨e1,e2⟩:=go_keeps (m:=(κ.wait ++ [o]).length) (κ:={ κ with wait:=κ.wait ++ [o] })
   have z1:KV L (Kp.goOn { κ with wait:=κ.wait ++ [o] }):=⟨by unfold Kp.goOn; rw [e2]; exact z.hl,by unfold Kp.goOn; rw [e1]; exact z.ck,by unfold Kp.goOn; rw [e1]; exact z.cp⟩
   have r:=z1.votes
   exact ⟨r.z,fun c hc=>r.mo c (by unfold Kp.goOn; rw [e1]; exact hc),r.vt,fun u hu=>r.hm u (by unfold Kp.goOn; rw [e2]; exact hu)⟩
theorem vote_houses (ω : Wd) (h:Int) (o u:O) (x:Int) : x ∈ housesI (ω.vote h o).bd (ordI u) ↔ x ∈ housesI ω.bd (ordI u) ∨ (x = h ∧ u = o):=by
 rw [vote_bd]
 unfold Wd.put
 split
 ·rename_i hm
  exact ⟨.inl,fun z=>z.elim id fun ⟨e1,e2⟩=>by rw [e1,e2]; exact hm⟩
 ·show x ∈ housesI (signI ω.bd (ordI o) h) (ordI u) ↔ _
  rw [houses_sign]
  by_cases z:ordI u = ordI o
  ·rw [if_pos z,z,List.mem_append,List.mem_singleton]
   have:=ordI_inj z
   simp [this]
  ·rw [if_neg z]
   exact ⟨.inl,fun y=>y.elim id fun ⟨_,e2⟩=>absurd (by rw [e2]) z⟩
theorem votes_houses (h:Int) (u:O) (x:Int) : ∀ (os:List O) (ω : Wd),x ∈ housesI (ω.votes h os).bd (ordI u) ↔ x ∈ housesI ω.bd (ordI u) ∨ (x = h ∧ u ∈ os)
 | [],ω=>by simp [Wd.votes]
 | o :: os,ω=>by
  have ih:=votes_houses h u x os (ω.vote h o)
  show x ∈ housesI ((ω.vote h o).votes h os).bd (ordI u) ↔ _
  rw [ih,vote_houses,List.mem_cons]
  constructor
  ·rintro ((a | ⟨a,b⟩) | ⟨a,b⟩)
   ·exact .inl a
   ·exact .inr ⟨a,.inl b⟩
   ·exact .inr ⟨a,.inr b⟩
  ·rintro (a | ⟨a,b | b⟩)
   ·exact .inl (.inl a)
   ·exact .inl (.inr ⟨a,b⟩)
   ·exact .inr ⟨a,b⟩
theorem votes_way (h:Int) : ∀ (os:List O) (ω : Wd),∀ l ∈ ω.way,l ∈ (ω.votes h os).way
 | [],_,_,hl=>hl
 | o :: os,ω,l,hl=>votes_way h os (ω.vote h o) l (by
  have e:(ω.put h o).1.way = ω.way:=by unfold Wd.put; split <;> rfl
  unfold Wd.vote
  split
  ·exact List.mem_append_left _ (by rw [e]; exact hl)
  ·rw [e]; exact hl)
structure Sh (ω : Wd) (L:List O) (sg:List (Int × O)) (ls:List Int) : Prop where
 kv : ∀ c ∈ ω.ks,KV L c.2
 vo : ∀ c ∈ ω.ks,∀ o,c.1 ∈ housesI ω.bd (ordI o) → ((o.p,o.n),o) ∈ c.2.cho
 li : ∀ h ∈ ls,∀ o,h ∈ housesI ω.bd (ordI o) ↔ (h,o) ∈ sg
 al : ∀ o ∈ L,(∃ l ∈ ω.way,l.2.2 = o) ∨ (∃ c ∈ ω.ks,o ∈ c.2.heard) ∨ housesI ω.bd (ordI o) ≠ []
 sl : ∀ x ∈ sg,x.1 ∈ ls ∧ x.2 ∈ L
 dj : ∀ c ∈ ω.ks,c.1 ∉ ls
 ch : ∀ o ∈ L,o.p ∈ ω.cheats
section
variable {ω : Wd} {L:List O} {sg:List (Int × O)} {ls:List Int}
theorem KV.mono {L':List O} {κ : Kp} (h : ∀ o ∈ L,o ∈ L') (z:KV L κ) : KV L' κ:=⟨fun o ho=>h o (z.hl o ho),z.ck,z.cp⟩
theorem Sh.cheat (s:Sh ω L sg ls) (h:Int) {o:O} (oc:o.p ∈ ω.cheats) : Sh { ω with way:=ω.way ++ [(true,h,o)] } (o :: L) sg ls:=by
 have sub : ∀ u ∈ L,u ∈ o :: L:=fun _ h=>List.mem_cons_of_mem _ h
 refine ⟨fun c hc=>(s.kv c hc).mono sub,s.vo,s.li,fun u hu=>?_,fun x hx=>⟨(s.sl x hx).1,sub _ (s.sl x hx).2⟩,s.dj,fun u hu=>?_⟩
 rotate_left
 ·rcases List.mem_cons.mp hu with rfl | hu
  ·exact oc
  ·exact s.ch u hu
 rcases List.mem_cons.mp hu with rfl | hu
 ·exact .inl ⟨_,List.mem_append_right _ (List.mem_singleton.mpr rfl),rfl⟩
 ·rcases s.al u hu with ⟨l,hl,e⟩ | y
  ·exact .inl ⟨l,List.mem_append_left _ hl,e⟩
  ·exact .inr y
theorem mem_ne {α : Type} {x : α} {xs:List α} (h:x ∈ xs) : xs ≠ []:=fun z=>by rw [z] at h; cases h
theorem ne_mem {α : Type} {xs:List α} (h:xs ≠ []) : ∃ x,x ∈ xs:=by
 cases xs with
 | nil=>exact absurd rfl h
 | cons x _=>exact ⟨x,List.mem_cons_self⟩
theorem Sh.lie (s:Sh ω L sg ls) {f:Int} (hf:f ∈ ls) {o:O} (oc:o.p ∈ ω.cheats) : Sh (ω.votes f [o]) (o :: L) ((f,o) :: sg) ls:=by
 have sub : ∀ u ∈ L,u ∈ o :: L:=fun _ h=>List.mem_cons_of_mem _ h
 have lk:=votes_like f [o] ω
 refine ⟨by rw [lk.k]; exact fun c hc=>(s.kv c hc).mono sub,fun c hc u hu=>?_,fun h hh u=>?_,fun u hu=>?_,fun x hx=>?_,by rw [lk.k]; exact s.dj,fun u hu=>?_⟩
 ·rw [lk.k] at hc
  rw [votes_houses] at hu
  rcases hu with hu | ⟨e,_⟩
  ·exact s.vo c hc u hu
  ·exact absurd (e ▸ hf) (s.dj c hc)
 ·rw [votes_houses,s.li h hh u,List.mem_singleton,List.mem_cons,Prod.mk.injEq]
  exact or_comm
 ·rcases List.mem_cons.mp hu with rfl | hu
  ·exact .inr (.inr (mem_ne ((votes_houses f u f [u] ω).mpr (.inr ⟨rfl,List.mem_singleton.mpr rfl⟩))))
  ·rcases s.al u hu with ⟨l,hl,e⟩ | y | y
   ·exact .inl ⟨l,votes_way _ _ _ l hl,e⟩
   ·exact .inr (.inl (by rw [lk.k]; exact y))
   ·obtain ⟨x,hx⟩:=ne_mem y
    exact .inr (.inr (mem_ne ((votes_houses f u x [o] ω).mpr (.inl hx))))
 ·rcases List.mem_cons.mp hx with rfl | hx
  ·exact ⟨hf,List.mem_cons_self⟩
  ·exact ⟨(s.sl x hx).1,sub _ (s.sl x hx).2⟩
 ·rw [lk.c]
  rcases List.mem_cons.mp hu with rfl | hu
  ·exact oc
  ·exact s.ch u hu
theorem mem_erase_ix {α : Type} {xs:List α} {i:Nat} {l x : α} (e:xs[i]? = some l) (h:x ∈ xs) : x = l ∨ x ∈ xs.eraseIdx i:=by
 obtain ⟨hi,e'⟩:=List.getElem?_eq_some_iff.mp e
 rw [List.eraseIdx_eq_take_drop_succ,List.mem_append]
 have:x ∈ xs.take i ++ xs.drop i:=by rw [List.take_append_drop]; exact h
 rcases List.mem_append.mp this with h | h
 ·exact .inr (.inl h)
 ·rw [List.drop_eq_getElem_cons hi,e'] at h
  rcases List.mem_cons.mp h with h | h
  ·exact .inl h
  ·exact .inr (.inr h)
theorem key_one {ks:List (Int × Kp)} (nd:(ks.map (·.1)).Nodup) {a b:Int × Kp} (ha:a ∈ ks) (hb:b ∈ ks) (e:a.1 = b.1) : a = b:=by
 induction ks with
 | nil=>cases ha
 | cons c cs ih=>
  rw [List.map_cons,List.nodup_cons] at nd
  rcases List.mem_cons.mp ha with h1 | h1 <;> rcases List.mem_cons.mp hb with h2 | h2
  ·rw [h1,h2]
  ·exact absurd (List.mem_map.mpr ⟨b,h2,by rw [← e,h1]⟩) nd.1
  ·exact absurd (List.mem_map.mpr ⟨a,h1,by rw [e,h2]⟩) nd.1
  ·exact ih nd.2 h1 h2
theorem Sh.come (s:Sh ω L sg ls) (nd:(ω.ks.map (·.1)).Nodup) {i:Nat} {l:Bool × Int × O} {κ : Kp} (el : ω.way[i]? = some l) (km:(l.2.1,κ) ∈ ω.ks) (lL:l.2.2 ∈ L) (lc:l.1 = false → housesI ω.bd (ordI l.2.2) ≠ []) : Sh (ω.come i l κ) L sg ls:=by
 obtain ⟨r,rb⟩:=(s.kv _ km).take l.1 lL
 unfold Wd.come
 generalize (κ.take l.1 l.2.2).1 = κ' at r rb
 generalize (κ.take l.1 l.2.2).2 = vs at r
 have lk:=votes_like l.2.1 vs { ω with way:=ω.way.eraseIdx i,ks:=setK ω.ks l.2.1 κ' }
 have ks3 : ∀ c ∈ setK ω.ks l.2.1 κ',(c.1 = l.2.1 ∧ c.2 = κ') ∨ (c ∈ ω.ks ∧ c.1 ≠ l.2.1):=fun c hc=>by
  obtain ⟨c',hc',rfl⟩:=List.mem_map.mp hc
  split
  ·exact .inl ⟨rfl,rfl⟩
  ·rename_i z
   exact .inr ⟨hc',z⟩
 refine ⟨fun c hc=>?_,fun c hc u hu=>?_,fun h hh u=>?_,fun u hu=>?_,s.sl,fun c hc=>?_,by rw [lk.c]; exact s.ch⟩
 ·rw [lk.k] at hc
  rcases ks3 c hc with ⟨_,e⟩ | ⟨h,_⟩
  ·rw [e]; exact r.z
  ·exact s.kv c h
 ·rw [lk.k] at hc
  rw [votes_houses] at hu
  rcases ks3 c hc with ⟨e1,e⟩ | ⟨h,n⟩
  ·rw [e]
   rcases hu with hu | ⟨_,hu⟩
   ·exact r.mo _ (s.vo _ km u (e1 ▸ hu))
   ·exact r.vt u hu
  ·rcases hu with hu | ⟨e,_⟩
   ·exact s.vo c h u hu
   ·exact absurd e n
 ·rw [votes_houses]
  refine ⟨fun y=>y.elim (fun y=>(s.li h hh u).mp y) fun ⟨e,_⟩=>absurd (e ▸ hh) (s.dj _ km),fun y=>.inl ((s.li h hh u).mpr y)⟩
 ·have hb:housesI ω.bd (ordI u) ≠ [] → housesI (Wd.votes { ω with way:=ω.way.eraseIdx i,ks:=setK ω.ks l.2.1 κ' } l.2.1 vs).bd (ordI u) ≠ []:=fun y=>by
   obtain ⟨x,hx⟩:=ne_mem y
   exact mem_ne ((votes_houses _ u x vs _).mpr (.inl hx))
  have hk:(∃ c ∈ setK ω.ks l.2.1 κ',u ∈ c.2.heard) → ∃ c ∈ (Wd.votes { ω with way:=ω.way.eraseIdx i,ks:=setK ω.ks l.2.1 κ' } l.2.1 vs).ks,u ∈ c.2.heard:=fun y=>by rw [lk.k]; exact y
  have own:(l.2.1,κ') ∈ setK ω.ks l.2.1 κ':=List.mem_map.mpr ⟨_,km,if_pos rfl⟩
  rcases s.al u hu with ⟨l',hl',e⟩ | ⟨c,hc,hu'⟩ | y
  ·rcases mem_erase_ix el hl' with z | z
   ·subst z
    cases eb:l'.1 with
    | true=>exact .inr (.inl (hk ⟨_,own,by rw [← e]; exact rb eb⟩))
    | false=>exact .inr (.inr (hb (by rw [← e]; exact lc eb)))
   ·exact .inl ⟨l',votes_way _ _ _ l' z,e⟩
  ·by_cases z:c.1 = l.2.1
   ·-- the same house: one keeper for each
    have y:c = (l.2.1,κ):=key_one nd hc km z
    exact .inr (.inl (hk ⟨_,own,r.hm u (by rw [y] at hu'; exact hu')⟩))
   ·exact .inr (.inl (hk ⟨c,List.mem_map.mpr ⟨c,hc,if_neg z⟩,hu'⟩))
  ·exact .inr (.inr (hb y))
 ·rw [lk.k] at hc
  rcases ks3 c hc with ⟨e1,_⟩ | ⟨h,_⟩
  ·rw [e1]; exact s.dj _ km
  ·exact s.dj c h
end
def plc (o:O) : Int × Int:=(o.p,o.n)
def keyP (o:O) : List Key:=[Sum.inl o.p,Sum.inl o.n]
def cS (a:List O × List (Int × Int)) (o:O) : List O × List (Int × Int):=match a.1.find? fun u=>decide (plc u = plc o) with
 | none=>(a.1 ++ [o],a.2)
 | some u=>if u = o then a else (a.1,a.2 ++ [plc o])
def cl (os:List O) : List O × List (Int × Int):=os.foldl cS ([],[])
def Cl (os:List O) (q:Int × Int) : Prop:=∃ o ∈ os,∃ u ∈ os,u ≠ o ∧ plc u = q ∧ plc o = q
structure CI (os:List O) (a:List O × List (Int × Int)) : Prop where
 i : ∀ u ∈ a.1,u ∈ os
 h : ∀ o ∈ os,∃ u ∈ a.1,plc u = plc o
 n:(a.1.map plc).Nodup
 v : ∀ q,q ∈ a.2 ↔ ∃ o ∈ os,∃ u ∈ a.1,u ≠ o ∧ plc u = q ∧ plc o = q
 l:a.2.length ≤ os.length
theorem plc_one {fs:List O} (nd:(fs.map plc).Nodup) {a b:O} (ha:a ∈ fs) (hb:b ∈ fs) (e:plc a = plc b) : a = b:=by
 induction fs with
 | nil=>cases ha
 | cons c cs ih=>
  rw [List.map_cons,List.nodup_cons] at nd
  rcases List.mem_cons.mp ha with h1 | h1 <;> rcases List.mem_cons.mp hb with h2 | h2
  ·rw [h1,h2]
  ·exact absurd (List.mem_map.mpr ⟨b,h2,by rw [← e,h1]⟩) nd.1
  ·exact absurd (List.mem_map.mpr ⟨a,h1,by rw [e,h2]⟩) nd.1
  ·exact ih nd.2 h1 h2
theorem CI.step {os:List O} {a:List O × List (Int × Int)} (c:CI os a) (o:O) : CI (os ++ [o]) (cS a o):=by
 have mem : ∀ {y},y ∈ os ++ [o] ↔ y ∈ os ∨ y = o:=fun {y}=>by rw [List.mem_append,List.mem_singleton]
 have ll:=c.l
 have l2:(os ++ [o]).length = os.length + 1:=by rw [List.length_append]; rfl
 unfold cS
 split
 ·rename_i e
  have no : ∀ u ∈ a.1,plc u ≠ plc o:=fun u hu=>by simpa using List.find?_eq_none.mp e u hu
  have mem1 : ∀ {y},y ∈ a.1 ++ [o] ↔ y ∈ a.1 ∨ y = o:=fun {y}=>by rw [List.mem_append,List.mem_singleton]
  refine ⟨fun u hu=>mem.mpr ((mem1.mp hu).imp (c.i u) id),fun u hu=>?_,?_,fun q=>⟨fun hq=>?_,fun hq=>?_⟩,by rw [l2]; show a.2.length ≤ _; omega⟩
  ·rcases mem.mp hu with hu | hu
   ·obtain ⟨f,hf,ef⟩:=c.h u hu
    exact ⟨f,mem1.mpr (.inl hf),ef⟩
   ·exact ⟨o,mem1.mpr (.inr rfl),by rw [hu]⟩
  ·show ((a.1 ++ [o]).map plc).Nodup
   rw [List.map_append]
   refine List.nodup_append.mpr ⟨c.n,by simp,fun x hx y hy e=>?_⟩
   obtain ⟨u,hu,rfl⟩:=List.mem_map.mp hx
   rw [List.map_singleton,List.mem_singleton] at hy
   exact no u hu (e.trans hy)
  ·obtain ⟨x,hx,u,hu,r⟩:=(c.v q).mp hq
   exact ⟨x,mem.mpr (.inl hx),u,mem1.mpr (.inl hu),r⟩
  ·obtain ⟨x,hx,u,hu,r1,r2,r3⟩:=hq
   rcases mem.mp hx with hx | hx <;> rcases mem1.mp hu with hu | hu
   ·exact (c.v q).mpr ⟨x,hx,u,hu,r1,r2,r3⟩
   ·obtain ⟨f,hf,ef⟩:=c.h x hx
    exact absurd (by rw [ef,r3,← r2,hu]) (no f hf)
   ·exact absurd (by rw [r2,← r3,hx]) (no u hu)
   ·exact absurd (by rw [hx,hu]) r1
 ·rename_i f e
  have fm:=List.mem_of_find?_eq_some e
  have fp:plc f = plc o:=by simpa using List.find?_some e
  have hh : ∀ u ∈ os ++ [o],∃ x ∈ a.1,plc x = plc u:=fun u hu=>by
   rcases mem.mp hu with hu | hu
   ·exact c.h u hu
   ·exact ⟨f,fm,by rw [fp,hu]⟩
  split
  ·rename_i z
   refine ⟨fun u hu=>mem.mpr (.inl (c.i u hu)),hh,c.n,fun q=>⟨fun hq=>?_,fun hq=>?_⟩,by rw [l2]; omega⟩
   ·obtain ⟨x,hx,r⟩:=(c.v q).mp hq
    exact ⟨x,mem.mpr (.inl hx),r⟩
   ·obtain ⟨x,hx,u,hu,r1,r2,r3⟩:=hq
    rcases mem.mp hx with hx | hx
    ·exact (c.v q).mpr ⟨x,hx,u,hu,r1,r2,r3⟩
    ·exact absurd (by rw [hx,← z]; exact plc_one c.n hu fm (by rw [r2,← r3,hx,fp])) r1
  ·rename_i z
   refine ⟨fun u hu=>mem.mpr (.inl (c.i u hu)),hh,c.n,fun q=>⟨fun hq=>?_,fun hq=>?_⟩,by rw [l2]; show (a.2 ++ [plc o]).length ≤ _; rw [List.length_append]; show a.2.length + 1 ≤ _; omega⟩
   ·rcases List.mem_append.mp hq with hq | hq
    ·obtain ⟨x,hx,r⟩:=(c.v q).mp hq
     exact ⟨x,mem.mpr (.inl hx),r⟩
    ·rw [List.mem_singleton] at hq
     exact ⟨o,mem.mpr (.inr rfl),f,fm,z,by rw [fp,hq],hq.symm⟩
   ·obtain ⟨x,hx,u,hu,r1,r2,r3⟩:=hq
    rcases mem.mp hx with hx | hx
    ·exact List.mem_append_left _ ((c.v q).mpr ⟨x,hx,u,hu,r1,r2,r3⟩)
    ·exact List.mem_append_right _ (List.mem_singleton.mpr (by rw [← r3,hx]))
theorem cl_snoc (os:List O) (o:O) : cl (os ++ [o]) = cS (cl os) o:=by
 unfold cl
 rw [List.foldl_append]
 rfl
theorem cl_ci : ∀ (n:Nat) (os:List O),os.length = n → CI os (cl os)
 | 0,os,e=>by
  rw [List.length_eq_zero_iff.mp e]
  exact ⟨fun _ z=>(by cases z),fun _ z=>(by cases z),List.nodup_nil,fun q=>⟨fun z=>(by cases z),fun ⟨_,z,_⟩=>(by cases z)⟩,Nat.le_refl _⟩
 | n + 1,os,e=>by
  have ne:os ≠ []:=fun z=>by rw [z] at e; cases e
  rw [← List.dropLast_concat_getLast ne,cl_snoc]
  exact (cl_ci n _ (by rw [List.length_dropLast,e]; rfl)).step _
theorem mem_cl {os:List O} {q:Int × Int} : q ∈ (cl os).2 ↔ Cl os q:=by
 have c:=cl_ci _ os rfl
 rw [c.v q]
 constructor
 ·rintro ⟨o,ho,u,hu,r⟩
  exact ⟨o,ho,u,c.i u hu,r⟩
 ·rintro ⟨o,ho,u,hu,r1,r2,r3⟩
  obtain ⟨f,hf,ef⟩:=c.h o ho
  by_cases z:f = o
  ·exact ⟨u,hu,f,hf,fun y=>r1 (by rw [← y,z]),by rw [ef,r3],r2⟩
  ·exact ⟨o,ho,f,hf,z,by rw [ef,r3],r3⟩
def FstP (H:Hp) (kvs:List (List Key × V)) (fs:List O) : Prop:=Paired (fun (kv:List Key × V) u=>kv.1 = keyP u ∧ OrdAt H kv.2 u) kvs fs
def PlAt (H:Hp) (v:V) (q:Int × Int) : Prop:=∃ b,v = .ref b ∧ H b = some (.tup [.int q.1,.int q.2])
theorem key_P {o u:O} : keyP o = keyP u ↔ plc o = plc u:=by simp [keyP,plc]
theorem fst_val {H:Hp} {o:O} : ∀ {kvs:List (List Key × V)} {fs:List O},FstP H kvs fs → (valV kvs (keyP o) = none ∧ (fs.find? fun u=>decide (plc u = plc o)) = none) ∨ ∃ v u,valV kvs (keyP o) = some v ∧ (fs.find? fun u=>decide (plc u = plc o)) = some u ∧ OrdAt H v u
 | _,_,.nil=>.inl ⟨rfl,rfl⟩
 | kv :: kvs,f :: fs,.cons ⟨e,h⟩ r=>by
  by_cases z:plc f = plc o
  ·exact .inr ⟨_,f,valV_pos (show kv.1 = _ by rw [e]; exact key_P.mpr z),List.find?_cons_of_pos (by simpa using z),h⟩
  ·rw [valV_neg (fun y=>z (key_P.mp (e.symm.trans y))),List.find?_cons_of_neg (by simpa using z)]
   exact fst_val r
def ordDt (o:O) : Dt:=.tup ((ordI o).map Dt.int)
theorem hasD_ord {H:Hp} {K:W.Frag} {x:V} {o:O} (h:OrdAt H x o) : HasD K H (ordDt o) x:=by
 obtain ⟨c,rfl,hc⟩:=h
 exact hasD_tupI (SqT.of hc)
theorem dep_ord (o:O) : depD (ordDt o) ≤ 60:=dep_tupI _
theorem eqD_ord (a b:O) : eqD (ordDt a) (ordDt b) = decide (a = b):=by
 unfold ordDt
 rw [eqD_tupI]
 have:(ordI a = ordI b) ↔ a = b:=⟨ordI_inj,fun z=>by rw [z]⟩
 simp [this]
def sp_cplaces:Sp:=fun vs H Q _=>∃ a xs os L,vs = [.ref a] ∧ H a = some (.lst xs) ∧ OrdsAt H xs os ∧ os.length ≤ 200000 ∧ (∀ o ∈ os,isOrd 8 o = true) ∧ (∀ o ∈ os,o ∈ (L:List O)) ∧ L.length ≤ 100 ∧
 ∀ r fs H',H r = none → Same H H' → H' r = some (.lst fs) → Paired (PlAt H') fs (cl os).2 → Q (.ref r) H'
theorem ok_clashing_places (T:Txt K mg t) : FnOk P w K mg base CX0 5 t.f_clashing_places t.d_clashing_places ["orders"] sp_cplaces:=by
 refine T.F_clashing_places.okA sc_clashing_places fun _ A _ s H vs Q E hr h=>?_
 obtain ⟨a,xs,os,L,rfl,ha,ho,lo,hall,oL,l100,k⟩:=h
 have lx:xs.length = os.length:=Paired.length ho
 refine ⟨_,(@pss_cons _ _ _ _ _ (ps_set (i:=1) sc_clashing_places.nd rfl (Or.inl rfl) pe_dnewT)
  (@pss_cons _ _ _ _ _ (@ps_set _ _ 2 _ _ _ _ sc_clashing_places.nd rfl (Or.inl rfl) (@pe_lst _ _ _ _ pa_nil) (by rfl) (by first | exact .inl rfl | exact .inr rfl))
  (@pss_cons _ _ _ _ _ (ps_for PassesOwn.never rfl (@pi_list _ _ _ _ (pv 0)) (pg_name (i:=3) sc_clashing_places.nd rfl (Or.inl rfl)) (@pss_one _ _ _ (ps_if (pt_cmpR (op_neD hr.units) (pe_dsetdef (hu_of hr) (pv 1) (pe_call (ok_place_of T) hr.dn rfl T.m_place_of T.F_place_of.kp T.b_place_of .nil pass0 (pa_more (pv 3) pa_nil)) (pv 3) ⟨rfl,rfl,rfl,rfl⟩) (pv 3) (nomark _)) (@pss_one _ _ _ (ps_expr (pe_bm PySem.F.plainAttrs_list PySem.F.slot_list_append PySem.F.type_list_append mt_append (pv 2) (pa_more (pe_call (ok_place_of T) hr.dn rfl T.m_place_of T.F_place_of.kp T.b_place_of .nil pass0 (pa_more (pv 3) pa_nil)) pa_nil)))) pss_nil)))
  (@pss_one _ _ _ (ps_ret (pv 2)))))),?_⟩
 refine fun D hD=>⟨zs0,fun F hF=>?_⟩
 obtain ⟨FD,hF0⟩:=upd_none' hF
 have hF0':H F = none:=hF0
 have s1:Same H (upd (upd H D (.dT [])) F (.lst [])):=(same_upd hD).trans (same_upd hF)
 have gD:upd (upd H D (.dT [])) F (.lst []) D = some (.dT []):=by rw [upd_ne (Ne.symm FD),upd_same]
 refine ⟨_,rfl,a,rfl,⟨_,SqL.of (s1 _ _ ha)⟩,for_list (K:=K) (a:=a) (xs:=xs) (fun i σ H'=>∃ v kvs fs,σ = [some (.ref a),some (.ref D),some (.ref F),v] ∧ Same H H' ∧ H' D = some (.dT kvs) ∧ FstP H' kvs (cl (os.take i)).1 ∧ H' F = some (.lst fs) ∧ Paired (PlAt H') fs (cl (os.take i)).2)
  ⟨none,[],[],rfl,s1,gD,.nil,upd_same,.nil⟩ (fun i σ H' _ ⟨_,_,_,_,s',_⟩=>SqL.of (s' _ _ ha)) ?_ ?_⟩
 ·rintro i x σ H' hx ⟨v,kvs,fs,rfl,s',hD',fp,hF',pf⟩
  obtain ⟨o,eo,hxo⟩:=ords_get ho hx
  obtain ⟨c,rfl,hc⟩:=OrdAt.same s' hxo
  have om:=List.mem_of_getElem? eo
  have hi:i < os.length:=(List.getElem?_eq_some_iff.mp eo).1
  have ho8:=hall o om
  have ci:=cl_ci _ (os.take i) rfl
  have lk:kvs.length ≤ 100:=by
   rw [Paired.length fp]
   have nd:(cl (os.take i)).1.Nodup:=nodup_of_map ci.n
   exact Nat.le_trans (nodup_len nd fun u hu=>oL u (List.mem_of_mem_take (ci.i u hu))) l100
  have lf:fs.length ≤ 200000:=by
   rw [Paired.length pf]
   have:=ci.l
   rw [List.length_take] at this
   omega
  rw [take_snoc eo,cl_snoc]
  generalize cl (os.take i) = A at fp pf
  refine ⟨_,rfl,D,rfl,.inr ⟨kvs,.inl hD'⟩,_,rfl,c,o,rfl,hc,ho8,fun q hq=>?_⟩
  have s2:=same_upd (o:=.tup [.int o.p,.int o.n]) hq
  have mapF : ∀ {G:Hp},(∀ v u,OrdAt H' v u → OrdAt G v u) → FstP G kvs A.1:=fun f=>Paired.mapP fp fun _ _ ⟨a,b⟩=>⟨a,f _ _ b⟩
  unfold cS
  refine ⟨_,rfl,kvs,keyP o,q,s2 _ _ hD',rfl,upd_same,small1000 (by omega),fun w hw=>?_,fun hw=>?_⟩
  ·rcases fst_val (o:=o) fp with ⟨z,_⟩ | ⟨v',u,e1,e2,hwu⟩
   ·rw [hw] at z; cases z
   rw [hw] at e1
   cases e1
   rw [e2]
   refine ⟨_,rfl,ordDt u,ordDt o,hasD_ord (OrdAt.same s2 hwu),hasD_ord ⟨c,rfl,s2 _ _ hc⟩,dep_ord _,_,rfl,?_⟩
   rw [eqD_ord]
   by_cases euo:u = o
   ·rw [decide_eq_true euo]
    dsimp only
    rw [if_pos euo]
    exact iteF ⟨_,kvs,fs,rfl,s'.trans s2,s2 _ _ hD',mapF fun v u h=>OrdAt.same s2 h,s2 _ _ hF',Paired.mapP pf fun _ _ ⟨b,e,hb⟩=>⟨b,e,s2 _ _ hb⟩⟩
   ·rw [decide_eq_false euo]
    dsimp only
    rw [if_neg euo]
    refine iteT ?_
    refine ⟨_,rfl,.inl ⟨rfl,_,SqL.of (s2 _ _ hF')⟩,_,rfl,c,o,rfl,s2 _ _ hc,ho8,fun q2 hq2=>?_⟩
    have s3:=s2.trans (same_upd (o:=.tup [.int o.p,.int o.n]) hq2)
    have hF3:=s3 _ _ hF'
    have hD3:=s3 _ _ hD'
    refine ⟨F,fs,_,rfl,rfl,hF3,big (by omega),?_⟩
    have q2F:q2 ≠ F:=fun z=>by rw [z] at hq2; rw [s2 _ _ hF'] at hq2; cases hq2
    refine ⟨_,kvs,fs ++ [.ref q2],rfl,fun b u' e=>?_,?_,mapF fun v u ⟨b,e,hb⟩=>⟨b,e,?_⟩,upd_same,paired_app (Paired.mapP pf fun _ _ ⟨b,e,hb⟩=>⟨b,e,?_⟩) ⟨q2,rfl,by rw [upd_ne q2F,upd_same]; rfl⟩⟩
    ·rw [upd_ne (ne_of_none e hF0')]
     exact s3 _ _ (s' _ _ e)
    ·rw [upd_ne (ne_of hD3 hF3 (by intro z; cases z))]
     exact hD3
    ·rw [upd_ne (ne_of (s3 _ _ hb) hF3 (by intro z; cases z))]
     exact s3 _ _ hb
    ·rw [upd_ne (ne_of (s3 _ _ hb) hF3 (by intro z; cases z))]
     exact s3 _ _ hb
  ·rcases fst_val (o:=o) fp with ⟨_,z⟩ | ⟨v',u,e1,_⟩
   rotate_left
   ·rw [hw] at e1; cases e1
   rw [z]
   rw [putK_new _ hw]
   have hD2:=s2 _ _ hD'
   have hF2:=s2 _ _ hF'
   have tup3 : ∀ v u,OrdAt H' v u → OrdAt (upd (upd H' q (.tup [.int o.p,.int o.n])) D (.dT (kvs ++ [(keyP o,.ref c)]))) v u:=fun v u ⟨b,e,hb⟩=>⟨b,e,by
    have hb3:=s2 _ _ hb
    rw [upd_ne (ne_of hb3 hD2 (by intro z; cases z))]
    exact hb3⟩
   have hco:=tup3 (.ref c) o ⟨c,rfl,hc⟩
   refine ⟨_,rfl,ordDt o,ordDt o,hasD_ord hco,hasD_ord hco,dep_ord _,_,rfl,?_⟩
   rw [eqD_ord,decide_eq_true rfl]
   refine iteF ⟨_,kvs ++ [(keyP o,.ref c)],fs,rfl,fun b u' e=>?_,upd_same,paired_app (mapF tup3) ⟨rfl,hco⟩,?_,Paired.mapP pf fun _ _ ⟨b,e,hb⟩=>⟨b,e,?_⟩⟩
   ·rw [upd_ne (ne_of_none e hD)]
    exact s2 _ _ (s' _ _ e)
   ·rw [upd_ne (ne_of hF2 hD2 (by intro z; cases z))]
    exact hF2
   ·have hb2:=s2 _ _ hb
    rw [upd_ne (ne_of hb2 hD2 (by intro z; cases z))]
    exact hb2
 ·rintro σ H' ⟨v,kvs,fs,rfl,s',hD',fp,hF',pf⟩
  rw [lx,List.take_length] at pf
  exact ⟨_,rfl,k F fs H' hF0 s' hF' pf⟩
def TownR (ρ : Rho) (To R:Addr) : Prop:=ρ To = some (9,.own 0) ∧ ρ R = some (9,.own 1)
def isTn:Role → Prop:=fun r=>r = (9,.own 0) ∨ r = (9,.own 1)
theorem draw_fr {ρ : Rho} {H H':Hp} {To R:Addr} (tr:TownR ρ To R) (k:KeepT To R H H') : Fr (isTn) ρ H ρ H':=fun a u e n=>⟨k a u e (fun z=>n (9,.own 0) (z ▸ tr.1) (.inl rfl)) (fun z=>n (9,.own 1) (z ▸ tr.2) (.inr rfl)),rfl⟩
theorem draw_kr {ρ : Rho} {H H':Hp} {To R:Addr} (kr:OkR ρ H) (hT:Town To R H') (k:KeepT To R H H') : OkR ρ H':=fun a r e=>by
 obtain ⟨row,c,t1,t2,_⟩:=hT
 by_cases z:a = To
 ·subst z
  exact ⟨_,t1,True.intro⟩
 ·by_cases y:a = R
  ·subst y
   exact ⟨_,t2,True.intro⟩
  ·obtain ⟨u,hu,nu⟩:=kr a r e
   exact ⟨u,k a u hu z y,nu⟩
def tupD (ts:List Int) : Dt:=.tup (ts.map Dt.int)
theorem hasDs_pair {α : Type} {K:W.Frag} {H:Hp} {F : α → Dt} {R:V → α → Prop} (h : ∀ x a,R x a → HasD K H (F a) x) : ∀ {xs:List V} {as:List α},Paired R xs as → HasDs K H (as.map F) xs
 | _,_,.nil=>by rw [List.map_nil,HasDs]
 | _,_,.cons a t=>by
  rw [List.map_cons,HasDs]
  exact ⟨_,_,rfl,h _ _ a,hasDs_pair h t⟩
theorem depDs_tups : ∀ ls:List (List Int),depDs (ls.map tupD) ≤ 10
 | []=>by rw [List.map_nil]; simp [depDs]
 | l :: ls=>by
  have:=depDs_tups ls
  rw [List.map_cons,depDs]
  have q : ∀ ts:List Int,depDs (ts.map Dt.int) ≤ 3:=fun ts=>by
   induction ts with
   | nil=>simp [depDs]
   | cons t ts ih=>
    rw [List.map_cons,depDs]
    simp [depD]
    omega
  have q2:depD (tupD l) ≤ 10:=by
   unfold tupD
   rw [depD]
   have:=q l
   omega
  omega
theorem eqDs_nilT {α : Type} (F : α → Dt) (ls:List α) : eqD (.lst (ls.map F)) (.lst []) = decide (ls = []):=by
 cases ls with
 | nil=>simp [eqD,eqDs]
 | cons l ls=>simp [eqD,eqDs]
theorem OkR.setR {ρ : Rho} {H:Hp} {a:Addr} {r:Role} {u:HO} (k:OkR ρ H) (h:H a = some u) (n:noTup u) : OkR (setR ρ a r) H:=fun b r' e=>by
 by_cases z:b = a
 ·subst z
  exact ⟨u,h,n⟩
 ·rw [setR_ne z] at e
  exact k b r' e
def Un (H:Hp) (ρ : Rho) (a:Addr) (xs:List V) : Prop:=H a = some (.lst xs) ∧ ρ a = none
theorem Un.fr {P:Role → Prop} {ρ ρ':Rho} {H H':Hp} {a:Addr} {xs:List V} (f:Fr P ρ H ρ' H') (h:Un H ρ a xs) : Un H' ρ' a xs:=fr_un f h.1 h.2
theorem town_fr {P:Role → Prop} {ρ ρ':Rho} {H H':Hp} {To R:Addr} (f:Fr P ρ H ρ' H') (n0 : ¬ P (9,.own 0)) (n1 : ¬ P (9,.own 1)) (h:Town To R H) (tr:TownR ρ To R) : Town To R H' ∧ TownR ρ' To R:=by
 obtain ⟨row,c,t1,t2,t3⟩:=h
 obtain ⟨a1,a2⟩:=fr_at f t1 tr.1 n0
 obtain ⟨a3,a4⟩:=fr_at f t2 tr.2 n1
 exact ⟨⟨row,c,a1,a3,t3⟩,a2,a4⟩
theorem tn_no {id:Nat} (h:id ≠ 9) (p:Part) : ¬ isTn (id,p):=fun z=>h (by rcases z with z | z <;> exact (Prod.mk.inj z).1)
theorem mk_same {H:Hp} {x dx:Addr} {C:Addr} (nx:H x = none) (ndx:H dx = none) (ne:dx ≠ x) {ρ : Rho} {r:Role} (kr:OkR ρ H) : Fr (fun _=>False) ρ H (setR ρ x r) (upd (upd H dx (.own x)) x (.ins C dx [])) ∧ OkR (setR ρ x r) (upd (upd H dx (.own x)) x (.ins C dx [])):=by
 have nx1:upd H dx (.own x) x = none:=by rw [upd_ne ne.symm]; exact nx
 exact ⟨(Fr.same (same_upd ndx)).trans (Fr.newR nx1),(kr.same (same_upd ndx)).newR⟩
theorem WorldR.same {t:Ad} {H H':Hp} {ρ : Rho} {id:Nat} {W:WA} {w:Wd} (s:Same H H') (O:WorldR t H ρ id W w) : WorldR t H' ρ id W w:=O.fr (P:=fun _=>False) (fun _ z=>z) (Fr.same s)
structure Pt where
 ns:List Int
 cs:List Int
 ls:List Int
 hs:List Int
structure Pt.Ok (p:Pt) : Prop where
 l2 : 2 ≤ p.ns.length
 l8:p.ns.length ≤ 8
 c : ∀ k ∈ p.cs,0 ≤ k ∧ k < (p.ns.length:Int)
 cl:p.cs.length ≤ 1000
 ll:p.ls.length ≤ 5
 h0 : 0 < p.hs.length
 h1:p.hs.length ≤ 16
 ct:p.cs.length ≤ 2
 lt:p.ls.length ≤ 2
 lr : ∀ x ∈ p.ls,0 ≤ x ∧ x < 8
 hr : ∀ x ∈ p.hs,0 ≤ x ∧ x < 8
 nd:(p.hs ++ p.ls).Nodup
structure Wl (t:Ad) (H:Hp) (ρ : Rho) (W:WA) (ω : Wd) (T:Nat) (L:List O) (sg:List (Int × O)) (p:Pt) : Prop where
 o:WorldR t H ρ 0 W ω
 kr:OkR ρ H
 ly:H W.ly = some (.lst (p.ls.map V.int)) ∧ ρ W.ly = none
 g:Gn ω T (1000 * T) L p.ls p.ns
 sh:Sh ω L sg p.ls
 n : ω.n = p.ns.length
 c : ω.cheats = p.cs
 h : ω.ks.map (·.1) = p.hs
 tot:W.tot = p.ns.sum
section
variable {t:Ad} {H H':Hp} {ρ ρ':Rho} {W:WA} {ω ω':Wd} {T:Nat} {L L2:List O} {sg sg2:List (Int × O)} {p:Pt} {P:Role → Prop} {To R:Addr}
theorem Wl.fr (f:Fr P ρ H ρ' H') (hP : ∀ q,¬ P (0,q)) (kr:OkR ρ' H') (w:Wl t H ρ W ω T L sg p) : Wl t H' ρ' W ω T L sg p:=⟨w.o.fr hP f,kr,fr_un f w.ly.1 w.ly.2,w.g,w.sh,w.n,w.c,w.h,w.tot⟩
theorem Wl.wait (w:Wl t H ρ W ω T L sg p) : Wl t H ρ W ω (T + 1) L sg p:=⟨w.o,w.kr,w.ly,w.g.mono (by omega) (by omega),w.sh,w.n,w.c,w.h,w.tot⟩
structure Sw (t:Ad) (H:Hp) (ρ : Rho) (W:WA) (ω : Wd) (T:Nat) (L:List O) (sg:List (Int × O)) (p:Pt) (To R:Addr) : Prop where
 w:Wl t H ρ W ω T L sg p
 tn:Town To R H
 tr:TownR ρ To R
theorem Sw.same (s:Same H H') (x:Sw t H ρ W ω T L sg p To R) : Sw t H' ρ W ω T L sg p To R:=⟨x.w.fr (P:=fun _=>False) (Fr.same s) (fun _ z=>z) (x.w.kr.same s),x.tn.same s,x.tr⟩
theorem Sw.draw (x:Sw t H ρ W ω T L sg p To R) (hT:Town To R H') (k:KeepT To R H H') : Sw t H' ρ W ω T L sg p To R ∧ Fr isTn ρ H ρ H':=⟨⟨x.w.fr (draw_fr x.tr k) (tn_no (by decide)) (draw_kr x.w.kr hT k),hT,x.tr⟩,draw_fr x.tr k⟩
theorem Sw.wait (x:Sw t H ρ W ω T L sg p To R) : Sw t H ρ W ω (T + 1) L sg p To R:=⟨x.w.wait,x.tn,x.tr⟩
def isGo:Role → Prop:=fun r=>r.1 = 0 ∨ isTn r
theorem Sw.go (x:Sw t H ρ W ω T L sg p To R) (f:Fr P ρ H ρ' H') (hP : ∀ r,P r → r.1 = 0) {T2:Nat} (w:Wl t H' ρ' W ω' T2 L2 sg2 p) : Sw t H' ρ' W ω' T2 L2 sg2 p To R ∧ Fr isGo ρ H ρ' H':=by
 obtain ⟨a,b⟩:=town_fr f (fun z=>by cases hP _ z) (fun z=>by cases hP _ z) x.tn x.tr
 exact ⟨⟨w,a,b⟩,f.mono fun r z=>.inl (hP r z)⟩
theorem go_tn (f:Fr isTn ρ H ρ' H') : Fr isGo ρ H ρ' H':=f.mono fun _ z=>.inr z
end
def Gos (t:Ad) (H:Hp) (ρ : Rho) (W:WA) (T:Nat) (L:List O) (sg:List (Int × O)) (p:Pt) (To R:Addr) (Q:VK) : Prop:=∀ ρ' H' ω' v,Sw t H' ρ' W ω' (T + 1) L sg p To R → Fr isGo ρ H ρ' H' → Q v H'
structure Ps (H:Hp) (ρ : Rho) (pa x:Addr) (crew few:Int) (fo ho be ro:Addr) (p:Pt) : Prop where
 tp:H pa = some (.tup [.ref x,.int crew,.int few,.ref fo,.ref ho,.ref be,.ref ro]) ∧ ρ pa = none
 fo:Un H ρ fo (p.ls.map V.int)
 ho:Un H ρ ho (p.hs.map V.int)
 be:Un H ρ be (p.ns.map V.int)
 ro:Un H ρ ro (p.cs.map V.int)
theorem Ps.fr {P:Role → Prop} {ρ ρ':Rho} {H H':Hp} {pa x fo ho be ro:Addr} {crew few:Int} {p:Pt} (f:Fr P ρ H ρ' H') (h:Ps H ρ pa x crew few fo ho be ro p) : Ps H' ρ' pa x crew few fo ho be ro p:=⟨fr_un f h.tp.1 h.tp.2,h.fo.fr f,h.ho.fr f,h.be.fr f,h.ro.fr f⟩
theorem Un.neT {t:Ad} {H:Hp} {ρ : Rho} {W:WA} {ω : Wd} {T:Nat} {L:List O} {sg:List (Int × O)} {p:Pt} {To R a:Addr} {xs:List V} (u:Un H ρ a xs) (x:Sw t H ρ W ω T L sg p To R) : a ≠ To ∧ a ≠ R:=⟨neu u.2 x.tr.1,neu u.2 x.tr.2⟩
def sp_town (K:W.Frag) : Sp:=fun vs H Q _=>∃ (a:Addr) (ns:List Int),vs = [.ref a] ∧ SqL K H a (ns.map V.int) ∧ ∀ T R H',H T = none → H R = none → Same H H' → Town T R H' → Q (.ref T) H'
def sp_draw:Sp:=fun vs H Q _=>∃ (T R:Addr) (m:Int),vs = [.ref T,.int m] ∧ Town T R H ∧ 1 ≤ m ∧ m < 1073741824 ∧ ∀ d H',0 ≤ d → d < m → Town T R H' → KeepT T R H H' → Q (.int d) H'
def sp_pick:Sp:=fun vs H Q _=>∃ (T R S:Addr) (xs:List V),vs = [.ref T,.ref S] ∧ Town T R H ∧ H S = some (.lst xs) ∧ S ≠ T ∧ S ≠ R ∧ 0 < xs.length ∧ xs.length ≤ 1000000 ∧
 ∀ (i:Nat) (x:V) (H':Hp),xs[i]? = some x → Town T R H' → KeepT T R H H' → Q x H'
theorem ok__law_town (T:Txt K mg t) : FnOk P w K mg base CX0 1 t.f__law_town t.d__law_town ["_law_script"] (sp_town K):=by
 refine T.F__law_town.okB (N:=["_law_script"]) fun _ A _ s H vs Q E hr h=>?_
 obtain ⟨a,ns,rfl,ha,k⟩:=h
 refine ⟨_,(@pss_one _ _ _ (ps_ret (@pe_lst _ _ _ _ (@pa_2 _ _ _ _ _ (pe_ifExp (pt_cmpR (op_neD hr.units) (pv 0) (@pe_lst _ _ _ _ pa_nil) (nomark _)) (pe_callTy call_list_of rfl T.n_list boot_list (pa_more (pv 0) pa_nil)) (@pe_lst _ _ _ _ (pa_more pe_int pa_nil))) pe_int rfl rfl)))),?_⟩
 refine ⟨_,rfl,zs0,fun p hp=>?_⟩
 have s1:=same_upd (o:=.lst []) hp
 refine ⟨.lst (ns.map Dt.int),.lst (([] : List Int).map Dt.int),hasD_listI (s1.seq ha),hasD_listI (SqL.of upd_same),dep_listI _,_,rfl,?_⟩
 rw [eqD_listI]
 refine ite2 (fun h1=>?_) (fun h1=>?_)
 ·have ne:=nd h1
  refine ⟨_,rfl,a,_,rfl,.inl (s1.seq ha),fun R hR=>?_⟩
  refine ⟨zs2,fun T' hT=>?_⟩
  have s2:=s1.trans (same_upd (o:=.lst (ns.map V.int)) hR)
  have nRT:R ≠ T':=ne_of_none upd_same hT
  refine k T' R _ (s2.free hT) (s1.free hR) (s2.trans (same_upd hT)) ⟨ns,0,upd_same,by rw [upd_ne nRT,upd_same],?_⟩
  cases ns with
  | nil=>exact absurd rfl ne
  | cons x r=>exact Nat.succ_pos _
 ·refine ⟨zs1,fun R hR=>?_⟩
  refine ⟨zs2,fun T' hT=>?_⟩
  have s2:=s1.trans (same_upd (o:=.lst [.int 0]) hR)
  have nRT:R ≠ T':=ne_of_none upd_same hT
  exact k T' R _ (s2.free hT) (s1.free hR) (s2.trans (same_upd hT)) ⟨[0],0,upd_same,by rw [upd_ne nRT,upd_same]; rfl,Nat.one_pos⟩
theorem ok__law_draw (T:Txt K mg t) : FnOk P w K mg base CX0 1 t.f__law_draw t.d__law_draw ["_law_town_here","_law_many"] sp_draw:=by
 refine T.F__law_draw.okA sc__law_draw fun _ A _ s H vs Q E hr h=>?_
 obtain ⟨To,R,m,rfl,hT,m1,m2,k⟩:=h
 have nTR:=hT.ne
 obtain ⟨row,c,h1,h2,h3⟩:=hT
 refine ⟨_,(@pss_cons _ _ _ _ _ (ps_set (i:=2) sc__law_draw.nd rfl (Or.inl rfl) (pe_ix ix_list (pv 0) pe_int (fun _ _=>rfl)))
  (@pss_cons _ _ _ _ _ (ps_asg (pe_op op_add (pe_ix ix_list (pv 0) pe_int (fun _ _=>rfl)) pe_int) (pg_sub (pv 0) pe_int set_list))
  (@pss_cons _ _ _ _ _ (ps_set (i:=3) sc__law_draw.nd rfl (Or.inl rfl) (pe_op op_mod (pe_ix ix_list (pv 0) pe_int (fun _ _=>rfl)) (pe_callB call_len_seq rfl T.n_len boot_len (pa_more (pv 2) pa_nil))))
  (@pss_cons _ _ _ _ _ (ps_set (i:=4) sc__law_draw.nd rfl (Or.inl rfl) (pe_ix ix_list (pv 2) (pv 3) (fun _ _=>rfl)))
  (@pss_cons _ _ _ _ _ (ps_if (pt_cmpR op_ge (pv 4) pe_int (nomark _)) (@pss_cons _ _ _ _ _ (ps_asg (pe_op op_fdiv (pv 4) (pv 1)) (pg_sub (pv 2) (pv 3) set_list))
  (@pss_one _ _ _ (ps_ret (pe_op op_mod (pv 4) (pv 1))))) pss_nil)
  (@pss_cons _ _ _ _ _ (ps_set (i:=5) sc__law_draw.nd rfl (Or.inl rfl) (pe_op op_mod (pe_op op_add (pv 4) (pe_op op_mul pe_int (pe_ix ix_list (pv 0) pe_int (fun _ _=>rfl)))) pe_int))
  (@pss_cons _ _ _ _ _ (ps_set (i:=5) sc__law_draw.nd rfl (Or.inl rfl) (pe_op op_mod (pe_op op_pow (pv 5) pe_int) pe_int))
  (@pss_one _ _ _ (ps_ret (pe_op op_mod (pe_op op_fdiv (pe_op op_mod (pe_op op_add (pe_op op_mul (pe_op op_fdiv (pv 5) pe_int) pe_int) (pv 5)) pe_int) pe_int) (pv 1))))))))))),?_⟩
 refine ⟨_,rfl,To,_,0,.ref R,rfl,rfl,SqL.of h1,rfl,?_⟩
 refine ⟨_,rfl,To,_,1,.int c,rfl,rfl,SqL.of h1,rfl,_,_,rfl,rfl,?_⟩
 refine ⟨_,rfl,To,_,1,1,rfl,rfl,h1,rfl,?_⟩
 have g1:(upd H To (.lst ([V.ref R,V.int c].set 1 (V.int (c + 1))))) To = some (.lst [.ref R,.int (c + 1)]):=upd_same
 have g2:(upd H To (.lst ([V.ref R,V.int c].set 1 (V.int (c + 1))))) R = some (.lst (row.map V.int)):=by rw [upd_ne nTR.symm]; exact h2
 have kp:KeepT To R H (upd H To (.lst ([V.ref R,V.int c].set 1 (V.int (c + 1))))):=fun b o e n1 _=>by rw [upd_ne n1]; exact e
 generalize upd H To (.lst ([V.ref R,V.int c].set 1 (V.int (c + 1)))) = H1 at g1 g2 kp
 have hl:(0:Int) < ((row.map V.int).length:Int):=by rw [List.length_map]; omega
 refine ⟨_,rfl,To,_,1,.int (c + 1),rfl,rfl,SqL.of g1,rfl,_,rfl,R,_,rfl,.inl (SqL.of g2),_,_,rfl,rfl,hl,?_⟩
 rw [List.length_map] at hl ⊢
 have b0 : 0 ≤ (c + 1) % (row.length:Int):=Int.emod_nonneg _ (by omega)
 have b1:(c + 1) % (row.length:Int) < (row.length:Int):=Int.emod_lt_of_pos _ hl
 have b2:((c + 1) % (row.length:Int)).toNat < row.length:=by omega
 refine ⟨_,rfl,_,rfl,R,_,((c + 1) % (row.length:Int)),_,rfl,rfl,SqL.of g2,atI_of b0 (get_map b2),?_⟩
 refine ⟨_,rfl,_,_,rfl,rfl,_,rfl,?_⟩
 refine ite2 (fun h5=>?_) (fun h5=>?_)
 ·refine ⟨_,rfl,_,rfl,_,_,rfl,rfl,⟨by omega,m2⟩,?_⟩
  refine ⟨_,rfl,_,rfl,R,_,((c + 1) % (row.length:Int)),_,rfl,rfl,g2,ixN_of b0 (by rw [List.length_map]; exact b2),?_⟩
  rw [set_map]
  refine ⟨_,rfl,_,rfl,_,_,rfl,rfl,(by show (0:Int) < m; omega),?_⟩
  refine k _ _ (Int.emod_nonneg _ (by omega)) (Int.emod_lt_of_pos _ (by omega)) ⟨_,c + 1,by rw [upd_ne nTR]; exact g1,upd_same,by rw [List.length_set]; exact h3⟩ fun b o e n1 n2=>?_
  rw [upd_ne n2]
  exact kp b o e n1 n2
 ·have big : ∀ z:Int,(z % 4294967291).natAbs < 2 ^ 64:=fun z=>by
   have u1:=Int.emod_nonneg z (show (4294967291:Int) ≠ 0 by decide)
   have u2:=Int.emod_lt_of_pos z (show (0:Int) < 4294967291 by decide)
   omega
  refine ⟨_,rfl,_,rfl,To,_,1,.int (c + 1),rfl,rfl,SqL.of g1,rfl,_,_,rfl,rfl,.inl ⟨by decide,by decide⟩,_,_,rfl,rfl,_,_,rfl,rfl,(by show (0:Int) < 4294967291; decide),?_⟩
  refine ⟨_,rfl,_,_,rfl,rfl,⟨by decide,by decide,big _⟩,_,_,rfl,rfl,(by show (0:Int) < 4294967279; decide),?_⟩
  refine ⟨_,rfl,_,_,rfl,rfl,⟨by decide,by decide⟩,_,_,rfl,rfl,.inr ⟨by decide,by decide⟩,_,rfl,_,_,rfl,rfl,_,_,rfl,rfl,(by show (0:Int) < 4294967231; decide),_,_,rfl,rfl,⟨by decide,by decide⟩,_,rfl,_,_,rfl,rfl,(by show (0:Int) < m; omega),?_⟩
  exact k _ _ (Int.emod_nonneg _ (by omega)) (Int.emod_lt_of_pos _ (by omega)) ⟨row,c + 1,g1,g2,h3⟩ kp
theorem ok__law_pick (T:Txt K mg t) : FnOk P w K mg base CX0 2 t.f__law_pick t.d__law_pick ["_law_town_here","_law_some_here"] sp_pick:=by
 refine T.F__law_pick.okB (N:=["_law_town_here","_law_some_here"]) fun _ A _ s H vs Q E hr h=>?_
 obtain ⟨To,R,S,xs,rfl,hT,hS,n1,n2,l0,l1,k⟩:=h
 refine ⟨_,(@pss_one _ _ _ (ps_ret (pe_ix ix_list (pv 1) (pe_call (ok__law_draw T) hr.dn rfl T.m__law_draw T.F__law_draw.kp T.b__law_draw .nil pass0 (@pa_2 _ _ _ _ _ (pv 0) (pe_callB call_len_seq rfl T.n_len boot_len (pa_more (pv 1) pa_nil)) rfl rfl)) (fun _ _=>rfl)))),?_⟩
 refine ⟨_,rfl,_,rfl,_,rfl,S,xs,rfl,.inl (SqL.of hS),To,R,_,rfl,hT,by omega,by omega,fun d H' d0 d1 hT' kp=>?_⟩
 have hd:d.toNat < xs.length:=by omega
 exact ⟨S,xs,d,xs[d.toNat],rfl,rfl,SqL.of (kp _ _ hS n1 n2),atI_of d0 (by simp [hd]),k d.toNat _ H' (by simp [hd]) hT' kp⟩
def sp_some:Sp:=fun vs H Q _=>∃ To R n m,vs = [.ref To,.int n,.int m] ∧ Town To R H ∧ 0 ≤ n ∧ n ≤ 16 ∧ ∀ r (ks:List Int) H',H r = none → Town To R H' → KeepT To R H H' → H' r = some (.lst (ks.map V.int)) → ks.Pairwise (· < ·) → (∀ k ∈ ks,0 ≤ k ∧ k < n) → (ks.length:Int) ≤ (if 0 ≤ m then m else 0) → Q (.ref r) H'
theorem ok__law_some (T:Txt K mg t) : FnOk P w K mg base CX0 2 t.f__law_some t.d__law_some ["_law_town_here","_law_size","_law_most"] sp_some:=by
 refine T.F__law_some.okA sc__law_some fun _ A _ s H vs Q E hr h=>?_
 obtain ⟨To,R,n,m,rfl,hT,n0,n6,k⟩:=h
 refine ⟨_,(@pss_cons _ _ _ _ _ (@ps_set _ _ 3 _ _ _ _ sc__law_some.nd rfl (Or.inl rfl) (@pe_lst _ _ _ _ pa_nil) (by rfl) (by first | exact .inl rfl | exact .inr rfl))
  (@pss_cons _ _ _ _ _ (ps_for PassesOwn.never rfl (pi_range1 rfl T.n_range (pa_more (pv 1) pa_nil)) (pg_name (i:=4) sc__law_some.nd rfl (Or.inl rfl)) (@pss_one _ _ _ (ps_if (PW.pt (pw_and (pt_cmpR op_lt (pe_callB call_len_seq rfl T.n_len boot_len (pa_more (pv 3) pa_nil)) (pv 2) (nomark _)) (pw_and1 (pt_cmpR op_eq (pe_call (ok__law_draw T) hr.dn rfl T.m__law_draw T.F__law_draw.kp T.b__law_draw .nil pass0 (@pa_2 _ _ _ _ _ (pv 0) pe_int rfl rfl)) pe_int (nomark _))))) (@pss_one _ _ _ (ps_expr (pe_bm PySem.F.plainAttrs_list PySem.F.slot_list_append PySem.F.type_list_append mt_append (pv 3) (pa_more (pv 4) pa_nil)))) pss_nil)))
  (@pss_one _ _ _ (ps_ret (pv 3))))),?_⟩
 refine ⟨zs0,fun r hr=>?_⟩
 have fr:=hT.fresh hr
 have s1:=same_upd (o:=.lst []) hr
 refine ⟨_,rfl,n,rfl,by omega,by omega,for_range (lo:=0) (n:=n.toNat) (fun i σ H'=>∃ (v:Option V) (ks:List Int),σ = [some (.ref To),some (.int n),some (.int m),some (.ref r),v] ∧ Town To R H' ∧ KeepT To R H H' ∧ H' r = some (.lst (ks.map V.int)) ∧ ks.length ≤ i ∧ (ks.length:Int) ≤ (if 0 ≤ m then m else 0) ∧ ks.Pairwise (· < ·) ∧ ∀ z ∈ ks,0 ≤ z ∧ z < (i:Int))
  ⟨none,[],rfl,hT.same s1,fun b o e _ _=>s1 _ _ e,upd_same,Nat.le_refl _,(by show (0:Int) ≤ _; split <;> omega),.nil,fun z hz=>by cases hz⟩ ?_ ?_⟩
 ·rintro i σ H' hi ⟨v,ks,rfl,hT',kp,hr',l,lm2,up,rg⟩
  have lm:(ks.map V.int).length = ks.length:=List.length_map ..
  refine ⟨_,rfl,r,_,rfl,.inl (SqL.of hr'),_,rfl,_,_,rfl,rfl,_,rfl,?_⟩
  have old : ∃ (v:Option V) (ks':List Int),[some (.ref To),some (.int n),some (.int m),some (.ref r),some (.int (0 + (i:Int)))] = [some (.ref To),some (.int n),some (.int m),some (.ref r),v] ∧ True:=⟨_,[],rfl,trivial⟩
  refine ite2 (fun h1=>?_) (fun h1=>?_)
  ·refine ⟨_,rfl,To,R,3,rfl,hT',by decide,by decide,fun d H2 d0 d1 hT2 kp2=>?_⟩
   have hr2:=kp2 _ _ hr' fr.1 fr.2
   have kpH:KeepT To R H H2:=fun b o e x1 x2=>kp2 _ _ (kp b o e x1 x2) x1 x2
   refine ⟨rfl,_,rfl,ite2 (fun h2=>?_) (fun h2=>?_)⟩
   ·refine ⟨_,rfl,.inl ⟨rfl,_,SqL.of hr2⟩,_,rfl,r,_,_,rfl,rfl,hr2,small1000 (by omega),?_⟩
    refine ⟨_,ks ++ [0 + (i:Int)],rfl,?_,fun b o e x1 x2=>?_,by rw [upd_same,List.map_append]; rfl,?_,?_,?_,fun z hz=>?_⟩
    ·obtain ⟨row,cc,t1,t2,t3⟩:=hT2
     exact ⟨row,cc,by rw [upd_ne (Ne.symm fr.1)]; exact t1,by rw [upd_ne (Ne.symm fr.2)]; exact t2,t3⟩
    ·rw [upd_ne (ne_of_none e hr)]
     exact kpH b o e x1 x2
    ·rw [List.length_append]
     show ks.length + 1 ≤ i + 1
     omega
    ·rw [List.length_append]
     have:(ks.length:Int) < m:=by
      have:=of_decide_eq_true h1
      rw [lm] at this
      exact this
     rw [if_pos (by omega)]
     show ((ks.length + 1:Nat) : Int) ≤ m
     omega
    ·rw [List.pairwise_append]
     refine ⟨up,List.pairwise_singleton _ _,fun x hx y hy=>?_⟩
     have:y = 0 + (i:Int):=by simpa using hy
     have:=rg x hx
     omega
    ·rcases List.mem_append.mp hz with y | y
     ·have:=rg z y
      omega
     ·have:z = 0 + (i:Int):=by simpa using y
      omega
   ·exact ⟨_,ks,rfl,hT2,kpH,hr2,by omega,lm2,up,fun z hz=>by have:=rg z hz; omega⟩
  ·exact iteF ⟨_,ks,rfl,hT',kp,hr',by omega,lm2,up,fun z hz=>by have:=rg z hz; omega⟩
 ·rintro σ H' ⟨v,ks,rfl,hT',kp,hr',l,lm2,up,rg⟩
  exact ⟨_,rfl,k r ks H' hr hT' kp hr' up (fun z hz=>by have:=rg z hz; omega) lm2⟩
theorem setK_keys (ks:List (Int × Kp)) (h:Int) (κ : Kp) : (setK ks h κ).map (·.1) = ks.map (·.1):=by
 unfold setK
 rw [List.map_map]
 refine List.map_congr_left fun c _=>?_
 show (if c.1 = h then (h,κ) else c).1 = c.1
 split
 ·rename_i z
  exact z.symm
 ·rfl
structure Wd.Kin (ω ω':Wd) : Prop where
 n : ω'.n = ω.n
 c : ω'.cheats = ω.cheats
 h : ω'.ks.map (·.1) = ω.ks.map (·.1)
theorem Wd.Like.kin {ω ω':Wd} (l : ω.Like ω') : ω.Kin ω':=⟨l.n,l.c,by rw [l.k]⟩
theorem come_kin (ω : Wd) (i:Nat) (l:Bool × Int × O) (κ : Kp) : ω.Kin (ω.come i l κ):=by
 have k:=votes_like l.2.1 (κ.take l.1 l.2.2).2 { ω with way:=ω.way.eraseIdx i,ks:=setK ω.ks l.2.1 (κ.take l.1 l.2.2).1 }
 refine ⟨k.n,k.c,?_⟩
 show (Wd.votes _ _ _).ks.map _ = _
 rw [k.k]
 exact setK_keys _ _ _
section
variable {t:Ad} {H H':Hp} {ρ ρ':Rho} {W:WA} {ω ω':Wd} {T:Nat} {p:Pt} {P:Role → Prop} {To R:Addr} {L L2:List O} {sg sg2:List (Int × O)}
theorem Wl.next (w:Wl t H ρ W ω T L sg p) (f:Fr P ρ H ρ' H') (O':WorldR t H' ρ' 0 W ω') (kr:OkR ρ' H') {T2:Nat} (g:Gn ω' T2 (1000 * T2) L2 p.ls p.ns) (s:Sh ω' L2 sg2 p.ls) (e : ω.Kin ω') : Wl t H' ρ' W ω' T2 L2 sg2 p:=⟨O',kr,fr_un f w.ly.1 w.ly.2,g,s,e.n.trans w.n,e.c.trans w.c,e.h.trans w.h,w.tot⟩
end
def sp_letter (t:Ad) : Sp:=fun vs H Q _=>∃ ρ W ω T L sg p To R,vs = [.ref To,.ref W.x] ∧ Sw t H ρ W ω T L sg p To R ∧ p.ls.length ≤ 5 ∧ T ≤ 46 ∧ Gos t H ρ W T L sg p To R Q
theorem ok__law_letter (T:Txt K mg t) : FnOk P w K mg base CX0 9 t.f__law_letter t.d__law_letter ["_law_town_here","_law_world_here"] (sp_letter t):=by
 refine T.F__law_letter.okA sc__law_letter fun _ A _ s H vs Q E hr h=>?_
 obtain ⟨ρ,W,ω,T',L,sg,p,To,R,rfl,S,l5,hT,k⟩:=h
 refine ⟨_,(@pss_cons _ _ _ _ _ (ps_set (i:=2) sc__law_letter.nd rfl (Or.inl rfl) (pe_callB call_len_seq rfl T.n_len boot_len (pa_more (pe_meth0 (pv 1) T.cl_World T.mt_World_letters (ok_World_letters T) hr.dn T.b_World_letters .nil pass0) pa_nil)))
  (@pss_one _ _ _ (ps_ret (pe_ifExp (pt_cmpR op_gt (pv 2) pe_int (nomark _)) (pe_meth (pv 1) T.cl_World T.mt_World_come (ok_World_come T) hr.dn T.b_World_come .nil pass0 (pa_more (pe_call (ok__law_draw T) hr.dn rfl T.m__law_draw T.F__law_draw.kp T.b__law_draw .nil pass0 (@pa_2 _ _ _ _ _ (pv 0) (pv 2) rfl rfl)) pa_nil)) pe_non)))),?_⟩
 have g:=S.w.g
 have wl:=g.wl
 refine ⟨_,rfl,W.x,W.dx,_,rfl,S.w.o.ob.1,wof_no,ρ,0,W,ω,rfl,S.w.o,by omega,fun r xs nr px=>?_⟩
 have lx:xs.length = ω.way.length:=Paired.length px
 have s1:=same_upd (o:=.lst xs) nr
 refine ⟨r,xs,rfl,.inl (SqL.of upd_same),?_⟩
 have S1:=S.same s1
 have f1:Fr isGo ρ H ρ (upd H r (.lst xs)):=Fr.same s1
 generalize upd H r (.lst xs) = H1 at S1 f1
 refine ⟨_,rfl,_,_,rfl,rfl,_,rfl,ite2 (fun z=>?_) (fun z=>k ρ _ ω _ S1.wait f1)⟩
 have pw : 0 < ω.way.length:=by
  have:=of_decide_eq_true z
  omega
 refine ⟨_,rfl,W.x,W.dx,_,rfl,S1.w.o.ob.1,wof_no,_,rfl,_,rfl,To,R,(xs.length:Int),rfl,S1.tn,by omega,by omega,fun d H2 d0 d1 hT2 k2=>?_⟩
 obtain ⟨S2,f2⟩:=S1.draw hT2 k2
 obtain ⟨l,el⟩ : ∃ l,ω.way[d.toNat]? = some l:=⟨_,List.getElem?_eq_getElem (by omega)⟩
 obtain ⟨lL,lh,lc⟩:=g.g.y l (List.mem_of_getElem? el)
 obtain ⟨κ,ek,km⟩:=keep_of lh
 have kk:KIn L T' ω.n κ:=(g.ks _ km).1
 have ll:=(kk.take l.1 lL (g.lo _ lL)).2.2
 have e1:=kk.sz.hd
 have e2:=kk.sz.uc
 have e3:=kk.sz.dw
 have z0:=g.l
 have z1:=g.ok.k1
 have z2:=Nat.le_trans (show p.ls.length ≤ 5 from l5) (show 5 ≤ 900 by decide)
 refine ⟨ρ,0,W,ω,d.toNat,l,κ,_,_,_,by rw [Int.toNat_of_nonneg d0]; rfl,S2.w.o,S2.w.kr,el,ek,g.ok.nd,kk.ok,g.ok.n8,g.lo _ lL,⟨by omega,by omega,by omega⟩,g.sz,by omega,by omega,by omega,fun ρ' H' x O' f' kr' ux=>?_⟩
 have g2:=(g.come el ek).mono (T':=T' + 1) (M':=1000 * (T' + 1)) (Nat.le_refl _) (by omega)
 obtain ⟨S3,f3⟩:=S2.go f' (fun _ z=>z) (S2.w.next f' O' kr' g2 (S.w.sh.come g.ok.nd el km lL fun e z=>by have h1:=of_decide_eq_true (lc e); have h2:=g.e1; rw [z] at h1; have h3 : ω.en ≤ 0:=h1; omega) (come_kin ω d.toNat l κ))
 exact k ρ' H' _ _ S3 ((f1.trans (go_tn f2)).trans f3)
theorem goal2 {p n d:Int} (h0 : 0 ≤ p) (h1:p < n) (d0 : 0 ≤ d) (d1:d < n - 1) : 0 ≤ (p + 1 + d) % n ∧ (p + 1 + d) % n < n ∧ (p + 1 + d) % n ≠ p:=by
 refine ⟨Int.emod_nonneg _ (by omega),Int.emod_lt_of_pos _ (by omega),fun z=>?_⟩
 have e:=Int.mul_ediv_add_emod (p + 1 + d) n
 rw [z] at e
 generalize (p + 1 + d) / n = q at e
 by_cases y:q ≤ 0
 ·have:=Int.mul_le_mul_of_nonneg_left y (show 0 ≤ n by omega)
  omega
 ·have:=Int.mul_le_mul_of_nonneg_left (show 1 ≤ q by omega) (show 0 ≤ n by omega)
  omega
def sp_order (t:Ad) : Sp:=fun vs H Q _=>∃ ρ W ω T L sg p To R pa crew few fo ho be ro pu,vs = [.ref To,.ref pa,.int pu] ∧ Sw t H ρ W ω T L sg p To R ∧ Ps H ρ pa W.x crew few fo ho be ro p ∧ p.Ok ∧ 0 ≤ pu ∧ pu < (p.ns.length:Int) ∧
 ∀ H' q o,Sw t H' ρ W ω T L sg p To R → Fr isTn ρ H ρ H' → OrdU H' ρ (.ref q) o → isOrd p.ns.length o = true → o.p = pu → Q (.ref q) H'
theorem ok__law_order (T:Txt K mg t) : FnOk P w K mg base CX0 3 t.f__law_order t.d__law_order ["_law_town_here","_law_parts","_law_purse"] (sp_order t):=by
 refine T.F__law_order.okA sc__law_order fun _ A _ s H vs Q E hr h=>?_
 obtain ⟨ρ,W,ω,T',L,sg,p,To,R,pa,crew,few,fo,ho,be,ro,pu,rfl,S,B,ok,p0,p1,k⟩:=h
 refine ⟨_,(@pss_cons _ _ _ _ _ (ps_set (i:=3) sc__law_order.nd rfl (Or.inl rfl) (pe_callB call_len_seq rfl T.n_len boot_len (pa_more (pe_ix ix_tup (pv 1) pe_int (fun _ _=>rfl)) pa_nil)))
  (@pss_cons _ _ _ _ _ (ps_set (i:=4) sc__law_order.nd rfl (Or.inl rfl) (pe_op op_mod (pe_op op_add (pe_op op_add (pv 2) pe_int) (pe_call (ok__law_draw T) hr.dn rfl T.m__law_draw T.F__law_draw.kp T.b__law_draw .nil pass0 (@pa_2 _ _ _ _ _ (pv 0) (pe_op op_sub (pv 3) pe_int) rfl rfl))) (pv 3)))
  (@pss_one _ _ _ (ps_ret (@pe_tup _ _ _ _ _ (@pa_4 _ _ _ _ _ _ _ _ _ (pv 2) (pe_call (ok__law_draw T) hr.dn rfl T.m__law_draw T.F__law_draw.kp T.b__law_draw .nil pass0 (@pa_2 _ _ _ _ _ (pv 0) pe_int rfl rfl)) (pv 4) (pe_op op_add pe_int (pe_call (ok__law_pick T) hr.dn rfl T.m__law_pick T.F__law_pick.kp T.b__law_pick .nil pass0 (@pa_2 _ _ _ _ _ (pv 0) (@pe_lst _ _ _ _ (@pa_3 _ _ _ _ _ _ _ pe_int pe_int (pe_call (ok__law_draw T) hr.dn rfl T.m__law_draw T.F__law_draw.kp T.b__law_draw .nil pass0 (@pa_2 _ _ _ _ _ (pv 0) pe_int rfl rfl)) rfl rfl rfl)) rfl rfl))) rfl rfl rfl rfl)))))),?_⟩
 have l2:=ok.l2
 have l8:=ok.l8
 refine ⟨_,rfl,pa,_,5,.ref be,rfl,rfl,SqT.of B.tp.1,rfl,be,_,rfl,.inl (SqL.of B.be.1),?_⟩
 rw [List.length_map]
 refine ⟨_,rfl,_,_,rfl,rfl,_,rfl,_,rfl,_,_,rfl,rfl,To,R,(p.ns.length:Int) - 1,rfl,S.tn,by omega,by omega,fun d H1 d0 d1 hT1 k1=>?_⟩
 obtain ⟨S1,f1⟩:=S.draw hT1 k1
 obtain ⟨g0,g1,g2⟩:=goal2 p0 p1 d0 d1
 refine ⟨_,_,rfl,rfl,_,rfl,_,_,rfl,rfl,(by show (0:Int) < (p.ns.length:Int); omega),?_⟩
 refine ⟨_,rfl,_,rfl,To,R,3,rfl,S1.tn,by decide,by decide,fun n H2 n0 n1 hT2 k2=>?_⟩
 obtain ⟨S2,f2⟩:=S1.draw hT2 k2
 refine ⟨_,rfl,_,rfl,_,rfl,To,R,12,rfl,S2.tn,by decide,by decide,fun m H3 m0 m1 hT3 k3=>?_⟩
 obtain ⟨S3,f3⟩:=S2.draw hT3 k3
 refine ⟨zs3,fun l nl=>?_⟩
 have s3:=same_upd (o:=.lst [.int 0,.int 4,.int m]) nl
 have S3':=S3.same s3
 obtain ⟨n1',n2'⟩:=S3.tn.fresh nl
 refine ⟨To,R,l,_,rfl,S3'.tn,upd_same,n1',n2',by show 0 < 3; decide,by show 3 ≤ 1000000; decide,fun i x H4 ex hT4 k4=>?_⟩
 obtain ⟨S4,f4⟩:=S3'.draw hT4 k4
 obtain ⟨v,rfl,v0,v1⟩ : ∃ v,x = V.int v ∧ 0 ≤ v ∧ v ≤ 12:=by
  have:=List.mem_of_getElem? ex
  simp only [List.mem_cons,List.not_mem_nil,or_false] at this
  rcases this with rfl | rfl | rfl
  ·exact ⟨0,rfl,by decide,by decide⟩
  ·exact ⟨4,rfl,by decide,by decide⟩
  ·exact ⟨m,rfl,m0,by omega⟩
 refine ⟨_,_,rfl,rfl,zs4,fun q nq=>?_⟩
 have s5:=same_upd (o:=.tup [.int pu,.int n,.int ((pu + 1 + d) % (p.ns.length:Int)),.int (1 + v)]) nq
 refine k _ q ⟨pu,n,(pu + 1 + d) % (p.ns.length:Int),1 + v⟩ (S4.same s5) ((((f1.trans f2).trans f3).trans (Fr.same s3)).trans (f4.trans (Fr.same s5))) ⟨q,rfl,S4.w.kr.none nq,upd_same⟩ (isOrd_iff.mpr ⟨p0,by show pu ≤ (p.ns.length:Int) - 1; omega,g0,by show (pu + 1 + d) % (p.ns.length:Int) ≤ (p.ns.length:Int) - 1; omega,fun y=>g2 y.symm,n0,by show n ≤ 99; omega,by show 1 ≤ 1 + v; omega,by show 1 + v ≤ 1000; omega⟩) rfl
theorem int_at {zs:List Int} {i:Nat} {x:V} (e:(zs.map V.int)[i]? = some x) : ∃ z,z ∈ zs ∧ x = .int z:=by
 obtain ⟨z,hz,e⟩:=List.mem_map.mp (List.mem_of_getElem? e)
 exact ⟨z,hz,e.symm⟩
structure Tw (H:Hp) (ρ : Rho) (To R:Addr) : Prop where
 kr:OkR ρ H
 tn:Town To R H
 tr:TownR ρ To R
section
variable {H H':Hp} {ρ : Rho} {To R:Addr}
theorem Tw.same (s:Same H H') (x:Tw H ρ To R) : Tw H' ρ To R:=⟨x.kr.same s,x.tn.same s,x.tr⟩
theorem Tw.draw (x:Tw H ρ To R) (hT:Town To R H') (k:KeepT To R H H') : Tw H' ρ To R ∧ Fr isTn ρ H ρ H':=⟨⟨draw_kr x.kr hT k,hT,x.tr⟩,draw_fr x.tr k⟩
end
theorem crew_mem {ls:List Int} {n:Nat} {x:Int} : x ∈ crew ls n ↔ (0 ≤ x ∧ x < (n:Int)) ∧ x ∉ ls:=by
 unfold crew
 rw [List.mem_filter,List.mem_map]
 constructor
 ·rintro ⟨⟨i,hi,rfl⟩,h⟩
  exact ⟨⟨by omega,by have:=List.mem_range.mp hi; omega⟩,by simpa using h⟩
 ·rintro ⟨⟨h0,h1⟩,h⟩
  exact ⟨⟨x.toNat,List.mem_range.mpr (by omega),by omega⟩,by simpa using h⟩
theorem crew_nd {ls:List Int} {n:Nat} (up:ls.Pairwise (· < ·)) : (crew ls n ++ ls).Nodup:=by
 refine List.nodup_append.mpr ⟨?_,up.imp fun h=>Int.ne_of_lt h,fun x hx y hy e=>(crew_mem.mp hx).2 (e ▸ hy)⟩
 unfold crew
 exact List.Pairwise.filter _ (List.Pairwise.map _ (fun a b hab z=>hab (Int.ofNat.inj z)) List.nodup_range)
theorem w0_sh {h f:Int} {ns cs ls:List Int} : Sh (w0 h f ns cs ls) [] [] ls:=by
 have kall : ∀ c ∈ (w0 h f ns cs ls).ks,c.2 = kp0 ns ∧ c.1 ∈ crew ls h.toNat:=fun c hc=>by
  obtain ⟨i,hi,rfl⟩:=List.mem_map.mp (show c ∈ (crew ls h.toNat).map fun i=>(i,kp0 ns) from hc)
  exact ⟨rfl,hi⟩
 refine ⟨fun c hc=>by rw [(kall c hc).1]; exact ⟨fun _ z=>(by cases z),List.nodup_nil,fun _ z=>(by cases z)⟩,fun _ _ _ z=>(by cases z),fun _ _ _=>⟨fun z=>(by cases z),fun z=>(by cases z)⟩,fun _ z=>(by cases z),fun _ z=>(by cases z),fun c hc=>(crew_mem.mp (kall c hc).2).2,fun _ z=>(by cases z)⟩
def sp_world (t:Ad) : Sp:=fun vs H Q _=>∃ ρ To R,vs = [.ref To] ∧ Tw H ρ To R ∧
 ∀ ρ' H' W ω pa cr few fo ho be ro p,p.Ok → Sw t H' ρ' W ω 0 [] [] p To R → Ps H' ρ' pa W.x cr few fo ho be ro p → Q (.ref pa) H'
set_option maxHeartbeats 0 in
theorem ok__law_world (T:Txt K mg t) : FnOk P w K mg base CX0 8 t.f__law_world t.d__law_world ["_law_town_here"] (sp_world t):=by
 refine T.F__law_world.okA sc__law_world fun _ A _ s H vs Q E hr h=>?_
 obtain ⟨ρ,To,R,rfl,S,k⟩:=h
 refine ⟨_,(@pss_cons _ _ _ _ _ (ps_set (i:=1) sc__law_world.nd rfl (Or.inl rfl) (pe_call (ok__law_draw T) hr.dn rfl T.m__law_draw T.F__law_draw.kp T.b__law_draw .nil pass0 (@pa_2 _ _ _ _ _ (pv 0) pe_int rfl rfl)))
  (@pss_cons _ _ _ _ _ (ps_set (i:=2) sc__law_world.nd rfl (Or.inl rfl) (pe_op op_add (pe_op op_add (pe_op op_mul pe_int (pv 1)) pe_int) (pe_call (ok__law_draw T) hr.dn rfl T.m__law_draw T.F__law_draw.kp T.b__law_draw .nil pass0 (@pa_2 _ _ _ _ _ (pv 0) pe_int rfl rfl))))
  (@pss_cons _ _ _ _ _ (ps_set (i:=3) sc__law_world.nd rfl (Or.inr rfl) (pe_call (ok__law_some T) hr.dn rfl T.m__law_some T.F__law_some.kp T.b__law_some .nil pass0 (@pa_3 _ _ _ _ _ _ _ (pv 0) (pv 2) (pv 1) rfl rfl rfl)))
  (@pss_cons _ _ _ _ _ (ps_lcomp (i:=4) sc__law_world.nd rfl rfl (N':=["_law_k","_law_town_here"]) (ix:=[none,some 0]) (compOk_is (by kernel_rfl)) rfl (pi_range1 rfl T.n_range (pa_more (pe_op op_add pe_int (pe_call (ok__law_draw T) hr.dn rfl T.m__law_draw T.F__law_draw.kp T.b__law_draw .nil pass0 (@pa_2 _ _ _ _ _ (pv 0) pe_int rfl rfl))) pa_nil)) (fun _ _ _ _=>(pg_name (i:=0) nd_4 rfl (Or.inl rfl) (.inr rfl))) (fun _ _ _ _=>pif_nil) (fun _ _ _ _=>(pe_call (ok__law_pick T) hr.dn rfl T.m__law_pick T.F__law_pick.kp T.b__law_pick .nil pass0 (@pa_2 _ _ _ _ _ (pv 1) (@pe_lst _ _ _ _ (@pa_5 _ _ _ _ _ _ _ _ _ _ _ pe_int pe_int pe_int pe_int (pe_call (ok__law_draw T) hr.dn rfl T.m__law_draw T.F__law_draw.kp T.b__law_draw .nil pass0 (@pa_2 _ _ _ _ _ (pv 1) pe_int rfl rfl)) rfl rfl rfl rfl rfl)) rfl rfl))))
  (@pss_cons _ _ _ _ _ (ps_set (i:=5) sc__law_world.nd rfl (Or.inl rfl) (pe_call (ok__law_some T) hr.dn rfl T.m__law_some T.F__law_some.kp T.b__law_some .nil pass0 (@pa_3 _ _ _ _ _ _ _ (pv 0) (pe_callB call_len_seq rfl T.n_len boot_len (pa_more (pv 4) pa_nil)) pe_int rfl rfl rfl)))
  (@pss_cons _ _ _ _ _ (ps_set (i:=6) sc__law_world.nd rfl (Or.inl rfl) (pe_makeK T.mk_World (ok_World___init__ T) hr.dn rfl T.m_World T.bk0_World___init__ pass0 (pa_more (pv 2) pa_nil) (pk_cons (pv 1) (pk_cons (pv 4) (pk_cons (pv 3) (pk_cons (pv 5) pk_nil))))))
  (@pss_one _ _ _ (ps_ret (@pe_tup _ _ _ _ _ (@pa_7 _ _ _ _ _ _ _ _ _ _ _ _ _ _ _ (pv 6) (pv 2) (pv 1) (pv 3) (pe_lcomp (N':=["_law_k","_law_foes"]) (ix:=[none,some 3]) (compOk_is (by kernel_rfl)) rfl (pi_range1 rfl T.n_range (pa_more (pv 2) pa_nil)) (fun _ _ _ _=>(pg_name (i:=0) nd_3 rfl (Or.inl rfl) (.inr rfl))) (fun _ _ _ _=>(pif_one (pt_cmpR (op_notIn_seqK (K:=K) rfl) (pv 0) (pv 1) (by with_unfolding_all rfl)))) (fun _ _ _ _=>(pv 0))) (pv 4) (pv 5) rfl rfl rfl rfl rfl rfl rfl)))))))))),?_⟩
 refine ⟨_,rfl,To,R,3,rfl,S.tn,by decide,by decide,fun f H1 f0 f1 hT1 k1=>?_⟩
 obtain ⟨S1,r1⟩:=S.draw hT1 k1
 refine ⟨_,rfl,_,_,rfl,rfl,.inl ⟨by decide,by decide⟩,_,_,rfl,rfl,_,rfl,To,R,2,rfl,S1.tn,by decide,by decide,fun d H2 d0 d1 hT2 k2=>?_⟩
 obtain ⟨S2,r2⟩:=S1.draw hT2 k2
 have F2:=r1.trans r2
 obtain ⟨h,eh⟩ : ∃ h:Int,h = 3 * f + 1 + d:=⟨_,rfl⟩
 refine ⟨_,_,rfl,rfl,?_⟩
 dsimp only
 rw [← eh]
 have h1 : 1 ≤ h:=by omega
 have h8:h ≤ 16:=by omega
 have lt : 3 * f < h:=by omega
 refine ⟨_,rfl,_,rfl,_,rfl,To,R,h,f,rfl,S2.tn,by omega,by omega,fun fo ls H3 nfo hT3 k3 hfo upl rgl lnl=>?_⟩
 rw [if_pos f0] at lnl
 obtain ⟨S3,r3⟩:=S2.draw hT3 k3
 have F3:=F2.trans r3
 have U3:Un H3 ρ fo (ls.map V.int):=⟨hfo,S2.kr.none nfo⟩
 show gName 3 (.ref fo) [some (.ref To),some (.int f),some (.int h),none,none,none,none] H3 _
 refine ⟨_,rfl,To,R,3,rfl,S3.tn,by decide,by decide,fun c H4 c0 c1 hT4 k4=>?_⟩
 obtain ⟨S4,r4⟩:=S3.draw hT4 k4
 have U4:=U3.fr r4
 have F4:=F3.trans r4
 refine ⟨_,_,rfl,rfl,2 + c,rfl,by omega,by omega,lc_range (lo:=0) (n:=(2 + c).toNat) (fun i ys σ H'=>∃ v zs,σ = [v,some (.ref To)] ∧ ys = (zs:List Int).map V.int ∧ zs.length = i ∧ (∀ z ∈ zs,0 ≤ z ∧ z ≤ 1000) ∧ Tw H' ρ To R ∧ Fr isTn ρ H4 ρ H') ⟨none,[],rfl,rfl,rfl,(fun _ z=>by cases z),S4,Fr.refl⟩ ?_ ?_ ?_⟩
 ·rintro i ys σ H' hi ⟨v,zs,rfl,rfl,lz,_⟩
  rw [List.length_map]
  exact bigL (by omega)
 ·rintro i ys σ H' hi ⟨v,zs,rfl,rfl,lz,rz,S5,r5⟩
  dsimp only [gName,tYes]
  rw [if_pos rfl]
  refine ⟨_,rfl,_,rfl,To,R,40,rfl,S5.tn,by decide,by decide,fun m H6 m0 m1 hT6 k6=>?_⟩
  obtain ⟨S6,r6⟩:=S5.draw hT6 k6
  refine ⟨zs5,fun l nl=>?_⟩
  have s7:=same_upd (o:=.lst ([0,5,20,1000,m].map V.int)) nl
  have S7:=S6.same s7
  obtain ⟨n1,n2⟩:=S6.tn.fresh nl
  refine ⟨To,R,l,[0,5,20,1000,m].map V.int,rfl,S7.tn,upd_same,n1,n2,by show 0 < 5; decide,by show 5 ≤ 1000000; decide,fun j x H8 ex hT8 k8=>?_⟩
  obtain ⟨S8,r8⟩:=S7.draw hT8 k8
  obtain ⟨z,hz,rfl⟩:=int_at ex
  refine ⟨_,zs ++ [z],rfl,by rw [List.map_append]; rfl,by rw [List.length_append,lz]; rfl,fun y hy=>?_,S8,(r5.trans r6).trans ((Fr.same s7).trans r8)⟩
  rcases List.mem_append.mp hy with hy | hy
  ·exact rz y hy
  ·rw [List.mem_singleton.mp hy]
   simp only [List.mem_cons,List.not_mem_nil,or_false] at hz
   rcases hz with rfl | rfl | rfl | rfl | rfl <;> omega
 rintro ys σ H5 ⟨v,ns,rfl,rfl,lz,rz,S5,r5⟩ be nbe
 have s6:=same_upd (o:=.lst (ns.map V.int)) nbe
 have S6:=S5.same s6
 have Ube:Un (upd H5 be (.lst (ns.map V.int))) ρ be (ns.map V.int):=⟨upd_same,S5.kr.none nbe⟩
 have Ufo:Un (upd H5 be (.lst (ns.map V.int))) ρ fo (ls.map V.int):=(U4.fr r5).fr (P:=fun _=>False) (Fr.same s6)
 have F6:Fr isTn ρ H ρ (upd H5 be (.lst (ns.map V.int))):=(F4.trans r5).trans (Fr.same s6)
 generalize upd H5 be (.lst (ns.map V.int)) = H6 at S6 Ube Ufo F6
 show gName 4 (.ref be) [some (.ref To),some (.int f),some (.int h),some (.ref fo),none,none,none] H6 _
 refine ⟨_,rfl,_,rfl,be,_,rfl,.inl (SqL.of Ube.1),?_⟩
 rw [List.length_map]
 refine ⟨To,R,(ns.length:Int),2,rfl,S6.tn,by omega,by omega,fun ro cs H7 nro hT7 k7 hro upc rgc lnc=>?_⟩
 rw [if_pos (by decide)] at lnc
 obtain ⟨S7,r7⟩:=S6.draw hT7 k7
 have Uro:Un H7 ρ ro (cs.map V.int):=⟨hro,S6.kr.none nro⟩
 have Ube7:=Ube.fr r7
 have Ufo7:=Ufo.fr r7
 have F7:=F6.trans r7
 show gName 5 (.ref ro) [some (.ref To),some (.int f),some (.int h),some (.ref fo),some (.ref be),none,none] H7 _
 refine ⟨_,rfl,_,rfl,_,rfl,_,rfl,_,rfl,fun x dx nx ndx ne=>?_⟩
 obtain ⟨fm,krm⟩:=mk_same (C:=t.a_World) nx ndx ne (r:=(0,.x)) S7.kr
 have Ube8:=Ube7.fr fm
 have Ufo8:=Ufo7.fr fm
 have Uro8:=Uro.fr fm
 have ln:ns.length = (2 + c).toNat:=lz
 refine ⟨setR ρ x (0,.x),0,x,dx,h,f,be,ns,fo,ro,cs,ls,rfl,upd_same,setR_same,krm,⟨h1,h8⟩,⟨f0,by omega⟩,lt,Ube8.1,(fun r hr=>by rw [Ube8.2] at hr; cases hr),by omega,by omega,rz,.inl ⟨Ufo8.1,fun r hr=>by rw [Ufo8.2] at hr; cases hr⟩,upl,rgl,lnl,.inl ⟨Uro8.1,fun r hr=>by rw [Uro8.2] at hr; cases hr⟩,upc,rgc,fun ρ' H8 W ex etot O ly f8 kr8=>⟨rfl,?_⟩⟩
 have gn:=w0_gn (cs:=cs) ⟨h1,h8⟩ f0 lt (by omega:ns.length ≤ 8) (fun x hx=>(rz x hx).1) lnl rgl
 have ek:(w0 h f ns cs ls).ks.map (·.1) = crew ls h.toNat:=by
  show ((crew ls h.toNat).map fun i=>(i,kp0 ns)).map (·.1) = _
  rw [List.map_map]
  exact List.map_id _
 have lk:(crew ls h.toNat).length = (w0 h f ns cs ls).ks.length:=by rw [← ek,List.length_map]
 have k0:=gn.ok.k0
 have k1:=gn.ok.k1
 obtain ⟨tn8,tr8⟩:=town_fr f8 (fun z=>by cases z) (fun z=>by cases z) (S7.tn.same (fun b u e=>(fm b u e (fun _ _ z=>z)).1)) ⟨by rw [setR_ne (S7.tn.fresh nx).1.symm]; exact S7.tr.1,by rw [setR_ne (S7.tn.fresh nx).2.symm]; exact S7.tr.2⟩
 have S8:Sw t H8 ρ' W (w0 h f ns cs ls) 0 [] [] ⟨ns,cs,ls,crew ls h.toNat⟩ To R:=⟨⟨O,kr8,ly,gn,w0_sh,rfl,rfl,ek,etot⟩,tn8,tr8⟩
 have Ube9:=Ube8.fr f8
 have Ufo9:=Ufo8.fr f8
 have Uro9:=Uro8.fr f8
 show gName 6 (V.ref x) [some (.ref To),some (.int f),some (.int h),some (.ref fo),some (.ref be),some (.ref ro),none] H8 _
 refine ⟨_,rfl,_,rfl,_,rfl,_,rfl,_,rfl,h,rfl,by omega,by omega,lc_range (lo:=0) (n:=h.toNat) (fun i ys σ H'=>∃ v,σ = [v,some (.ref fo)] ∧ H' = H8 ∧ ys = (crew ls i).map V.int) ⟨none,rfl,rfl,rfl⟩ ?_ ?_ ?_⟩
 ·rintro i ys σ H' hi ⟨v,rfl,rfl,rfl⟩
  rw [List.length_map]
  have:=crew_len ls i
  exact bigL (by omega)
 ·rintro i ys σ H' hi ⟨v,rfl,rfl,rfl⟩
  have e0:(0:Int) + (i:Int) = i:=Int.zero_add _
  rw [e0]
  refine ⟨_,rfl,_,rfl,fo,_,rfl,.inl (SqL.of Ufo9.1),rfl,flat_ints _,_,rfl,?_⟩
  rw [if_pos rfl,inV_ints]
  by_cases z:(i:Int) ∈ ls
  ·rw [decide_eq_true z]
   refine iteF ⟨_,rfl,rfl,?_⟩
   rw [crew_snoc,if_pos z,List.append_nil]
  ·rw [decide_eq_false z]
   refine iteT ⟨_,rfl,_,rfl,rfl,?_⟩
   rw [crew_snoc,if_neg z,List.map_append]
   rfl
 rintro ys σ H9 ⟨v,rfl,rfl,rfl⟩ ho nho
 have s10:=same_upd (o:=.lst ((crew ls h.toNat).map V.int)) nho
 refine ⟨_,rfl,_,rfl,zs7,fun pa npa=>?_⟩
 have s11:=same_upd (o:=.tup [.ref x,.int h,.int f,.ref fo,.ref ho,.ref be,.ref ro]) npa
 have fs:Fr (fun _=>False) ρ' H9 ρ' _:=Fr.same (s10.trans s11)
 have S11:=(S8.same s10).same s11
 refine k ρ' _ W _ pa h f fo ho be ro _ ⟨by show 2 ≤ ns.length; omega,by show ns.length ≤ 8; omega,rgc,by show cs.length ≤ 1000; omega,by show ls.length ≤ 5; omega,by show 0 < (crew ls h.toNat).length; omega,by show (crew ls h.toNat).length ≤ 16; omega,by show cs.length ≤ 2; omega,by show ls.length ≤ 2; omega,fun x hx=>by have:=rgl x hx; omega,fun x hx=>by have:=(crew_mem.mp hx).1; omega,crew_nd upl⟩ S11 ⟨⟨?_,(S8.same s10).w.kr.none npa⟩,Ufo9.fr fs,⟨s11 _ _ upd_same,S8.w.kr.none nho⟩,Ube9.fr fs,Uro9.fr fs⟩
 rw [ex]
 exact upd_same
theorem wof_total {n tot:Int} {ly ch kd bd ak wy:Addr} : (wof n tot ly ch kd bd ak wy).lookup ("total" : Str) = some (.int tot):=by
 unfold wof
 repeat (first | rw [lookup_putF,if_pos rfl] | rw [lookup_putF,if_neg (by decide +kernel)])
theorem ok_check_world (T:Txt K mg t) : FnOk P w K mg base CX0 1 t.f_check_world t.d_check_world ["thing"] (fun vs H Q _=>∃ x dx fs,vs = [.ref x] ∧ H x = some (.ins t.a_World dx fs) ∧ Q .non H):=by
 refine T.F_check_world.okB (N:=["thing"]) fun _ A _ s H vs Q E hr h=>?_
 obtain ⟨x,dx,fs,rfl,hx,k⟩:=h
 refine ⟨_,(@pss_one _ _ _ (ps_if (pt_not (pt_val (pe_callB call_isown rfl T.n_isinstance boot_isinstance (@pa_2 _ _ _ _ _ (pv 0) (pe_glob (v:=.ref t.a_World) rfl T.m_World rfl) rfl rfl)))) pss_never pss_nil)),?_⟩
 exact ⟨_,rfl,x,t.a_World,dx,fs,rfl,hx,T.cl_World,T.io_World,_,rfl,iteF k⟩
theorem Wl.house {t:Ad} {H:Hp} {ρ : Rho} {W:WA} {ω : Wd} {T:Nat} {L:List O} {sg:List (Int × O)} {p:Pt} (w:Wl t H ρ W ω T L sg p) {h:Int} (hh:h ∈ p.hs) : ∃ κ,ω.keep h = some κ ∧ (h,κ) ∈ ω.ks ∧ KIn L T ω.n κ ∧ KX L ω.carried ω.n p.ns κ:=by
 obtain ⟨κ,ek,km⟩:=keep_of (by rw [w.h]; exact hh:h ∈ ω.ks.map (·.1))
 exact ⟨κ,ek,km,(w.g.ks _ km).1,(w.g.ks _ km).2⟩
theorem ok_lost_nothing (T:Txt K mg t) : FnOk P w K mg base CX0 4 t.f_lost_nothing t.d_lost_nothing ["world"] (fun vs H Q _=>∃ ρ W ω T L sg p,vs = [.ref W.x] ∧ Wl t H ρ W ω T L sg p ∧ p.Ok ∧ T ≤ 50 ∧ ∀ H',Same H H' → Q (.bl true) H'):=by
 refine T.F_lost_nothing.okA sc_lost_nothing fun _ A _ s H vs Q E hr h=>?_
 obtain ⟨ρ,W,ω,T',L,sg,p,rfl,w0,ok,hT,k⟩:=h
 refine ⟨_,(@pss_cons _ _ _ _ _ (ps_expr (pe_call (ok_check_world T) hr.dn rfl T.m_check_world T.F_check_world.kp T.b_check_world .nil pass0 (pa_more (pv 0) pa_nil)))
  (@pss_cons _ _ _ _ _ (ps_lcomp (i:=1) sc_lost_nothing.nd rfl rfl (N':=["house","world"]) (ix:=[none,some 0]) (compOk_is (by kernel_rfl)) rfl (@pi_list _ _ _ _ (pe_meth0 (pv 0) T.cl_World T.mt_World_honest (ok_World_honest T) hr.dn T.b_World_honest .nil pass0)) (fun _ _ _ _=>(pg_name (i:=0) nd_6 rfl (Or.inl rfl) (.inr rfl))) (fun _ _ _ _=>pif_nil) (fun _ _ _ _=>(pe_meth (pv 1) T.cl_World T.mt_World_sums (ok_World_sums T) hr.dn T.b_World_sums .nil pass0 (pa_more (pv 0) pa_nil))))
  (@pss_one _ _ _ (ps_ret (pe_callB (call_all rfl) rfl T.n_all boot_all (pa_more (pe_lcomp (N':=["sums","world"]) (ix:=[none,some 0]) (compOk_is (by kernel_rfl)) rfl (@pi_list _ _ _ _ (pv 1)) (fun _ _ _ _=>(pg_name (i:=0) nd_5 rfl (Or.inl rfl) (.inr rfl))) (fun _ _ _ _=>pif_nil) (fun _ _ _ _=>(pe_and (pe_cmpR op_eq (pe_callB (call_sumK (K:=K) rfl rfl) rfl T.n_sum boot_sum (pa_more (pv 0) pa_nil)) (pe_fldK (K:=K) rfl (pv 1) rfl) (nomark _)) (pe_one (pe_cmpR op_ge (pe_callB (call_minLK (K:=K) rfl rfl) rfl T.n_min boot_min (pa_more (pv 0) pa_nil)) pe_int (nomark _)))))) pa_nil)))))),?_⟩
 refine ⟨_,rfl,W.x,W.dx,_,rfl,w0.o.ob.1,?_⟩
 refine ⟨_,rfl,W.x,W.dx,_,rfl,w0.o.ob.1,wof_no,ρ,0,W,ω,rfl,w0.o,fun Lh nLh=>?_⟩
 rw [w0.h]
 have s1:=same_upd (o:=.lst (p.hs.map V.int)) nLh
 have h16:=ok.h1
 have good : ∀ {H'},Same H H' → WorldR t H' ρ 0 W ω:=fun s=>w0.o.same s
 refine ⟨Lh,rfl,⟨_,SqL.of upd_same⟩,lc_list (K:=K) (a:=Lh) (xs:=p.hs.map V.int) (fun i ys σ H'=>∃ v0,σ = [v0,some (.ref W.x)] ∧ Same (upd H Lh (.lst (p.hs.map V.int))) H' ∧ ys.length = i ∧ ∀ y ∈ ys,∃ r ns,y = .ref r ∧ H' r = some (.lst ((ns:List Int).map V.int)) ∧ ns.sum = W.tot ∧ (∀ x ∈ ns,0 ≤ x) ∧ 0 < ns.length) ⟨none,rfl,Same.refl _,rfl,fun _ z=>by cases z⟩ ?_ ?_ ?_⟩
 ·rintro i ys σ H' hi ⟨v0,rfl,sm,ly,hy⟩
  rw [List.length_map] at hi
  exact ⟨SqL.of (sm _ _ upd_same),bigL (by omega)⟩
 ·rintro i y ys σ H' ey ⟨v0,rfl,sm,ly,hy⟩
  obtain ⟨h,hh,rfl⟩ : ∃ h,h ∈ p.hs ∧ y = .int h:=by
   obtain ⟨h,hh,e⟩:=List.mem_map.mp (List.mem_of_getElem? ey)
   exact ⟨h,hh,e.symm⟩
  obtain ⟨κ,ek,_,ki,kx⟩:=w0.house hh
  have O':=good (s1.trans sm)
  have l1:=ki.ok.h
  have n8:=w0.g.ok.n8
  dsimp only [gName,tYes]
  rw [if_pos rfl]
  refine ⟨_,rfl,W.x,W.dx,_,rfl,O'.ob.1,wof_no,_,rfl,ρ,0,W,ω,h,κ,rfl,O',ek,by omega,fun r nr=>⟨_,rfl,sm.trans (same_upd nr),by rw [List.length_append,ly]; rfl,fun y hy'=>?_⟩⟩
  rcases List.mem_append.mp hy' with hy' | hy'
  ·obtain ⟨r',ns,e1,e2,e3⟩:=hy y hy'
   exact ⟨r',ns,e1,same_upd nr _ _ e2,e3⟩
  ·rw [List.mem_singleton.mp hy']
   refine ⟨r,κ.held,rfl,upd_same,by rw [kx.hs,w0.tot],kx.h0,?_⟩
   have:=ok.l2
   have:=w0.n
   omega
 rintro ys σ H1 ⟨v0,rfl,sm,ly,hy⟩ r1 nr1
 rw [List.length_map] at ly
 have s2:=same_upd (o:=.lst ys) nr1
 have hr1:upd H1 r1 (.lst ys) r1 = some (.lst ys):=upd_same
 have sm2:=(s1.trans sm).trans s2
 have hy2 : ∀ y ∈ ys,∃ r ns,y = .ref r ∧ upd H1 r1 (.lst ys) r = some (.lst ((ns:List Int).map V.int)) ∧ ns.sum = W.tot ∧ (∀ x ∈ ns,0 ≤ x) ∧ 0 < ns.length:=fun y h=>let ⟨r,ns,e1,e2,e3⟩:=hy y h; ⟨r,ns,e1,s2 _ _ e2,e3⟩
 generalize upd H1 r1 (.lst ys) = H2 at hr1 sm2 hy2
 refine ⟨_,rfl,r1,rfl,⟨_,SqL.of hr1⟩,lc_list (K:=K) (a:=r1) (xs:=ys) (fun i zs σ H'=>∃ v0,σ = [v0,some (.ref W.x)] ∧ H' = H2 ∧ zs = (List.replicate i true).map V.bl) ⟨none,rfl,rfl,rfl⟩ ?_ ?_ ?_⟩
 ·rintro i zs σ H' hi ⟨v0,rfl,rfl,rfl⟩
  exact ⟨SqL.of hr1,bigL (by rw [List.length_map,List.length_replicate]; omega)⟩
 ·rintro i y zs σ H' ey ⟨v0,rfl,rfl,rfl⟩
  obtain ⟨r,ns,rfl,hr',e1,e2,e3⟩:=hy2 y (List.mem_of_getElem? ey)
  dsimp only [gName,tYes]
  rw [if_pos rfl]
  refine ⟨_,rfl,r,ns,rfl,SqL.of hr',_,rfl,W.x,_,W.dx,_,_,rfl,(good sm2).ob.1,T.cl_World,T.na_World_total,wof_total,?_⟩
  refine ⟨rfl,_,rfl,?_⟩
  rw [e1,decide_eq_true (rfl:V.int W.tot = V.int W.tot),if_pos rfl]
  refine ⟨_,rfl,r,ns,rfl,SqL.of hr',e3,fun M hM _=>⟨_,_,rfl,rfl,_,rfl,rfl,?_⟩⟩
  show _ ++ [V.bl (decide (0 ≤ M))] = _
  rw [decide_eq_true (e2 M hM),List.replicate_succ',List.map_append]
  rfl
 rintro zs σ H' ⟨v0,rfl,rfl,rfl⟩ r3 nr3
 refine ⟨r3,List.replicate ys.length true,rfl,SqL.of upd_same,?_⟩
 rw [show (List.replicate ys.length true).all id = true by simp]
 exact k _ (sm2.trans (same_upd nr3))
theorem for_vK {a:Addr} {o:Obj} {kvs:List (Key × V)} {g:TG} {tb:TS} {D:Ends} {σ : St} {H:Hp} (Pv:Nat → St → Hp → Prop) (h0:Pv 0 σ H) (hl : ∀ i σ H,i ≤ kvs.length → Pv i σ H → H a = some (.frz o (.dK kvs)))
  (hs : ∀ i kv σ H,kvs[i]? = some kv → Pv i σ H → g kv.2 σ H fun σ2 H2=>tb { D with nx:=Pv (i + 1),ct:=Pv (i + 1),bk:=D.nx } σ2 H2) (hd : ∀ σ H,Pv kvs.length σ H → D.nx σ H) :
  ∃ W:Nat → Nat → St → Hp → Prop,(∃ m,W 0 m σ H) ∧ ∀ i m σ H,W i m σ H →
   ((Itv a o kvs).stop i H ∧ D.nx σ H) ∨ ((Itv a o kvs).go i H ∧ ∃ N:St → Hp → Prop,(∀ σ' H',N σ' H' → ∃ m',m' < m ∧ W (i + 1) m' σ' H') ∧ ∀ x H',(Itv a o kvs).yld i H x H' → g x σ H' fun σ2 H2=>tb { D with nx:=N,ct:=N,bk:=D.nx } σ2 H2):=by
 refine ⟨fun i m σ H=>m = kvs.length - i ∧ i ≤ kvs.length ∧ Pv i σ H,⟨kvs.length,by simp,Nat.zero_le _,h0⟩,?_⟩
 rintro i m σ H ⟨rfl,hi,p⟩
 have q:=hl i σ H hi p
 by_cases hlt:i < kvs.length
 ·refine .inr ⟨⟨hlt,q⟩,Pv (i + 1),fun σ' H' p'=>⟨kvs.length - (i + 1),by omega,rfl,hlt,p'⟩,fun x H' y=>?_⟩
  obtain ⟨e,kv,ek,ex⟩:=y
  subst e ex
  exact hs i kv σ _ ek p
 ·have e:i = kvs.length:=by omega
  subst e
  exact .inl ⟨⟨Nat.le_refl _,q⟩,hd σ H p⟩
theorem keys_ord {H:Hp} : ∀ {vs:List V} {kvs:List (List Key × V)} {os:List O},Paired (fun (v:V) (kv:List Key × V)=>∃ b,v = .ref b ∧ H b = some (.tup (kv.1.map kV))) vs kvs → kvs.map (·.1) = os.map ordK → OrdsAt H vs os
 | _,_,[],.nil,_=>.nil
 | _,_,[],.cons _ _,e=>by cases e
 | _,_,_ :: _,.nil,e=>by cases e
 | _,_,o :: os,.cons ⟨b,e1,e2⟩ r,e=>by
  rw [List.map_cons,List.map_cons,List.cons.injEq] at e
  rw [e.1,ordK_V] at e2
  exact .cons ⟨b,e1,e2⟩ (keys_ord r e.2)
theorem bd_ords {L:List O} : ∀ {is:IThings},(∀ x ∈ is,∃ o ∈ L,x.1 = ordI o) → ∃ bo:List O,is.map (·.1) = bo.map ordI ∧ ∀ o ∈ bo,o ∈ L
 | [],_=>⟨[],rfl,fun _ z=>by cases z⟩
 | x :: is,h=>by
  obtain ⟨bo,e,hb⟩:=bd_ords (is:=is) fun y hy=>h y (List.mem_cons_of_mem _ hy)
  obtain ⟨o,ho,eo⟩:=h x List.mem_cons_self
  refine ⟨o :: bo,by rw [List.map_cons,List.map_cons,e,eo],fun u hu=>?_⟩
  rcases List.mem_cons.mp hu with rfl | hu
  ·exact ho
  ·exact hb u hu
theorem houses_mem2 {k:List Int} : ∀ {is:IThings},housesI is k = [] ∨ ∃ x ∈ is,x.1 = k ∧ housesI is k = x.2
 | []=>.inl rfl
 | p :: ps=>by
  unfold housesI
  split
  ·rename_i z
   exact .inr ⟨p,List.mem_cons_self,z,rfl⟩
  ·rcases houses_mem2 (k:=k) (is:=ps) with h | ⟨x,hx,e⟩
   ·exact .inl h
   ·exact .inr ⟨x,List.mem_cons_of_mem _ hx,e⟩
def sp_written (t:Ad) : Sp:=fun vs H Q _=>∃ ρ W ω T L sg p,vs = [.ref W.x] ∧ Wl t H ρ W ω T L sg p ∧ T ≤ 50 ∧ ∀ r xs os H',H r = none → Same H H' → H' r = some (.lst xs) → OrdsAt H' xs os → (∀ o,o ∈ os ↔ o ∈ L) → os.length ≤ 200000 → Q (.ref r) H'
theorem ok_written_orders (T:Txt K mg t) : FnOk P w K mg base CX0 2 t.f_written_orders t.d_written_orders ["world"] (sp_written t):=by
 refine T.F_written_orders.okA sc_written_orders fun _ A _ s H vs Q E hr h=>?_
 obtain ⟨ρ,W,ω,T',L,sg,p,rfl,w0,hT,k⟩:=h
 refine ⟨_,(@pss_cons _ _ _ _ _ (ps_lcomp (i:=1) sc_written_orders.nd rfl rfl (N':=["word","house","order"]) (ix:=[none,none,none]) (compOk_is (by kernel_rfl)) rfl (@pi_list _ _ _ _ (pe_meth0 (pv 0) T.cl_World T.mt_World_letters (ok_World_letters T) hr.dn T.b_World_letters .nil pass0)) (fun _ _ _ _=>(pg_tupK (K:=K) (t:=(gCons (gName 0) (gCons (gName 1) (gCons (gName 2) gNil)))) rfl rfl 3 (pgs_cons (pg_name (i:=0) nd_7 rfl (Or.inl rfl) (.inr rfl)) (pgs_cons (pg_name (i:=1) nd_7 rfl (Or.inl rfl) (.inr rfl)) (pgs_cons (pg_name (i:=2) nd_7 rfl (Or.inl rfl) (.inr rfl)) pgs_nil))) rfl rfl)) (fun _ _ _ _=>pif_nil) (fun _ _ _ _=>(pv 2)))
  (@pss_cons _ _ _ _ _ (ps_thaw (ps_for PassesOwn.never rfl (pi_vK (pe_bm0 PySem.F.plainAttrs_dict PySem.F.slot_dict_values PySem.F.type_dict_values mt_values (pe_fld (pv 0) rfl))) (pg_name (i:=2) sc_written_orders.nd rfl (Or.inl rfl)) (@pss_one _ _ _ (ps_expr (pe_bm PySem.F.plainAttrs_list PySem.F.slot_list_extend PySem.F.type_list_extend mt_extend (pv 1) (pa_more (pe_callTy (call_listDT rfl) rfl T.n_list boot_list (pa_more (pe_fld (pv 2) rfl) pa_nil)) pa_nil))))))
  (@pss_one _ _ _ (ps_ret (pe_op op_cat (pv 1) (pe_callTy (call_listDT rfl) rfl T.n_list boot_list (pa_more (pe_fld (pe_fld (pv 0) rfl) rfl) pa_nil))))))),?_⟩
 have wl:=w0.g.wl
 have O:=w0.o
 refine seqN fun N hN=>⟨_,rfl,W.x,W.dx,_,rfl,O.ob.1,wof_no,ρ,0,W,ω,rfl,O,by omega,fun r0 xs0 nr0 px0=>?_⟩
 have s1:=same_upd (o:=.lst xs0) nr0
 have px:Paired (LetU (upd H r0 (.lst xs0)) ρ) xs0 ω.way:=Paired.mapP px0 fun _ _=>LetU.fr (P:=fun _=>False) (Fr.same s1)
 have h0:upd H r0 (.lst xs0) r0 = some (.lst xs0):=upd_same
 generalize upd H r0 (.lst xs0) = H1 at s1 px h0
 have lx:xs0.length = ω.way.length:=Paired.length px
 refine ⟨r0,rfl,⟨_,SqL.of h0⟩,lc_list (K:=K) (a:=r0) (xs:=xs0) (fun i ys σ H'=>∃ v0 v1 v2,σ = [v0,v1,v2] ∧ H' = H1 ∧ OrdsAt H1 ys ((ω.way.take i).map (·.2.2))) ⟨none,none,none,rfl,rfl,.nil⟩ ?_ ?_ ?_⟩
 ·rintro i ys σ H' hi ⟨v0,v1,v2,rfl,rfl,py⟩
  refine ⟨SqL.of h0,bigL ?_⟩
  rw [Paired.length py,List.length_map,List.length_take]
  omega
 ·rintro i y ys σ H' ey ⟨v0,v1,v2,rfl,rfl,py⟩
  obtain ⟨l,el,a,q,rfl,na,ha,_,eq,nq,hq⟩:=paired_get px ey
  cases eq
  refine ⟨a,_,rfl,SqT.of ha,rfl,_,_,rfl,_,_,rfl,_,_,rfl,rfl,?_⟩
  dsimp only [tYes]
  rw [if_pos rfl]
  refine ⟨_,rfl,_,_,_,rfl,rfl,?_⟩
  rw [take_snoc el,List.map_append]
  exact paired_app py ⟨q,rfl,hq⟩
 rintro ys σ H' ⟨v0,v1,v2,rfl,rfl,py0⟩ ol nol
 rw [lx,List.take_length] at py0
 have olH:H ol = none:=s1.free nol
 have s2:=s1.trans (same_upd (o:=.lst ys) nol)
 have hol:upd H' ol (.lst ys) ol = some (.lst ys):=upd_same
 have py:OrdsAt (upd H' ol (.lst ys)) ys (ω.way.map (·.2.2)):=Paired.mapP py0 fun _ _ h=>OrdAt.same (same_upd nol) h
 generalize upd H' ol (.lst ys) = H2 at s2 hol py
 have O2:=O.same s2
 obtain ⟨rk,kvs,kd,ks⟩:=O2.kd
 have lk:kvs.length = ω.ks.length:=Paired.length ks
 refine hN [some (.ref W.x),some (.ref ol),none] _ (seqN fun N hN=>⟨_,rfl,W.x,_,W.dx,_,_,rfl,O2.ob.1,T.cl_World,T.na_World_keepers,wof_keepers,.inr (.inr (.inl ⟨rfl,.inl ⟨_,kd⟩⟩)),W.kd,kvs,rfl,rfl,kd,fun vw hvw=>?_⟩)
 have sv:=same_upd (o:=ViewV vw W.kd) hvw
 have O3:=O2.same sv
 have kd3:=sv _ _ kd
 have ks3:KeepsR t (upd H2 vw (ViewV vw W.kd)) ρ 0 kvs ω.ks:=KeepsR.fr (P:=fun _=>False) (Fr.same sv) (fun _ _ z=>z) ks
 have hol3:=sv _ _ hol
 have py3:OrdsAt (upd H2 vw (ViewV vw W.kd)) ys (ω.way.map (·.2.2)):=Paired.mapP py fun _ _ h=>OrdAt.same sv h
 have gv:upd H2 vw (ViewV vw W.kd) vw = some (ViewV vw W.kd):=upd_same
 have s3:=s2.trans sv
 generalize upd H2 vw (ViewV vw W.kd) = H3 at sv O3 kd3 ks3 gv hol3 py3 s3
 have kol:W.kd ≠ ol:=ne_of kd3 hol3 (by intro z; cases z)
 have hdl : ∀ c ∈ ω.ks,c.2.heard.length ≤ 50:=fun c hc=>Nat.le_trans (w0.g.ks c hc).1.sz.hd hT
 have k16:=w0.g.ok.k1
 have flen : ∀ i,i ≤ ω.ks.length → ((ω.ks.take i).flatMap fun c=>c.2.heard).length ≤ 50 * i:=fun i hi=>by
  induction i with
  | zero=>simp
  | succ i ih=>
   obtain ⟨c,ec⟩ : ∃ c,ω.ks[i]? = some c:=⟨_,List.getElem?_eq_getElem (by omega)⟩
   rw [take_snoc ec,List.flatMap_append,List.length_append]
   have h1:=ih (by omega)
   have h2:=hdl c (List.mem_of_getElem? ec)
   have h3:([c].flatMap fun c=>c.2.heard).length = c.2.heard.length:=by simp
   omega
 refine ⟨vw,W.kd,kvs,rfl,gv,kd3,fun oo=>for_vK (fun i σ H'=>∃ v xs,σ = [some (.ref W.x),some (.ref ol),v] ∧ H' ol = some (.lst xs) ∧ OrdsAt H' xs (ω.way.map (·.2.2) ++ (ω.ks.take i).flatMap fun c=>c.2.heard) ∧ Frm (upd H3 W.kd (.frz oo (.dK kvs))) ol H') ?_ ?_ ?_ ?_⟩
 ·refine ⟨none,ys,rfl,by rw [upd_ne kol.symm]; exact hol3,?_,fun _ _ e _=>e⟩
  rw [List.take_zero,List.flatMap_nil,List.append_nil]
  exact Paired.mapP py3 fun _ _ ⟨b,e,hb⟩=>⟨b,e,by rw [upd_ne (ne_of hb kd3 (by intro z; cases z))]; exact hb⟩
 ·rintro i σ H' hi ⟨v,xs,_,_,_,f⟩
  exact f _ _ upd_same kol
 ·rintro i kv σ H' ek ⟨v,xs,rfl,hx,pxs,f⟩
  obtain ⟨c,ec,e1,kk,A',dk,e2,R⟩:=paired_get ks3 ek
  have hi:=(List.getElem?_eq_some_iff.mp ek).1
  have cm:c ∈ ω.ks:=List.mem_of_getElem? ec
  rw [e2]
  have at_ : ∀ {b u},H3 b = some u → b ≠ W.kd → b ≠ ol → H' b = some u:=fun e n1 n2=>f _ _ (by rw [upd_ne n1]; exact e) n2
  obtain ⟨dvs,hD,eD⟩:=R.hd
  have hk':H' kk = some (.ins t.a_Keeper dk (kfA A')):=at_ R.ob (ne_of R.ob kd3 (by intro z; cases z)) (ne_of R.ob hol3 (by intro z; cases z))
  have hD':H' (A' 4) = some (.dT dvs):=at_ hD (ne_of hD kd3 (by intro z; cases z)) (ne_of hD hol3 (by intro z; cases z))
  refine ⟨_,rfl,.inl ⟨rfl,_,SqL.of hx⟩,_,rfl,kk,_,dk,_,_,rfl,hk',T.cl_Keeper,T.na_Keeper_heard,(kfA_get A').2.2.2.1,A' 4,dvs,rfl,hD',fun l vs nl pv=>?_⟩
  have sl:=same_upd (o:=.lst vs) nl
  have pv':=keys_ord pv eD
  have lv:vs.length = c.2.heard.length:=Paired.length pv'
  have fl:=flen i (by omega)
  have hc50:=hdl c cm
  have lxs:=Paired.length pxs
  rw [List.length_append,List.length_map] at lxs
  have lol:l ≠ ol:=fun z=>by rw [z,hx] at nl; cases nl
  refine ⟨ol,l,xs,vs,rfl,rfl,sl _ _ hx,upd_same,bigL (by omega),_,xs ++ vs,rfl,upd_same,?_,fun b u e n=>?_⟩
  ·have up : ∀ v o,OrdAt H' v o → OrdAt (upd (upd H' l (.lst vs)) ol (.lst (xs ++ vs))) v o:=fun v o ⟨b,e,hb⟩=>⟨b,e,by rw [upd_ne (ne_of hb hx (by intro z; cases z))]; exact sl _ _ hb⟩
   rw [take_snoc ec,List.flatMap_append,← List.append_assoc]
   refine paired_cat (Paired.mapP pxs up) ?_
   rw [show ([c].flatMap fun c=>c.2.heard) = c.2.heard by simp]
   exact Paired.mapP pv' up
  ·rw [upd_ne n]
   exact sl _ _ (f _ _ e n)
 rintro σ H' ⟨v,xs,rfl,hx,pxs,f⟩
 rw [lk,List.take_length] at pxs
 have fl:=flen _ (Nat.le_refl _)
 rw [List.take_length] at fl
 refine ⟨W.kd,oo,.dK kvs,f _ _ upd_same kol,(fun o' u' z=>?_),True.intro,?_⟩
 ·have z':H W.kd = some (.frz o' u'):=z
  obtain ⟨_,kvs',kdH,_⟩:=O.kd
  rw [kdH] at z'
  cases z'
 have s4:Same H (upd H' W.kd (.dK kvs)):=fun b u e=>by
  by_cases z:b = W.kd
  ·subst z
   obtain ⟨_,kvs',kdH,_⟩:=O.kd
   rw [kdH] at e
   have e3:=s3 _ _ kdH
   rw [kd3] at e3
   rw [upd_same,← e,e3]
  ·rw [upd_ne z]
   exact f _ _ (by rw [upd_ne z]; exact s3 _ _ e) (ne_of_none e olH)
 have hx4:upd H' W.kd (.dK kvs) ol = some (.lst xs):=by rw [upd_ne kol.symm]; exact hx
 have px4:OrdsAt (upd H' W.kd (.dK kvs)) xs (ω.way.map (·.2.2) ++ ω.ks.flatMap fun c=>c.2.heard):=Paired.mapP pxs fun _ _ ⟨b,e,hb⟩=>⟨b,e,by rw [upd_ne (ne_of hb (f _ _ upd_same kol) (by intro z; cases z))]; exact hb⟩
 generalize upd H' W.kd (.dK kvs) = H4 at s4 hx4 px4
 refine hN _ _ ?_
 have O4:=O.same s4
 obtain ⟨rb,rS,bvs,B,sgr⟩:=O4.bd
 obtain ⟨bo,eb,hb⟩:=bd_ords w0.g.g.b.ks
 have ekb:bvs.map (·.1) = bo.map ordK:=by
  have g : ∀ {xs:List (List Key × V)} {ys:Things},Paired (HsAt H4) xs ys → xs.map (·.1) = ys.map (·.1):=fun {xs ys} q=>by
   induction q with
   | nil=>rfl
   | cons h _ ih=>rw [List.map_cons,List.map_cons,ih,h.1]
  rw [g B.hs,thP,List.map_map]
  have:(bo.map ordI).map keyI = bo.map ordK:=by rw [List.map_map]; rfl
  rw [← this,← eb,List.map_map]
  rfl
 have lb:bo.length ≤ 100:=by
  have h1:=w0.g.g.b.len.1
  have h2:=congrArg List.length eb
  rw [List.length_map,List.length_map] at h2
  have:=w0.g.l
  omega
 refine ⟨_,rfl,_,rfl,W.x,_,W.dx,_,_,rfl,O4.ob.1,T.cl_World,T.na_World_board,wof_board,W.bd,_,W.db,_,_,rfl,B.ob,T.cl_Board,T.na_Board_signers,brd_signers _ _,W.S,bvs,rfl,B.sg,fun l vs nl pv=>?_⟩
 have sl:=same_upd (o:=.lst vs) nl
 have pv':=keys_ord pv ekb
 have lv:vs.length = bo.length:=Paired.length pv'
 have lxs:=Paired.length px4
 rw [List.length_append,List.length_map] at lxs
 refine ⟨ol,l,xs,vs,rfl,rfl,sl _ _ hx4,upd_same,bigL (by omega),fun r nr=>?_⟩
 have sr:=same_upd (o:=.lst (xs ++ vs)) nr
 have s5:=(s4.trans sl).trans sr
 refine k r (xs ++ vs) ((ω.way.map (·.2.2) ++ ω.ks.flatMap fun c=>c.2.heard) ++ bo) _ ((s4.trans sl).free nr) s5 upd_same (paired_cat (Paired.mapP px4 fun _ _ h=>OrdAt.same (sl.trans sr) h) (Paired.mapP pv' fun _ _ h=>OrdAt.same (sl.trans sr) h)) (fun o=>?_) ?_
 ·rw [List.mem_append,List.mem_append]
  constructor
  ·rintro ((h | h) | h)
   ·obtain ⟨l,hl,rfl⟩:=List.mem_map.mp h
    exact (w0.g.g.y l hl).1
   ·obtain ⟨c,hc,h⟩:=List.mem_flatMap.mp h
    exact (w0.sh.kv c hc).hl o h
   ·exact hb o h
  ·intro ho
   rcases w0.sh.al o ho with ⟨l,hl,e⟩ | ⟨c,hc,h⟩ | h
   ·exact .inl (.inl (List.mem_map.mpr ⟨l,hl,e⟩))
   ·exact .inl (.inr (List.mem_flatMap.mpr ⟨c,hc,h⟩))
   ·rcases houses_mem2 (k:=ordI o) (is:=ω.bd) with e | ⟨x,hx,ex,_⟩
    ·exact absurd e h
    ·have:ordI o ∈ bo.map ordI:=by rw [← eb]; exact List.mem_map.mpr ⟨x,hx,ex⟩
     obtain ⟨u,hu,eu⟩:=List.mem_map.mp this
     rw [← ordI_inj eu]
     exact .inr hu
 ·rw [List.length_append,List.length_append,List.length_map]
  omega
theorem two_of {cs:List Int} (l:cs.length ≤ 2) (r : ∀ x ∈ cs,0 ≤ x ∧ x < 8) : ∃ a b:Nat,a < 8 ∧ b < 8 ∧ ∀ z ∈ cs,z = (a:Int) ∨ z = (b:Int):=by
 match cs,l,r with
 | [],_,_=>exact ⟨0,0,by decide,by decide,fun _ z=>by cases z⟩
 | [x],_,r=>
  have hx:=r x (by simp)
  refine ⟨x.toNat,0,by omega,by decide,fun z hz=>.inl ?_⟩
  rw [List.mem_singleton.mp hz]
  omega
 | [x,y],_,r=>
  have hx:=r x (by simp)
  have hy:=r y (by simp)
  refine ⟨x.toNat,y.toNat,by omega,by omega,fun z hz=>?_⟩
  rcases List.mem_cons.mp hz with rfl | hz
  ·exact .inl (by omega)
  ·rw [List.mem_singleton.mp hz]
   exact .inr (by omega)
 | _ :: _ :: _ :: _,l,_=>simp at l
theorem cl_congr {os L:List O} (h : ∀ o,o ∈ os ↔ o ∈ L) (q:Int × Int) : Cl os q ↔ Cl L q:=by
 unfold Cl
 simp only [h]
def sp_owners (t:Ad) : Sp:=fun vs H Q _=>∃ ρ W ω T L sg p,vs = [.ref W.x] ∧ Wl t H ρ W ω T L sg p ∧ p.Ok ∧ T ≤ 50 ∧ ∀ r js H',H r = none → Same H H' → H' r = some (.lst ((js:List Nat).map fun (j:Nat)=>V.int j)) → js ∈ subs2 → (∀ k:Nat,k ∈ js ↔ ∃ q,Cl L q ∧ q.1 = (k:Int)) → Q (.ref r) H'
theorem ok_false_owners (T:Txt K mg t) : FnOk P w K mg base CX0 6 t.f_false_owners t.d_false_owners ["world"] (sp_owners t):=by
 refine T.F_false_owners.okB (N:=["world"]) fun _ A _ s H vs Q E hr h=>?_
 obtain ⟨ρ,W,ω,T',L,sg,p,rfl,w0,ok,hT,k⟩:=h
 refine ⟨_,(@pss_cons _ _ _ _ _ (ps_expr (pe_call (ok_check_world T) hr.dn rfl T.m_check_world T.F_check_world.kp T.b_check_world .nil pass0 (pa_more (pv 0) pa_nil)))
  (@pss_one _ _ _ (ps_ret (pe_callB (call_sortedS rfl) rfl T.n_sorted boot_sorted (pa_more (pe_scomp (N':=["purse","number"]) (ix:=[none,none]) (compOk_is (by kernel_rfl)) rfl (@pi_list _ _ _ _ (pe_call (ok_clashing_places T) hr.dn rfl T.m_clashing_places T.F_clashing_places.kp T.b_clashing_places .nil pass0 (pa_more (pe_call (ok_written_orders T) hr.dn rfl T.m_written_orders T.F_written_orders.kp T.b_written_orders .nil pass0 (pa_more (pv 0) pa_nil)) pa_nil))) (fun _ _ _ _=>(pg_tupK (K:=K) (t:=(gCons (gName 0) (gCons (gName 1) gNil))) rfl rfl 2 (pgs_cons (pg_name (i:=0) nd_8 rfl (Or.inl rfl) (.inr rfl)) (pgs_cons (pg_name (i:=1) nd_8 rfl (Or.inl rfl) (.inr rfl)) pgs_nil)) rfl rfl)) (fun _ _ _ _=>pif_nil) (fun _ _ _ _=>(pv 0))) pa_nil))))),?_⟩
 have n8:=w0.g.ok.n8
 have ll:=w0.g.l
 refine ⟨_,rfl,W.x,W.dx,_,rfl,w0.o.ob.1,?_⟩
 refine ⟨_,rfl,ρ,W,ω,T',L,sg,p,rfl,w0,hT,fun r1 xs os H1 nr1 s1 h1 px mem lo=>?_⟩
 have ho8 : ∀ o ∈ os,isOrd 8 o = true:=fun o ho=>ord8 (w0.g.lo o ((mem o).mp ho)) n8
 refine ⟨r1,xs,os,L,rfl,h1,px,lo,ho8,fun o ho=>(mem o).mp ho,by omega,fun r2 fs H2 nr2 s2 h2 pf=>?_⟩
 refine ⟨r2,rfl,⟨_,SqL.of h2⟩,fun D nD=>?_⟩
 have s3:=same_upd (o:=IsSet w D []) nD
 have s03:=s1.trans s2
 obtain ⟨ca,cb,ca8,cb8,cab⟩:=two_of ok.ct fun x hx=>by have:=ok.c x hx; have:=ok.l8; omega
 have pu : ∀ q ∈ (cl os).2,q.1 = (ca:Int) ∨ q.1 = (cb:Int):=fun q hq=>by
  obtain ⟨o,ho,u,hu,_,_,rfl⟩:=mem_cl.mp hq
  exact cab o.p (w0.c ▸ w0.sh.ch o ((mem o).mp ho))
 refine sc_list (K:=K) (a:=r2) (xs:=fs) (fun i σ H'=>∃ v0 v1 js,σ = [v0,v1] ∧ Same H2 H' ∧ H' D = some (IsSet w D js) ∧ js ∈ subs2 ∧ ∀ k:Nat,k ∈ js ↔ ∃ q ∈ (cl os).2.take i,q.1 = (k:Int)) ⟨none,none,[],rfl,s3,upd_same,by decide,fun k=>⟨fun z=>(by cases z),fun ⟨_,z,_⟩=>(by simp at z)⟩⟩ (fun i σ H' _ ⟨_,_,_,_,s',_⟩=>SqL.of (s' _ _ h2)) ?_ ?_
 ·rintro i x σ H' ex ⟨v0,v1,js,rfl,s',hD,hj,mj⟩
  obtain ⟨q,eq,b,rfl,hb⟩:=paired_get pf ex
  refine ⟨b,_,rfl,SqT.of (s' _ _ hb),rfl,_,_,rfl,_,_,rfl,rfl,?_⟩
  dsimp only [tYes]
  rw [if_pos rfl]
  obtain ⟨j,ej,j8⟩ : ∃ j:Nat,q.1 = (j:Int) ∧ j < 8:=by
   rcases pu q (List.mem_of_getElem? eq) with z | z
   ·exact ⟨ca,z,ca8⟩
   ·exact ⟨cb,z,cb8⟩
  have jab : ∀ m:Nat,(∃ q ∈ (cl os).2,q.1 = (m:Int)) → m = ca ∨ m = cb:=fun m ⟨q,hq,e⟩=>by
   rcases pu q hq with z | z
   ·exact .inl (by omega)
   ·exact .inr (by omega)
  refine ⟨_,rfl,js,j,hD,hj,by rw [ej],j8,two_few hj (fun m hm=>jab m (let ⟨q,hq,e⟩:=(mj m).mp hm; ⟨q,List.mem_of_mem_take hq,e⟩)) (jab j ⟨q,List.mem_of_getElem? eq,ej⟩),fun js' hj' mj'=>⟨_,_,js',rfl,fun a u e=>?_,upd_same,hj',fun m=>?_⟩⟩
  ·rw [upd_ne (ne_of_none e nD)]
   exact s' _ _ e
  ·rw [mj',mj,take_snoc eq]
   constructor
   ·rintro (⟨q',h',e'⟩ | rfl)
    ·exact ⟨q',List.mem_append_left _ h',e'⟩
    ·exact ⟨q,List.mem_append_right _ (List.mem_singleton.mpr rfl),ej⟩
   ·rintro ⟨q',h',e'⟩
    rcases List.mem_append.mp h' with h' | h'
    ·exact .inl ⟨q',h',e'⟩
    ·rw [List.mem_singleton.mp h',ej] at e'
     exact .inr (by omega)
 ·rintro σ H' ⟨v0,v1,js,rfl,s',hD,hj,mj⟩
  refine ⟨D,js,rfl,hD,hj,fun r nr=>?_⟩
  rw [Paired.length pf,List.take_length] at mj
  refine k r js _ ((s03.trans s').free nr) ((s03.trans s').trans (same_upd nr)) upd_same hj fun m=>?_
  rw [mj]
  constructor
  ·rintro ⟨q,hq,e⟩
   exact ⟨q,(cl_congr mem q).mp (mem_cl.mp hq),e⟩
  ·rintro ⟨q,hq,e⟩
   exact ⟨q,mem_cl.mpr ((cl_congr mem q).mpr hq),e⟩
def TupsH (H:Hp) (vs:List V) (ts:List (List Int)) : Prop:=Paired (fun v t=>∃ a,v = .ref a ∧ H a = some (.tup (t.map V.int))) vs ts
theorem TupsH.same {H H':Hp} {vs:List V} {ts:List (List Int)} (s:Same H H') (h:TupsH H vs ts) : TupsH H' vs ts:=Paired.mapP h fun _ _ ⟨a,e,q⟩=>⟨a,e,s _ _ q⟩
def signedI (is:IThings) (h:Int) : List (List Int):=(is.filter fun p=>decide (h ∈ p.2)).map (·.1)
def sp_thingsOf (t:Ad) : Sp:=fun vs H Q _=>∃ p dx S en kvs is h,vs = [.ref p,.int h] ∧ BoardAt t H p dx S en kvs (thP is) ∧ kvs.length < 64 ∧
 ∀ (r:Addr) (vs':List V) (H':Hp),H r = none → Same H H' → TupsH H' vs' (signedI is h) → H' r = some (.lst vs') → Q (.ref r) H'
theorem ok_Board_things_of (T:Txt K mg t) : FnOk P w K mg base CX0 2 t.f_Board_things_of t.d_Board_things_of ["self","house"] (sp_thingsOf t):=by
 refine T.F_Board_things_of.okB (N:=["self","house"]) fun _ A _ s H vs Q E hr h=>?_
 obtain ⟨p,dx,S,en,kvs,is,h,rfl,B,l64,q⟩:=h
 refine ⟨_,(@pss_one _ _ _ (ps_ret (pe_thaw (pe_lcomp (N':=["thing","houses","house"]) (ix:=[none,none,some 1]) (compOk_is (by kernel_rfl)) rfl (pi_iT (pe_bm0 PySem.F.plainAttrs_dict PySem.F.slot_dict_items PySem.F.type_dict_items mt_itemsT (pe_fld (pv 0) rfl))) (fun _ _ _ _=>(pg_tupK (K:=K) (t:=(gCons (gName 0) (gCons (gName 1) gNil))) rfl rfl 2 (pgs_cons (pg_name (i:=0) nd_9 rfl (Or.inl rfl) (.inr rfl)) (pgs_cons (pg_name (i:=1) nd_9 rfl (Or.inl rfl) (.inr rfl)) pgs_nil)) rfl rfl)) (fun _ _ _ _=>(pif_one (pt_cmpR (op_in_seqK (K:=K) rfl) (pv 2) (pv 1) (by with_unfolding_all rfl)))) (fun _ _ _ _=>(pv 0)))))),?_⟩
 have len:kvs.length = is.length:=by
  have:=Paired.length B.hs
  rwa [thP,List.length_map] at this
 refine ⟨_,rfl,p,_,dx,_,_,rfl,B.ob,T.cl_Board,T.na_Board_signers,brd_signers _ _,?_⟩
 refine ⟨.inr (.inr (.inl ⟨rfl,.inr ⟨_,B.sg⟩⟩)),S,kvs,rfl,rfl,B.sg,fun vw hvw=>?_⟩
 have sv:=same_upd (o:=ViewI vw S) hvw
 have B1:=B.same sv
 have gv:upd H vw (ViewI vw S) vw = some (ViewI vw S):=upd_same
 have nS:S ≠ vw:=ne_of_none B.sg hvw
 generalize upd H vw (ViewI vw S) = H1 at sv B1 gv
 refine ⟨vw,S,kvs,rfl,gv,B1.sg,fun o=>lc_iT (fun i ys σ H'=>∃ v0 v1,σ = [v0,v1,some (.int h)] ∧ Same (upd H1 S (.frz o (.dT kvs))) H' ∧ TupsH H' ys (signedI (is.take i) h)) ⟨none,none,rfl,Same.refl _,.nil⟩ ?_ ?_ ?_⟩
 ·rintro i ys σ H' hi ⟨v0,v1,rfl,sm,tu⟩
  refine ⟨sm _ _ upd_same,?_⟩
  rw [Paired.length tu,signedI,List.length_map]
  exact len1000 (Nat.le_trans (List.length_filter_le _ _) (by rw [List.length_take]; omega))
 ·rintro i kv b q1 ys σ H' ek eb hq1 ⟨v0,v1,rfl,sm,tu⟩
  obtain ⟨pp,ep,e1,c,e2,e3⟩:=paired_get B1.hs ek
  obtain ⟨x,ex,rfl⟩ : ∃ x,is[i]? = some x ∧ (keyI x.1,x.2) = pp:=by
   rw [thP,List.getElem?_map] at ep
   cases hx:is[i]? with
   | none=>
    rw [hx] at ep
    cases ep
   | some x=>
    rw [hx] at ep
    exact ⟨x,rfl,Option.some.inj ep⟩
  have hk:kv.1 = keyI x.1:=e1
  have e2':kv.2 = .ref c:=e2
  rw [hk,keyI_map] at eb
  have sq:=same_upd (o:=.tup [.ref b,kv.2]) hq1
  have hc:H' c = some (.lst (x.2.map V.int)):=sm _ _ (by rw [upd_ne (ne_of e3 B1.sg (by intro z; cases z))]; exact e3)
  have tk:signedI (is.take (i + 1)) h = signedI (is.take i) h ++ (if h ∈ x.2 then [x.1] else []):=by
   unfold signedI
   rw [take_snoc ex,List.filter_append,List.map_append]
   by_cases z:h ∈ x.2 <;> simp [z]
  refine ⟨q1,_,rfl,SqT.of upd_same,rfl,_,_,rfl,_,_,rfl,rfl,?_⟩
  rw [e2'] at sq ⊢
  refine ⟨_,rfl,_,rfl,c,_,rfl,.inl (SqL.of (sq _ _ hc)),rfl,flat_ints _,_,rfl,ite2 (fun z=>?_) (fun z=>?_)⟩
  ·rw [if_neg (by decide),inV_ints] at z
   refine ⟨_,rfl,_,_,rfl,sm.trans sq,?_⟩
   rw [tk,if_pos (of_decide_eq_true z)]
   exact paired_app (TupsH.same sq tu) ⟨b,rfl,sq _ _ eb⟩
  ·rw [if_neg (by decide),inV_ints] at z
   refine ⟨_,_,rfl,sm.trans sq,?_⟩
   rw [tk,if_neg (fun y=>z (decide_eq_true y)),List.append_nil]
   exact TupsH.same sq tu
 ·rintro ys σ H' ⟨v0,v1,rfl,sm,tu⟩ r hr
  rw [len,List.take_length] at tu
  have hS':H' S = some (.frz o (.dT kvs)):=sm _ _ upd_same
  have rS:r ≠ S:=(ne_of_none hS' hr).symm
  refine ⟨S,o,.dT kvs,(by rw [upd_ne rS.symm]; exact hS'),(fun o' u' z=>?_),True.intro,?_⟩
  ·have z':H S = some (.frz o' u'):=z
   rw [B.sg] at z'
   cases z'
  ·have rH1:H1 r = none:=by
    cases e:H1 r with
    | none=>rfl
    | some u=>
     have:=sm r u (by rw [upd_ne rS]; exact e)
     rw [hr] at this
     cases this
   refine q r ys _ (sv.free rH1) (fun c u hc=>?_) (Paired.mapP tu fun _ _ ⟨a,e,ha⟩=>⟨a,e,?_⟩) (by rw [upd_ne rS,upd_same])
   ·have h1:=sv _ _ hc
    by_cases z:c = S
    ·subst z
     rw [B1.sg] at h1
     rw [upd_same,h1]
    ·rw [upd_ne z,upd_ne (ne_of_none h1 rH1)]
     exact sm _ _ (by rw [upd_ne z]; exact h1)
   ·rw [upd_ne (ne_of ha hS' (by intro z; cases z)),upd_ne (ne_of_none ha hr)]
    exact ha
theorem mem_signed {is:IThings} (nd:(is.map (·.1)).Nodup) {h:Int} {t:List Int} : t ∈ signedI is h ↔ h ∈ housesI is t:=by
 unfold signedI
 rw [List.mem_map]
 constructor
 ·rintro ⟨x,hx,rfl⟩
  obtain ⟨h1,h2⟩:=List.mem_filter.mp hx
  obtain ⟨i,hi,ei⟩:=List.mem_iff_getElem.mp h1
  rw [(houses_thP x.1 is).symm.trans (houses_at nd (by rw [List.getElem?_eq_getElem hi,ei]))]
  exact of_decide_eq_true h2
 ·intro hm
  rcases houses_mem2 (k:=t) (is:=is) with e | ⟨x,hx,ex,e⟩
  ·rw [e] at hm; cases hm
  ·exact ⟨x,List.mem_filter.mpr ⟨hx,decide_eq_true (by rw [← e]; exact hm)⟩,ex⟩
theorem ords_of {L:List O} : ∀ {ts:List (List Int)},(∀ t ∈ ts,∃ o ∈ L,t = ordI o) → ∃ bo:List O,ts = bo.map ordI
 | [],_=>⟨[],rfl⟩
 | x :: is,h=>by
  obtain ⟨bo,e⟩:=ords_of (ts:=is) fun y hy=>h y (List.mem_cons_of_mem _ hy)
  obtain ⟨o,_,eo⟩:=h x List.mem_cons_self
  exact ⟨o :: bo,by rw [List.map_cons,e,eo]⟩
theorem tupsH_ords {H:Hp} : ∀ {vs:List V} {os:List O},TupsH H vs (os.map ordI) → OrdsAt H vs os
 | _,[],.nil=>.nil
 | _,_ :: _,.cons h r=>.cons h (tupsH_ords r)
def TwoF (sg:List (Int × O)) (f:Int) : Prop:=∃ o u,(f,o) ∈ sg ∧ (f,u) ∈ sg ∧ u ≠ o ∧ plc u = plc o
def sp_fhouses (t:Ad) : Sp:=fun vs H Q _=>∃ ρ W ω T L sg p,vs = [.ref W.x] ∧ Wl t H ρ W ω T L sg p ∧ p.Ok ∧ T ≤ 50 ∧ ∀ r ns H',H r = none → Same H H' → H' r = some (.lst ((ns:List Int).map V.int)) → ns.Pairwise (· < ·) → (∀ f,f ∈ ns ↔ TwoF sg f) → Q (.ref r) H'
theorem ok_false_houses (T:Txt K mg t) : FnOk P w K mg base CX0 6 t.f_false_houses t.d_false_houses ["world"] (sp_fhouses t):=by
 refine T.F_false_houses.okA sc_false_houses fun _ A _ s H vs Q E hr h=>?_
 obtain ⟨ρ,W,ω,T',L,sg,p,rfl,w0,ok,hT,k⟩:=h
 refine ⟨_,(@pss_cons _ _ _ _ _ (ps_expr (pe_call (ok_check_world T) hr.dn rfl T.m_check_world T.F_check_world.kp T.b_check_world .nil pass0 (pa_more (pv 0) pa_nil)))
  (@pss_cons _ _ _ _ _ (ps_set (i:=1) sc_false_houses.nd rfl (Or.inl rfl) (pe_callB call_sortedI rfl T.n_sorted boot_sorted (pa_more (pe_op op_cat (pe_meth0 (pv 0) T.cl_World T.mt_World_honest (ok_World_honest T) hr.dn T.b_World_honest .nil pass0) (pe_fld (pv 0) rfl)) pa_nil)))
  (@pss_one _ _ _ (ps_ret (pe_lcomp (N':=["house","world"]) (ix:=[none,some 0]) (compOk_is (by kernel_rfl)) rfl (@pi_list _ _ _ _ (pv 1)) (fun _ _ _ _=>(pg_name (i:=0) nd_10 rfl (Or.inl rfl) (.inr rfl))) (fun _ _ _ _=>(pif_one (pt_truthK (K:=K) rfl (pe_call (ok_clashing_places T) hr.dn rfl T.m_clashing_places T.F_clashing_places.kp T.b_clashing_places .nil pass0 (pa_more (pe_meth (pe_fldK (K:=K) rfl (pv 1) rfl) T.cl_Board T.mt_Board_things_of (ok_Board_things_of T) hr.dn T.b_Board_things_of .nil pass0 (pa_more (pv 0) pa_nil)) pa_nil)) (fun _=>rfl)))) (fun _ _ _ _=>(pv 0))))))),?_⟩
 have n8:=w0.g.ok.n8
 have ll:=w0.g.l
 have Ow:=w0.o
 refine seqN fun N hN=>⟨_,rfl,W.x,W.dx,_,rfl,Ow.ob.1,hN [some (.ref W.x),none] _ (seqN fun N hN=>⟨_,rfl,W.x,W.dx,_,rfl,Ow.ob.1,wof_no,ρ,0,W,ω,rfl,Ow,fun r1 nr1=>?_⟩)⟩
 rw [w0.h]
 have s1:=same_upd (o:=.lst (p.hs.map V.int)) nr1
 have O1:=Ow.same s1
 have l16:=ok.h1
 have l2:=ok.lt
 refine ⟨_,rfl,W.x,_,W.dx,_,_,rfl,O1.ob.1,T.cl_World,T.na_World_lying,wof_lying,r1,W.ly,_,_,rfl,rfl,upd_same,s1 _ _ w0.ly.1,bigL (by rw [List.length_map,List.length_map]; omega),fun r2 nr2=>?_⟩
 have s2:=s1.trans (same_upd (o:=.lst (p.hs.map V.int ++ p.ls.map V.int)) nr2)
 refine ⟨r2,p.hs ++ p.ls,rfl,SqL.of (by rw [upd_same,List.map_append]),by rw [List.length_append]; omega,fun r3 hs nr3 pm up=>?_⟩
 have s3:=s2.trans (same_upd (o:=.lst (hs.map V.int)) nr3)
 have h3:upd (upd (upd H r1 (.lst (p.hs.map V.int))) r2 (.lst (p.hs.map V.int ++ p.ls.map V.int))) r3 (.lst (hs.map V.int)) r3 = some (.lst (hs.map V.int)):=upd_same
 generalize upd (upd (upd H r1 (.lst (p.hs.map V.int))) r2 (.lst (p.hs.map V.int ++ p.ls.map V.int))) r3 (.lst (hs.map V.int)) = H3 at s3 h3
 have lh:hs.length ≤ 18:=by rw [pm.length_eq,List.length_append]; omega
 have up':hs.Pairwise (· < ·):=List.Pairwise.imp₂ (fun {a b} h1 h2=>by omega) up ((pm.nodup_iff).mpr ok.nd)
 have key : ∀ h ∈ hs,∃ so:List O,signedI ω.bd h = so.map ordI ∧ (∀ o,o ∈ so ↔ h ∈ housesI ω.bd (ordI o)) ∧ (∀ o ∈ so,o ∈ L) ∧ ((∃ q,Cl so q) ↔ TwoF sg h):=fun h hh=>by
  have nd:=w0.g.g.b.nd
  have inL : ∀ t ∈ signedI ω.bd h,∃ o ∈ L,t = ordI o:=fun t ht=>by
   obtain ⟨x,hx,rfl⟩:=List.mem_map.mp ht
   exact w0.g.g.b.ks x (List.mem_filter.mp hx).1
  obtain ⟨so,e⟩:=ords_of inL
  have m1 : ∀ o,o ∈ so ↔ h ∈ housesI ω.bd (ordI o):=fun o=>by
   rw [← mem_signed nd,e,List.mem_map]
   exact ⟨fun z=>⟨o,z,rfl⟩,fun ⟨u,hu,eu⟩=>ordI_inj eu ▸ hu⟩
  refine ⟨so,e,m1,fun o ho=>?_,?_⟩
  ·obtain ⟨u,hu,eu⟩:=inL (ordI o) (by rw [e]; exact List.mem_map_of_mem ho)
   rw [ordI_inj eu]
   exact hu
  ·rcases List.mem_append.mp (pm.mem_iff.mp hh) with hm | hm
   ·-- an honest one
    obtain ⟨κ,_,km,_⟩:=w0.house hm
    have kv:=w0.sh.kv _ km
    refine ⟨fun ⟨q,o,ho,u,hu,ne,e1,e2⟩=>?_,fun ⟨o,u,ho,_⟩=>absurd (w0.sh.sl _ ho).1 (w0.sh.dj _ km)⟩
    have c1:=w0.sh.vo _ km o ((m1 o).mp ho)
    have c2:=w0.sh.vo _ km u ((m1 u).mp hu)
    have one : ∀ {cs:List ((Int × Int) × O)} {a b:(Int × Int) × O},(cs.map (·.1)).Nodup → a ∈ cs → b ∈ cs → a.1 = b.1 → a = b:=fun {cs a b} nd ha hb e=>by
     induction cs with
     | nil=>cases ha
     | cons c cs ih=>
      rw [List.map_cons,List.nodup_cons] at nd
      rcases List.mem_cons.mp ha with h1 | h1 <;> rcases List.mem_cons.mp hb with h2 | h2
      ·rw [h1,h2]
      ·exact absurd (List.mem_map.mpr ⟨b,h2,by rw [← e,h1]⟩) nd.1
      ·exact absurd (List.mem_map.mpr ⟨a,h1,by rw [e,h2]⟩) nd.1
      ·exact ih nd.2 h1 h2
    exact absurd (Prod.mk.inj (one kv.ck c2 c1 (e1.trans e2.symm))).2 ne
   ·have li:=w0.sh.li h hm
    constructor
    ·rintro ⟨q,o,ho,u,hu,ne,e1,e2⟩
     exact ⟨o,u,(li o).mp ((m1 o).mp ho),(li u).mp ((m1 u).mp hu),ne,e1.trans e2.symm⟩
    ·rintro ⟨o,u,ho,hu,ne,e1⟩
     exact ⟨plc o,o,(m1 o).mpr ((li o).mpr ho),u,(m1 u).mpr ((li u).mpr hu),ne,e1,rfl⟩
 have inH : ∀ f,TwoF sg f → f ∈ hs:=fun f ⟨o,_,ho,_⟩=>pm.mem_iff.mpr (List.mem_append_right _ (w0.sh.sl _ ho).1)
 refine hN [some (.ref W.x),some (.ref r3)] _ ⟨_,rfl,r3,rfl,⟨_,SqL.of h3⟩,lc_list (K:=K) (a:=r3) (xs:=hs.map V.int) (fun i ys σ H'=>∃ v ns,σ = [v,some (.ref W.x)] ∧ Same H3 H' ∧ ys = (ns:List Int).map V.int ∧ ns.length ≤ i ∧ ns.Sublist (hs.take i) ∧ ∀ f,f ∈ ns ↔ f ∈ hs.take i ∧ TwoF sg f) ⟨none,[],rfl,Same.refl _,rfl,Nat.le_refl _,List.nil_sublist _,fun f=>by simp⟩ ?_ ?_ ?_⟩
 ·rintro i ys σ H' hi ⟨v,ns,rfl,sm,rfl,ln,_⟩
  rw [List.length_map] at hi
  exact ⟨SqL.of (sm _ _ h3),bigL (by rw [List.length_map]; omega)⟩
 ·rintro i y ys σ H' ey ⟨v,ns,rfl,sm,rfl,ln,sb,mn⟩
  obtain ⟨h,eh,rfl⟩ : ∃ h,hs[i]? = some h ∧ y = .int h:=by
   rw [List.getElem?_map] at ey
   cases e:hs[i]? with
   | none=>rw [e] at ey; cases ey
   | some h=>rw [e] at ey; exact ⟨h,rfl,(Option.some.inj ey).symm⟩
  obtain ⟨so,es,m1,soL,two⟩:=key h (List.mem_of_getElem? eh)
  have O4:=Ow.same (s3.trans sm)
  obtain ⟨rb,rS,bvs,B,sgr⟩:=O4.bd
  have lb:bvs.length < 64:=by
   have h1:=w0.g.g.b.len.1
   have h2:=Paired.length B.hs
   rw [thP,List.length_map] at h2
   omega
  refine ⟨_,rfl,W.x,_,W.dx,_,_,rfl,O4.ob.1,T.cl_World,T.na_World_board,wof_board,W.bd,W.db,_,rfl,B.ob,brd_no _ _ (by decide +kernel) (by decide +kernel),_,rfl,W.bd,W.db,W.S,ω.en,bvs,ω.bd,h,rfl,B,lb,fun r vs' H5 nr s5 tu gr=>?_⟩
  rw [es] at tu
  have hos:=tupsH_ords tu
  have lso:so.length ≤ 1000:=by
   have:=congrArg List.length es
   unfold signedI at this
   rw [List.length_map,List.length_map] at this
   have h1:=List.length_filter_le (fun q:List Int × List Int=>decide (h ∈ q.2)) ω.bd
   have h2:=w0.g.g.b.len.1
   omega
  refine ⟨r,vs',so,L,rfl,gr,hos,by omega,fun o ho=>ord8 (w0.g.lo o (soL o ho)) n8,soL,by omega,fun r2 fs H6 nr2 s6 g6 pf=>?_⟩
  refine ⟨!fs.isEmpty,.inl ⟨_,SqL.of g6,rfl⟩,?_⟩
  have sm6:=(sm.trans s5).trans s6
  have lf:=Paired.length pf
  cases fs with
  | nil=>
   have nt : ¬ TwoF sg h:=fun z=>by
    obtain ⟨q,hq⟩:=two.mpr z
    have:(cl so).2 = []:=List.length_eq_zero_iff.mp lf.symm
    have:=mem_cl.mpr hq
    simp [*] at this
   refine iteF ⟨_,ns,rfl,sm6,rfl,by omega,by rw [take_snoc eh]; exact sb.trans (List.sublist_append_left _ _),fun f=>?_⟩
   rw [mn f,take_snoc eh,List.mem_append,List.mem_singleton]
   exact ⟨fun ⟨a,b⟩=>⟨.inl a,b⟩,fun ⟨a,b⟩=>⟨a.resolve_right fun z=>nt (z ▸ b),b⟩⟩
  | cons f fr=>
   have tw:TwoF sg h:=by
    refine two.mp ?_
    obtain ⟨q,hq⟩ : ∃ q,q ∈ (cl so).2:=by
     cases e:(cl so).2 with
     | nil=>rw [e] at lf; cases lf
     | cons q _=>exact ⟨q,List.mem_cons_self⟩
    exact ⟨q,mem_cl.mp hq⟩
   refine iteT ⟨_,rfl,_,ns ++ [h],rfl,sm6,by rw [List.map_append]; rfl,by rw [List.length_append]; show ns.length + 1 ≤ i + 1; omega,by rw [take_snoc eh]; exact sb.append (List.Sublist.refl _),fun f=>?_⟩
   rw [List.mem_append,mn f,take_snoc eh,List.mem_append,List.mem_singleton]
   exact ⟨fun z=>z.elim (fun ⟨a,b⟩=>⟨.inl a,b⟩) fun e=>⟨.inr e,e ▸ tw⟩,fun ⟨a,b⟩=>a.imp (fun a=>⟨a,b⟩) id⟩
 ·rintro ys σ H' ⟨v,ns,rfl,sm,rfl,ln,sb,mn⟩ r nr
  rw [List.length_map,List.take_length] at sb mn
  exact k r ns _ ((s3.trans sm).free nr) ((s3.trans sm).trans (same_upd nr)) upd_same (up'.sublist sb) fun f=>⟨fun z=>((mn f).mp z).2,fun z=>(mn f).mpr ⟨inH f z,z⟩⟩
theorem ok__law_whole (T:Txt K mg t) : FnOk P w K mg base CX0 1 t.f__law_whole t.d__law_whole ["_law_thing"] (fun vs H Q _=>∃ n,vs = [.int n] ∧ Q (.bl true) H):=by
 refine T.F__law_whole.okB (N:=["_law_thing"]) fun _ A _ s H vs Q E hr h=>?_
 obtain ⟨n,rfl,k⟩:=h
 refine ⟨_,(@pss_one _ _ _ (ps_ret (pe_and (pe_callB call_isinst rfl T.n_isinstance boot_isinstance (@pa_2 _ _ _ _ _ (pv 0) (pe_bltn (v:=.ty "int") rfl T.n_int boot_int rfl) rfl rfl)) (pe_one (pe_not (pe_callB call_isinst rfl T.n_isinstance boot_isinstance (@pa_2 _ _ _ _ _ (pv 0) (pe_bltn (v:=.ty "bool") rfl T.n_bool boot_bool rfl) rfl rfl))))))),?_⟩
 refine ⟨_,rfl,_,_,_,true,rfl,.int _,rfl,_,rfl,iteT ?_⟩
 exact ⟨_,rfl,_,_,_,false,rfl,.int _,rfl,_,rfl,k⟩
theorem ok__law_whole_list (T:Txt K mg t) : FnOk P w K mg base CX0 2 t.f__law_whole_list t.d__law_whole_list ["_law_thing"] (fun vs H Q _=>∃ r ns,vs = [.ref r] ∧ H r = some (.lst ((ns:List Int).map V.int)) ∧ ns.length ≤ 1000 ∧ ∀ H',Same H H' → Q (.bl true) H'):=by
 refine T.F__law_whole_list.okB (N:=["_law_thing"]) fun _ A _ s H vs Q E hr h=>?_
 obtain ⟨r,ns,rfl,hr0,l,k⟩:=h
 refine ⟨_,(@pss_one _ _ _ (ps_ret (pe_and (pe_callB call_isinst rfl T.n_isinstance boot_isinstance (@pa_2 _ _ _ _ _ (pv 0) (pe_bltn (v:=.ty "list") rfl T.n_list boot_list rfl) rfl rfl)) (pe_one (pe_callB (call_all rfl) rfl T.n_all boot_all (pa_more (pe_lcomp (N':=["_law_one"]) (ix:=[none]) (compOk_is (by kernel_rfl)) rfl (@pi_list _ _ _ _ (pv 0)) (fun _ _ _ _=>(pg_name (i:=0) nd_11 rfl (Or.inl rfl) (.inr rfl))) (fun _ _ _ _=>pif_nil) (fun _ _ _ _=>(pe_call (ok__law_whole T) hr.dn rfl T.m__law_whole T.F__law_whole.kp T.b__law_whole .nil pass0 (pa_more (pv 0) pa_nil)))) pa_nil)))))),?_⟩
 refine ⟨_,rfl,_,_,_,true,rfl,.lst hr0,rfl,_,rfl,iteT ?_⟩
 refine ⟨_,rfl,r,rfl,⟨_,SqL.of hr0⟩,lc_list (K:=K) (a:=r) (xs:=ns.map V.int) (fun i ys σ H'=>∃ v,σ = [v] ∧ H' = H ∧ ys = (List.replicate i true).map V.bl) ⟨none,rfl,rfl,rfl⟩ ?_ ?_ ?_⟩
 ·rintro i ys σ H' hi ⟨v,rfl,rfl,rfl⟩
  rw [List.length_map] at hi
  exact ⟨SqL.of hr0,bigL (by rw [List.length_map,List.length_replicate]; omega)⟩
 ·rintro i y ys σ H' ey ⟨v,rfl,rfl,rfl⟩
  obtain ⟨z,hz,rfl⟩:=int_at ey
  dsimp only [gName,tYes]
  rw [if_pos rfl]
  refine ⟨_,rfl,z,rfl,_,rfl,rfl,?_⟩
  rw [List.replicate_succ',List.map_append]
  rfl
 ·rintro ys σ H' ⟨v,rfl,rfl,rfl⟩ r3 nr3
  refine ⟨r3,List.replicate _ true,rfl,SqL.of upd_same,?_⟩
  rw [show ∀ n,(List.replicate n true).all id = true by simp]
  exact k _ (same_upd nr3)
def SgU (H:Hp) (ρ : Rho) (v:V) (x:Int × O) : Prop:=∃ a q,v = .ref a ∧ ρ a = none ∧ H a = some (.tup [.int x.1,.ref q]) ∧ OrdU H ρ (.ref q) x.2
theorem SgU.fr {P:Role → Prop} {ρ ρ':Rho} {H H':Hp} {v:V} {x:Int × O} (f:Fr P ρ H ρ' H') (h:SgU H ρ v x) : SgU H' ρ' v x:=by
 obtain ⟨a,q,e,n,h1,h2⟩:=h
 obtain ⟨h1',n'⟩:=fr_un f h1 n
 exact ⟨a,q,e,n',h1',h2.fr f⟩
structure Ws (H:Hp) (ρ : Rho) (wa sa:Addr) (i j:Nat) (L:List O) (sg:List (Int × O)) : Prop where
 w : ∃ xs wr,H wa = some (.lst xs) ∧ Paired (OrdU H ρ) xs wr ∧ (∀ o,o ∈ wr ↔ o ∈ L) ∧ wr.length ≤ i
 wr : ρ wa = some (9,.own 2)
 s : ∃ ys sr,H sa = some (.lst ys) ∧ Paired (SgU H ρ) ys sr ∧ (∀ x,x ∈ sr ↔ x ∈ sg) ∧ sr.length ≤ j
 sr : ρ sa = some (9,.own 3)
theorem Ws.fr {P:Role → Prop} {ρ ρ':Rho} {H H':Hp} {wa sa:Addr} {i j:Nat} {L:List O} {sg:List (Int × O)} (f:Fr P ρ H ρ' H') (n2 : ¬ P (9,.own 2)) (n3 : ¬ P (9,.own 3)) (x:Ws H ρ wa sa i j L sg) : Ws H' ρ' wa sa i j L sg:=by
 obtain ⟨xs,wr,h1,p1,m1,l1⟩:=x.w
 obtain ⟨ys,sr,h2,p2,m2,l2⟩:=x.s
 obtain ⟨a1,a2⟩:=fr_at f h1 x.wr n2
 obtain ⟨b1,b2⟩:=fr_at f h2 x.sr n3
 exact ⟨⟨xs,wr,a1,Paired.mapP p1 fun _ _=>OrdU.fr f,m1,l1⟩,a2,⟨ys,sr,b1,Paired.mapP p2 fun _ _=>SgU.fr f,m2,l2⟩,b2⟩
theorem Ws.same {ρ : Rho} {H H':Hp} {wa sa:Addr} {i j:Nat} {L:List O} {sg:List (Int × O)} (s:Same H H') (x:Ws H ρ wa sa i j L sg) : Ws H' ρ wa sa i j L sg:=x.fr (P:=fun _=>False) (Fr.same s) (fun z=>z) (fun z=>z)
theorem go_no {i:Nat} (h:i = 2 ∨ i = 3) : ¬ isGo (9,.own i):=fun z=>by
 rcases z with z | z | z
 ·cases z
 ·cases z; omega
 ·cases z; omega
theorem Ws.go {ρ ρ':Rho} {H H':Hp} {wa sa:Addr} {i j:Nat} {L:List O} {sg:List (Int × O)} (f:Fr isGo ρ H ρ' H') (x:Ws H ρ wa sa i j L sg) : Ws H' ρ' wa sa i j L sg:=x.fr f (go_no (.inl rfl)) (go_no (.inr rfl))
theorem Ws.up {ρ : Rho} {H:Hp} {wa sa:Addr} {i j:Nat} {L:List O} {sg:List (Int × O)} (x:Ws H ρ wa sa i j L sg) : Ws H ρ wa sa (i + 1) (j + 1) L sg:=by
 obtain ⟨xs,wr,h1,p1,m1,l1⟩:=x.w
 obtain ⟨ys,sr,h2,p2,m2,l2⟩:=x.s
 exact ⟨⟨xs,wr,h1,p1,m1,by omega⟩,x.wr,⟨ys,sr,h2,p2,m2,by omega⟩,x.sr⟩
theorem Ws.addW {ρ : Rho} {H:Hp} {wa sa q:Addr} {i j:Nat} {L:List O} {sg:List (Int × O)} {xs:List V} {o:O} (x:Ws H ρ wa sa i j L sg) (hx:H wa = some (.lst xs)) (u:OrdU H ρ (.ref q) o) : Fr (fun r=>r = (9,.own 2)) ρ H ρ (upd H wa (.lst (xs ++ [.ref q]))) ∧ Ws (upd H wa (.lst (xs ++ [.ref q]))) ρ wa sa (i + 1) j (o :: L) sg:=by
 have f:Fr (fun r=>r = (9,.own 2)) ρ H ρ (upd H wa (.lst (xs ++ [.ref q]))):=Fr.put x.wr rfl
 obtain ⟨xs',wr,h1,p1,m1,l1⟩:=x.w
 rw [hx] at h1
 cases h1
 obtain ⟨ys,sr,h2,p2,m2,l2⟩:=x.s
 obtain ⟨b1,b2⟩:=fr_at f h2 x.sr (by intro z; cases z)
 refine ⟨f,⟨xs ++ [.ref q],wr ++ [o],upd_same,paired_app (Paired.mapP p1 fun _ _=>OrdU.fr f) (u.fr f),fun y=>?_,by rw [List.length_append]; show wr.length + 1 ≤ i + 1; omega⟩,x.wr,⟨ys,sr,b1,Paired.mapP p2 fun _ _=>SgU.fr f,m2,l2⟩,b2⟩
 rw [List.mem_append,List.mem_singleton,List.mem_cons,m1]
 exact or_comm
theorem Ws.addS {ρ : Rho} {H:Hp} {wa sa b:Addr} {i j:Nat} {L:List O} {sg:List (Int × O)} {ys:List V} {y:Int × O} (x:Ws H ρ wa sa i j L sg) (hy:H sa = some (.lst ys)) (u:SgU H ρ (.ref b) y) : Fr (fun r=>r = (9,.own 3)) ρ H ρ (upd H sa (.lst (ys ++ [.ref b]))) ∧ Ws (upd H sa (.lst (ys ++ [.ref b]))) ρ wa sa i (j + 1) L (y :: sg):=by
 have f:Fr (fun r=>r = (9,.own 3)) ρ H ρ (upd H sa (.lst (ys ++ [.ref b]))):=Fr.put x.sr rfl
 obtain ⟨xs,wr,h1,p1,m1,l1⟩:=x.w
 obtain ⟨ys',sr,h2,p2,m2,l2⟩:=x.s
 rw [hy] at h2
 cases h2
 obtain ⟨b1,b2⟩:=fr_at f h1 x.wr (by intro z; cases z)
 refine ⟨f,⟨xs,wr,b1,Paired.mapP p1 fun _ _=>OrdU.fr f,m1,l1⟩,b2,⟨ys ++ [.ref b],sr ++ [y],upd_same,paired_app (Paired.mapP p2 fun _ _=>SgU.fr f) (u.fr f),fun z=>?_,by rw [List.length_append]; show sr.length + 1 ≤ j + 1; omega⟩,x.sr⟩
 rw [List.mem_append,List.mem_singleton,List.mem_cons,m2]
 exact or_comm
theorem Ws.upS {ρ : Rho} {H:Hp} {wa sa:Addr} {i j:Nat} {L:List O} {sg:List (Int × O)} (x:Ws H ρ wa sa i j L sg) : Ws H ρ wa sa i (j + 1) L sg:=by
 obtain ⟨ys,sr,h2,p2,m2,l2⟩:=x.s
 exact ⟨x.w,x.wr,⟨ys,sr,h2,p2,m2,by omega⟩,x.sr⟩
theorem Sw.own {t:Ad} {H H':Hp} {ρ ρ':Rho} {W:WA} {ω : Wd} {T:Nat} {L:List O} {sg:List (Int × O)} {p:Pt} {P:Role → Prop} {To R:Addr} (x:Sw t H ρ W ω T L sg p To R) (f:Fr P ρ H ρ' H') (hP : ∀ r,P r → r = (9,.own 2) ∨ r = (9,.own 3)) (kr:OkR ρ' H') : Sw t H' ρ' W ω T L sg p To R:=by
 obtain ⟨a,b⟩:=town_fr f (fun z=>by rcases hP _ z with h | h <;> cases h) (fun z=>by rcases hP _ z with h | h <;> cases h) x.tn x.tr
 exact ⟨x.w.fr f (fun q z=>by rcases hP _ z with h | h <;> cases h) kr,a,b⟩
theorem Ps.same {ρ : Rho} {H H':Hp} {pa x fo ho be ro:Addr} {crew few:Int} {p:Pt} (s:Same H H') (h:Ps H ρ pa x crew few fo ho be ro p) : Ps H' ρ pa x crew few fo ho be ro p:=h.fr (P:=fun _=>False) (Fr.same s)
theorem pickI {t:Ad} {H:Hp} {ρ : Rho} {W:WA} {ω : Wd} {T:Nat} {L:List O} {sg:List (Int × O)} {p:Pt} {To R a:Addr} {zs:List Int} {Q:VK} (S:Sw t H ρ W ω T L sg p To R) (u:Un H ρ a (zs.map V.int)) (l0 : 0 < zs.length) (l1:zs.length ≤ 1000) (k : ∀ z H',z ∈ zs → Sw t H' ρ W ω T L sg p To R → Fr isTn ρ H ρ H' → Q (.int z) H') : sp_pick [.ref To,.ref a] H Q E0:=by
 obtain ⟨n1,n2⟩:=u.neT S
 refine ⟨To,R,a,_,rfl,S.tn,u.1,n1,n2,by rw [List.length_map]; exact l0,by rw [List.length_map]; omega,fun i x H' ex hT k'=>?_⟩
 obtain ⟨z,hz,rfl⟩:=int_at ex
 obtain ⟨S',f⟩:=S.draw hT k'
 exact k z H' hz S' f
abbrev lsg (a To pa x:Addr) (cr few:Int) (fo ho be ro wa sa:Addr) (l:List (Option V)) : St:=[some (.ref a),some (.ref To),some (.ref pa),some (.ref x),some (.int cr),some (.int few),some (.ref fo),some (.ref ho),some (.ref be),some (.ref ro),some (.ref wa),some (.ref sa)] ++ l
def sp_law (K:W.Frag) : Sp:=fun vs H Q _=>∃ (a:Addr) (ns:List Int),vs = [.ref a] ∧ SqL K H a (ns.map V.int) ∧ ns.length ≤ 63 ∧ ∀ H',Q (.bl true) H'
theorem subs2_eq {js js':List Nat} (h:js ∈ subs2) (h':js' ∈ subs2) (m : ∀ k,k ∈ js ↔ k ∈ js') : js = js':=(by decide +kernel : ∀ js ∈ subs2,∀ js' ∈ subs2,(∀ k ∈ List.range 8,(k ∈ js ↔ k ∈ js')) → js = js') js h js' h' fun k _=>m k
def sgD (x:Int × O) : Dt:=.tup [.int x.1,ordDt x.2]
theorem SgU.hasD {K:W.Frag} {H:Hp} {ρ : Rho} {v:V} {x:Int × O} (h:SgU H ρ v x) : HasD K H (sgD x) v:=by
 obtain ⟨a,q,rfl,n,h1,_,e,_,h2⟩:=h
 cases e
 unfold sgD
 rw [HasD]
 refine ⟨a,_,rfl,SqT.of h1,?_⟩
 rw [HasDs]
 refine ⟨_,_,rfl,by rw [HasD],?_⟩
 rw [HasDs]
 exact ⟨_,_,rfl,hasD_ord ⟨q,rfl,h2⟩,by rw [HasDs]⟩
theorem depDs_sg : ∀ ls:List (Int × O),depDs (ls.map sgD) ≤ 10
 | []=>by rw [List.map_nil]; simp [depDs]
 | l :: ls=>by
  have:=depDs_sg ls
  rw [List.map_cons,depDs]
  have q:depD (sgD l) ≤ 10:=by
   unfold sgD ordDt ordI
   simp [depD,depDs]
  omega
set_option maxHeartbeats 0 in
theorem ok_law (T:Txt K mg t) : FnOk P w K mg base CX0 12 t.f_law t.d_law ["_law_script"] (sp_law K):=by
 refine T.F_law.okA (k:=11) sc_law fun _ A _ s H vs Q E hr h=>?_
 obtain ⟨a,ns,rfl,hS,hn,k⟩:=h
 refine ⟨_,(@pss_cons _ _ _ _ _ (ps_set (i:=1) sc_law.nd rfl (Or.inl rfl) (pe_call (ok__law_town T) hr.dn rfl T.m__law_town T.F__law_town.kp T.b__law_town .nil pass0 (pa_more (pv 0) pa_nil)))
  (@pss_cons _ _ _ _ _ (ps_set (i:=2) sc_law.nd rfl (Or.inl rfl) (pe_call (ok__law_world T) hr.dn rfl T.m__law_world T.F__law_world.kp T.b__law_world .nil pass0 (pa_more (pv 1) pa_nil)))
  (@pss_cons _ _ _ _ _ (ps_asg (pv 2) (pg_tup rfl (pgs_cons (pg_name (i:=3) sc_law.nd rfl (Or.inl rfl)) (pgs_cons (pg_name (i:=4) sc_law.nd rfl (Or.inl rfl)) (pgs_cons (pg_name (i:=5) sc_law.nd rfl (Or.inl rfl)) (pgs_cons (pg_name (i:=6) sc_law.nd rfl (Or.inl rfl)) (pgs_cons (pg_name (i:=7) sc_law.nd rfl (Or.inl rfl)) (pgs_cons (pg_name (i:=8) sc_law.nd rfl (Or.inl rfl)) (pgs_cons (pg_name (i:=9) sc_law.nd rfl (Or.inr rfl)) pgs_nil)))))))))
  (@pss_cons _ _ _ _ _ (@ps_set _ _ 10 _ _ _ _ sc_law.nd rfl (Or.inl rfl) (@pe_lst _ _ _ _ pa_nil) (by rfl) (by first | exact .inl rfl | exact .inr rfl))
  (@pss_cons _ _ _ _ _ (@ps_set _ _ 11 _ _ _ _ sc_law.nd rfl (Or.inl rfl) (@pe_lst _ _ _ _ pa_nil) (by rfl) (by first | exact .inl rfl | exact .inr rfl))
  (@pss_cons _ _ _ _ _ (ps_for PassesOwn.never rfl (pi_range1 rfl T.n_range (pa_more pe_int pa_nil)) (pg_name (i:=12) sc_law.nd rfl (Or.inl rfl)) (@pss_cons _ _ _ _ _ (ps_if (PW.pt (pw_and (pt_cmpR (op_neD hr.units) (pv 9) (@pe_lst _ _ _ _ pa_nil) (nomark _)) (pw_and1 (pt_cmpR op_eq (pe_call (ok__law_draw T) hr.dn rfl T.m__law_draw T.F__law_draw.kp T.b__law_draw .nil pass0 (@pa_2 _ _ _ _ _ (pv 1) pe_int rfl rfl)) pe_int (nomark _))))) (@pss_cons _ _ _ _ _ (ps_set (i:=13) sc_law.nd rfl (Or.inl rfl) (pe_call (ok__law_order T) hr.dn rfl T.m__law_order T.F__law_order.kp T.b__law_order .nil pass0 (@pa_3 _ _ _ _ _ _ _ (pv 1) (pv 2) (pe_call (ok__law_pick T) hr.dn rfl T.m__law_pick T.F__law_pick.kp T.b__law_pick .nil pass0 (@pa_2 _ _ _ _ _ (pv 1) (pv 9) rfl rfl)) rfl rfl rfl)))
  (@pss_cons _ _ _ _ _ (ps_if (PW.pt (pw_and (pt_cmpR (op_neD hr.units) (pv 6) (@pe_lst _ _ _ _ pa_nil) (nomark _)) (pw_and1 (pt_cmpR op_eq (pe_call (ok__law_draw T) hr.dn rfl T.m__law_draw T.F__law_draw.kp T.b__law_draw .nil pass0 (@pa_2 _ _ _ _ _ (pv 1) pe_int rfl rfl)) pe_int (nomark _))))) (@pss_cons _ _ _ _ _ (ps_set (i:=14) sc_law.nd rfl (Or.inr rfl) (pe_call (ok__law_pick T) hr.dn rfl T.m__law_pick T.F__law_pick.kp T.b__law_pick .nil pass0 (@pa_2 _ _ _ _ _ (pv 1) (pv 6) rfl rfl)))
  (@pss_cons _ _ _ _ _ (ps_expr (pe_meth (pv 3) T.cl_World T.mt_World_lie (ok_World_lie T) hr.dn T.b_World_lie .nil pass0 (@pa_2 _ _ _ _ _ (pv 14) (pv 13) rfl rfl)))
  (@pss_one _ _ _ (ps_expr (pe_bm PySem.F.plainAttrs_list PySem.F.slot_list_append PySem.F.type_list_append mt_append (pv 11) (pa_more (@pe_tup _ _ _ _ _ (@pa_2 _ _ _ _ _ (pv 14) (pv 13) rfl rfl)) pa_nil)))))) (@pss_one _ _ _ (ps_expr (pe_meth (pv 3) T.cl_World T.mt_World_cheat (ok_World_cheat T) hr.dn T.b_World_cheat .nil pass0 (@pa_2 _ _ _ _ _ (pv 13) (pe_call (ok__law_pick T) hr.dn rfl T.m__law_pick T.F__law_pick.kp T.b__law_pick .nil pass0 (@pa_2 _ _ _ _ _ (pv 1) (pv 7) rfl rfl)) rfl rfl)))))
  (@pss_one _ _ _ (ps_expr (pe_bm PySem.F.plainAttrs_list PySem.F.slot_list_append PySem.F.type_list_append mt_append (pv 10) (pa_more (pv 13) pa_nil)))))) (@pss_one _ _ _ (ps_expr (pe_call (ok__law_letter T) hr.dn rfl T.m__law_letter T.F__law_letter.kp T.b__law_letter .nil pass0 (@pa_2 _ _ _ _ _ (pv 1) (pv 3) rfl rfl)))))
  (@pss_cons _ _ _ _ _ (@ps_set _ _ 15 _ _ _ _ sc_law.nd rfl (Or.inl rfl) (@pe_lst _ _ _ _ pa_nil) (by rfl) (by first | exact .inl rfl | exact .inr rfl))
  (@pss_cons _ _ _ _ _ (ps_for PassesOwn.never rfl (@pi_list _ _ _ _ (pv 10)) (pg_name (i:=16) sc_law.nd rfl (Or.inr rfl)) (@pss_one _ _ _ (ps_if (pt_cmpR (op_neD hr.units) (pe_lcomp (N':=["_law_two","_law_one"]) (ix:=[none,some 16]) (compOk_is (by kernel_rfl)) rfl (@pi_list _ _ _ _ (pv 10)) (fun _ _ _ _=>(pg_name (i:=0) nd_14 rfl (Or.inl rfl) (.inr rfl))) (fun _ _ _ _=>(pif_one (PW.pt (pw_and (pt_cmpR (op_eqDK (K:=K) rfl hr.units) (pe_slice (sl_tupK (K:=K) rfl) (pv 1) po_none (po_some pe_int)) (pe_slice (sl_tupK (K:=K) rfl) (pv 0) po_none (po_some pe_int)) (nomark _)) (pw_and1 (pt_cmpR (op_neDK (K:=K) rfl hr.units) (pv 1) (pv 0) (nomark _))))))) (fun _ _ _ _=>(pv 0))) (@pe_lst _ _ _ _ pa_nil) (nomark _)) (@pss_one _ _ _ (ps_expr (pe_bm PySem.F.plainAttrs_list PySem.F.slot_list_append PySem.F.type_list_append mt_append (pv 15) (pa_more (pe_ix ix_tup (pv 16) pe_int (fun _ _=>rfl)) pa_nil)))) pss_nil)))
  (@pss_cons _ _ _ _ _ (ps_set (i:=15) sc_law.nd rfl (Or.inl rfl) (pe_callB (call_sortedS rfl) rfl T.n_sorted boot_sorted (pa_more (pe_callTy (call_setI rfl) rfl T.n_set boot_set (pa_more (pv 15) pa_nil)) pa_nil)))
  (@pss_cons _ _ _ _ _ (ps_if (PW.pt (pw_or (pt_cmpR (op_neD hr.units) (pe_call (ok_false_owners T) hr.dn rfl T.m_false_owners T.F_false_owners.kp T.b_false_owners .nil pass0 (pa_more (pv 3) pa_nil)) (pv 15) (nomark _)) (pw_or1 (pt_cmpR (op_neD hr.units) (pe_lcomp (N':=["_law_one","_law_rogues"]) (ix:=[none,some 9]) (compOk_is (by kernel_rfl)) rfl (@pi_list _ _ _ _ (pv 15)) (fun _ _ _ _=>(pg_name (i:=0) nd_13 rfl (Or.inl rfl) (.inr rfl))) (fun _ _ _ _=>(pif_one (pt_cmpR (op_notIn_seqK (K:=K) rfl) (pv 0) (pv 1) (by with_unfolding_all rfl)))) (fun _ _ _ _=>(pv 0))) (@pe_lst _ _ _ _ pa_nil) (nomark _))))) (@pss_one _ _ _ (ps_ret pe_bl)) pss_nil)
  (@pss_cons _ _ _ _ _ (@ps_set _ _ 15 _ _ _ _ sc_law.nd rfl (Or.inl rfl) (@pe_lst _ _ _ _ pa_nil) (by rfl) (by first | exact .inl rfl | exact .inr rfl))
  (@pss_cons _ _ _ _ _ (ps_for PassesOwn.never rfl (@pi_list _ _ _ _ (pv 11)) (pg_tup rfl (pgs_cons (pg_name (i:=14) sc_law.nd rfl (Or.inr rfl)) (pgs_cons (pg_name (i:=16) sc_law.nd rfl (Or.inr rfl)) pgs_nil))) (@pss_one _ _ _ (ps_if (pt_cmpR (op_neD hr.units) (pe_lcomp (N':=["_law_two","_law_foe","_law_one"]) (ix:=[none,some 14,some 16]) (compOk_is (by kernel_rfl)) rfl (@pi_list _ _ _ _ (pv 11)) (fun _ _ _ _=>(pg_name (i:=0) nd_12 rfl (Or.inl rfl) (.inr rfl))) (fun _ _ _ _=>(pif_one (PW.pt (pw_and (pt_cmpR op_eq (pe_ix (ix_tupK (K:=K) rfl) (pv 0) pe_int (fun _ _=>rfl)) (pv 1) (nomark _)) (pw_and (pt_cmpR (op_eqDK (K:=K) rfl hr.units) (pe_slice (sl_tupK (K:=K) rfl) (pe_ix (ix_tupK (K:=K) rfl) (pv 0) pe_int (fun _ _=>rfl)) po_none (po_some pe_int)) (pe_slice (sl_tupK (K:=K) rfl) (pv 2) po_none (po_some pe_int)) (nomark _)) (pw_and1 (pt_cmpR (op_neDK (K:=K) rfl hr.units) (pe_ix (ix_tupK (K:=K) rfl) (pv 0) pe_int (fun _ _=>rfl)) (pv 2) (nomark _)))))))) (fun _ _ _ _=>(pv 0))) (@pe_lst _ _ _ _ pa_nil) (nomark _)) (@pss_one _ _ _ (ps_expr (pe_bm PySem.F.plainAttrs_list PySem.F.slot_list_append PySem.F.type_list_append mt_append (pv 15) (pa_more (pv 14) pa_nil)))) pss_nil)))
  (@pss_one _ _ _ (ps_if (PW.pt (pw_or (pt_cmpR (op_neD hr.units) (pe_call (ok_false_houses T) hr.dn rfl T.m_false_houses T.F_false_houses.kp T.b_false_houses .nil pass0 (pa_more (pv 3) pa_nil)) (pe_callB (call_sortedS rfl) rfl T.n_sorted boot_sorted (pa_more (pe_callTy (call_setI rfl) rfl T.n_set boot_set (pa_more (pv 15) pa_nil)) pa_nil)) (nomark _)) (pw_or1 (pt_not (pt_val (pe_call (ok__law_whole_list T) hr.dn rfl T.m__law_whole_list T.F__law_whole_list.kp T.b__law_whole_list .nil pass0 (pa_more (pe_call (ok_false_houses T) hr.dn rfl T.m_false_houses T.F_false_houses.kp T.b_false_houses .nil pass0 (pa_more (pv 3) pa_nil)) pa_nil))))))) (@pss_one _ _ _ (ps_ret pe_bl)) pss_nil))))))))))
  (@pss_one _ _ _ (ps_ret (pe_cmpR op_isB (pe_call (ok_lost_nothing T) hr.dn rfl T.m_lost_nothing T.F_lost_nothing.kp T.b_lost_nothing .nil pass0 (pa_more (pv 3) pa_nil)) pe_bl (nomark _)))))))))),?_⟩
 refine seqN fun N hN=>⟨_,rfl,a,ns,rfl,hS,fun To R H1 nT nR s1 hT=>?_⟩
 have hTR:To ≠ R:=hT.ne
 obtain ⟨ρ0,hρ0⟩ : ∃ ρ0:Rho,ρ0 = setR (setR (fun _=>none) R (9,.own 1)) To (9,.own 0):=⟨_,rfl⟩
 have S0:Tw H1 ρ0 To R:=by
  obtain ⟨row,c,t1,t2,t3⟩:=hT
  refine ⟨?_,⟨row,c,t1,t2,t3⟩,?_⟩
  ·rw [hρ0]
   exact OkR.setR (OkR.setR (fun _ _ z=>by cases z) t2 True.intro) t1 True.intro
  ·rw [hρ0]
   exact ⟨setR_same,by rw [setR_ne hTR.symm,setR_same]⟩
 refine hN _ _ (seqN fun N hN=>⟨_,rfl,ρ0,To,R,rfl,S0,fun ρ1 H2 W ω0 pa cr few fo ho be ro p ok S1 B1=>?_⟩)
 refine hN _ _ (seqN fun N hN=>⟨_,rfl,pa,_,rfl,SqT.of B1.tp.1,rfl,_,_,rfl,_,_,rfl,_,_,rfl,_,_,rfl,_,_,rfl,_,_,rfl,_,_,rfl,rfl,?_⟩)
 refine hN (lsg a To pa W.x cr few fo ho be ro a a [] |>.take 10 |>.append (List.replicate 7 none)) _ (seqN fun N hN=>⟨zs0,fun wa nwa=>?_⟩)
 have f2:Fr (fun _=>False) ρ1 H2 (setR ρ1 wa (9,.own 2)) (upd H2 wa (.lst [])):=Fr.newR nwa
 have S2:=S1.own f2 (fun _ z=>z.elim) S1.w.kr.newR
 have B2:=B1.fr f2
 have r2:setR ρ1 wa (9,.own 2) wa = some (9,.own 2):=setR_same
 have h2:upd H2 wa (.lst []) wa = some (.lst []):=upd_same
 generalize upd H2 wa (.lst []) = H3 at S2 B2 h2
 generalize setR ρ1 wa (9,.own 2) = ρ2 at S2 B2 r2
 clear f2
 refine hN (lsg a To pa W.x cr few fo ho be ro wa a [] |>.take 11 |>.append (List.replicate 6 none)) _ (seqN fun N hN=>⟨zs0,fun sa nsa=>?_⟩)
 have f3:Fr (fun _=>False) ρ2 H3 (setR ρ2 sa (9,.own 3)) (upd H3 sa (.lst [])):=Fr.newR nsa
 have S3:=S2.own f3 (fun _ z=>z.elim) S2.w.kr.newR
 have B3:=B2.fr f3
 have ws3:Ws (upd H3 sa (.lst [])) (setR ρ2 sa (9,.own 3)) wa sa 0 0 [] []:=by
  obtain ⟨e1,e2⟩:=fr_at f3 h2 r2 (fun z=>z)
  exact ⟨⟨[],[],e1,.nil,fun _=>Iff.rfl,Nat.le_refl _⟩,e2,⟨[],[],upd_same,.nil,fun _=>Iff.rfl,Nat.le_refl _⟩,setR_same⟩
 generalize upd H3 sa (.lst []) = H4 at S3 B3 ws3
 generalize setR ρ2 sa (9,.own 3) = ρ3 at S3 B3 ws3
 clear f3 h2 r2
 refine hN (lsg a To pa W.x cr few fo ho be ro wa sa [none,none,none,none,none]) _ (seqN fun N hN=>⟨36,rfl,by decide,by decide,for_range (lo:=0) (n:=36) (fun i σ H'=>∃ ρ ω L sg v1 v2 v3 v4 v5,σ = lsg a To pa W.x cr few fo ho be ro wa sa [v1,v2,v3,v4,v5] ∧ Sw t H' ρ W ω i L sg p To R ∧ Ps H' ρ pa W.x cr few fo ho be ro p ∧ Ws H' ρ wa sa i i L sg) ⟨ρ3,ω0,[],[],none,none,none,none,none,rfl,S3,B3,ws3⟩ ?_ ?_⟩)
 ·rintro i σ H5 hi ⟨ρ5,ω,L,sg,v1,v2,v3,v4,v5,rfl,S5,B5,ws5⟩
  refine seqN fun N' hN'=>?_
  have join : ∀ ρ ω L sg H v2 v3,Sw t H ρ W ω (i + 1) L sg p To R → Ps H ρ pa W.x cr few fo ho be ro p → Ws H ρ wa sa (i + 1) (i + 1) L sg → N' (lsg a To pa W.x cr few fo ho be ro wa sa [some (.int (0 + (i:Int))),v2,v3,v4,v5]) H:=by
   clear S5 B5 ws5
   intro ρ ω L sg H6 v2 v3 S6 B6 ws6
   have nilU : ∀ {HB e},HB e = none → HasD K (upd HB e (.lst [])) (.lst []) (.ref e):=fun n=>by
    rw [HasD]
    exact ⟨_,[],rfl,SqL.of upd_same,by rw [HasDs]⟩
   have no4 : ∀ o:O,¬ (HT.sIx (ordV o).length 0 none = 0 ∧ HT.sIx (ordV o).length (ordV o).length (some 2) = (ordV o).length):=fun o z=>by
    have z2:HT.sIx 4 4 (some 2) = 4:=z.2
    exact absurd z2 (by decide)
   obtain ⟨xs,wr,hx,px,mw,lw⟩:=ws6.w
   have lxs:=Paired.length px
   refine hN' _ _ (seqN fun N' hN'=>⟨zs0,fun du ndu=>?_⟩)
   have s7:=same_upd (o:=.lst []) ndu
   refine hN' (lsg a To pa W.x cr few fo ho be ro wa sa [some (.int (0 + (i:Int))),v2,v3,some (.ref du),v5]) _ (seqN fun N' hN'=>⟨_,rfl,wa,rfl,⟨_,SqL.of (s7 _ _ hx)⟩,for_list (K:=K) (a:=wa) (xs:=xs) (fun j σ H'=>∃ w5 ds,σ = lsg a To pa W.x cr few fo ho be ro wa sa [some (.int (0 + (i:Int))),v2,v3,some (.ref du),w5] ∧ Same H6 H' ∧ H' du = some (.lst ((ds:List Int).map V.int)) ∧ ds.length ≤ j ∧ ∀ z,z ∈ ds ↔ ∃ o ∈ wr.take j,(∃ u ∈ wr,u ≠ o ∧ plc u = plc o) ∧ o.p = z) ⟨v5,[],rfl,s7,upd_same,Nat.le_refl _,fun z=>by simp⟩ (fun j σ H' _ ⟨_,_,_,s',_⟩=>SqL.of (s' _ _ hx)) ?_ ?_⟩)
   ·rintro j y σ H8 ey ⟨w5,ds,rfl,s8,hd,ld,md⟩
    obtain ⟨o,eo,q,rfl,nq,hq⟩:=paired_get px ey
    have hj:j < wr.length:=(List.getElem?_eq_some_iff.mp eo).1
    refine ifN fun M hM=>⟨_,rfl,wa,rfl,⟨_,SqL.of (s8 _ _ hx)⟩,lc_list (K:=K) (a:=wa) (xs:=xs) (fun m ys σ H'=>∃ v,σ = [v,some (.ref q)] ∧ Same H8 H' ∧ Paired (OrdU H' ρ) ys ((wr.take m).filter fun u=>decide (plc o = plc u) && !decide (o = u))) ⟨none,rfl,Same.refl _,.nil⟩ ?_ ?_ ?_⟩
    ·rintro m ys σ H' hm ⟨v,rfl,s9,py⟩
     refine ⟨SqL.of (s9 _ _ (s8 _ _ hx)),bigL ?_⟩
     rw [Paired.length py]
     exact Nat.le_trans (List.length_filter_le _ _) (by rw [List.length_take]; omega)
    ·rintro m y2 ys σ H' ey2 ⟨v,rfl,s9,py⟩
     obtain ⟨u,eu,q2,rfl,nq2,hq2⟩:=paired_get px ey2
     have G1:=s8.trans s9
     refine ⟨_,rfl,2,rfl,q,ordV o,rfl,SqT.of (G1 _ _ hq),no4 o,fun p1 n1=>?_⟩
     have t1:=same_upd (o:=.tup (cutV (ordV o) none (some 2))) n1
     refine ⟨_,rfl,2,rfl,q2,ordV u,rfl,SqT.of (t1 _ _ (G1 _ _ hq2)),no4 u,fun p2 n2=>?_⟩
     have t2:=t1.trans (same_upd (o:=.tup (cutV (ordV u) none (some 2))) n2)
     have n12:p1 ≠ p2:=ne_of_none upd_same n2
     refine ⟨.tup ([o.p,o.n].map Dt.int),.tup ([u.p,u.n].map Dt.int),hasD_tupI (SqT.of (by rw [upd_ne n12,upd_same]; rfl)),hasD_tupI (SqT.of (by rw [upd_same]; rfl)),dep_tupI _,_,rfl,?_⟩
     generalize upd (upd H' p1 (.tup (cutV (ordV o) none (some 2)))) p2 (.tup (cutV (ordV u) none (some 2))) = H10 at t2
     rw [eqD_tupI,show decide ([o.p,o.n] = [u.p,u.n]) = decide (plc o = plc u) by simp [plc]]
     have G2:=G1.trans t2
     have ef:((wr.take (m + 1)).filter fun u=>decide (plc o = plc u) && !decide (o = u)) = ((wr.take m).filter fun u=>decide (plc o = plc u) && !decide (o = u)) ++ if (decide (plc o = plc u) && !decide (o = u)) = true then [u] else []:=by
      rw [take_snoc eu,List.filter_append]
      congr 1
      by_cases z:(decide (plc o = plc u) && !decide (o = u)) = true <;> simp [z]
     have py':Paired (OrdU H10 ρ) ys ((wr.take m).filter fun u=>decide (plc o = plc u) && !decide (o = u)):=Paired.mapP py fun _ _=>OrdU.fr (P:=fun _=>False) (Fr.same t2)
     rw [ef]
     refine ite2 (fun z=>?_) (fun z=>iteF ⟨_,rfl,s9.trans t2,by rw [if_neg (fun y=>z (by rw [Bool.and_eq_true] at y; exact y.1)),List.append_nil]; exact py'⟩)
     refine ⟨_,rfl,_,rfl,ordDt o,ordDt u,hasD_ord ⟨q,rfl,G2 _ _ hq⟩,hasD_ord ⟨q2,rfl,G2 _ _ hq2⟩,dep_ord _,_,rfl,?_⟩
     rw [eqD_ord]
     refine ite2 (fun y=>⟨_,rfl,_,rfl,s9.trans t2,?_⟩) (fun y=>⟨_,rfl,s9.trans t2,?_⟩)
     ·rw [if_pos (by rw [z,y]; rfl)]
      exact paired_app py' ⟨q2,rfl,nq2,G2 _ _ hq2⟩
     ·rw [if_neg (fun x=>y (by rw [Bool.and_eq_true] at x; exact x.2)),List.append_nil]
      exact py'
    rintro ys σ H9 ⟨v,rfl,s9,py⟩ r9 nr9
    rw [lxs,List.take_length] at py
    have t9:=same_upd (o:=.lst ys) nr9
    refine ⟨zs0,fun e9 ne9=>⟨.lst ((wr.filter fun u=>decide (plc o = plc u) && !decide (o = u)).map ordDt),.lst [],?_,nilU ne9,?_,_,rfl,?_⟩⟩
    ·rw [HasD]
     exact ⟨r9,ys,rfl,SqL.of (same_upd ne9 _ _ upd_same),hasDs_pair (fun x o h=>hasD_ord h) (Paired.mapP py fun _ _ h=>OrdAt.same (t9.trans (same_upd ne9)) h.at_)⟩
    ·have:=depDs_tups ((wr.filter fun u=>decide (plc o = plc u) && !decide (o = u)).map ordI)
     rw [List.map_map] at this
     rw [depD]
     have e:(tupD ∘ ordI) = ordDt:=rfl
     rw [e] at this
     omega
    have t10:Same H8 (upd (upd H9 r9 (.lst ys)) e9 (.lst [])):=(s9.trans t9).trans (same_upd ne9)
    generalize upd (upd H9 r9 (.lst ys)) e9 (.lst []) = H10 at t10
    rw [eqDs_nilT]
    have fe:(wr.filter fun u=>decide (plc o = plc u) && !decide (o = u)) = [] ↔ ¬ ∃ u ∈ wr,u ≠ o ∧ plc u = plc o:=by
     rw [List.filter_eq_nil_iff]
     constructor
     ·rintro h ⟨u,hu,h1,h2⟩
      exact h u hu (by rw [decide_eq_true h2.symm,decide_eq_false (fun y=>h1 y.symm)]; rfl)
     ·intro h u hu z
      rw [Bool.and_eq_true,decide_eq_true_eq,Bool.not_eq_true',decide_eq_false_iff_not] at z
      exact h ⟨u,hu,fun y=>z.2 y.symm,z.1.symm⟩
    have tk : ∀ z,(∃ x ∈ wr.take (j + 1),(∃ u ∈ wr,u ≠ x ∧ plc u = plc x) ∧ x.p = z) ↔ (∃ x ∈ wr.take j,(∃ u ∈ wr,u ≠ x ∧ plc u = plc x) ∧ x.p = z) ∨ ((∃ u ∈ wr,u ≠ o ∧ plc u = plc o) ∧ o.p = z):=fun z=>by
     rw [take_snoc eo]
     constructor
     ·rintro ⟨x,hx,r⟩
      rcases List.mem_append.mp hx with hx | hx
      ·exact .inl ⟨x,hx,r⟩
      ·rw [List.mem_singleton.mp hx] at r
       exact .inr r
     ·rintro (⟨x,hx,r⟩ | r)
      ·exact ⟨x,List.mem_append_left _ hx,r⟩
      ·exact ⟨o,List.mem_append_right _ (List.mem_singleton.mpr rfl),r⟩
    refine hM _ _ (ite2 (fun z=>?_) (fun z=>?_))
    ·have tw : ∃ u ∈ wr,u ≠ o ∧ plc u = plc o:=Classical.byContradiction fun y=>by rw [decide_eq_true (fe.mpr y)] at z; cases z
     have hd':=t10 _ _ hd
     refine ⟨_,rfl,.inl ⟨rfl,_,SqL.of hd'⟩,_,rfl,q,ordV o,0,.int o.p,rfl,rfl,SqT.of (t10 _ _ (s8 _ _ hq)),rfl,du,_,_,rfl,rfl,hd',small1000 (by rw [List.length_map]; omega),_,ds ++ [o.p],rfl,fun b u e=>?_,by rw [upd_same,List.map_append]; rfl,by rw [List.length_append]; show ds.length + 1 ≤ j + 1; omega,fun z=>?_⟩
     ·rw [upd_ne (ne_of_none e ndu)]
      exact t10 _ _ (s8 _ _ e)
     ·rw [List.mem_append,md,tk,List.mem_singleton]
      exact ⟨fun y=>y.imp id fun e=>⟨tw,e.symm⟩,fun y=>y.imp id fun e=>e.2.symm⟩
    ·have nt : ¬ ∃ u ∈ wr,u ≠ o ∧ plc u = plc o:=fe.mp (by simpa using z)
     refine ⟨_,ds,rfl,s8.trans t10,t10 _ _ hd,by omega,fun z=>?_⟩
     rw [md,tk]
     exact ⟨.inl,fun y=>y.resolve_right fun e=>nt e.1⟩
   rintro σ H8 ⟨w5,ds,rfl,s8,hd,ld,md⟩
   rw [lxs,List.take_length] at md
   have S8:=S6.same s8
   have B8:=B6.same s8
   have ws8:=ws6.same s8
   have toCs : ∀ o ∈ wr,o.p ∈ p.cs:=fun o ho=>by rw [← S6.w.c]; exact S6.w.sh.ch o ((mw o).mp ho)
   have csR : ∀ x ∈ p.cs,0 ≤ x ∧ x < 8:=fun x hx=>by have:=ok.c x hx; have:=ok.l8; omega
   obtain ⟨ca,cb,ca8,cb8,cab⟩:=two_of ok.ct csR
   refine hN' _ _ (seqN fun N' hN'=>⟨_,rfl,du,ds,rfl,SqL.of hd,⟨ca,cb,ca8,cb8,fun z hz=>by obtain ⟨o,ho,_,e⟩:=(md z).mp hz; exact cab z (e ▸ toCs o ho)⟩,fun st js nst hj mj=>⟨st,js,rfl,upd_same,hj,fun r1 nr1=>?_⟩⟩)
   have s9:=s8.trans ((same_upd (o:=IsSet w st js) nst).trans (same_upd (o:=.lst (js.map fun (j:Nat)=>V.int j)) nr1))
   have h9:upd (upd H8 st (IsSet w st js)) r1 (.lst (js.map fun (j:Nat)=>V.int j)) r1 = some (.lst (js.map fun (j:Nat)=>V.int j)):=upd_same
   dsimp only [cxOf,Cx.nox] at hN' ⊢
   generalize upd (upd H8 st (IsSet w st js)) r1 (.lst (js.map fun (j:Nat)=>V.int j)) = H9 at s9 h9 ⊢
   have ej:(js.map fun (j:Nat)=>V.int j) = (js.map fun (j:Nat)=>(j:Int)).map V.int:=by rw [List.map_map]; rfl
   rw [ej] at h9
   have S9:=S6.same s9
   refine hN' (lsg a To pa W.x cr few fo ho be ro wa sa [some (.int (0 + (i:Int))),v2,v3,some (.ref r1),w5]) _ (seqN fun N' hN'=>ifN fun M hM=>⟨_,rfl,ρ,W,ω,i + 1,L,sg,p,rfl,S9.w,ok,by omega,fun r2 js' H10 nr2 s10 h10 hj' mj'=>⟨_,rfl,?_⟩⟩)
   have ejj:js' = js:=subs2_eq hj' hj fun k=>by
    rw [mj',mj,md]
    constructor
    ·rintro ⟨q,⟨o,ho,u,hu,h1,h2,h3⟩,h4⟩
     exact ⟨o,(mw o).mpr ho,⟨u,(mw u).mpr hu,h1,h2.trans h3.symm⟩,by rw [← h4,← h3]; rfl⟩
    ·rintro ⟨o,ho,⟨u,hu,h1,h2⟩,h4⟩
     exact ⟨plc o,⟨o,(mw o).mp ho,u,(mw u).mp hu,h1,h2,rfl⟩,h4⟩
   rw [ejj,ej] at h10
   refine ⟨.lst ((js.map fun (j:Nat)=>(j:Int)).map Dt.int),.lst ((js.map fun (j:Nat)=>(j:Int)).map Dt.int),hasD_listI (SqL.of h10),hasD_listI (SqL.of (s10 _ _ h9)),dep_listI _,_,rfl,?_⟩
   rw [eqD_listI,decide_eq_true (rfl:(js.map fun (j:Nat)=>(j:Int)) = js.map fun (j:Nat)=>(j:Int))]
   refine iteF ?_
   have s10':=s9.trans s10
   have B10:=B6.same s10'
   have l2:js.length ≤ 2:=(wkF_all true (led_mem true) js hj).2.1
   refine ⟨_,rfl,r1,rfl,⟨_,SqL.of (s10 _ _ h9)⟩,lc_list (K:=K) (a:=r1) (xs:=(js.map fun (j:Nat)=>(j:Int)).map V.int) (fun m ys σ H'=>∃ v,σ = [v,some (.ref ro)] ∧ H' = H10 ∧ ys = []) ⟨none,rfl,rfl,rfl⟩ ?_ ?_ ?_⟩
   ·rintro m ys σ H' hm ⟨v,rfl,rfl,rfl⟩
    exact ⟨SqL.of (s10 _ _ h9),Nat.zero_le _⟩
   ·rintro m y ys σ H' ey ⟨v,rfl,rfl,rfl⟩
    obtain ⟨z,hz,rfl⟩:=int_at ey
    have zc:z ∈ p.cs:=by
     obtain ⟨k',hk,rfl⟩:=List.mem_map.mp hz
     obtain ⟨o,ho,_,e⟩:=(md _).mp ((mj k').mp hk)
     rw [← e]
     exact toCs o ho
    refine ⟨_,rfl,_,rfl,ro,_,rfl,.inl (SqL.of B10.ro.1),rfl,flat_ints _,_,rfl,?_⟩
    rw [if_pos rfl,inV_ints,decide_eq_true zc]
    exact iteF ⟨_,rfl,rfl,rfl⟩
   rintro ys σ H' ⟨v,rfl,rfl,rfl⟩ r11 nr11
   have nil2 : ∀ {HB e},HB e = some (.lst []) → HasD K HB (.lst []) (.ref e):=fun h=>by
    rw [HasD]
    exact ⟨_,[],rfl,SqL.of h,by rw [HasDs]⟩
   refine ⟨zs0,fun e11 ne11=>⟨.lst [],.lst [],nil2 (same_upd ne11 _ _ upd_same),nilU ne11,by simp [depD,depDs],_,rfl,?_⟩⟩
   rw [show eqD (.lst []) (.lst []) = true by simp [eqD,eqDs]]
   have s11:=s10'.trans ((same_upd (o:=.lst []) nr11).trans (same_upd (o:=.lst []) ne11))
   generalize upd (upd H' r11 (.lst [])) e11 (.lst []) = H11 at s11
   refine hM _ _ (iteF (hN' _ _ ?_))
   clear S8 B8 ws8 S9 B10 h9 h10 s10 s10' hd nst nr1 nr2 nr11 ne11
   obtain ⟨ys,sr,hy,py,ms,lr⟩:=(ws6.same s11).s
   have lys:=Paired.length py
   refine seqN fun N' hN'=>⟨zs0,fun dv ndv=>?_⟩
   have s12:=same_upd (o:=.lst []) ndv
   refine hN' (lsg a To pa W.x cr few fo ho be ro wa sa [some (.int (0 + (i:Int))),v2,v3,some (.ref dv),w5]) _ (seqN fun N' hN'=>⟨_,rfl,sa,rfl,⟨_,SqL.of (s12 _ _ hy)⟩,for_list (K:=K) (a:=sa) (xs:=ys) (fun j σ H'=>∃ w3 w5 ds,σ = lsg a To pa W.x cr few fo ho be ro wa sa [some (.int (0 + (i:Int))),v2,w3,some (.ref dv),w5] ∧ Same H11 H' ∧ H' dv = some (.lst ((ds:List Int).map V.int)) ∧ ds.length ≤ j ∧ ∀ z,z ∈ ds ↔ ∃ x ∈ sr.take j,(∃ y ∈ sr,y.1 = x.1 ∧ plc y.2 = plc x.2 ∧ y.2 ≠ x.2) ∧ x.1 = z) ⟨v3,w5,[],rfl,s12,upd_same,Nat.le_refl _,fun z=>by simp⟩ (fun j σ H' _ ⟨_,_,_,_,s',_⟩=>SqL.of (s' _ _ hy)) ?_ ?_⟩)
   ·rintro j y σ H8 ey ⟨w3,w5,ds,rfl,s8,hd,ld,md⟩
    obtain ⟨x,ex,xa,q,rfl,nxa,hxa,_,eq,nq,hq⟩:=paired_get py ey
    cases eq
    refine ⟨xa,_,rfl,SqT.of (s8 _ _ hxa),rfl,_,_,rfl,_,_,rfl,rfl,?_⟩
    refine ifN fun M hM=>⟨_,rfl,sa,rfl,⟨_,SqL.of (s8 _ _ hy)⟩,lc_list (K:=K) (a:=sa) (xs:=ys) (fun m zs σ H'=>∃ v,σ = [v,some (.int x.1),some (.ref q)] ∧ Same H8 H' ∧ Paired (SgU H' ρ) zs ((sr.take m).filter fun y=>decide (y.1 = x.1) && (decide (plc y.2 = plc x.2) && !decide (y.2 = x.2)))) ⟨none,rfl,Same.refl _,.nil⟩ ?_ ?_ ?_⟩
    ·rintro m zs σ H' hm ⟨v,rfl,s9,pz⟩
     refine ⟨SqL.of (s9 _ _ (s8 _ _ hy)),bigL ?_⟩
     rw [Paired.length pz]
     exact Nat.le_trans (List.length_filter_le _ _) (by rw [List.length_take]; omega)
    ·rintro m y2 zs σ H' ey2 ⟨v,rfl,s9,pz⟩
     obtain ⟨u,eu,ua,q2,rfl,nua,hua,_,eq2,nq2,hq2⟩:=paired_get py ey2
     cases eq2
     have G1:=s8.trans s9
     have ef:((sr.take (m + 1)).filter fun y=>decide (y.1 = x.1) && (decide (plc y.2 = plc x.2) && !decide (y.2 = x.2))) = ((sr.take m).filter fun y=>decide (y.1 = x.1) && (decide (plc y.2 = plc x.2) && !decide (y.2 = x.2))) ++ if (decide (u.1 = x.1) && (decide (plc u.2 = plc x.2) && !decide (u.2 = x.2))) = true then [u] else []:=by
      rw [take_snoc eu,List.filter_append]
      congr 1
      by_cases z:(decide (u.1 = x.1) && (decide (plc u.2 = plc x.2) && !decide (u.2 = x.2))) = true <;> simp [z]
     rw [ef]
     refine ⟨_,rfl,ua,_,0,.int u.1,rfl,rfl,SqT.of (G1 _ _ hua),rfl,_,rfl,rfl,_,rfl,?_⟩
     rw [show decide (V.int u.1 = V.int x.1) = decide (u.1 = x.1) by simp]
     refine ite2 (fun z=>?_) (fun z=>iteF ⟨_,rfl,s9,by rw [if_neg (fun y=>z (by rw [Bool.and_eq_true] at y; exact y.1)),List.append_nil]; exact pz⟩)
     refine ⟨_,rfl,ua,_,1,.ref q2,rfl,rfl,SqT.of (G1 _ _ hua),rfl,2,rfl,q2,ordV u.2,rfl,SqT.of (G1 _ _ hq2),no4 u.2,fun p1 n1=>?_⟩
     have t1:=same_upd (o:=.tup (cutV (ordV u.2) none (some 2))) n1
     refine ⟨_,rfl,2,rfl,q,ordV x.2,rfl,SqT.of (t1 _ _ (G1 _ _ hq)),no4 x.2,fun p2 n2=>?_⟩
     have t2:=t1.trans (same_upd (o:=.tup (cutV (ordV x.2) none (some 2))) n2)
     have n12:p1 ≠ p2:=ne_of_none upd_same n2
     refine ⟨.tup ([u.2.p,u.2.n].map Dt.int),.tup ([x.2.p,x.2.n].map Dt.int),hasD_tupI (SqT.of (by rw [upd_ne n12,upd_same]; rfl)),hasD_tupI (SqT.of (by rw [upd_same]; rfl)),dep_tupI _,_,rfl,?_⟩
     generalize upd (upd H' p1 (.tup (cutV (ordV u.2) none (some 2)))) p2 (.tup (cutV (ordV x.2) none (some 2))) = H10 at t2
     rw [eqD_tupI,show decide ([u.2.p,u.2.n] = [x.2.p,x.2.n]) = decide (plc u.2 = plc x.2) by simp [plc]]
     have G2:=G1.trans t2
     have pz':Paired (SgU H10 ρ) zs ((sr.take m).filter fun y=>decide (y.1 = x.1) && (decide (plc y.2 = plc x.2) && !decide (y.2 = x.2))):=Paired.mapP pz fun _ _=>SgU.fr (P:=fun _=>False) (Fr.same t2)
     refine ite2 (fun z2=>?_) (fun z2=>iteF ⟨_,rfl,s9.trans t2,by rw [if_neg (fun y=>z2 (by rw [Bool.and_eq_true,Bool.and_eq_true] at y; exact y.2.1)),List.append_nil]; exact pz'⟩)
     refine ⟨_,rfl,ua,_,1,.ref q2,rfl,rfl,SqT.of (G2 _ _ hua),rfl,_,rfl,ordDt u.2,ordDt x.2,hasD_ord ⟨q2,rfl,G2 _ _ hq2⟩,hasD_ord ⟨q,rfl,G2 _ _ hq⟩,dep_ord _,_,rfl,?_⟩
     rw [eqD_ord]
     refine ite2 (fun y=>⟨_,rfl,_,rfl,s9.trans t2,?_⟩) (fun y=>⟨_,rfl,s9.trans t2,?_⟩)
     ·rw [if_pos (by rw [z,z2,y]; rfl)]
      exact paired_app pz' ⟨ua,q2,rfl,nua,G2 _ _ hua,q2,rfl,nq2,G2 _ _ hq2⟩
     ·rw [if_neg (fun x=>y (by rw [Bool.and_eq_true,Bool.and_eq_true] at x; exact x.2.2)),List.append_nil]
      exact pz'
    rintro zs σ H9 ⟨v,rfl,s9,pz⟩ r9 nr9
    rw [lys,List.take_length] at pz
    have t9:=same_upd (o:=.lst zs) nr9
    refine ⟨zs0,fun e9 ne9=>⟨.lst ((sr.filter fun y=>decide (y.1 = x.1) && (decide (plc y.2 = plc x.2) && !decide (y.2 = x.2))).map sgD),.lst [],?_,nilU ne9,?_,_,rfl,?_⟩⟩
    ·rw [HasD]
     exact ⟨r9,zs,rfl,SqL.of (same_upd ne9 _ _ upd_same),hasDs_pair (fun x o h=>h.hasD) (Paired.mapP pz fun _ _ h=>SgU.fr (P:=fun _=>False) (Fr.same (t9.trans (same_upd ne9))) h)⟩
    ·rw [depD]
     have:=depDs_sg (sr.filter fun y=>decide (y.1 = x.1) && (decide (plc y.2 = plc x.2) && !decide (y.2 = x.2)))
     omega
    have t10:Same H8 (upd (upd H9 r9 (.lst zs)) e9 (.lst [])):=(s9.trans t9).trans (same_upd ne9)
    generalize upd (upd H9 r9 (.lst zs)) e9 (.lst []) = H10 at t10
    rw [eqDs_nilT]
    have fe:(sr.filter fun y=>decide (y.1 = x.1) && (decide (plc y.2 = plc x.2) && !decide (y.2 = x.2))) = [] ↔ ¬ ∃ y ∈ sr,y.1 = x.1 ∧ plc y.2 = plc x.2 ∧ y.2 ≠ x.2:=by
     rw [List.filter_eq_nil_iff]
     constructor
     ·rintro h ⟨u,hu,h1,h2,h3⟩
      exact h u hu (by rw [decide_eq_true h1,decide_eq_true h2,decide_eq_false h3]; rfl)
     ·intro h u hu z
      rw [Bool.and_eq_true,Bool.and_eq_true,decide_eq_true_eq,decide_eq_true_eq,Bool.not_eq_true',decide_eq_false_iff_not] at z
      exact h ⟨u,hu,z⟩
    have tk : ∀ z,(∃ x ∈ sr.take (j + 1),(∃ y ∈ sr,y.1 = x.1 ∧ plc y.2 = plc x.2 ∧ y.2 ≠ x.2) ∧ x.1 = z) ↔ (∃ x ∈ sr.take j,(∃ y ∈ sr,y.1 = x.1 ∧ plc y.2 = plc x.2 ∧ y.2 ≠ x.2) ∧ x.1 = z) ∨ ((∃ y ∈ sr,y.1 = x.1 ∧ plc y.2 = plc x.2 ∧ y.2 ≠ x.2) ∧ x.1 = z):=fun z=>by
     rw [take_snoc ex]
     constructor
     ·rintro ⟨x,hx,r⟩
      rcases List.mem_append.mp hx with hx | hx
      ·exact .inl ⟨x,hx,r⟩
      ·rw [List.mem_singleton.mp hx] at r
       exact .inr r
     ·rintro (⟨x,hx,r⟩ | r)
      ·exact ⟨x,List.mem_append_left _ hx,r⟩
      ·exact ⟨x,List.mem_append_right _ (List.mem_singleton.mpr rfl),r⟩
    have hj:j < sr.length:=(List.getElem?_eq_some_iff.mp ex).1
    refine hM _ _ (ite2 (fun z=>?_) (fun z=>?_))
    ·have tw : ∃ y ∈ sr,y.1 = x.1 ∧ plc y.2 = plc x.2 ∧ y.2 ≠ x.2:=Classical.byContradiction fun y=>by rw [decide_eq_true (fe.mpr y)] at z; cases z
     have hd':=t10 _ _ hd
     refine ⟨_,rfl,.inl ⟨rfl,_,SqL.of hd'⟩,_,rfl,dv,_,_,rfl,rfl,hd',small1000 (by rw [List.length_map]; omega),_,_,ds ++ [x.1],rfl,fun b u e=>?_,by rw [upd_same,List.map_append]; rfl,by rw [List.length_append]; show ds.length + 1 ≤ j + 1; omega,fun z=>?_⟩
     ·rw [upd_ne (ne_of_none e ndv)]
      exact t10 _ _ (s8 _ _ e)
     ·rw [List.mem_append,md,tk,List.mem_singleton]
      exact ⟨fun y=>y.imp id fun e=>⟨tw,e.symm⟩,fun y=>y.imp id fun e=>e.2.symm⟩
    ·have nt : ¬ ∃ y ∈ sr,y.1 = x.1 ∧ plc y.2 = plc x.2 ∧ y.2 ≠ x.2:=fe.mp (by simpa using z)
     refine ⟨_,_,ds,rfl,s8.trans t10,t10 _ _ hd,by omega,fun z=>?_⟩
     rw [md,tk]
     exact ⟨.inl,fun y=>y.resolve_right fun e=>nt e.1⟩
   rintro σ H8 ⟨w3,w5,ds,rfl,s8,hd,ld,md⟩
   rw [lys,List.take_length] at md
   have s8':=s11.trans s8
   have S8:=S6.same s8'
   have two : ∀ z,z ∈ ds ↔ TwoF sg z:=fun z=>by
    rw [md]
    constructor
    ·rintro ⟨x,hx,⟨y,hy,h1,h2,h3⟩,h4⟩
     exact ⟨x.2,y.2,(ms _).mp (by rw [← h4]; exact hx),(ms _).mp (by rw [← h4,← h1]; exact hy),h3,h2⟩
    ·rintro ⟨o,u,ho,hu,h1,h2⟩
     exact ⟨(z,o),(ms _).mpr ho,⟨(z,u),(ms _).mpr hu,rfl,h2,h1⟩,rfl⟩
   have toLs : ∀ z,TwoF sg z → z ∈ p.ls:=fun z ⟨o,_,ho,_⟩=>(S6.w.sh.sl _ ho).1
   obtain ⟨la,lb,la8,lb8,lab⟩:=two_of ok.lt ok.lr
   refine hN' (lsg a To pa W.x cr few fo ho be ro wa sa [some (.int (0 + (i:Int))),v2,w3,some (.ref dv),w5]) _ (ifN fun M hM=>⟨_,rfl,ρ,W,ω,i + 1,L,sg,p,rfl,S8.w,ok,by omega,fun r2 ns H9 nr2 s9 h9 up9 m9=>?_⟩)
   refine ⟨_,rfl,dv,ds,rfl,SqL.of (s9 _ _ hd),⟨la,lb,la8,lb8,fun z hz=>lab z (toLs z ((two z).mp hz))⟩,fun st js nst hj mj=>⟨st,js,rfl,upd_same,hj,fun r1 nr1=>?_⟩⟩
   have s10:=(same_upd (o:=IsSet w st js) nst).trans (same_upd (o:=.lst (js.map fun (j:Nat)=>V.int j)) nr1)
   have h10:upd (upd H9 st (IsSet w st js)) r1 (.lst (js.map fun (j:Nat)=>V.int j)) r1 = some (.lst (js.map fun (j:Nat)=>V.int j)):=upd_same
   have ej:(js.map fun (j:Nat)=>V.int j) = (js.map fun (j:Nat)=>(j:Int)).map V.int:=by rw [List.map_map]; rfl
   dsimp only [cxOf,Cx.nox]
   generalize upd (upd H9 st (IsSet w st js)) r1 (.lst (js.map fun (j:Nat)=>V.int j)) = H10 at s10 h10 ⊢
   rw [ej] at h10
   have en:ns = js.map fun (j:Nat)=>(j:Int):=by
    have upj:=(wkF_all true (led_mem true) js hj).2.2.1
    refine up_eq upj (perm_same (up9.imp fun h=>Int.ne_of_lt h) ?_ fun z=>?_) (up9.imp fun h=>Int.le_of_lt h)
    ·exact List.Pairwise.map _ (fun a b h z=>by omega) upj
    ·rw [m9,← two,List.mem_map]
     constructor
     ·intro hz
      obtain ⟨z0,_⟩:=ok.lr z (toLs z ((two z).mp hz))
      exact ⟨z.toNat,(mj _).mpr (by rw [Int.toNat_of_nonneg z0]; exact hz),Int.toNat_of_nonneg z0⟩
     ·rintro ⟨k',hk,rfl⟩
      exact (mj k').mp hk
   refine ⟨.lst (ns.map Dt.int),.lst ((js.map fun (j:Nat)=>(j:Int)).map Dt.int),hasD_listI (SqL.of (s10 _ _ h9)),hasD_listI (SqL.of h10),dep_listI _,_,rfl,?_⟩
   rw [eqD_listI,decide_eq_true en]
   refine iteF ?_
   have S10:=(S8.same s9).same s10
   refine ⟨_,rfl,ρ,W,ω,i + 1,L,sg,p,rfl,S10.w,ok,by omega,fun r3 ns' H11' nr3 s11' h11 up11 m11=>?_⟩
   have ln:ns'.length ≤ 1000:=by
    have:=nodup_len (up11.imp fun h=>Int.ne_of_lt h) fun z hz=>toLs z ((m11 z).mp hz)
    have:=ok.lt
    omega
   refine ⟨r3,ns',rfl,h11,ln,fun H12 s12'=>⟨_,rfl,hM _ _ (iteF ?_)⟩⟩
   have sF:=(s8'.trans (s9.trans s10)).trans (s11'.trans s12')
   exact ⟨ρ,ω,L,sg,_,_,_,_,_,rfl,S6.same sF,B6.same sF,ws6.same sF⟩
  clear hN'
  have nilU : ∀ {HB e},HB e = none → HasD K (upd HB e (.lst [])) (.lst []) (.ref e):=fun n=>by
   rw [HasD]
   exact ⟨_,[],rfl,SqL.of upd_same,by rw [HasDs]⟩
  refine ifN fun M hM=>⟨_,rfl,zs0,fun e1 ne1=>?_⟩
  have s6:=same_upd (o:=.lst []) ne1
  have S6:=S5.same s6
  have B6:=B5.same s6
  have ws6:=ws5.same s6
  refine ⟨.lst (p.cs.map Dt.int),.lst [],hasD_listI (SqL.of B6.ro.1),nilU ne1,dep_listI _,_,rfl,?_⟩
  rw [eqDs_nilT]
  generalize upd H5 e1 (.lst []) = H6 at S6 B6 ws6
  have letter : ∀ HB,Sw t HB ρ5 W ω i L sg p To R → Ps HB ρ5 pa W.x cr few fo ho be ro p → Ws HB ρ5 wa sa i i L sg → M false HB:=fun HB S B ws=>hM false HB (iteF ⟨_,rfl,_,rfl,ρ5,W,ω,i,L,sg,p,To,R,rfl,S,ok.ll,by omega,fun ρ' H' ω' v S' f'=>join ρ' ω' L sg H' _ _ S' (B.fr f') ((ws.go f').up)⟩)
  refine ite2 (fun z=>?_) (fun _=>letter H6 S6 B6 ws6)
  have nc : 0 < p.cs.length:=List.length_pos_iff.mpr fun y=>by rw [y] at z; cases z
  refine ⟨_,rfl,To,R,3,rfl,S6.tn,by decide,by decide,fun d H7 d0 d1 hT7 k7=>⟨rfl,_,rfl,?_⟩⟩
  obtain ⟨S7,f7⟩:=S6.draw hT7 k7
  have B7:=B6.fr f7
  have ws7:=ws6.go (go_tn f7)
  rcases Bool.eq_false_or_eq_true (decide (V.int d = V.int 0)) with e | e
  rotate_left
  ·rw [e]
   exact letter H7 S7 B7 ws7
  rw [e]
  clear letter e S5 B5 ws5 S6 B6 ws6
  refine hM true H7 (iteT ?_)
  refine seqN fun G hG=>⟨_,rfl,_,rfl,_,rfl,_,rfl,pickI S7 B7.ro nc ok.cl fun pu H8 hpu S8 f8=>?_⟩
  have B8:=B7.fr f8
  obtain ⟨pu0,pu1⟩:=ok.c pu hpu
  refine ⟨ρ5,W,ω,i,L,sg,p,To,R,pa,cr,few,fo,ho,be,ro,pu,rfl,S8,B8,ok,pu0,pu1,fun H9 q o S9 f9 uq9 io eo=>?_⟩
  have B9:=B8.fr f9
  have ws9:=(ws7.go (go_tn f8)).go (go_tn f9)
  have gn:=S9.w.g
  have lway:=gn.wl
  have z0:=gn.l
  have z1:=gn.ok.k1
  have z2:=ok.ll
  have io':isOrd ω.n o = true:=by rw [S9.w.n]; exact io
  have oc:o.p ∈ ω.cheats:=by rw [S9.w.c,eo]; exact hpu
  refine hG (lsg a To pa W.x cr few fo ho be ro wa sa [some (.int (0 + (i:Int))),some (.ref q),v3,v4,v5]) _ (seqN fun G hG=>?_)
  have note : ∀ ρ ω sg' HB w3,Sw t HB ρ W ω (i + 1) (o :: L) sg' p To R → Ps HB ρ pa W.x cr few fo ho be ro p → Ws HB ρ wa sa i (i + 1) L sg' → OrdU HB ρ (.ref q) o → G (lsg a To pa W.x cr few fo ho be ro wa sa [some (.int (0 + (i:Int))),some (.ref q),w3,v4,v5]) HB:=fun ρ ω sg' HB w3 S B ws u=>by
   obtain ⟨xs,wr,hx,_,_,lw⟩:=ws.w
   obtain ⟨f,ws'⟩:=ws.addW hx u
   refine hG _ _ ⟨_,rfl,.inl ⟨rfl,_,SqL.of hx⟩,_,rfl,wa,xs,_,rfl,rfl,hx,small1000 ?_,join ρ ω (o :: L) sg' _ _ _ (S.own f (fun r hr=>.inl hr) S.w.kr.put) (B.fr f) ws'⟩
   have:=Paired.length ‹Paired (OrdU HB ρ) xs wr›
   omega
  clear hG join
  refine ifN fun M hM=>⟨_,rfl,zs0,fun e2 ne2=>?_⟩
  have s10:=same_upd (o:=.lst []) ne2
  have S10:=S9.same s10
  have B10:=B9.same s10
  have ws10:=ws9.same s10
  have uq10:=uq9.fr (P:=fun _=>False) (Fr.same s10)
  refine ⟨.lst (p.ls.map Dt.int),.lst [],hasD_listI (SqL.of B10.fo.1),nilU ne2,dep_listI _,_,rfl,?_⟩
  rw [eqDs_nilT]
  generalize upd H9 e2 (.lst []) = H10 at S10 B10 ws10 uq10
  have cheat : ∀ HB,Sw t HB ρ5 W ω i L sg p To R → Ps HB ρ5 pa W.x cr few fo ho be ro p → Ws HB ρ5 wa sa i i L sg → OrdU HB ρ5 (.ref q) o → M false HB:=fun HB S B ws u=>by
   refine hM false HB (iteF ⟨_,rfl,W.x,W.dx,_,rfl,S.w.o.ob.1,wof_no,_,rfl,_,rfl,_,rfl,pickI S B.ho ok.h0 (by have:=ok.h1; omega) fun h HC hh S1 f1=>?_⟩)
   have hk:h ∈ ω.ks.map (·.1):=by rw [S.w.h]; exact hh
   obtain ⟨κ,ek,km⟩:=keep_of hk
   refine ⟨ρ5,0,W,ω,q,o,h,κ,rfl,S1.w.o,S1.w.kr,u.fr f1,io',oc,ek,by omega,fun HD OD fD krD=>?_⟩
   obtain ⟨S2,f2⟩:=S1.go fD (fun r hr=>by rw [hr]) (S1.w.next fD OD krD ((gn.cheat io' oc hk).mono (T':=i + 1) (M':=1000 * (i + 1)) (Nat.le_refl _) (by omega)) (S.w.sh.cheat h oc) ⟨rfl,rfl,rfl⟩)
   exact note ρ5 _ sg HD _ S2 ((B.fr f1).fr fD) ((ws.go (go_tn f1)).go f2).upS ((u.fr f1).fr fD)
  refine ite2 (fun z=>?_) (fun _=>cheat H10 S10 B10 ws10 uq10)
  have nl : 0 < p.ls.length:=List.length_pos_iff.mpr fun y=>by rw [y] at z; cases z
  refine ⟨_,rfl,To,R,2,rfl,S10.tn,by decide,by decide,fun d H11 d0 d1 hT11 k11=>⟨rfl,_,rfl,?_⟩⟩
  obtain ⟨S11,f11⟩:=S10.draw hT11 k11
  have B11:=B10.fr f11
  have ws11:=ws10.go (go_tn f11)
  have uq11:=uq10.fr f11
  rcases Bool.eq_false_or_eq_true (decide (V.int d = V.int 0)) with e | e
  rotate_left
  ·rw [e]
   exact cheat H11 S11 B11 ws11 uq11
  rw [e]
  refine hM true H11 (iteT ?_)
  refine seqN fun G' hG'=>⟨_,rfl,_,rfl,pickI S11 B11.fo nl (by omega) fun f H12 hf S12 f12=>?_⟩
  have B12:=B11.fr f12
  have ws12:=ws11.go (go_tn f12)
  have uq12:=uq11.fr f12
  refine hG' (lsg a To pa W.x cr few fo ho be ro wa sa [some (.int (0 + (i:Int))),some (.ref q),some (.int f),v4,v5]) _ (seqN fun G' hG'=>⟨_,rfl,W.x,W.dx,_,rfl,S12.w.o.ob.1,wof_no,_,rfl,_,rfl,ρ5,0,W,ω,f,q,o,p.ls,_,_,_,rfl,S12.w.o,S12.w.kr,S12.w.ly.1,hf,uq12,io',.inl oc,gn.sz,by omega,by omega,by omega,fun ρ6 H13 O13 f13 kr13=>?_⟩)
  have gm:=(gn.more io' (.inl oc)).votes (h:=f) (List.mem_append_right _ hf) (os:=[o]) (fun u hu=>by rw [List.mem_singleton.mp hu]; exact List.mem_cons_self)
  obtain ⟨S13,f13'⟩:=S12.go f13 (fun r hr=>by rcases hr with hr | hr | hr <;> rw [hr]) (S12.w.next f13 O13 kr13 (gm.mono (T':=i + 1) (M':=1000 * (i + 1)) (Nat.le_refl _) (by show 1000 * i + 16 * 1 ≤ _; omega)) (S12.w.sh.lie hf oc) (votes_like f [o] ω).kin)
  have B13:=B12.fr f13
  have ws13:=ws12.go f13'
  have uq13:=uq12.fr f13
  obtain ⟨ys,sr,hy,py,_,lr⟩:=ws13.s
  have lys:=Paired.length py
  refine hG' _ _ ⟨_,rfl,.inl ⟨rfl,_,SqL.of hy⟩,_,rfl,_,rfl,zs2,fun b nb=>?_⟩
  have s14:=same_upd (o:=.tup [.int f,.ref q]) nb
  have S14:=S13.same s14
  have B14:=B13.same s14
  have ws14:=ws13.same s14
  have uq14:=uq13.fr (P:=fun _=>False) (Fr.same s14)
  have su:SgU (upd H13 b (.tup [.int f,.ref q])) ρ6 (.ref b) (f,o):=⟨b,q,rfl,S13.w.kr.none nb,upd_same,uq14⟩
  obtain ⟨fS,wsS⟩:=ws14.addS (s14 _ _ hy) su
  exact ⟨sa,ys,_,rfl,rfl,s14 _ _ hy,small1000 (by omega),note ρ6 _ _ _ _ (S14.own fS (fun r hr=>.inr hr) S14.w.kr.put) (B14.fr fS) wsS (uq14.fr fS)⟩
 ·rintro σ H4 ⟨ρ2,ω1,L,sg,v1,v2,v3,v4,v5,rfl,S4,B4,ws4⟩
  refine hN _ _ ⟨_,rfl,ρ2,W,ω1,36,L,sg,p,rfl,S4.w,ok,by decide,fun H6 s6=>?_⟩
  exact ⟨true,true,rfl,rfl,k H6⟩
end
abbrev aN (K:W.Frag) (x:Str) (v:Option Value) : Prop:=W.nsIn K mainGlobals x = some v
abbrev aF (K:W.Frag) (a:Addr) (x:Str) (v:Option Value) : Prop:=W.findIn K (.ref a) x = some v
abbrev aL (K:W.Frag) (f:Addr) (n q:Str) (s:Stmt) (oc:Value) (od:Option Addr) (kV dc pm:Value) (an:Option Addr) (cd ct:Value) (sl:Array (Option Value)) : Prop:=K.lookup f = some ⟨oc,od,.func (W.fnOf n q (defArgs s) (defBody s) (defScope s) .none kV dc pm an cd ct),sl⟩
set_option maxHeartbeats 4000000 in
theorem all_mk {l:W.OpenLaw} {w:World} {K:W.Frag} {h:Heap} {mg:Str → Option Value} {fa:Addr} (X:K.In h) (G:h.Ns mainGlobals mg) (hfa:mg "law" = some (.ref fa))
 {ca0 ca1 ca2 ca3 f0 f1 f2 kd2 f3 f4 f5 f6 f7 f8 f9 f10 f11 f12 f13 f14 f15 f16 f17 f18 f19 f20 f21 f22 f23 f24 f25 f26 f27 f28 f29 f30 f31 f32 f33 f34 f35 f36 f37 f38 f39 f40 f41 f42 f43 f44 f45 f46 f47 f48 f49 f50 f51 f52 f53 f54:Addr}
 {o0 v0 d0 p0 q0 t0 o1 v1 d1 p1 q1 t1 o2 d2 p2 q2 t2 o3 v3 d3 p3 q3 t3 o4 v4 d4 p4 q4 t4 o5 v5 d5 p5 q5 t5 o6 v6 d6 p6 q6 t6 o7 v7 d7 p7 q7 t7 o8 v8 d8 p8 q8 t8 o9 v9 d9 p9 q9 t9 o10 v10 d10 p10 q10 t10 o11 v11 d11 p11 q11 t11 o12 v12 d12 p12 q12 t12 o13 v13 d13 p13 q13 t13 o14 v14 d14 p14 q14 t14 o15 v15 d15 p15 q15 t15 o16 v16 d16 p16 q16 t16 o17 v17 d17 p17 q17 t17 o18 v18 d18 p18 q18 t18 o19 v19 d19 p19 q19 t19 o20 v20 d20 p20 q20 t20 o21 v21 d21 p21 q21 t21 o22 v22 d22 p22 q22 t22 o23 v23 d23 p23 q23 t23 o24 v24 d24 p24 q24 t24 o25 v25 d25 p25 q25 t25 o26 v26 d26 p26 q26 t26 o27 v27 d27 p27 q27 t27 o28 v28 d28 p28 q28 t28 o29 v29 d29 p29 q29 t29 o30 v30 d30 p30 q30 t30 o31 v31 d31 p31 q31 t31 o32 v32 d32 p32 q32 t32 o33 v33 d33 p33 q33 t33 o34 v34 d34 p34 q34 t34 o35 v35 d35 p35 q35 t35 o36 v36 d36 p36 q36 t36 o37 v37 d37 p37 q37 t37 o38 v38 d38 p38 q38 t38 o39 v39 d39 p39 q39 t39 o40 v40 d40 p40 q40 t40 o41 v41 d41 p41 q41 t41 o42 v42 d42 p42 q42 t42 o43 v43 d43 p43 q43 t43 o44 v44 d44 p44 q44 t44 o45 v45 d45 p45 q45 t45 o46 v46 d46 p46 q46 t46 o47 v47 d47 p47 q47 t47 o48 v48 d48 p48 q48 t48 o49 v49 d49 p49 q49 t49 o50 v50 d50 p50 q50 t50 o51 v51 d51 p51 q51 t51 o52 v52 d52 p52 q52 t52 o53 v53 d53 p53 q53 t53 o54 v54 d54 p54 q54 t54:Value}
 {r0 s0 r1 s1 r2 s2 r3 s3 r4 s4 r5 s5 r6 s6 r7 s7 r8 s8 r9 s9 r10 s10 r11 s11 r12 s12 r13 s13 r14 s14 r15 s15 r16 s16 r17 s17 r18 s18 r19 s19 r20 s20 r21 s21 r22 s22 r23 s23 r24 s24 r25 s25 r26 s26 r27 s27 r28 s28 r29 s29 r30 s30 r31 s31 r32 s32 r33 s33 r34 s34 r35 s35 r36 s36 r37 s37 r38 s38 r39 s39 r40 s40 r41 s41 r42 s42 r43 s43 r44 s44 r45 s45 r46 s46 r47 s47 r48 s48 r49 s49 r50 s50 r51 s51 r52 s52 r53 s53 r54 s54:Option Addr}
 {u0 u1 u2 u3 u4 u5 u6 u7 u8 u9 u10 u11 u12 u13 u14 u15 u16 u17 u18 u19 u20 u21 u22 u23 u24 u25 u26 u27 u28 u29 u30 u31 u32 u33 u34 u35 u36 u37 u38 u39 u40 u41 u42 u43 u44 u45 u46 u47 u48 u49 u50 u51 u52 u53 u54:Array (Option Value)}
 {kt2 gt0 gt1 gt2 gt3 gt4 gt5 gt6 gt7 gt8:Tok}
 (cm0:aN K "Keeper" (some (.ref ca0)))
 (cg0:W.plainGet K ca0 Str.empty = true) (ch0:W.hasDictIn K ca0 = true) (co0:W.plainOver K ca0 = true) (cs0:aF K ca0 "__setattr__" (some (.builtin "object.__setattr__")))
 (cn0_0:aF K ca0 "held" none)
 (cn0_1:aF K ca0 "next_numbers" none)
 (cn0_2:aF K ca0 "done" none)
 (cn0_3:aF K ca0 "heard" none)
 (cn0_4:aF K ca0 "unvoted" none)
 (cn0_5:aF K ca0 "choices" none)
 (cn0_6:aF K ca0 "waiting" none)
 (cm1:aN K "Board" (some (.ref ca1)))
 (cg1:W.plainGet K ca1 Str.empty = true) (ch1:W.hasDictIn K ca1 = true) (co1:W.plainOver K ca1 = true) (cs1:aF K ca1 "__setattr__" (some (.builtin "object.__setattr__")))
 (cn1_0:aF K ca1 "enough" none)
 (cn1_1:aF K ca1 "signers" none)
 (cm2:aN K "World" (some (.ref ca2)))
 (cg2:W.plainGet K ca2 Str.empty = true) (ch2:W.hasDictIn K ca2 = true) (co2:W.plainOver K ca2 = true) (cs2:aF K ca2 "__setattr__" (some (.builtin "object.__setattr__")))
 (ia2:aF K ca2 "__class__" (some (.builtin "object.__class__"))) (in2:W.specialIn K (.builtin "object.__class__") "__get__" = some (some (.builtin "getset_descriptor.__get__"))) (it2:W.takesIn K (.builtin "object.__class__") = some true) (im2:W.mroIn K ca2 (.type "object") = some true) (ik2:W.kitOne K (.ref ca2) (.ref ca2) = some true)
 (cn2_0:aF K ca2 "purses" none)
 (cn2_1:aF K ca2 "total" none)
 (cn2_2:aF K ca2 "lying" none)
 (cn2_3:aF K ca2 "cheating" none)
 (cn2_4:aF K ca2 "keepers" none)
 (cn2_5:aF K ca2 "board" none)
 (cn2_6:aF K ca2 "asked" none)
 (cn2_7:aF K ca2 "on_way" none)
 (cm3:aN K "Book" (some (.ref ca3)))
 (cg3:W.plainGet K ca3 Str.empty = true) (ch3:W.hasDictIn K ca3 = true) (co3:W.plainOver K ca3 = true) (cs3:aF K ca3 "__setattr__" (some (.builtin "object.__setattr__")))
 (cn3_0:aF K ca3 "held" none)
 (cn3_1:aF K ca3 "next_numbers" none)
 (cn3_2:aF K ca3 "done" none)
 (a0:aN K "is_whole" (some (.ref f0)))
 (l0:aL K f0 "is_whole" "is_whole" s_is_whole o0 r0 v0 d0 p0 s0 q0 t0 u0)
 (c0:W.codeIn K q0 "is_whole" = true) (k0:W.keepIn K (.ref f0) = true)
 (a1:aN K "is_between" (some (.ref f1)))
 (l1:aL K f1 "is_between" "is_between" s_is_between o1 r1 v1 d1 p1 s1 q1 t1 u1)
 (c1:W.codeIn K q1 "is_between" = true) (k1:W.keepIn K (.ref f1) = true)
 (a2:aN K "is_order" (some (.ref f2)))
 (l2:aL K f2 "is_order" "is_order" s_is_order o2 r2 (.ref kd2) d2 p2 s2 q2 t2 u2)
 (c2:W.codeIn K q2 "is_order" = true) (k2:W.keepIn K (.ref f2) = true)
 (e2:W.nsIn K kd2 "purses" = some (some (.int 8 kt2)))
 (a3:aN K "place_of" (some (.ref f3)))
 (l3:aL K f3 "place_of" "place_of" s_place_of o3 r3 v3 d3 p3 s3 q3 t3 u3)
 (c3:W.codeIn K q3 "place_of" = true) (k3:W.keepIn K (.ref f3) = true)
 (a4:aN K "are_rising" (some (.ref f4)))
 (l4:aL K f4 "are_rising" "are_rising" s_are_rising o4 r4 v4 d4 p4 s4 q4 t4 u4)
 (c4:W.codeIn K q4 "are_rising" = true) (k4:W.keepIn K (.ref f4) = true)
 (a5:aN K "is_rising_row" (some (.ref f5)))
 (l5:aL K f5 "is_rising_row" "is_rising_row" s_is_rising_row o5 r5 v5 d5 p5 s5 q5 t5 u5)
 (c5:W.codeIn K q5 "is_rising_row" = true) (k5:W.keepIn K (.ref f5) = true)
 (a6:aN K "is_house_count" (some (.ref f6)))
 (l6:aL K f6 "is_house_count" "is_house_count" s_is_house_count o6 r6 v6 d6 p6 s6 q6 t6 u6)
 (c6:W.codeIn K q6 "is_house_count" = true) (k6:W.keepIn K (.ref f6) = true)
 (a7:aN K "is_few" (some (.ref f7)))
 (l7:aL K f7 "is_few" "is_few" s_is_few o7 r7 v7 d7 p7 s7 q7 t7 u7)
 (c7:W.codeIn K q7 "is_few" = true) (k7:W.keepIn K (.ref f7) = true)
 (a8:aN K "outnumber" (some (.ref f8)))
 (l8:aL K f8 "outnumber" "outnumber" s_outnumber o8 r8 v8 d8 p8 s8 q8 t8 u8)
 (c8:W.codeIn K q8 "outnumber" = true) (k8:W.keepIn K (.ref f8) = true)
 (a9:aN K "enough_of" (some (.ref f9)))
 (l9:aL K f9 "enough_of" "enough_of" s_enough_of o9 r9 v9 d9 p9 s9 q9 t9 u9)
 (c9:W.codeIn K q9 "enough_of" = true) (k9:W.keepIn K (.ref f9) = true)
 (a10:aN K "are_sums" (some (.ref f10)))
 (l10:aL K f10 "are_sums" "are_sums" s_are_sums o10 r10 v10 d10 p10 s10 q10 t10 u10)
 (c10:W.codeIn K q10 "are_sums" = true) (k10:W.keepIn K (.ref f10) = true)
 (a11:aN K "are_first_sums" (some (.ref f11)))
 (l11:aL K f11 "are_first_sums" "are_first_sums" s_are_first_sums o11 r11 v11 d11 p11 s11 q11 t11 u11)
 (c11:W.codeIn K q11 "are_first_sums" = true) (k11:W.keepIn K (.ref f11) = true)
 (a12:aN K "check_houses" (some (.ref f12)))
 (l12:aL K f12 "check_houses" "check_houses" s_check_houses o12 r12 v12 d12 p12 s12 q12 t12 u12)
 (c12:W.codeIn K q12 "check_houses" = true) (k12:W.keepIn K (.ref f12) = true)
 (a13:aN K "check_purses" (some (.ref f13)))
 (l13:aL K f13 "check_purses" "check_purses" s_check_purses o13 r13 v13 d13 p13 s13 q13 t13 u13)
 (c13:W.codeIn K q13 "check_purses" = true) (k13:W.keepIn K (.ref f13) = true)
 (a14:aN K "check_world" (some (.ref f14)))
 (l14:aL K f14 "check_world" "check_world" s_check_world o14 r14 v14 d14 p14 s14 q14 t14 u14)
 (c14:W.codeIn K q14 "check_world" = true) (k14:W.keepIn K (.ref f14) = true)
 (a15:aN K "clashing_places" (some (.ref f15)))
 (l15:aL K f15 "clashing_places" "clashing_places" s_clashing_places o15 r15 v15 d15 p15 s15 q15 t15 u15)
 (c15:W.codeIn K q15 "clashing_places" = true) (k15:W.keepIn K (.ref f15) = true)
 (a16:aF K ca1 "__init__" (some (.ref f16))) (n16:W.isFn K (.ref f16) = true)
 (mk16:W.makesIn K ca1 = true) (mq16:W.keepIn K (.ref ca1) = true)
 (l16:aL K f16 "__init__" "Board.__init__" s_Board___init__ o16 r16 v16 d16 p16 s16 q16 t16 u16)
 (c16:W.codeIn K q16 "Board.__init__" = true) (k16:W.keepIn K (.ref f16) = true)
 (a17:aF K ca1 "put" (some (.ref f17))) (n17:W.isFn K (.ref f17) = true)
 (l17:aL K f17 "put" "Board.put" s_Board_put o17 r17 v17 d17 p17 s17 q17 t17 u17)
 (c17:W.codeIn K q17 "Board.put" = true) (k17:W.keepIn K (.ref f17) = true)
 (a18:aF K ca1 "things_of" (some (.ref f18))) (n18:W.isFn K (.ref f18) = true)
 (l18:aL K f18 "things_of" "Board.things_of" s_Board_things_of o18 r18 v18 d18 p18 s18 q18 t18 u18)
 (c18:W.codeIn K q18 "Board.things_of" = true) (k18:W.keepIn K (.ref f18) = true)
 (a19:aF K ca3 "__init__" (some (.ref f19))) (n19:W.isFn K (.ref f19) = true)
 (mk19:W.makesIn K ca3 = true) (mq19:W.keepIn K (.ref ca3) = true)
 (l19:aL K f19 "__init__" "Book.__init__" s_Book___init__ o19 r19 v19 d19 p19 s19 q19 t19 u19)
 (c19:W.codeIn K q19 "Book.__init__" = true) (k19:W.keepIn K (.ref f19) = true)
 (a20:aF K ca3 "is_past" (some (.ref f20))) (n20:W.isFn K (.ref f20) = true)
 (l20:aL K f20 "is_past" "Book.is_past" s_Book_is_past o20 r20 v20 d20 p20 s20 q20 t20 u20)
 (c20:W.codeIn K q20 "Book.is_past" = true) (k20:W.keepIn K (.ref f20) = true)
 (a21:aF K ca3 "is_due" (some (.ref f21))) (n21:W.isFn K (.ref f21) = true)
 (l21:aL K f21 "is_due" "Book.is_due" s_Book_is_due o21 r21 v21 d21 p21 s21 q21 t21 u21)
 (c21:W.codeIn K q21 "Book.is_due" = true) (k21:W.keepIn K (.ref f21) = true)
 (a22:aF K ca3 "settle" (some (.ref f22))) (n22:W.isFn K (.ref f22) = true)
 (l22:aL K f22 "settle" "Book.settle" s_Book_settle o22 r22 v22 d22 p22 s22 q22 t22 u22)
 (c22:W.codeIn K q22 "Book.settle" = true) (k22:W.keepIn K (.ref f22) = true)
 (a23:aF K ca0 "__init__" (some (.ref f23))) (n23:W.isFn K (.ref f23) = true)
 (mk23:W.makesIn K ca0 = true) (mq23:W.keepIn K (.ref ca0) = true)
 (l23:aL K f23 "__init__" "Keeper.__init__" s_Keeper___init__ o23 r23 v23 d23 p23 s23 q23 t23 u23)
 (c23:W.codeIn K q23 "Keeper.__init__" = true) (k23:W.keepIn K (.ref f23) = true)
 (a24:aF K ca0 "give_votes" (some (.ref f24))) (n24:W.isFn K (.ref f24) = true)
 (l24:aL K f24 "give_votes" "Keeper.give_votes" s_Keeper_give_votes o24 r24 v24 d24 p24 s24 q24 t24 u24)
 (c24:W.codeIn K q24 "Keeper.give_votes" = true) (k24:W.keepIn K (.ref f24) = true)
 (a25:aF K ca0 "first_due" (some (.ref f25))) (n25:W.isFn K (.ref f25) = true)
 (l25:aL K f25 "first_due" "Keeper.first_due" s_Keeper_first_due o25 r25 v25 d25 p25 s25 q25 t25 u25)
 (c25:W.codeIn K q25 "Keeper.first_due" = true) (k25:W.keepIn K (.ref f25) = true)
 (a26:aF K ca0 "go_on" (some (.ref f26))) (n26:W.isFn K (.ref f26) = true)
 (l26:aL K f26 "go_on" "Keeper.go_on" s_Keeper_go_on o26 r26 v26 d26 p26 s26 q26 t26 u26)
 (c26:W.codeIn K q26 "Keeper.go_on" = true) (k26:W.keepIn K (.ref f26) = true)
 (a27:aF K ca0 "hear" (some (.ref f27))) (n27:W.isFn K (.ref f27) = true)
 (l27:aL K f27 "hear" "Keeper.hear" s_Keeper_hear o27 r27 v27 d27 p27 s27 q27 t27 u27)
 (c27:W.codeIn K q27 "Keeper.hear" = true) (k27:W.keepIn K (.ref f27) = true)
 (a28:aF K ca0 "take_paper" (some (.ref f28))) (n28:W.isFn K (.ref f28) = true)
 (l28:aL K f28 "take_paper" "Keeper.take_paper" s_Keeper_take_paper o28 r28 v28 d28 p28 s28 q28 t28 u28)
 (c28:W.codeIn K q28 "Keeper.take_paper" = true) (k28:W.keepIn K (.ref f28) = true)
 (a29:aF K ca2 "__init__" (some (.ref f29))) (n29:W.isFn K (.ref f29) = true)
 (mk29:W.makesIn K ca2 = true) (mq29:W.keepIn K (.ref ca2) = true)
 (l29:aL K f29 "__init__" "World.__init__" s_World___init__ o29 r29 v29 d29 p29 s29 q29 t29 u29)
 (c29:W.codeIn K q29 "World.__init__" = true) (k29:W.keepIn K (.ref f29) = true)
 (a30:aF K ca2 "letters" (some (.ref f30))) (n30:W.isFn K (.ref f30) = true)
 (l30:aL K f30 "letters" "World.letters" s_World_letters o30 r30 v30 d30 p30 s30 q30 t30 u30)
 (c30:W.codeIn K q30 "World.letters" = true) (k30:W.keepIn K (.ref f30) = true)
 (a31:aF K ca2 "honest" (some (.ref f31))) (n31:W.isFn K (.ref f31) = true)
 (l31:aL K f31 "honest" "World.honest" s_World_honest o31 r31 v31 d31 p31 s31 q31 t31 u31)
 (c31:W.codeIn K q31 "World.honest" = true) (k31:W.keepIn K (.ref f31) = true)
 (a32:aF K ca2 "keeper_of" (some (.ref f32))) (n32:W.isFn K (.ref f32) = true)
 (l32:aL K f32 "keeper_of" "World.keeper_of" s_World_keeper_of o32 r32 v32 d32 p32 s32 q32 t32 u32)
 (c32:W.codeIn K q32 "World.keeper_of" = true) (k32:W.keepIn K (.ref f32) = true)
 (a33:aF K ca2 "sums" (some (.ref f33))) (n33:W.isFn K (.ref f33) = true)
 (l33:aL K f33 "sums" "World.sums" s_World_sums o33 r33 v33 d33 p33 s33 q33 t33 u33)
 (c33:W.codeIn K q33 "World.sums" = true) (k33:W.keepIn K (.ref f33) = true)
 (a34:aF K ca2 "check_order" (some (.ref f34))) (n34:W.isFn K (.ref f34) = true)
 (l34:aL K f34 "check_order" "World.check_order" s_World_check_order o34 r34 v34 d34 p34 s34 q34 t34 u34)
 (c34:W.codeIn K q34 "World.check_order" = true) (k34:W.keepIn K (.ref f34) = true)
 (a35:aF K ca2 "check_liar" (some (.ref f35))) (n35:W.isFn K (.ref f35) = true)
 (l35:aL K f35 "check_liar" "World.check_liar" s_World_check_liar o35 r35 v35 d35 p35 s35 q35 t35 u35)
 (c35:W.codeIn K q35 "World.check_liar" = true) (k35:W.keepIn K (.ref f35) = true)
 (a36:aF K ca2 "write_to_all" (some (.ref f36))) (n36:W.isFn K (.ref f36) = true)
 (l36:aL K f36 "write_to_all" "World.write_to_all" s_World_write_to_all o36 r36 v36 d36 p36 s36 q36 t36 u36)
 (c36:W.codeIn K q36 "World.write_to_all" = true) (k36:W.keepIn K (.ref f36) = true)
 (a37:aF K ca2 "put_votes" (some (.ref f37))) (n37:W.isFn K (.ref f37) = true)
 (l37:aL K f37 "put_votes" "World.put_votes" s_World_put_votes o37 r37 v37 d37 p37 s37 q37 t37 u37)
 (c37:W.codeIn K q37 "World.put_votes" = true) (k37:W.keepIn K (.ref f37) = true)
 (a38:aF K ca2 "cheat" (some (.ref f38))) (n38:W.isFn K (.ref f38) = true)
 (l38:aL K f38 "cheat" "World.cheat" s_World_cheat o38 r38 v38 d38 p38 s38 q38 t38 u38)
 (c38:W.codeIn K q38 "World.cheat" = true) (k38:W.keepIn K (.ref f38) = true)
 (a39:aF K ca2 "lie" (some (.ref f39))) (n39:W.isFn K (.ref f39) = true)
 (l39:aL K f39 "lie" "World.lie" s_World_lie o39 r39 v39 d39 p39 s39 q39 t39 u39)
 (c39:W.codeIn K q39 "World.lie" = true) (k39:W.keepIn K (.ref f39) = true)
 (a40:aF K ca2 "come" (some (.ref f40))) (n40:W.isFn K (.ref f40) = true)
 (l40:aL K f40 "come" "World.come" s_World_come o40 r40 v40 d40 p40 s40 q40 t40 u40)
 (c40:W.codeIn K q40 "World.come" = true) (k40:W.keepIn K (.ref f40) = true)
 (a41:aN K "written_orders" (some (.ref f41)))
 (l41:aL K f41 "written_orders" "written_orders" s_written_orders o41 r41 v41 d41 p41 s41 q41 t41 u41)
 (c41:W.codeIn K q41 "written_orders" = true) (k41:W.keepIn K (.ref f41) = true)
 (a42:aN K "false_owners" (some (.ref f42)))
 (l42:aL K f42 "false_owners" "false_owners" s_false_owners o42 r42 v42 d42 p42 s42 q42 t42 u42)
 (c42:W.codeIn K q42 "false_owners" = true) (k42:W.keepIn K (.ref f42) = true)
 (a43:aN K "false_houses" (some (.ref f43)))
 (l43:aL K f43 "false_houses" "false_houses" s_false_houses o43 r43 v43 d43 p43 s43 q43 t43 u43)
 (c43:W.codeIn K q43 "false_houses" = true) (k43:W.keepIn K (.ref f43) = true)
 (a44:aN K "lost_nothing" (some (.ref f44)))
 (l44:aL K f44 "lost_nothing" "lost_nothing" s_lost_nothing o44 r44 v44 d44 p44 s44 q44 t44 u44)
 (c44:W.codeIn K q44 "lost_nothing" = true) (k44:W.keepIn K (.ref f44) = true)
 (a45:aN K "_law_town" (some (.ref f45)))
 (l45:aL K f45 "_law_town" "_law_town" s__law_town o45 r45 v45 d45 p45 s45 q45 t45 u45)
 (c45:W.codeIn K q45 "_law_town" = true) (k45:W.keepIn K (.ref f45) = true)
 (a46:aN K "_law_draw" (some (.ref f46)))
 (l46:aL K f46 "_law_draw" "_law_draw" s__law_draw o46 r46 v46 d46 p46 s46 q46 t46 u46)
 (c46:W.codeIn K q46 "_law_draw" = true) (k46:W.keepIn K (.ref f46) = true)
 (a47:aN K "_law_pick" (some (.ref f47)))
 (l47:aL K f47 "_law_pick" "_law_pick" s__law_pick o47 r47 v47 d47 p47 s47 q47 t47 u47)
 (c47:W.codeIn K q47 "_law_pick" = true) (k47:W.keepIn K (.ref f47) = true)
 (a48:aN K "_law_whole" (some (.ref f48)))
 (l48:aL K f48 "_law_whole" "_law_whole" s__law_whole o48 r48 v48 d48 p48 s48 q48 t48 u48)
 (c48:W.codeIn K q48 "_law_whole" = true) (k48:W.keepIn K (.ref f48) = true)
 (a49:aN K "_law_whole_list" (some (.ref f49)))
 (l49:aL K f49 "_law_whole_list" "_law_whole_list" s__law_whole_list o49 r49 v49 d49 p49 s49 q49 t49 u49)
 (c49:W.codeIn K q49 "_law_whole_list" = true) (k49:W.keepIn K (.ref f49) = true)
 (a50:aN K "_law_some" (some (.ref f50)))
 (l50:aL K f50 "_law_some" "_law_some" s__law_some o50 r50 v50 d50 p50 s50 q50 t50 u50)
 (c50:W.codeIn K q50 "_law_some" = true) (k50:W.keepIn K (.ref f50) = true)
 (a51:aN K "_law_world" (some (.ref f51)))
 (l51:aL K f51 "_law_world" "_law_world" s__law_world o51 r51 v51 d51 p51 s51 q51 t51 u51)
 (c51:W.codeIn K q51 "_law_world" = true) (k51:W.keepIn K (.ref f51) = true)
 (a52:aN K "_law_letter" (some (.ref f52)))
 (l52:aL K f52 "_law_letter" "_law_letter" s__law_letter o52 r52 v52 d52 p52 s52 q52 t52 u52)
 (c52:W.codeIn K q52 "_law_letter" = true) (k52:W.keepIn K (.ref f52) = true)
 (a53:aN K "_law_order" (some (.ref f53)))
 (l53:aL K f53 "_law_order" "_law_order" s__law_order o53 r53 v53 d53 p53 s53 q53 t53 u53)
 (c53:W.codeIn K q53 "_law_order" = true) (k53:W.keepIn K (.ref f53) = true)
 (a54:aN K "law" (some (.ref f54)))
 (l54:aL K f54 "law" "law" s_law o54 r54 v54 d54 p54 s54 q54 t54 u54)
 (c54:W.codeIn K q54 "law" = true) (k54:W.keepIn K (.ref f54) = true)
 (ih0:aF K ca0 "is_due" (some (.ref f21)))
 (ih1:aF K ca0 "is_past" (some (.ref f20)))
 (ih2:aF K ca0 "settle" (some (.ref f22)))
 (yp0:W.specialIn K (.ref ca3) "__getattribute__" = some (some (.builtin "type.__getattribute__"))) (yr0:W.readsIn K ca3 (.type "type") = true) (yf0:W.findCls K (.ref ca3) (.type "type") "__init__" = some (.val (.ref f19)))
 (hgc0:aN K "MOST_MUCH" (some (.int 1000 gt0)))
 (hgc1:aN K "LAST_NUMBER" (some (.int 99 gt1)))
 (hgc2:aN K "PAPER_LETTER" (some (.str "paper" gt2)))
 (hgc3:aN K "ORDER_LETTER" (some (.str "order" gt3)))
 (hgc4:aN K "MOST_HOUSES" (some (.int 16 gt4)))
 (hgc5:aN K "MOST_FEW" (some (.int 5 gt5)))
 (hgc6:aN K "MOST_FIRST_SUM" (some (.int 1000 gt6)))
 (hgc7:aN K "LEAST_PURSES" (some (.int 2 gt7)))
 (hgc8:aN K "MOST_PURSES" (some (.int 8 gt8)))
 (z0:aN K "isinstance" none)
 (z1:aN K "bool" none)
 (z2:aN K "int" none)
 (z3:aN K "len" none)
 (z4:aN K "tuple" none)
 (z5:aN K "list" none)
 (z6:aN K "all" none)
 (z7:aN K "range" none)
 (z8:aN K "sum" none)
 (z9:aN K "min" none)
 (z10:aN K "sorted" none)
 (z11:aN K "set" none) :
 ∃ fd:FuncData,(∀ (s:Shared) (v:Value),BindsTo s fd ⟨[v],[]⟩ [("_law_script",v)]) ∧ ∀ base:Heap,K.In base → base.Ns mainGlobals mg → FnOk l.prog w K mg base CX0 12 fa fd ["_law_script"] (sp_law K):=by
 have T:Txt K mg ⟨f0,_,f1,_,f2,_,f3,_,f4,_,f5,_,f6,_,f7,_,f8,_,f9,_,f10,_,f11,_,f12,_,f13,_,f14,_,f15,_,f16,_,f17,_,f18,_,f19,_,f20,_,f21,_,f22,_,f23,_,f24,_,f25,_,f26,_,f27,_,f28,_,f29,_,f30,_,f31,_,f32,_,f33,_,f34,_,f35,_,f36,_,f37,_,f38,_,f39,_,f40,_,f41,_,f42,_,f43,_,f44,_,f45,_,f46,_,f47,_,f48,_,f49,_,f50,_,f51,_,f52,_,f53,_,f54,_,ca0,ca1,ca2,ca3⟩:={
  F_is_whole:=fun_mk (st:=s_is_whole) l0 c0 k0
  m_is_whole:=W.mg_of X G a0
  b_is_whole:=bn1 (fun_mk (st:=s_is_whole) l0 c0 k0) fun _ _ _ _ _ _ _=>rfl
  F_is_between:=fun_mk (st:=s_is_between) l1 c1 k1
  m_is_between:=W.mg_of X G a1
  b_is_between:=bn3 (fun_mk (st:=s_is_between) l1 c1 k1) fun _ _ _ _ _ _ _ _ _=>rfl
  F_is_order:=fun_mk (st:=s_is_order) l2 c2 k2
  m_is_order:=W.mg_of X G a2
  bk0_is_order:=kbm11 fun _ _ _=>.of_eq rfl
  bd0_is_order:=⟨_,bd_kw1 e2 rfl rfl rfl rfl rfl rfl rfl (by decide +kernel)⟩
  F_place_of:=fun_mk (st:=s_place_of) l3 c3 k3
  m_place_of:=W.mg_of X G a3
  b_place_of:=bn1 (fun_mk (st:=s_place_of) l3 c3 k3) fun _ _ _ _ _ _ _=>rfl
  F_are_rising:=fun_mk (st:=s_are_rising) l4 c4 k4
  m_are_rising:=W.mg_of X G a4
  b_are_rising:=bn2 (fun_mk (st:=s_are_rising) l4 c4 k4) fun _ _ _ _ _ _ _ _=>rfl
  F_is_rising_row:=fun_mk (st:=s_is_rising_row) l5 c5 k5
  m_is_rising_row:=W.mg_of X G a5
  b_is_rising_row:=bn2 (fun_mk (st:=s_is_rising_row) l5 c5 k5) fun _ _ _ _ _ _ _ _=>rfl
  F_is_house_count:=fun_mk (st:=s_is_house_count) l6 c6 k6
  m_is_house_count:=W.mg_of X G a6
  b_is_house_count:=bn1 (fun_mk (st:=s_is_house_count) l6 c6 k6) fun _ _ _ _ _ _ _=>rfl
  F_is_few:=fun_mk (st:=s_is_few) l7 c7 k7
  m_is_few:=W.mg_of X G a7
  b_is_few:=bn1 (fun_mk (st:=s_is_few) l7 c7 k7) fun _ _ _ _ _ _ _=>rfl
  F_outnumber:=fun_mk (st:=s_outnumber) l8 c8 k8
  m_outnumber:=W.mg_of X G a8
  bk0_outnumber:=kbm11 fun _ _ _=>.of_eq rfl
  F_enough_of:=fun_mk (st:=s_enough_of) l9 c9 k9
  m_enough_of:=W.mg_of X G a9
  bk0_enough_of:=kbm11 fun _ _ _=>.of_eq rfl
  F_are_sums:=fun_mk (st:=s_are_sums) l10 c10 k10
  m_are_sums:=W.mg_of X G a10
  b_are_sums:=bn1 (fun_mk (st:=s_are_sums) l10 c10 k10) fun _ _ _ _ _ _ _=>rfl
  F_are_first_sums:=fun_mk (st:=s_are_first_sums) l11 c11 k11
  m_are_first_sums:=W.mg_of X G a11
  b_are_first_sums:=bn1 (fun_mk (st:=s_are_first_sums) l11 c11 k11) fun _ _ _ _ _ _ _=>rfl
  F_check_houses:=fun_mk (st:=s_check_houses) l12 c12 k12
  m_check_houses:=W.mg_of X G a12
  bk0_check_houses:=kbm12 fun _ _ _ _=>.of_eq rfl
  F_check_purses:=fun_mk (st:=s_check_purses) l13 c13 k13
  m_check_purses:=W.mg_of X G a13
  bk0_check_purses:=kbm11 fun _ _ _=>.of_eq rfl
  F_check_world:=fun_mk (st:=s_check_world) l14 c14 k14
  m_check_world:=W.mg_of X G a14
  b_check_world:=bn1 (fun_mk (st:=s_check_world) l14 c14 k14) fun _ _ _ _ _ _ _=>rfl
  F_clashing_places:=fun_mk (st:=s_clashing_places) l15 c15 k15
  m_clashing_places:=W.mg_of X G a15
  b_clashing_places:=bn1 (fun_mk (st:=s_clashing_places) l15 c15 k15) fun _ _ _ _ _ _ _=>rfl
  F_Board___init__:=fun_mk (st:=s_Board___init__) l16 c16 k16
  mt_Board___init__:=⟨a16,n16,k16⟩
  mk_Board:=⟨mk16,a16,n16,mq16⟩
  b_Board___init__:=bn2 (fun_mk (st:=s_Board___init__) l16 c16 k16) fun _ _ _ _ _ _ _ _=>rfl
  F_Board_put:=fun_mk (st:=s_Board_put) l17 c17 k17
  mt_Board_put:=⟨a17,n17,k17⟩
  b_Board_put:=bn3 (fun_mk (st:=s_Board_put) l17 c17 k17) fun _ _ _ _ _ _ _ _ _=>rfl
  F_Board_things_of:=fun_mk (st:=s_Board_things_of) l18 c18 k18
  mt_Board_things_of:=⟨a18,n18,k18⟩
  b_Board_things_of:=bn2 (fun_mk (st:=s_Board_things_of) l18 c18 k18) fun _ _ _ _ _ _ _ _=>rfl
  F_Book___init__:=fun_mk (st:=s_Book___init__) l19 c19 k19
  mt_Book___init__:=⟨a19,n19,k19⟩
  mk_Book:=⟨mk19,a19,n19,mq19⟩
  b_Book___init__:=bn2 (fun_mk (st:=s_Book___init__) l19 c19 k19) fun _ _ _ _ _ _ _ _=>rfl
  F_Book_is_past:=fun_mk (st:=s_Book_is_past) l20 c20 k20
  mt_Book_is_past:=⟨a20,n20,k20⟩
  b_Book_is_past:=bn2 (fun_mk (st:=s_Book_is_past) l20 c20 k20) fun _ _ _ _ _ _ _ _=>rfl
  F_Book_is_due:=fun_mk (st:=s_Book_is_due) l21 c21 k21
  mt_Book_is_due:=⟨a21,n21,k21⟩
  b_Book_is_due:=bn2 (fun_mk (st:=s_Book_is_due) l21 c21 k21) fun _ _ _ _ _ _ _ _=>rfl
  F_Book_settle:=fun_mk (st:=s_Book_settle) l22 c22 k22
  mt_Book_settle:=⟨a22,n22,k22⟩
  b_Book_settle:=bn2 (fun_mk (st:=s_Book_settle) l22 c22 k22) fun _ _ _ _ _ _ _ _=>rfl
  F_Keeper___init__:=fun_mk (st:=s_Keeper___init__) l23 c23 k23
  mt_Keeper___init__:=⟨a23,n23,k23⟩
  mk_Keeper:=⟨mk23,a23,n23,mq23⟩
  b_Keeper___init__:=bn2 (fun_mk (st:=s_Keeper___init__) l23 c23 k23) fun _ _ _ _ _ _ _ _=>rfl
  F_Keeper_give_votes:=fun_mk (st:=s_Keeper_give_votes) l24 c24 k24
  mt_Keeper_give_votes:=⟨a24,n24,k24⟩
  b_Keeper_give_votes:=bn1 (fun_mk (st:=s_Keeper_give_votes) l24 c24 k24) fun _ _ _ _ _ _ _=>rfl
  F_Keeper_first_due:=fun_mk (st:=s_Keeper_first_due) l25 c25 k25
  mt_Keeper_first_due:=⟨a25,n25,k25⟩
  b_Keeper_first_due:=bn1 (fun_mk (st:=s_Keeper_first_due) l25 c25 k25) fun _ _ _ _ _ _ _=>rfl
  F_Keeper_go_on:=fun_mk (st:=s_Keeper_go_on) l26 c26 k26
  mt_Keeper_go_on:=⟨a26,n26,k26⟩
  b_Keeper_go_on:=bn1 (fun_mk (st:=s_Keeper_go_on) l26 c26 k26) fun _ _ _ _ _ _ _=>rfl
  F_Keeper_hear:=fun_mk (st:=s_Keeper_hear) l27 c27 k27
  mt_Keeper_hear:=⟨a27,n27,k27⟩
  b_Keeper_hear:=bn2 (fun_mk (st:=s_Keeper_hear) l27 c27 k27) fun _ _ _ _ _ _ _ _=>rfl
  F_Keeper_take_paper:=fun_mk (st:=s_Keeper_take_paper) l28 c28 k28
  mt_Keeper_take_paper:=⟨a28,n28,k28⟩
  b_Keeper_take_paper:=bn2 (fun_mk (st:=s_Keeper_take_paper) l28 c28 k28) fun _ _ _ _ _ _ _ _=>rfl
  F_World___init__:=fun_mk (st:=s_World___init__) l29 c29 k29
  mt_World___init__:=⟨a29,n29,k29⟩
  mk_World:=⟨mk29,a29,n29,mq29⟩
  bk0_World___init__:=⟨fun s us ws _ hl=>match us,ws,hl with | [_,_],[_,_,_,_],_=>.of_eq rfl,fun {vs us zs ws} r1 r2=>kb_rel24 r1 r2⟩
  F_World_letters:=fun_mk (st:=s_World_letters) l30 c30 k30
  mt_World_letters:=⟨a30,n30,k30⟩
  b_World_letters:=bn1 (fun_mk (st:=s_World_letters) l30 c30 k30) fun _ _ _ _ _ _ _=>rfl
  F_World_honest:=fun_mk (st:=s_World_honest) l31 c31 k31
  mt_World_honest:=⟨a31,n31,k31⟩
  b_World_honest:=bn1 (fun_mk (st:=s_World_honest) l31 c31 k31) fun _ _ _ _ _ _ _=>rfl
  F_World_keeper_of:=fun_mk (st:=s_World_keeper_of) l32 c32 k32
  mt_World_keeper_of:=⟨a32,n32,k32⟩
  b_World_keeper_of:=bn2 (fun_mk (st:=s_World_keeper_of) l32 c32 k32) fun _ _ _ _ _ _ _ _=>rfl
  F_World_sums:=fun_mk (st:=s_World_sums) l33 c33 k33
  mt_World_sums:=⟨a33,n33,k33⟩
  b_World_sums:=bn2 (fun_mk (st:=s_World_sums) l33 c33 k33) fun _ _ _ _ _ _ _ _=>rfl
  F_World_check_order:=fun_mk (st:=s_World_check_order) l34 c34 k34
  mt_World_check_order:=⟨a34,n34,k34⟩
  b_World_check_order:=bn2 (fun_mk (st:=s_World_check_order) l34 c34 k34) fun _ _ _ _ _ _ _ _=>rfl
  F_World_check_liar:=fun_mk (st:=s_World_check_liar) l35 c35 k35
  mt_World_check_liar:=⟨a35,n35,k35⟩
  b_World_check_liar:=bn2 (fun_mk (st:=s_World_check_liar) l35 c35 k35) fun _ _ _ _ _ _ _ _=>rfl
  F_World_write_to_all:=fun_mk (st:=s_World_write_to_all) l36 c36 k36
  mt_World_write_to_all:=⟨a36,n36,k36⟩
  b_World_write_to_all:=bn3 (fun_mk (st:=s_World_write_to_all) l36 c36 k36) fun _ _ _ _ _ _ _ _ _=>rfl
  F_World_put_votes:=fun_mk (st:=s_World_put_votes) l37 c37 k37
  mt_World_put_votes:=⟨a37,n37,k37⟩
  b_World_put_votes:=bn3 (fun_mk (st:=s_World_put_votes) l37 c37 k37) fun _ _ _ _ _ _ _ _ _=>rfl
  F_World_cheat:=fun_mk (st:=s_World_cheat) l38 c38 k38
  mt_World_cheat:=⟨a38,n38,k38⟩
  b_World_cheat:=bn3 (fun_mk (st:=s_World_cheat) l38 c38 k38) fun _ _ _ _ _ _ _ _ _=>rfl
  F_World_lie:=fun_mk (st:=s_World_lie) l39 c39 k39
  mt_World_lie:=⟨a39,n39,k39⟩
  b_World_lie:=bn3 (fun_mk (st:=s_World_lie) l39 c39 k39) fun _ _ _ _ _ _ _ _ _=>rfl
  F_World_come:=fun_mk (st:=s_World_come) l40 c40 k40
  mt_World_come:=⟨a40,n40,k40⟩
  b_World_come:=bn2 (fun_mk (st:=s_World_come) l40 c40 k40) fun _ _ _ _ _ _ _ _=>rfl
  F_written_orders:=fun_mk (st:=s_written_orders) l41 c41 k41
  m_written_orders:=W.mg_of X G a41
  b_written_orders:=bn1 (fun_mk (st:=s_written_orders) l41 c41 k41) fun _ _ _ _ _ _ _=>rfl
  F_false_owners:=fun_mk (st:=s_false_owners) l42 c42 k42
  m_false_owners:=W.mg_of X G a42
  b_false_owners:=bn1 (fun_mk (st:=s_false_owners) l42 c42 k42) fun _ _ _ _ _ _ _=>rfl
  F_false_houses:=fun_mk (st:=s_false_houses) l43 c43 k43
  m_false_houses:=W.mg_of X G a43
  b_false_houses:=bn1 (fun_mk (st:=s_false_houses) l43 c43 k43) fun _ _ _ _ _ _ _=>rfl
  F_lost_nothing:=fun_mk (st:=s_lost_nothing) l44 c44 k44
  m_lost_nothing:=W.mg_of X G a44
  b_lost_nothing:=bn1 (fun_mk (st:=s_lost_nothing) l44 c44 k44) fun _ _ _ _ _ _ _=>rfl
  F__law_town:=fun_mk (st:=s__law_town) l45 c45 k45
  m__law_town:=W.mg_of X G a45
  b__law_town:=bn1 (fun_mk (st:=s__law_town) l45 c45 k45) fun _ _ _ _ _ _ _=>rfl
  F__law_draw:=fun_mk (st:=s__law_draw) l46 c46 k46
  m__law_draw:=W.mg_of X G a46
  b__law_draw:=bn2 (fun_mk (st:=s__law_draw) l46 c46 k46) fun _ _ _ _ _ _ _ _=>rfl
  F__law_pick:=fun_mk (st:=s__law_pick) l47 c47 k47
  m__law_pick:=W.mg_of X G a47
  b__law_pick:=bn2 (fun_mk (st:=s__law_pick) l47 c47 k47) fun _ _ _ _ _ _ _ _=>rfl
  F__law_whole:=fun_mk (st:=s__law_whole) l48 c48 k48
  m__law_whole:=W.mg_of X G a48
  b__law_whole:=bn1 (fun_mk (st:=s__law_whole) l48 c48 k48) fun _ _ _ _ _ _ _=>rfl
  F__law_whole_list:=fun_mk (st:=s__law_whole_list) l49 c49 k49
  m__law_whole_list:=W.mg_of X G a49
  b__law_whole_list:=bn1 (fun_mk (st:=s__law_whole_list) l49 c49 k49) fun _ _ _ _ _ _ _=>rfl
  F__law_some:=fun_mk (st:=s__law_some) l50 c50 k50
  m__law_some:=W.mg_of X G a50
  b__law_some:=bn3 (fun_mk (st:=s__law_some) l50 c50 k50) fun _ _ _ _ _ _ _ _ _=>rfl
  F__law_world:=fun_mk (st:=s__law_world) l51 c51 k51
  m__law_world:=W.mg_of X G a51
  b__law_world:=bn1 (fun_mk (st:=s__law_world) l51 c51 k51) fun _ _ _ _ _ _ _=>rfl
  F__law_letter:=fun_mk (st:=s__law_letter) l52 c52 k52
  m__law_letter:=W.mg_of X G a52
  b__law_letter:=bn2 (fun_mk (st:=s__law_letter) l52 c52 k52) fun _ _ _ _ _ _ _ _=>rfl
  F__law_order:=fun_mk (st:=s__law_order) l53 c53 k53
  m__law_order:=W.mg_of X G a53
  b__law_order:=bn3 (fun_mk (st:=s__law_order) l53 c53 k53) fun _ _ _ _ _ _ _ _ _=>rfl
  F_law:=fun_mk (st:=s_law) l54 c54 k54
  m_law:=W.mg_of X G a54
  b_law:=bn1 (fun_mk (st:=s_law) l54 c54 k54) fun _ _ _ _ _ _ _=>rfl
  c_MOST_MUCH:=⟨_,W.mg_of X G hgc0⟩
  c_LAST_NUMBER:=⟨_,W.mg_of X G hgc1⟩
  c_PAPER_LETTER:=⟨_,W.mg_of X G hgc2⟩
  c_ORDER_LETTER:=⟨_,W.mg_of X G hgc3⟩
  c_MOST_HOUSES:=⟨_,W.mg_of X G hgc4⟩
  c_MOST_FEW:=⟨_,W.mg_of X G hgc5⟩
  c_MOST_FIRST_SUM:=⟨_,W.mg_of X G hgc6⟩
  c_LEAST_PURSES:=⟨_,W.mg_of X G hgc7⟩
  c_MOST_PURSES:=⟨_,W.mg_of X G hgc8⟩
  m_Keeper:=W.mg_of X G cm0
  cl_Keeper:=⟨cg0,ch0,co0,cs0⟩
  na_Keeper_held:=cn0_0
  na_Keeper_next_numbers:=cn0_1
  na_Keeper_done:=cn0_2
  na_Keeper_heard:=cn0_3
  na_Keeper_unvoted:=cn0_4
  na_Keeper_choices:=cn0_5
  na_Keeper_waiting:=cn0_6
  m_Board:=W.mg_of X G cm1
  cl_Board:=⟨cg1,ch1,co1,cs1⟩
  na_Board_enough:=cn1_0
  na_Board_signers:=cn1_1
  m_World:=W.mg_of X G cm2
  cl_World:=⟨cg2,ch2,co2,cs2⟩
  io_World:=⟨ia2,in2,it2,im2,ik2⟩
  na_World_purses:=cn2_0
  na_World_total:=cn2_1
  na_World_lying:=cn2_2
  na_World_cheating:=cn2_3
  na_World_keepers:=cn2_4
  na_World_board:=cn2_5
  na_World_asked:=cn2_6
  na_World_on_way:=cn2_7
  m_Book:=W.mg_of X G cm3
  cl_Book:=⟨cg3,ch3,co3,cs3⟩
  na_Book_held:=cn3_0
  na_Book_next_numbers:=cn3_1
  na_Book_done:=cn3_2
  mt_Keeper_is_due:=⟨ih0,n21,k21⟩
  mt_Keeper_is_past:=⟨ih1,n20,k20⟩
  mt_Keeper_settle:=⟨ih2,n22,k22⟩
  cm_Book___init__:=⟨yp0,yr0,yf0,k19⟩
  n_isinstance:=W.mg_none_of X G z0
  n_bool:=W.mg_none_of X G z1
  n_int:=W.mg_none_of X G z2
  n_len:=W.mg_none_of X G z3
  n_tuple:=W.mg_none_of X G z4
  n_list:=W.mg_none_of X G z5
  n_all:=W.mg_none_of X G z6
  n_range:=W.mg_none_of X G z7
  n_sum:=W.mg_none_of X G z8
  n_min:=W.mg_none_of X G z9
  n_sorted:=W.mg_none_of X G z10
  n_set:=W.mg_none_of X G z11 }
 have e:=hfa.symm.trans T.m_law
 cases e
 exact ⟨_,fun s v=>.of_eq rfl,fun base _ _=>ok_law T⟩
end M
structure PySem.W.Fast:Prop where (tw9762262908115315858 tw13480979834823191202 tw4250831126372379096 tw124590707604865245 tw1155393660574360473 tw5971315246213181054 tw11663083381841358849 tw11220460896546127393 tw6473792590329176711 tw5564799857355011912 tw4515841413787826176 tw5199775300247007477 tw13979202450904529834 tw8070839467463724345 tw1207246014816751290 tw2267240120686494761 tw10506507271315342864 tw12745383154466398716 tw241094626655529579 tw7620401130739442244 tw1502003292606736655 tw14389387616628701026 tw4505694765460886266 tw4532356350327193638 tw11333368787684615907 tw9089035965441518857 tw16933553057087151577 tw2317417313843936006 tw4777619275475624898 tw15563783997273157903 tw17139005740498300460 tw5775531249506472285 tw18092130665584177234 tw4151491677165285774 tw4058785571692198289 tw5030494151112841632 tw10053132699409945811 tw12494857974691530518 tw5313880954251209624 tw14496569029334815813 tw6800643919618823507 tw16581025407497196498 tw11356583183809550339 tw18164047865647328773 tw11777062848527667924 tw2930986599133525975 tw10520826478147038164 tw4457345177878504237 tw10116985593122250800 tw7518094242540496150 tw2439251016398607473 tw374316906339904872 tw7063400141837059151 tw16845928365383924951 tw11696204861665615994 tw7248763067541713548 tw13917773795500449988 tw5698175570928700099 tw6245925956186603585 tw11748038212287305516 tw7159652377362332623 tw4459319080774177827 tw15959818192764692041 tw8192948853409954086 tw17877154568703606807 tw4883463110034005195 tw10785923138817203932 tw984831745721040280 tw16272507302508934981 tw8835517628602888806 tw15547181568761593882 tw5154107739915643704 tw36120522959401329 tw1138973124241623934 tw132195576223854561 tw2084861827820109092 tw11693810288802517254 tw7128505342432763046 tw3438546918424376999 tw16306430504992957088 tw11239798315276250775 tw13618423542575551195 tw11943280991066018274 tw1013140094816137377 tw8884274075529915156 tw15019655798099317216 tw928741451072521185 tw1994187350901647969 tw10593451896378242421 tw12127766739495560937 tw16802011868864990807 tw16232796278794109320 tw9379271673166218229 tw16292405295063004871 tw5443572458015601728 tw10042582872684224554 tw17464260131301642103 tw2661420775961020381 tw3404922498278456420 tw5954912099304183791 tw4890692810936185399 tw15143467983133057930 tw13508240088290108740 tw12362596180778971326 tw6897950876043712924 tw13263865545098048706 tw13211709757459457980 tw13085995420978041652 tw7174185459211840950 tw16793920473156646511 tw2216123296389657297 tw16063079771078023705 tw11961847617191343742 tw3770781376506336078 tw9433740889653054853 tw247522668495068274 tw13907470989450515255 tw10806074757076233650 tw4452432067030831861 tw5202421761574428880 tw16784563987230849674 tw3469139699675032834 tw8820315917966571658 tw18276071959199934873 tw11883741932754040925 tw5252994035300325799 tw902803595004277794 tw13666094447005078433 tw4082185488294369849 tw5252582350198455334 tw8277741647122257511 tw10780640465793654753 tw17442630711205486956 tw3211982391632554863 tw16857433873355324093 tw7166029294156200121 tw8662858797249219069 tw6690119013907138594 tw4404150424015765761 tw6202079520363253546 tw18442906732624919209 tw6775323894720485911 tw11015818364408487662 tw13653766699070850900 tw12356475754430407229 tw310485480082849773 tw14645437718887393942 tw13231639392134609576 tw9359030509046219315 tw15222625798796650933 tw783052505562845909 tw17876687063373340246 tw1980232377841760461 tw4756371818863547846 tw8057454365730877872 tw12484844849056475417 tw6820115723624349696 tw4139461194244548919 tw1801291609392904566 tw12351466929344614573 tw14734991637471653545 tw7638934258431548838 tw11692508460409507522 tw5491242233646601283 tw2424792075938034197 tw11816355679615816978 tw183512843970324428 tw4648516168334703168 tw10962158171354917013 tw9213238606779779711 tw13582121941826662762 tw12537782629458685108 tw9359305097971515386 tw8438165946776764176 tw3574694800486203373 tw8867994143435689930 tw13254739596095147009 tw12805726884745937902 tw11095519221660523231 tw2263316359999376608 tw3450163156052125926 tw2782847258766150984 tw592208554771707008 tw2409486757456716574 tw14948234299703487105 tw6288687989633569565 tw2084492203032730494 tw17206809624925871781 tw7647145771470976739 tw11020683254456142529 tw13283622379353196023 tw7150985795250758831 tw6606792383561960433 tw6309079681031911905 tw12092598335887076814 tw10505084135405955340 tw13131865700555223914 tw13317456057053260364 tw9321255040360701014 tw7842548176554469951 tw13173754575361599869 tw8359194913497162026 tw13102875545488777520 tw17063722622831987900 tw447134132617922290 tw15074073207802025672 tw9817372847980476595 tw9106113518045214936 tw11985698031499175931 tw8587617269597164910 tw970152019321933397 tw10545785173494953013 tw1772029752239240975 tw3354748834321561154 tw16031227036442432523 tw2053602020970483881 tw6007824275240950172 tw13102050332565131537 tw9162899749585169173 tw6275158979016015572 tw1440638426123680114 tw17627824802096823145 tw16191181113107112422 tw15053647801542554585 tw14364757051631762002 tw8116643505001977813 tw7349082661374473488 tw17393936608569080909 tw83488340646714583 tw16242399380808461597 tw431039501822246673 tw14394121779620815845 tw10477245177690329393 tw15677654139770222368 tw7595020293094085003 tw12762387297693371455 tw6639298723780709095 tw8309109706976220937 tw3163935674160144801 tw973401224232195567 tw905898415479006779 tw11425213239593387239 tw6766517465262440022 tw16846266243193491680 tw12693549446534581518 tw3460118556128019144 tw18117729980319573458 tw14174945236503357152 tw7451727357450524895 tw15489824020389161929 tw9197625110693279759 tw5348923099028691988 tw8023985894988278170 tw3187223809039794990 tw16200839150585917007 tw4835787685211229375 tw12922498807287731718 tw12835500224089758696 tw9737655708968907252 tw14566700503657179689 tw669101930473824428 tw10264788065807198405 tw15416722330455435449 tw14891204276660451638 tw3326824424103472761 tw10453399281934276991 tw16180276632261754168 tw819002709465686785 tw8466130758030624993 tw14511243657394731788 tw14776735315764721327 tw11430477076843439986 tw7859221204428393969 tw17229344221815211777 tw3012449153522057967 tw11643376449535161450 tw3358849842263518615 tw17728352522171937850 tw1416514254601512809 tw1548266667838341852 tw8678949560681876087 tw5925483009849709302 tw17722952487512832203 tw12720260730188763920 tw10810407560556101859 tw11981983720902856150 tw8177853209313388580 tw1567863661497491186 tw15864167606762649942 tw12826587177127739493 tw10471991320321848275 tw11975840881311469342 tw8780469599662892471 tw10314841903182173319 tw9108238182443522662 tw16988437970523055872 tw12061031166759295761 tw1030484871459043646 tw9636000929205891327 tw7846560691307861012 tw6803085833644317422 tw15077370084364907947 tw10740392124144253625 tw12202351736270581432 tw4480442210751783861 tw16023421503091981008 tw1260505358268319713 tw11003934263835152823 tw84555427793803729 tw17027033108252582683 tw10012048370152434875 tw3650871049097643802 tw3817582041184382722 tw3253291148406775631 tw11569297867486606903 tw2425806146032390960 tw15579263676690928965 tw6189121383923817090 tw10802393064234926027 tw8380018484754940553 tw12908080363208589663 tw11287744066081606412 tw15603019246112704749 tw7727628844689440477 tw10684718260522404914 tw16536191951884320588 tw5399240464012985318 tw2782931406064496800 tw16211488760172896387 tw1199646567517194851 tw11014622309986118760 tw14754137228710145382 tw14542205887598194612 tw14041989102661143555 tw11531980395560312017 tw13545663625884047290 tw656379338223369645 tw5991496054303699164 tw9662655404531176513 tw15549731068255824196 tw2044433727769239373 tw2722546418835047143 tw10198170357875726057 tw6049466801041254055 tw2231044490769195124 tw8375391963712946693 tw16923800368059566113 tw12943932725079713028 tw7744043350043715810 tw13760738240054767760 tw6431722484539098385 tw698493227099465038 tw6607558252767122983 tw16606688055757446251 tw14256664651428486377 tw9749328060268615597 tw142445646319013396 tw295494751450121590 tw5284115488607655580 tw13762307131657038067 tw3966317686155858939 tw2340289605293789736 tw3802549114461091034 tw16900085250451301824 tw16432212509744812233 tw7062129774790136767 tw15505076638091993235 tw71183257276632035 tw1805584937431443678 tw15304108193979372371 tw12646091812372937921 tw15534767841042248760 tw7045170180580755880 tw5363158815924272028 tw17196365457440184360 tw10605626018142666391 tw11492813746119019882 tw7673755877183576231 tw8516202824568551598 tw14033064562901922345 tw17482572394048164646 tw7760145694787756080 tw15319502252537114986 tw7919246848965221085 tw15618103080083429018 tw1278140144762585781 tw14569357396302903552 tw3099185689599390743 tw6391611287865434603 tw7841475339238837566 tw17322785729611825471 tw3074827895353286201 tw15127621623396772637 tw6712801285508730404 tw6855927162438493734 tw6871886527548666967 tw16256927594188358829 tw3999499684685828103 tw15412023251116542793 tw4527829668828053732 tw1728469250022645424 tw3786857035639554646 tw3817639856604427350 tw11134342741285287158 tw18385987204854927799 tw947885803147432680 tw17056470525797172021 tw14612585448364625941 tw4563508106903101777 tw7050704311063957364 tw8359165756083521076 tw9657739264242662869 tw1247413653709244072 tw6401023222520831130 tw5734639935863985167 tw15335280641311878965 tw732206385712936411 tw4839606226133155383 tw10818902301938725011 tw829115152376228671 tw11673072113016274438 tw12766559872520071411 tw1104719889644871639 tw1253150774625152958 tw16728788394832701995 tw14337834062547158219 tw4559636746382240884 tw2088429330769745781 tw16469672731512200056 tw7045350058274505886 tw16270957979459599753 tw3944086778586444475 tw18325643805322250582 tw1357862025520522810 tw5434686059879207978 tw15674545544593825366 tw11812157928015464215 tw1315450511002469138 tw6560847754927736843 tw13940640882989044584 tw982677307690054332 tw17484933686861518952 tw10759895187954650303 tw12970374095311346614 tw3592959276220817465 tw8151496878188675802 tw18069897760419157139 tw7396135854548867039 tw17677717085115475974 tw4743721459190328298 tw6475096490180505021 tw14059055692735515222 tw1603092142935756038 tw1817809418299246059 tw9260849471451582198 tw18368850885740965466 tw12834505632227435425 tw3976843624900527375 tw17274558066385874454 tw13399664101003617261 tw4381466491796060005 tw16206776506265584994 tw12943932228669848437 tw8922942397837187018 tw11558533047213896394 tw18318579893524799502 tw856594489021142334 tw15318251156404985361 tw17232741230953872337 tw96707774999735819 tw18340424107993359365 tw16477313559941233362 tw14461832082294610581 tw16035746588442782093 tw7097147778158129438 tw7431634105628197330 tw4459173136905184149 tw10500185349480767932 tw8200888359360400332 tw1434285048966167615 tw5073731343161112363 tw2395589698824818195 tw7306467093872625175 tw7331701249247109709 tw13082857137406484697 tw14877825065097311461 tw16202896676078350719 tw17151889766600877941 tw9054773810887344560 tw11384623728658589605 tw17454246878839947556 tw12465055471028910193 tw4240506948545435456 tw791427751152000920 tw4883820101947142515 tw14640795377497953040 tw16128215504532598321 tw9726070006440070061 tw13862907048993625023 tw3140928985758300857 tw17966248376868553592 tw14113850071920392898 tw15335927896136737444 tw6553075614528171638 tw17342659041156987444 tw6784879818319959709 tw7688821703300104448 tw8381925806731019799 tw11694931945135824968 tw3645186193636322121 tw5467804762753886131 tw4855594108239264459 tw12462963347669548819 tw13883599651585379490 tw15943600191726806738 tw16882441641513789656 tw14645531373440932663 tw8154726311892543052 tw1275429771434055693 tw11949120411724480341 tw11211196962804079307 tw3008239255206254738 tw4209986820627999372 tw4393134141206277668 tw17350579835287339575 tw8937181544069312240 tw6859734655663945114 tw14904741508659922836 tw14052441943092989111 tw15392138296869316860 tw12556087827389008111 tw13886195840356249011 tw3525276303337811757 tw14586128054082808441 tw1032879830503465846 tw9944988613474354372 tw2048161961847522254 tw11018754434872622856 tw10328385267868807598 tw14771735859070419537 tw14702582257434697466 tw18105665153022816079 tw7630736517795779342 tw5223338720930935851 tw12890135165687358451 tw5327849056448359075 tw3166082368060607776 tw822613611184980113 tw16250148865667551262:True)
open PySem PySem.W PyProof.Rows
set_option maxRecDepth 100000 in
set_option maxHeartbeats 0 in
theorem PySem.Challenge.cw_manypurses_k08_whole_shown_holds : PySem.Challenge.rw_manypurses_k08_whole_shown.Holds := by
  w_on; o_law; k_head; (case hw=>w_witness2)
  k_fill
  refine L2.walk_ofK (l:=PySem.Challenge.rw_manypurses_k08_whole_shown) (n:=63) (k:=12) (x := "_law_script") (CX:=L2.CX0) (sp:=M.sp_law) rfl (by decide) rfl ⟨rfl,by decide,by decide⟩ (fun w h Y=>PySem.W.kIn_of Y) ?F ?S ?C
  case F=>
    intro w mg fa h KX G hmg
    refine' M.all_mk KX G hmg ..
    iterate 25 (show _ = _; k_is)
    iterate 2 (show _ = _; kernel_rfl)
    iterate 1 (show _ = _; k_is)
    iterate 1 (show _ = _; kernel_rfl)
    iterate 273 (show _ = _; k_is)
    iterate 3 (show _ = _; kernel_rfl)
    iterate 21 (show _ = _; k_is)
  case S=>exact fun K H a ns hl _ hS=>⟨a,ns,rfl,hS,hl,fun _=>rfl⟩
  case C=>exact fun _ _ _ _ z=>z
