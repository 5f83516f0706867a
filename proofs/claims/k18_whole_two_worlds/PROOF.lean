import PyProof.Rows.All
import Wide.All
import OpenK.AllK
import Wide.FinOn
import Lean
import PyProof.EqAt
import PyProof.EqKinds
import PyProof.TupleCall
import PyProof.NeKinds
import PySem.Challenge.RW_manypurses_k18_whole_two_worlds
set_option Elab.async false
set_option linter.all false
set_option maxRecDepth 100000
namespace L2
open PySem PySem.Spec PyProof.Rows
abbrev Key:=Sum Int Str
def keyIs:Key → Value → Bool
  | .inl k,v=>Value.isInt k v
  | .inr x,v=>Value.isStrOf x v
def keyH (w:World) : Key → Int
  | .inl k=>hashInt k
  | .inr x=>hashStr w x
theorem xm : ∀ {k:Key} {v:Value},keyIs k v = true → (∃ i t,k = Sum.inl i ∧ v = Value.int i t) ∨ (∃ x t,k = Sum.inr x ∧ v = Value.str x t)
  | .inl i,v,h=>by
    obtain ⟨t,e⟩:=Value.isInt_shape (k:=i) (v:=v) h
    exact .inl ⟨i,t,rfl,e⟩
  | .inr x,v,h=>by
    obtain ⟨t,e⟩:=Value.isStrOf_shape (x:=x) (v:=v) h
    exact .inr ⟨x,t,rfl,e⟩
theorem keyIs_int (i:Int) (t:Tok) : keyIs (.inl i) (.int i t) = true:=by simp [keyIs,Value.isInt]
theorem keyIs_str (x:Str) (t:Tok) : keyIs (.inr x) (.str x t) = true:=by simp [keyIs,Value.isStrOf]
theorem key_ll (a b:Int) : decide ((Sum.inl a:Key) = Sum.inl b) = (a == b):=by
  by_cases e:a = b
  · subst e; simp
  · have h : ¬ (Sum.inl a:Key) = Sum.inl b:=fun q=>e (Sum.inl.inj q)
    rw [decide_eq_false h]
    exact (beq_eq_false_iff_ne.mpr e).symm
theorem key_rr (a b:Str) : decide ((Sum.inr a:Key) = Sum.inr b) = decide (a = b):=by
  by_cases e:a = b
  · subst e; simp
  · have h : ¬ (Sum.inr a:Key) = Sum.inr b:=fun q=>e (Sum.inr.inj q)
    rw [decide_eq_false h,decide_eq_false e]
theorem key_lr (a:Int) (b:Str) : decide ((Sum.inl a:Key) = Sum.inr b) = false:=decide_eq_false (fun q=>nomatch q)
theorem key_rl (a:Str) (b:Int) : decide ((Sum.inr a:Key) = Sum.inl b) = false:=decide_eq_false (fun q=>nomatch q)
def zh (prog:Program) (w:World) : PySem.KeyKind prog w Key where
  is:=keyIs
  hash:=keyH w
  inj := fun v a b ha hb=>by
    rcases xm ha with ⟨i,t,rfl,rfl⟩ | ⟨x,t,rfl,rfl⟩
    · rcases xm hb with ⟨j,u,rfl,e⟩ | ⟨y,u,rfl,e⟩
      · injection e with e1 _; rw [e1]
      · exact nomatch e
    · rcases xm hb with ⟨j,u,rfl,e⟩ | ⟨y,u,rfl,e⟩
      · exact nomatch e
      · injection e with e1 _; rw [e1]
  byValue:=fun k v h=>by
    rcases xm h with ⟨i,t,rfl,rfl⟩ | ⟨x,t,rfl,rfl⟩ <;> rfl
  pyHash:=fun hv h=>by
    rcases xm hv with ⟨i,t,rfl,rfl⟩ | ⟨x,t,rfl,rfl⟩
    · exact wpAny_pyHash_int h
    · exact wpAny_pyHash_str h
  eqBool:=fun hu hv h=>by
    rcases xm hu with ⟨i,t,rfl,rfl⟩ | ⟨x,t,rfl,rfl⟩
    · rcases xm hv with ⟨j,u,rfl,rfl⟩ | ⟨y,u,rfl,rfl⟩
      · rw [key_ll] at h; exact wpAny_eqBool_int h
      · rw [key_lr] at h; exact SeqAt.EqAt.int_str i t y u _ _ _ _ h
    · rcases xm hv with ⟨j,u,rfl,rfl⟩ | ⟨y,u,rfl,rfl⟩
      · rw [key_rl] at h; exact SeqAt.EqAt.str_int x t j u _ _ _ _ h
      · rw [key_rr] at h; exact wpAny_eqBool_str h
  «strs» := fun k x t v h=>by
    rcases xm h with ⟨i,u,rfl,e⟩ | ⟨y,u,rfl,e⟩
    · exact nomatch e
    · injection e with e1 _
      subst e1
      cases v <;> rfl
theorem mixKind_int (prog:Program) (w:World) (i:Int) (t:Tok) : (zh prog w).is (.inl i) (.int i t) = true:=keyIs_int i t
theorem mixKind_str (prog:Program) (w:World) (x:Str) (t:Tok) : (zh prog w).is (.inr x) (.str x t) = true:=keyIs_str x t
end L2
namespace L2
open PySem PySem.Spec PyProof.Rows
inductive V where
  | non | bl (b:Bool) | int (i:Int) | str (x:Str) | byt (b:Array UInt8) | flt (b:UInt64) | ref (a:Addr) | ty (n:String)
  deriving DecidableEq
def RelV:V → Value → Prop
  | .non,u=>u = Value.none
  | .bl b,u=>u = Value.bool b
  | .int i,u=>∃ t,u = Value.int i t
  | .str x,u=>∃ t,u = Value.str x t
  | .byt b,u=>∃ t,u = Value.bytes b t
  | .flt b,u=>∃ t,u = Value.float b t
  | .ref a,u=>u = Value.ref a
  | .ty n,u=>u = Value.type n
abbrev Vals:List V → List Value → Prop:=Paired RelV
theorem Vals.length {xs:List V} {us:List Value} (r:Vals xs us) : xs.length = us.length:=Paired.length r
theorem Vals.get : ∀ {xs:List V} {us:List Value} {i:Nat} {x:V},Vals xs us → xs[i]? = some x → ∃ u,us[i]? = some u ∧ RelV x u
  | _,_,_,_,.nil,e=>by simp at e
  | _,_,0,_,.cons r _,e=>by simp at e; subst e; exact ⟨_,rfl,r⟩
  | _,_,i + 1,x,.cons _ t,e=>by
    obtain ⟨u,h1,h2⟩:=Vals.get (i:=i) (x:=x) t (by simpa using e)
    exact ⟨u,by simpa using h1,h2⟩
theorem Vals.set {x:V} {u:Value} (r:RelV x u) : ∀ {xs:List V} {us:List Value} (i:Nat),Vals xs us → Vals (xs.set i x) (us.set i u)
  | _,_,_,.nil=>.nil
  | _,_,0,.cons _ t=>.cons r t
  | _,_,i + 1,.cons q t=>.cons q (Vals.set r i t)
theorem Vals.append : ∀ {xs ys:List V} {us ws:List Value},Vals xs us → Vals ys ws → Vals (xs ++ ys) (us ++ ws)
  | _,_,_,_,.nil,s=>s
  | _,_,_,_,.cons r t,s=>.cons r (Vals.append t s)
theorem Vals.take : ∀ {xs:List V} {us:List Value} (n:Nat),Vals xs us → Vals (xs.take n) (us.take n)
  | _,_,0,_=>.nil
  | _,_,_ + 1,.nil=>.nil
  | _,_,n + 1,.cons r t=>.cons r (Vals.take n t)
theorem Vals.drop : ∀ {xs:List V} {us:List Value} (n:Nat),Vals xs us → Vals (xs.drop n) (us.drop n)
  | _,_,0,r=>r
  | _,_,_ + 1,.nil=>.nil
  | _,_,n + 1,.cons _ t=>Vals.drop n t
def RelO:Option V → Option Value → Prop
  | some v,some u=>RelV v u
  | none,none=>True
  | _,_=>False
def KV {κ : Type} : List (κ × V) → List (κ × Value) → Prop:=Paired fun (p : κ × V) (q : κ × Value)=>p.1 = q.1 ∧ RelV p.2 q.2
def kV:Key → V
  | .inl i=>.int i
  | .inr x=>.str x
inductive HO where
    | lst (xs:List V)
    | tup (xs:List V)
    | dK (kvs:List (Key × V)) | dT (kvs:List (List Key × V))
    | set (S:Int → Bool) (n:Nat)
    | ins (C dx:Addr) (fs:List (Str × V))
    | own (x:Addr)
    | xd (fs:List (Str × V))
    | met (f x:Addr)
    | rng (lo hi:Int)
    | frz (o:Obj) (u:HO)
    | tbl (ps:Array Value)
    | ext (φ : Heap → Prop)
abbrev Hp:=Addr → Option HO
def upd (H:Hp) (a:Addr) (o:HO) : Hp:=fun b=>if b = a then some o else H b
theorem ja {H:Hp} {a:Addr} {o:HO} : upd H a o a = some o:=by unfold upd; rw [if_pos rfl]
theorem je {H:Hp} {a b:Addr} {o:HO} (h:b ≠ a) : upd H a o b = H b:=by unfold upd; rw [if_neg h]
theorem ne_of {H:Hp} {a b:Addr} {o u:HO} (h:H a = some o) (h':H b = some u) (d:o ≠ u) : a ≠ b:=by
  intro e; subst e; rw [h] at h'; exact d (Option.some.inj h')
theorem jh {H:Hp} {a b:Addr} {o:HO} (h:H a = some o) (h':H b = none) : a ≠ b:=by
  intro e; subst e; rw [h] at h'; cases h'
section
variable (P:Program) (w:World)
def ObjOk (H:Hp) (h:Heap) (a:Addr) : HO → Prop
  | .lst xs=>xs.length ≤ sizeLine ∧ ∃ (its:List Value) (n:Nat),Vals xs its ∧ h.get? a = some { cls:=.type "list",data:=.seq its.toArray n }
  | .tup xs=>xs.length ≤ sizeLine ∧ ∃ its:List Value,Vals xs its ∧ IsTup h a its.toArray
  | .dK kvs=>kvs.length ≤ sizeLine ∧ (a == sysModules) = false ∧ ∃ vs,KV kvs vs ∧ h.DictOf (zh P w) a vs
  | .dT kvs=>kvs.length ≤ sizeLine ∧ (a == sysModules) = false ∧ ∃ xs:List (List Key × Addr × Value),
      Paired (fun (p:List Key × V) (q:List Key × Addr × Value)=>p.1 = q.1 ∧ H q.2.1 = some (.tup (p.1.map kV)) ∧ RelV p.2 q.2.2) kvs xs ∧
      ∃ o es ep,h.get? a = some o ∧ o.ExactDict ∧ o.data = .dict es ep ∧ es.toList = xs.map (entryOfKey (tupleKind (zh P w))) ∧ (xs.map (·.1)).Nodup
  | .set S n=>h.SetOf (intKind P w) a S n
  | .ins C dx fs=>H dx = some (.own a) ∧ fs.length ≤ 1000 ∧ dx ≠ a ∧ h.get? a = some (PySem.W.instObj C dx) ∧
      ∃ mA,h.Ns1 dx mA ∧ (∀ f,RelO (fs.lookup f) (mA f)) ∧ PySem.Within mA (fs.map (·.1))
  | .own _=>∃ o,h.get? a = some o
  | .xd fs=>∃ mA,h.Ns1 a mA ∧ ∀ f,RelO (fs.lookup f) (mA f)
  | .rng lo hi=>∃ t u v,h.get? a = some { cls:=.type "range",data:=.fields #[.int lo t,.int hi u,.int 1 v] }
  | .frz o u=>h.get? a = some o ∧ ObjOk H h a u
  | .tbl ps=>h.get? a = some { cls:=.none,data:=.fields ps }
  | .met f x=>h.get? a = some (PySem.W.methodObj (.ref f) (.ref x))
  | .ext φ=>φ h ∧ (∃ o,h.get? a = some o) ∧ ∀ h1 h2:Heap,φ h1 → (∀ o,h1.get? a = some o → h2.get? a = some o) → φ h2
def HOk (H:Hp) (h:Heap) : Prop:=∀ a o,H a = some o → ObjOk P w H h a o
end
section
variable {P:Program} {w:World} {H H':Hp} {h h':Heap} {a:Addr} {o:HO}
theorem ObjOk.lt (x:ObjOk P w H h a o) : a < h.objs.size:=by
  cases o with
  | lst xs=>obtain ⟨_,_,_,_,e⟩:=x; exact Heap.lt_size e
  | tup xs=>obtain ⟨_,_,_,p⟩:=x; exact p.lt
  | dK kvs=>obtain ⟨_,_,_,_,o,_,_,e,_⟩:=x; exact Heap.lt_size e
  | dT kvs=>obtain ⟨_,_,_,_,o,_,_,e,_⟩:=x; exact Heap.lt_size e
  | set S n=>obtain ⟨o,_,_,_,e,_⟩:=x; exact Heap.lt_size e
  | ins C dx fs=>obtain ⟨_,_,_,e,_⟩:=x; exact Heap.lt_size e
  | own y=>obtain ⟨_,e⟩:=x; exact Heap.lt_size e
  | xd fs=>obtain ⟨_,⟨_,_,_,e,_⟩,_⟩:=x; exact Heap.lt_size e
  | rng lo hi=>obtain ⟨_,_,_,e⟩:=x; exact Heap.lt_size e
  | frz ob u=>obtain ⟨e,_⟩:=x; exact Heap.lt_size e
  | tbl ps=>exact Heap.lt_size (show h.get? a = some _ from x)
  | met f y=>exact Heap.lt_size (show h.get? a = some _ from x)
  | ext φ=>obtain ⟨_,⟨_,e⟩,_⟩:=x; exact Heap.lt_size e
theorem Paired.mapP {α β : Type} {F G : α → β → Prop} : ∀ {l₁:List α} {l₂:List β},Paired F l₁ l₂ → (∀ a b,F a b → G a b) → Paired G l₁ l₂
  | _,_,.nil,_=>.nil
  | _,_,.cons r t,f=>.cons (f _ _ r) (Paired.mapP t f)
theorem ObjOk.stay (x:ObjOk P w H h a o) (k : ∀ b u,(b = a ∨ H b = some (.own a)) → h.get? b = some u → h'.get? b = some u)
    (ho : ∀ b,H b = some (.own a) → H' b = some (.own a)) (ht : ∀ b xs,H b = some (.tup xs) → H' b = some (.tup xs)) : ObjOk P w H' h' a o:=by
  induction o with
  | lst xs=>obtain ⟨z,its,n,r,e⟩:=x; exact ⟨z,its,n,r,k _ _ (.inl rfl) e⟩
  | tup xs=>obtain ⟨z,its,r,ob,e,c⟩:=x; exact ⟨z,its,r,ob,k _ _ (.inl rfl) e,c⟩
  | dK kvs=>obtain ⟨z,y,vs,r,ob,es,ep,e,c⟩:=x; exact ⟨z,y,vs,r,ob,es,ep,k _ _ (.inl rfl) e,c⟩
  | dT kvs=>
    obtain ⟨z,y,xs,r,ob,es,ep,e,c⟩:=x
    exact ⟨z,y,xs,Paired.mapP r fun p q z=>⟨z.1,ht _ _ z.2.1,z.2.2⟩,ob,es,ep,k _ _ (.inl rfl) e,c⟩
  | set S n=>obtain ⟨ob,es,ep,t,e,c⟩:=x; exact ⟨ob,es,ep,t,k _ _ (.inl rfl) e,c⟩
  | ins C dx fs=>
    obtain ⟨d,z,ne,e,mA,⟨od,es,ep,e2,c⟩,r⟩:=x
    exact ⟨ho _ d,z,ne,k _ _ (.inl rfl) e,mA,⟨od,es,ep,k _ _ (.inr d) e2,c⟩,r⟩
  | own y=>obtain ⟨ob,e⟩:=x; exact ⟨ob,k _ _ (.inl rfl) e⟩
  | xd fs=>obtain ⟨mA,⟨od,es,ep,e,c⟩,r⟩:=x; exact ⟨mA,⟨od,es,ep,k _ _ (.inl rfl) e,c⟩,r⟩
  | rng lo hi=>obtain ⟨t,u,v,e⟩:=x; exact ⟨t,u,v,k _ _ (.inl rfl) e⟩
  | frz ob u ih=>obtain ⟨e,q⟩:=x; exact ⟨k _ _ (.inl rfl) e,ih q⟩
  | tbl ps=>
    have e:h.get? a = some { cls:=.none,data:=.fields ps }:=x
    show h'.get? a = some { cls:=.none,data:=.fields ps }
    exact k a _ (.inl rfl) e
  | met f y=>
    have e:h.get? a = some (PySem.W.methodObj (.ref f) (.ref y)):=x
    show h'.get? a = some (PySem.W.methodObj (.ref f) (.ref y))
    exact k a _ (.inl rfl) e
  | ext φ=>obtain ⟨p,⟨o,e⟩,st⟩:=x; exact ⟨st _ _ p fun o q=>k _ _ (.inl rfl) q,⟨o,k _ _ (.inl rfl) e⟩,st⟩
theorem HOk.lt (x:HOk P w H h) (e:H a = some o) : a < h.objs.size:=(x a o e).lt
theorem HOk.fresh (x:HOk P w H h) (e:h.objs.size ≤ a) : H a = none:=by
  cases q:H a with
  | none=>rfl
  | some u=>exact absurd (Nat.lt_of_lt_of_le (x.lt q) e) (Nat.lt_irrefl _)
theorem HOk.kept (x:HOk P w H h) (k : ∀ b u,h.get? b = some u → h'.get? b = some u) : HOk P w H h':=fun a o e=>
  (x a o e).stay (fun b u _ q=>k b u q) (fun _ q=>q) fun _ _ q=>q
theorem HOk.laid (x:HOk P w H h) (k : ∀ b u,h.get? b = some u → h'.get? b = some u) (hp:h.objs.size ≤ a) (new:ObjOk P w (upd H a o) h' a o) : HOk P w (upd H a o) h':=fun b u e=>by
  have hn:=x.fresh hp
  by_cases hb:b = a
  · subst hb; rw [ja] at e; cases e; exact new
  · rw [je hb] at e
    exact (x b u e).stay (fun c v _ q=>k c v q) (fun c q=>by rw [je (jh q hn)]; exact q) fun c xs q=>by rw [je (jh q hn)]; exact q
end
def Rd (H:Hp) (a:Addr) (u:HO) : Prop:=H a = some u ∨ ∃ o,H a = some (.frz o u)
theorem Rd.ok {P:Program} {w:World} {H:Hp} {h:Heap} {a:Addr} {u:HO} (r:Rd H a u) (x:HOk P w H h) : ObjOk P w H h a u:=by
  rcases r with r | ⟨o,r⟩
  · exact x a u r
  · obtain ⟨_,q⟩:=x a _ r
    exact q
def Mut:Option HO → Prop
  | some (.lst _)=>True
  | some (.dK _)=>True
  | some (.dT _)=>True
  | some (.set _ _)=>True
  | some (.ins _ _ _)=>True
  | some (.ext _)=>True
  | _=>False
section
variable {P:Program} {w:World} {H:Hp} {h h':Heap} {x e:Addr} {o':HO}
theorem HOk.write (ok:HOk P w H h) (mu:Mut (H x)) (he:e = x ∨ H e = some (.own x)) (k : ∀ b u,b ≠ e → h.get? b = some u → h'.get? b = some u) (heo : ∃ u,h'.get? e = some u)
    (new:ObjOk P w (upd H x o') h' x o') : HOk P w (upd H x o') h':=fun b u q=>by
  have nown : ∀ c y,H c = some (.own y) → c ≠ x:=fun c y r z=>by subst z; rw [r] at mu; exact mu
  have ntup : ∀ c xs,H c = some (.tup xs) → c ≠ x:=fun c xs r z=>by subst z; rw [r] at mu; exact mu
  by_cases hb:b = x
  · subst hb; rw [ja] at q; cases q; exact new
  · rw [je hb] at q
    by_cases hbe:b = e
    · have q':H b = some (.own x):=by
        rcases he with z | z
        · exact absurd (hbe.trans z) hb
        · rw [hbe]; exact z
      rw [q] at q'; cases q'
      obtain ⟨v,hv⟩:=heo
      exact ⟨v,by rw [hbe]; exact hv⟩
    · refine (ok b u q).stay (fun c v hc r=>k c v ?_ r) (fun c r=>by rw [je (nown c b r)]; exact r) fun c xs r=>by rw [je (ntup c xs r)]; exact r
      rcases hc with rfl | hc
      · exact hbe
      · rintro rfl
        rcases he with z | z
        · exact nown c b hc z
        · rw [hc] at z; cases z; exact hb rfl
end
structure Un (fs ex:List Addr) (H H':Hp) (h h':Heap) : Prop where
  keep : ∀ b o,h.get? b = some o → H b = none → b ∉ fs → b ∉ ex → h'.get? b = some o
  slot : ∀ b o,h.get? b = some o → H b = none → b ∈ fs → b ∉ ex → ∃ sl,h'.get? b = some { o with slots:=sl }
  free : ∀ b o,h.get? b = some o → H b = none → b ∉ ex → H' b = none
  there : ∀ b o,h.get? b = some o → b ∉ ex → ∃ o',h'.get? b = some o'
  tups : ∀ b xs,H b = some (.tup xs) → H' b = some (.tup xs)
  frzs : ∀ b o u,H b = some (.frz o u) → H' b = some (.frz o u)
  tbls : ∀ b ps,H b = some (.tbl ps) → ∃ more,H' b = some (.tbl (ps ++ more))
section
variable {fs fs' ex ex':List Addr} {H H1 H2:Hp} {h h1 h2 h':Heap} {a x e:Addr} {o:HO}
theorem Un.any (u:Un fs ex H H1 h h1) {b:Addr} {ob:Obj} (q:h.get? b = some ob) (n:H b = none) (hx:b ∉ ex) : ∃ sl,h1.get? b = some { ob with slots:=sl }:=by
  by_cases hb:b ∈ fs
  · exact u.slot b ob q n hb hx
  · exact ⟨ob.slots,u.keep b ob q n hb hx⟩
theorem Un.kept (k : ∀ b u,h.get? b = some u → h'.get? b = some u) : Un fs ex H H h h':=
  ⟨fun b ob q _ _ _=>k b ob q,fun b ob q _ _ _=>⟨ob.slots,k b ob q⟩,fun _ _ _ n _=>n,fun b ob q _=>⟨ob,k b ob q⟩,fun _ _ q=>q,fun _ _ _ q=>q,fun _ ps q=>⟨#[],by rw [q]; simp⟩⟩
theorem Un.refl:Un fs ex H H h h:=Un.kept fun _ _ q=>q
theorem Un.laid (k : ∀ b u,h.get? b = some u → h'.get? b = some u) (hp:h.objs.size ≤ a) (hn:H a = none) : Un fs ex H (upd H a o) h h' where
  keep:=fun b u q _ _ _=>k b u q
  slot:=fun b u q _ _ _=>⟨u.slots,k b u q⟩
  free:=fun b u q n _=>by rw [je (Nat.ne_of_lt (Nat.lt_of_lt_of_le (Heap.lt_size q) hp))]; exact n
  there:=fun b u q _=>⟨u,k b u q⟩
  tups:=fun b xs q=>by rw [je (jh q hn)]; exact q
  frzs:=fun b u xs q=>by rw [je (jh q hn)]; exact q
  tbls:=fun b ps q=>⟨#[],by rw [je (jh q hn),q]; simp⟩
theorem Un.write (mu:Mut (H x)) (he:e = x ∨ H e = some (.own x)) (k : ∀ b u,b ≠ e → h.get? b = some u → h'.get? b = some u) (heo : ∃ u,h'.get? e = some u) : Un fs ex H (upd H x o) h h':=by
  have hx : ∀ b,H b = none → b ≠ x:=fun b n z=>by subst z; rw [n] at mu; exact mu
  have hb : ∀ b,H b = none → b ≠ e:=fun b n z=>by
    subst z
    rcases he with r | r
    · exact hx b n r
    · rw [n] at r; cases r
  have hm : ∀ b u,H b = some u → ¬ Mut (some u) → b ≠ x:=fun b u q nm z=>by subst z; rw [q] at mu; exact nm mu
  refine ⟨fun b u q n _ _=>k b u (hb b n) q,fun b u q n _ _=>⟨u.slots,k b u (hb b n) q⟩,fun b u q n _=>by rw [je (hx b n)]; exact n,fun b u q _=>?_,
    fun b xs q=>by rw [je (hm b _ q fun z=>z)]; exact q,fun b u xs q=>by rw [je (hm b _ q fun z=>z)]; exact q,fun b ps q=>⟨#[],by rw [je (hm b _ q fun z=>z),q]; simp⟩⟩
  by_cases hbe:b = e
  · subst hbe; exact heo
  · exact ⟨u,k b u hbe q⟩
end
def trk (h:Heap) (H:Hp) : List Addr:=(List.range h.objs.size).filter fun a=>(H a).isSome
def hidT (h:Heap) (H:Hp) : Heap:=PySem.W.hideAll h (trk h H)
theorem hidT_size (h:Heap) (H:Hp) : (hidT h H).objs.size = h.objs.size:=PySem.W.hideAll_size _ _
theorem hidT_get {h:Heap} {H:Hp} {b:Addr} {o:Obj} (e:h.get? b = some o) (n:H b = none) : (hidT h H).get? b = some o:=
  PySem.W.hideAll_get _ e fun hm=>by
    have q:(H b).isSome = true:=(List.mem_filter.mp hm).2
    rw [n] at q; simp at q
theorem of_hidT {h:Heap} {H:Hp} {b:Addr} {o:Obj} (e:(hidT h H).get? b = some o) : h.get? b = some o ∧ H b = none:=by
  have e':h.get? b = some o:=PySem.W.of_hideAll (trk h H) e
  refine ⟨e',?_⟩
  cases q:H b with
  | none=>rfl
  | some x=>
    have hm:b ∈ trk h H:=List.mem_filter.mpr ⟨List.mem_range.mpr (Heap.lt_size e'),by simp [q]⟩
    have z:(hidT h H).get? b = none:=PySem.W.hideAll_none (trk h H) hm
    rw [z] at e; cases e
end L2
namespace L2
open PySem PySem.Spec PyProof.Rows
structure Mod (K:PySem.W.Frag) (mg:Str → Option Value) (base:Heap) : Prop where
  kin:K.In base
  glob:base.Ns mainGlobals mg
  blt : ∃ mb,base.Ns builtinsNs mb ∧ ∀ x:Str,x ≠ "__name__" → mb x = bootBuiltins x
  nolimit:base.NoLimit
structure Cx where
  prog:Program
  w:World
  K:PySem.W.Frag
  mg:Str → Option Value
  base:Heap
  A:Around
  N:List Str
  s₀:Shared
  H₀:Hp
  env:Env
  outer:List Env
  stack:List Env
  ex:List Addr
  fn:Str → Bool
  calm:Bool
  pn:List (Addr × Obj)
  xe:Value → Shared → Prop
def frs (l:List Env) : List Addr:=l.filterMap (·.frame)
abbrev Cx.fs (X:Cx) : List Addr:=frs X.outer
def Vis (sc:Scope) (x:Str) : Prop:=sc.names.lookup x = some .local ∨ sc.names.lookup x = some .cell ∨ sc.names.lookup x = some .free
def Loc (sc:Scope) (x:Str) : Prop:=sc.names.lookup x = some .local ∨ sc.names.lookup x = some .cell
def Look (env:Env) (h:Heap) (m:Str → Option Value) (x:Str) (u:Value) : Prop:=
  (env.kindOf x = some .local ∧ m x = some u) ∨ ((env.kindOf x = some .cell ∨ env.kindOf x = some .free) ∧ ∃ c,env.cells.lookup x = some c ∧ h.IsCell c (some u))
structure Cx.Ok (X:Cx) : Prop where
  mod:Mod X.K X.mg X.base
  kind:X.env.scope.kind = .function
  glob:X.env.globals = mainGlobals
  blt:X.env.builtins = builtinsNs
  above:X.s₀.heap.objs.size ≤ X.env.locals
  inj : ∀ x y c,X.env.cells.lookup x = some c → X.env.cells.lookup y = some c → x = y
  has : ∀ x,(X.env.kindOf x = some .cell ∨ X.env.kindOf x = some .free) → ∃ c,X.env.cells.lookup x = some c
  cab : ∀ x c,X.fn x = true → X.env.cells.lookup x = some c → X.s₀.heap.objs.size ≤ c
  hd:X.calm = true → X.A.handled = none
  frames:X.A.frames = some X.stack
  stk:X.stack = X.outer ∨ (X.stack = X.env :: X.outer ∧ X.env.frame = some X.env.locals)
  exf : ∀ b ∈ X.ex,b ≠ X.env.locals ∧ ∀ x c,X.env.cells.lookup x = some c → c ≠ b
  bs : ∀ b o,X.base.get? b = some o → X.s₀.heap.get? b = some o ∧ X.H₀ b = none
  bsz:X.base.objs.size ≤ X.s₀.heap.objs.size
  noex : ∀ b o,X.base.get? b = some o → b ∉ X.ex
  exfs : ∀ b ∈ X.ex,b ∉ X.fs
  funs:X.s₀.heap.FunFrames X.base X.outer
  frf : ∀ b ∈ X.fs,X.H₀ b = none
structure Inv (X:Cx) (pins:List (Addr × Obj)) (σ : List (Option V)) (H:Hp) (s:Shared) : Prop where
  ok:X.Ok
  os:s.os = X.s₀.os
  bare:AllBare s.gens
  base:Un X.fs X.ex X.H₀ H X.s₀.heap s.heap
  loc : ∃ m,s.heap.Ns X.env.locals m ∧ ∀ (i:Nat) (x:Str) (v:V),X.N[i]? = some x → σ[i]? = some (some v) → Vis X.env.scope x → ∃ u,RelV v u ∧ Look X.env s.heap m x u
  cell : ∀ x c,X.env.cells.lookup x = some c → ∃ v,s.heap.IsCell c v
  free:H X.env.locals = none
  freeC : ∀ x c,X.env.cells.lookup x = some c → H c = none
  pin : ∀ p ∈ X.pn ++ pins,s.heap.get? p.1 = some p.2 ∧ H p.1 = none ∧ p.1 ≠ X.env.locals ∧ p.1 ∉ X.fs ∧ ∀ v,p.2.data ≠ .cell v
  hok:HOk X.prog X.w H s.heap
  len : σ.length = X.N.length
section
variable {X:Cx} {pins:List (Addr × Obj)} {σ : List (Option V)} {H H':Hp} {s:Shared} {h':Heap}
theorem Cx.Ok.nofr (ok:X.Ok) {b:Addr} {o:Obj} (e:X.base.get? b = some o) : b ∉ X.fs:=fun hb=>by
  have:=(ok.funs.mem hb).1
  rw [e] at this; cases this
theorem Inv.bs (I:Inv X pins σ H s) : ∀ b o,X.base.get? b = some o → s.heap.get? b = some o ∧ H b = none:=fun b o e=>
  ⟨I.base.keep b o (I.ok.bs b o e).1 (I.ok.bs b o e).2 (I.ok.nofr e) (I.ok.noex b o e),I.base.free b o (I.ok.bs b o e).1 (I.ok.bs b o e).2 (I.ok.noex b o e)⟩
theorem Inv.bk (I:Inv X pins σ H s) : ∀ b o,X.base.get? b = some o → s.heap.get? b = some o:=fun b o e=>(I.bs b o e).1
theorem Inv.mod (I:Inv X pins σ H s) : Mod X.K X.mg X.base:=I.ok.mod
theorem Inv.kIn (I:Inv X pins σ H s) : X.K.In s.heap:=I.ok.mod.kin.keeps I.bk
theorem Inv.lt (I:Inv X pins σ H s) : X.env.locals < s.heap.objs.size:=let ⟨_,hn,_⟩:=I.loc; hn.lt
theorem Inv.sz (I:Inv X pins σ H s) : X.s₀.heap.objs.size ≤ s.heap.objs.size:=Nat.le_trans I.ok.above (Nat.le_of_lt I.lt)
theorem Inv.nofs (I:Inv X pins σ H s) {a:Addr} (h:s.heap.objs.size ≤ a) : a ∉ X.fs:=fun hb=>by
  obtain ⟨_,o,ho,_⟩:=I.ok.funs.mem hb
  exact absurd (Nat.lt_of_lt_of_le (Heap.lt_size ho) (Nat.le_trans I.sz h)) (Nat.lt_irrefl _)
theorem Inv.cne (I:Inv X pins σ H s) : ∀ x c,X.env.cells.lookup x = some c → c ≠ X.env.locals:=fun x c e z=>by
  obtain ⟨v,o,ho,hd⟩:=I.cell x c e
  obtain ⟨m,⟨o',es,ep,ho',hd',_⟩,_⟩:=I.loc
  rw [z,ho'] at ho; cases ho; rw [hd'] at hd; cases hd
theorem Inv.funs (I:Inv X pins σ H s) : s.heap.FunFrames X.base X.outer:=by
  have all : ∀ (l:List Env),(∀ b ∈ frs l,b ∈ X.fs) → X.s₀.heap.FunFrames X.base l → s.heap.FunFrames X.base l:=by
    intro l
    induction l with
    | nil=>intro _ _; trivial
    | cons env r ih=>
      intro hs hl
      obtain ⟨hk,⟨L,o,hf,hn,ho,hd⟩,hr⟩:=hl
      have hL:L ∈ X.fs:=hs L (by unfold frs; rw [List.filterMap_cons,hf]; exact List.mem_cons_self)
      obtain ⟨sl,e⟩:=I.base.slot L o ho (I.ok.frf L hL) hL fun z=>I.ok.exfs L z hL
      exact ⟨hk,⟨L,_,hf,hn,e,hd⟩,ih (fun b hb=>hs b (by unfold frs; rw [List.filterMap_cons,hf]; exact List.mem_cons_of_mem _ hb)) hr⟩
  exact all X.outer (fun _ hb=>hb) I.ok.funs
theorem Inv.stack (I:Inv X pins σ H s) : s.heap.FunFrames X.base X.stack:=by
  rcases I.ok.stk with e | ⟨e,hf⟩
  · rw [e]; exact I.funs
  · rw [e]
    obtain ⟨m,hn,_⟩:=I.loc
    refine .cons (by rw [I.ok.kind]; decide) hf hn ?_ I.funs
    exact Heap.get?_none_of_le (Nat.le_trans I.ok.bsz I.ok.above)
theorem Inv.stkSub (I:Inv X pins σ H s) : ∀ b ∈ frs X.stack,b ∈ X.env.locals :: X.fs:=fun b hb=>by
  rcases I.ok.stk with e | ⟨e,hf⟩
  · rw [e] at hb; exact List.mem_cons_of_mem _ hb
  · rw [e] at hb
    unfold frs at hb
    rw [List.filterMap_cons,hf] at hb
    exact hb
theorem Inv.stkFree (I:Inv X pins σ H s) : ∀ b ∈ frs X.stack,H b = none:=fun b hb=>by
  rcases List.mem_cons.mp (I.stkSub b hb) with e | hb
  · rw [e]; exact I.free
  · obtain ⟨_,o,ho,_⟩:=I.ok.funs.mem hb
    exact I.base.free b o ho (I.ok.frf b hb) fun z=>I.ok.exfs b z hb
theorem Inv.step {g':Array GenState} {t':Nat} {d':Drawn} {ch:List Addr} (I:Inv X pins σ H s)
    (hch : ∀ b ∈ ch,(b ∈ X.ex ∨ X.s₀.heap.objs.size ≤ b) ∧ b ≠ X.env.locals ∧ (∀ x c,X.env.cells.lookup x = some c → c ≠ b) ∧ ∀ p ∈ X.pn ++ pins,p.1 ≠ b)
    (keep : ∀ b o,b ≠ X.env.locals → b ∉ X.fs → b ∉ ch → s.heap.get? b = some o → H b = none → h'.get? b = some o)
    (slot : ∀ b o,b ≠ X.env.locals → b ∈ X.fs → b ∉ ch → s.heap.get? b = some o → H b = none → ∃ sl,h'.get? b = some { o with slots:=sl }) (free : ∀ b o,b ∉ ch → s.heap.get? b = some o → H b = none → H' b = none)
    (there : ∀ b o,b ∉ ch → s.heap.get? b = some o → ∃ o',h'.get? b = some o')
    (tups : ∀ b xs,H b = some (.tup xs) → H' b = some (.tup xs)) (frzs : ∀ b o u,H b = some (.frz o u) → H' b = some (.frz o u)) (tbls : ∀ b ps,H b = some (.tbl ps) → ∃ more,H' b = some (.tbl (ps ++ more)))
    (ns : ∀ m,s.heap.Ns X.env.locals m → h'.Ns X.env.locals m) (hok:HOk X.prog X.w H' h') (hg:AllBare g') :
    Inv X pins σ H' { s with heap:=h',gens:=g',drawn:=d',toks:=t' }:=by
  have neL : ∀ b o,X.s₀.heap.get? b = some o → b ≠ X.env.locals:=fun b o e=>Nat.ne_of_lt (Nat.lt_of_lt_of_le (Heap.lt_size e) I.ok.above)
  have neC : ∀ b o,X.s₀.heap.get? b = some o → b ∉ X.ex → b ∉ ch:=fun b o e hx hb=>by
    rcases (hch b hb).1 with z | z
    · exact hx z
    · exact absurd (Nat.lt_of_lt_of_le (Heap.lt_size e) z) (Nat.lt_irrefl _)
  have cellK : ∀ x c,X.env.cells.lookup x = some c → ∀ v,s.heap.IsCell c v → h'.IsCell c v:=fun x c e v ⟨o,ho,hd⟩=>by
    have nch:c ∉ ch:=fun z=>(hch c z).2.2.1 x c e rfl
    by_cases hc:c ∈ X.fs
    · obtain ⟨sl,q⟩:=slot c o (I.cne x c e) hc nch ho (I.freeC x c e)
      exact ⟨_,q,hd⟩
    · exact ⟨o,keep c o (I.cne x c e) hc nch ho (I.freeC x c e),hd⟩
  refine ⟨I.ok,I.os,hg,⟨fun b o e n hb hx=>?_,fun b o e n hb hx=>?_,fun b o e n hx=>?_,fun b o e hx=>?_,fun b xs e=>tups b xs (I.base.tups b xs e),fun b o xs e=>frzs b o xs (I.base.frzs b o xs e),fun b ps e=>?_⟩,?_,fun x c e=>?_,?_,fun x c e=>?_,fun p hp=>?_,hok,I.len⟩
  · exact keep b o (neL b o e) hb (neC b o e hx) (I.base.keep b o e n hb hx) (I.base.free b o e n hx)
  · obtain ⟨sl,e1⟩:=I.base.slot b o e n hb hx
    obtain ⟨sl',e2⟩:=slot b _ (neL b o e) hb (neC b o e hx) e1 (I.base.free b o e n hx)
    exact ⟨sl',e2⟩
  · obtain ⟨o',e1⟩:=I.base.there b o e hx
    exact free b o' (neC b o e hx) e1 (I.base.free b o e n hx)
  · obtain ⟨o',e1⟩:=I.base.there b o e hx
    exact there b o' (neC b o e hx) e1
  · obtain ⟨m1,e1⟩:=I.base.tbls b ps e
    obtain ⟨m2,e2⟩:=tbls b _ e1
    exact ⟨m1 ++ m2,by rw [e2,Array.append_assoc]⟩
  · obtain ⟨m,hn,hl⟩:=I.loc
    refine ⟨m,ns m hn,fun i x v e1 e2 e3=>?_⟩
    obtain ⟨u,r,l⟩:=hl i x v e1 e2 e3
    refine ⟨u,r,?_⟩
    rcases l with l | ⟨k,c,e,z⟩
    · exact .inl l
    · exact .inr ⟨k,c,e,cellK x c e _ z⟩
  · obtain ⟨v,z⟩:=I.cell x c e
    exact ⟨v,cellK x c e v z⟩
  · obtain ⟨m,⟨o,_,_,ho,_⟩,_⟩:=I.loc
    exact free _ o (fun z=>(hch _ z).2.1 rfl) ho I.free
  · obtain ⟨v,o,ho,hd⟩:=I.cell x c e
    exact free c o (fun z=>(hch c z).2.2.1 x c e rfl) ho (I.freeC x c e)
  · obtain ⟨e,n,ne,nf,d⟩:=I.pin p hp
    have nch:p.1 ∉ ch:=fun z=>(hch p.1 z).2.2.2 p hp rfl
    exact ⟨keep p.1 p.2 ne nf nch e n,free p.1 p.2 nch e n,ne,nf,d⟩
theorem Inv.un {t':Nat} (I:Inv X pins σ H s) (u:Un X.fs [] H H' s.heap h') (hok:HOk X.prog X.w H' h') : Inv X pins σ H' { s with heap:=h',toks:=t' }:=by
  obtain ⟨m,⟨o,es,ep,ho,r⟩,_⟩:=id I.loc
  obtain ⟨sl,hL⟩:=u.any ho I.free (by simp)
  exact I.step (g':=s.gens) (d':=s.drawn) (ch:=[]) (fun _ z=>nomatch z) (fun b o _ hb _ e n=>u.keep b o e n hb (by simp)) (fun b o _ hb _ e n=>u.slot b o e n hb (by simp)) (fun b o _ e n=>u.free b o e n (by simp)) (fun b o _ e=>u.there b o e (by simp)) u.tups u.frzs u.tbls (fun m' hm=>by
    obtain ⟨o',es',ep',ho',r'⟩:=hm
    rw [ho] at ho'; cases ho'
    exact ⟨_,es',ep',hL,r'⟩) hok I.bare
theorem Inv.call {g':Array GenState} {t':Nat} {d':Drawn} {ch:List Addr} (I:Inv X pins σ H s) (u:Un (frs X.stack) ch H H' s.heap h') (hok:HOk X.prog X.w H' h') (hg:AllBare g')
    (hch : ∀ b ∈ ch,(b ∈ X.ex ∨ X.s₀.heap.objs.size ≤ b) ∧ b ≠ X.env.locals ∧ (∀ x c,X.env.cells.lookup x = some c → c ≠ b) ∧ ∀ p ∈ X.pn ++ pins,p.1 ≠ b) :
    Inv X pins σ H' { s with heap:=h',gens:=g',drawn:=d',toks:=t' }:=by
  obtain ⟨m,⟨o,es,ep,ho,r⟩,_⟩:=id I.loc
  obtain ⟨sl,hL⟩:=u.any ho I.free fun z=>(hch _ z).2.1 rfl
  exact I.step (ch:=ch) hch (fun b o hL hb hc e n=>u.keep b o e n (fun z=>(List.mem_cons.mp (I.stkSub b z)).elim hL hb) hc) (fun b o _ _ hc e n=>u.any e n hc) (fun b o hc e n=>u.free b o e n hc) (fun b o hc e=>u.there b o e hc) u.tups u.frzs u.tbls (fun m' hm=>by
    obtain ⟨o',es',ep',ho',r'⟩:=hm
    rw [ho] at ho'; cases ho'
    exact ⟨_,es',ep',hL,r'⟩) hok hg
theorem Inv.turned {t':Nat} {it:Addr} (I:Inv X pins σ H s) (k : ∀ b o,b ≠ it → s.heap.get? b = some o → h'.get? b = some o) (hn:H it = none) (hL:it ≠ X.env.locals)
    (h1:it ∈ X.ex ∨ X.s₀.heap.objs.size ≤ it) (h2 : ∀ x c,X.env.cells.lookup x = some c → c ≠ it) (h3 : ∀ p ∈ X.pn ++ pins,p.1 ≠ it) : Inv X pins σ H { s with heap:=h',toks:=t' }:=by
  have nit : ∀ b u,H b = some u → b ≠ it:=fun b u e z=>by rw [z,hn] at e; cases e
  refine I.step (g':=s.gens) (d':=s.drawn) (ch:=[it]) (fun b hb=>?_) (fun b o _ _ hc e _=>k b o (fun z=>hc (by simp [z])) e) (fun b o _ _ hc e _=>⟨o.slots,k b o (fun z=>hc (by simp [z])) e⟩) (fun _ _ _ _ n=>n)
    (fun b o hc e=>⟨o,k b o (fun z=>hc (by simp [z])) e⟩) (fun _ _ e=>e) (fun _ _ _ e=>e) (fun b ps e=>⟨#[],by rw [e]; simp⟩) (fun m hm=>?_) (fun b u e=>?_) I.bare
  · have e:b = it:=by simpa using hb
    subst e
    exact ⟨h1,hL,h2,h3⟩
  · obtain ⟨o,es,ep,ho,r⟩:=hm
    exact ⟨o,es,ep,k _ o (Ne.symm hL) ho,r⟩
  · refine (I.hok b u e).stay (fun c v hc q=>k c v ?_ q) (fun _ q=>q) fun _ _ q=>q
    rcases hc with z | z
    · rw [z]; exact nit b u e
    · exact nit c _ z
theorem Inv.tok (I:Inv X pins σ H s) (t:Nat) : Inv X pins σ H { s with toks:=t }:=I.un (h':=s.heap) (t':=t) Un.refl I.hok
theorem Inv.kept {t':Nat} (I:Inv X pins σ H s) (k : ∀ b u,s.heap.get? b = some u → h'.get? b = some u) : Inv X pins σ H { s with heap:=h',toks:=t' }:=I.un (Un.kept k) (I.hok.kept k)
theorem Inv.laid {a:Addr} {o:HO} {t':Nat} (I:Inv X pins σ H s) (k : ∀ b u,s.heap.get? b = some u → h'.get? b = some u) (hp:s.heap.objs.size ≤ a) (new:ObjOk X.prog X.w (upd H a o) h' a o) :
    Inv X pins σ (upd H a o) { s with heap:=h',toks:=t' }:=I.un (Un.laid k hp (I.hok.fresh hp)) (I.hok.laid k hp new)
theorem Inv.write {x e:Addr} {o:HO} {t':Nat} (I:Inv X pins σ H s) (mu:Mut (H x)) (he:e = x ∨ H e = some (.own x)) (k : ∀ b u,b ≠ e → s.heap.get? b = some u → h'.get? b = some u) (heo : ∃ u,h'.get? e = some u)
    (new:ObjOk X.prog X.w (upd H x o) h' x o) : Inv X pins σ (upd H x o) { s with heap:=h',toks:=t' }:=I.un (Un.write mu he k heo) (I.hok.write mu he k heo new)
theorem Inv.pins_of {pins':List (Addr × Obj)} (I:Inv X pins σ H s) (h : ∀ p ∈ pins',s.heap.get? p.1 = some p.2 ∧ H p.1 = none ∧ p.1 ≠ X.env.locals ∧ p.1 ∉ X.fs ∧ ∀ v,p.2.data ≠ .cell v) : Inv X pins' σ H s:=
  ⟨I.ok,I.os,I.bare,I.base,I.loc,I.cell,I.free,I.freeC,fun p hp=>(List.mem_append.mp hp).elim (fun z=>I.pin p (List.mem_append_left _ z)) (h p),I.hok,I.len⟩
theorem nodup_ix {N:List Str} (hN:N.Nodup) {i j:Nat} {x:Str} (a:N[i]? = some x) (b:N[j]? = some x) : i = j:=by
  obtain ⟨h1,e1⟩:=List.getElem?_eq_some_iff.mp a
  obtain ⟨h2,e2⟩:=List.getElem?_eq_some_iff.mp b
  exact (List.getElem_inj hN).mp (e1.trans e2.symm)
theorem store_ok2 {M:Model} {A:Around} {E:Value → Shared → Prop} {i:Nat} {x:Str} {v:V} {u:Value} {Q:Unit → Shared → Prop} (I:Inv X pins σ H s) (hN:X.N.Nodup) (hi:X.N[i]? = some x) (hx:Loc X.env.scope x) (r:RelV v u)
    (h : ∀ s',Inv X pins (σ.set i (some v)) H s' → (∃ a,Heap.SameBut a s.heap s'.heap ∧ (a = X.env.locals ∨ X.env.cells.lookup x = some a)) → Q () s') (hf:X.fn x = true ∨ X.env.scope.names.lookup x = some .local:=by first | exact .inl rfl | exact .inr rfl | assumption) : wpAny M A (storeName X.env x u) Q E s:=by
  obtain ⟨m,hn,hl⟩:=id I.loc
  have hcls:(X.env.scope.kind == .class || (X.env.scope.kind == .module && X.env.locals != X.env.globals)) = false:=by rw [I.ok.kind]; rfl
  have hiσ : i < σ.length:=by rw [I.len]; exact (List.getElem?_eq_some_iff.mp hi).1
  have cne:=I.cne
  have tracked : ∀ {a:Addr} {h':Heap},(∃ o,s.heap.get? a = some o ∧ H a = none) → Heap.SameBut a s.heap h' → HOk X.prog X.w H h':=fun {a h'} ha hs b ob e=>by
    obtain ⟨_,_,hfree⟩:=ha
    refine (I.hok b ob e).stay (fun c w' hc q=>(hs.2 c ?_).trans q) (fun _ q=>q) fun _ _ q=>q
    rintro rfl
    rcases hc with rfl | hc
    · rw [hfree] at e; cases e
    · rw [hfree] at hc; cases hc
  rcases hx with hk | hk
  · refine wpAny_storeName_local hk hn (fun h' hn' hs=>?_) hcls
    obtain ⟨oL,_,_,hoL,_⟩:=id hn
    refine h _ ⟨I.ok,I.os,I.bare,⟨fun b o e n hb hx=>?_,fun b o e n hb hx=>?_,I.base.free,fun b o e hx=>?_,I.base.tups,I.base.frzs,I.base.tbls⟩,⟨_,hn',fun j y v' e1 e2 e3=>?_⟩,fun y c e=>?_,I.free,I.freeC,fun p hp=>?_,tracked ⟨oL,hoL,I.free⟩ hs,by simpa using I.len⟩ ⟨_,hs,.inl rfl⟩
    · exact (hs.2 b (Nat.ne_of_lt (Nat.lt_of_lt_of_le (Heap.lt_size e) I.ok.above))).trans (I.base.keep b o e n hb hx)
    · obtain ⟨sl,e1⟩:=I.base.slot b o e n hb hx
      exact ⟨sl,(hs.2 b (Nat.ne_of_lt (Nat.lt_of_lt_of_le (Heap.lt_size e) I.ok.above))).trans e1⟩
    · obtain ⟨o',e1⟩:=I.base.there b o e hx
      exact ⟨o',(hs.2 b (Nat.ne_of_lt (Nat.lt_of_lt_of_le (Heap.lt_size e) I.ok.above))).trans e1⟩
    · by_cases hj:j = i
      · subst hj
        rw [hi] at e1; cases e1
        rw [List.getElem?_set_self hiσ] at e2
        cases e2
        exact ⟨u,r,.inl ⟨hk,by simp⟩⟩
      · rw [List.getElem?_set_ne (Ne.symm hj)] at e2
        obtain ⟨u',r',q⟩:=hl j y v' e1 e2 e3
        refine ⟨u',r',?_⟩
        rcases q with ⟨k,e⟩ | ⟨k,c,e,z⟩
        · refine .inl ⟨k,?_⟩
          have:y ≠ x:=fun e=>hj (nodup_ix hN e1 (e ▸ hi))
          simp [this,e]
        · exact .inr ⟨k,c,e,z.sameBut hs (cne y c e)⟩
    · obtain ⟨w',z⟩:=I.cell y c e
      exact ⟨w',z.sameBut hs (cne y c e)⟩
    · obtain ⟨e,n,ne,nf,d⟩:=I.pin p hp
      exact ⟨(hs.2 p.1 ne).trans e,n,ne,nf,d⟩
  · have hfn:X.fn x = true:=by
      rcases hf with z | z
      · exact z
      · rw [z] at hk; cases hk
    obtain ⟨c,hc⟩:=I.ok.has x (.inl hk)
    obtain ⟨w',z⟩:=I.cell x c hc
    refine wpAny_storeName_cell I.ok.kind hk hc z (fun h' hc' hs=>?_)
    obtain ⟨oc,hoc,hocd⟩:=id z
    refine h { s with heap:=h' } ⟨I.ok,I.os,I.bare,⟨fun b o e n hb hx=>?_,fun b o e n hb hx=>?_,I.base.free,fun b o e hx=>?_,I.base.tups,I.base.frzs,I.base.tbls⟩,⟨m,hn.sameBut hs (Ne.symm (cne x c hc)),fun j y v' e1 e2 e3=>?_⟩,fun y c' e=>?_,I.free,I.freeC,fun p hp=>?_,tracked ⟨oc,hoc,I.freeC x c hc⟩ hs,by simpa using I.len⟩ ⟨c,hs,.inr hc⟩
    · exact (hs.2 b (Nat.ne_of_lt (Nat.lt_of_lt_of_le (Heap.lt_size e) (I.ok.cab x c hfn hc)))).trans (I.base.keep b o e n hb hx)
    · obtain ⟨sl,e1⟩:=I.base.slot b o e n hb hx
      exact ⟨sl,(hs.2 b (Nat.ne_of_lt (Nat.lt_of_lt_of_le (Heap.lt_size e) (I.ok.cab x c hfn hc)))).trans e1⟩
    · obtain ⟨o',e1⟩:=I.base.there b o e hx
      exact ⟨o',(hs.2 b (Nat.ne_of_lt (Nat.lt_of_lt_of_le (Heap.lt_size e) (I.ok.cab x c hfn hc)))).trans e1⟩
    · by_cases hj:j = i
      · subst hj
        rw [hi] at e1; cases e1
        rw [List.getElem?_set_self hiσ] at e2
        cases e2
        exact ⟨u,r,.inr ⟨.inl hk,c,hc,hc'⟩⟩
      · rw [List.getElem?_set_ne (Ne.symm hj)] at e2
        obtain ⟨u',r',q⟩:=hl j y v' e1 e2 e3
        refine ⟨u',r',?_⟩
        rcases q with q | ⟨k,c',e,z'⟩
        · exact .inl q
        · refine .inr ⟨k,c',e,z'.sameBut hs ?_⟩
          rintro rfl
          exact hj (nodup_ix hN e1 (I.ok.inj _ _ _ e hc ▸ hi))
    · by_cases hcc:c' = c
      · subst hcc; exact ⟨_,hc'⟩
      · obtain ⟨w2,z2⟩:=I.cell y c' e
        exact ⟨w2,z2.sameBut hs hcc⟩
    · obtain ⟨e,n,ne,nf,d⟩:=I.pin p hp
      refine ⟨(hs.2 p.1 ?_).trans e,n,ne,nf,d⟩
      intro q
      rw [q,hoc] at e
      have q':oc = p.2:=Option.some.inj e
      exact d w' (by rw [← q']; exact hocd)
theorem store_ok {M:Model} {A:Around} {E:Value → Shared → Prop} {i:Nat} {x:Str} {v:V} {u:Value} {Q:Unit → Shared → Prop} (I:Inv X pins σ H s) (hN:X.N.Nodup) (hi:X.N[i]? = some x) (hx:Loc X.env.scope x) (r:RelV v u)
    (h : ∀ s',Inv X pins (σ.set i (some v)) H s' → Q () s') (hf:X.fn x = true ∨ X.env.scope.names.lookup x = some .local:=by first | exact .inl rfl | exact .inr rfl | assumption) : wpAny M A (storeName X.env x u) Q E s:=
  store_ok2 I hN hi hx r (fun s' I' _=>h s' I') hf
theorem Inv.call' {s':Shared} {ch:List Addr} (I:Inv X pins σ H s) (ho:s'.os = s.os) (u:Un (frs X.stack) ch H H' s.heap s'.heap) (hok:HOk X.prog X.w H' s'.heap) (hg:AllBare s'.gens)
    (hch : ∀ b ∈ ch,(b ∈ X.ex ∨ X.s₀.heap.objs.size ≤ b) ∧ b ≠ X.env.locals ∧ (∀ x c,X.env.cells.lookup x = some c → c ≠ b) ∧ ∀ p ∈ X.pn ++ pins,p.1 ≠ b) : Inv X pins σ H' s':=by
  obtain ⟨h',g',d',t',o'⟩:=s'
  have e:o' = s.os:=ho
  subst e
  exact I.call (g':=g') (t':=t') (d':=d') u hok hg hch
end
abbrev XK:=Value → Option Addr → Hp → Prop
abbrev St:=List (Option V)
abbrev VK:=V → Hp → Prop
abbrev TE:=St → Hp → VK → Prop
abbrev TT:=St → Hp → (Bool → Hp → Prop) → Prop
abbrev TA:=St → Hp → (List V → Hp → Prop) → Prop
structure Ends where
  nx:St → Hp → Prop
  rt:VK
  bk:St → Hp → Prop:=fun _ _=>False
  ct:St → Hp → Prop:=fun _ _=>False
abbrev TS:=Ends → St → Hp → Prop
def EP (X:Cx) (pins:List (Addr × Obj)) (σ : St) (Q:VK) (u:Value) (s':Shared) : Prop:=∃ v H',Inv X pins σ H' s' ∧ RelV v u ∧ Q v H'
def TP (X:Cx) (pins:List (Addr × Obj)) (σ : St) (Q:Bool → Hp → Prop) (b:Bool) (s':Shared) : Prop:=∃ H',Inv X pins σ H' s' ∧ Q b H'
def AP (X:Cx) (pins:List (Addr × Obj)) (σ : St) (Q:List V → Hp → Prop) (us:List Value) (s':Shared) : Prop:=∃ vs H',Inv X pins σ H' s' ∧ Vals vs us ∧ Q vs H'
def SP (X:Cx) (pins:List (Addr × Obj)) (D:Ends) (f:Flow) (s':Shared) : Prop:=
  match f with
  | .next=>∃ σ' H',Inv X pins σ' H' s' ∧ D.nx σ' H'
  | .brk=>∃ σ' H',Inv X pins σ' H' s' ∧ D.bk σ' H'
  | .cont=>∃ σ' H',Inv X pins σ' H' s' ∧ D.ct σ' H'
  | .ret u=>∃ v σ' H',Inv X pins σ' H' s' ∧ RelV v u ∧ D.rt v H'
def PE (X:Cx) (e:Expr) (t:TE) : Prop:=
  ∀ (pins:List (Addr × Obj)) (s:Shared) (σ : St) (H:Hp) (Q:VK),Inv X pins σ H s → t σ H Q → wpAny (model X.prog X.w) X.A (eval e X.env) (EP X pins σ Q) X.xe s
def PT (X:Cx) (e:Expr) (t:TT) : Prop:=
  ∀ (pins:List (Addr × Obj)) (s:Shared) (σ : St) (H:Hp) (Q:Bool → Hp → Prop),Inv X pins σ H s → t σ H Q → wpAny (model X.prog X.w) X.A (isTrue e X.env (eval e X.env)) (TP X pins σ Q) X.xe s
def PW (X:Cx) (e:Expr) (t:TT) : Prop:=
  ∀ (whole:Sem Value) (pins:List (Addr × Obj)) (s:Shared) (σ : St) (H:Hp) (Q:Bool → Hp → Prop),Inv X pins σ H s → t σ H Q → wpAny (model X.prog X.w) X.A (isTrue e X.env whole) (TP X pins σ Q) X.xe s
theorem PW.pt {X:Cx} {e:Expr} {t:TT} (h:PW X e t) : PT X e t:=h _
def PA (X:Cx) (es:List Expr) (t:TA) : Prop:=
  ∀ (pos:Pos) (pins:List (Addr × Obj)) (s:Shared) (σ : St) (H:Hp) (Q:List V → Hp → Prop),Inv X pins σ H s → t σ H Q → wpAny (model X.prog X.w) X.A (spliced (backTo pos (starEach es X.env))) (AP X pins σ Q) X.xe s
def PS (X:Cx) (st:Stmt) (t:TS) : Prop:=
  ∀ (pins:List (Addr × Obj)) (s:Shared) (σ : St) (H:Hp) (D:Ends),Inv X pins σ H s → t D σ H → wpAny (model X.prog X.w) X.A (exec st X.env) (SP X pins D) X.xe s
def PSs (X:Cx) (st:List Stmt) (t:TS) : Prop:=
  ∀ (pins:List (Addr × Obj)) (s:Shared) (σ : St) (H:Hp) (D:Ends),Inv X pins σ H s → t D σ H → wpAny (model X.prog X.w) X.A (execs st X.env) (SP X pins D) X.xe s
theorem thn {α : Type} {t:Sem α} {Q Q' : α → Shared → Prop} {M:Model} {A:Around} {E:Value → Shared → Prop} {s:Shared} (h:wpAny M A t Q E s) (hQ : ∀ a s,Q a s → Q' a s) : wpAny M A t Q' E s:=wpAny_mono h hQ fun _ _ x=>x
end L2
namespace L2
open PySem PySem.Spec PyProof.Rows
section
variable {X:Cx}
theorem bin {a b:Expr} {ta tb:TE} (ha:PE X a ta) (hb:PE X b tb) {pins:List (Addr × Obj)} {s:Shared} {σ : St} {H:Hp} {R:V → V → Hp → Prop} (I:Inv X pins σ H s) (h:ta σ H fun x H1=>tb σ H1 fun y H2=>R x y H2)
    {α : Type} {Q : α → Shared → Prop} {f:Value → Value → Sem α}
    (hf : ∀ v u s2 x y H2,Inv X pins σ H2 s2 → RelV x v → RelV y u → R x y H2 → wpAny (model X.prog X.w) X.A (f v u) Q X.xe s2) :
    wpAny (model X.prog X.w) X.A (eval a X.env) (fun v s₁=>wpAny (model X.prog X.w) X.A (eval b X.env) (fun u s₂=>wpAny (model X.prog X.w) X.A (f v u) Q X.xe s₂) X.xe s₁) X.xe s:=by
  refine thn (ha pins s σ H _ I h) fun v s1 ⟨x,H1,I1,r1,q1⟩=>?_
  refine thn (hb pins s1 σ H1 _ I1 q1) fun u s2 ⟨y,H2,I2,r2,q2⟩=>?_
  exact hf v u s2 x y H2 I2 r1 r2 q2
def tVar (i:Nat) : TE:=fun σ H Q=>∃ v,σ[i]? = some (some v) ∧ Q v H
def tC (v:V) : TE:=fun _ H Q=>Q v H
theorem pe_var {i:Nat} {x:Str} {pos:Pos} (hN:X.N[i]? = some x) (hv:Vis X.env.scope x) (hd:(x == ("__debug__" : Str)) = false:=by decide) (hcd:(x == ("__classdict__" : Str)) = false:=by decide) : PE X (.Name x pos) (tVar i):=by
  intro pins s σ H Q I h
  obtain ⟨v,e,h⟩:=h
  obtain ⟨m,hn,hl⟩:=I.loc
  obtain ⟨u,r,l⟩:=hl i x v hN e hv
  have fin:EP X pins σ Q u s:=⟨v,H,I,r,h⟩
  rcases l with ⟨hk,hm⟩ | ⟨hk,c,hc,hcell⟩
  · exact wpAny_Name (wpAny_loadName_local I.ok.kind hk hn hm fin) hd
  · rcases hk with hk | hk
    · exact wpAny_Name (wpAny_loadName_cell I.ok.kind hk hc hcell fin) hd
    · exact wpAny_Name (wpAny_loadName_free I.ok.kind hk hc hcell fin hcd) hd
theorem jj {i j pos} : PE X (.Constant (.int i) j pos) (tC (.int i)):=fun _ _ _ H _ I h=>wpAny_Constant_int ⟨.int i,H,I.tok _,⟨_,rfl⟩,h⟩
theorem pe_bl {b j pos} : PE X (.Constant (.bool b) j pos) (tC (.bl b)):=fun _ _ _ H _ I h=>Constant_bool ⟨.bl b,H,I,rfl,h⟩
theorem pe_non {j pos} : PE X (.Constant .none j pos) (tC .non):=fun _ _ _ H _ I h=>Constant_none ⟨.non,H,I,rfl,h⟩
theorem pe_str {x j pos} : PE X (.Constant (.str x) j pos) (tC (.str x)):=fun _ _ _ H _ I h=>Calls.Constant_str ⟨.str x,H,I.tok _,⟨_,rfl⟩,h⟩
def Gl (X:Cx) (x:Str) : Prop:=X.env.kindOf x = some .globalImplicit
theorem ld_glob {E:Value → Shared → Prop} {pins:List (Addr × Obj)} {s:Shared} {σ : St} {H:Hp} {x:Str} {u:Value} {pos:Pos} {Q:Value → Shared → Prop} (I:Inv X pins σ H s) (hg:Gl X x) (hm:X.mg x = some u) (h:Q u s)
    (hd:(x == ("__debug__" : Str)) = false:=by decide) : wpAny (model X.prog X.w) X.A (eval (.Name x pos) X.env) Q E s:=
  Calls.Name_function_global I.ok.kind hg (Calls.loadGlobal_global (by rw [I.ok.glob]; exact I.mod.glob.keeps I.bk) hm h) hd
theorem ld_blt {E:Value → Shared → Prop} {pins:List (Addr × Obj)} {s:Shared} {σ : St} {H:Hp} {x:Str} {u:Value} {pos:Pos} {Q:Value → Shared → Prop} (I:Inv X pins σ H s) (hg:Gl X x) (hm:X.mg x = none) (hv:bootBuiltins x = some u) (h:Q u s)
    (hn:x ≠ "__name__" := by decide) (hd:(x == ("__debug__" : Str)) = false:=by decide) : wpAny (model X.prog X.w) X.A (eval (.Name x pos) X.env) Q E s:=by
  obtain ⟨mb,h1,h2⟩:=I.mod.blt
  exact Calls.Name_function_global I.ok.kind hg (Calls.loadGlobal_builtin (by rw [I.ok.glob]; exact I.mod.glob.keeps I.bk) hm (by rw [I.ok.blt]; exact h1.keeps I.bk) ((h2 x hn).trans hv) h) hd
theorem zq {x:Str} {v:V} {u:Value} {pos:Pos} (hg:Gl X x) (hm:X.mg x = some u) (r:RelV v u) (hd:(x == ("__debug__" : Str)) = false:=by decide) : PE X (.Name x pos) (tC v):=
  fun _ _ _ H _ I h=>ld_glob I hg hm ⟨v,H,I,r,h⟩ hd
theorem pe_bltn {x:Str} {v:V} {u:Value} {pos:Pos} (hg:Gl X x) (hm:X.mg x = none) (hv:bootBuiltins x = some u) (r:RelV v u) (hn:x ≠ "__name__" := by decide) (hd:(x == ("__debug__" : Str)) = false:=by decide) : PE X (.Name x pos) (tC v):=
  fun _ _ _ H _ I h=>ld_blt I hg hm hv ⟨v,H,I,r,h⟩ hn hd
variable {a b:Expr} {ta tb:TE} {pos:Pos}
def PC (X:Cx) (op:CmpOp) (a b:Expr) (t:TE) : Prop:=
  ∀ (pins:List (Addr × Obj)) (s:Shared) (σ : St) (H:Hp) (Q:VK),Inv X pins σ H s → t σ H Q →
    wpAny (model X.prog X.w) X.A (eval a X.env) (fun v s₁=>wpAny (model X.prog X.w) X.A (eval b X.env) (fun u s₂=>wpAny (model X.prog X.w) X.A (compareOp op v u) (EP X pins σ Q) X.xe s₂) X.xe s₁) X.xe s
def tB (t:TE) : TT:=fun σ H Q=>t σ H fun x H1=>∃ c,x = .bl c ∧ Q c H1
theorem pt_cmp {op:CmpOp} {t:TE} (h:PC X op a b t) (h1:behindInMarks op b = false:=by first | exact nobehind _ (by decide) (by decide) | rfl) : PT X (.Compare a [op] [b] pos) (tB t):=by
  intro pins s σ H Q I hw
  refine wpAny_isTrue_Compare1 (thn (h pins s σ H _ I hw) fun v s1 h1=>thn h1 fun u s2 h2=>thn h2 fun c s3 ⟨x,H1,I1,r1,q1⟩=>?_) h1
  obtain ⟨d,rfl,q⟩:=q1
  cases r1
  exact wpAny_truthy_bool ⟨H1,I1,q⟩
theorem xu {e:Expr} {t:TE} (h:PE X e t) (he : ∀ whole,isTrue e X.env whole = (do let v ← whole; standAt e.pos; holding [v] (truthy v)):=by intro _; rfl) : PT X e (tB t):=by
  intro pins s σ H Q I hw
  refine isTrue_plain (thn (h pins s σ H _ I hw) fun v s1 ⟨x,H1,I1,r1,q1⟩=>?_) (he _)
  obtain ⟨d,rfl,q⟩:=q1
  cases r1
  exact wpAny_truthy_bool ⟨H1,I1,q⟩
variable {tA tB':TT} {rest:List Expr}
def tAnd (t u:TT) : TT:=fun σ H Q=>t σ H fun c H1=>if c = true then u σ H1 Q else Q false H1
def tOr (t u:TT) : TT:=fun σ H Q=>t σ H fun c H1=>if c = true then Q true H1 else u σ H1 Q
def tNot (t:TT) : TT:=fun σ H Q=>t σ H fun c H1=>Q (!c) H1
theorem pw_and1 (ha:PT X a tA) : PW X (.BoolOp .And [a] pos) tA:=by
  intro wh pins s σ H Q I h
  refine isTrue_and (thn (ha pins s σ H Q I h) fun c s1 e=>?_)
  cases c with
  | true=>exact isTrue_and_nil e
  | false=>exact e
theorem pw_or1 (ha:PT X a tA) : PW X (.BoolOp .Or [a] pos) tA:=by
  intro wh pins s σ H Q I h
  refine isTrue_or (thn (ha pins s σ H Q I h) fun c s1 e=>?_)
  cases c with
  | false=>exact isTrue_or_nil e
  | true=>exact e
theorem pw_and (ha:PT X a tA) (hb:PW X (.BoolOp .And (b :: rest) pos) tB') : PW X (.BoolOp .And (a :: b :: rest) pos) (tAnd tA tB'):=by
  intro wh pins s σ H Q I h
  refine isTrue_and (thn (ha pins s σ H _ I h) fun c s1 ⟨H1,I1,q1⟩=>?_)
  cases c with
  | true=>exact hb wh pins s1 σ H1 Q I1 q1
  | false=>exact ⟨H1,I1,q1⟩
theorem pw_or (ha:PT X a tA) (hb:PW X (.BoolOp .Or (b :: rest) pos) tB') : PW X (.BoolOp .Or (a :: b :: rest) pos) (tOr tA tB'):=by
  intro wh pins s σ H Q I h
  refine isTrue_or (thn (ha pins s σ H _ I h) fun c s1 ⟨H1,I1,q1⟩=>?_)
  cases c with
  | true=>exact ⟨H1,I1,q1⟩
  | false=>exact hb wh pins s1 σ H1 Q I1 q1
theorem pt_not (ha:PT X a tA) : PT X (.UnaryOp .Not a pos) (tNot tA):=by
  intro pins s σ H Q I h
  exact isTrue_not (ha pins s σ H (fun c H1=>Q (!c) H1) I h)
def tAndV (ta tb:TE) : TE:=fun σ H Q=>ta σ H fun x H1=>∃ c,x = .bl c ∧ if c = true then tb σ H1 Q else Q (.bl false) H1
def tNotV (ta:TE) : TE:=fun σ H Q=>ta σ H fun x H1=>∃ c,x = .bl c ∧ Q (.bl (!c)) H1
theorem pe_one {op} {t:TE} (h:PE X a t) : PE X (.BoolOp op [a] pos) t:=fun pins s σ H Q I hw=>BoolOp_one (h pins s σ H Q I hw)
theorem pe_and (ha:PE X a ta) (hb:PE X (.BoolOp .And (b :: rest) pos) tb) : PE X (.BoolOp .And (a :: b :: rest) pos) (tAndV ta tb):=by
  intro pins s σ H Q I h
  refine BoolOp_and (thn (ha pins s σ H _ I h) fun v s1 ⟨x,H1,I1,r1,q1⟩=>?_)
  obtain ⟨c,rfl,q1⟩:=q1
  cases r1
  refine wpAny_truthy_bool ?_
  cases c with
  | true=>exact hb pins s1 σ H1 Q I1 q1
  | false=>exact ⟨.bl false,H1,I1,rfl,q1⟩
theorem pe_not (ha:PE X a ta) : PE X (.UnaryOp .Not a pos) (tNotV ta):=by
  intro pins s σ H Q I h
  refine UnaryOp_ (thn (ha pins s σ H _ I h) fun v s1 ⟨x,H1,I1,r1,q1⟩=>?_)
  obtain ⟨c,rfl,q1⟩:=q1
  cases r1
  exact not_of (wpAny_truthy_bool ⟨.bl (!c),H1,I1,rfl,q1⟩)
def tIf (t:TT) (ta tb:TE) : TE:=fun σ H Q=>t σ H fun c H1=>if c = true then ta σ H1 Q else tb σ H1 Q
theorem pe_ifExp {c:Expr} (hc:PT X c tA) (ha:PE X a ta) (hb:PE X b tb) : PE X (.IfExp c a b pos) (tIf tA ta tb):=by
  intro pins s σ H Q I h
  refine wpAny_IfExp (thn (hc pins s σ H _ I h) fun d s1 ⟨H1,I1,q1⟩=>?_)
  cases d with
  | true=>exact ha pins s1 σ H1 Q I1 q1
  | false=>exact hb pins s1 σ H1 Q I1 q1
end
end L2
namespace L2
open PySem PySem.Spec PyProof.Rows
def SqL (K:PySem.W.Frag) (H:Hp) (a:Addr) (xs:List V) : Prop:=
  Rd H a (.lst xs) ∨
    ∃ (o:Obj) (its:Array Value) (n:Nat),K.lookup a = some o ∧ o.cls = .type "list" ∧ o.dict = none ∧ o.data = .seq its n ∧ its.size ≤ sizeLine ∧ Vals xs its.toList
def SqT (K:PySem.W.Frag) (H:Hp) (a:Addr) (xs:List V) : Prop:=
  Rd H a (.tup xs) ∨
    ∃ (o:Obj) (its:Array Value) (n:Nat),K.lookup a = some o ∧ o.cls = .type "tuple" ∧ o.data = .seq its n ∧ its.size ≤ sizeLine ∧ Vals xs its.toList
def absV:Value → Option V
  | .none=>some .non
  | .bool b=>some (.bl b)
  | .int i _=>some (.int i)
  | .str x _=>some (.str x)
  | .bytes b _=>some (.byt b)
  | .float b _=>some (.flt b)
  | .ref a=>some (.ref a)
  | .type n=>some (.ty n)
  | _=>none
theorem RelV.abs {x:V} {u:Value} (r:RelV x u) : absV u = some x:=by
  cases x with
  | non=>cases r; rfl
  | bl _=>cases r; rfl
  | int _=>obtain ⟨t,rfl⟩:=r; rfl
  | str _=>obtain ⟨t,rfl⟩:=r; rfl
  | byt _=>obtain ⟨t,rfl⟩:=r; rfl
  | flt _=>obtain ⟨t,rfl⟩:=r; rfl
  | ref _=>cases r; rfl
  | ty _=>cases r; rfl
theorem RelV.inj {x y:V} {u:Value} (r:RelV x u) (q:RelV y u) : x = y:=Option.some.inj (r.abs.symm.trans q.abs)
theorem Vals.inj : ∀ {xs ys:List V} {us:List Value},Vals xs us → Vals ys us → xs = ys
  | _,_,_,.nil,.nil=>rfl
  | _,_,_,.cons r t,.cons r' t'=>by rw [r.inj r',Vals.inj t t']
section
variable {X:Cx} {pins:List (Addr × Obj)} {σ : St} {H:Hp} {s:Shared} {a:Addr} {xs ys:List V}
theorem SqL.of {K:PySem.W.Frag} (h:H a = some (.lst xs)) : SqL K H a xs:=.inl (.inl h)
theorem SqT.of {K:PySem.W.Frag} (h:H a = some (.tup xs)) : SqT K H a xs:=.inl (.inl h)
theorem Inv.list (I:Inv X pins σ H s) (h:SqL X.K H a xs) : ∃ its:List Value,Vals xs its ∧ PlainL s.heap a its.toArray ∧ xs.length ≤ sizeLine:=by
  rcases h with h | ⟨o,its,n,hk,hc,hd,hs,hz,r⟩
  · obtain ⟨z,its,n,r,e⟩:=h.ok I.hok
    exact ⟨its,r,⟨_,n,e,rfl,rfl,rfl⟩,z⟩
  · refine ⟨its.toList,r,⟨o,n,I.kIn a o hk,hc,hd,by simpa using hs⟩,?_⟩
    have e:=r.length
    simp only [Array.length_toList] at e
    omega
theorem Inv.tuple (I:Inv X pins σ H s) (h:SqT X.K H a xs) : ∃ its:List Value,Vals xs its ∧ IsTup s.heap a its.toArray ∧ xs.length ≤ sizeLine:=by
  rcases h with h | ⟨o,its,n,hk,hc,hs,hz,r⟩
  · obtain ⟨z,its,r,p⟩:=h.ok I.hok
    exact ⟨its,r,p,z⟩
  · refine ⟨its.toList,r,⟨o,I.kIn a o hk,hc,n,by simpa using hs⟩,?_⟩
    have e:=r.length
    simp only [Array.length_toList] at e
    omega
theorem Inv.list_inj (I:Inv X pins σ H s) (h:SqL X.K H a xs) (h':SqL X.K H a ys) : xs = ys:=by
  obtain ⟨its,r,⟨o,n,e,_,_,d⟩,_⟩:=I.list h
  obtain ⟨its',r',⟨o',n',e',_,_,d'⟩,_⟩:=I.list h'
  rw [e] at e'; cases e'
  rw [d] at d'
  injection d' with d1 _
  have:its = its':=by simpa using congrArg Array.toList d1
  subst this
  exact r.inj r'
theorem Inv.tuple_inj (I:Inv X pins σ H s) (h:SqT X.K H a xs) (h':SqT X.K H a ys) : xs = ys:=by
  obtain ⟨its,r,⟨o,e,_,n,d⟩,_⟩:=I.tuple h
  obtain ⟨its',r',⟨o',e',_,n',d'⟩,_⟩:=I.tuple h'
  rw [e] at e'; cases e'
  rw [d] at d'
  injection d' with d1 _
  have:its = its':=by simpa using congrArg Array.toList d1
  subst this
  exact r.inj r'
end
abbrev Cx.wish (X:Cx) (E:Value → Shared → Prop) : Cx:={ X with xe:=E }
abbrev Cx.nox (X:Cx) : Cx:=X.wish fun _ _=>False
theorem Cx.Ok.wish {X:Cx} (ok:X.Ok) (E:Value → Shared → Prop) : (X.wish E).Ok:=
  ⟨ok.mod,ok.kind,ok.glob,ok.blt,ok.above,ok.inj,ok.has,ok.cab,ok.hd,ok.frames,ok.stk,ok.exf,ok.bs,ok.bsz,ok.noex,ok.exfs,ok.funs,ok.frf⟩
theorem Cx.Ok.unwish {X:Cx} {E:Value → Shared → Prop} (ok:(X.wish E).Ok) : X.Ok:=
  ⟨ok.mod,ok.kind,ok.glob,ok.blt,ok.above,ok.inj,ok.has,ok.cab,ok.hd,ok.frames,ok.stk,ok.exf,ok.bs,ok.bsz,ok.noex,ok.exfs,ok.funs,ok.frf⟩
section
variable {X:Cx} {pins:List (Addr × Obj)} {σ : St} {H:Hp} {s:Shared} {E:Value → Shared → Prop}
theorem Inv.wish (I:Inv X pins σ H s) (E:Value → Shared → Prop) : Inv (X.wish E) pins σ H s:=⟨I.ok.wish E,I.os,I.bare,I.base,I.loc,I.cell,I.free,I.freeC,I.pin,I.hok,I.len⟩
theorem Inv.unwish (I:Inv (X.wish E) pins σ H s) : Inv X pins σ H s:=⟨I.ok.unwish,I.os,I.bare,I.base,I.loc,I.cell,I.free,I.freeC,I.pin,I.hok,I.len⟩
theorem SP.unwish {D:Ends} {f:Flow} {s':Shared} (h:SP (X.wish E) pins D f s') : SP X pins D f s':=by
  cases f with
  | next=>obtain ⟨σ',H',I,q⟩:=h; exact ⟨σ',H',I.unwish,q⟩
  | brk=>obtain ⟨σ',H',I,q⟩:=h; exact ⟨σ',H',I.unwish,q⟩
  | cont=>obtain ⟨σ',H',I,q⟩:=h; exact ⟨σ',H',I.unwish,q⟩
  | ret u=>obtain ⟨v,σ',H',I,r,q⟩:=h; exact ⟨v,σ',H',I.unwish,r,q⟩
theorem PSs.nox {st:List Stmt} {t:TS} (h:PSs X.nox st t) : PSs X st t:=fun pins s σ H D I hw=>
  wpAny_mono (h pins s σ H D (I.wish _) hw) (fun _ _ q=>q.unwish) fun _ _ z=>False.elim z
end
section
variable {X:Cx} {st:Stmt} {rest:List Stmt} {t u:TS} {e:Expr} {te:TE} {pos:Pos}
def tNext:TS:=fun D σ H=>D.nx σ H
def tSeq (t u:TS) : TS:=fun D σ H=>t { D with nx:=u D } σ H
theorem qe:PSs X [] tNext:=fun _ _ σ H _ I h=>wpAny_execs_nil ⟨σ,H,I,h⟩
theorem jc (h1:PS X st t) (h2:PSs X rest u) : PSs X (st :: rest) (tSeq t u):=by
  intro pins s σ H D I h
  refine wpAny_execs_cons (thn (h1 pins s σ H { D with nx:=u D } I h) fun f s1 q=>?_)
  cases f with
  | next=>
    obtain ⟨σ',H',I',q⟩:=q
    exact h2 pins s1 σ' H' D I' q
  | ret v=>exact q
  | brk=>exact q
  | cont=>exact q
theorem jf (h1:PS X st t) : PSs X [st] t:=by
  intro pins s σ H D I h
  refine wpAny_execs_cons (thn (h1 pins s σ H D I h) fun f s1 q=>?_)
  cases f with
  | next=>exact wpAny_execs_nil q
  | ret v=>exact q
  | brk=>exact q
  | cont=>exact q
theorem Inv.quiet {pins:List (Addr × Obj)} {σ : St} {H:Hp} {s:Shared} (I:Inv X pins σ H s) : interactive X.env = false:=by simp [interactive,I.ok.kind]
def tDrop (te:TE) : TS:=fun D σ H=>te σ H fun _ H1=>D.nx σ H1
theorem zd (he:PE X e te) (hs:swapsWith e none pos.line X.env = pure false:=by rfl) : PS X (.Expr e pos) (tDrop te):=by
  intro pins s σ H D I h
  exact wpAny_Expr_any (thn (he pins s σ H _ I h) fun v s1 ⟨x,H1,I1,r1,q1⟩=>⟨σ,H1,I1,q1⟩) I.quiet hs
def tRet (te:TE) : TS:=fun D σ H=>te σ H D.rt
theorem j4 (he:PE X e te) : PS X (.Return (some e) pos) (tRet te):=by
  intro pins s σ H D I h
  exact wpAny_Return_some (thn (he pins s σ H _ I h) fun v s1 ⟨x,H1,I1,r1,q1⟩=>⟨x,σ,H1,I1,r1,q1⟩)
def tIfS (c:TT) (t u:TS) : TS:=fun D σ H=>c σ H fun b H1=>if b = true then t D σ H1 else u D σ H1
theorem yc {c:Expr} {a b:List Stmt} {tc:TT} (hc:PT X c tc) (ha:PSs X a t) (hb:PSs X b u) : PS X (.If c a b pos) (tIfS tc t u):=by
  intro pins s σ H D I h
  refine wpAny_If (thn (hc pins s σ H _ I h) fun d s1 ⟨H1,I1,q1⟩=>?_)
  cases d with
  | true=>exact ha pins s1 σ H1 D I1 q1
  | false=>exact hb pins s1 σ H1 D I1 q1
def tNever:TS:=fun _ _ _=>False
theorem ps_never:PS X st tNever:=fun _ _ _ _ _ _ h=>h.elim
theorem zu {sts:List Stmt} : PSs X sts tNever:=fun _ _ _ _ _ _ h=>h.elim
end
abbrev TG:=V → St → Hp → (St → Hp → Prop) → Prop
abbrev TGs:=List V → St → Hp → (St → Hp → Prop) → Prop
def PG (X:Cx) (target:Expr) (t:TG) : Prop:=
  ∀ (pins:List (Addr × Obj)) (s:Shared) (σ : St) (H:Hp) (v:V) (u:Value) (Q:St → Hp → Prop),Inv X pins σ H s → RelV v u → t v σ H Q →
    wpAny (model X.prog X.w) X.A (assign target X.env u) (fun _ s'=>∃ σ' H',Inv X pins σ' H' s' ∧ Q σ' H') X.xe s
def PGs (X:Cx) (ts:List Expr) (t:TGs) : Prop:=
  ∀ (pins:List (Addr × Obj)) (s:Shared) (σ : St) (H:Hp) (vs:List V) (us:List Value) (Q:St → Hp → Prop),Inv X pins σ H s → Vals vs us → t vs σ H Q →
    wpAny (model X.prog X.w) X.A (assignInOrder ((assignEach ts X.env).map (·.2)) us) (fun _ s'=>∃ σ' H',Inv X pins σ' H' s' ∧ Q σ' H') X.xe s
abbrev TSet:=V → V → V → Hp → (Hp → Prop) → Prop
def PSet (X:Cx) (t:TSet) : Prop:=
  ∀ (pins:List (Addr × Obj)) (s:Shared) (σ : St) (H:Hp) (o i v:V) (ov iv u:Value) (Q:Hp → Prop),Inv X pins σ H s → RelV o ov → RelV i iv → RelV v u → t o i v H Q →
    wpAny (model X.prog X.w) X.A (setItem ov iv u) (fun _ s'=>∃ H',Inv X pins σ H' s' ∧ Q H') X.xe s
abbrev TIp:=V → V → Hp → VK → Prop
def PIp (X:Cx) (op:Operator) (t:TIp) : Prop:=
  ∀ (pins:List (Addr × Obj)) (s:Shared) (σ : St) (H:Hp) (x y:V) (v u:Value) (Q:VK),Inv X pins σ H s → RelV x v → RelV y u → t x y H Q →
    wpAny (model X.prog X.w) X.A (inplaceOp op v u) (EP X pins σ Q) X.xe s
section
variable {X:Cx} {pos:Pos}
def gName (i:Nat) : TG:=fun v σ H Q=>Q (σ.set i (some v)) H
theorem qc {i:Nat} {x:Str} (hN:X.N.Nodup) (hi:X.N[i]? = some x) (hx:Loc X.env.scope x) (hf:X.fn x = true ∨ X.env.scope.names.lookup x = some .local:=by first | exact .inl rfl | exact .inr rfl | assumption) : PG X (.Name x pos) (gName i):=by
  intro pins s σ H v u Q I r h
  exact wpAny_assign_Name (store_ok I hN hi hx r (fun s' I'=>⟨_,H,I',h⟩) hf)
def gNil:TGs:=fun vs σ H Q=>vs = [] ∧ Q σ H
def gCons (t:TG) (u:TGs) : TGs:=fun vs σ H Q=>∃ v r,vs = v :: r ∧ t v σ H fun σ' H'=>u r σ' H' Q
theorem pgs_nil:PGs X [] gNil:=by
  intro pins s σ H vs us Q I r h
  obtain ⟨e,h⟩:=h
  subst e
  cases r
  exact assignInOrder_nil ⟨σ,H,I,h⟩
theorem yj {e:Expr} {es:List Expr} {t:TG} {u:TGs} (h1:PG X e t) (h2:PGs X es u)
    (hs:(assignEach (e :: es) X.env).map (·.2) = assign e X.env :: (assignEach es X.env).map (·.2):=by rfl) : PGs X (e :: es) (gCons t u):=by
  intro pins s σ H vs us Q I r h
  obtain ⟨v,vr,e1,h⟩:=h
  subst e1
  cases r with
  | cons r rr=>
    rw [hs]
    refine assignInOrder_cons (thn (h1 pins s σ H _ _ _ I r h) fun _ s1 ⟨σ1,H1,I1,q1⟩=>?_)
    exact h2 pins s1 σ1 H1 _ _ Q I1 rr q1
def gTup (K:PySem.W.Frag) (n:Nat) (t:TGs) : TG:=fun v σ H Q=>∃ a xs,v = .ref a ∧ SqT K H a xs ∧ xs.length = n ∧ t xs σ H Q
theorem pg_tup {es:List Expr} {k:Nat} {t:TGs} {n:Nat} (hc:X.calm = true) (h:PGs X es t)
    (hn:(assignEach es X.env).length = n:=by rfl) (hst:(assignEach es X.env).findIdx? (·.1) = none:=by rfl) : PG X (.Tuple es k pos) (gTup X.K n t):=by
  intro pins s σ H v u Q I r hw
  obtain ⟨a,xs,e1,hq,hl,hw⟩:=hw
  subst e1
  cases r
  obtain ⟨its,rv,ht,hz⟩:=I.tuple hq
  refine assign_Tuple_tuple (I.ok.hd hc) ht (by simp [hn,← hl,rv.length]) hst fun h' hx=>?_
  have I1:Inv X pins σ H { s with heap:=h' }:=I.kept (t':=s.toks) fun b o e=>hx b o (Nat.ne_of_lt (Heap.lt_size e)) e
  exact h pins _ σ H xs _ Q I1 (by simpa using rv) hw
def gSub (to ti:TE) (t:TSet) : TG:=fun v σ H Q=>to σ H fun o H1=>ti σ H1 fun i H2=>t o i v H2 fun H3=>Q σ H3
theorem pg_sub {o i:Expr} {to ti:TE} {t:TSet} (ho:PE X o to) (hi:PE X i ti) (hs:PSet X t)
    (ha : ∀ v,assign (.Subscript o i pos) X.env v = (do
      let ov ← holding [v] (eval o X.env)
      let iv ← holding [v,ov] (eval i X.env)
      standAt pos
      holding [v,ov,iv] (setItem ov iv v)
      release [v,ov,iv] []):=by intro _; rfl) : PG X (.Subscript o i pos) (gSub to ti t):=by
  intro pins s σ H v u Q I r h
  rw [ha]
  refine wpAny_bind (wpAny_holding (thn (ho pins s σ H _ I h) fun ov s1 ⟨x,H1,I1,r1,q1⟩=>?_))
  refine wpAny_bind (wpAny_holding (thn (hi pins s1 σ H1 _ I1 q1) fun iv s2 ⟨y,H2,I2,r2,q2⟩=>?_))
  refine wpAny_bind (wpAny_standAt (wpAny_bind (wpAny_holding (thn (hs pins s2 σ H2 x y v ov iv u _ I2 r1 r2 r q2) fun _ s3 ⟨H3,I3,q3⟩=>?_))))
  exact wpAny_release ⟨σ,H3,I3,q3⟩
def tAsg (te:TE) (g:TG) : TS:=fun D σ H=>te σ H fun x H1=>g x σ H1 D.nx
theorem ps_asg {tg e:Expr} {te:TE} {g:TG} (he:PE X e te) (hg:PG X tg g) (hs:swapsWithSole [tg] e pos.line X.env = pure false:=by rfl) (hw:swappedStores [tg] e X.env = pure none:=by rfl)
    (h1:(assignEach [tg] X.env).map (·.2) = [assign tg X.env]:=by rfl) : PS X (.Assign [tg] e pos) (tAsg te g):=by
  intro pins s σ H D I h
  refine wpAny_Assign_stores (thn (he pins s σ H _ I h) fun v s1 ⟨x,H1,I1,r1,q1⟩=>?_) hs hw
  rw [h1]
  exact thn (hg pins s1 σ H1 x v _ I1 r1 q1) fun _ s2 q=>q
theorem j7 {i:Nat} {x:Str} {e:Expr} {te:TE} {pos':Pos} (hN:X.N.Nodup) (hi:X.N[i]? = some x) (hx:Loc X.env.scope x) (he:PE X e te) (hs:swapsWith e (some (.Name x pos')) pos.line X.env = pure false:=by rfl) (hf:X.fn x = true ∨ X.env.scope.names.lookup x = some .local:=by first | exact .inl rfl | exact .inr rfl | assumption) :
    PS X (.Assign [.Name x pos'] e pos) (tAsg te (gName i)):=by
  intro pins s σ H D I h
  refine wpAny_Assign_Name (thn (he pins s σ H _ I h) fun v s1 ⟨y,H1,I1,r1,q1⟩=>?_) hs
  exact store_ok I1 hN hi hx r1 (fun s2 I2=>⟨_,H1,I2,q1⟩) hf
def tAugS (to ti te:TE) (tget:V → V → Hp → VK → Prop) (tip:TIp) (tset:TSet) : TS:=fun D σ H=>to σ H fun o H1=>ti σ H1 fun i H2=>tget o i H2 fun x H3=>te σ H3 fun y H4=>tip x y H4 fun z H5=>tset o i z H5 fun H6=>D.nx σ H6
def PGet (X:Cx) (t:V → V → Hp → VK → Prop) : Prop:=
  ∀ (pins:List (Addr × Obj)) (s:Shared) (σ : St) (H:Hp) (o i:V) (ov iv:Value) (Q:VK),Inv X pins σ H s → RelV o ov → RelV i iv → t o i H Q →
    wpAny (model X.prog X.w) X.A (getItem ov iv) (EP X pins σ Q) X.xe s
theorem ps_augS {o i e:Expr} {to ti te:TE} {tget:V → V → Hp → VK → Prop} {tip:TIp} {tset:TSet} {op:Operator} {tpos:Pos} (ho:PE X o to) (hi:PE X i ti) (hg:PGet X tget) (he:PE X e te) (hp:PIp X op tip) (hs:PSet X tset)
    (ha : ∀ ov iv new,augStore i ov iv new = (do holding [new,ov,iv] (setItem ov iv new); release [new,ov,iv] []; pure .next):=by intros; rfl) : PS X (.AugAssign (.Subscript o i tpos) op e pos) (tAugS to ti te tget tip tset):=by
  intro pins s σ H D I h
  refine wpAny_AugAssign_SubscriptAny (thn (ho pins s σ H _ I h) fun ov s1 ⟨x1,H1,I1,r1,q1⟩=>?_) ha
  refine thn (hi pins s1 σ H1 _ I1 q1) fun iv s2 ⟨x2,H2,I2,r2,q2⟩=>?_
  refine thn (hg pins s2 σ H2 x1 x2 ov iv _ I2 r1 r2 q2) fun old s3 ⟨x3,H3,I3,r3,q3⟩=>?_
  refine thn (he pins s3 σ H3 _ I3 q3) fun v s4 ⟨x4,H4,I4,r4,q4⟩=>?_
  refine thn (hp pins s4 σ H4 x3 x4 old v _ I4 r3 r4 q4) fun new s5 ⟨x5,H5,I5,r5,q5⟩=>?_
  exact thn (hs pins s5 σ H5 x1 x2 x5 ov iv new _ I5 r1 r2 r5 q5) fun _ s6 ⟨H6,I6,q6⟩=>⟨σ,H6,I6,q6⟩
def ipI (f:Int → Int → Int) : TIp:=fun x y H Q=>∃ i j,x = .int i ∧ y = .int j ∧ Q (.int (f i j)) H
theorem ip_add:PIp X .Add (ipI fun i j=>i + j):=by
  intro pins s σ H x y v u Q I r1 r2 h
  obtain ⟨i,j,e1,e2,q⟩:=h
  subst e1; subst e2
  obtain ⟨t,rfl⟩:=r1
  obtain ⟨t',rfl⟩:=r2
  exact iadd_int ⟨.int _,H,I.tok _,⟨_,rfl⟩,q⟩
theorem ip_sub:PIp X .Sub (ipI fun i j=>i - j):=by
  intro pins s σ H x y v u Q I r1 r2 h
  obtain ⟨i,j,e1,e2,q⟩:=h
  subst e1; subst e2
  obtain ⟨t,rfl⟩:=r1
  obtain ⟨t',rfl⟩:=r2
  exact isub_int ⟨.int _,H,I.tok _,⟨_,rfl⟩,q⟩
end
section
variable {X:Cx} {pos:Pos}
def tWhile (c:TT) (tb:TS) : TS:=fun D σ H=>∃ W:Nat → St → Hp → Prop,(∃ m,W m σ H) ∧ ∀ m σ H,W m σ H →
  c σ H fun b H1=>if b = true then ∃ N:St → Hp → Prop,(∀ σ' H',N σ' H' → ∃ m',m' < m ∧ W m' σ' H') ∧ tb { D with nx:=N,ct:=N,bk:=D.nx } σ H1 else D.nx σ H1
theorem ps_while {c:Expr} {body:List Stmt} {tc:TT} {tb:TS} (hp:PassesOwn (model X.prog X.w) X.A X.env X.xe) (hc:PT X c tc) (hb:PSs X body tb) : PS X (.While c body [] pos) (tWhile tc tb):=by
  intro pins s σ H D I h
  obtain ⟨W,⟨m0,w0⟩,turn⟩:=h
  refine wpAny_While (codeAny_whileLoop (fun n s'=>∃ σ' H',Inv X pins σ' H' s' ∧ W n σ' H') ?_ m0 ⟨σ,H,I,w0⟩)
  rintro n s1 ⟨σ1,H1,I1,w1⟩
  refine wpAny_passesOwn hp (thn (hc pins s1 σ1 H1 _ I1 (turn n σ1 H1 w1)) fun b s2 ⟨H2,I2,q2⟩=>?_)
  cases b with
  | true=>
    obtain ⟨N,hN,q2⟩:=q2
    rw [if_pos rfl]
    refine wpAny_passesOwn hp (thn (hb pins s2 σ1 H2 _ I2 q2) fun f s3 q3=>?_)
    cases f with
    | next=>
      obtain ⟨σ3,H3,I3,n3⟩:=q3
      obtain ⟨m',hm,w3⟩:=hN σ3 H3 n3
      exact ⟨m',hm,σ3,H3,I3,w3⟩
    | cont=>
      obtain ⟨σ3,H3,I3,n3⟩:=q3
      obtain ⟨m',hm,w3⟩:=hN σ3 H3 n3
      exact ⟨m',hm,σ3,H3,I3,w3⟩
    | brk=>exact q3
    | ret v=>exact q3
  | false=>
    rw [if_neg Bool.false_ne_true]
    exact wpAny_execs_nil ⟨σ1,H2,I2,q2⟩
end
structure It where
  go:Nat → Hp → Prop
  yld:Nat → Hp → V → Hp → Prop
  stop:Nat → Hp → Prop
def FpOk (X:Cx) (pins:List (Addr × Obj)) (H:Hp) (b:Addr) : Prop:=
  H b = none ∧ b ≠ X.env.locals ∧ b ∉ X.fs ∧ (b ∈ X.ex ∨ X.s₀.heap.objs.size ≤ b) ∧ (∀ x c,X.env.cells.lookup x = some c → c ≠ b) ∧ ∀ p ∈ X.pn ++ pins,p.1 ≠ b
theorem Inv.fpOk {X:Cx} {pins:List (Addr × Obj)} {σ : St} {H H':Hp} {s:Shared} {b:Addr} (I:Inv X pins σ H s) (hb:s.heap.objs.size ≤ b) (hn:H' b = none) : FpOk X pins H' b:=by
  refine ⟨hn,Nat.ne_of_gt (Nat.lt_of_lt_of_le I.lt hb),I.nofs hb,.inr (Nat.le_trans I.sz hb),fun x c e z=>?_,fun p hp z=>?_⟩
  · obtain ⟨v,q⟩:=I.cell x c e
    exact absurd (Nat.lt_of_lt_of_le q.lt (by rw [z]; exact hb)) (Nat.lt_irrefl _)
  · exact absurd (Nat.lt_of_lt_of_le (Heap.lt_size (I.pin p hp).1) (by rw [z]; exact hb)) (Nat.lt_irrefl _)
structure Turn (P:Program) (w:World) (K:PySem.W.Frag) (tg:Expr) (J:It) (fp:List Addr) (it:Addr) (tn:Nat → Heap → Prop) : Prop where
  mem:it ∈ fp
  obj : ∀ i h,tn i h → ∀ b ∈ fp,∃ o,h.get? b = some o ∧ ∀ v,o.data ≠ .cell v
  keep : ∀ i h h',tn i h → (∀ b ∈ fp,∀ o,h.get? b = some o → h'.get? b = some o) → tn i h'
  item : ∀ (X:Cx),X.prog = P → X.w = w → X.K = K → X.calm = true → ∀ (i:Nat) (pins:List (Addr × Obj)) (s:Shared) (σ : St) (H:Hp) (E:Value → Shared → Prop),Inv X pins σ H s → (∀ b ∈ fp,FpOk X pins H b) → tn i s.heap → J.go i H →
    wpAny (model P w) X.A (pyNext (.ref it)) (fun r s1=>∃ u,r = some u ∧
      wpAny (model P w) X.A (letOwnedTupleGo tg (.ref it) u) (fun _ s2=>∃ x H',Inv X pins σ H' s2 ∧ RelV x u ∧ J.yld i H x H' ∧ tn (i + 1) s2.heap ∧ ∀ b ∈ fp,H' b = none) E s1) E s
  done : ∀ (X:Cx),X.prog = P → X.w = w → X.K = K → X.calm = true → ∀ (i:Nat) (pins:List (Addr × Obj)) (s:Shared) (σ : St) (H:Hp) (E:Value → Shared → Prop),Inv X pins σ H s → (∀ b ∈ fp,FpOk X pins H b) → tn i s.heap → J.stop i H →
    wpAny (model P w) X.A (pyNext (.ref it)) (fun r s1=>r = none ∧ Inv X pins σ H s1) E s
  self : ∀ (A:Around) (i:Nat) (s:Shared) (Q:Value → Shared → Prop) (E:Value → Shared → Prop),tn i s.heap → Q (.ref it) s → wpAny (model P w) A (pyIter (.ref it)) Q E s
abbrev TI:=St → Hp → (It → Hp → Prop) → Prop
def PIE (X:Cx) (pins:List (Addr × Obj)) (σ : St) (tg:Expr) (R:It → Hp → Prop) (itv:Value) (s2:Shared) : Prop:=
  ∃ (it:Addr) (fp:List Addr) (tn:Nat → Heap → Prop) (J:It) (H':Hp),itv = .ref it ∧ Inv X pins σ H' s2 ∧ Turn X.prog X.w X.K tg J fp it tn ∧ tn 0 s2.heap ∧ (∀ b ∈ fp,FpOk X pins H' b) ∧ R J H'
def PI (X:Cx) (tg iter:Expr) (wi:TI) : Prop:=
  ∀ (pins:List (Addr × Obj)) (s:Shared) (σ : St) (H:Hp) (R:It → Hp → Prop),Inv X pins σ H s → wi σ H R →
    wpAny (model X.prog X.w) X.A (eval iter X.env) (fun v s1=>wpAny (model X.prog X.w) X.A (pyIter v) (PIE X pins σ tg R) X.xe s1) X.xe s
theorem go_of {M:Model} {A:Around} {E:Value → Shared → Prop} {s:Shared} {tg:Expr} {it:Addr} {u:Value} {o:Obj} {n:String} {vs:Array Value} {Q:Unit → Shared → Prop} (ho:s.heap.get? it = some o) (hc:o.cls = .type n) (hd:o.data = .fields vs)
    (hn : ["enumerate","zip","dict_itemiterator","dict_reverseitemiterator","odict_iterator","itertools.zip_longest","itertools.pairwise"].contains n = false) (hQ:Q () s) : wpAny M A (letOwnedTupleGo tg (.ref it) u) Q E s:=by
  unfold letOwnedTupleGo
  cases tg <;> first
    | exact wpAny_pure hQ
    | (cases u <;> first
        | exact wpAny_pure hQ
        | (refine wpAny_bind (wpAny_load ho ?_)
           rw [hc,hd]
           show wpAny M A (if (["enumerate","zip","dict_itemiterator","dict_reverseitemiterator","odict_iterator","itertools.zip_longest","itertools.pairwise"].contains n && vs[0]? == some (rawInt _)) = true then _ else _) Q E s
           rw [if_neg (by intro h; rw [hn,Bool.false_and] at h; cases h)]
           exact wpAny_pure hQ))
def Itl (K:PySem.W.Frag) (a:Addr) : It:=
  ⟨fun i H=>∃ xs x,SqL K H a xs ∧ xs[i]? = some x,fun i H x H'=>H' = H ∧ ∀ xs,SqL K H a xs → xs[i]? = some x,fun i H=>∃ xs,SqL K H a xs ∧ xs.length ≤ i⟩
def Itt (K:PySem.W.Frag) (a:Addr) : It:=
  ⟨fun i H=>∃ xs x,SqT K H a xs ∧ xs[i]? = some x,fun i H x H'=>H' = H ∧ ∀ xs,SqT K H a xs → xs[i]? = some x,fun i H=>∃ xs,SqT K H a xs ∧ xs.length ≤ i⟩
def Itr (lo:Int) (n:Nat) : It:=⟨fun i _=>i < n,fun i H x H'=>H' = H ∧ x = .int (lo + i),fun i _=>n ≤ i⟩
theorem turn_list {P:Program} {w:World} {K:PySem.W.Frag} {tg:Expr} (a it:Addr) : Turn P w K tg (Itl K a) [it] it (fun i h=>h.IsListIter it a i) where
  mem:=by simp
  obj:=fun i h st b hb=>by
    have e:b = it:=by simpa using hb
    subst e
    obtain ⟨o,e,c,d⟩:=st
    exact ⟨o,e,fun v z=>by rw [d] at z; cases z⟩
  keep:=fun i h h' st k=>st.at fun o e=>k it (by simp) o e
  item:=by
    intro X hP hw hK hc i pins s σ H E I hf st hg
    subst hP hw hK
    obtain ⟨xs,x,hq,hx⟩:=hg
    obtain ⟨its,rv,p,hz⟩:=I.list hq
    obtain ⟨u,hu,ru⟩:=rv.get hx
    obtain ⟨f0,f1,f2,f3,f4,f5⟩:=hf it (by simp)
    refine wpAny_pyNext_list_item st p.isList (x:=u) (by simpa using hu) fun h' st' sb=>?_
    have I1:Inv X pins σ H { s with heap:=h' }:=I.turned (t':=s.toks) (fun b o hb e=>(sb.2 b hb).trans e) f0 f1 f3 f4 f5
    obtain ⟨o,e,c,d⟩:=id st'
    exact ⟨u,rfl,go_of (s:={ s with heap:=h' }) e c d (by decide) ⟨x,H,I1,ru,⟨rfl,fun ys hy=>by rw [I.list_inj hy hq]; exact hx⟩,st',fun b hb=>(hf b hb).1⟩⟩
  done:=by
    intro X hP hw hK hc i pins s σ H E I hf st hg
    subst hP hw hK
    obtain ⟨xs,hq,hx⟩:=hg
    obtain ⟨its,rv,p,hz⟩:=I.list hq
    obtain ⟨f0,f1,f2,f3,f4,f5⟩:=hf it (by simp)
    have hl:=rv.length
    exact wpAny_pyNext_list_end (I.ok.hd hc) st p.isList (by simp; omega) fun h' eb=>⟨rfl,I.turned (t':=s.toks) (fun b o hb e=>eb b o hb e) f0 f1 f3 f4 f5⟩
  self:=fun _ _ _ _ _ st h=>wpAny_pyIter_listiter st h
theorem turn_tuple {P:Program} {w:World} {K:PySem.W.Frag} {tg:Expr} (a it:Addr) : Turn P w K tg (Itt K a) [it] it (fun i h=>h.IsTupleIter it a i) where
  mem:=by simp
  obj:=fun i h st b hb=>by
    have e:b = it:=by simpa using hb
    subst e
    obtain ⟨o,e,c,d⟩:=st
    exact ⟨o,e,fun v z=>by rw [d] at z; cases z⟩
  keep:=fun i h h' st k=>st.at fun o e=>k it (by simp) o e
  item:=by
    intro X hP hw hK hc i pins s σ H E I hf st hg
    subst hP hw hK
    obtain ⟨xs,x,hq,hx⟩:=hg
    obtain ⟨its,rv,p,hz⟩:=I.tuple hq
    obtain ⟨u,hu,ru⟩:=rv.get hx
    obtain ⟨f0,f1,f2,f3,f4,f5⟩:=hf it (by simp)
    refine wpAny_pyNext_tuple_item st (show s.heap.IsTuple a its.toArray from p) (x:=u) (by simpa using hu) fun h' st' sb=>?_
    have I1:Inv X pins σ H { s with heap:=h' }:=I.turned (t':=s.toks) (fun b o hb e=>(sb.2 b hb).trans e) f0 f1 f3 f4 f5
    obtain ⟨o,e,c,d⟩:=id st'
    exact ⟨u,rfl,go_of (s:={ s with heap:=h' }) e c d (by decide) ⟨x,H,I1,ru,⟨rfl,fun ys hy=>by rw [I.tuple_inj hy hq]; exact hx⟩,st',fun b hb=>(hf b hb).1⟩⟩
  done:=by
    intro X hP hw hK hc i pins s σ H E I hf st hg
    subst hP hw hK
    obtain ⟨xs,hq,hx⟩:=hg
    obtain ⟨its,rv,p,hz⟩:=I.tuple hq
    obtain ⟨f0,f1,f2,f3,f4,f5⟩:=hf it (by simp)
    have hl:=rv.length
    exact wpAny_pyNext_tuple_end (I.ok.hd hc) st (show s.heap.IsTuple a its.toArray from p) (by simp; omega) fun h' eb=>⟨rfl,I.turned (t':=s.toks) (fun b o hb e=>eb b o hb e) f0 f1 f3 f4 f5⟩
  self:=fun _ _ _ _ _ st h=>wpAny_pyIter_tupleiter st h
theorem turn_range {P:Program} {w:World} {K:PySem.W.Frag} {tg:Expr} (it:Addr) (lo:Int) (n:Nat) : Turn P w K tg (Itr lo n) [it] it (fun i h=>IsRangeIter h it (lo + (i:Nat) * 1) ((n:Int) - (i:Nat)) 1) where
  mem:=by simp
  obj := fun i h st b hb=>by
    have e:b = it:=by simpa using hb
    subst e
    exact ⟨_,st,fun v z=>by
      have z':Data.fields _ = Data.cell v:=z
      cases z'⟩
  keep:=fun i h h' st k=>k it (by simp) _ st
  item:=by
    intro X hP hw hK hc i pins s σ H E I hf st hg
    subst hP hw hK
    obtain ⟨f0,f1,f2,f3,f4,f5⟩:=hf it (by simp)
    have W:=Walks.range (prog:=X.prog) (w:=X.w) (I.ok.hd hc) it lo 1 n
    refine W.item i s _ _ hg st fun v h' tk hv st' kk=>?_
    obtain ⟨t,rfl⟩:=hv
    have I1:Inv X pins σ H { s with heap:=h',toks:=tk }:=I.turned (fun b o hb e=>kk b o (by simpa using hb) e) f0 f1 f3 f4 f5
    refine ⟨_,rfl,go_of (s:={ s with heap:=h',toks:=tk }) (n := "range_iterator") st' rfl rfl (by decide) ⟨.int (lo + i),H,I1,⟨t,?_⟩,⟨rfl,rfl⟩,st',fun b hb=>(hf b hb).1⟩⟩
    rw [Int.mul_one]
  done:=by
    intro X hP hw hK hc i pins s σ H E I hf st hg
    subst hP hw hK
    obtain ⟨f0,f1,f2,f3,f4,f5⟩:=hf it (by simp)
    exact wpAny_pyNext_range_end (I.ok.hd hc) st (by have:n ≤ i:=hg; omega) fun h' eb=>⟨rfl,I.turned (t':=s.toks) (fun b o hb e=>eb b o hb e) f0 f1 f3 f4 f5⟩
  self:=fun _ _ _ _ _ st h=>wpAny_pyIter_rangeiter st h
end L2
namespace L2
open PySem PySem.Spec PyProof.Rows
section
variable {X:Cx} {tg:Expr}
def iList (K:PySem.W.Frag) (tl:TE) : TI:=fun σ H R=>tl σ H fun x H1=>∃ a,x = .ref a ∧ (∃ xs,SqL K H1 a xs) ∧ R (Itl K a) H1
def iTup (K:PySem.W.Frag) (tl:TE) : TI:=fun σ H R=>tl σ H fun x H1=>∃ a,x = .ref a ∧ (∃ xs,SqT K H1 a xs) ∧ R (Itt K a) H1
theorem pi_list {l:Expr} {tl:TE} (hl:PE X l tl) : PI X tg l (iList X.K tl):=by
  intro pins s σ H R I h
  refine thn (hl pins s σ H _ I h) fun v s1 ⟨x,H1,I1,r1,q1⟩=>?_
  obtain ⟨a,e,⟨xs,hq⟩,q⟩:=q1
  subst e
  cases r1
  obtain ⟨its,rv,p,hz⟩:=I1.list hq
  refine wpAny_pyIter_list p.isList ?_
  refine ⟨s1.heap.objs.size,[s1.heap.objs.size],_,_,H1,rfl,I1.kept (t':=s1.toks) fun b o e=>Heap.get?_push_of_some _ e,turn_list a _,⟨_,Heap.get?_push_size _ rfl,rfl,rfl⟩,fun b hb=>?_,q⟩
  have e:b = s1.heap.objs.size:=by simpa using hb
  subst e
  exact I1.fpOk (Nat.le_refl _) (I1.hok.fresh (Nat.le_refl _))
theorem pi_tup {l:Expr} {tl:TE} (hl:PE X l tl) : PI X tg l (iTup X.K tl):=by
  intro pins s σ H R I h
  refine thn (hl pins s σ H _ I h) fun v s1 ⟨x,H1,I1,r1,q1⟩=>?_
  obtain ⟨a,e,⟨xs,hq⟩,q⟩:=q1
  subst e
  cases r1
  obtain ⟨its,rv,p,hz⟩:=I1.tuple hq
  refine wpAny_pyIter_tuple (show s1.heap.IsTuple a its.toArray from p) ?_
  refine ⟨s1.heap.objs.size,[s1.heap.objs.size],_,_,H1,rfl,I1.kept (t':=s1.toks) fun b o e=>Heap.get?_push_of_some _ e,turn_tuple a _,⟨_,Heap.get?_push_size _ rfl,rfl,rfl⟩,fun b hb=>?_,q⟩
  have e:b = s1.heap.objs.size:=by simpa using hb
  subst e
  exact I1.fpOk (Nat.le_refl _) (I1.hok.fresh (Nat.le_refl _))
theorem range_it {pins:List (Addr × Obj)} {σ : St} {H:Hp} {s:Shared} {R:It → Hp → Prop} {E:Value → Shared → Prop} {lo hi:Int} {t u v:Tok} {tk:Nat} (I:Inv X pins σ H s) (h1 : -(2 ^ 62) ≤ lo) (h2:lo < 2 ^ 62) (h3 : -(2 ^ 62) ≤ hi) (h4:hi < 2 ^ 62)
    (q:R (Itr lo (hi - lo).toNat) H) : wpAny (model X.prog X.w) X.A (pyIter (.ref s.heap.objs.size)) (PIE X pins σ tg R) E { s with heap:=s.heap.push { cls:=.type "range",data:=.fields #[.int lo t,.int hi u,.int 1 v] },toks:=tk }:=by
  refine wpAny_pyIter_range (IsRange.new ..) (small_one h1 h2 h3 h4) ?_
  have I1:Inv X pins σ H { s with heap:=s.heap.push { cls:=.type "range",data:=.fields #[.int lo t,.int hi u,.int 1 v] },toks:=tk }:=I.kept fun b o e=>Heap.get?_push_of_some _ e
  refine ⟨(s.heap.push { cls:=.type "range",data:=.fields #[.int lo t,.int hi u,.int 1 v] }).objs.size,[(s.heap.push { cls:=.type "range",data:=.fields #[.int lo t,.int hi u,.int 1 v] }).objs.size],_,_,H,rfl,
    I1.kept (t':=tk) fun b o e=>Heap.get?_push_of_some _ e,turn_range _ lo (hi - lo).toNat,?_,fun b hb=>?_,q⟩
  · have e1:lo + ((0:Nat) : Int) * 1 = lo:=by simp
    have e2:(((hi - lo).toNat:Nat) : Int) - ((0:Nat) : Int) = Builtin.Range.rangeSize lo hi 1:=by rw [rangeSize_one]; split <;> omega
    show IsRangeIter _ _ (lo + ((0:Nat) : Int) * 1) ((((hi - lo).toNat:Nat) : Int) - ((0:Nat) : Int)) 1
    rw [e1,e2]
    exact Heap.get?_push_size _ rfl
  · have e:b = (s.heap.push { cls:=.type "range",data:=.fields #[.int lo t,.int hi u,.int 1 v] }).objs.size:=by simpa using hb
    subst e
    exact I1.fpOk (Nat.le_refl _) (I1.hok.fresh (Nat.le_refl _))
def iRng1 (ta:TA) : TI:=fun σ H R=>ta σ H fun vs H1=>∃ j:Int,vs = [.int j] ∧ -(2 ^ 62) ≤ j ∧ j < 2 ^ 62 ∧ R (Itr 0 j.toNat) H1
theorem pi_range1 {a:Expr} {ta:TA} {p pos:Pos} (hg:Gl X "range") (hm:X.mg "range" = none) (ha:PA X [a] ta) (hs:starEach [a] X.env = [(false,eval a X.env)]:=by rfl) : PI X tg (.Call (.Name "range" p) [a] [] pos) (iRng1 ta):=by
  intro pins s σ H R I h
  refine Call_ (ld_blt I hg hm boot_range (PyProof.Rows.callWith_type1 (thn (ha pos pins s σ H _ I h) fun us s1 ⟨vs,H1,I1,r1,q1⟩=>?_) hs rfl))
  obtain ⟨j,e,q1,q2,q⟩:=q1
  subst e
  cases r1 with
  | cons r rr=>
    cases rr
    obtain ⟨t,rfl⟩:=r
    exact call_range_1 (range_it I1 (by omega) (by omega) q1 q2 (by simpa using q))
def tFor (wi:TI) (g:TG) (tb:TS) : TS:=fun D σ H=>wi σ H fun J H1=>∃ W:Nat → Nat → St → Hp → Prop,(∃ m,W 0 m σ H1) ∧ ∀ i m σ H,W i m σ H →
  (J.stop i H ∧ D.nx σ H) ∨ (J.go i H ∧ ∃ N:St → Hp → Prop,(∀ σ' H',N σ' H' → ∃ m',m' < m ∧ W (i + 1) m' σ' H') ∧ ∀ x H',J.yld i H x H' → g x σ H' fun σ2 H2=>tb { D with nx:=N,ct:=N,bk:=D.nx } σ2 H2)
def pinsAt (fp:List Addr) (h:Heap) : List (Addr × Obj):=fp.filterMap fun b=>(h.get? b).map fun o=>(b,o)
theorem mem_pinsAt {fp:List Addr} {h:Heap} {b:Addr} {o:Obj} (hb:b ∈ fp) (e:h.get? b = some o) : (b,o) ∈ pinsAt fp h:=List.mem_filterMap.mpr ⟨b,hb,by rw [e]; rfl⟩
theorem of_pinsAt {fp:List Addr} {h:Heap} {p:Addr × Obj} (hp:p ∈ pinsAt fp h) : p.1 ∈ fp ∧ h.get? p.1 = some p.2:=by
  obtain ⟨b,hb,e⟩:=List.mem_filterMap.mp hp
  cases q:h.get? b with
  | none=>rw [q] at e; cases e
  | some o=>
    rw [q] at e
    have e':(b,o) = p:=Option.some.inj e
    subst e'
    exact ⟨hb,q⟩
theorem Inv.pinned {pins:List (Addr × Obj)} {σ : St} {H:Hp} {s:Shared} {fp:List Addr} (I:Inv X pins σ H s) (hf : ∀ b ∈ fp,FpOk X pins H b) (ho : ∀ b ∈ fp,∃ o,s.heap.get? b = some o ∧ ∀ v,o.data ≠ .cell v) : Inv X (pins ++ pinsAt fp s.heap) σ H s:=
  I.pins_of fun p hp=>(List.mem_append.mp hp).elim (fun z=>I.pin p (List.mem_append_right _ z)) fun z=>by
    obtain ⟨hb,e⟩:=of_pinsAt z
    obtain ⟨f0,f1,f2,_⟩:=hf p.1 hb
    obtain ⟨o,e',d⟩:=ho p.1 hb
    rw [e] at e'; cases e'
    exact ⟨e,f0,f1,f2,d⟩
theorem Inv.unpinned {pins pl:List (Addr × Obj)} {σ : St} {H:Hp} {s:Shared} (I:Inv X (pins ++ pl) σ H s) : Inv X pins σ H s:=I.pins_of fun p hp=>I.pin p (List.mem_append_right _ (List.mem_append_left _ hp))
theorem ps_for {iter:Expr} {body:List Stmt} {wi:TI} {g:TG} {tb:TS} {pos:Pos} (hp:PassesOwn (model X.prog X.w) X.A X.env X.xe) (hc:X.calm = true) (hi:PI X tg iter wi) (hg:PG X tg g) (hb:PSs X body tb)
    (hs : ∀ x,foldedSetIterable iter X.env x = pure x:=by intro _; rfl) : PS X (.For tg iter body [] pos) (tFor wi g tb):=by
  intro pins s σ H D I h
  refine wpAny_For (thn (hi pins s σ H _ I h) fun v s1 h1=>thn h1 fun itv s2 h2=>?_) hs
  obtain ⟨it,fp,tn,J,H2,e,I2,T,st2,f2,W,⟨m0,w0⟩,turn⟩:=h2
  subst e
  have stat : ∀ {H':Hp},(∀ b ∈ fp,H' b = none) → ∀ b ∈ fp,FpOk X pins H' b:=fun hn b hb=>⟨hn b hb,(f2 b hb).2⟩
  refine codeAny_forLoop_any (fun n s'=>∃ i σ' H',Inv X pins σ' H' s' ∧ tn i s'.heap ∧ (∀ b ∈ fp,H' b = none) ∧ W i n σ' H') ?_ m0 ⟨0,σ,H2,I2,st2,fun b hb=>(f2 b hb).1,w0⟩
  rintro n s3 ⟨i,σ3,H3,I3,st3,fr3,w3⟩
  rcases turn i n σ3 H3 w3 with ⟨stop,qn⟩ | ⟨go,N,hN,step⟩
  · refine wpAny_passesOwn hp (thn (T.done X rfl rfl rfl hc i pins s3 σ3 H3 X.xe I3 (stat fr3) st3 stop) fun r s4 ⟨hr,I4⟩=>?_)
    subst hr
    exact wpAny_execs_nil ⟨σ3,H3,I4,qn⟩
  · refine wpAny_passesOwn hp (thn (T.item X rfl rfl rfl hc i pins s3 σ3 H3 X.xe I3 (stat fr3) st3 go) fun r s4 ⟨u,hr,h4⟩=>?_)
    subst hr
    refine wpAny_passesOwn hp (thn h4 fun _ s5 ⟨x,H5,I5,r5,y5,st5,fr5⟩=>?_)
    have I5':=I5.pinned (stat fr5) (T.obj _ _ st5)
    refine wpAny_passesOwn hp (thn (hg _ s5 σ3 H5 x u _ I5' r5 (step x H5 y5)) fun _ s6 ⟨σ6,H6,I6,q6⟩=>?_)
    refine wpAny_passesOwn hp (thn (hb _ s6 σ6 H6 _ I6 q6) fun f s7 q7=>?_)
    have again : ∀ {σ7:St} {H7:Hp},Inv X (pins ++ pinsAt fp s5.heap) σ7 H7 s7 → N σ7 H7 → ∃ m,m < n ∧ ∃ i σ' H',Inv X pins σ' H' s7 ∧ tn i s7.heap ∧ (∀ b ∈ fp,H' b = none) ∧ W i m σ' H':=fun {σ7 H7} I7 n7=>by
      obtain ⟨m',hm,w7⟩:=hN σ7 H7 n7
      refine ⟨m',hm,i + 1,σ7,H7,I7.unpinned,T.keep _ _ _ st5 fun b hb o e=>(I7.pin (b,o) (List.mem_append_right _ (List.mem_append_right _ (mem_pinsAt hb e)))).1,fun b hb=>?_,w7⟩
      obtain ⟨o,e,d⟩:=T.obj _ _ st5 b hb
      exact (I7.pin (b,o) (List.mem_append_right _ (List.mem_append_right _ (mem_pinsAt hb e)))).2.1
    cases f with
    | next=>obtain ⟨σ7,H7,I7,n7⟩:=q7; exact again I7 n7
    | cont=>obtain ⟨σ7,H7,I7,n7⟩:=q7; exact again I7 n7
    | brk=>obtain ⟨σ7,H7,I7,q7⟩:=q7; exact ⟨σ7,H7,I7.unpinned,q7⟩
    | ret v=>obtain ⟨x7,σ7,H7,I7,r7,q7⟩:=q7; exact ⟨x7,σ7,H7,I7.unpinned,r7,q7⟩
end
theorem for_list {K:PySem.W.Frag} {a:Addr} {xs:List V} {g:TG} {tb:TS} {D:Ends} {σ : St} {H:Hp} (Pv:Nat → St → Hp → Prop) (h0:Pv 0 σ H) (hl : ∀ i σ H,i ≤ xs.length → Pv i σ H → SqL K H a xs)
    (hs : ∀ i x σ H,xs[i]? = some x → Pv i σ H → g x σ H fun σ2 H2=>tb { D with nx:=Pv (i + 1),ct:=Pv (i + 1),bk:=D.nx } σ2 H2) (hd : ∀ σ H,Pv xs.length σ H → D.nx σ H) :
    ∃ W:Nat → Nat → St → Hp → Prop,(∃ m,W 0 m σ H) ∧ ∀ i m σ H,W i m σ H →
      ((Itl K a).stop i H ∧ D.nx σ H) ∨ ((Itl K a).go i H ∧ ∃ N:St → Hp → Prop,(∀ σ' H',N σ' H' → ∃ m',m' < m ∧ W (i + 1) m' σ' H') ∧ ∀ x H',(Itl K a).yld i H x H' → g x σ H' fun σ2 H2=>tb { D with nx:=N,ct:=N,bk:=D.nx } σ2 H2):=by
  refine ⟨fun i m σ H=>m = xs.length - i ∧ i ≤ xs.length ∧ Pv i σ H,⟨xs.length,by simp,Nat.zero_le _,h0⟩,?_⟩
  rintro i m σ H ⟨rfl,hi,p⟩
  have q:=hl i σ H hi p
  by_cases hlt:i < xs.length
  · refine .inr ⟨⟨xs,xs[i],q,by simp [hlt]⟩,Pv (i + 1),fun σ' H' p'=>⟨xs.length - (i + 1),by omega,rfl,hlt,p'⟩,fun x H' y=>?_⟩
    obtain ⟨e,y⟩:=y
    subst e
    exact hs i x σ _ (y xs q) p
  · have e:i = xs.length:=by omega
    subst e
    exact .inl ⟨⟨xs,q,Nat.le_refl _⟩,hd σ H p⟩
theorem for_tup {K:PySem.W.Frag} {a:Addr} {xs:List V} {g:TG} {tb:TS} {D:Ends} {σ : St} {H:Hp} (Pv:Nat → St → Hp → Prop) (h0:Pv 0 σ H) (hl : ∀ i σ H,i ≤ xs.length → Pv i σ H → SqT K H a xs)
    (hs : ∀ i x σ H,xs[i]? = some x → Pv i σ H → g x σ H fun σ2 H2=>tb { D with nx:=Pv (i + 1),ct:=Pv (i + 1),bk:=D.nx } σ2 H2) (hd : ∀ σ H,Pv xs.length σ H → D.nx σ H) :
    ∃ W:Nat → Nat → St → Hp → Prop,(∃ m,W 0 m σ H) ∧ ∀ i m σ H,W i m σ H →
      ((Itt K a).stop i H ∧ D.nx σ H) ∨ ((Itt K a).go i H ∧ ∃ N:St → Hp → Prop,(∀ σ' H',N σ' H' → ∃ m',m' < m ∧ W (i + 1) m' σ' H') ∧ ∀ x H',(Itt K a).yld i H x H' → g x σ H' fun σ2 H2=>tb { D with nx:=N,ct:=N,bk:=D.nx } σ2 H2):=by
  refine ⟨fun i m σ H=>m = xs.length - i ∧ i ≤ xs.length ∧ Pv i σ H,⟨xs.length,by simp,Nat.zero_le _,h0⟩,?_⟩
  rintro i m σ H ⟨rfl,hi,p⟩
  have q:=hl i σ H hi p
  by_cases hlt:i < xs.length
  · refine .inr ⟨⟨xs,xs[i],q,by simp [hlt]⟩,Pv (i + 1),fun σ' H' p'=>⟨xs.length - (i + 1),by omega,rfl,hlt,p'⟩,fun x H' y=>?_⟩
    obtain ⟨e,y⟩:=y
    subst e
    exact hs i x σ _ (y xs q) p
  · have e:i = xs.length:=by omega
    subst e
    exact .inl ⟨⟨xs,q,Nat.le_refl _⟩,hd σ H p⟩
theorem for_range {lo:Int} {n:Nat} {g:TG} {tb:TS} {D:Ends} {σ : St} {H:Hp} (Pv:Nat → St → Hp → Prop) (h0:Pv 0 σ H)
    (hs : ∀ i σ H,i < n → Pv i σ H → g (.int (lo + i)) σ H fun σ2 H2=>tb { D with nx:=Pv (i + 1),ct:=Pv (i + 1),bk:=D.nx } σ2 H2) (hd : ∀ σ H,Pv n σ H → D.nx σ H) :
    ∃ W:Nat → Nat → St → Hp → Prop,(∃ m,W 0 m σ H) ∧ ∀ i m σ H,W i m σ H →
      ((Itr lo n).stop i H ∧ D.nx σ H) ∨ ((Itr lo n).go i H ∧ ∃ N:St → Hp → Prop,(∀ σ' H',N σ' H' → ∃ m',m' < m ∧ W (i + 1) m' σ' H') ∧ ∀ x H',(Itr lo n).yld i H x H' → g x σ H' fun σ2 H2=>tb { D with nx:=N,ct:=N,bk:=D.nx } σ2 H2):=by
  refine ⟨fun i m σ H=>m = n - i ∧ i ≤ n ∧ Pv i σ H,⟨n,by simp,Nat.zero_le _,h0⟩,?_⟩
  rintro i m σ H ⟨rfl,hi,p⟩
  by_cases hlt:i < n
  · refine .inr ⟨hlt,Pv (i + 1),fun σ' H' p'=>⟨n - (i + 1),by omega,rfl,hlt,p'⟩,fun x H' y=>?_⟩
    obtain ⟨e,y⟩:=y
    subst e y
    exact hs i σ _ hlt p
  · have e:i = n:=by omega
    subst e
    exact .inl ⟨Nat.le_refl _,hd σ H p⟩
theorem while_by {c:TT} {tb:TS} {D:Ends} {σ : St} {H:Hp} (Pv:St → Hp → Prop) (μ : St → Hp → Nat) (h0:Pv σ H)
    (hs : ∀ σ H,Pv σ H → c σ H fun b H1=>if b = true then tb { D with nx:=fun σ' H'=>Pv σ' H' ∧ μ σ' H' < μ σ H,ct:=fun σ' H'=>Pv σ' H' ∧ μ σ' H' < μ σ H,bk:=D.nx } σ H1 else D.nx σ H1)
    (mono : ∀ σ H Q Q',(∀ b H1,Q b H1 → Q' b H1) → c σ H Q → c σ H Q') : tWhile c tb D σ H:=by
  refine ⟨fun m σ H=>m = μ σ H ∧ Pv σ H,⟨_,rfl,h0⟩,?_⟩
  rintro m σ H ⟨rfl,p⟩
  refine mono σ H _ _ (fun b H1 q=>?_) (hs σ H p)
  cases b with
  | true=>exact ⟨_,fun σ' H' ⟨p',l⟩=>⟨_,l,rfl,p'⟩,q⟩
  | false=>exact q
end L2
namespace L2
open PySem PySem.Spec PyProof.Rows
abbrev R2:=V → V → Hp → VK → Prop
def OpR (X:Cx) (f:Value → Value → Sem Value) (r:R2) : Prop:=
  ∀ (pins:List (Addr × Obj)) (s:Shared) (σ : St) (H:Hp) (x y:V) (v u:Value) (Q:VK),Inv X pins σ H s → RelV x v → RelV y u → r x y H Q →
    wpAny (model X.prog X.w) X.A (f v u) (EP X pins σ Q) X.xe s
def UnR (X:Cx) (f:Value → Sem Value) (r:V → Hp → VK → Prop) : Prop:=
  ∀ (pins:List (Addr × Obj)) (s:Shared) (σ : St) (H:Hp) (x:V) (v:Value) (Q:VK),Inv X pins σ H s → RelV x v → r x H Q →
    wpAny (model X.prog X.w) X.A (f v) (EP X pins σ Q) X.xe s
def CallR (X:Cx) (f:Value) (r:List V → Hp → VK → Prop) : Prop:=
  ∀ (pins:List (Addr × Obj)) (s:Shared) (σ : St) (H:Hp) (xs:List V) (us:List Value) (Q:VK),Inv X pins σ H s → Vals xs us → r xs H Q →
    wpAny (model X.prog X.w) X.A (call f us) (EP X pins σ Q) X.xe s
def TruR (X:Cx) (r:V → Hp → (Bool → Hp → Prop) → Prop) : Prop:=
  ∀ (pins:List (Addr × Obj)) (s:Shared) (σ : St) (H:Hp) (x:V) (v:Value) (Q:Bool → Hp → Prop),Inv X pins σ H s → RelV x v → r x H Q →
    wpAny (model X.prog X.w) X.A (truthy v) (TP X pins σ Q) X.xe s
def tOp (r:R2) (ta tb:TE) : TE:=fun σ H Q=>ta σ H fun x H1=>tb σ H1 fun y H2=>r x y H2 Q
def tUn (r:V → Hp → VK → Prop) (ta:TE) : TE:=fun σ H Q=>ta σ H fun x H1=>r x H1 Q
def rI (C:Int → Int → Prop) (g:Int → Int → V) : R2:=fun x y H Q=>∃ i j,x = .int i ∧ y = .int j ∧ C i j ∧ Q (g i j) H
def rI0 (g:Int → Int → V) : R2:=fun x y H Q=>∃ i j,x = .int i ∧ y = .int j ∧ Q (g i j) H
def rU (g:Int → V) : V → Hp → VK → Prop:=fun x H Q=>∃ i,x = .int i ∧ Q (g i) H
section
variable {X:Cx} {a b c:Expr} {ta tb tc:TE} {pos:Pos}
theorem binT (ha:PE X a ta) (hb:PE X b tb) {pins:List (Addr × Obj)} {s:Shared} {σ : St} {H:Hp} {R:V → V → Hp → Prop} (I:Inv X pins σ H s)
    (h:ta σ H fun x H1=>tb σ H1 fun y H2=>R x y H2) {Q:Value → Shared → Prop} {f:Value → Value → Sem Value}
    (hf : ∀ v u s2 x y H2,Inv X pins σ H2 s2 → RelV x v → RelV y u → R x y H2 → wpAny (model X.prog X.w) X.A (f v u) Q X.xe s2) :
    wpAny (model X.prog X.w) X.A (eval a X.env) (fun v s₁=>wpAny (model X.prog X.w) X.A (eval b X.env) (fun u s₂=>wpAny (model X.prog X.w) X.A (f v u) Q X.xe s₂) X.xe s₁) X.xe s:=by
  refine thn (ha pins s σ H _ I h) fun v s1 ⟨x,H1,I1,r1,q1⟩=>?_
  refine thn (hb pins s1 σ H1 _ I1 q1) fun u s2 ⟨y,H2,I2,r2,q2⟩=>?_
  exact hf v u s2 x y H2 I2 r1 r2 q2
theorem pe_op {op:Operator} {r:R2} (ho:OpR X (binaryOp op) r) (ha:PE X a ta) (hb:PE X b tb) : PE X (.BinOp a op b pos) (tOp r ta tb):=by
  intro pins s σ H Q I h
  exact wpAny_BinOp (binT ha hb I h fun v u s2 x y H2 I2 rx ry q=>ho pins s2 σ H2 x y v u Q I2 rx ry q)
theorem pe_un {op:UnaryOp} {r:V → Hp → VK → Prop} (ho:UnR X (unaryOp op) r) (ha:PE X a ta) : PE X (.UnaryOp op a pos) (tUn r ta):=by
  intro pins s σ H Q I h
  exact UnaryOp_ (thn (ha pins s σ H _ I h) fun v s1 ⟨x,H1,I1,r1,q1⟩=>ho pins s1 σ H1 x v Q I1 r1 q1)
theorem opI {f:Value → Value → Sem Value} {C:Int → Int → Prop} {g:Int → Int → Int}
    (rule : ∀ (i j:Int) (t u:Tok) (s:Shared) (Q:Value → Shared → Prop) (E:Value → Shared → Prop),C i j → Q (.int (g i j) s.toks) { s with toks:=s.toks + 1 } → wpAny (model X.prog X.w) X.A (f (.int i t) (.int j u)) Q E s) :
    OpR X f (rI C fun i j=>.int (g i j)):=by
  intro pins s σ H x y v u Q I rx ry h
  obtain ⟨i,j,rfl,rfl,hc,q⟩:=h
  obtain ⟨t,rfl⟩:=rx
  obtain ⟨t',rfl⟩:=ry
  exact rule i j t t' s _ _ hc ⟨.int (g i j),H,I.tok _,⟨_,rfl⟩,q⟩
theorem opI0 {f:Value → Value → Sem Value} {g:Int → Int → Int}
    (rule : ∀ (i j:Int) (t u:Tok) (s:Shared) (Q:Value → Shared → Prop) (E:Value → Shared → Prop),Q (.int (g i j) s.toks) { s with toks:=s.toks + 1 } → wpAny (model X.prog X.w) X.A (f (.int i t) (.int j u)) Q E s) :
    OpR X f (rI0 fun i j=>.int (g i j)):=by
  intro pins s σ H x y v u Q I rx ry h
  obtain ⟨i,j,rfl,rfl,q⟩:=h
  obtain ⟨t,rfl⟩:=rx
  obtain ⟨t',rfl⟩:=ry
  exact rule i j t t' s _ _ ⟨.int (g i j),H,I.tok _,⟨_,rfl⟩,q⟩
theorem opB0 {f:Value → Value → Sem Value} {g:Int → Int → Bool}
    (rule : ∀ (i j:Int) (t u:Tok) (s:Shared) (Q:Value → Shared → Prop) (E:Value → Shared → Prop),Q (.bool (g i j)) s → wpAny (model X.prog X.w) X.A (f (.int i t) (.int j u)) Q E s) :
    OpR X f (rI0 fun i j=>.bl (g i j)):=by
  intro pins s σ H x y v u Q I rx ry h
  obtain ⟨i,j,rfl,rfl,q⟩:=h
  obtain ⟨t,rfl⟩:=rx
  obtain ⟨t',rfl⟩:=ry
  exact rule i j t t' s _ _ ⟨.bl (g i j),H,I,rfl,q⟩
def CDiv (i j:Int) : Prop:=0 < j ∧ j < 1073741824
def CPow (i j:Int) : Prop:=0 ≤ j ∧ j ≤ 1000000 ∧ i.natAbs < 2 ^ 64
def CMul (i j:Int) : Prop:=(-(2 ^ 64) < i ∧ i < 2 ^ 64) ∨ (-(2 ^ 64) < j ∧ j < 2 ^ 64)
theorem CMul.ok {i j:Int} (h:CMul i j) : IntMulOk i j:=by
  rcases h with ⟨h1,h2⟩ | ⟨h1,h2⟩
  · exact .of_left (intBits_le_64 h1 h2)
  · exact .of_right (intBits_le_64 h1 h2)
theorem op_add:OpR X (binaryOp .Add) (rI0 fun i j=>.int (i + j)):=opI0 fun _ _ _ _ _ _ _ q=>add_int q
theorem op_sub:OpR X (binaryOp .Sub) (rI0 fun i j=>.int (i - j)):=opI0 fun _ _ _ _ _ _ _ q=>sub_int q
theorem op_mul:OpR X (binaryOp .Mult) (rI CMul fun i j=>.int (i * j)):=opI fun _ _ _ _ _ _ _ hc q=>mul_int q hc.ok
theorem op_fdiv:OpR X (binaryOp .FloorDiv) (rI CDiv fun i j=>.int (i / j)):=opI fun i j _ _ _ _ _ hc q=>by
  have h1:(0:Int) < j:=hc.1
  have h2:j < 1073741824:=hc.2
  exact floordiv_int (by omega) (by rw [Int.fdiv_eq_ediv_of_nonneg i (by omega)]; exact q) (.inl (PyProof.noPylong_small (by omega)))
theorem op_mod:OpR X (binaryOp .Mod) (rI (fun _ j=>0 < j) fun i j=>.int (i % j)):=opI fun i j _ _ _ _ _ hc q=>by
  have h1:(0:Int) < j:=hc
  exact mod_int' (by omega) (by rw [Int.fmod_eq_emod_of_nonneg i (by omega)]; exact q)
theorem op_pow:OpR X (binaryOp .Pow) (rI CPow fun i j=>.int (i ^ j.toNat)):=opI fun _ _ _ _ _ _ _ hc q=>pow_int_small hc.1 hc.2.1 hc.2.2 q
theorem unI {f:Value → Sem Value} {g:Int → Int}
    (rule : ∀ (i:Int) (t:Tok) (s:Shared) (Q:Value → Shared → Prop) (E:Value → Shared → Prop),Q (.int (g i) s.toks) { s with toks:=s.toks + 1 } → wpAny (model X.prog X.w) X.A (f (.int i t)) Q E s) :
    UnR X f (rU fun i=>.int (g i)):=by
  intro pins s σ H x v Q I rx h
  obtain ⟨i,rfl,q⟩:=h
  obtain ⟨t,rfl⟩:=rx
  exact rule i t s _ _ ⟨.int (g i),H,I.tok _,⟨_,rfl⟩,q⟩
theorem un_neg:UnR X (unaryOp .USub) (rU fun i=>.int (-i)):=unI fun _ _ _ _ _ q=>neg_int q
end
def scal:V → V → Bool
  | .non,.non=>true | .non,.int _=>true | .int _,.non=>true | .non,.bl _=>true | .bl _,.non=>true | .non,.str _=>true | .str _,.non=>true
  | .int _,.int _=>true | .bl _,.bl _=>true | .str _,.str _=>true | .byt _,.byt _=>true
  | .int _,.str _=>true | .str _,.int _=>true | .bl _,.str _=>true | .str _,.bl _=>true
  | _,_=>false
def rEq:R2:=fun x y H Q=>scal x y = true ∧ Q (.bl (decide (x = y))) H
def rNe:R2:=fun x y H Q=>scal x y = true ∧ Q (.bl (!decide (x = y))) H
theorem dec_int {i j:Int} : decide (V.int i = V.int j) = (i == j):=by
  rw [Bool.eq_iff_iff]
  simp
theorem dec_bl {i j:Bool} : decide (V.bl i = V.bl j) = (i == j):=by
  rw [Bool.eq_iff_iff]
  simp
theorem dec_str {i j:Str} : decide (V.str i = V.str j) = (i == j):=by
  rw [Bool.eq_iff_iff]
  simp
theorem dec_byt {i j:Array UInt8} : decide (V.byt i = V.byt j) = (i.toList == j.toList):=by
  rw [Bool.eq_iff_iff]
  cases i
  cases j
  simp
section
variable {X:Cx} {a b c:Expr} {ta tb tc:TE} {pos:Pos}
theorem zw {pins:List (Addr × Obj)} {σ : St} {H:Hp} {s:Shared} {Q:VK} {k k':Bool} (I:Inv X pins σ H s) (q:Q (.bl k) H) (e:k = k') : EP X pins σ Q (.bool k') s:=by
  subst e
  exact ⟨.bl k,H,I,rfl,q⟩
theorem op_eq:OpR X (compareOp .Eq) rEq:=by
  intro pins s σ H x y v u Q I rx ry h
  obtain ⟨hs,q⟩:=h
  cases x with
  | non=>
    cases rx
    cases y with
    | non=>cases ry; exact PySem.EqNone.eq_none_none (zw I q (by simp))
    | bl j=>cases ry; exact PySem.EqNone.eq_none_bool (zw I q (by simp))
    | int j=>obtain ⟨t',rfl⟩:=ry; exact PySem.EqNone.eq_none_int (zw I q (by simp))
    | str j=>obtain ⟨t',rfl⟩:=ry; exact PySem.EqNone.eq_none_str (zw I q (by simp))
    | _=>exact absurd (show false = true from hs) Bool.false_ne_true
  | bl i=>
    cases rx
    cases y with
    | non=>cases ry; exact PySem.EqNone.eq_bool_none (zw I q (by simp))
    | bl j=>cases ry; exact eq_bool (zw I q dec_bl)
    | str j=>obtain ⟨t',rfl⟩:=ry; exact PySem.EqMixed.eq_bool_str (zw I q (by simp))
    | _=>exact absurd (show false = true from hs) Bool.false_ne_true
  | int i=>
    obtain ⟨t,rfl⟩:=rx
    cases y with
    | non=>cases ry; exact PySem.EqNone.eq_int_none (zw I q (by simp))
    | int j=>obtain ⟨t',rfl⟩:=ry; exact eq_int (zw I q dec_int)
    | str j=>obtain ⟨t',rfl⟩:=ry; exact PySem.EqMixed.eq_int_str (zw I q (by simp))
    | _=>exact absurd (show false = true from hs) Bool.false_ne_true
  | str i=>
    obtain ⟨t,rfl⟩:=rx
    cases y with
    | non=>cases ry; exact PySem.EqNone.eq_str_none (zw I q (by simp))
    | bl j=>cases ry; exact PySem.EqMixed.eq_str_bool (zw I q (by simp))
    | int j=>obtain ⟨t',rfl⟩:=ry; exact PySem.EqMixed.eq_str_int (zw I q (by simp))
    | str j=>obtain ⟨t',rfl⟩:=ry; exact eq_str (zw I q dec_str)
    | _=>exact absurd (show false = true from hs) Bool.false_ne_true
  | byt i=>
    obtain ⟨t,rfl⟩:=rx
    cases y with
    | byt j=>obtain ⟨t',rfl⟩:=ry; exact PySem.W.eq_bytes (zw I q dec_byt)
    | _=>exact absurd (show false = true from hs) Bool.false_ne_true
  | _=>cases y <;> exact absurd (show false = true from hs) Bool.false_ne_true
theorem op_ne:OpR X (compareOp .NotEq) rNe:=by
  intro pins s σ H x y v u Q I rx ry h
  obtain ⟨hs,q⟩:=h
  cases x with
  | non=>
    cases rx
    cases y with
    | non=>cases ry; exact PySem.EqNone.ne_none_none (zw I q (by simp))
    | bl j=>cases ry; exact PySem.EqNone.ne_none_bool (zw I q (by simp))
    | int j=>obtain ⟨t',rfl⟩:=ry; exact PySem.EqNone.ne_none_int (zw I q (by simp))
    | str j=>obtain ⟨t',rfl⟩:=ry; exact PySem.EqNone.ne_none_str (zw I q (by simp))
    | _=>exact absurd (show false = true from hs) Bool.false_ne_true
  | bl i=>
    cases rx
    cases y with
    | non=>cases ry; exact PySem.EqNone.ne_bool_none (zw I q (by simp))
    | bl j=>cases ry; exact ne_bool (zw I q (congrArg not dec_bl))
    | str j=>obtain ⟨t',rfl⟩:=ry; exact PySem.EqMixed.ne_bool_str (zw I q (by simp))
    | _=>exact absurd (show false = true from hs) Bool.false_ne_true
  | int i=>
    obtain ⟨t,rfl⟩:=rx
    cases y with
    | non=>cases ry; exact PySem.EqNone.ne_int_none (zw I q (by simp))
    | int j=>obtain ⟨t',rfl⟩:=ry; exact ne_int (zw I q (congrArg not dec_int))
    | str j=>obtain ⟨t',rfl⟩:=ry; exact PySem.EqMixed.ne_int_str (zw I q (by simp))
    | _=>exact absurd (show false = true from hs) Bool.false_ne_true
  | str i=>
    obtain ⟨t,rfl⟩:=rx
    cases y with
    | non=>cases ry; exact PySem.EqNone.ne_str_none (zw I q (by simp))
    | bl j=>cases ry; exact PySem.EqMixed.ne_str_bool (zw I q (by simp))
    | int j=>obtain ⟨t',rfl⟩:=ry; exact PySem.EqMixed.ne_str_int (zw I q (by simp))
    | str j=>obtain ⟨t',rfl⟩:=ry; exact ne_str (zw I q (congrArg not dec_str))
    | _=>exact absurd (show false = true from hs) Bool.false_ne_true
  | byt i=>
    obtain ⟨t,rfl⟩:=rx
    cases y with
    | byt j=>obtain ⟨t',rfl⟩:=ry; exact PySem.W.ne_bytes (zw I q (congrArg not dec_byt))
    | _=>exact absurd (show false = true from hs) Bool.false_ne_true
  | _=>cases y <;> exact absurd (show false = true from hs) Bool.false_ne_true
theorem op_lt:OpR X (compareOp .Lt) (rI0 fun i j=>.bl (decide (i < j))):=opB0 fun _ _ _ _ _ _ _ q=>lt_int q
theorem op_le:OpR X (compareOp .LtE) (rI0 fun i j=>.bl (decide (i ≤ j))):=opB0 fun _ _ _ _ _ _ _ q=>le_int q
theorem op_gt:OpR X (compareOp .Gt) (rI0 fun i j=>.bl (decide (j < i))):=opB0 fun _ _ _ _ _ _ _ q=>gt_int q
theorem op_ge:OpR X (compareOp .GtE) (rI0 fun i j=>.bl (decide (j ≤ i))):=opB0 fun _ _ _ _ _ _ _ q=>ge_int q
theorem op_isN:OpR X (compareOp .Is) (fun x y H Q=>y = .non ∧ Q (.bl (decide (x = .non))) H):=by
  intro pins s σ H x y v u Q I rx ry h
  obtain ⟨rfl,q⟩:=h
  cases ry
  refine is_none_gen (zw I q ?_)
  cases x <;> first
    | (cases rx; rfl)
    | (obtain ⟨t,rfl⟩:=rx; rfl)
theorem op_notN:OpR X (compareOp .IsNot) (fun x y H Q=>y = .non ∧ Q (.bl (!decide (x = .non))) H):=by
  intro pins s σ H x y v u Q I rx ry h
  obtain ⟨rfl,q⟩:=h
  cases ry
  refine isnot_none_gen (zw I q ?_)
  cases x <;> first
    | (cases rx; rfl)
    | (obtain ⟨t,rfl⟩:=rx; rfl)
theorem zv (b:Expr) {op:CmpOp} (h:op ≠ .In:=by decide) (h2:op ≠ .NotIn:=by decide) : behindInMarks op b = false:=by
  have e1:(op == CmpOp.In) = false:=by cases op <;> first | rfl | exact absurd rfl h
  have e2:(op == CmpOp.NotIn) = false:=by cases op <;> first | rfl | exact absurd rfl h2
  cases b <;> simp [behindInMarks,e1,e2]
theorem pe_cmpR {op:CmpOp} {r:R2} (ho:OpR X (compareOp op) r) (ha:PE X a ta) (hb:PE X b tb) (hm:behindInMarks op b = false) : PE X (.Compare a [op] [b] pos) (tOp r ta tb):=by
  intro pins s σ H Q I h
  exact wpAny_Compare1 (binT ha hb I h fun v u s2 x y H2 I2 rx ry q=>ho pins s2 σ H2 x y v u Q I2 rx ry q) hm
def tTest (t:TE) : TT:=fun σ H Q=>t σ H fun x H'=>∃ k,x = .bl k ∧ Q k H'
theorem qr {op:CmpOp} {r:R2} (ho:OpR X (compareOp op) r) (ha:PE X a ta) (hb:PE X b tb) (hm:behindInMarks op b = false) : PT X (.Compare a [op] [b] pos) (tTest (tOp r ta tb)):=by
  intro pins s σ H Q I h
  refine wpAny_isTrue_Compare1 (thn (ha pins s σ H _ I h) fun v s1 ⟨x,H1,I1,r1,q1⟩=>thn (hb pins s1 σ H1 _ I1 q1) fun u s2 ⟨y,H2,I2,r2,q2⟩=>
    thn (ho pins s2 σ H2 x y v u _ I2 r1 r2 q2) fun c s3 ⟨z,H3,I3,r3,k,e,q3⟩=>?_) hm
  subst e
  cases r3
  exact wpAny_truthy_bool ⟨H3,I3,q3⟩
def tChain (r r':R2) (ta tb tc:TE) : TE:=fun σ H Q=>ta σ H fun x H1=>tb σ H1 fun y H2=>r x y H2 fun z H3=>∃ k,z = .bl k ∧
  (if k = true then tc σ H3 fun w' H4=>r' y w' H4 Q else Q (.bl false) H3)
theorem pe_chain {op op':CmpOp} {r r':R2} (ho:OpR X (compareOp op) r) (ho':OpR X (compareOp op') r') (ha:PE X a ta) (hb:PE X b tb) (hc:PE X c tc)
    (hm:lastMarks [op,op'] [b,c] = false:=by with_unfolding_all rfl) : PE X (.Compare a [op,op'] [b,c] pos) (tChain r r' ta tb tc):=by
  intro pins s σ H Q I h
  refine Compare_chain (thn (ha pins s σ H _ I h) fun v s1 ⟨x,H1,I1,r1,q1⟩=>chain_link (thn (hb pins s1 σ H1 _ I1 q1) fun u s2 ⟨y,H2,I2,r2,q2⟩=>
    thn (ho pins s2 σ H2 x y v u _ I2 r1 r2 q2) fun d s3 ⟨z,H3,I3,r3,k,e,q3⟩=>?_)) hm
  subst e
  cases r3
  refine wpAny_truthy_bool ?_
  cases k with
  | false=>exact ite_ff ⟨.bl false,H3,I3,rfl,q3⟩
  | true=>exact ite_tt (chain_last (thn (hc pins s3 σ H3 _ I3 q3) fun w' s4 ⟨z',H4,I4,r4,q4⟩=>ho' pins s4 σ H4 y z' u w' Q I4 r2 r4 q4))
def TruV (K:PySem.W.Frag) (x:V) (H:Hp) (k:Bool) : Prop:=
  match x with
  | .non=>k = false
  | .bl b=>k = b
  | .int i=>k = (i != 0)
  | .str y=>y.length ≤ sizeLine ∧ k = ((y.length:Int) != 0)
  | .byt y=>y.size ≤ sizeLine ∧ k = ((y.size:Int) != 0)
  | .ref p=>(∃ xs,SqL K H p xs ∧ k = !xs.isEmpty) ∨ (∃ xs,SqT K H p xs ∧ k = !xs.isEmpty) ∨ ∃ kvs,H p = some (.dK kvs) ∧ k = !kvs.isEmpty
  | _=>False
theorem isEmpty_kv {κ : Type} {kvs:List (κ × V)} {vs:List (κ × Value)} (r:KV kvs vs) : (!vs.isEmpty) = !kvs.isEmpty:=by
  cases r <;> rfl
theorem isEmpty_of {xs:List V} {its:List Value} (r:Vals xs its) : (!its.toArray.isEmpty) = !xs.isEmpty:=by
  cases r <;> simp
theorem line63:(sizeLine:Nat) < 2 ^ 63:=by rw [sizeLine_eq]; decide
theorem tru_ok:TruR X (fun x H Q=>∃ k,TruV X.K x H k ∧ Q k H):=by
  intro pins s σ H x v Q I rx h
  obtain ⟨k,e,q⟩:=h
  have hl:=line63
  have hs:sizeLine = 16777216:=sizeLine_eq
  cases x with
  | non=>
    cases rx
    have e':k = false:=e
    subst e'
    exact truthy_none ⟨H,I,q⟩
  | bl b=>
    cases rx
    have e':k = b:=e
    subst e'
    exact wpAny_truthy_bool ⟨H,I,q⟩
  | int i=>
    obtain ⟨t,rfl⟩:=rx
    have e':k = (i != 0):=e
    subst e'
    exact PySem.P.truthy_int ⟨H,I,q⟩
  | str y=>
    obtain ⟨t,rfl⟩:=rx
    obtain ⟨hy,e'⟩ : y.length ≤ sizeLine ∧ k = ((y.length:Int) != 0):=e
    subst e'
    exact PySem.P.truthy_str (by omega) ⟨H,I.tok _,q⟩
  | byt y=>
    obtain ⟨t,rfl⟩:=rx
    obtain ⟨hy,e'⟩ : y.size ≤ sizeLine ∧ k = ((y.size:Int) != 0):=e
    subst e'
    exact PySem.W.truthy_bytes (by omega) ⟨H,I.tok _,q⟩
  | ref p=>
    cases rx
    have e':(∃ xs,SqL X.K H p xs ∧ k = !xs.isEmpty) ∨ (∃ xs,SqT X.K H p xs ∧ k = !xs.isEmpty) ∨ ∃ kvs,H p = some (.dK kvs) ∧ k = !kvs.isEmpty:=e
    rcases e' with ⟨xs,hx,e'⟩ | ⟨xs,hx,e'⟩ | ⟨kvs,hx,e'⟩
    · subst e'
      obtain ⟨its,r,pl,hz⟩:=I.list hx
      have hlen:=r.length
      exact wpAny_truthy_list pl.isList (by simp only [List.size_toArray]; omega) ⟨H,I.tok _,by rw [isEmpty_of r]; exact q⟩
    · subst e'
      obtain ⟨its,r,pl,hz⟩:=I.tuple hx
      have hlen:=r.length
      exact truthy_tuple pl (by simp only [List.size_toArray]; omega) ⟨H,I.tok _,by rw [isEmpty_of r]; exact q⟩
    · subst e'
      obtain ⟨hz,hS,vs,r,m⟩ : kvs.length ≤ sizeLine ∧ (p == sysModules) = false ∧ ∃ vs,KV kvs vs ∧ s.heap.DictOf (zh X.prog X.w) p vs:=I.hok p _ hx
      have hlen:kvs.length = vs.length:=Paired.length r
      exact wpAny_truthy_dict hS m (by omega) ⟨H,I.tok _,by rw [isEmpty_kv r]; exact q⟩
  | _=>exact (show False from e).elim
theorem pt_truth (ha:PE X a ta) (he : ∀ whole,isTrue a X.env whole = (do let v ← whole; standAt a.pos; holding [v] (truthy v))) :
    PT X a (fun σ H Q=>ta σ H fun x H'=>∃ k,TruV X.K x H' k ∧ Q k H'):=by
  intro pins s σ H Q I h
  exact isTrue_plain (thn (ha pins s σ H _ I h) fun v s1 ⟨x,H1,I1,r1,q1⟩=>tru_ok pins s1 σ H1 x v Q I1 r1 q1) (he _)
theorem vals1 {x:V} {us:List Value} (r:Vals [x] us) : ∃ u,us = [u] ∧ RelV x u:=by
  cases r with
  | cons r1 r2=>cases r2; exact ⟨_,rfl,r1⟩
theorem vals2 {x y:V} {us:List Value} (r:Vals [x,y] us) : ∃ u w',us = [u,w'] ∧ RelV x u ∧ RelV y w':=by
  cases r with
  | cons r1 r2=>
    cases r2 with
    | cons r3 r4=>cases r4; exact ⟨_,_,rfl,r1,r3⟩
end
end L2
namespace L2
open PySem PySem.Spec PyProof.Rows
structure ObjM (h:Heap) (x dx C:Addr) (mA:Str → Option Value) : Prop where
  obj:h.get? x = some (PySem.W.instObj C dx)
  ns:h.Ns1 dx mA
  ne:dx ≠ x
theorem lookIn_ns {h:Heap} {dx:Addr} {mA:Str → Option Value} (n:h.Ns1 dx mA) : ∃ od,h.get? dx = some od ∧ ∀ name,PySem.W.lookIn name od = some (mA name):=by
  obtain ⟨o,es,ep,ho,hd,hk,_,hm⟩:=n
  refine ⟨o,ho,fun name=>?_⟩
  have e:=hm name
  unfold nsFind findBy at e
  rw [← Array.find?_toList] at e
  unfold PySem.W.lookIn
  rw [hd]
  dsimp only
  split
  · rename_i y q
    rw [q] at e
    exact congrArg some e
  · rename_i q
    rw [q] at e
    have a:es.toList.any (·.refKey) = false:=by
      rw [List.any_eq_false]
      intro y hy
      obtain ⟨z,t,hkey⟩:=hk y (Array.mem_toList_iff.mp hy)
      simp [DictEntry.refKey,hkey]
    have a' : ¬ es.toList.any (·.refKey) = true:=by rw [a]; exact Bool.false_ne_true
    rw [if_neg a']
    exact congrArg some e
theorem ObjM.look {h:Heap} {x dx C:Addr} {mA:Str → Option Value} (I:ObjM h x dx C mA) : ∃ od,PySem.W.InstAt h x (PySem.W.instObj C dx) C (some od) ∧ ∀ name,PySem.W.lookIn name od = some (mA name):=
  let ⟨od,ho,hl⟩:=lookIn_ns I.ns
  ⟨od,⟨I.obj,rfl,rfl,ho⟩,hl⟩
section
variable {prog:Program} {w:World} {A:Around} {E:Value → Shared → Prop} {s:Shared} {K:PySem.W.Frag} {x dx C f:Addr} {mA:Str → Option Value} {name:Str} {v:Value}
theorem get_map {expr:Bool} {Q:Value → Shared → Prop} (X:K.In s.heap) (I:ObjM s.heap x dx C mA) (hg:PySem.W.plainGet K C name = true) (hh:PySem.W.hasDictIn K C = true)
    (ha:PySem.W.findIn K (.ref C) name = some none) (hv:mA name = some v) (hv':PySem.W.handedIn v = true) (h:Q v { s with toks:=s.toks + 1 }) :
    wpAny (model prog w) A (getAttr (.ref x) name expr) Q E s:=by
  obtain ⟨od,J,hl⟩:=I.look
  exact PySem.W.get_value X J (PySem.W.plainGet_of hg).1 (PySem.W.findObj_own hh ha rfl (by rw [hl,hv])) hv' h
theorem get_meth {pl:Sem Bool} {Q:Value × List Value → Shared → Prop} (X:K.In s.heap) (I:ObjM s.heap x dx C mA) (hg:PySem.W.plainGet K C name = true)
    (hf:PySem.W.findIn K (.ref C) name = some (some (.ref f))) (ht:PySem.W.isFn K (.ref f) = true) (hv:mA name = none) (h:Q (.ref f,[.ref x]) s) :
    wpAny (model prog w) A (getMethod (.ref x) name pl) Q E s:=by
  obtain ⟨od,J,hl⟩:=I.look
  exact PySem.W.method_fn X J (PySem.W.plainGet_of hg).1 (PySem.W.plainGet_of hg).2 hf (beq_iff_eq.mp ht) (by show (PySem.W.lookIn name od).map (·.isSome) = some false; rw [hl,hv]; rfl) h
theorem set_map {ns:List Str} {Q:Unit → Shared → Prop} (X:K.In s.heap) (I:ObjM s.heap x dx C mA)
    (hs:PySem.W.findIn K (.ref C) "__setattr__" = some (some (.builtin "object.__setattr__"))) (hp:PySem.W.plainOver K C = true) (ht:PySem.W.takerIn K C name = some none) (hh:PySem.W.hasDictIn K C = true)
    (hw:PySem.Within mA ns) (hsz:ns.length ≤ sizeLine)
    (h : ∀ h',ObjM h' x dx C (fun y=>if y = name then some v else mA y) → Heap.SameBut dx s.heap h' → Q () { s with heap:=h',toks:=s.toks + 2 }) :
    wpAny (model prog w) A (setAttr (.ref x) name v) Q E s:=by
  obtain ⟨od,J,hl⟩:=I.look
  refine PySem.W.set_plain X J hs (PySem.W.osa_open (s:={ s with toks:=s.toks + 1 }) (r:=none) X J hp ht fun b=>?_)
  obtain ⟨cd,hc,hd'⟩:=PySem.W.any_some hh
  have hx:s.heap.get? x = some ⟨.ref C,some dx,.plain,#[]⟩:=I.obj
  refine wpAny_bind (wpAny_pure (wpAny_bind (wpAny_bind (wpAny_loadPart hx (wpAny_bind (PySem.W.Looks.here (s:={ s with toks:=s.toks + 1 }) (PySem.W.looks_clsIn X hc) ?_))))))
  rw [hd']
  refine wpAny_pure (a:=some dx) (wpAny_bind (wpAny_pure (wpAny_bind ?_)))
  refine wpAny_nsSet1 (s:={ s with toks:=s.toks + 1 }) I.ns fun h' hn2 hs2=>?_
  obtain ⟨oD,esD,epD,hoD,hdD,hcD⟩:=hn2.count (PySem.Within.cons name v hw)
  refine wpAny_bind (wpAny_lookBehind hoD (by rw [hdD]; exact pastItsLine_dict (Nat.le_trans hcD (by rw [List.length_cons]; omega))) ?_)
  exact wpAny_pure (h _ ⟨(hs2.2 _ (Ne.symm I.ne)).trans I.obj,hn2,I.ne⟩ hs2)
theorem make_map {R:Result → Shared → Prop} {vs:List Value} {kw:List (Str × Value)} (X:K.In s.heap) (hm:PySem.W.makesIn K C = true)
    (hi:PySem.W.findIn K (.ref C) "__init__" = some (some (.ref f))) (hf:PySem.W.typeIn K (.ref f) = some (.type "function"))
    (h:codeAny (model prog w) (A.under (.builtin "type.__call__" ⟨.ref C :: vs,kw⟩)) (.call (.ref f) ⟨.ref (s.heap.objs.size + 1) :: vs,kw⟩) (PySem.W.InitBack (s.heap.objs.size + 1) R)
      { s with heap:=(s.heap.push PySem.W.emptyDict).push (PySem.W.instObj C s.heap.objs.size) }) :
    codeAny (model prog w) A (.call (.ref C) ⟨vs,kw⟩) R s:=by
  obtain ⟨hh,g,d,t,os⟩:=s
  exact PySem.W.make_core (PySem.W.makes_of X hm) (PySem.W.looks_findIn X hi) (fun self=>PySem.W.bind_fn X self hf) (.inl rfl) h
end
def j9 (f:Str) (v:V) : List (Str × V) → List (Str × V)
  | []=>[(f,v)]
  | (g,x) :: r=>if g = f then (g,v) :: r else (g,x) :: j9 f v r
theorem jl (f g:Str) (v:V) : ∀ fs:List (Str × V),(j9 f v fs).lookup g = if g = f then some v else fs.lookup g
  | []=>by
    show List.lookup g [(f,v)] = _
    by_cases h:g = f
    · have hb:(g == f) = true:=beq_iff_eq.mpr h
      simp only [List.lookup,hb,if_pos h]
    · have hb:(g == f) = false:=beq_eq_false_iff_ne.mpr h
      simp only [List.lookup,hb,if_neg h]
  | (k, x) :: r=>by
    have ih:=jl f g v r
    rw [show j9 f v ((k,x) :: r) = (if k = f then (k,v) :: r else (k,x) :: j9 f v r) from rfl]
    by_cases hk:k = f
    · rw [if_pos hk]
      by_cases h:g = k
      · have hb:(g == k) = true:=beq_iff_eq.mpr h
        simp only [List.lookup,hb,if_pos (h.trans hk)]
      · have hb:(g == k) = false:=beq_eq_false_iff_ne.mpr h
        simp only [List.lookup,hb,if_neg (fun e:g = f=>h (e.trans hk.symm))]
    · rw [if_neg hk]
      by_cases h:g = k
      · have hb:(g == k) = true:=beq_iff_eq.mpr h
        simp only [List.lookup,hb,if_neg (fun e:g = f=>hk (h.symm.trans e))]
      · have hb:(g == k) = false:=beq_eq_false_iff_ne.mpr h
        simp only [List.lookup,hb]
        exact ih
theorem keys_putF (f:Str) (v:V) : ∀ fs:List (Str × V),f ∈ (j9 f v fs).map (·.1) ∧ ∀ g,g ∈ fs.map (·.1) → g ∈ (j9 f v fs).map (·.1)
  | []=>⟨by simp [j9],fun g h=>by simp at h⟩
  | (k, x) :: r=>by
    obtain ⟨i1,i2⟩:=keys_putF f v r
    rw [show j9 f v ((k,x) :: r) = (if k = f then (k,v) :: r else (k,x) :: j9 f v r) from rfl]
    by_cases hk:k = f
    · rw [if_pos hk]
      subst hk
      exact ⟨by simp,fun g h=>by simpa using h⟩
    · rw [if_neg hk]
      refine ⟨?_,fun g h=>?_⟩
      · rw [List.map_cons]
        exact List.mem_cons_of_mem _ i1
      · rw [List.map_cons] at h ⊢
        rcases List.mem_cons.mp h with e | e
        · exact List.mem_cons.mpr (.inl e)
        · exact List.mem_cons_of_mem _ (i2 g e)
theorem length_putF (f:Str) (v:V) : ∀ fs:List (Str × V),(j9 f v fs).length ≤ fs.length + 1
  | []=>by simp [j9]
  | (k,x) :: r=>by
    have ih:=length_putF f v r
    rw [show j9 f v ((k,x) :: r) = (if k = f then (k,v) :: r else (k,x) :: j9 f v r) from rfl]
    by_cases hk:k = f
    · rw [if_pos hk,List.length_cons,List.length_cons]; omega
    · rw [if_neg hk,List.length_cons,List.length_cons]; omega
theorem RelO.some_of {v:V} {o:Option Value} (r:RelO (some v) o) : ∃ u,o = some u ∧ RelV v u:=by
  cases o with
  | none=>exact (show False from r).elim
  | some u=>exact ⟨u,rfl,r⟩
theorem RelO.none_of {o:Option Value} (r:RelO none o) : o = none:=by
  cases o with
  | none=>rfl
  | some u=>exact (show False from r).elim
theorem handed_of {v:V} {u:Value} (r:RelV v u) : PySem.W.handedIn u = true:=by
  cases v with
  | non=>cases (show u = Value.none from r); rfl
  | bl b=>cases (show u = Value.bool b from r); rfl
  | int i=>obtain ⟨t,e⟩:=(show ∃ t,u = Value.int i t from r); cases e; rfl
  | str x=>obtain ⟨t,e⟩:=(show ∃ t,u = Value.str x t from r); cases e; rfl
  | byt b=>obtain ⟨t,e⟩:=(show ∃ t,u = Value.bytes b t from r); cases e; rfl
  | flt b=>obtain ⟨t,e⟩:=(show ∃ t,u = Value.float b t from r); cases e; rfl
  | ref a=>cases (show u = Value.ref a from r); rfl
  | ty n=>cases (show u = Value.type n from r); rfl
section
variable {P:Program} {w:World} {H H':Hp} {h h':Heap} {a C dx:Addr} {fs fs':List (Str × V)}
theorem ins_get (hok:HOk P w H h) (e:H a = some (.ins C dx fs)) : ∃ mA,ObjM h a dx C mA ∧ (∀ f,RelO (fs.lookup f) (mA f)) ∧ PySem.Within mA (fs.map (·.1)) ∧ fs.length ≤ 1000 ∧ H dx = some (.own a):=by
  obtain ⟨d,z,ne,ob,mA,n,r,q⟩:=(show ObjOk P w H h a (.ins C dx fs) from hok a _ e)
  exact ⟨mA,⟨ob,n,ne⟩,r,q,z,d⟩
end
structure Cls (K:PySem.W.Frag) (C:Addr) : Prop where
  pg:PySem.W.plainGet K C Str.empty = true
  hd:PySem.W.hasDictIn K C = true
  po:PySem.W.plainOver K C = true
  sa:PySem.W.findIn K (.ref C) "__setattr__" = some (some (.builtin "object.__setattr__"))
theorem Cls.get {K:PySem.W.Frag} {C:Addr} (c:Cls K C) (f:Str) : PySem.W.plainGet K C f = true:=c.pg
def yh (K:PySem.W.Frag) (C:Addr) (f:Str) : Prop:=PySem.W.findIn K (.ref C) f = some none
theorem yh.taker {K:PySem.W.Frag} {C:Addr} {f:Str} (n:yh K C f) : PySem.W.takerIn K C f = some none:=by
  unfold PySem.W.takerIn
  rw [show PySem.W.findIn K (.ref C) f = some none from n]
  rfl
structure Meth (K:PySem.W.Frag) (C:Addr) (m:Str) (f:Addr) : Prop where
  at_:PySem.W.findIn K (.ref C) m = some (some (.ref f))
  fn:PySem.W.isFn K (.ref f) = true
  kp:PySem.W.keepIn K (.ref f) = true
section
variable {X:Cx} {pins:List (Addr × Obj)} {σ : St} {H:Hp} {s:Shared} {a C dx:Addr} {fs:List (Str × V)} {f:Str} {v:V} {A:Around} {E:Value → Shared → Prop}
theorem getattr_ok {b:Bool} {Q:Value → Shared → Prop} (I:Inv X pins σ H s) (e:H a = some (.ins C dx fs)) (c:Cls X.K C) (n:yh X.K C f) (l:fs.lookup f = some v)
    (h : ∀ u s',Inv X pins σ H s' → RelV v u → Q u s') : wpAny (model X.prog X.w) A (getAttr (.ref a) f b) Q E s:=by
  obtain ⟨mA,O,r,_,_,_⟩:=ins_get I.hok e
  obtain ⟨u,hu,ru⟩:=RelO.some_of (v:=v) (o:=mA f) (by rw [← l]; exact r f)
  exact get_map I.kIn O (c.get f) c.hd n hu (handed_of ru) (h u _ (I.tok _) ru)
theorem getmeth_ok {m:Str} {g:Addr} {pl:Sem Bool} {Q:Value × List Value → Shared → Prop} (I:Inv X pins σ H s) (e:H a = some (.ins C dx fs)) (c:Cls X.K C) (k:Meth X.K C m g) (l:fs.lookup m = none)
    (h:Q (.ref g,[.ref a]) s) : wpAny (model X.prog X.w) A (getMethod (.ref a) m pl) Q E s:=by
  obtain ⟨mA,O,r,_,_,_⟩:=ins_get I.hok e
  have hn:mA m = none:=RelO.none_of (by rw [← l]; exact r m)
  exact get_meth I.kIn O (c.get m) k.at_ k.fn hn h
theorem setattr_ok {y:V} {u:Value} {Q:Unit → Shared → Prop} (I:Inv X pins σ H s) (e:H a = some (.ins C dx fs)) (c:Cls X.K C) (n:yh X.K C f) (hl:fs.length < 1000) (ry:RelV y u)
    (h : ∀ s',Inv X pins σ (upd H a (.ins C dx (j9 f y fs))) s' → Q () s') : wpAny (model X.prog X.w) A (setAttr (.ref a) f u) Q E s:=by
  obtain ⟨mA,O,r,wi,_,ho⟩:=ins_get I.hok e
  have hz:(fs.map (·.1)).length ≤ sizeLine:=by rw [List.length_map,sizeLine_eq]; omega
  refine set_map I.kIn O c.sa c.po n.taker c.hd wi hz fun h' O' sb=>h _ ?_
  have hd : ∃ o,h'.get? dx = some o:=let ⟨o,_,_,e',_⟩:=O'.ns; ⟨o,e'⟩
  refine I.write (x:=a) (e:=dx) (by rw [e]; exact True.intro) (.inr ho) (fun b q hb z=>(sb.2 b hb).trans z) hd ?_
  refine ⟨by rw [je O.ne]; exact ho,?_,O.ne,O'.obj,_,O'.ns,fun g=>?_,fun g hg=>?_⟩
  · have:=length_putF f y fs; omega
  · show RelO ((j9 f y fs).lookup g) (if g = f then some u else mA g)
    rw [jl]
    by_cases q:g = f
    · rw [if_pos q,if_pos q]; exact ry
    · rw [if_neg q,if_neg q]; exact r g
  · by_cases q:g = f
    · rw [q]; exact (keys_putF f y fs).1
    · refine (keys_putF f y fs).2 g (wi g fun z=>hg ?_)
      show (if g = f then some u else mA g) = none
      rw [if_neg q]; exact z
theorem Inv.made (I:Inv X pins σ H s) : Inv X pins σ (upd (upd H s.heap.objs.size (.own (s.heap.objs.size + 1))) (s.heap.objs.size + 1) (.ins C s.heap.objs.size []))
    { s with heap:=(s.heap.push PySem.W.emptyDict).push (PySem.W.instObj C s.heap.objs.size) }:=by
  have e1:(s.heap.push PySem.W.emptyDict).get? s.heap.objs.size = some PySem.W.emptyDict:=Heap.get?_push_size s.heap rfl
  have e2:((s.heap.push PySem.W.emptyDict).push (PySem.W.instObj C s.heap.objs.size)).get? (s.heap.objs.size + 1) = some (PySem.W.instObj C s.heap.objs.size):=by
    have:=Heap.get?_push_size (s.heap.push PySem.W.emptyDict) (o:=PySem.W.instObj C s.heap.objs.size) rfl
    rwa [Heap.size_push] at this
  have e3:(s.heap.push PySem.W.emptyDict).Ns s.heap.objs.size (fun _=>none):=⟨PySem.W.emptyDict,#[],_,e1,rfl,(fun e he=>absurd he (by simp)),fun _=>rfl⟩
  have I1:=I.laid (a:=s.heap.objs.size) (o:=.own (s.heap.objs.size + 1)) (h':=s.heap.push PySem.W.emptyDict) (t':=s.toks) (fun b u q=>Heap.get?_push_of_some _ q) (Nat.le_refl _) ⟨_,e1⟩
  refine I1.laid (a:=s.heap.objs.size + 1) (o:=.ins C s.heap.objs.size []) (t':=s.toks) (fun b u q=>Heap.get?_push_of_some _ q) (Nat.le_of_eq (Heap.size_push _ _)) ?_
  have ne:s.heap.objs.size ≠ s.heap.objs.size + 1:=Nat.ne_of_lt (Nat.lt_succ_self _)
  refine ⟨by rw [je ne,ja],Nat.zero_le _,ne,e2,fun _=>none,(Heap.Ns1.of_empty e3).at fun o q=>Heap.get?_push_of_some _ q,fun _=>True.intro,fun y hy=>absurd rfl hy⟩
theorem attr_of {prog:Program} {w:World} {env:Env} {e:Expr} {f:Str} {pos:Pos} {s:Shared} {Q:Value → Shared → Prop} (hb:attributeBase e f env (eval e env) = eval e env)
    (h:wpAny (model prog w) A (eval e env) (fun o s₁=>wpAny (model prog w) A (getAttr o f true) Q E s₁) E s) : wpAny (model prog w) A (eval (.Attribute e f pos) env) Q E s:=
  Attribute_any_ h (by rw [arm_eval_Attribute,hb])
end
def tFld (K:PySem.W.Frag) (ta:TE) (f:Str) : TE:=fun σ H Q=>ta σ H fun x H1=>∃ a C dx fs v,x = .ref a ∧ H1 a = some (.ins C dx fs) ∧ Cls K C ∧ yh K C f ∧ fs.lookup f = some v ∧ Q v H1
def sFld (K:PySem.W.Frag) (ta tv:TE) (f:Str) : TS:=fun D σ H=>tv σ H fun y H1=>ta σ H1 fun x H2=>∃ a C dx fs,x = .ref a ∧ H2 a = some (.ins C dx fs) ∧ Cls K C ∧ yh K C f ∧ fs.length < 1000 ∧
  D.nx σ (upd H2 a (.ins C dx (j9 f y fs)))
section
variable {X:Cx} {o e value:Expr} {f:Str} {pos pos' tpos:Pos} {ta tv:TE}
theorem qa (he:PE X e ta) (hb:attributeBase e f X.env (eval e X.env) = eval e X.env) : PE X (.Attribute e f pos) (tFld X.K ta f):=by
  intro pins s σ H Q I h
  refine attr_of hb (thn (he pins s σ H _ I h) fun u s1 ⟨x,H1,I1,rx,a,C,dx,fs,v,ex,ea,c,n,l,q⟩=>?_)
  subst ex
  obtain rfl:u = Value.ref a:=rx
  exact getattr_ok I1 ea c n l fun u' s2 I2 ru=>⟨v,H1,I2,ru,q⟩
theorem ps_fld (ha:PE X o ta) (hv:PE X value tv) (hs:swapsWith value (some (.Attribute o f pos')) pos.line X.env = pure false) : PS X (.Assign [.Attribute o f pos'] value pos) (sFld X.K ta tv f):=by
  intro pins s σ H D I h
  refine plainObj_wpAny_Assign_Attribute (thn (hv pins s σ H _ I h) fun u s1 ⟨y,H1,I1,ry,q⟩=>thn (ha pins s1 σ H1 _ I1 q) fun ov s2 ⟨x,H2,I2,rx,a,C,dx,fs,ex,ea,c,n,l,q2⟩=>?_) hs
  subst ex
  obtain rfl:ov = Value.ref a:=rx
  exact setattr_ok I2 ea c n l ry fun s3 I3=>⟨σ,_,I3,q2⟩
theorem methcall_of {pl:Sem Bool} {m:Str} {apos:Pos} {args:List Expr} {pins:List (Addr × Obj)} {s:Shared} {σ : St} {H:Hp} {Q:Value → Shared → Prop} {te:TE} (he:PE X e te) (I:Inv X pins σ H s)
    (h:te σ H fun x H1=>∃ a C dx fs g,x = .ref a ∧ H1 a = some (.ins C dx fs) ∧ Cls X.K C ∧ Meth X.K C m g ∧ fs.lookup m = none ∧
      ∀ s1,Inv X pins σ H1 s1 → wpAny (model X.prog X.w) X.A (callWith pos (.ref g) [.ref a] (backTo pos (starEach args X.env)) (backToKw pos (keywordEach [] X.env))) Q X.xe s1)
    (ht:eval (.Call (.Attribute e m apos) args [] pos) X.env = (do
      let ov ← eval e X.env
      standAt apos.atName
      let (f,first) ← holding [ov] (getMethod ov m pl)
      callWith pos f first (backTo pos (starEach args X.env)) (backToKw pos (keywordEach [] X.env)))) :
    wpAny (model X.prog X.w) X.A (eval (.Call (.Attribute e m apos) args [] pos) X.env) Q X.xe s:=by
  refine PySem.W.methodCall_KW (pl:=pl) (thn (he pins s σ H _ I h) fun u s1 ⟨x,H1,I1,rx,a,C,dx,fs,g,ex,ea,c,k,l,q⟩=>?_) ht
  subst ex
  obtain rfl:u = Value.ref a:=rx
  exact getmeth_ok I1 ea c k l (q s1 I1)
end
section
variable {X:Cx} {pins:List (Addr × Obj)} {σ : St} {H:Hp} {s:Shared} {A:Around} {E:Value → Shared → Prop} {Q:Value → Shared → Prop} {c:Value} {b:Bool}
inductive TyOf (K:PySem.W.Frag) (H:Hp) : V → Value → Prop where
  | non:TyOf K H .non (.type "NoneType")
  | bl (x:Bool) : TyOf K H (.bl x) (.type "bool")
  | int (i:Int) : TyOf K H (.int i) (.type "int")
  | str (x:Str) : TyOf K H (.str x) (.type "str")
  | flt (x:UInt64) : TyOf K H (.flt x) (.type "float")
  | lst {a:Addr} {xs:List V} (e:H a = some (.lst xs)) : TyOf K H (.ref a) (.type "list")
  | frz {a:Addr} {o:Obj} {xs:List V} (e:H a = some (.frz o (.lst xs))) : TyOf K H (.ref a) (.type "list")
  | tup {a:Addr} {xs:List V} (e:H a = some (.tup xs)) : TyOf K H (.ref a) (.type "tuple")
  | dK {a:Addr} {kvs:List (Key × V)} (e:H a = some (.dK kvs)) : TyOf K H (.ref a) (.type "dict")
  | dT {a:Addr} {kvs:List (List Key × V)} (e:H a = some (.dT kvs)) : TyOf K H (.ref a) (.type "dict")
  | ins {a C dx:Addr} {fs:List (Str × V)} (e:H a = some (.ins C dx fs)) (cl:Cls K C) (ha:PySem.W.findIn K (.ref C) "__class__" = some (some (.builtin "object.__class__")))
      (hn:PySem.W.specialIn K (.builtin "object.__class__") "__get__" = some (some (.builtin "getset_descriptor.__get__"))) (htk:PySem.W.takesIn K (.builtin "object.__class__") = some true)
      (hm:PySem.W.mroIn K C (.type "object") = some true) : TyOf K H (.ref a) (.ref C)
theorem isinst_ok {x:V} {u t:Value} (I:Inv X pins σ H s) (rx:RelV x u) (ty:TyOf X.K H x t) (e:PySem.W.kitOne X.K t c = some b) (h : ∀ tk,Q (.bool b) { s with toks:=tk }) :
    wpAny (model X.prog X.w) A (call (.builtin "isinstance") [u,c]) Q E s:=by
  cases ty with
  | non=>cases (show u = Value.none from rx); exact PySem.W.kia_one PySem.W.kitx_none I.kIn True.intro e (fun z=>nomatch z) h
  | bl y=>cases (show u = Value.bool y from rx); exact PySem.W.kia_one PySem.W.kitx_bool I.kIn True.intro e (fun z=>nomatch z) h
  | int i=>obtain ⟨t,q⟩:=(show ∃ t,u = Value.int i t from rx); cases q; exact PySem.W.kia_one PySem.W.kitx_int I.kIn True.intro e (fun z=>nomatch z) h
  | str y=>obtain ⟨t,q⟩:=(show ∃ t,u = Value.str y t from rx); cases q; exact PySem.W.kia_one PySem.W.kitx_str I.kIn True.intro e (fun z=>nomatch z) h
  | flt y=>obtain ⟨t,q⟩:=(show ∃ t,u = Value.float y t from rx); cases q; exact PySem.W.kia_one PySem.W.kitx_float I.kIn True.intro e (fun z=>nomatch z) h
  | @lst a xs ea=>
    cases (show u = Value.ref a from rx)
    obtain ⟨_,_,n,_,h1⟩:=(show ObjOk X.prog X.w H s.heap a (.lst xs) from I.hok a _ ea)
    exact PySem.W.kia_one PySem.W.kitx_list I.kIn ⟨_,h1,rfl⟩ e (fun z=>nomatch z) h
  | @frz a ob xs ea=>
    cases (show u = Value.ref a from rx)
    obtain ⟨_,_,_,n,_,h1⟩:=(show ObjOk X.prog X.w H s.heap a (.frz ob (.lst xs)) from I.hok a _ ea)
    exact PySem.W.kia_one PySem.W.kitx_list I.kIn ⟨_,h1,rfl⟩ e (fun z=>nomatch z) h
  | @tup a xs ea=>
    cases (show u = Value.ref a from rx)
    obtain ⟨_,_,_,p⟩:=(show ObjOk X.prog X.w H s.heap a (.tup xs) from I.hok a _ ea)
    obtain ⟨o,h1,h2,_⟩:=p
    exact PySem.W.kia_one PySem.W.kitx_tuple I.kIn ⟨o,h1,h2⟩ e (fun z=>nomatch z) h
  | @dK a kvs ea=>
    cases (show u = Value.ref a from rx)
    obtain ⟨_,_,vs,_,p⟩:=(show ObjOk X.prog X.w H s.heap a (.dK kvs) from I.hok a _ ea)
    obtain ⟨o,es,ep,h1,h2,_⟩:=p
    exact PySem.W.kia_one PySem.W.kitx_dict I.kIn ⟨o,h1,h2.1⟩ e (fun z=>nomatch z) h
  | @dT a kvs ea=>
    cases (show u = Value.ref a from rx)
    obtain ⟨_,_,xs,_,o,es,ep,h1,h2,_⟩:=(show ObjOk X.prog X.w H s.heap a (.dT kvs) from I.hok a _ ea)
    exact PySem.W.kia_one PySem.W.kitx_dict I.kIn ⟨o,h1,h2.1⟩ e (fun z=>nomatch z) h
  | @ins a C dx fs ea cl ha hn htk hm=>
    cases (show u = Value.ref a from rx)
    obtain ⟨mA,O,_⟩:=ins_get I.hok ea
    obtain ⟨od,J,_⟩:=O.look
    exact PySem.W.kia_one (PySem.W.kitx_own (cl.get _) cl.hd ha hn htk hm) I.kIn J e (fun z=>nomatch z) h
end
end L2
namespace L2
open PySem PySem.Spec PyProof.Rows
structure Room (k:Nat) (A:Around) : Prop where
  hd:A.handled = none
  dp:A.depth + 3 * k + 5 < recursionLimit
  un:A.units + 16 * k + 200 < cLine
theorem Room.mono {j k:Nat} {A:Around} (r:Room k A) (h:j ≤ k) : Room j A:=⟨r.hd,by have:=r.dp; omega,by have:=r.un; omega⟩
theorem Room.deeper {k:Nat} {A:Around} (r:Room (k + 1) A) (env:Env) : Room k (A.deeper env):=
  ⟨r.hd,by have:=r.dp; show A.depth + 1 + 3 * k + 5 < _; omega,by have:=r.un; show A.units + 3 + 16 * k + 200 < _; omega⟩
theorem make_depth {A:Around} {C:Addr} {us:List Value} {kw:List (Str × Value)} : (A.under (.builtin "type.__call__" ⟨.ref C :: us,kw⟩)).depth = A.depth + 1:=by
  first | rfl | simp [Around.under,Code.weight,Code.isCreation,Code.isGuard,Code.isCaller,Code.frames,Code.isFrame,guardIds]
theorem make_units {A:Around} {C:Addr} {us:List Value} {kw:List (Str × Value)} : (A.under (.builtin "type.__call__" ⟨.ref C :: us,kw⟩)).units = A.units + 1:=by
  first | rfl | simp [Around.under,Code.cUnits,Code.frames,Code.isFrame]
theorem Room.make {k:Nat} {A:Around} (r:Room (k + 1) A) (C:Addr) (us:List Value) (kw:List (Str × Value)) : Room k (A.under (.builtin "type.__call__" ⟨.ref C :: us,kw⟩)):=
  ⟨r.hd,by have:=r.dp; rw [make_depth]; omega,by have:=r.un; rw [make_units]; omega⟩
theorem Room.depth {k:Nat} {A:Around} (r:Room k A) : A.depth < recursionLimit:=by have:=r.dp; omega
theorem Room.units {k:Nat} {A:Around} (r:Room k A) : A.units + 64 < cLine:=by have:=r.un; omega
def tNil:TA:=fun _ H Q=>Q [] H
def tCons (ta:TE) (tr:TA) : TA:=fun σ H Q=>ta σ H fun x H1=>tr σ H1 fun xs H2=>Q (x :: xs) H2
section
variable {X:Cx} {e:Expr} {es:List Expr} {te:TE} {t:TA} {pos:Pos}
theorem jg:PA X [] tNil:=fun _ _ _ _ H Q I h=>Calls.spliced_nil ⟨[],H,I,.nil,h⟩
theorem pa_cons (ha:PE X e te) (hr:PA X es t) (hs:starEach (e :: es) X.env = (false,eval e X.env) :: starEach es X.env:=by rfl) : PA X (e :: es) (tCons te t):=by
  intro pos pins s σ H Q I h
  rw [hs]
  show wpAny _ _ (spliced ((false,eval e X.env) :: backTo pos (starEach es X.env))) _ _ s
  refine Calls.spliced_cons (thn (ha pins s σ H _ I h) fun u s1 ⟨x,H1,I1,r1,q1⟩=>?_)
  exact thn (hr pos pins s1 σ H1 _ I1 q1) fun us s2 ⟨xs,H2,I2,r2,q2⟩=>⟨x :: xs,H2,I2,.cons r1 r2,q2⟩
def tTup (t:TA) : TE:=fun σ H Q=>t σ H fun xs H1=>xs.length ≤ sizeLine ∧ ∀ p,H1 p = none → Q (.ref p) (upd H1 p (.tup xs))
def tLst (t:TA) : TE:=fun σ H Q=>t σ H fun xs H1=>xs.length ≤ sizeLine ∧ ∀ p,H1 p = none → Q (.ref p) (upd H1 p (.lst xs))
theorem pe_tup {x1} (h:PA X es t) : PE X (.Tuple es x1 pos) (tTup t):=by
  intro pins s σ H Q I hq
  refine wpAny_Tuple_spliced (thn (h pos pins s σ H _ I hq) fun us s1 ⟨xs,H1,I1,r,z,q⟩=>⟨by rw [← r.length]; exact z,?_⟩)
  have hf:H1 s1.heap.objs.size = none:=I1.hok.fresh (Nat.le_refl _)
  refine ⟨.ref s1.heap.objs.size,upd H1 s1.heap.objs.size (.tup xs),I1.laid (t':=s1.toks) (fun b u e=>Heap.get?_push_of_some _ e) (Nat.le_refl _) ?_,rfl,q _ hf⟩
  exact ⟨z,us,r,⟨_,Heap.get?_push_size _ rfl,rfl,_,rfl⟩⟩
theorem qd (h:PA X es t) : PE X (.List es pos) (tLst t):=by
  intro pins s σ H Q I hq
  refine wpAny_List_spliced (thn (h pos pins s σ H _ I hq) fun us s1 ⟨xs,H1,I1,r,z,q⟩=>⟨by rw [← r.length]; exact z,?_⟩)
  have hf:H1 s1.heap.objs.size = none:=I1.hok.fresh (Nat.le_refl _)
  refine ⟨.ref s1.heap.objs.size,upd H1 s1.heap.objs.size (.lst xs),I1.laid (t':=s1.toks) (fun b u e=>Heap.get?_push_of_some _ e) (Nat.le_refl _) ?_,rfl,q _ hf⟩
  exact ⟨z,us,0,r,Heap.get?_push_size _ rfl⟩
end
abbrev Sp:=List V → Hp → VK → XK → Prop
abbrev CXT:=List Env → Hp → Shared → XK → Value → Shared → Prop
structure Env0 (P:Program) (w:World) (K:PySem.W.Frag) (mg:Str → Option Value) (base:Heap) (A:Around) (outer:List Env) (s:Shared) (H:Hp) : Prop where
  frames:A.frames = some outer
  mod:Mod K mg base
  bs : ∀ b o,base.get? b = some o → s.heap.get? b = some o ∧ H b = none
  bsz:base.objs.size ≤ s.heap.objs.size
  funs:s.heap.FunFrames base outer
  frf : ∀ b ∈ frs outer,H b = none
  hok:HOk P w H s.heap
  bare:AllBare s.gens
def CE (outer:List Env) (P:Program) (w:World) (H:Hp) (s:Shared) (Q:VK) (u:Value) (s':Shared) : Prop:=
  ∃ v H',s'.os = s.os ∧ AllBare s'.gens ∧ Un (frs outer) [] H H' s.heap s'.heap ∧ HOk P w H' s'.heap ∧ RelV v u ∧ Q v H'
def CR (CX:CXT) (outer:List Env) (P:Program) (w:World) (H:Hp) (s:Shared) (Q:VK) (E:XK) (r:Result) (s':Shared) : Prop:=
  match r with
  | .ok (.ret u)=>CE outer P w H s Q u s'
  | .ok _=>False
  | .error e=>CX outer H s E e s'
structure FnOk (P:Program) (w:World) (K:PySem.W.Frag) (mg:Str → Option Value) (base:Heap) (CX:CXT) (k:Nat) (f:Addr) (fd:FuncData) (ps:List Str) (sp:Sp) : Prop where
  len : ∀ vs H Q E,sp vs H Q E → vs.length = ps.length
  run : ∀ (A:Around) (outer:List Env) (s:Shared) (H:Hp) (args:Args) (us:List Value) (vs:List V) (Q:VK) (E:XK),Room k A → Env0 P w K mg base A outer s H → BindsTo s fd args (ps.zip us) → Vals vs us → sp vs H Q E →
    codeAny (model P w) A (.call (.ref f) args) (CR CX outer P w H s Q E) s
theorem Env0.make {P:Program} {w:World} {K:PySem.W.Frag} {mg:Str → Option Value} {base:Heap} {A:Around} {outer:List Env} {s:Shared} {H:Hp} (e:Env0 P w K mg base A outer s H) (C:Addr) (us:List Value) (kw:List (Str × Value)) :
    Env0 P w K mg base (A.under (.builtin "type.__call__" ⟨.ref C :: us,kw⟩)) outer s H:=⟨by first | exact e.frames | (simpa [Around.under,Code.envs,Code.isFrame,pushEnvs] using e.frames),e.mod,e.bs,e.bsz,e.funs,e.frf,e.hok,e.bare⟩
section
variable {X:Cx} {pins:List (Addr × Obj)} {σ : St} {H:Hp} {s s':Shared}
theorem Inv.env0 (I:Inv X pins σ H s) : Env0 X.prog X.w X.K X.mg X.base X.A X.stack s H:=
  ⟨I.ok.frames,I.ok.mod,I.bs,Nat.le_trans I.ok.bsz I.sz,I.stack,I.stkFree,I.hok,I.bare⟩
theorem Inv.after {Q:VK} {u:Value} (I:Inv X pins σ H s) (h:CE X.stack X.prog X.w H s Q u s') : EP X pins σ Q u s':=by
  obtain ⟨v,H',os,bare,un,hok,r,q⟩:=h
  obtain ⟨hh,g,d,t,os'⟩:=s'
  obtain rfl:os' = s.os:=os
  exact ⟨v,H',I.call (h':=hh) (g':=g) (d':=d) (t':=t) (ch:=[]) un hok bare (fun b z=>absurd z (by simp)),r,q⟩
end
def tCall (sp:Sp) (dvs:List V) (E:XK) (t:TA) : TE:=fun σ H Q=>t σ H fun vs H1=>sp (vs ++ dvs) H1 Q E
def tMeth (C:Addr) (m:Str) (sp:Sp) (dvs:List V) (E:XK) (ta:TE) (t:TA) : TE:=fun σ H Q=>ta σ H fun x H1=>∃ a dx fs,x = .ref a ∧ H1 a = some (.ins C dx fs) ∧ fs.lookup m = none ∧
  t σ H1 fun vs H2=>sp (x :: (vs ++ dvs)) H2 Q E
def tMake (C:Addr) (sp:Sp) (dvs:List V) (E:XK) (t:TA) : TE:=fun σ H Q=>t σ H fun vs H1=>∀ x dx,H1 x = none → H1 dx = none → dx ≠ x →
  sp (.ref x :: (vs ++ dvs)) (upd (upd H1 dx (.own x)) x (.ins C dx [])) (fun v H2=>v = .non ∧ Q (.ref x) H2) E
def Binds (K:PySem.W.Frag) (fd:FuncData) (ps:List Str) (ds:List Value) : Prop:=
  ∀ (s:Shared) (us:List Value),K.In s.heap → (us ++ ds).length = ps.length → BindsTo s fd ⟨us,[]⟩ (ps.zip (us ++ ds))
theorem Binds.all {K:PySem.W.Frag} {fd:FuncData} {ps:List Str} (h : ∀ us:List Value,us.length = ps.length → bindArgs fd ⟨us,[]⟩ = pure (ps.zip us)) : Binds K fd ps []:=fun s us _ hl=>by
  rw [List.append_nil] at hl ⊢
  exact .of_eq (h us hl)
def Passes (CX:CXT) (X:Cx) (E:XK) : Prop:=∀ (pins:List (Addr × Obj)) (σ : St) (H:Hp) (s:Shared) (e:Value) (s':Shared),Inv X pins σ H s → CX X.stack H s E e s' → X.xe e s'
section
variable {X:Cx} {CX:CXT} {k:Nat} {f C:Addr} {fd:FuncData} {ps:List Str} {sp:Sp} {dvs:List V} {ds:List Value} {E:XK} {x m:Str} {p pos apos:Pos} {e o:Expr} {es:List Expr} {ta:TE} {t:TA}
theorem run_fn {pins:List (Addr × Obj)} {σ : St} {H:Hp} {s:Shared} {Q:VK} {us:List Value} {vs:List V} (F:FnOk X.prog X.w X.K X.mg X.base CX k f fd ps sp) (hr:Room k X.A) (hb:Binds X.K fd ps ds) (hd:Vals dvs ds) (hx:Passes CX X E)
    (I:Inv X pins σ H s) (r:Vals vs us) (h:sp (vs ++ dvs) H Q E) : wpAny (model X.prog X.w) X.A (call (.ref f) us) (EP X pins σ Q) X.xe s:=by
  have r2:Vals (vs ++ dvs) (us ++ ds):=r.append hd
  have hl:(us ++ ds).length = ps.length:=by rw [← r2.length]; exact F.len _ _ _ _ h
  refine wpAny_call (codeAny_mono (F.run X.A X.stack s H ⟨us,[]⟩ (us ++ ds) (vs ++ dvs) Q E hr I.env0 (hb s us I.kIn hl) r2 h) fun r s' hq=>?_)
  cases r with
  | error e=>exact hx pins σ H s e s' I hq
  | ok fl=>
    cases fl with
    | ret u=>exact I.after hq
    | next=>exact False.elim hq
    | brk=>exact False.elim hq
    | cont=>exact False.elim hq
theorem j5 (F:FnOk X.prog X.w X.K X.mg X.base CX k f fd ps sp) (hr:Room k X.A) (hg:Gl X x) (hm:X.mg x = some (.ref f)) (hk:PySem.W.keepIn X.K (.ref f) = true) (hb:Binds X.K fd ps ds) (hd:Vals dvs ds) (hx:Passes CX X E)
    (ha:PA X (e :: es) t) (hdb:(x == ("__debug__" : Str)) = false:=by decide) (he:starEach (e :: es) X.env = (false,eval e X.env) :: starEach es X.env:=by rfl) (hpl:(backTo pos (starEach es X.env)).any (·.1) = false:=by rfl) :
    PE X (.Call (.Name x p) (e :: es) [] pos) (tCall sp dvs E t):=by
  intro pins s σ H Q I h
  refine wpAny_Call_Name_kw (ld_glob I hg hm ?_ hdb)
  refine PySem.W.callWith_K (h₀:=X.base) I.ok.mod.kin hk (thn (ha pos pins s σ H _ I h) fun us s1 ⟨vs,H1,I1,r,q⟩=>⟨I1.kIn,?_⟩) he hpl
  exact run_fn F hr hb hd hx I1 r q
theorem qq {pl:Sem Bool} (he:PE X o ta) (c:Cls X.K C) (hm:Meth X.K C m f) (F:FnOk X.prog X.w X.K X.mg X.base CX k f fd ps sp) (hr:Room k X.A) (hb:Binds X.K fd ps ds) (hd:Vals dvs ds) (hx:Passes CX X E) (ha:PA X (e :: es) t)
    (hst:starEach (e :: es) X.env = (false,eval e X.env) :: starEach es X.env:=by rfl) (hpl:(backTo pos (starEach es X.env)).any (·.1) = false:=by rfl)
    (ht:eval (.Call (.Attribute o m apos) (e :: es) [] pos) X.env = (do
      let ov ← eval o X.env
      standAt apos.atName
      let (f,first) ← holding [ov] (getMethod ov m pl)
      callWith pos f first (backTo pos (starEach (e :: es) X.env)) (backToKw pos (keywordEach [] X.env))):=by rfl) :
    PE X (.Call (.Attribute o m apos) (e :: es) [] pos) (tMeth C m sp dvs E ta t):=by
  intro pins s σ H Q I h
  refine PySem.W.methodCall_KW (pl:=pl) (thn (he pins s σ H _ I h) fun u s1 ⟨x,H1,I1,rx,a,dx,fs,ex,ea,l,q⟩=>?_) ht
  subst ex
  obtain rfl:u = Value.ref a:=rx
  refine getmeth_ok I1 ea c hm l ?_
  refine PySem.W.callWith_K (first:=[.ref a]) (h₀:=X.base) I.ok.mod.kin hm.kp (thn (ha pos pins s1 σ H1 _ I1 q) fun us s2 ⟨vs,H2,I2,r,q2⟩=>⟨I2.kIn,?_⟩) hst hpl
  exact run_fn (us:=.ref a :: us) (vs:=.ref a :: vs) F hr hb hd hx I2 (.cons rfl r) q2
theorem pe_meth0 {pl:Sem Bool} (he:PE X o ta) (c:Cls X.K C) (hm:Meth X.K C m f) (F:FnOk X.prog X.w X.K X.mg X.base CX k f fd ps sp) (hr:Room k X.A) (hb:Binds X.K fd ps ds) (hd:Vals dvs ds) (hx:Passes CX X E)
    (ht:eval (.Call (.Attribute o m apos) [] [] pos) X.env = (do
      let ov ← eval o X.env
      standAt apos.atName
      let (f,first) ← holding [ov] (getMethod ov m pl)
      callWith pos f first (backTo pos (starEach [] X.env)) (backToKw pos (keywordEach [] X.env))):=by rfl) :
    PE X (.Call (.Attribute o m apos) [] [] pos) (tMeth C m sp dvs E ta tNil):=by
  intro pins s σ H Q I h
  refine PySem.W.methodCall_KW (pl:=pl) (thn (he pins s σ H _ I h) fun u s1 ⟨x,H1,I1,rx,a,dx,fs,ex,ea,l,q⟩=>?_) ht
  subst ex
  obtain rfl:u = Value.ref a:=rx
  refine getmeth_ok I1 ea c hm l ?_
  exact PySem.W.callWith_K0 (first:=[.ref a]) I1.kIn hm.kp (run_fn (us:=[.ref a]) (vs:=[.ref a]) F hr hb hd hx I1 (.cons rfl .nil) q)
structure Mk (K:PySem.W.Frag) (C f:Addr) : Prop where
  makes:PySem.W.makesIn K C = true
  init:PySem.W.findIn K (.ref C) "__init__" = some (some (.ref f))
  fn:PySem.W.isFn K (.ref f) = true
  kp:PySem.W.keepIn K (.ref C) = true
theorem run_make {pins:List (Addr × Obj)} {σ : St} {H:Hp} {s:Shared} {Q:VK} {us:List Value} {vs:List V} (M:Mk X.K C f) (F:FnOk X.prog X.w X.K X.mg X.base CX k f fd ps sp) (hr:Room (k + 1) X.A) (hb:Binds X.K fd ps ds) (hd:Vals dvs ds)
    (hx:Passes CX X E) (I:Inv X pins σ H s) (r:Vals vs us)
    (h : ∀ x dx,H x = none → H dx = none → dx ≠ x → sp (.ref x :: (vs ++ dvs)) (upd (upd H dx (.own x)) x (.ins C dx [])) (fun v H2=>v = .non ∧ Q (.ref x) H2) E) :
    wpAny (model X.prog X.w) X.A (call (.ref C) us) (EP X pins σ Q) X.xe s:=by
  have hq:=h (s.heap.objs.size + 1) s.heap.objs.size (I.hok.fresh (Nat.le_succ _)) (I.hok.fresh (Nat.le_refl _)) (Nat.ne_of_lt (Nat.lt_succ_self _))
  have I2:=Inv.made (C:=C) I
  have r2:Vals (V.ref (s.heap.objs.size + 1) :: (vs ++ dvs)) (Value.ref (s.heap.objs.size + 1) :: (us ++ ds)):=.cons rfl (r.append hd)
  have hl:(Value.ref (s.heap.objs.size + 1) :: us ++ ds).length = ps.length:=by
    have e:=r2.length
    rw [F.len _ _ _ _ hq] at e
    exact e.symm
  refine wpAny_call (make_map (f:=f) I.kIn M.makes M.init (beq_iff_eq.mp M.fn) (codeAny_mono (F.run _ X.stack _ _ ⟨Value.ref (s.heap.objs.size + 1) :: us,[]⟩ (Value.ref (s.heap.objs.size + 1) :: (us ++ ds)) _ _ E (hr.make C us [])
    (I2.env0.make C us []) (hb _ (Value.ref (s.heap.objs.size + 1) :: us) I2.kIn hl) r2 hq) fun r s' hq'=>?_))
  cases r with
  | error e=>exact hx pins σ _ _ e s' I2 hq'
  | ok fl=>
    cases fl with
    | ret u=>
      obtain ⟨v,H',I3,rv,ev,q3⟩:=I2.after hq'
      subst ev
      exact ⟨rv,⟨V.ref (s.heap.objs.size + 1),H',I3,rfl,q3⟩⟩
    | next=>exact False.elim hq'
    | brk=>exact False.elim hq'
    | cont=>exact False.elim hq'
theorem pe_make (M:Mk X.K C f) (F:FnOk X.prog X.w X.K X.mg X.base CX k f fd ps sp) (hr:Room (k + 1) X.A) (hg:Gl X x) (hm:X.mg x = some (.ref C)) (hb:Binds X.K fd ps ds) (hd:Vals dvs ds) (hx:Passes CX X E)
    (ha:PA X (e :: es) t) (hdb:(x == ("__debug__" : Str)) = false:=by decide) (he:starEach (e :: es) X.env = (false,eval e X.env) :: starEach es X.env:=by rfl) (hpl:(backTo pos (starEach es X.env)).any (·.1) = false:=by rfl) :
    PE X (.Call (.Name x p) (e :: es) [] pos) (tMake C sp dvs E t):=by
  intro pins s σ H Q I h
  refine wpAny_Call_Name_kw (ld_glob I hg hm ?_ hdb)
  refine PySem.W.callWith_K (h₀:=X.base) I.ok.mod.kin M.kp (thn (ha pos pins s σ H _ I h) fun us s1 ⟨vs,H1,I1,r,q⟩=>⟨I1.kIn,?_⟩) he hpl
  exact run_make M F hr hb hd hx I1 r q
end
def PK (X:Cx) (kws:List Keyword) (t:TA) : Prop:=
  ∀ (pos:Pos) (pins:List (Addr × Obj)) (s:Shared) (σ : St) (H:Hp) (Q:List V → Hp → Prop),Inv X pins σ H s → t σ H Q → wpAny (model X.prog X.w) X.A (evalAll ((backToKw pos (keywordEach kws X.env)).map (·.2))) (AP X pins σ Q) X.xe s
section
variable {X:Cx} {CX:CXT} {k:Nat} {f C:Addr} {fd:FuncData} {ps ks:List Str} {sp:Sp} {E:XK} {x m:Str} {p pos apos kpos:Pos} {e o:Expr} {es:List Expr} {kws:List Keyword} {te ta:TE} {t tk:TA} {nm:Option Str}
theorem pk_nil:PK X [] tNil:=fun _ _ _ _ H Q I h=>wpAny_evalAll_nil ⟨[],H,I,.nil,h⟩
theorem pk_cons (ha:PE X e te) (hr:PK X kws t) : PK X (⟨nm,e,kpos⟩ :: kws) (tCons te t):=by
  intro pos pins s σ H Q I h
  show wpAny _ _ (evalAll ((do let v ← eval e X.env; standAt pos; pure v) :: (backToKw pos (keywordEach kws X.env)).map (·.2))) _ _ s
  refine wpAny_evalAll_cons (wpAny_bind (thn (ha pins s σ H _ I h) fun u s1 ⟨x,H1,I1,r1,q1⟩=>wpAny_bind (wpAny_standAt (wpAny_pure ?_))))
  exact thn (hr pos pins s1 σ H1 _ I1 q1) fun us s2 ⟨xs,H2,I2,r2,q2⟩=>⟨x :: xs,H2,I2,.cons r1 r2,q2⟩
structure KBinds (K:PySem.W.Frag) (fd:FuncData) (ps ks:List Str) (g:List Value → List Value → List Value) (gV:List V → List V → List V) : Prop where
  to : ∀ (s:Shared) (us ws:List Value),K.In s.heap → (g us ws).length = ps.length → BindsTo s fd ⟨us,ks.zip ws⟩ (ps.zip (g us ws))
  rel : ∀ {vs:List V} {us:List Value} {zs:List V} {ws:List Value},Vals vs us → Vals zs ws → Vals (gV vs zs) (g us ws)
def tCallK (sp:Sp) (gV:List V → List V → List V) (E:XK) (t tk:TA) : TE:=fun σ H Q=>t σ H fun vs H1=>tk σ H1 fun zs H2=>sp (gV vs zs) H2 Q E
variable {g:List Value → List Value → List Value} {gV:List V → List V → List V}
theorem run_fnk {pins:List (Addr × Obj)} {σ : St} {H:Hp} {s:Shared} {Q:VK} {us ws:List Value} {vs zs:List V} (F:FnOk X.prog X.w X.K X.mg X.base CX k f fd ps sp) (hr:Room k X.A) (hb:KBinds X.K fd ps ks g gV) (hx:Passes CX X E)
    (I:Inv X pins σ H s) (r:Vals vs us) (rz:Vals zs ws) (h:sp (gV vs zs) H Q E) : wpAny (model X.prog X.w) X.A (call (.ref f) us (ks.zip ws)) (EP X pins σ Q) X.xe s:=by
  have r2:=hb.rel r rz
  have hl:(g us ws).length = ps.length:=by rw [← r2.length]; exact F.len _ _ _ _ h
  refine wpAny_call (codeAny_mono (F.run X.A X.stack s H ⟨us,ks.zip ws⟩ (g us ws) (gV vs zs) Q E hr I.env0 (hb.to s us ws I.kIn hl) r2 h) fun r s' hq=>?_)
  cases r with
  | error e=>exact hx pins σ H s e s' I hq
  | ok fl=>
    cases fl with
    | ret u=>exact I.after hq
    | next=>exact False.elim hq
    | brk=>exact False.elim hq
    | cont=>exact False.elim hq
theorem pe_callK (F:FnOk X.prog X.w X.K X.mg X.base CX k f fd ps sp) (hr:Room k X.A) (hg:Gl X x) (hm:X.mg x = some (.ref f)) (hk:PySem.W.keepIn X.K (.ref f) = true) (hb:KBinds X.K fd ps ks g gV) (hx:Passes CX X E)
    (ha:PA X (e :: es) t) (hkw:PK X kws tk) (hall:(backToKw pos (keywordEach kws X.env)).all (·.1.isSome) = true:=by rfl) (hks:(backToKw pos (keywordEach kws X.env)).filterMap (·.1) = ks:=by rfl)
    (hdb:(x == ("__debug__" : Str)) = false:=by decide) (he:starEach (e :: es) X.env = (false,eval e X.env) :: starEach es X.env:=by rfl)
    (hpl:((backTo pos (starEach (e :: es) X.env)).any (·.1) || (backToKw pos (keywordEach kws X.env)).any (·.1.isNone)) = false:=by rfl) :
    PE X (.Call (.Name x p) (e :: es) kws pos) (tCallK sp gV E t tk):=by
  intro pins s σ H Q I h
  refine wpAny_Call_Name_kw (ld_glob I hg hm ?_ hdb)
  refine PySem.W.callWith_KW (h₀:=X.base) I.ok.mod.kin hk hall (thn (ha pos pins s σ H _ I h) fun us s1 ⟨vs,H1,I1,r,q⟩=>?_) hpl he
  refine thn (hkw pos pins s1 σ H1 _ I1 q) fun ws s2 ⟨zs,H2,I2,rz,q2⟩=>⟨I2.kIn,?_⟩
  rw [hks]
  exact run_fnk F hr hb hx I2 r rz q2
end
structure jt (N P:List Str) (sc:Scope) : Prop where
  kind:sc.kind = .function
  co:sc.isCoroutine = false
  gen:sc.isGenerator = false
  nd:N.Nodup
  pre:N.take P.length = P
  par : ∀ x ∈ P,sc.names.lookup x = some .local ∨ sc.names.lookup x = some .cell
  nofree : ∀ y ∈ sc.names,y.2 ≠ .free
theorem bindL_out {kindOf:Str → Option NameKind} {x:Str} : ∀ {binds:List (Str × Value)} {m:Str → Option Value},(∀ v,(x,v) ∉ binds) → bindL kindOf binds m x = m x
  | [],_,_=>rfl
  | (n,v) :: r,m,h=>by
    unfold bindL
    rw [bindL_out fun w hw=>h w (List.mem_cons_of_mem _ hw)]
    split
    · have:x ≠ n:=by rintro rfl; exact h v List.mem_cons_self
      simp [this]
    · rfl
theorem bindC_out {kindOf:Str → Option NameKind} {x:Str} : ∀ {binds:List (Str × Value)} {m:Str → Option Value},(∀ v,(x,v) ∉ binds) → bindC kindOf binds m x = m x
  | [],_,_=>rfl
  | (n,v) :: r,m,h=>by
    unfold bindC
    rw [bindC_out fun w hw=>h w (List.mem_cons_of_mem _ hw)]
    split
    · rfl
    · have:x ≠ n:=by rintro rfl; exact h v List.mem_cons_self
      simp [this]
theorem bindL_get {kindOf:Str → Option NameKind} {x:Str} {v:Value} : ∀ {P:List Str} {vs:List Value} {i:Nat} {m:Str → Option Value},P.Nodup → P[i]? = some x → vs[i]? = some v → kindOf x = some .local →
    bindL kindOf (P.zip vs) m x = some v
  | [],_,_,_,_,h,_,_=>by simp at h
  | _ :: _,[],_,_,_,_,h,_=>by simp at h
  | p :: P,w :: vs,0,m,nd,h1,h2,hk=>by
    simp at h1 h2; subst h1; subst h2
    show bindL kindOf ((p,w) :: P.zip vs) m p = _
    unfold bindL
    rw [bindL_out fun v hv=>(List.nodup_cons.mp nd).1 (List.of_mem_zip hv).1,if_pos hk]
    simp
  | p :: P,w :: vs,i + 1,m,nd,h1,h2,hk=>by
    show bindL kindOf ((p,w) :: P.zip vs) m x = _
    unfold bindL
    exact bindL_get (i:=i) (List.nodup_cons.mp nd).2 (by simpa using h1) (by simpa using h2) hk
theorem bindC_get {kindOf:Str → Option NameKind} {x:Str} {v:Value} : ∀ {P:List Str} {vs:List Value} {i:Nat} {m:Str → Option Value},P.Nodup → P[i]? = some x → vs[i]? = some v → kindOf x ≠ some .local →
    bindC kindOf (P.zip vs) m x = some v
  | [],_,_,_,_,h,_,_=>by simp at h
  | _ :: _,[],_,_,_,_,h,_=>by simp at h
  | p :: P,w :: vs,0,m,nd,h1,h2,hk=>by
    simp at h1 h2; subst h1; subst h2
    show bindC kindOf ((p,w) :: P.zip vs) m p = _
    unfold bindC
    rw [bindC_out fun v hv=>(List.nodup_cons.mp nd).1 (List.of_mem_zip hv).1,if_neg hk]
    simp
  | p :: P,w :: vs,i + 1,m,nd,h1,h2,hk=>by
    show bindC kindOf ((p,w) :: P.zip vs) m x = _
    unfold bindC
    exact bindC_get (i:=i) (List.nodup_cons.mp nd).2 (by simpa using h1) (by simpa using h2) hk
def start (N:List Str) (vs:List V) : St:=vs.map some ++ List.replicate (N.length - vs.length) none
def cxOf (CX:CXT) (P:Program) (w:World) (K:PySem.W.Frag) (mg:Str → Option Value) (base:Heap) (N:List Str) (qual:Str) (scope:Scope) (f:Addr) (cd:Value) (A:Around) (outer:List Env) (s:Shared) (H:Hp) (E:XK) : Cx where
  prog:=P
  w:=w
  K:=K
  mg:=mg
  base:=base
  A:=A.deeper (envOfC qual scope s.heap.objs.size f cd)
  N:=N
  s₀:=s
  H₀:=H
  env:=envOfC qual scope s.heap.objs.size f cd
  outer:=outer
  stack:=envOfC qual scope s.heap.objs.size f cd :: outer
  ex:=[]
  calm:=true
  fn:=fun _=>true
  pn:=[]
  xe:=fun e s'=>wpAny (model P w) (A.deeper (envOfC qual scope s.heap.objs.size f cd)) (leaving (envOfC qual scope s.heap.objs.size f cd) e) (fun _ s''=>CX outer H s E e s'') (fun e' s''=>CX outer H s E e' s'') s'
theorem cell_has {sc:Scope} {n:Nat} {x:Str} (h:sc.names.lookup x = some .cell) : ∃ c,(cellsFrom n sc.names []).lookup x = some c:=by
  have q:=PySem.W.cellsFrom_some sc.names n [] (.inl h)
  exact Option.isSome_iff_exists.mp q
theorem inv_start {CX:CXT} {P:Program} {w:World} {K:PySem.W.Frag} {mg:Str → Option Value} {base:Heap} {N ps:List Str} {qual:Str} {scope:Scope} {f:Addr} {cd:Value} {A:Around} {outer:List Env} {s s1:Shared} {H:Hp} {E:XK} {us:List Value} {vs:List V}
    (S:jt N ps scope) (hd:A.handled = none) (e0:Env0 P w K mg base A outer s H) (hl:vs.length = ps.length) (r:Vals vs us)
    (x:InCallC s s.heap.objs.size (bindL (envOfC qual scope s.heap.objs.size f cd).kindOf (ps.zip us) fun _=>none) (cellsFrom (s.heap.objs.size + 1) scope.names []) (bindC (envOfC qual scope s.heap.objs.size f cd).kindOf (ps.zip us) fun _=>none) s1) :
    Inv (cxOf CX P w K mg base N qual scope f cd A outer s H E) [] (start N vs) H s1:=by
  have hpl:ps.length ≤ N.length:=by have:=congrArg List.length S.pre; rw [List.length_take] at this; omega
  obtain ⟨h1,tk,rfl,hk⟩:=x.done
  have noA : ∀ b:Addr,b ∉ (cxOf CX P w K mg base N qual scope f cd A outer s H E).ex:=fun b z=>absurd (show b ∈ ([] : List Addr) from z) (by simp)
  refine ⟨⟨e0.mod,S.kind,rfl,rfl,Nat.le_refl _,fun y z c h1 h2=>?_,fun y hy=>?_,fun y c _ h=>?_,fun _=>hd,Around.frames_deeper e0.frames,.inr ⟨rfl,rfl⟩,fun b z=>absurd z (noA b),e0.bs,e0.bsz,fun b _ _=>noA b,fun b z=>absurd z (noA b),e0.funs,e0.frf⟩,
    rfl,e0.bare,Un.kept hk,⟨_,x.toInCall.ns,fun i y v h1 h2 h3=>?_⟩,fun y c h=>⟨_,x.cell y c h⟩,e0.hok.fresh (Nat.le_refl _),fun y c h=>?_,fun p hp=>absurd (show p ∈ ([] : List (Addr × Obj)) from hp) (by simp),e0.hok.kept hk,?_⟩
  · exact name_of_addr x.apart (PySem.mem_of_lookup h1) (PySem.mem_of_lookup h2)
  · have hy:scope.names.lookup y = some .cell ∨ scope.names.lookup y = some .free:=hy
    rcases hy with hy | hy
    · exact cell_has hy
    · exact absurd rfl (S.nofree _ (PySem.mem_of_lookup hy))
  · exact Nat.le_of_lt (x.above y c (PySem.mem_of_lookup h))
  · have hi:i < vs.length:=by
      unfold start at h2
      by_cases hi:i < vs.length
      · exact hi
      · rw [List.getElem?_append_right (by simpa using hi)] at h2
        rw [List.getElem?_replicate] at h2
        split at h2 <;> cases h2
    have ha:vs[i]? = some v:=by
      unfold start at h2
      rw [List.getElem?_append_left (by simpa using hi),List.getElem?_map] at h2
      cases e:vs[i]? with
      | none=>rw [e] at h2; cases h2
      | some a=>rw [e] at h2; cases h2; rfl
    obtain ⟨u,hu,rv⟩:=r.get ha
    have hp:ps[i]? = some y:=by
      rw [← S.pre,List.getElem?_take_of_lt (by omega)]; exact h1
    have ndP:ps.Nodup:=by rw [← S.pre]; exact S.nd.sublist (List.take_sublist _ _)
    refine ⟨u,rv,?_⟩
    rcases S.par y (List.mem_of_getElem? hp) with k | k
    · exact .inl ⟨k,bindL_get ndP hp hu k⟩
    · obtain ⟨c,e⟩:=cell_has (n:=s.heap.objs.size + 1) k
      refine .inr ⟨.inl k,c,e,?_⟩
      have q:=x.cell y c e
      rw [bindC_get ndP hp hu (by show scope.names.lookup y ≠ _; rw [k]; decide)] at q
      exact q
  · exact e0.hok.fresh (Nat.le_of_lt (x.above y c (PySem.mem_of_lookup h)))
  · unfold start
    show _ = N.length
    rw [List.length_append,List.length_map,List.length_replicate]
    omega
theorem fn_of {CX:CXT} {P:Program} {w:World} {K:PySem.W.Frag} {mg:Str → Option Value} {base:Heap} {k:Nat} {f:Addr} {name qual:Str} {params:Arguments} {body:List Stmt} {scope:Scope} {dV kV doc pm cdv ct oc:Value} {an od:Option Addr}
    {osl:Array (Option Value)} {N ps:List Str} {sp:Sp} (lk:K.lookup f = some ⟨oc,od,.func (PySem.W.fnOf name qual params body scope dV kV doc pm an cdv ct),osl⟩) (hcd:PySem.W.codeIn K cdv qual = true) (S:jt N ps scope)
    (len : ∀ vs H Q E,sp vs H Q E → vs.length = ps.length)
    (hbody : ∀ (A:Around) (outer:List Env) (s:Shared) (H:Hp) (vs:List V) (Q:VK) (E:XK),Room k (A.deeper (envOfC qual scope s.heap.objs.size f cdv)) → sp vs H Q E →
      ∃ t,PSs (cxOf CX P w K mg base N qual scope f cdv A outer s H E) body t ∧ t { nx:=fun _ H'=>Q .non H',rt:=Q } (start N vs) H) :
    FnOk P w K mg base CX (k + 1) f (PySem.W.fnOf name qual params body scope dV kV doc pm an cdv ct) ps sp:=by
  refine ⟨len,fun A outer s H args us vs Q E hr e0 hb r hsp=>?_⟩
  have hl:=len _ _ _ _ hsp
  have KX:K.In s.heap:=e0.mod.kin.keeps fun b o e=>(e0.bs b o e).1
  have lim:s.heap.NoLimit:=e0.mod.nolimit.keeps fun b o e=>(e0.bs b o e).1
  have hkind : ∀ y ∈ ps.zip us,scope.names.lookup y.1 = some .local ∨ (scope.names.lookup y.1 = some .cell ∧ ((cellsFrom (s.heap.objs.size + 1) scope.names []).lookup y.1).isSome = true):=fun ⟨n,v⟩ hy=>by
    rcases S.par n (List.of_mem_zip hy).1 with q | q
    · exact .inl q
    · exact .inr ⟨q,PySem.W.cellsFrom_some _ _ _ (.inl q)⟩
  refine codeAny_call_function hr.depth (KX _ _ lk) rfl S.co S.gen rfl (PySem.W.codeRec_of KX hcd) (hb _ _ _ _ ?_)
  refine wpAny_newFunctionEnv_cells S.kind hkind fun env he s1 x=>?_
  subst he
  refine ⟨lim.keeps x.toInCall.keep,codeAny_func ?_⟩
  obtain ⟨t,ht,hq⟩:=hbody A outer s H vs Q E (hr.deeper _) hsp
  have I:Inv (cxOf CX P w K mg base N qual scope f cdv A outer s H E) [] (start N vs) H s1:=inv_start S hr.hd e0 hl r x
  refine wpAny_mono (ht [] s1 (start N vs) H _ I hq) (fun fl s' hs=>?_) fun e s' hs=>hs
  have fin : ∀ {σ':St} {H':Hp} {v:V} {u:Value},Inv (cxOf CX P w K mg base N qual scope f cdv A outer s H E) [] σ' H' s' → RelV v u → Q v H' → CE outer P w H s Q u s':=
    fun {σ' H' v u} J rv q=>⟨v,H',J.os,J.bare,J.base,J.hok,rv,q⟩
  cases fl with
  | ret u=>
    obtain ⟨v,σ',H',J,rv,q⟩:=hs
    exact fin J rv q
  | next=>
    obtain ⟨σ',H',J,q⟩:=hs
    exact fin (v:=V.non) (u:=Value.none) J rfl q
  | brk=>
    obtain ⟨_,_,_,q⟩:=hs
    exact False.elim q
  | cont=>
    obtain ⟨_,_,_,q⟩:=hs
    exact False.elim q
end L2
namespace L2
open PySem PySem.Spec PyProof.Rows
section
variable {X:Cx} {x:Str} {p pos:Pos} {e:Expr} {es:List Expr} {t:TA} {id T:String} {r:List V → Hp → VK → Prop}
def tCB (r:List V → Hp → VK → Prop) (t:TA) : TE:=fun σ H Q=>t σ H fun vs H1=>r vs H1 Q
theorem ju (hc:CallR X (.builtin id) r) (hg:Gl X x) (hm:X.mg x = none) (hv:bootBuiltins x = some (.builtin id)) (ha:PA X (e :: es) t) (hn:x ≠ "__name__" := by decide) (hdb:(x == ("__debug__" : Str)) = false:=by decide)
    (he:starEach (e :: es) X.env = (false,eval e X.env) :: starEach es X.env:=by rfl) (hpl:(backTo pos (starEach es X.env)).any (·.1) = false:=by rfl) : PE X (.Call (.Name x p) (e :: es) [] pos) (tCB r t):=by
  intro pins s σ H Q I h
  refine wpAny_Call_Name_kw (ld_blt I hg hm hv ?_ hn hdb)
  exact PyProof.Rows.callWith_builtin1 (thn (ha pos pins s σ H _ I h) fun us s1 ⟨vs,H1,I1,r1,q1⟩=>hc pins s1 σ H1 vs us Q I1 r1 q1) he hpl
theorem pe_callTy (hc:CallR X (.type T) r) (hg:Gl X x) (hm:X.mg x = none) (hv:bootBuiltins x = some (.type T)) (ha:PA X (e :: es) t) (hn:x ≠ "__name__" := by decide) (hdb:(x == ("__debug__" : Str)) = false:=by decide)
    (he:starEach (e :: es) X.env = (false,eval e X.env) :: starEach es X.env:=by rfl) (hpl:(backTo pos (starEach es X.env)).any (·.1) = false:=by rfl) : PE X (.Call (.Name x p) (e :: es) [] pos) (tCB r t):=by
  intro pins s σ H Q I h
  refine wpAny_Call_Name_kw (ld_blt I hg hm hv ?_ hn hdb)
  exact PyProof.Rows.callWith_type1 (thn (ha pos pins s σ H _ I h) fun us s1 ⟨vs,H1,I1,r1,q1⟩=>hc pins s1 σ H1 vs us Q I1 r1 q1) he hpl
end
end L2
namespace HT
open PySem PyProof.Rows
def lexLt:List Int → List Int → Bool
  | [],[]=>false
  | [],_ :: _=>true
  | _ :: _,[]=>false
  | x :: xs,y :: ys=>if x = y then lexLt xs ys else decide (x < y)
theorem lexLt_cons (x y:Int) (xs ys:List Int) : lexLt (x :: xs) (y :: ys) = if x = y then lexLt xs ys else decide (x < y):=rfl
section
open PySem.SeqAt
open PySem.AutoSeq1 (wpAny_loadPart')
open PySem.MeetsSeq PySem.MeetsSeq2 PySem.MeetsSeq3
end
section
variable {prog:Program} {w:World} {A:Around} {E:Value → Shared → Prop} {s:Shared}
def sIx (n d:Nat) : Option Int → Nat
  | none=>d
  | some v=>if v < 0 then (v + (n:Int)).toNat else min v.toNat n
end
end HT
namespace L2
open PySem PySem.Spec PyProof.Rows
abbrev TO:=St → Hp → (Option Int → Hp → Prop) → Prop
def PO (X:Cx) (e:Option Expr) (t:TO) : Prop:=
  ∀ (pins:List (Addr × Obj)) (s:Shared) (σ : St) (H:Hp) (Q:Option Int → Hp → Prop),Inv X pins σ H s → t σ H Q →
    wpAny (model X.prog X.w) X.A (evalPart e X.env) (fun u s'=>∃ o H',Inv X pins σ H' s' ∧ IsPart u o ∧ Q o H') X.xe s
def tNoPart:TO:=fun _ H Q=>Q none H
def tPart (t:TE) : TO:=fun σ H Q=>t σ H fun x H1=>∃ i,x = .int i ∧ Q (some i) H1
theorem intsAre_of {ns:List Int} : ∀ {us:List Value},Vals (ns.map V.int) us → IntsAre us ns:=by
  induction ns with
  | nil=>intro us r; rw [List.map_nil] at r; cases r; exact .nil
  | cons n ns ih=>
    intro us r
    rw [List.map_cons] at r
    cases r with
    | cons r1 r2=>
      obtain ⟨t,e⟩:=r1
      subst e
      exact .cons n t (ih r2)
section
variable {X:Cx} {e:Expr} {te:TE} {lo hi:Option Expr} {tl th:TO} {pos p2:Pos}
theorem po_none:PO X none tNoPart:=by
  intro pins s σ H Q I h
  rw [evalPart_none]
  exact wpAny_pure ⟨none,H,I,.none,h⟩
theorem po_some (h:PE X e te) : PO X (some e) (tPart te):=by
  intro pins s σ H Q I hw
  rw [evalPart_some]
  refine thn (h pins s σ H _ I hw) fun u s1 ⟨x,H1,I1,r1,q1⟩=>?_
  obtain ⟨i,rfl,q⟩:=q1
  obtain ⟨t,rfl⟩:=r1
  exact ⟨some i,H1,I1,.int i t,q⟩
def SlR (X:Cx) (r:V → Option Int → Option Int → Hp → VK → Prop) : Prop:=
  ∀ (pins:List (Addr × Obj)) (s:Shared) (σ : St) (H:Hp) (x:V) (v vl vu:Value) (lo hi:Option Int) (sl:Addr) (Q:VK),Inv X pins σ H s → RelV x v → s.heap.IsSliceOf sl vl vu .none → IsPart vl lo → IsPart vu hi → r x lo hi H Q →
    ∃ T id,typeLookup (.type T) "__getitem__" = pure (some (.builtin id)) ∧ s.TypeIs v T ∧ wpAny (model X.prog X.w) X.A (getItem v (.ref sl)) (EP X pins σ Q) X.xe s
def tSl (r:V → Option Int → Option Int → Hp → VK → Prop) (te:TE) (tl th:TO) : TE:=fun σ H Q=>te σ H fun x H1=>tl σ H1 fun l H2=>th σ H2 fun u H3=>r x l u H3 Q
theorem pe_slice {r:V → Option Int → Option Int → Hp → VK → Prop} (hr:SlR X r) (he:PE X e te) (hl:PO X lo tl) (hu:PO X hi th) : PE X (.Subscript e (.Slice lo hi none p2) pos) (tSl r te tl th):=by
  intro pins s σ H Q I h
  refine Subscript_ (thn (he pins s σ H _ I h) fun v s1 ⟨x,H1,I1,r1,q1⟩=>?_)
  refine wpAny_Slice (thn (hl pins s1 σ H1 _ I1 q1) fun vl s2 ⟨l,H2,I2,pl,q2⟩=>thn (hu pins s2 σ H2 _ I2 q2) fun vu s3 ⟨u,H3,I3,pu,q3⟩=>?_)
  rw [evalPart_none]
  refine wpAny_pure ?_
  have I4:Inv X pins σ H3 { s3 with heap:=s3.heap.push { cls:=.type "slice",data:=.fields #[vl,vu,.none] } }:=I3.kept (t':=s3.toks) fun b ob q=>Heap.get?_push_of_some _ q
  obtain ⟨T,id,hT,ht,hg⟩:=hr pins { s3 with heap:=s3.heap.push { cls:=.type "slice",data:=.fields #[vl,vu,.none] } } σ H3 x v vl vu l u s3.heap.objs.size Q I4 r1 (Heap.IsSliceOf.new ..) pl pu q3
  show wpAny (model X.prog X.w) X.A (subscriptTail e (.Slice lo hi none p2) v (.ref s3.heap.objs.size)) (EP X pins σ Q) X.xe { s3 with heap:=s3.heap.push { cls:=.type "slice",data:=.fields #[vl,vu,.none] } }
  exact tail_any (ops:=[.ref s3.heap.objs.size,v]) ht hT hg (by with_unfolding_all rfl)
def cutV (xs:List V) (lo hi:Option Int) : List V:=(xs.drop (HT.sIx xs.length 0 lo)).take (HT.sIx xs.length xs.length hi - HT.sIx xs.length 0 lo)
theorem cutV_length (xs:List V) (lo hi:Option Int) : (cutV xs lo hi).length ≤ xs.length:=by
  unfold cutV
  rw [List.length_take,List.length_drop]
  omega
end
end L2
namespace L2
open PySem PySem.Spec PyProof.Rows
def ixN (n:Nat) (i:Int) : Option Nat:=if 0 ≤ i then (if i < n then some i.toNat else none) else if -(n:Int) ≤ i then some (i + n).toNat else none
def atI {α : Type} (xs:List α) (i:Int) : Option α:=(ixN xs.length i).bind fun j=>xs[j]?
theorem ixN_seq {n:Nat} {i:Int} {j:Nat} (h:ixN n i = some j) : seqIndex? i n = some j ∧ j < n ∧ -(n:Int) ≤ i ∧ i < n:=by
  unfold ixN at h
  by_cases h0 : 0 ≤ i
  · rw [if_pos h0] at h
    by_cases h1:i < n
    · rw [if_pos h1] at h
      have e:i.toNat = j:=Option.some.inj h
      exact ⟨by rw [seqIndex_of h0 h1,e],by omega,by omega,h1⟩
    · rw [if_neg h1] at h; cases h
  · rw [if_neg h0] at h
    by_cases h1 : -(n:Int) ≤ i
    · rw [if_pos h1] at h
      have e:(i + n).toNat = j:=Option.some.inj h
      exact ⟨by rw [seqIndex_neg (by omega) h1,e],by omega,h1,by omega⟩
    · rw [if_neg h1] at h; cases h
theorem atI_get {α : Type} {xs:List α} {i:Int} {v : α} (h:atI xs i = some v) : ∃ j,seqIndex? i xs.length = some j ∧ xs[j]? = some v ∧ j < xs.length ∧ -(xs.length:Int) ≤ i ∧ i < xs.length:=by
  unfold atI at h
  cases e:ixN xs.length i with
  | none=>rw [e] at h; cases h
  | some j=>
    rw [e] at h
    obtain ⟨h1,h2,h3,h4⟩:=ixN_seq e
    exact ⟨j,h1,h,h2,h3,h4⟩
def PlainIx (b:Expr) : Prop:=∀ o i,subscripted b false o i = operate [o,i] (getItem o i)
def IxR (X:Cx) (r:R2) : Prop:=
  ∀ (value slice:Expr) (pins:List (Addr × Obj)) (s:Shared) (σ : St) (H:Hp) (x y:V) (v u:Value) (Q:VK),Inv X pins σ H s → RelV x v → RelV y u → r x y H Q →
    subscripted slice false v u = operate [v,u] (getItem v u) → wpAny (model X.prog X.w) X.A (subscriptTail value slice v u) (EP X pins σ Q) X.xe s
def MtR (X:Cx) (id:String) (r:V → List V → Hp → VK → Prop) : Prop:=
  ∀ (pins:List (Addr × Obj)) (s:Shared) (σ : St) (H:Hp) (x:V) (xs:List V) (v:Value) (us:List Value) (Q:VK),Inv X pins σ H s → RelV x v → Vals xs us → r x xs H Q →
    wpAny (model X.prog X.w) X.A (call (.builtin id) (v :: us)) (EP X pins σ Q) X.xe s
section
variable {X:Cx} {a b:Expr} {ta tb:TE} {pos:Pos}
theorem yq {r:R2} (hr:IxR X r) (ha:PE X a ta) (hb:PE X b tb) (hs:PlainIx b) : PE X (.Subscript a b pos) (tOp r ta tb):=by
  intro pins s σ H Q I h
  exact Subscript_ (binT ha hb I h fun v u s2 x y H2 I2 rx ry q=>hr a b pins s2 σ H2 x y v u Q I2 rx ry q (hs _ _))
def rIxL (K:PySem.W.Frag) : R2:=fun x y H Q=>∃ p xs i v,x = .ref p ∧ y = .int i ∧ SqL K H p xs ∧ atI xs i = some v ∧ Q v H
def rIxT (K:PySem.W.Frag) : R2:=fun x y H Q=>∃ p xs i v,x = .ref p ∧ y = .int i ∧ SqT K H p xs ∧ atI xs i = some v ∧ Q v H
theorem zk:IxR X (rIxL X.K):=by
  intro value slice pins s σ H x y v u Q I rx ry h hs
  obtain ⟨p,xs,i,z,rfl,rfl,hq,he,q⟩:=h
  cases rx
  obtain ⟨t,rfl⟩:=ry
  obtain ⟨its,r,pl,hz⟩:=I.list hq
  obtain ⟨j,h1,h2,h3,h4,h5⟩:=atI_get he
  obtain ⟨w,ew,rw'⟩:=r.get h2
  have hl:=r.length
  have hn:=line63
  have fin:EP X pins σ Q w s:=⟨z,H,I,rw',q⟩
  by_cases h0 : 0 ≤ i
  · have hj:i.toNat = j:=by
      rw [seqIndex_of h0 h5] at h1
      exact Option.some.inj h1
    exact item_listR pl.isList h0 (by omega) (by rw [hj]; simpa using ew) fin hs
  · have hj:(i + (its.toArray.size:Int)).toNat = j:=by
      rw [seqIndex_neg (by omega) h4] at h1
      rw [List.size_toArray,← hl]
      exact Option.some.inj h1
    exact subscriptTail_builtinR (x:=w) pl.isList.typeIs slot_list_getitem.lookup
      (wpAny_getItem_list_neg (Q:=fun r s'=>r = w ∧ EP X pins σ Q r s') pl.isList (by omega) (by rw [List.size_toArray] <;> omega) (by omega) (by rw [hj]; simpa using ew) ⟨rfl,fin⟩) hs
theorem ix_tup:IxR X (rIxT X.K):=by
  intro value slice pins s σ H x y v u Q I rx ry h hs
  obtain ⟨p,xs,i,z,rfl,rfl,hq,he,q⟩:=h
  cases rx
  obtain ⟨t,rfl⟩:=ry
  obtain ⟨its,r,pl,hz⟩:=I.tuple hq
  obtain ⟨j,h1,h2,h3,h4,h5⟩:=atI_get he
  obtain ⟨w,ew,rw'⟩:=r.get h2
  have hl:=r.length
  have hn:=line63
  have fin:EP X pins σ Q w s:=⟨z,H,I,rw',q⟩
  exact subscriptTail_builtinR (x:=w) pl.typeIs slot_tuple_getitem.lookup
    (getItem_tuple (j:=j) (Q:=fun r s'=>r = w ∧ EP X pins σ Q r s') pl (by omega) (by omega) (by rw [List.size_toArray,← hl]; exact h1) (by simpa using ew) ⟨rfl,fin⟩) hs
theorem mapSeq_set (its:List Value) (n j:Nat) (u:Value) : Obj.mapSeq (·.setIfInBounds j u) { cls:=.type "list",data:=.seq its.toArray n } = { cls:=.type "list",data:=.seq (its.set j u).toArray n }:=by
  simp [Obj.mapSeq]
theorem Inv.lst {pins:List (Addr × Obj)} {σ : St} {H:Hp} {s:Shared} {p:Addr} {xs:List V} (I:Inv X pins σ H s) (h:H p = some (.lst xs)) :
    ∃ (its:List Value) (n:Nat),Vals xs its ∧ s.heap.get? p = some { cls:=.type "list",data:=.seq its.toArray n } ∧ xs.length ≤ sizeLine:=by
  obtain ⟨z,its,n,r,e⟩:=I.hok p _ h
  exact ⟨its,n,r,e,z⟩
theorem Inv.lstUpd {pins:List (Addr × Obj)} {σ : St} {H:Hp} {s:Shared} {p:Addr} {xs ys:List V} {its its':List Value} {n n':Nat} {f:Obj → Obj} (I:Inv X pins σ H s) (h:H p = some (.lst xs))
    (ho:s.heap.get? p = some { cls:=.type "list",data:=.seq its.toArray n }) (hf:f { cls:=.type "list",data:=.seq its.toArray n } = { cls:=.type "list",data:=.seq its'.toArray n' }) (r:Vals ys its') (hz:ys.length ≤ sizeLine) (t:Nat) :
    Inv X pins σ (upd H p (.lst ys)) { s with heap:=s.heap.update p f,toks:=t }:=by
  have e:(s.heap.update p f).get? p = some { cls:=.type "list",data:=.seq its'.toArray n' }:=by
    rw [Heap.get?_update_self f ho (by rw [hf] <;> rfl),hf]
  refine I.write (x:=p) (e:=p) (by rw [h]; trivial) (.inl rfl) (fun b u hb q=>(Heap.get?_update_other _ _ (Ne.symm hb)).trans q) ⟨_,e⟩ ?_
  exact ⟨hz,its',n',r,e⟩
def rSetL:V → V → V → Hp → (Hp → Prop) → Prop:=fun o i v H Q=>∃ p xs k j,o = .ref p ∧ i = .int k ∧ H p = some (.lst xs) ∧ ixN xs.length k = some j ∧ Q (upd H p (.lst (xs.set j v)))
theorem set_list:PSet X rSetL:=by
  intro pins s σ H o i v ov iv u Q I ro ri rv h
  obtain ⟨p,xs,k,j,rfl,rfl,hp,hj,q⟩:=h
  cases ro
  obtain ⟨t,rfl⟩:=ri
  obtain ⟨its,n,r,ho,hz⟩:=I.lst hp
  obtain ⟨h1,h2,h3,h4⟩:=ixN_seq hj
  have hl:=r.length
  have hn:=line63
  have I':Inv X pins σ (upd H p (.lst (xs.set j v))) { s with heap:=s.heap.update p (Obj.mapSeq (·.setIfInBounds j u)) }:=
    I.lstUpd hp ho (mapSeq_set its n j u) (r.set rv j) (by rw [List.length_set]; exact hz) s.toks
  by_cases h0 : 0 ≤ k
  · have hk:k.toNat = j:=by
      rw [seqIndex_of h0 h4] at h1
      exact Option.some.inj h1
    exact PySem.W.ki_setAt ho h0 (by omega) (by rw [List.size_toArray,← hl]; exact h4) (by rw [hk]; exact ⟨_,I',q⟩)
  · have hk:(k + (its.toArray.size:Int)).toNat = j:=by
      rw [seqIndex_neg (by omega) h3] at h1
      rw [List.size_toArray,← hl]
      exact Option.some.inj h1
    exact PySem.W.ki_setBack ho (by omega) (by rw [List.size_toArray,← hl]; exact h3) (by omega) (by rw [hk]; exact ⟨_,I',q⟩)
theorem slice_bounds (lo hi:Option Int) (n:Nat) : (sliceBounds lo hi none n).1 = ((HT.sIx n 0 lo:Nat) : Int) ∧ (sliceBounds lo hi none n).2.1 = ((HT.sIx n n hi:Nat) : Int) ∧ (sliceBounds lo hi none n).2.2 = 1:=by
  refine ⟨?_,?_,rfl⟩
  · cases lo with
    | none=>simp [sliceBounds,HT.sIx]
    | some i=>
      simp only [sliceBounds,HT.sIx,Option.getD_none,show (1:Int) > 0 by decide,if_true]
      by_cases h:i < 0
      · simp only [h,if_true] <;> omega
      · simp only [h,if_false] <;> omega
  · cases hi with
    | none=>simp [sliceBounds,HT.sIx]
    | some i=>
      simp only [sliceBounds,HT.sIx,Option.getD_none,show (1:Int) > 0 by decide,if_true]
      by_cases h:i < 0
      · simp only [h,if_true] <;> omega
      · simp only [h,if_false] <;> omega
theorem slicePick_cut (its:List Value) (lo hi:Option Int) : slicePick its.toArray lo hi none = ((its.drop (HT.sIx its.length 0 lo)).take (HT.sIx its.length its.length hi - HT.sIx its.length 0 lo)).toArray:=by
  obtain ⟨h1,h2,h3⟩:=slice_bounds lo hi its.toArray.size
  unfold slicePick
  rw [h1,h2,h3]
  simp only [sliceRange_one,pick_run,List.size_toArray] <;> rfl
def rSlL (K:PySem.W.Frag) : V → Option Int → Option Int → Hp → VK → Prop:=fun x lo hi H Q=>∃ a xs,x = .ref a ∧ SqL K H a xs ∧ ∀ p,H p = none → Q (.ref p) (upd H p (.lst (cutV xs lo hi)))
theorem sl_list:SlR X (rSlL X.K):=by
  intro pins s σ H x v vl vu lo hi sl Q I rx hs pl pu h
  obtain ⟨a,xs,rfl,hx,q⟩:=h
  cases rx
  obtain ⟨its,r,ht,hz⟩:=I.list hx
  have hlen:=r.length
  refine ⟨"list",_,slot_list_getitem.lookup,ht.isList.typeIs,?_⟩
  refine wpAny_getItem_list_slice ht.isList hs pl pu .none (by simp) ?_ (by rw [List.size_toArray] <;> omega)
  rw [slicePick_cut,← hlen]
  refine ⟨.ref s.heap.objs.size,_,I.laid (t':=s.toks) (o:=.lst (cutV xs lo hi)) (fun b ob q=>Heap.get?_push_of_some _ q) (Nat.le_refl _) ?_,rfl,q _ (I.hok.fresh (Nat.le_refl _))⟩
  exact ⟨Nat.le_trans (cutV_length xs lo hi) hz,_,0,(r.drop (HT.sIx xs.length 0 lo)).take (HT.sIx xs.length xs.length hi - HT.sIx xs.length 0 lo),Heap.get?_push_size _ rfl⟩
def flatV:V → Bool
  | .non=>true
  | .bl _=>true
  | .int _=>true
  | .str _=>true
  | _=>false
def eqV:V → V → Bool
  | .non,.non=>true
  | .bl a,.bl b=>a == b
  | .bl a,.int b=>(if a then 1 else 0) == b
  | .int a,.bl b=>a == (if b then 1 else 0)
  | .int a,.int b=>a == b
  | .str a,.str b=>a == b
  | _,_=>false
theorem eqAt_V {A:Around} {s:Shared} {y x:V} {u v:Value} (ry:RelV y u) (rx:RelV x v) (fy:flatV y = true) (fx:flatV x = true) : SeqAt.EqAt A s u v (eqV y x):=by
  cases y with
  | non=>
    cases ry
    cases x with
    | non=>cases rx; exact SeqAt.EqAt.same _
    | bl b=>cases rx; exact SeqAt.EqAt.none_bool b
    | int b=>obtain ⟨t,rfl⟩:=rx; exact SeqAt.EqAt.none_int b t
    | str b=>obtain ⟨t,rfl⟩:=rx; exact SeqAt.EqAt.none_str b t
    | _=>exact absurd (show false = true from fx) Bool.false_ne_true
  | bl a=>
    cases ry
    cases x with
    | non=>cases rx; exact SeqAt.EqAt.bool_none a
    | bl b=>cases rx; exact SeqAt.EqAt.bool_bool a b
    | int b=>obtain ⟨t,rfl⟩:=rx; exact SeqAt.EqAt.bool_int a b t
    | str b=>obtain ⟨t,rfl⟩:=rx; exact SeqAt.EqAt.bool_str a b t
    | _=>exact absurd (show false = true from fx) Bool.false_ne_true
  | int a=>
    obtain ⟨t',rfl⟩:=ry
    cases x with
    | non=>cases rx; exact SeqAt.EqAt.int_none a t'
    | bl b=>cases rx; exact SeqAt.EqAt.int_bool a t' b
    | int b=>obtain ⟨t,rfl⟩:=rx; exact SeqAt.EqAt.int_int a t' b t
    | str b=>obtain ⟨t,rfl⟩:=rx; exact SeqAt.EqAt.int_str a t' b t
    | _=>exact absurd (show false = true from fx) Bool.false_ne_true
  | str a=>
    obtain ⟨t',rfl⟩:=ry
    cases x with
    | non=>cases rx; exact SeqAt.EqAt.str_none a t'
    | bl b=>cases rx; exact SeqAt.EqAt.str_bool a t' b
    | int b=>obtain ⟨t,rfl⟩:=rx; exact SeqAt.EqAt.str_int a t' b t
    | str b=>obtain ⟨t,rfl⟩:=rx; exact SeqAt.EqAt.str_str a t' b t
    | _=>exact absurd (show false = true from fx) Bool.false_ne_true
  | _=>exact absurd (show false = true from fy) Bool.false_ne_true
def eqU (x:V) (u:Value) : Bool:=match u with
  | .none=>eqV .non x
  | .bool b=>eqV (.bl b) x
  | .int i _=>eqV (.int i) x
  | .str z _=>eqV (.str z) x
  | _=>false
theorem eqU_of {x y:V} {u:Value} (r:RelV y u) (f:flatV y = true) : eqU x u = eqV y x:=by
  cases y with
  | non=>cases r; rfl
  | bl b=>cases r; rfl
  | int i=>obtain ⟨t,rfl⟩:=r; rfl
  | str z=>obtain ⟨t,rfl⟩:=r; rfl
  | _=>exact absurd (show false = true from f) Bool.false_ne_true
theorem any_eqU {x:V} : ∀ {xs:List V} {us:List Value},Vals xs us → xs.all flatV = true → us.any (eqU x) = xs.any fun y=>eqV y x
  | _,_,.nil,_=>rfl
  | y :: xs,u :: us,.cons r t,f=>by
    rw [List.all_cons,Bool.and_eq_true] at f
    rw [List.any_cons,List.any_cons,eqU_of r f.1,any_eqU t f.2]
theorem mem_eqAt {A:Around} {s:Shared} {x:V} {v:Value} (rx:RelV x v) (fx:flatV x = true) : ∀ {xs:List V} {us:List Value},Vals xs us → xs.all flatV = true → ∀ u ∈ us,SeqAt.EqAt A s u v (eqU x u)
  | _,_,.nil,_=>fun u hu=>by cases hu
  | y :: xs,u :: us,.cons r t,f=>fun u' hu=>by
    rw [List.all_cons,Bool.and_eq_true] at f
    rcases List.mem_cons.mp hu with rfl | hu
    · rw [eqU_of r f.1]; exact eqAt_V r rx f.1 fx
    · exact mem_eqAt rx fx t f.2 u' hu
def inV (x:V) (xs:List V) : Bool:=xs.any fun y=>eqV y x
def rIn (K:PySem.W.Frag) (neg:Bool) : R2:=fun x y H Q=>∃ p xs,y = .ref p ∧ (SqL K H p xs ∨ SqT K H p xs) ∧ flatV x = true ∧ xs.all flatV = true ∧ Q (.bl (if neg then !inV x xs else inV x xs)) H
theorem op_in_seq:OpR X (compareOp .In) (rIn X.K false):=by
  intro pins s σ H x y v u Q I rx ry h
  obtain ⟨p,xs,rfl,hq,fx,fs,q⟩:=h
  cases ry
  rcases hq with hq | hq
  · obtain ⟨its,r,pl,hz⟩:=I.list hq
    refine SeqAt.in_listAt (eqU x) pl.isList (fun w hw=>mem_eqAt rx fx r fs w (by simpa using hw)) ⟨.bl _,H,I,rfl,?_⟩
    rw [show its.toArray.any (eqU x) = its.any (eqU x) by simp,any_eqU r fs]
    exact q
  · obtain ⟨its,r,pl,hz⟩:=I.tuple hq
    refine SeqAt.in_tupleAt (eqU x) pl (fun w hw=>mem_eqAt rx fx r fs w (by simpa using hw)) ⟨.bl _,H,I,rfl,?_⟩
    rw [show its.toArray.any (eqU x) = its.any (eqU x) by simp,any_eqU r fs]
    exact q
theorem op_notIn_seq:OpR X (compareOp .NotIn) (rIn X.K true):=by
  intro pins s σ H x y v u Q I rx ry h
  obtain ⟨p,xs,rfl,hq,fx,fs,q⟩:=h
  cases ry
  rcases hq with hq | hq
  · obtain ⟨its,r,pl,hz⟩:=I.list hq
    refine SeqAt.notIn_listAt (eqU x) pl.isList (fun w hw=>mem_eqAt rx fx r fs w (by simpa using hw)) ⟨.bl _,H,I,rfl,?_⟩
    rw [show its.toArray.any (eqU x) = its.any (eqU x) by simp,any_eqU r fs]
    exact q
  · obtain ⟨its,r,pl,hz⟩:=I.tuple hq
    refine SeqAt.notIn_tupleAt (eqU x) pl (fun w hw=>mem_eqAt rx fx r fs w (by simpa using hw)) ⟨.bl _,H,I,rfl,?_⟩
    rw [show its.toArray.any (eqU x) = its.any (eqU x) by simp,any_eqU r fs]
    exact q
theorem j8:CallR X (.builtin "len") (fun xs H Q=>∃ p ys,xs = [.ref p] ∧ (SqL X.K H p ys ∨ SqT X.K H p ys) ∧ Q (.int ys.length) H):=by
  intro pins s σ H xs us Q I r h
  obtain ⟨p,ys,rfl,hq,q⟩:=h
  obtain ⟨u,rfl,rx⟩:=vals1 r
  cases rx
  have hn:=line63
  rcases hq with hq | hq
  · obtain ⟨its,r',pl,hz⟩:=I.list hq
    have hlen:=r'.length
    exact Calls.call_len_list pl.isList (by simp only [List.size_toArray] <;> omega) ⟨.int ys.length,H,I.tok _,⟨s.toks + 1,by rw [List.size_toArray,hlen]⟩,q⟩
  · obtain ⟨its,r',pl,hz⟩:=I.tuple hq
    have hlen:=r'.length
    exact len_tuple pl (by simp only [List.size_toArray] <;> omega) ⟨.int ys.length,H,I.tok _,⟨s.toks + 1,by rw [List.size_toArray,hlen]⟩,q⟩
theorem ye:CallR X (.type "list") (fun xs H Q=>∃ p ys,xs = [.ref p] ∧ (SqL X.K H p ys ∨ SqT X.K H p ys) ∧ ∀ l,H l = none → Q (.ref l) (upd H l (.lst ys))):=by
  intro pins s σ H xs us Q I r h
  obtain ⟨p,ys,rfl,hq,q⟩:=h
  obtain ⟨u,rfl,rx⟩:=vals1 r
  cases rx
  have fin : ∀ (its:List Value),Vals ys its → ys.length ≤ sizeLine → ∀ (h':Heap) (c':Nat),(∀ b o',s.heap.get? b = some o' → h'.get? b = some o') →
      h'.get? s.heap.objs.size = some { cls:=.type "list",dict:=none,data:=.seq its.toArray c',slots:=#[] } → EP X pins σ Q (.ref s.heap.objs.size) { s with heap:=h' }:=fun its r' hz h' c' kp e=>
    ⟨.ref s.heap.objs.size,_,I.laid (t':=s.toks) kp (Nat.le_refl _) (show ObjOk X.prog X.w _ h' _ (.lst ys) from ⟨hz,its,c',r',e⟩),rfl,q _ (I.hok.fresh (Nat.le_refl _))⟩
  rcases hq with hq | hq
  · obtain ⟨its,r',pl,hz⟩:=I.list hq
    have hlen:=r'.length
    obtain ⟨o,ho,hc,n,hd⟩:=pl.isList
    exact call_list_seq p (.inl rfl) ho hc hd (fun h' c' kp e=>fin its r' hz h' c' kp e) (by simp only [List.size_toArray] <;> omega)
  · obtain ⟨its,r',pl,hz⟩:=I.tuple hq
    have hlen:=r'.length
    obtain ⟨o,ho,hc,n,hd⟩:=pl
    exact call_list_seq p (.inr rfl) ho hc hd (fun h' c' kp e=>fin its r' hz h' c' kp e) (by simp only [List.size_toArray] <;> omega)
def tyV (K:PySem.W.Frag) (T:String) (x:V) (H:Hp) : Prop:=match x with
  | .str _=>T = "str"
  | .int _=>T = "int"
  | .ref p=>(T = "list" ∧ ∃ xs,SqL K H p xs) ∨ (T = "tuple" ∧ ∃ o,K.lookup p = some o ∧ o.cls = .type "tuple" ∧ o.dict = none) ∨
      (T = "dict" ∧ ((∃ kvs,H p = some (.dK kvs)) ∨ ∃ kvs,H p = some (.dT kvs))) ∨ (T = "set" ∧ ∃ S n,H p = some (.set S n))
  | _=>False
theorem tyV_is {pins:List (Addr × Obj)} {σ : St} {H:Hp} {s:Shared} {T:String} {x:V} {v:Value} (I:Inv X pins σ H s) (r:RelV x v) (ty:tyV X.K T x H) :
    s.TypeIs v T ∧ ∀ a,v = .ref a → ∃ ob,s.heap.get? a = some ob ∧ ob.dict = none:=by
  cases x with
  | str z=>
    obtain ⟨t,rfl⟩:=r
    cases (show T = "str" from ty)
    exact ⟨typeIs_str s z t,fun _ e=>nomatch e⟩
  | int i=>
    obtain ⟨t,rfl⟩:=r
    cases (show T = "int" from ty)
    exact ⟨typeIs_int s i t,fun _ e=>nomatch e⟩
  | ref p =>
    cases r
    rcases ty with ⟨rfl,xs,hq⟩ | ⟨rfl,o,hk,hc,hd⟩ | ⟨rfl,hk⟩ | ⟨rfl,S,n,hk⟩
    · obtain ⟨its,_,pl,_⟩:=I.list hq
      refine ⟨pl.isList.typeIs,fun a e=>?_⟩
      cases e
      obtain ⟨o,n,e,c,hd,_⟩:=pl
      exact ⟨o,e,hd⟩
    · refine ⟨⟨o,I.kIn p o hk,hc⟩,fun a e=>?_⟩
      cases e
      exact ⟨o,I.kIn _ o hk,hd⟩
    · have z : ∃ o,s.heap.get? p = some o ∧ o.ExactDict:=by
        rcases hk with ⟨kvs,hk⟩ | ⟨kvs,hk⟩
        · obtain ⟨_,_,_,_,o,_,_,e,ex,_⟩:=I.hok p _ hk
          exact ⟨o,e,ex⟩
        · obtain ⟨_,_,_,_,o,_,_,e,ex,_⟩:=I.hok p _ hk
          exact ⟨o,e,ex⟩
      obtain ⟨o,e,ex⟩:=z
      refine ⟨⟨o,e,ex.1⟩,fun a e2=>?_⟩
      cases e2
      exact ⟨o,e,ex.2.1⟩
    · obtain ⟨o,_,_,_,e,ex,_⟩:=I.hok p _ hk
      refine ⟨⟨o,e,ex.1⟩,fun a e2=>?_⟩
      cases e2
      exact ⟨o,e,ex.2.1⟩
  | _=>exact False.elim ty
def tBM0 (K:PySem.W.Frag) (T:String) (r:V → List V → Hp → VK → Prop) (to:TE) : TE:=fun σ H Q=>to σ H fun x H1=>tyV K T x H1 ∧ r x [] H1 Q
def tBM (K:PySem.W.Frag) (T:String) (r:V → List V → Hp → VK → Prop) (to:TE) (t:TA) : TE:=fun σ H Q=>to σ H fun x H1=>tyV K T x H1 ∧ t σ H1 fun xs H2=>r x xs H2 Q
variable {o e:Expr} {es:List Expr} {to:TE} {t:TA} {name:Str} {apos cpos:Pos} {T id:String} {r:V → List V → Hp → VK → Prop}
theorem pe_bm0 (pa:PlainAttrs T) (slot:Slot T name id) (hty:typeOf (.builtin id) = pure (.type "method_descriptor")) (hm:MtR X id r) (ho:PE X o to)
    (hbase:attributeBase o name X.env (eval o X.env) = eval o X.env:=by rfl) (hline:(apos.endLine == cpos.line) = true:=by rfl) : PE X (.Call (.Attribute o name apos) [] [] cpos) (tBM0 X.K T r to):=by
  intro pins s σ H Q I h
  refine wpAny_Call_method0_late hbase hline (thn (ho pins s σ H _ I h) fun v s1 ⟨x,H1,I1,r1,ty,q1⟩=>?_)
  obtain ⟨h1,h2⟩:=tyV_is I1 r1 ty
  exact ⟨T,id,pa,slot,hty,h1,h2,Calls.callWith_builtin rfl (PySem.evalArgs_none (hm pins s1 σ H1 x [] v [] Q I1 r1 .nil q1))⟩
theorem pe_bm (pa:PlainAttrs T) (slot:Slot T name id) (hty:typeOf (.builtin id) = pure (.type "method_descriptor")) (hm:MtR X id r) (ho:PE X o to) (ha:PA X (e :: es) t)
    (hbase:attributeBase o name X.env (eval o X.env) = eval o X.env:=by rfl)
    (hfew:((backTo cpos (starEach (e :: es) X.env)).all (fun x=>!x.1) && (backToKw cpos (keywordEach [] X.env)).all (fun x=>x.1.isSome)
      && decide ((e :: es).length + ([] : List Keyword).length + (if ([] : List Keyword).isEmpty then 0 else 1) < 30)) = true:=by rfl)
    (hline:(apos.endLine == cpos.line) = true:=by rfl) (hs:starEach (e :: es) X.env = (false,eval e X.env) :: starEach es X.env:=by rfl) (hplain:(backTo cpos (starEach es X.env)).any (·.1) = false:=by rfl) :
    PE X (.Call (.Attribute o name apos) (e :: es) [] cpos) (tBM X.K T r to t):=by
  intro pins s σ H Q I h
  refine wpAny_Call_method_late hbase hfew hline rfl (thn (ho pins s σ H _ I h) fun v s1 ⟨x,H1,I1,r1,ty,q1⟩=>?_)
  obtain ⟨h1,h2⟩:=tyV_is I1 r1 ty
  refine ⟨T,id,pa,slot,hty,h1,h2,?_⟩
  have hA:=ha cpos pins s1 σ H1 _ I1 q1
  rw [hs] at hA ⊢
  refine Calls.callWith_builtin (by show (false || (backTo cpos (starEach es X.env)).any (·.1)) = false; rw [hplain] <;> rfl) (Calls.evalArgs_plain ?_)
  exact thn hA fun us s2 ⟨vs,H2,I2,r2,q2⟩=>hm pins s2 σ H2 x vs v us Q I2 r1 r2 q2
end
end L2
namespace L2
open PySem PySem.Spec PyProof.Rows
def MtM (X:Cx) (id:String) (r:V → List V → Hp → VK → Prop) : Prop:=
  ∀ (pins:List (Addr × Obj)) (s:Shared) (σ : St) (H:Hp) (x:V) (xs:List V) (v:Value) (us:List Value) (Q:VK),Inv X pins σ H s → RelV x v → Vals xs us → r x xs H Q →
    wpAny (model X.prog X.w) X.A (call (.builtin id) (v :: us)) (EP X pins σ Q) X.xe s
theorem Vals.one : ∀ {x:V} {us:List Value},Vals [x] us → ∃ u,us = [u] ∧ RelV x u
  | _,_,.cons r .nil=>⟨_,rfl,r⟩
theorem Vals.eraseIdx : ∀ {xs:List V} {us:List Value} (i:Nat),Vals xs us → Vals (xs.eraseIdx i) (us.eraseIdx i)
  | _,_,_,.nil=>.nil
  | _,_,0,.cons _ t=>t
  | _,_,i + 1,.cons r t=>.cons r (Vals.eraseIdx i t)
theorem Vals.rep {xs:List V} {us:List Value} (h:Vals xs us) : ∀ k:Nat,Vals (List.replicate k xs).flatten (List.replicate k us).flatten
  | 0=>.nil
  | k + 1=>by
    rw [List.replicate_succ,List.replicate_succ,List.flatten_cons,List.flatten_cons]
    exact Vals.append h (Vals.rep h k)
theorem len_erase {α : Type} : ∀ (l:List α) (i:Nat),(l.eraseIdx i).length ≤ l.length
  | [],_=>Nat.le_refl _
  | _ :: _,0=>Nat.le_succ _
  | _ :: r,i + 1=>Nat.succ_le_succ (len_erase r i)
theorem foldl_rep (its:List Value) : ∀ (k:Nat) (acc:List Value),
    List.foldl (fun x1 x2=>x1 ++ x2) acc.toArray (List.replicate k its.toArray) = (acc ++ (List.replicate k its).flatten).toArray
  | 0,acc=>by simp
  | k + 1,acc=>by
    have e:acc.toArray ++ its.toArray = (acc ++ its).toArray:=by simp
    have e2:(acc ++ its) ++ (List.replicate k its).flatten = acc ++ (List.replicate (k + 1) its).flatten:=by
      rw [List.replicate_succ,List.flatten_cons,List.append_assoc]
    rw [← e2,← foldl_rep its k (acc ++ its),← e,List.replicate_succ,List.foldl_cons]
section
variable {X:Cx} {pins:List (Addr × Obj)} {σ : St} {H:Hp} {s:Shared} {l b:Addr} {xs ys zs:List V}
theorem Inv.lset {its its':List Value} {n:Nat} {f:Array Value → Array Value} {t':Nat} (I:Inv X pins σ H s) (hH:H l = some (.lst xs))
    (e:s.heap.get? l = some { cls:=.type "list",data:=.seq its.toArray n }) (hf:f its.toArray = its'.toArray) (hv:Vals ys its') (hz:ys.length ≤ sizeLine) :
    Inv X pins σ (upd H l (.lst ys)) { s with heap:=s.heap.update l (Obj.mapSeq f),toks:=t' }:=by
  have q:=PySem.IsL.update e f
  rw [hf] at q
  refine I.write (x:=l) (e:=l) (by rw [hH]; exact trivial) (.inl rfl) (fun b' u hb hu=>(Heap.get?_update_other s.heap (Obj.mapSeq f) (Ne.symm hb)).trans hu) ⟨_,q⟩ ?_
  exact ⟨hz,its',_,hv,q⟩
theorem Inv.lnew {its:List Value} {t':Nat} (I:Inv X pins σ H s) (hv:Vals ys its) (hz:ys.length ≤ sizeLine) :
    Inv X pins σ (upd H s.heap.objs.size (.lst ys)) { s with heap:=s.heap.push { cls:=.type "list",data:=.seq its.toArray },toks:=t' }:=
  I.laid (fun _ _ q=>Heap.get?_push_of_some _ q) (Nat.le_refl _) ⟨hz,its,0,hv,Heap.get?_push_size _ rfl⟩
theorem Inv.fresh (I:Inv X pins σ H s) : H s.heap.objs.size = none:=I.hok.fresh (Nat.le_refl _)
theorem Inv.lstM (I:Inv X pins σ H s) (hH:H l = some (.lst xs)) : xs.length ≤ sizeLine ∧ ∃ (its:List Value) (n:Nat),Vals xs its ∧ xs.length = its.length ∧ s.heap.get? l = some { cls:=.type "list",data:=.seq its.toArray n }:=by
  obtain ⟨z,its,n,r,e⟩:=I.hok l _ hH
  exact ⟨z,its,n,r,r.length,e⟩
theorem notLongL {n:Nat} (h:n ≤ sizeLine) : Builtin.List.listTooLong n = false:=by
  unfold Builtin.List.listTooLong
  exact decide_eq_false (by omega)
end
section
variable {X:Cx}
def rAppend:V → List V → Hp → VK → Prop:=fun x vs H Q=>∃ l xs y,x = .ref l ∧ vs = [y] ∧ H l = some (.lst xs) ∧ xs.length < sizeLine ∧ Q .non (upd H l (.lst (xs ++ [y])))
theorem ya:MtM X "list.append" rAppend:=by
  intro pins s σ H x vs v us Q I rx rv h
  obtain ⟨l,xs,y,rfl,rfl,hH,hz,q⟩:=h
  cases rx
  obtain ⟨u,rfl,ru⟩:=rv.one
  obtain ⟨z,its,n,r,hl,e⟩:=I.lstM hH
  refine call_meets F.slot_list_append ⟨_,e,rfl⟩ F.entry_list_append (F.args_list_append_2 _ _) (PySem.list_append l its.toArray n u (by rw [List.size_toArray]; omega)) ⟨e,?_⟩
  refine ⟨.non,_,I.lset (its':=its ++ [u]) hH e (by simp) (r.append (.cons ru .nil)) ?_,rfl,q⟩
  rw [List.length_append,List.length_singleton]
  omega
def rPopAt:V → List V → Hp → VK → Prop:=fun x vs H Q=>∃ l xs i k y,x = .ref l ∧ vs = [.int i] ∧ H l = some (.lst xs) ∧ -(2 ^ 63) ≤ i ∧ i < 2 ^ 63 ∧ seqIndex? i xs.length = some k ∧ xs[k]? = some y ∧ Q y (upd H l (.lst (xs.eraseIdx k)))
theorem mt_popAt:MtM X "list.pop" rPopAt:=by
  intro pins s σ H x vs v us Q I rx rv h
  obtain ⟨l,xs,i,k,y,rfl,rfl,hH,h1,h2,hk,hy,q⟩:=h
  cases rx
  obtain ⟨u,rfl,ru⟩:=rv.one
  obtain ⟨t,rfl⟩:=ru
  obtain ⟨z,its,n,r,hl,e⟩:=I.lstM hH
  obtain ⟨w,hw,rw'⟩:=r.get hy
  refine call_meets F.slot_list_pop ⟨_,e,rfl⟩ F.entry_list_pop (F.args_list_pop_2 _ _)
    (MeetsSeq.list_pop_at l its.toArray n i t k w (fitsIndex_both h1 h2) (by rw [List.size_toArray,← hl]; exact hk) (by rw [← Array.getElem?_toList]; exact hw) (by rw [List.size_toArray]; omega)) ⟨e,?_⟩
  refine ⟨y,_,I.lset (its':=its.eraseIdx k) hH e ?_ (r.eraseIdx k) ?_,rw',q⟩
  · show its.toArray.eraseIdxIfInBounds k = (its.eraseIdx k).toArray
    rw [List.eraseIdxIfInBounds_toArray]
  · have:=len_erase xs k
    omega
def rCat:R2:=fun x y H Q=>∃ l b xs zs,x = .ref l ∧ y = .ref b ∧ H l = some (.lst xs) ∧ H b = some (.lst zs) ∧ xs.length + zs.length ≤ sizeLine ∧ ∀ p,H p = none → Q (.ref p) (upd H p (.lst (xs ++ zs)))
theorem op_cat:OpR X (binaryOp .Add) rCat:=by
  intro pins s σ H x y v u Q I rx ry h
  obtain ⟨l,b,xs,zs,rfl,rfl,hH,hB,hz,q⟩:=h
  cases rx
  cases ry
  obtain ⟨z,its,n,r,hl,e⟩:=I.lstM hH
  obtain ⟨z2,its2,n2,r2,hl2,e2⟩:=I.lstM hB
  refine PySem.P.add_list e e2 ?_ (by rw [List.size_toArray,List.size_toArray]; omega)
  have ea:its.toArray ++ its2.toArray = (its ++ its2).toArray:=by simp
  rw [ea]
  exact ⟨.ref _,_,I.lnew (t':=s.toks) (r.append r2) (by rw [List.length_append]; omega),rfl,q _ I.fresh⟩
def rRep:R2:=fun x y H Q=>∃ l k xs,x = .ref l ∧ y = .int k ∧ H l = some (.lst xs) ∧ -(2 ^ 63) ≤ k ∧ k < 2 ^ 63 ∧ xs.length * k.toNat ≤ sizeLine ∧
  ∀ p,H p = none → Q (.ref p) (upd H p (.lst (List.replicate k.toNat xs).flatten))
theorem len_rep {α : Type} (xs:List α) (k:Nat) : (List.replicate k xs).flatten.length = k * xs.length:=by
  induction k with
  | zero=>simp
  | succ k ih=>rw [List.replicate_succ,List.flatten_cons,List.length_append,ih,Nat.succ_mul,Nat.add_comm]
theorem op_rep:OpR X (binaryOp .Mult) rRep:=by
  intro pins s σ H x y v u Q I rx ry h
  obtain ⟨l,k,xs,rfl,rfl,hH,h1,h2,hz,q⟩:=h
  cases rx
  obtain ⟨t,rfl⟩:=ry
  obtain ⟨z,its,n,r,hl,e⟩:=I.lstM hH
  have hlen:its.toArray.size * k.toNat ≤ sizeLine:=by rw [List.size_toArray,← hl]; exact hz
  have hcap : ¬ its.toArray.size * k.toNat > (2 ^ 63 - 1) / 8:=by
    have:(sizeLine:Nat) ≤ (2 ^ 63 - 1) / 8:=by decide
    omega
  have hfit : ¬ (!Builtin.List.listFitsIndex k) = true:=by
    rw [fitsIndex_both h1 h2]
    exact Bool.false_ne_true
  have hlong : ¬ Builtin.List.listTooLong (its.toArray.size * k.toNat) = true:=by
    rw [notLongL hlen]
    exact Bool.false_ne_true
  have hnew:List.foldl (fun x1 x2=>x1 ++ x2) #[] (List.replicate (if its.toArray.isEmpty = true then 0 else k.toNat) its.toArray) = (List.replicate k.toNat its).flatten.toArray:=by
    have f0 : ∀ m:Nat,List.foldl (fun x1 x2=>x1 ++ x2) #[] (List.replicate m its.toArray) = (List.replicate m its).flatten.toArray:=fun m=>by
      have:=foldl_rep its m []
      rw [List.nil_append] at this
      exact this
    rw [f0]
    cases its with
    | nil=>simp
    | cons a r'=>rw [if_neg (by simp)]
  refine wpAny_binaryOp_repeat_ref (T := "list") (U := "int") (by decide) ⟨_,e,rfl⟩ (fun s'=>typeIs_int s' k t) noFill_list_mul F.fills_int_mul F.slot_int_rmul repeat_list F.slot_int_index.lookup
    (call_meets F.slot_int_rmul (typeIs_int s k t) F.entry_int_rmul (F.args_int_rmul_2 _ _) (int___rmul___int_list k t l its.toArray n)
      ⟨e,rfl,⟨_,e,rfl⟩,call_meets F.slot_list_mul ⟨_,e,rfl⟩ F.entry_list_mul (F.args_list_mul_2 _ _) (AutoListH.list___mul___list_int_3 l its.toArray n k t hfit hcap hlong) ⟨e,?_⟩⟩)
  rw [hnew]
  exact ⟨.ref _,_,I.lnew (t':=s.toks) (r.rep k.toNat) (by rw [len_rep,Nat.mul_comm]; exact hz),rfl,q _ I.fresh⟩
end
section
variable {prog:Program} {w:World} {A:Around} {E:Value → Shared → Prop} {s:Shared}
end
section
variable {X:Cx}
end
end L2
namespace Att
open PySem PySem.W PySem.Calls PyProof.Rows
theorem ints_of_wellAll {P:Params} {h:Heap} : ∀ (ns:List Int) (vs:List Value),WellAll P h vs (ns.map WData.int) → IntsAre vs ns:=by
  intro ns
  induction ns with
  | nil=>
    intro vs w
    rw [List.map_nil] at w
    cases w
    exact .nil
  | cons n ns ih=>
    intro vs w
    rw [List.map_cons] at w
    cases w with
    | cons a b=>
      cases a
      exact .cons _ _ (ih _ b)
theorem script_of {l:OpenLaw} {n:Nat} (hn:l.most = some n) {P:Params} {h:Heap} {args:List WData} {vals:List Value}
    (hpre:l.row.toRowW.claim.pre args = true) (hwl:WellAll P h vals args) :
    ∃ a vs ns,vals = [Value.ref a] ∧ args = [WData.list (ns.map WData.int)] ∧ h.get? a = some { cls:=.type "list",data:=.seq vs.toArray } ∧ IntsAre vs ns ∧ ns.length ≤ n:=by
  have hsh:WShape.hasAll [] args [.list .int] = true:=(pre_splitW hpre).1
  have hc:l.pre.holds [] { args:=args } = true:=(pre_splitW hpre).2
  obtain ⟨d,r,rfl,h1,h2⟩:=hasAllW_cons hsh
  obtain rfl:=hasAllW_nil h2
  obtain ⟨xs,rfl,h3⟩:=hasW_list h1
  obtain ⟨ns,rfl⟩:=items_int h3
  have hlen:ns.length ≤ n:=by
    unfold OpenLaw.pre at hc
    have h4:(WTm.not (.lt (.lit (.int (n:Int))) (.len (.arg 0)))).holds [] { args:=[.list (ns.map .int)] } = true:=by
      have h4:=(holds_andW hc).1
      rw [hn] at h4
      exact h4
    have h5:=condW_of h4 (w_not (w_lt w_lit (w_len_list (w_arg rfl))))
    rw [List.length_map] at h5
    refine Nat.le_of_not_lt fun q=>?_
    have q':(n:Int) < ((ns.length:Nat) : Int):=by omega
    first
      | (rw [decide_eq_true q'] at h5; exact absurd h5 (by decide))
      | (simp at h5; omega)
  cases hwl with
  | cons w1 w2=>
    cases w2
    cases w1 with
    | list ho hall=>exact ⟨_,_,ns,rfl,rfl,ho,ints_of_wellAll ns _ hall,hlen⟩
theorem post_true (l:OpenLaw) (args:List WData) : l.row.toRowW.claim.post args (.bool true) args = true:=
  postW_of (r:=l.row.toRowW) (X:=(true == true))
    (show WShape.has [] (.bool true) .bool = true by first | rfl | decide | simp [WShape.has,WShape.arms,WShape.armsAll])
    (show (WTm.eq .res (.lit (.bool true))).value [] { args:=args,res:=some (.bool true),after:=args } = some (.bool (true == true)) from w_eq_bool (w_res rfl) w_lit) rfl
theorem attach_call {l:OpenLaw} {n:Nat} {q:Program} {loose:List Str} {XP:(Str → Option Value) → Heap → Prop} {YP:World → Heap → Prop} {d:DefRec}
    (hn:l.most = some n) (hdf:d.params.defaults = [])
    (call : ∀ (w:World) (s₀ s₁:Shared) (mg mb:Str → Option Value) (fa:Addr) (o:Obj) (pm cd doc:Value) (a:Addr) (vs:List Value) (ns:List Int),
      Ground q loose [] XP w s₀ mg mb s₁.heap → YP w s₁.heap →
      s₁.heap.get? fa = some o → o.data = .func (docDef d.name d.params d.body d.scope pm cd doc) → s₁.heap.CodeRec cd d.name → mg d.name = some (.ref fa) →
      s₁.heap.get? a = some { cls:=.type "list",data:=.seq vs.toArray } → IntsAre vs ns → ns.length ≤ n → s₁.gens = #[] →
      codeAny (model l.prog w) callerA (.call (.ref fa) ⟨[.ref a],[]⟩) (fun r s'=>r = .ok (.ret (.bool true)) ∧ OldK s₁.heap s'.heap ∧ s'.os = s₁.os ∧ AllBare s'.gens) s₁) :
    WalkO q loose XP YP l.row.toRowW d [] (fun f vs=>PySem.call f vs):=by
  intro w s₀ s₁ mg mb G Y fa o pm cd doc dV kV ho hd hcd hD hmg hg args vals as hpre hlay hrd hwl hlo
  obtain rfl:dV = .none:=Dflts.none hD hdf
  obtain rfl:kV = .none:=Dflts.noKw hD
  obtain ⟨a,vs,ns,rfl,rfl,hobj,hints,hlen⟩:=script_of hn hpre hwl
  refine enter_call (codeAny_mono (call w s₀ s₁ mg mb fa o pm cd doc a vs ns G Y ho (fd_plain hd) hcd hmg hobj hints hlen hg) fun r s' hq=>?_)
  obtain ⟨rfl,h2,h3,h4⟩:=hq
  exact ⟨.inl ⟨.bool true,.bool true,[],rfl,fun _=>rfl,.bool true,post_true l _,fun _=>⟨List.Pairwise.nil,fun _ hm=>(nomatch hm)⟩⟩,h2,h3,h4⟩
section
variable {prog:Program} {w:World} {A:Around} {E:Value → Shared → Prop} {s:Shared} {K:Frag}
end
end Att
namespace L2
open PySem PySem.Spec PyProof.Rows
theorem vals_ints : ∀ {vs:List Value} {ns:List Int},IntsAre vs ns → Vals (ns.map V.int) vs
  | _,_,.nil=>.nil
  | _,_,.cons n t h=>.cons ⟨t,rfl⟩ (vals_ints h)
def Only (H:Hp) : Prop:=∀ b,H b = none ∨ ∃ o xs,H b = some (.frz o (.lst xs))
theorem law_call {P:Program} {w:World} {K:PySem.W.Frag} {mg mb:Str → Option Value} {CX:CXT} {k:Nat} {fa a:Addr} {fd:FuncData} {x:Str} {sp:Sp} {s₁:Shared} {vs:List Value} {ns:List Int}
    (KX:K.In s₁.heap) (hns:s₁.heap.Ns mainGlobals mg) (hb:s₁.heap.Ns builtinsNs mb) (hbb : ∀ x:Str,x ≠ "__name__" → mb x = bootBuiltins x) (hlim:s₁.heap.NoLimit) (hg:s₁.gens = #[])
    (ha:s₁.heap.get? a = some { cls:=.type "list",data:=.seq vs.toArray }) (hi:IntsAre vs ns) (hl:ns.length ≤ sizeLine) (hr:Room k callerA)
    (F : ∀ base:Heap,K.In base → base.Ns mainGlobals mg → FnOk P w K mg base CX k fa fd [x] sp) (hbind : ∀ (s:Shared) (u:Value),BindsTo s fd ⟨[u],[]⟩ [(x,u)])
    (hsp : ∀ H:Hp,Only H → SqL K H a (ns.map V.int) → sp [.ref a] H (fun v _=>v = .bl true) fun _ _ _=>False)
    (hCX : ∀ H e s',CX [] H s₁ (fun _ _ _=>False) e s' → False) :
    codeAny (model P w) callerA (.call (.ref fa) ⟨[.ref a],[]⟩) (fun r s'=>r = .ok (.ret (.bool true)) ∧ OldK s₁.heap s'.heap ∧ s'.os = s₁.os ∧ AllBare s'.gens) s₁:=by
  have rv:=vals_ints hi
  have lenV:=hi.length
  have core : ∀ H:Hp,Only H → SqL K H a (ns.map V.int) → HOk P w H s₁.heap → (∀ b,H b ≠ none → b = a) → (H a ≠ none → K.lookup a = none) →
      codeAny (model P w) callerA (.call (.ref fa) ⟨[.ref a],[]⟩) (fun r s'=>r = .ok (.ret (.bool true)) ∧ OldK s₁.heap s'.heap ∧ s'.os = s₁.os ∧ AllBare s'.gens) s₁:=by
    intro H hO hS hok hA hK
    have base_of : ∀ {b:Addr} {o:Obj},s₁.heap.get? b = some o → H b = none → (hidT s₁.heap H).get? b = some o:=fun e n=>hidT_get e n
    have noA : ∀ {b:Addr} {o:Obj} {es:Array DictEntry} {ep:Nat},s₁.heap.get? b = some o → o.data = .dict es ep → H b = none:=fun {b o es ep} e d=>by
      cases q:H b with
      | none=>rfl
      | some u=>
        have e':b = a:=hA b (by rw [q]; simp)
        subst e'
        rw [ha] at e; cases e
        have d':Data.seq vs.toArray _ = Data.dict es ep:=d
        cases d'
    have nsK : ∀ {b:Addr} {m:Str → Option Value},s₁.heap.Ns b m → (hidT s₁.heap H).Ns b m:=fun {b m} ⟨o,es,ep,e,d,r⟩=>⟨o,es,ep,base_of e (noA e d),d,r⟩
    have hKb:K.In (hidT s₁.heap H):=fun b o e=>base_of (KX b o e) (by
      cases q:H b with
      | none=>rfl
      | some u=>
        have e':b = a:=hA b (by rw [q]; simp)
        subst e'
        rw [hK (by rw [q]; simp)] at e; cases e)
    have hM:Mod K mg (hidT s₁.heap H):=⟨hKb,nsK hns,⟨mb,nsK hb,hbb⟩,let ⟨mc,h1,h2⟩:=hlim; ⟨mc,nsK h1,h2⟩⟩
    have e0:Env0 P w K mg (hidT s₁.heap H) callerA [] s₁ H:=⟨rfl,hM,fun b o e=>of_hidT e,Nat.le_of_eq (hidT_size _ _),trivial,fun b hb=>absurd (show b ∈ ([] : List Addr) from hb) (by simp),hok,.of_eq hg⟩
    refine codeAny_mono ((F _ hKb (nsK hns)).run callerA [] s₁ H ⟨[.ref a],[]⟩ [.ref a] [.ref a] _ _ hr e0 (hbind s₁ (.ref a)) (.cons rfl .nil) (hsp H hO hS)) fun r s' h=>?_
    cases r with
    | error e=>exact (hCX H e s' h).elim
    | ok fl =>
      cases fl with
      | next=>exact False.elim h
      | brk=>exact False.elim h
      | cont=>exact False.elim h
      | ret u=>
        obtain ⟨v,H',os,bare,un,hok',r',q⟩:=h
        have q':v = .bl true:=q
        subst q'
        obtain rfl:u = Value.bool true:=r'
        refine ⟨rfl,OldK.of_keep fun b o e=>?_,os,bare⟩
        cases q:H b with
        | none=>exact un.keep b o e q (by intro z; exact absurd (show b ∈ ([] : List Addr) from z) (by simp)) (by simp)
        | some u=>
          rcases hO b with z | ⟨ob,xs,z⟩
          · rw [q] at z; cases z
          · have z2:=un.frzs b ob _ z
            obtain ⟨e1,_⟩:=hok b _ z
            obtain ⟨e2,_⟩:=hok' b _ z2
            rw [e] at e1; cases e1
            exact e2
  cases hk:K.lookup a with
  | some o=>
    have e:=KX a o hk
    rw [ha] at e
    cases e
    refine core (fun _=>none) (fun _=>.inl rfl) (.inr ⟨_,vs.toArray,_,hk,rfl,rfl,rfl,by rw [List.size_toArray,lenV]; exact hl,by simpa using rv⟩) (fun b u z=>by have z':(none:Option HO) = some u:=z; cases z') (fun b z=>absurd rfl z) fun z=>absurd rfl z
  | none=>
    refine core (fun b=>if b = a then some (.frz { cls:=.type "list",data:=.seq vs.toArray } (.lst (ns.map V.int))) else none) (fun b=>?_) (.inl (.inr ⟨{ cls:=.type "list",data:=.seq vs.toArray },if_pos rfl⟩)) (fun b u z=>?_) (fun b z=>?_) fun _=>hk
    · by_cases hb:b = a
      · exact .inr ⟨_,_,if_pos hb⟩
      · exact .inl (if_neg hb)
    · by_cases hb:b = a
      · have z':=(if_pos hb).symm.trans z
        cases z'
        subst hb
        exact ⟨ha,by rw [List.length_map]; exact hl,vs,_,rv,ha⟩
      · have z':=(if_neg hb).symm.trans z
        cases z'
    · by_cases hb:b = a
      · exact hb
      · exact absurd (if_neg hb) z
end L2
namespace L2
open PySem PySem.Spec PyProof.Rows
theorem walk_of {l:PySem.W.OpenLaw} {n k:Nat} {q:Program} {loose:List Str} {XP:(Str → Option Value) → Heap → Prop} {YP:World → Heap → Prop} {d:DefRec} {K:Params → PySem.W.Frag} {CX:World → CXT} {sp:World → Sp} {x:Str}
    (hn:l.most = some n) (hn2:n ≤ sizeLine) (hdf:d.params.defaults = []) (hr:Room k callerA)
    (hY : ∀ (w:World) (h:Heap),YP w h → (K w.params).In h)
    (F : ∀ (w:World) (mg:Str → Option Value) (fa:Addr) (h:Heap),(K w.params).In h → h.Ns mainGlobals mg → mg d.name = some (.ref fa) →
      ∃ fd:FuncData,(∀ (s:Shared) (u:Value),BindsTo s fd ⟨[u],[]⟩ [(x,u)]) ∧
        ∀ base:Heap,(K w.params).In base → base.Ns mainGlobals mg → FnOk l.prog w (K w.params) mg base (CX w) k fa fd [x] (sp w))
    (hsp : ∀ (w:World) (H:Hp) (a:Addr) (ns:List Int),ns.length ≤ n → Only H → SqL (K w.params) H a (ns.map V.int) → sp w [.ref a] H (fun v _=>v = .bl true) fun _ _ _=>False)
    (hCX : ∀ (w:World) (H:Hp) (s:Shared) (e:Value) (s':Shared),CX w [] H s (fun _ _ _=>False) e s' → False) :
    PySem.W.WalkO q loose XP YP l.row.toRowW d [] (fun f vs=>PySem.call f vs):=by
  refine Att.attach_call hn hdf fun w s₀ s₁ mg mb fa o pm cd doc a vs ns G Y ho hd hcd hmg hobj hints hlen hg=>?_
  have KX:=hY w _ Y
  obtain ⟨fd,hb,hF⟩:=F w mg fa _ KX G.T.g hmg
  exact law_call KX G.T.g G.T.b G.T.builtins G.T.nolimit hg hobj hints (Nat.le_trans hlen hn2) hr hF hb (fun H hO hS=>hsp w H a ns hlen hO hS) fun H e s'=>hCX w H s₁ e s'
theorem walk_ofK {l:PySem.W.OpenLaw} {n k:Nat} {q:Program} {loose:List Str} {XP:(Str → Option Value) → Heap → Prop} {YP:World → Heap → Prop} {d:DefRec} {K:Params → PySem.W.Frag} {CX:CXT} {sp:PySem.W.Frag → Sp} {x:Str}
    (hn:l.most = some n) (hn2:n ≤ sizeLine) (hdf:d.params.defaults = []) (hr:Room k callerA)
    (hY : ∀ (w:World) (h:Heap),YP w h → (K w.params).In h)
    (F : ∀ (w:World) (mg:Str → Option Value) (fa:Addr) (h:Heap),(K w.params).In h → h.Ns mainGlobals mg → mg d.name = some (.ref fa) →
      ∃ fd:FuncData,(∀ (s:Shared) (u:Value),BindsTo s fd ⟨[u],[]⟩ [(x,u)]) ∧
        ∀ base:Heap,(K w.params).In base → base.Ns mainGlobals mg → FnOk l.prog w (K w.params) mg base CX k fa fd [x] (sp (K w.params)))
    (hsp : ∀ (K:PySem.W.Frag) (H:Hp) (a:Addr) (ns:List Int),ns.length ≤ n → Only H → SqL K H a (ns.map V.int) → sp K [.ref a] H (fun v _=>v = .bl true) fun _ _ _=>False)
    (hCX : ∀ (H:Hp) (s:Shared) (e:Value) (s':Shared),CX [] H s (fun _ _ _=>False) e s' → False) :
    PySem.W.WalkO q loose XP YP l.row.toRowW d [] (fun f vs=>PySem.call f vs):=
  walk_of (K:=K) (CX:=fun _=>CX) (sp:=fun w=>sp (K w.params)) hn hn2 hdf hr hY F (fun w H a ns h1 h2 h3=>hsp (K w.params) H a ns h1 h2 h3) fun _ H s e s'=>hCX H s e s'
end L2
namespace L2
open PySem PySem.Spec PyProof.Rows
def inClass (s:Stmt) (j:Nat) : Stmt:=match s with
  | .ClassDef _ _ _ body _ _ _ _ _ _ _=>body.getD j (.Pass ⟨0,0,0,0⟩)
  | _=>.Pass ⟨0,0,0,0⟩
def jr (s:Stmt) : Arguments:=match s with
  | .FunctionDef _ a _ _ _ _ _ _ _ _=>a
  | _=>{ posonlyargs:=[],args:=[],vararg:=none,kwonlyargs:=[],kw_defaults:=[],kwarg:=none,defaults:=[] }
def jq (s:Stmt) : List Stmt:=match s with
  | .FunctionDef _ _ b _ _ _ _ _ _ _=>b
  | _=>[]
def jb (s:Stmt) : Scope:=match s with
  | .FunctionDef _ _ _ _ _ _ sc _ _ _=>sc
  | _=>{ kind:=.function,names:=[],isGenerator:=false,isCoroutine:=false }
abbrev CX0:CXT:=fun _ _ _ _ _ _=>False
abbrev E0:XK:=fun _ _ _=>False
theorem jx {X:Cx} : Passes CX0 X E0:=fun _ _ _ _ _ _ _ h=>h.elim
structure Fun (K:PySem.W.Frag) (x qual:Str) (st:Stmt) (f:Addr) (fd:FuncData) : Prop where
  ex : ∃ (oc:Value) (od:Option Addr) (kV doc pm:Value) (an:Option Addr) (cdv ct:Value) (osl:Array (Option Value)),
    fd = PySem.W.fnOf x qual (jr st) (jq st) (jb st) .none kV doc pm an cdv ct ∧ K.lookup f = some ⟨oc,od,.func fd,osl⟩ ∧ PySem.W.codeIn K cdv qual = true
  kp:PySem.W.keepIn K (.ref f) = true
section
variable {P:Program} {w:World} {K:PySem.W.Frag} {mg:Str → Option Value} {base:Heap}
theorem Fun.ok {x qual:Str} {st:Stmt} {f:Addr} {fd:FuncData} {N ps:List Str} {k:Nat} {sp:Sp} (F:Fun K x qual st f fd) (S:jt N ps (jb st)) (len : ∀ vs H Q E,sp vs H Q E → vs.length = ps.length)
    (hbody : ∀ (cdv:Value) (A:Around) (outer:List Env) (s:Shared) (H:Hp) (vs:List V) (Q:VK) (E:XK),Room k (A.deeper (envOfC qual (jb st) s.heap.objs.size f cdv)) → sp vs H Q E →
      ∃ t,PSs (cxOf CX0 P w K mg base N qual (jb st) f cdv A outer s H E).nox (jq st) t ∧ t { nx:=fun _ H'=>Q .non H',rt:=Q } (start N vs) H) : FnOk P w K mg base CX0 (k + 1) f fd ps sp:=by
  obtain ⟨oc,od,kV,doc,pm,an,cdv,ct,osl,rfl,lk,hcd⟩:=F.ex
  refine fn_of lk hcd S len fun A outer s H vs Q E hr hsp=>?_
  obtain ⟨t,h,q⟩:=hbody cdv A outer s H vs Q E hr hsp
  exact ⟨t,h.nox,q⟩
theorem Fun.binds {x qual:Str} {st:Stmt} {f:Addr} {fd:FuncData} {ps:List Str} (F:Fun K x qual st f fd)
    (h : ∀ (kV doc pm:Value) (an:Option Addr) (cdv ct:Value) (us:List Value),us.length = ps.length → bindArgs (PySem.W.fnOf x qual (jr st) (jq st) (jb st) .none kV doc pm an cdv ct) ⟨us,[]⟩ = pure (ps.zip us)) : Binds K fd ps []:=by
  obtain ⟨oc,od,kV,doc,pm,an,cdv,ct,osl,rfl,lk,hcd⟩:=F.ex
  exact .all (h kV doc pm an cdv ct)
theorem jk {x qual:Str} {st:Stmt} {f:Addr} {oc:Value} {od an:Option Addr} {osl:Array (Option Value)} {kV doc pm cdv ct:Value} (l:K.lookup f = some ⟨oc,od,.func (PySem.W.fnOf x qual (jr st) (jq st) (jb st) .none kV doc pm an cdv ct),osl⟩)
    (c:PySem.W.codeIn K cdv qual = true) (k:PySem.W.keepIn K (.ref f) = true) : Fun K x qual st f (PySem.W.fnOf x qual (jr st) (jq st) (jb st) .none kV doc pm an cdv ct):=⟨⟨oc,od,kV,doc,pm,an,cdv,ct,osl,rfl,l,c⟩,k⟩
end
theorem hu_of {A:Around} {k:Nat} (hr:Room k A) : A.units + 1 < cLine:=Nat.lt_of_le_of_lt (Nat.add_le_add_left (by decide : 1 ≤ 64) _) hr.units
theorem xy {n:Nat} (h:n ≤ 1000) : n < sizeLine:=Nat.lt_of_le_of_lt h (by decide)
section
variable {X:Cx}
theorem pv (i:Nat) {x:Str} {pos:Pos} (hN:X.N[i]? = some x:=by rfl) (hv:Vis X.env.scope x:=by first | exact Or.inl rfl | exact Or.inr (Or.inl rfl) | exact Or.inr (Or.inr rfl)) (hd:(x == ("__debug__" : Str)) = false:=by decide)
    (hcd:(x == ("__classdict__" : Str)) = false:=by decide) : PE X (.Name x pos) (tVar i):=pe_var hN hv hd hcd
end
theorem iteF {A B:Prop} (h:B) : if false = true then A else B:=by
  rw [if_neg Bool.false_ne_true]
  exact h
theorem iteT {A B:Prop} (h:A) : if true = true then A else B:=by
  rw [if_pos rfl]
  exact h
theorem ite2 {c A B:Prop} [Decidable c] (h1:c → A) (h2 : ¬ c → B) : if c then A else B:=by
  by_cases h:c
  · rw [if_pos h]
    exact h1 h
  · rw [if_neg h]
    exact h2 h
def Same (H H':Hp) : Prop:=∀ b o,H b = some o → H' b = some o
theorem Same.refl (H:Hp) : Same H H:=fun _ _ h=>h
theorem Same.trans {H H1 H2:Hp} (a:Same H H1) (b:Same H1 H2) : Same H H2:=fun c o h=>b c o (a c o h)
theorem Same.free {H H':Hp} (e:Same H H') {l:Addr} (h:H' l = Option.none) : H l = Option.none:=by
  cases q:H l with
  | none=>rfl
  | some o=>
    rw [e l o q] at h
    cases h
theorem Same.seq {K:PySem.W.Frag} {H H':Hp} {a:Addr} {xs:List V} (e:Same H H') (h:SqL K H a xs) : SqL K H' a xs:=by
  rcases h with (h | ⟨o,h⟩) | h
  · exact .inl (.inl (e _ _ h))
  · exact .inl (.inr ⟨o,e _ _ h⟩)
  · exact .inr h
end L2
namespace L2
open PySem PySem.Spec PyProof.Rows
section
variable {κ : Type} [DecidableEq κ]
def valV (kvs:List (κ × V)) (k : κ) : Option V:=(kvs.find? fun kv=>decide (kv.1 = k)).map (·.2)
def putK (kvs:List (κ × V)) (k : κ) (v:V) : List (κ × V):=
  if (kvs.any fun kv=>decide (kv.1 = k)) = true then kvs.map (fun kv=>if kv.1 = k then (kv.1,v) else kv) else kvs ++ [(k,v)]
theorem valV_pos {p : κ × V} {r:List (κ × V)} {k : κ} (e:p.1 = k) : valV (p :: r) k = some p.2:=by simp [valV,List.find?_cons,e]
theorem valV_neg {p : κ × V} {r:List (κ × V)} {k : κ} (e : ¬ p.1 = k) : valV (p :: r) k = valV r k:=by simp [valV,List.find?_cons,e]
theorem valV_any (k : κ) : ∀ kvs:List (κ × V),(kvs.any fun kv=>decide (kv.1 = k)) = (valV kvs k).isSome
  | []=>rfl
  | p :: r=>by
    rw [List.any_cons]
    by_cases e:p.1 = k
    · simp only [valV_pos e,decide_eq_true e,Bool.true_or,Option.isSome_some]
    · rw [valV_neg e,decide_eq_false e,Bool.false_or]; exact valV_any k r
theorem length_putK (kvs:List (κ × V)) (k : κ) (v:V) : (putK kvs k v).length ≤ kvs.length + 1:=by
  unfold putK
  split
  · rw [List.length_map]; omega
  · rw [List.length_append,List.length_cons,List.length_nil]; omega
theorem putK_new {kvs:List (κ × V)} {k : κ} (v:V) (h:valV kvs k = none) : putK kvs k v = kvs ++ [(k,v)]:=by
  unfold putK
  rw [valV_any,h]
  exact if_neg (by decide)
theorem RelO.isSome_eq {o:Option V} {u:Option Value} (r:RelO o u) : o.isSome = u.isSome:=by
  cases o with
  | none=>cases u with
    | none=>rfl
    | some _=>exact (show False from r).elim
  | some _=>cases u with
    | none=>exact (show False from r).elim
    | some _=>rfl
theorem RelO.getD {o:Option V} {u:Option Value} {d:V} {d':Value} (r:RelO o u) (rd:RelV d d') : RelV (o.getD d) (u.getD d'):=by
  cases o with
  | none=>cases u with
    | none=>exact rd
    | some _=>exact (show False from r).elim
  | some _=>cases u with
    | none=>exact (show False from r).elim
    | some _=>exact r
theorem KV.val {kvs:List (κ × V)} {vs:List (κ × Value)} (r:KV kvs vs) (k : κ) : RelO (valV kvs k) (valueAt vs k):=by
  unfold KV at r
  induction r with
  | nil=>exact True.intro
  | @cons p q ps qs h t ih=>
    obtain ⟨h1,h2⟩:=h
    by_cases e:p.1 = k
    · have e':q.1 = k:=h1.symm.trans e
      have b:valueAt (q :: qs) k = some q.2:=by simp [valueAt,List.find?_cons,e']
      rw [valV_pos e,b]; exact h2
    · have e' : ¬ q.1 = k:=fun z=>e (h1.trans z)
      have b:valueAt (q :: qs) k = valueAt qs k:=by simp [valueAt,List.find?_cons,e']
      rw [valV_neg e,b]; exact ih
theorem KV.any {kvs:List (κ × V)} {vs:List (κ × Value)} (r:KV kvs vs) (k : κ) : (kvs.any fun kv=>decide (kv.1 = k)) = vs.any fun kv=>decide (kv.1 = k):=by
  unfold KV at r
  induction r with
  | nil=>rfl
  | cons h t ih=>rw [List.any_cons,List.any_cons,ih,h.1]
theorem KV.repl {kvs:List (κ × V)} {vs:List (κ × Value)} (r:KV kvs vs) (k : κ) {y:V} {u:Value} (ry:RelV y u) :
    KV (kvs.map fun kv=>if kv.1 = k then (kv.1,y) else kv) (vs.map fun kv=>if kv.1 = k then (kv.1,u) else kv):=by
  unfold KV at r ⊢
  induction r with
  | nil=>exact .nil
  | @cons p q ps qs h t ih=>
    rw [List.map_cons,List.map_cons]
    refine .cons ?_ ih
    obtain ⟨h1,h2⟩:=h
    by_cases e:p.1 = k
    · rw [if_pos e,if_pos (h1.symm.trans e)]; exact ⟨h1,ry⟩
    · rw [if_neg e,if_neg (fun z=>e (h1.trans z))]; exact ⟨h1,h2⟩
theorem KV.put {kvs:List (κ × V)} {vs:List (κ × Value)} (r:KV kvs vs) (k : κ) {y:V} {u:Value} (ry:RelV y u) : KV (putK kvs k y) (stored vs k u):=by
  unfold putK stored
  rw [r.any k]
  by_cases e:(vs.any fun kv=>decide (kv.1 = k)) = true
  · rw [if_pos e,if_pos e]; exact r.repl k ry
  · rw [if_neg e,if_neg e]; exact Paired.snoc r ⟨rfl,ry⟩
theorem KV.length {kvs:List (κ × V)} {vs:List (κ × Value)} (r:KV kvs vs) : kvs.length = vs.length:=Paired.length r
end
theorem kV_is {P:Program} {w:World} {k:Key} {u:Value} (r:RelV (kV k) u) : (zh P w).is k u = true:=by
  cases k with
  | inl i=>obtain ⟨t,e⟩:=(show ∃ t,u = Value.int i t from r); subst e; exact mixKind_int P w i t
  | inr x=>obtain ⟨t,e⟩:=(show ∃ t,u = Value.str x t from r); subst e; exact mixKind_str P w x t
theorem items_are {P:Program} {w:World} : ∀ {ks:List Key} {us:List Value},Vals (ks.map kV) us → ItemsAre (zh P w) ks us
  | [],_,r=>by rw [List.map_nil] at r; cases r; exact .nil
  | k :: ks,_,r=>by
    rw [List.map_cons] at r
    cases r with
    | cons h t=>exact .cons (kV_is h) (items_are t)
abbrev KT (H:Hp) : List (List Key × V) → List (List Key × Addr × Value) → Prop:=Paired fun p q=>p.1 = q.1 ∧ H q.2.1 = some (.tup (p.1.map kV)) ∧ RelV p.2 q.2.2
theorem KT.val {H:Hp} {kvs:List (List Key × V)} {xs:List (List Key × Addr × Value)} (r:KT H kvs xs) (k:List Key) : RelO (valV kvs k) ((atKey xs k).map (·.2)):=by
  induction r with
  | nil=>exact True.intro
  | @cons p q ps qs h t ih=>
    obtain ⟨h1,_,h2⟩:=h
    by_cases e:p.1 = k
    · have e':q.1 = k:=h1.symm.trans e
      have b:atKey (q :: qs) k = some q.2:=by simp [atKey,List.find?_cons,e']
      rw [valV_pos e,b]; exact h2
    · have e' : ¬ q.1 = k:=fun z=>e (h1.trans z)
      have b:atKey (q :: qs) k = atKey qs k:=by simp [atKey,List.find?_cons,e']
      rw [valV_neg e,b]; exact ih
theorem KT.repl {H:Hp} {kvs:List (List Key × V)} {xs:List (List Key × Addr × Value)} (r:KT H kvs xs) (k:List Key) {y:V} {u:Value} (ry:RelV y u) :
    KT H (kvs.map fun kv=>if kv.1 = k then (kv.1,y) else kv) (xs.map (putAt k u)):=by
  induction r with
  | nil=>exact .nil
  | @cons p q ps qs h t ih=>
    rw [List.map_cons,List.map_cons]
    refine .cons ?_ ih
    obtain ⟨h1,h2,h3⟩:=h
    unfold putAt
    by_cases e:p.1 = k
    · rw [if_pos e,if_pos (h1.symm.trans e)]; exact ⟨h1,h2,ry⟩
    · rw [if_neg e,if_neg (fun z=>e (h1.trans z))]; exact ⟨h1,h2,h3⟩
theorem KT.put {H:Hp} {kvs:List (List Key × V)} {xs:List (List Key × Addr × Value)} (r:KT H kvs xs) (k:List Key) {b:Addr} {y:V} {u:Value} (hb:H b = some (.tup (k.map kV))) (ry:RelV y u) :
    KT H (putK kvs k y) (storedH xs k b u):=by
  have e:(kvs.any fun kv=>decide (kv.1 = k)) = (atKey xs k).isSome:=by
    rw [valV_any,(r.val k).isSome_eq,Option.isSome_map]
  unfold putK storedH
  rw [e]
  by_cases q:(atKey xs k).isSome = true
  · rw [if_pos q,if_pos q]; exact r.repl k ry
  · rw [if_neg q,if_neg q]; exact Paired.snoc r ⟨rfl,hb,ry⟩
theorem KT.keeps {H H':Hp} {kvs:List (List Key × V)} {xs:List (List Key × Addr × Value)} (r:KT H kvs xs) (ht : ∀ b ys,H b = some (.tup ys) → H' b = some (.tup ys)) : KT H' kvs xs:=
  Paired.mapP r fun _ _ z=>⟨z.1,ht _ _ z.2.1,z.2.2⟩
section
variable {P:Program} {w:World} {H:Hp} {h:Heap} {a:Addr}
theorem rd_of {u:HO} (ok:HOk P w H h) (e:Rd H a u) : ObjOk P w H h a u:=e.ok ok
theorem dk_rd {kvs:List (Key × V)} (ok:HOk P w H h) (e:Rd H a (.dK kvs)) : kvs.length ≤ sizeLine ∧ (a == sysModules) = false ∧ ∃ vs,KV kvs vs ∧ h.DictOf (zh P w) a vs:=
  show ObjOk P w H h a (.dK kvs) from rd_of ok e
theorem dk_of {kvs:List (Key × V)} (ok:HOk P w H h) (e:H a = some (.dK kvs)) : kvs.length ≤ sizeLine ∧ (a == sysModules) = false ∧ ∃ vs,KV kvs vs ∧ h.DictOf (zh P w) a vs:=dk_rd ok (.inl e)
theorem key_of {ks:List Key} (ok:HOk P w H h) (e:H a = some (.tup (ks.map kV))) : (tupleKind (zh P w)).is h ks a:=by
  obtain ⟨_,its,r,o,h1,h2,n,h3⟩:=(show ObjOk P w H h a (.tup (ks.map kV)) from ok a _ e)
  exact ⟨o,its.toArray,n,h1,h2,h3,by simpa using items_are r⟩
theorem dt_rd {kvs:List (List Key × V)} (ok:HOk P w H h) (e:Rd H a (.dT kvs)) : kvs.length ≤ sizeLine ∧ (a == sysModules) = false ∧
    ∃ xs,KT H kvs xs ∧ h.DictOfH (tupleKind (zh P w)) a xs:=by
  obtain ⟨z,y,xs,r,o,es,ep,h1,h2,h3,h4,h5⟩:=(show ObjOk P w H h a (.dT kvs) from rd_of ok e)
  refine ⟨z,y,xs,r,o,es,ep,h1,h2,h3,h4,fun x hx=>?_,h5⟩
  have all : ∀ {l:List (List Key × V)} {m:List (List Key × Addr × Value)},KT H l m → ∀ x ∈ m,(tupleKind (zh P w)).is h x.1 x.2.1:=by
    intro l m q
    induction q with
    | nil=>intro x hx; exact nomatch hx
    | @cons p q ps qs hq t ih=>
      intro x hx
      rcases List.mem_cons.mp hx with e | hx
      · subst e
        exact key_of ok (by rw [← hq.1]; exact hq.2.1)
      · exact ih x hx
  exact all r x hx
theorem dt_of {kvs:List (List Key × V)} (ok:HOk P w H h) (e:H a = some (.dT kvs)) : kvs.length ≤ sizeLine ∧ (a == sysModules) = false ∧
    ∃ xs,KT H kvs xs ∧ h.DictOfH (tupleKind (zh P w)) a xs:=dt_rd ok (.inl e)
end
def DGet (H:Hp) (a:Addr) (y:V) (r:Option V) : Prop:=
  (∃ kvs k,Rd H a (.dK kvs) ∧ y = kV k ∧ r = valV kvs k) ∨ ∃ kvs k b,Rd H a (.dT kvs) ∧ y = .ref b ∧ H b = some (.tup (k.map kV)) ∧ r = valV kvs k
def DPut (H:Hp) (a:Addr) (y v:V) (H':Hp) : Prop:=
  (∃ kvs k,H a = some (.dK kvs) ∧ y = kV k ∧ kvs.length < sizeLine ∧ H' = upd H a (.dK (putK kvs k v))) ∨
  ∃ kvs k b,H a = some (.dT kvs) ∧ y = .ref b ∧ H b = some (.tup (k.map kV)) ∧ kvs.length < sizeLine ∧ H' = upd H a (.dT (putK kvs k v))
theorem DPut.k {H:Hp} {a:Addr} {kvs:List (Key × V)} {k:Key} {v:V} (e:H a = some (.dK kvs)) (hl:kvs.length < sizeLine) : DPut H a (kV k) v (upd H a (.dK (putK kvs k v))):=.inl ⟨kvs,k,e,rfl,hl,rfl⟩
theorem DPut.t {H:Hp} {a b:Addr} {kvs:List (List Key × V)} {k:List Key} {v:V} (e:H a = some (.dT kvs)) (eb:H b = some (.tup (k.map kV))) (hl:kvs.length < sizeLine) :
    DPut H a (.ref b) v (upd H a (.dT (putK kvs k v))):=.inr ⟨kvs,k,b,e,rfl,eb,hl,rfl⟩
section
variable {X:Cx} {pins:List (Addr × Obj)} {σ : St} {H:Hp} {s:Shared} {a:Addr} {y v:V} {u r:Value} {o:Option V} {A:Around} {E:Value → Shared → Prop}
theorem Inv.big (I:Inv X pins σ H s) : sysModules < s.heap.objs.size:=by
  have h:mainGlobals < s.heap.objs.size:=(I.mod.glob.keeps I.bk).lt
  exact Nat.lt_trans (by decide) h
theorem d_getItem {Q:Value → Shared → Prop} (hu:A.units + 1 < cLine) (I:Inv X pins σ H s) (g:DGet H a y (some v)) (ry:RelV y u) (h : ∀ w' s',Inv X pins σ H s' → RelV v w' → Q w' s') :
    wpAny (model X.prog X.w) A (getItem (.ref a) u) Q E s:=by
  rcases g with ⟨kvs,k,e,ey,l⟩ | ⟨kvs,k,b,e,ey,eb,l⟩
  · subst ey
    obtain ⟨z,hd,vs,rel,dd⟩:=dk_rd I.hok e
    obtain ⟨w',hw,rw'⟩:=RelO.some_of (v:=v) (o:=valueAt vs k) (by rw [l]; exact rel.val k)
    exact wpAny_getItem_of (kV_is ry) dd.mapOf hw (h w' _ (I.tok _) rw')
  · subst ey
    cases (show u = Value.ref b from ry)
    obtain ⟨z,hd,xs,rel,dd⟩:=dt_rd I.hok e
    obtain ⟨w',hw,rw'⟩:=RelO.some_of (v:=v) (o:=(atKey xs k).map (·.2)) (by rw [l]; exact rel.val k)
    obtain ⟨p,hp,hp2⟩:=Option.map_eq_some_iff.mp hw
    refine wpAny_getItem_heap (tupleKind_room_in1 hu) (key_of I.hok eb) dd hp ?_
    rw [hp2]
    exact h w' _ (I.tok _) rw'
theorem d_in {Q:Value → Shared → Prop} (hu:A.units + 1 < cLine) (I:Inv X pins σ H s) (g:DGet H a y o) (ry:RelV y u) (h : ∀ s',Inv X pins σ H s' → Q (.bool o.isSome) s') :
    wpAny (model X.prog X.w) A (compareOp .In u (.ref a)) Q E s:=by
  rcases g with ⟨kvs,k,e,ey,l⟩ | ⟨kvs,k,b,e,ey,eb,l⟩
  · subst ey
    obtain ⟨z,hd,vs,rel,dd⟩:=dk_rd I.hok e
    refine wpAny_in_of (kV_is ry) hd dd.mapOf ?_
    rw [← (rel.val k).isSome_eq,← l]
    exact h _ (I.tok _)
  · subst ey
    cases (show u = Value.ref b from ry)
    obtain ⟨z,hd,xs,rel,dd⟩:=dt_rd I.hok e
    refine wpAny_in_heap (tupleKind_room_in1 hu) (key_of I.hok eb) hd dd ?_
    have q:=(rel.val k).isSome_eq
    rw [Option.isSome_map] at q
    rw [← q,← l]
    exact h _ (I.tok _)
theorem d_notIn {Q:Value → Shared → Prop} (hu:A.units + 1 < cLine) (I:Inv X pins σ H s) (g:DGet H a y o) (ry:RelV y u) (h : ∀ s',Inv X pins σ H s' → Q (.bool (!o.isSome)) s') :
    wpAny (model X.prog X.w) A (compareOp .NotIn u (.ref a)) Q E s:=by
  rcases g with ⟨kvs,k,e,ey,l⟩ | ⟨kvs,k,b,e,ey,eb,l⟩
  · subst ey
    obtain ⟨z,hd,vs,rel,dd⟩:=dk_rd I.hok e
    refine wpAny_notIn_of (kV_is ry) hd dd.mapOf ?_
    rw [← (rel.val k).isSome_eq,← l]
    exact h _ (I.tok _)
  · subst ey
    cases (show u = Value.ref b from ry)
    obtain ⟨z,hd,xs,rel,dd⟩:=dt_rd I.hok e
    refine wpAny_notIn_heap (tupleKind_room_in1 hu) (key_of I.hok eb) hd dd ?_
    have q:=(rel.val k).isSome_eq
    rw [Option.isSome_map] at q
    rw [← q,← l]
    exact h _ (I.tok _)
theorem d_write {h':Heap} {t':Nat} {ob:HO} (I:Inv X pins σ H s) (mu:Mut (H a)) (hs:Heap.SameBut a s.heap h') (he : ∃ q,h'.get? a = some q) (new:ObjOk X.prog X.w (upd H a ob) h' a ob) :
    Inv X pins σ (upd H a ob) { s with heap:=h',toks:=t' }:=
  I.write (x:=a) (e:=a) mu (.inl rfl) (fun b q hb z=>(hs.2 b hb).trans z) he new
theorem dk_new {P:Program} {w:World} {H':Hp} {h':Heap} {kvs:List (Key × V)} {vs:List (Key × Value)} (z:kvs.length ≤ sizeLine) (hd:(a == sysModules) = false) (rel:KV kvs vs) (dd:h'.DictOf (zh P w) a vs) :
    ObjOk P w H' h' a (.dK kvs):=⟨z,hd,vs,rel,dd⟩
theorem d_setItem {H':Hp} {Q:Unit → Shared → Prop} (hu:A.units + 1 < cLine) (I:Inv X pins σ H s) (g:DPut H a y v H') (ry:RelV y u) (rv:RelV v r) (h : ∀ s',Inv X pins σ H' s' → Q () s') :
    wpAny (model X.prog X.w) A (setItem (.ref a) u r) Q E s:=by
  rcases g with ⟨kvs,k,e,ey,l,eH⟩ | ⟨kvs,k,b,e,ey,eb,l,eH⟩
  · subst ey eH
    obtain ⟨z,hd,vs,rel,dd⟩:=dk_of I.hok e
    have hz:vs.length ≤ sizeLine:=by rw [← rel.length]; exact z
    have hl:(putK kvs k v).length ≤ sizeLine:=by have:=length_putK kvs k v; omega
    refine wpAny_setItem_pairs (hsz:=hz) (kV_is ry) dd fun h' dd' hs=>h _ ?_
    have he : ∃ q,h'.get? a = some q:=let ⟨q,_,_,hq,_⟩:=dd'; ⟨q,hq⟩
    exact d_write I (by rw [e]; exact True.intro) hs he (dk_new hl hd (rel.put k rv) dd')
  · subst ey eH
    cases (show u = Value.ref b from ry)
    obtain ⟨z,hd,xs,rel,dd⟩:=dt_of I.hok e
    have hz:xs.length ≤ sizeLine:=by rw [← Paired.length rel]; exact z
    have hl:(putK kvs k v).length ≤ sizeLine:=by have:=length_putK kvs k v; omega
    refine wpAny_setItem_heap (hsz:=hz) (tupleKind_room_in1 hu) (key_of I.hok eb) dd fun h' dd' hs=>h _ ?_
    obtain ⟨q,es,ep,hq,h2,h3,h4,_,h5⟩:=dd'
    refine d_write I (by rw [e]; exact True.intro) hs ⟨q,hq⟩ ⟨hl,hd,_,(rel.put k eb rv).keeps fun c ys ec=>?_,q,es,ep,hq,h2,h3,h4,h5⟩
    rw [je (ne_of ec e (fun z=>nomatch z))]
    exact ec
end
section
variable {X:Cx} {pins:List (Addr × Obj)} {σ : St} {H:Hp} {s:Shared} {a:Addr} {kvs:List (Key × V)} {k:Key} {u:Value} {A:Around} {E:Value → Shared → Prop}
end
def NoSl (i:Expr) : Prop:=∀ ov iv,subscripted i false ov iv = operate [ov,iv] (getItem ov iv)
theorem subD_of {prog:Program} {w:World} {A:Around} {E:Value → Shared → Prop} {s:Shared} {env:Env} {value slice:Expr} {pos:Pos} {T id:String} {Q:Value → Shared → Prop}
    (hl:typeLookup (.type T) "__getitem__" = pure (some (.builtin id))) (hs:NoSl slice)
    (h:wpAny (model prog w) A (eval value env) (fun o s₁=>wpAny (model prog w) A (eval slice env) (fun i s₂=>s₂.TypeIs o T ∧ wpAny (model prog w) A (getItem o i) Q E s₂) E s₁) E s) :
    wpAny (model prog w) A (eval (.Subscript value slice pos) env) Q E s:=by
  refine Subscript_ (wpAny_mono h (fun o s₁ h₁=>wpAny_mono h₁ (fun i s₂ h₂=>?_) fun _ _ x=>x) fun _ _ x=>x)
  obtain ⟨hT,h₂⟩:=h₂
  unfold subscriptTail
  refine wpAny_bind ?_
  rw [getitemInPython_of_ne hT.not_modules]
  refine wpAny_bind (wpAny_specialOf hT hl ?_)
  have fin:wpAny (model prog w) A (subscripted slice false o i) (fun r s₃=>wpAny (model prog w) A (letTemporaryGo value o r >>= fun _=>pure r) Q E s₃) E s₂:=by
    rw [hs o i]
    exact wpAny_operating (wpAny_mono h₂ (fun r s₃ h₃=>wpAny_bind (wpAny_letTemporaryGo (wpAny_pure h₃))) fun _ _ x=>x)
  first
    | exact wpAny_pure (wpAny_bind fin)
    | exact wpAny_bind (wpAny_pure (wpAny_bind fin))
    | exact wpAny_bind fin
theorem dict_typeIs {X:Cx} {pins:List (Addr × Obj)} {σ : St} {H:Hp} {s:Shared} {a:Addr} {y:V} {o:Option V} (I:Inv X pins σ H s) (g:DGet H a y o) : s.TypeIs (.ref a) "dict" := by
  rcases g with ⟨kvs,k,e,_,_⟩ | ⟨kvs,k,b,e,_,_,_⟩
  · obtain ⟨_,_,vs,_,dd⟩:=dk_rd I.hok e
    exact dd.typeIs
  · obtain ⟨_,_,xs,_,dd⟩:=dt_rd I.hok e
    exact dd.typeIs
def tDGet (td ty:TE) : TE:=fun σ H Q=>td σ H fun x H1=>ty σ H1 fun y H2=>∃ a v,x = .ref a ∧ DGet H2 a y (some v) ∧ Q v H2
def tDIn (ty td:TE) : TE:=fun σ H Q=>ty σ H fun y H1=>td σ H1 fun x H2=>∃ a o,x = .ref a ∧ DGet H2 a y o ∧ Q (.bl o.isSome) H2
def tDNotIn (ty td:TE) : TE:=fun σ H Q=>ty σ H fun y H1=>td σ H1 fun x H2=>∃ a o,x = .ref a ∧ DGet H2 a y o ∧ Q (.bl (!o.isSome)) H2
def sDPut (td ty tv:TE) : TS:=fun D σ H=>tv σ H fun v H1=>td σ H1 fun x H2=>ty σ H2 fun y H3=>∃ a H4,x = .ref a ∧ DPut H3 a y v H4 ∧ D.nx σ H4
section
variable {X:Cx} {o i e value:Expr} {pos pos' tpos:Pos} {td ty tv:TE}
theorem pe_dget (hu:X.A.units + 1 < cLine) (ho:PE X o td) (hi:PE X i ty) (hs:NoSl i) : PE X (.Subscript o i pos) (tDGet td ty):=by
  intro pins s σ H Q I h
  refine subD_of PySem.F.slot_dict_getitem.lookup hs (thn (ho pins s σ H _ I h) fun u s1 ⟨x,H1,I1,rx,q1⟩=>thn (hi pins s1 σ H1 _ I1 q1) fun iv s2 ⟨y,H2,I2,ry,a,v,ex,g,q2⟩=>?_)
  subst ex
  obtain rfl:u = Value.ref a:=rx
  exact ⟨dict_typeIs I2 g,d_getItem hu I2 g ry fun w' s3 I3 rw'=>⟨v,H2,I3,rw',q2⟩⟩
theorem pc_din (hu:X.A.units + 1 < cLine) (hi:PE X i ty) (ho:PE X o td) : PC X .In i o (tDIn ty td):=by
  intro pins s σ H Q I h
  refine thn (hi pins s σ H _ I h) fun iv s1 ⟨y,H1,I1,ry,q1⟩=>thn (ho pins s1 σ H1 _ I1 q1) fun u s2 ⟨x,H2,I2,rx,a,ov,ex,g,q2⟩=>?_
  subst ex
  obtain rfl:u = Value.ref a:=rx
  exact d_in hu I2 g ry fun s3 I3=>⟨.bl ov.isSome,H2,I3,rfl,q2⟩
theorem pc_dnotin (hu:X.A.units + 1 < cLine) (hi:PE X i ty) (ho:PE X o td) : PC X .NotIn i o (tDNotIn ty td):=by
  intro pins s σ H Q I h
  refine thn (hi pins s σ H _ I h) fun iv s1 ⟨y,H1,I1,ry,q1⟩=>thn (ho pins s1 σ H1 _ I1 q1) fun u s2 ⟨x,H2,I2,rx,a,ov,ex,g,q2⟩=>?_
  subst ex
  obtain rfl:u = Value.ref a:=rx
  exact d_notIn hu I2 g ry fun s3 I3=>⟨.bl (!ov.isSome),H2,I3,rfl,q2⟩
theorem ps_dput (hu:X.A.units + 1 < cLine) (ho:PE X o td) (hi:PE X i ty) (hv:PE X value tv) (hs:swapsWith value (some (.Subscript o i pos')) pos.line X.env = pure false) :
    PS X (.Assign [.Subscript o i pos'] value pos) (sDPut td ty tv):=by
  intro pins s σ H D I h
  refine wpAny_Assign_Subscript (thn (hv pins s σ H _ I h) fun r s1 ⟨v,H1,I1,rv,q1⟩=>thn (ho pins s1 σ H1 _ I1 q1) fun u s2 ⟨x,H2,I2,rx,q2⟩=>thn (hi pins s2 σ H2 _ I2 q2) fun iv s3 ⟨y,H3,I3,ry,a,H4,ex,g,q3⟩=>?_) hs
  subst ex
  obtain rfl:u = Value.ref a:=rx
  exact d_setItem hu I3 g ry rv fun s4 I4=>⟨σ,H4,I4,q3⟩
end
theorem dk_empty {P:Program} {w:World} {H:Hp} (h:Heap) (hb:sysModules < h.objs.size) : ObjOk P w H (h.push { cls:=.type "dict",data:=.dict #[] }) h.objs.size (.dK []):=
  ⟨Nat.zero_le _,beq_eq_false_iff_ne.mpr (Ne.symm (Nat.ne_of_lt hb)),[],.nil,Heap.DictOf.new h⟩
theorem dt_empty {P:Program} {w:World} {H:Hp} (h:Heap) (hb:sysModules < h.objs.size) : ObjOk P w H (h.push { cls:=.type "dict",data:=.dict #[] }) h.objs.size (.dT []):=
  ⟨Nat.zero_le _,beq_eq_false_iff_ne.mpr (Ne.symm (Nat.ne_of_lt hb)),[],.nil,_,#[],0,Heap.get?_push_size _ rfl,⟨rfl,rfl,rfl⟩,rfl,rfl,List.nodup_nil⟩
def tDNewT:TE:=fun _ H Q=>∀ p,H p = none → Q (.ref p) (upd H p (.dT []))
section
variable {X:Cx} {pos:Pos}
theorem pe_dnewT:PE X (.Dict [] [] pos) tDNewT:=fun pins s σ H Q I h=>
  wpAny_Dict_empty ⟨.ref s.heap.objs.size,_,I.laid (a:=s.heap.objs.size) (o:=.dT []) (t':=s.toks) (fun _ _ q=>Heap.get?_push_of_some _ q) (Nat.le_refl _) (dt_empty s.heap I.big),rfl,h _ (I.hok.fresh (Nat.le_refl _))⟩
end
structure M2 (X:Cx) (o:Expr) (m:Str) (apos:Pos) (e f:Expr) (cpos:Pos) : Prop where
  base:attributeBase o m X.env (eval o X.env) = eval o X.env
  few:((backTo cpos (starEach [e,f] X.env)).all (fun x=>!x.1) && (backToKw cpos (keywordEach [] X.env)).all (fun x=>x.1.isSome)
    && decide (([e,f] : List Expr).length + ([] : List Keyword).length + (if ([] : List Keyword).isEmpty then 0 else 1) < 30)) = true
  line:(apos.endLine == cpos.line) = true
  trees:backTo cpos (starEach [e,f] X.env) = [(false,eval e X.env),(false,eval f X.env)]
def IsD (H:Hp) (a:Addr) : Prop:=(∃ kvs,Rd H a (.dK kvs)) ∨ ∃ kvs,Rd H a (.dT kvs)
theorem isD_at {X:Cx} {pins:List (Addr × Obj)} {σ : St} {H:Hp} {s:Shared} {a:Addr} (I:Inv X pins σ H s) (d:IsD H a) :
    s.TypeIs (.ref a) "dict" ∧ (∀ b,Value.ref a = .ref b → ∃ ob,s.heap.get? b = some ob ∧ ob.dict = none) ∧ (a == sysModules) = false:=by
  rcases d with ⟨kvs,e⟩ | ⟨kvs,e⟩
  · obtain ⟨_,hd,vs,_,dd⟩:=dk_rd I.hok e
    refine ⟨dd.typeIs,fun b q=>?_,hd⟩
    cases q
    obtain ⟨ob,_,_,h1,h2,_⟩:=dd
    exact ⟨ob,h1,h2.2.1⟩
  · obtain ⟨_,hd,xs,_,dd⟩:=dt_rd I.hok e
    refine ⟨dd.typeIs,fun b q=>?_,hd⟩
    cases q
    obtain ⟨ob,_,_,h1,h2,_⟩:=dd
    exact ⟨ob,h1,h2.2.1⟩
section
variable {X:Cx} {pins:List (Addr × Obj)} {σ : St} {H:Hp} {s:Shared} {a:Addr} {y d:V} {u r:Value} {o:Option V} {A:Around} {E:Value → Shared → Prop}
theorem d_get2 {Q:Value → Shared → Prop} (hu:A.units + 1 < cLine) (I:Inv X pins σ H s) (g:DGet H a y o) (ry:RelV y u) (rd:RelV d r) (h : ∀ w' s',Inv X pins σ H s' → RelV (o.getD d) w' → Q w' s') :
    wpAny (model X.prog X.w) A (call (.builtin "dict.get") [.ref a,u,r]) Q E s:=by
  rcases g with ⟨kvs,k,e,ey,l⟩ | ⟨kvs,k,b,e,ey,eb,l⟩
  · subst ey
    obtain ⟨z,hd,vs,rel,dd⟩:=dk_rd I.hok e
    refine call_meetsIn PySem.F.slot_dict_get dd.typeIs PySem.F.entry_dict_get (PySem.F.args_dict_get_3 _ _ _) (meets_dict_get_default (zh X.prog X.w) a (kV_is ry) hd r) ⟨_,dd.mapOf,h _ _ (I.tok _) ?_⟩
    rw [l]
    exact (rel.val k).getD rd
  · subst ey
    cases (show u = Value.ref b from ry)
    obtain ⟨z,hd,xs,rel,dd⟩:=dt_rd I.hok e
    refine call_meetsIn PySem.F.slot_dict_get dd.typeIs PySem.F.entry_dict_get (PySem.F.args_dict_get_3 _ _ _) (meetsH_dict_get_default (tupleKind (zh X.prog X.w)) a b hd r) ⟨tupleKind_room_in1 hu,k,xs,key_of I.hok eb,dd,h _ _ (I.tok _) ?_⟩
    rw [l]
    exact (rel.val k).getD rd
end
def tDGet2 (td ty tx:TE) : TE:=fun σ H Q=>td σ H fun x H1=>∃ a,x = .ref a ∧ IsD H1 a ∧ ty σ H1 fun y H2=>tx σ H2 fun z H3=>∃ o,DGet H3 a y o ∧ Q (o.getD z) H3
section
variable {X:Cx} {o e f:Expr} {apos cpos:Pos} {td ty tx:TE}
theorem pe_dget2 (hu:X.A.units + 1 < cLine) (ho:PE X o td) (he:PE X e ty) (hf:PE X f tx) (m:M2 X o "get" apos e f cpos) : PE X (.Call (.Attribute o "get" apos) [e,f] [] cpos) (tDGet2 td ty tx):=by
  intro pins s σ H Q I h
  refine wpAny_Call_method m.base m.few m.line PySem.F.plainAttrs_dict PySem.F.slot_dict_get PySem.F.type_dict_get (thn (ho pins s σ H _ I h) fun u s1 ⟨x,H1,I1,rx,a,ex,d,q1⟩=>?_)
  subst ex
  obtain rfl:u = Value.ref a:=rx
  obtain ⟨t1,t2,_⟩:=isD_at I1 d
  refine ⟨t1,t2,?_⟩
  rw [m.trees]
  refine Calls.callWith_builtin rfl (Calls.evalArgs_plain (Calls.spliced_cons (thn (he pins s1 σ H1 _ I1 q1) fun iv s2 ⟨y,H2,I2,ry,q2⟩=>
    Calls.spliced_cons (thn (hf pins s2 σ H2 _ I2 q2) fun fv s3 ⟨z,H3,I3,rz,ov,g,q3⟩=>Calls.spliced_nil ?_))))
  exact d_get2 hu I3 g ry rz fun w' s4 I4 rw'=>⟨_,H3,I4,rw',q3⟩
end
section
variable {X:Cx} {pins:List (Addr × Obj)} {σ : St} {H:Hp} {s:Shared} {a:Addr} {kvs:List (Key × V)} {A:Around} {E:Value → Shared → Prop}
end
section
variable {X:Cx} {pins:List (Addr × Obj)} {σ : St} {H:Hp} {s:Shared} {a:Addr} {y:V} {u:Value} {A:Around} {E:Value → Shared → Prop}
end
end L2
namespace Att
open PySem PySem.W PySem.Calls PyProof.Rows
section
variable {prog:Program} {w:World} {A:Around} {E:Value → Shared → Prop} {s:Shared} {K:Frag}
end
end Att
namespace L2
open PySem PySem.Spec PyProof.Rows
end L2
namespace L2
open PySem PySem.Spec PyProof.Rows
end L2
namespace L2
open PySem PySem.Spec PyProof.Rows
section
variable {P:Program} {w:World} {K:PySem.W.Frag} {mg:Str → Option Value} {base:Heap}
end
section
variable {X:Cx}
end
section
variable {κ : Type} [DecidableEq κ]
theorem valV_in {kvs:List (κ × V)} {k : κ} {v:V} (h:valV kvs k = some v) : k ∈ kvs.map (·.1):=by
  have q:(kvs.any fun kv=>decide (kv.1 = k)) = true:=by
    rw [valV_any,h]
    all_goals rfl
  obtain ⟨p,hp,e⟩:=List.any_eq_true.mp q
  exact List.mem_map.mpr ⟨p,hp,of_decide_eq_true e⟩
end
end L2
namespace L2
open PySem PySem.Spec PyProof.Rows
def clOf (scope:Scope) (env:Env) : List (Str × Addr):=
  (scope.names.filterMap fun p=>if p.2 = NameKind.free then (env.cells.lookup p.1).map fun c=>(p.1,c) else none).reverse
theorem lookup_memOf {α : Type} {x:Str} {c : α} : ∀ {l:List (Str × α)},l.lookup x = some c → (x,c) ∈ l
  | [],h=>by simp at h
  | (y,d) :: r,h=>by
    rw [List.lookup_cons] at h
    cases e:x == y with
    | true=>
      rw [e] at h
      have h':d = c:=Option.some.inj h
      rw [h',eq_of_beq e]
      exact List.mem_cons_self
    | false=>
      rw [e] at h
      exact List.mem_cons_of_mem _ (lookup_memOf h)
theorem lookup_ofMem {α : Type} {x:Str} {c : α} : ∀ {l:List (Str × α)},(x,c) ∈ l → ∃ d,l.lookup x = some d
  | [],h=>by simp at h
  | (y, d) :: r,h=>by
    rw [List.lookup_cons]
    cases e:x == y with
    | true=>exact ⟨d,rfl⟩
    | false=>
      rcases List.mem_cons.mp h with z | z
      · have z1:x = y:=congrArg Prod.fst z
        rw [z1,beq_self_eq_true] at e
        cases e
      · exact lookup_ofMem z
theorem mem_clOf {scope:Scope} {env:Env} {x:Str} {c:Addr} : (x,c) ∈ clOf scope env ↔ (x,NameKind.free) ∈ scope.names ∧ env.cells.lookup x = some c:=by
  unfold clOf
  rw [List.mem_reverse,List.mem_filterMap]
  constructor
  · rintro ⟨⟨y,k⟩,hm,e⟩
    by_cases hk:k = NameKind.free
    · subst hk
      rw [if_pos rfl] at e
      cases q:env.cells.lookup y with
      | none=>rw [q] at e; cases e
      | some d=>
        rw [q] at e
        have e':(y,d) = (x,c):=Option.some.inj e
        cases e'
        exact ⟨hm,q⟩
    · rw [if_neg hk] at e
      cases e
  · rintro ⟨hm,q⟩
    exact ⟨(x,NameKind.free),hm,by rw [if_pos rfl]; rw [q]; rfl⟩
theorem clOf_env {scope:Scope} {env:Env} {x:Str} {c:Addr} (h:(clOf scope env).lookup x = some c) : env.cells.lookup x = some c:=(mem_clOf.mp (lookup_memOf h)).2
theorem clOf_has {scope:Scope} {env:Env} {x:Str} {c:Addr} (hm:(x,NameKind.free) ∈ scope.names) (h:env.cells.lookup x = some c) : (clOf scope env).lookup x = some c:=by
  obtain ⟨d,e⟩:=lookup_ofMem (mem_clOf.mpr ⟨hm,h⟩)
  rw [e,← h]
  exact (clOf_env e).symm
theorem closure_go {env:Env} : ∀ (names:List (Str × NameKind)) (cs:List (Str × Addr)),(∀ p ∈ names,p.2 = .free → ∃ c,env.cells.lookup p.1 = some c) →
    (forIn names cs fun (x:Str × NameKind) (cs:List (Str × Addr))=>(match x with
      | (name,kind)=>if (kind == .free) = true then (do let a ← cellOf env name; pure (ForInStep.yield ((name,a) :: cs))) else pure (ForInStep.yield cs) : Sem (ForInStep (List (Str × Addr)))))
      = pure ((names.filterMap fun p=>if p.2 = NameKind.free then (env.cells.lookup p.1).map fun c=>(p.1,c) else none).reverse ++ cs)
  | [],cs,_=>rfl
  | (n,k) :: r,cs,h=>by
    rw [List.forIn_cons]
    have hr : ∀ p ∈ r,p.2 = .free → ∃ c,env.cells.lookup p.1 = some c:=fun p hp=>h p (List.mem_cons_of_mem _ hp)
    by_cases hk:k = NameKind.free
    · subst hk
      obtain ⟨c,hc⟩:=h (n,.free) List.mem_cons_self rfl
      have e1:cellOf env n = pure c:=by unfold cellOf; rw [show env.cells.lookup n = some c from hc]
      show ((do let a ← cellOf env n; pure (ForInStep.yield ((n,a) :: cs)) : Sem (ForInStep (List (Str × Addr)))) >>= _) = _
      rw [e1]
      simp only [pure_bind]
      rw [closure_go r ((n,c) :: cs) hr,List.filterMap_cons,if_pos rfl,show env.cells.lookup n = some c from hc]
      simp
    · have hb:(k == NameKind.free) = false:=by simpa using hk
      show ((if (k == NameKind.free) = true then (do let a ← cellOf env n; pure (ForInStep.yield ((n,a) :: cs))) else pure (ForInStep.yield cs) : Sem (ForInStep (List (Str × Addr)))) >>= _) = _
      rw [hb,if_neg Bool.false_ne_true]
      simp only [pure_bind]
      rw [closure_go r cs hr,List.filterMap_cons,if_neg hk]
theorem closure_is {scope:Scope} {env:Env} (h : ∀ p ∈ scope.names,p.2 = .free → ∃ c,env.cells.lookup p.1 = some c) : closureFor scope env = pure (clOf scope env):=by
  have e:=closure_go scope.names [] h
  rw [List.append_nil] at e
  unfold closureFor clOf
  simp only [bind_pure]
  exact e
theorem lookup_relabel {env:Env} {x:Str} : ∀ {names:List (Str × NameKind)} {k:NameKind},
    (names.map fun (n,k)=>if (k == NameKind.free && env.scope.kind == .function && env.kindOf n == some .cell) then (n,NameKind.cell) else (n,k)).lookup x = some k →
      ∃ k',(x,k') ∈ names ∧ (k' = k ∨ (k' = .free ∧ k = .cell))
  | [],_,h=>by simp at h
  | (n, j) :: r,k,h=>by
    by_cases hc:(j == NameKind.free && env.scope.kind == .function && env.kindOf n == some .cell) = true
    · rw [List.map_cons] at h
      have h':List.lookup x ((if (j == NameKind.free && env.scope.kind == .function && env.kindOf n == some .cell) = true then (n,NameKind.cell) else (n,j)) :: _) = some k:=h
      rw [if_pos hc,List.lookup_cons] at h'
      cases e:x == n with
      | true=>
        rw [e] at h'
        have h2:NameKind.cell = k:=Option.some.inj h'
        have hj:j = NameKind.free:=by
          have:=hc
          rw [Bool.and_eq_true,Bool.and_eq_true] at this
          exact eq_of_beq this.1.1
        exact ⟨j,by rw [eq_of_beq e]; exact List.mem_cons_self,.inr ⟨hj,h2.symm⟩⟩
      | false=>
        rw [e] at h'
        obtain ⟨k',hm,q⟩:=lookup_relabel h'
        exact ⟨k',List.mem_cons_of_mem _ hm,q⟩
    · rw [List.map_cons] at h
      have h':List.lookup x ((if (j == NameKind.free && env.scope.kind == .function && env.kindOf n == some .cell) = true then (n,NameKind.cell) else (n,j)) :: _) = some k:=h
      rw [if_neg hc,List.lookup_cons] at h'
      cases e:x == n with
      | true=>
        rw [e] at h'
        exact ⟨j,by rw [eq_of_beq e]; exact List.mem_cons_self,.inl (Option.some.inj h')⟩
      | false=>
        rw [e] at h'
        obtain ⟨k',hm,q⟩:=lookup_relabel h'
        exact ⟨k',List.mem_cons_of_mem _ hm,q⟩
def compOk (N:List Str) (sc scope:Scope) (N':List Str) (ix:List (Option Nat)) : Bool:=
  scope.kind == .function && scope.names.all (fun y=>y.2 != .cell) && scope.names.all (fun y=>y.2 != .local || scope.names.lookup y.1 == some .local) &&
  scope.names.all (fun y=>y.2 != .free || sc.names.lookup y.1 == some .cell || sc.names.lookup y.1 == some .free) &&
  decide (ix.length = N'.length) && decide N'.Nodup &&
  (N'.zip ix).all fun p=>match p.2 with
    | none=>scope.names.all fun y=>y.1 != p.1 || y.2 == .local
    | some k=>N[k]? == some p.1 && scope.names.lookup p.1 == some .free && scope.names.all fun y=>y.1 != p.1 || y.2 == .free
structure CompOk (N:List Str) (sc scope:Scope) (N':List Str) (ix:List (Option Nat)) : Prop where
  kind:scope.kind = .function
  nocell : ∀ y ∈ scope.names,y.2 ≠ .cell
  names : ∀ y ∈ scope.names,y.2 = .local → scope.names.lookup y.1 = some .local
  frees : ∀ y ∈ scope.names,y.2 = .free → sc.names.lookup y.1 = some .cell ∨ sc.names.lookup y.1 = some .free
  len:ix.length = N'.length
  nd:N'.Nodup
  own : ∀ (i:Nat) (x:Str),N'[i]? = some x → ix[i]? = some none → ∀ y ∈ scope.names,y.1 = x → y.2 = .local
  out : ∀ (i:Nat) (x:Str) (k:Nat),N'[i]? = some x → ix[i]? = some (some k) → N[k]? = some x ∧ (x,NameKind.free) ∈ scope.names ∧ ∀ y ∈ scope.names,y.1 = x → y.2 = .free
theorem compOk_is {N:List Str} {sc scope:Scope} {N':List Str} {ix:List (Option Nat)} (h:compOk N sc scope N' ix = true) : CompOk N sc scope N' ix:=by
  unfold compOk at h
  simp only [Bool.and_eq_true,List.all_eq_true,Bool.or_eq_true,bne_iff_ne,beq_iff_eq,decide_eq_true_eq,ne_eq] at h
  obtain ⟨⟨⟨⟨⟨⟨h1,h2⟩,h3⟩,h4⟩,h5⟩,h6⟩,h7⟩:=h
  have zipAt : ∀ {i:Nat} {x:Str} {o:Option Nat},N'[i]? = some x → ix[i]? = some o → (x,o) ∈ N'.zip ix:=fun {i x o} a b=>by
    refine List.mem_of_getElem? (i:=i) ?_
    rw [List.getElem?_zip_eq_some]
    exact ⟨a,b⟩
  refine ⟨h1,fun y hy=>h2 y hy,fun y hy e=>?_,fun y hy e=>?_,h5,h6,fun i x a b y hy e=>?_,fun i x k a b=>?_⟩
  · rcases h3 y hy with z | z
    · exact absurd e z
    · exact z
  · rcases h4 y hy with (z | z) | z
    · exact absurd e z
    · exact .inl z
    · exact .inr z
  · have q:=h7 _ (zipAt a b)
    simp only [List.all_eq_true,Bool.or_eq_true,bne_iff_ne,beq_iff_eq,ne_eq] at q
    rcases q y hy with z | z
    · exact absurd e z
    · exact z
  · have q:=h7 _ (zipAt a b)
    simp only [Bool.and_eq_true,List.all_eq_true,Bool.or_eq_true,bne_iff_ne,beq_iff_eq,ne_eq] at q
    obtain ⟨⟨q1,q2⟩,q3⟩:=q
    refine ⟨q1,lookup_memOf q2,fun y hy e=>?_⟩
    rcases q3 y hy with z | z
    · exact absurd e z
    · exact z
def blkSt (ix:List (Option Nat)) (σ : St) : St:=ix.map fun o=>match o with
  | some k=>(σ[k]?).join
  | none=>none
def blk (X:Cx) (scope:Scope) (N':List Str) (C:Addr) (fp:List Addr) (s₂:Shared) (H₂:Hp) : Cx:=
  { X with N:=N',s₀:=s₂,H₀:=H₂,env:=compEnvC scope (clOf scope X.env) C X.env,outer:=X.stack,stack:=X.stack,ex:=fp,fn:=fun _=>false,pn:=[],xe:=fun _ _=>False }
abbrev lstO (its:List Value) (n:Nat) : Obj:={ cls:=.type "list",data:=.seq its.toArray n }
section
variable {X:Cx} {scope:Scope} {N':List Str} {ix:List (Option Nat)} {C:Addr} {fp:List Addr} {s₂:Shared} {H₂:Hp} {pins:List (Addr × Obj)} {σ : St}
theorem blk_cells (I:Inv X pins σ H₂ s₂) {x:Str} {c:Addr} (h:(clOf scope X.env).lookup x = some c) : c < s₂.heap.objs.size:=by
  obtain ⟨v,q⟩:=I.cell x c (clOf_env h)
  exact q.lt
theorem blk_ok (I:Inv X pins σ H₂ s₂) (co:CompOk X.N X.env.scope scope N' ix) (hC : @LE.le Nat _ s₂.heap.objs.size C) (hf : ∀ b ∈ fp,FpOk X pins H₂ b) (hlt : ∀ b ∈ fp,b < s₂.heap.objs.size) : (blk X scope N' C fp s₂ H₂).Ok where
  mod:=I.ok.mod
  kind:=co.kind
  glob:=I.ok.glob
  blt:=I.ok.blt
  above:=hC
  inj:=fun x y c e1 e2=>I.ok.inj x y c (clOf_env e1) (clOf_env e2)
  has := fun x h=>by
    have h1 : ∃ k,(relabel scope X.env).names.lookup x = some k ∧ (k = .cell ∨ k = .free):=by
      rcases h with h | h
      · exact ⟨_,h,.inl rfl⟩
      · exact ⟨_,h,.inr rfl⟩
    obtain ⟨k,h1,h2⟩:=h1
    obtain ⟨k',hm,q⟩:=lookup_relabel h1
    have hk:k' = .free:=by
      rcases q with q | ⟨q,_⟩
      · rcases h2 with z | z
        · exact absurd (q.trans z) (co.nocell _ hm)
        · exact q.trans z
      · exact q
    rw [hk] at hm
    obtain ⟨c,hc⟩:=I.ok.has x (co.frees _ hm rfl)
    exact ⟨c,clOf_has hm hc⟩
  cab:=fun x c h=>by
    have h':false = true:=h
    cases h'
  hd:=I.ok.hd
  frames:=I.ok.frames
  stk:=.inl rfl
  exf:=fun b hb=>⟨Nat.ne_of_lt (Nat.lt_of_lt_of_le (hlt b hb) hC),fun x c e=>(hf b hb).2.2.2.2.1 x c (clOf_env e)⟩
  bs:=I.bs
  bsz:=Nat.le_trans I.ok.bsz I.sz
  noex:=fun b o e hb=>by
    rcases (hf b hb).2.2.2.1 with z | z
    · exact I.ok.noex b o e z
    · exact absurd (Nat.lt_of_lt_of_le (Heap.lt_size (I.ok.bs b o e).1) z) (Nat.lt_irrefl _)
  exfs:=fun b hb z=>by
    rcases List.mem_cons.mp (I.stkSub b z) with e | e
    · exact (hf b hb).2.1 e
    · exact (hf b hb).2.2.1 e
  funs:=I.stack
  frf:=I.stkFree
theorem blk_nofs (I:Inv X pins σ H₂ s₂) {b:Addr} (h:s₂.heap.objs.size ≤ b) : b ∉ frs X.stack:=fun z=>by
  rcases List.mem_cons.mp (I.stkSub b z) with e | e
  · rw [e] at h; exact absurd (Nat.lt_of_lt_of_le I.lt h) (Nat.lt_irrefl _)
  · exact I.nofs h e
theorem blk_start (I:Inv X pins σ H₂ s₂) (co:CompOk X.N X.env.scope scope N' ix) {D:Addr} {h₁:Heap} {t':Nat} (hD : @Eq Nat D s₂.heap.objs.size) (hC : @Eq Nat C (s₂.heap.objs.size + 1)) (hf : ∀ b ∈ fp,FpOk X pins H₂ b) (hlt : ∀ b ∈ fp,b < s₂.heap.objs.size)
    (old : ∀ b o,s₂.heap.get? b = some o → h₁.get? b = some o) (hacc:h₁.get? D = some (lstO [] 0)) {m:Str → Option Value} (hns:h₁.Ns C m) :
    Inv (blk X scope N' C fp s₂ H₂) [(D,lstO [] 0)] (blkSt ix σ) H₂ { s₂ with heap:=h₁,toks:=t' } where
  ok:=blk_ok I co (by omega) hf hlt
  os:=rfl
  bare:=I.bare
  base:=Un.kept old
  loc := by
    refine ⟨m,hns,fun i x v e1 e2 e3=>?_⟩
    unfold blkSt at e2
    rw [List.getElem?_map] at e2
    cases q:ix[i]? with
    | none=>rw [q] at e2; cases e2
    | some o=>
      rw [q] at e2
      cases o with
      | none=>cases e2
      | some k=>
        have e2':(σ[k]?).join = some v:=Option.some.inj e2
        have e2'' : σ[k]? = some (some v):=by
          cases z : σ[k]? with
          | none=>rw [z] at e2'; cases e2'
          | some o=>rw [z] at e2'; exact congrArg some e2'
        obtain ⟨o1,o2,o3⟩:=co.out i x k e1 q
        have hk:X.env.kindOf x = some .cell ∨ X.env.kindOf x = some .free:=co.frees _ o2 rfl
        have vis:Vis X.env.scope x:=.inr hk
        obtain ⟨m0,_,hl⟩:=I.loc
        obtain ⟨u,r,l⟩:=hl k x v o1 e2'' vis
        refine ⟨u,r,?_⟩
        rcases l with ⟨l,_⟩ | ⟨_,c,ec,hcell⟩
        · rcases hk with z | z
          · rw [z] at l; cases l
          · rw [z] at l; cases l
        · refine .inr ⟨?_,c,clOf_has o2 ec,?_⟩
          · rcases e3 with z | z | z
            · obtain ⟨k',hm,q⟩:=lookup_relabel z
              rcases q with q | ⟨_,q⟩
              · have:=o3 _ hm rfl
                rw [show k' = NameKind.local from q] at this
                cases this
              · cases q
            · exact .inl z
            · exact .inr z
          · obtain ⟨o,ho,hd⟩:=hcell
            exact ⟨o,old _ _ ho,hd⟩
  cell:=fun x c e=>by
    obtain ⟨v,o,ho,hd⟩:=I.cell x c (clOf_env e)
    exact ⟨v,o,old _ _ ho,hd⟩
  free:=I.hok.fresh (by show @LE.le Nat _ s₂.heap.objs.size C; omega)
  freeC:=fun x c e=>I.freeC x c (clOf_env e)
  pin:=fun p hp=>by
    have e:p = (D,lstO [] 0):=by simpa [blk] using hp
    subst e
    refine ⟨hacc,I.hok.fresh (by show @LE.le Nat _ s₂.heap.objs.size D; omega),by show ¬ @Eq Nat D C; omega,blk_nofs I (by show @LE.le Nat _ s₂.heap.objs.size D; omega),fun v z=>?_⟩
    have z':Data.seq _ _ = Data.cell v:=z
    cases z'
  hok:=I.hok.kept old
  len:=by unfold blkSt; rw [List.length_map]; exact co.len
theorem blk_leave (I:Inv X pins σ H₂ s₂) {D:Addr} (hD : @Eq Nat D s₂.heap.objs.size) (hf : ∀ b ∈ fp,FpOk X pins H₂ b) {ys:List V} {its:List Value} {n:Nat} {σ':St} {H':Hp} {s':Shared}
    (I':Inv (blk X scope N' C fp s₂ H₂) [(D,lstO its n)] σ' H' s') (hv:Vals ys its) (hz:ys.length ≤ sizeLine) : Inv X pins σ (upd H' D (.lst ys)) s':=by
  obtain ⟨dp,dn,_,_,_⟩:=I'.pin (D,lstO its n) (by simp)
  have dp':s'.heap.get? D = some (lstO its n):=dp
  have dn':H' D = none:=dn
  have u:=I'.base
  have ne : ∀ b o,s₂.heap.get? b = some o → b ≠ D:=fun b o e z=>by
    have h1 : @LT.lt Nat _ b s₂.heap.objs.size:=Heap.lt_size e
    have h2 : @Eq Nat b D:=z
    omega
  have neH : ∀ b o,H₂ b = some o → b ≠ D:=fun b o e z=>by
    have h1 : @LT.lt Nat _ b s₂.heap.objs.size:=I.hok.lt e
    have h2 : @Eq Nat b D:=z
    omega
  refine I.call' (ch:=fp) I'.os ⟨u.keep,u.slot,fun b o e q hb=>?_,u.there,fun b xs q=>?_,fun b o xs q=>?_,fun b ps q=>?_⟩ (fun b o e=>?_) I'.bare fun b hb=>?_
  · rw [je (ne b o e)]
    exact u.free b o e q hb
  · rw [je (neH b _ q)]
    exact u.tups b xs q
  · rw [je (neH b _ q)]
    exact u.frzs b o xs q
  · rw [je (neH b _ q)]
    exact u.tbls b ps q
  · by_cases hb:b = D
    · subst hb
      rw [ja] at e
      cases e
      exact ⟨hz,its,n,hv,dp'⟩
    · rw [je hb] at e
      exact (I'.hok b o e).stay (fun c v _ q=>q) (fun c q=>by rw [je (jh q dn')]; exact q) fun c xs q=>by rw [je (jh q dn')]; exact q
  · obtain ⟨_,f1,_,f3,f4,f5⟩:=hf b hb
    exact ⟨f3,f1,f4,f5⟩
end
end L2
namespace L2
open PySem PySem.Spec PyProof.Rows
abbrev NoE:Value → Shared → Prop:=fun _ _=>False
section
variable {prog:Program} {w:World} {A:Around} {R:Result → Shared → Prop} {s:Shared}
theorem compLoop_own {elt target iter:Expr} {ifs:List Expr} {scope:Scope} {pos:Pos} {it acc:Value} {env:Env} (I:Nat → Shared → Prop)
    (turn : ∀ n s,I n s → wpAny (model prog w) A (pyNext it) (fun r s₁=>match r with
      | none=>R (.ok .next) s₁
      | some v=>wpAny (model prog w) A (letOwnedTupleGo target it v) (fun _ s₁=>wpAny (model prog w) A (assign target env v) (fun _ s₂=>
          wpAny (model prog w) A (forIn ifs true fun c r=>if r = true then do let ok ← isTrue c env (eval c env); pure (ForInStep.yield ok) else pure (ForInStep.yield r)) (fun ok s₃=>
            if ok = true then wpAny (model prog w) A (eval elt env) (fun x s₄=>
              wpAny (model prog w) A (call (.builtin "list.append") [acc,x]) (fun _ s₅=>∃ m,m < n ∧ I m s₅) NoE s₄) NoE s₃
            else ∃ m,m < n ∧ I m s₃) NoE s₂) NoE s₁) NoE s₁) NoE s)
    (n:Nat) (h:I n s) : codeAny (model prog w) A (.compLoop (.ListComp elt [⟨target,iter,ifs,0⟩] scope pos) 0 it acc env) R s:=by
  refine codeAny_loop rfl I (fun n s hI=>?_) n h
  show wpAny _ A ((compTurn (.ListComp elt [⟨target,iter,ifs,0⟩] scope pos) 0 it acc env).onRaise (fun x=>do noteFrame x env; theTreesLotGoes x)) _ _ s
  refine wpAny_noted ?_
  rw [compTurn_list]
  refine wpAny_bind (wpAny_standAt (wpAny_bind (wpAny_mono (turn n s hI) (fun r s₁ h₁=>?_) fun _ _ h'=>h'.elim)))
  cases r with
  | none=>exact wpAny_pure h₁
  | some v=>
    refine wpAny_bind (wpAny_mono h₁ (fun _ s₁ h₁=>?_) fun _ _ h'=>h'.elim)
    refine wpAny_bind (wpAny_mono h₁ (fun _ s₂ h₂=>wpAny_bind (wpAny_mono h₂ (fun ok s₃ h₃=>?_) fun _ _ h'=>h'.elim)) fun _ _ h'=>h'.elim)
    cases ok with
    | false=>exact wpAny_pure ⟨rfl,h₃⟩
    | true=>
      exact wpAny_bind (wpAny_bind (wpAny_mono h₃ (fun x s₄ h₄=>wpAny_bind (wpAny_mono h₄ (fun _ s₅ h₅=>wpAny_pure (wpAny_pure ⟨rfl,h₅⟩)) fun _ _ h'=>h'.elim)) fun _ _ h'=>h'.elim))
end
def PIf (X:Cx) (ifs:List Expr) (t:TT) : Prop:=
  ∀ (pins:List (Addr × Obj)) (s:Shared) (σ : St) (H:Hp) (Q:Bool → Hp → Prop),Inv X pins σ H s → t σ H Q →
    wpAny (model X.prog X.w) X.A (forIn ifs true fun c r=>if r = true then do let ok ← isTrue c X.env (eval c X.env); pure (ForInStep.yield ok) else pure (ForInStep.yield r)) (TP X pins σ Q) X.xe s
def tYes:TT:=fun _ H Q=>Q true H
theorem pif_nil {X:Cx} : PIf X [] tYes:=fun _ _ _ H _ I h=>wpAny_tests_nil ⟨H,I,h⟩
theorem pif_one {X:Cx} {c:Expr} {t:TT} (h:PT X c t) : PIf X [c] t:=fun pins s σ H Q I q=>wpAny_tests_one (h pins s σ H Q I q)
def lcEnd (Q:VK) (ys:List V) (H:Hp) : Prop:=∀ p,H p = none → Q (.ref p) (upd H p (.lst ys))
def tLc (ix:List (Option Nat)) (wi:TI) (g:TG) (ti:TT) (te:TE) : TE:=fun σ H Q=>wi σ H fun J H1=>∃ W:Nat → Nat → List V → St → Hp → Prop,(∃ m,W 0 m [] (blkSt ix σ) H1) ∧ ∀ i m ys σ H,W i m ys σ H →
  ys.length ≤ sizeLine ∧ ((J.stop i H ∧ lcEnd Q ys H) ∨
    (J.go i H ∧ ∃ N:List V → St → Hp → Prop,(∀ ys' σ' H',N ys' σ' H' → ∃ m',m' < m ∧ W (i + 1) m' ys' σ' H') ∧
      ∀ x H',J.yld i H x H' → g x σ H' fun σ2 H2=>ti σ2 H2 fun b H3=>if b = true then te σ2 H3 fun y H4=>N (ys ++ [y]) σ2 H4 else N ys σ2 H3))
structure Gone (X:Cx) (pins:List (Addr × Obj)) (H:Hp) (s:Shared) (C:Addr) : Prop where
  ns : ∃ m,s.heap.Ns C m
  fr:H C = none
  nl:C ≠ X.env.locals
  ab:X.s₀.heap.objs.size ≤ C
  nc : ∀ x c,X.env.cells.lookup x = some c → c ≠ C
  np : ∀ p ∈ X.pn ++ pins,p.1 ≠ C
section
variable {X:Cx}
theorem blk_run {scope:Scope} {N':List Str} {ix:List (Option Nat)} {pins:List (Addr × Obj)} {σ : St} {tg iter elt:Expr} {ifs:List Expr} {pos:Pos} {g:TG} {ti:TT} {te:TE} {E:Value → Shared → Prop}
    (co:CompOk X.N X.env.scope scope N' ix) (hc:X.calm = true)
    (hg : ∀ C fp s₂ H₂,PG (blk X scope N' C fp s₂ H₂) tg g) (hi : ∀ C fp s₂ H₂,PIf (blk X scope N' C fp s₂ H₂) ifs ti) (he : ∀ C fp s₂ H₂,PE (blk X scope N' C fp s₂ H₂) elt te)
    {H₂:Hp} {s₂:Shared} {J:It} {fp:List Addr} {it:Addr} {tn:Nat → Heap → Prop} {QF:List V → Hp → Prop}
    (I:Inv X pins σ H₂ s₂) (T:Turn X.prog X.w X.K tg J fp it tn) (st:tn 0 s₂.heap) (hf : ∀ b ∈ fp,FpOk X pins H₂ b)
    {W:Nat → Nat → List V → St → Hp → Prop} (w0 : ∃ m,W 0 m [] (blkSt ix σ) H₂)
    (hW : ∀ i m ys σ H,W i m ys σ H → ys.length ≤ sizeLine ∧ ((J.stop i H ∧ QF ys H) ∨
      (J.go i H ∧ ∃ N:List V → St → Hp → Prop,(∀ ys' σ' H',N ys' σ' H' → ∃ m',m' < m ∧ W (i + 1) m' ys' σ' H') ∧
        ∀ x H',J.yld i H x H' → g x σ H' fun σ2 H2=>ti σ2 H2 fun b H3=>if b = true then te σ2 H3 fun y H4=>N (ys ++ [y]) σ2 H4 else N ys σ2 H3)))
    {RR:Value → Addr → Result → Shared → Prop}
    (hRR : ∀ D C ys H' s',Inv X pins σ (upd H' D (.lst ys)) s' → H' D = none → QF ys H' → Gone X pins (upd H' D (.lst ys)) s' C → RR (.ref D) C (.ok .next) s') :
    wpAny (model X.prog X.w) X.A (newList []) (fun acc s₃=>wpAny (model X.prog X.w) X.A (newFunctionEnv scope X.env.globals (clOf scope X.env) [] X.env.qual none .none (some X.env)) (fun cenv s₄=>
      codeAny (model X.prog X.w) X.A (.compStart (.ListComp elt [⟨tg,iter,ifs,0⟩] scope pos) 0 (.ref it) acc { cenv with scope:=relabel scope X.env }) (RR acc cenv.locals) s₄) E s₃) E s₂:=by
  have hlt : ∀ b ∈ fp,@LT.lt Nat _ b s₂.heap.objs.size:=fun b hb=>by
    obtain ⟨o,e,_⟩:=T.obj _ _ st b hb
    exact Heap.lt_size e
  refine wpAny_newObj_type (wpAny_newFunctionEnv co.nocell (by intro y hy; simp at hy) (fun h₁ hns₁ hsb₁=>?_) co.kind)
  dsimp only at hns₁ hsb₁ ⊢
  generalize hH2:s₂.heap.push { cls:=.type "list",dict:=none,data:=.seq ([] : List Value).toArray } = H2 at hns₁ hsb₁ ⊢
  have hC : @Eq Nat H2.objs.size (s₂.heap.objs.size + 1):=by rw [← hH2,Heap.size_push]
  have below : ∀ b:Nat,b < s₂.heap.objs.size → ¬ @Eq Nat b H2.objs.size:=fun b hb=>by omega
  have hDC : ¬ @Eq Nat s₂.heap.objs.size H2.objs.size:=by omega
  have old : ∀ b o,s₂.heap.get? b = some o → h₁.get? b = some o:=fun b o e=>hsb₁.extBut b o (below b (Heap.lt_size e)) (Heap.get?_push_of_some _ (hH2 ▸ Heap.get?_push_of_some _ e))
  have hacc:h₁.get? s₂.heap.objs.size = some (lstO [] 0):=hsb₁.extBut _ _ hDC (Heap.get?_push_of_some _ (hH2 ▸ Heap.get?_push_size _ rfl))
  have st₁:tn 0 h₁:=T.keep _ _ _ st fun b _ o e=>old b o e
  generalize hCe:H2.objs.size = C at hns₁ hsb₁ hC below hDC ⊢
  generalize hDe:s₂.heap.objs.size = D at hacc hDC ⊢
  have loop : ∀ s₃:Shared,s₃ = { s₂ with heap:=h₁,toks:=s₂.toks + ([] : List (Str × Value)).length } →
      codeAny (model X.prog X.w) X.A (.compLoop (.ListComp elt [⟨tg,iter,ifs,0⟩] scope pos) 0 (.ref it) (.ref D) (compEnvC scope (clOf scope X.env) C X.env)) (RR (.ref D) C) s₃:=by
    rintro s₃ rfl
    obtain ⟨m0,w0⟩:=w0
    have I3:Inv (blk X scope N' C fp s₂ H₂) [(D,lstO [] 0)] (blkSt ix σ) H₂ { s₂ with heap:=h₁,toks:=s₂.toks + ([] : List (Str × Value)).length }:=blk_start I co hDe.symm hC hf hlt old hacc hns₁
    refine compLoop_own (fun k s'=>∃ i ys its n σ' H',Inv (blk X scope N' C fp s₂ H₂) [(D,lstO its n)] σ' H' s' ∧ Vals ys its ∧ tn i s'.heap ∧ (∀ b ∈ fp,H' b = none) ∧ W i k ys σ' H') ?_ m0
      ⟨0,[],[],0,_,_,I3,.nil,st₁,fun b hb=>(hf b hb).1,w0⟩
    rintro k s' ⟨i,ys,its,n,σ',H',I',hv,st',fr',w'⟩
    have fpok : ∀ {H':Hp} {o:Obj},(∀ b ∈ fp,H' b = none) → ∀ b ∈ fp,FpOk (blk X scope N' C fp s₂ H₂) [(D,o)] H' b:=fun {H' o} hn b hb=>by
      refine ⟨hn b hb,below b (hlt b hb),fun z=>?_,.inl hb,fun x c e=>(hf b hb).2.2.2.2.1 x c (clOf_env e),fun p hp z=>?_⟩
      · rcases List.mem_cons.mp (I.stkSub b z) with e | e
        · exact (hf b hb).2.1 e
        · exact (hf b hb).2.2.1 e
      · have e:p = (D,o):=by simpa [blk] using hp
        subst e
        have z' : @Eq Nat D b:=z
        have z2:=hlt b hb
        omega
    obtain ⟨hz,hW'⟩:=hW i k ys σ' H' w'
    rcases hW' with ⟨stop,q⟩ | ⟨go,N,hN,step⟩
    · refine thn (T.done (blk X scope N' C fp s₂ H₂) rfl rfl rfl hc i _ s' σ' H' NoE I' (fpok fr') st' stop) fun r s4 ⟨hr,I4⟩=>?_
      subst hr
      obtain ⟨_,dn,_⟩:=I4.pin (D,lstO its n) (by simp)
      have cf:H' C = none:=I4.free
      refine hRR D C ys H' s4 (blk_leave I hDe.symm hf I4 hv hz) dn q ⟨?_,by rw [je (Ne.symm hDC)]; exact cf,?_,?_,fun x c e=>?_,fun p hp=>?_⟩
      · obtain ⟨m,hn,_⟩:=I4.loc
        exact ⟨m,hn⟩
      · have z : @LT.lt Nat _ X.env.locals s₂.heap.objs.size:=I.lt
        show ¬ @Eq Nat C X.env.locals
        omega
      · have z : @LE.le Nat _ X.s₀.heap.objs.size s₂.heap.objs.size:=I.sz
        show @LE.le Nat _ X.s₀.heap.objs.size C
        omega
      · obtain ⟨v,z⟩:=I.cell x c e
        have z2 : @LT.lt Nat _ c s₂.heap.objs.size:=z.lt
        show ¬ @Eq Nat c C
        omega
      · have z2 : @LT.lt Nat _ p.1 s₂.heap.objs.size:=Heap.lt_size (I.pin p hp).1
        show ¬ @Eq Nat p.1 C
        omega
    · refine thn (T.item (blk X scope N' C fp s₂ H₂) rfl rfl rfl hc i _ s' σ' H' NoE I' (fpok fr') st' go) fun r s4 ⟨u,hr,h4⟩=>?_
      subst hr
      refine thn h4 fun _ s5 ⟨x,H5,I5,r5,y5,st5,fr5⟩=>?_
      have I5':=I5.pinned (fpok fr5) (T.obj _ _ st5)
      refine thn (hg C fp s₂ H₂ _ s5 σ' H5 x u _ I5' r5 (step x H5 y5)) fun _ s6 ⟨σ6,H6,I6,q6⟩=>?_
      refine thn (hi C fp s₂ H₂ _ s6 σ6 H6 _ I6 q6) fun ok s7 ⟨H7,I7,q7⟩=>?_
      have fpin : ∀ {σ8:St} {H8:Hp} {s8:Shared},Inv (blk X scope N' C fp s₂ H₂) ([(D,lstO its n)] ++ pinsAt fp s5.heap) σ8 H8 s8 → ∀ b ∈ fp,∀ o,s5.heap.get? b = some o → s8.heap.get? b = some o ∧ H8 b = none:=fun {σ8 H8 s8} I8 b hb o e=>by
        have z:=I8.pin (b,o) (List.mem_append_right _ (List.mem_append_right _ (mem_pinsAt hb e)))
        exact ⟨z.1,z.2.1⟩
      cases ok with
      | false=>
        have q7':N ys σ6 H7:=by
          have q7':=q7
          rw [if_neg Bool.false_ne_true] at q7'
          exact q7'
        obtain ⟨m',hm,w7⟩:=hN _ _ _ q7'
        refine ⟨m',hm,i + 1,ys,its,n,σ6,H7,I7.unpinned,hv,T.keep _ _ _ st5 fun b hb o e=>(fpin I7 b hb o e).1,fun b hb=>?_,w7⟩
        obtain ⟨o,e,_⟩:=T.obj _ _ st5 b hb
        exact (fpin I7 b hb o e).2
      | true=>
        have q7':te σ6 H7 fun y H4=>N (ys ++ [y]) σ6 H4:=by
          have q7':=q7
          rw [if_pos rfl] at q7'
          exact q7'
        show wpAny _ _ _ _ _ _
        refine thn (he C fp s₂ H₂ _ s7 σ6 H7 _ I7 q7') fun yv s8 ⟨y,H8,I8,r8,q8⟩=>?_
        obtain ⟨m',hm,w8⟩:=hN _ _ _ q8
        obtain ⟨z1,z2,z3,z4,z5⟩:=I8.pin (D,lstO its n) (by simp)
        have zD:s8.heap.get? D = some (lstO its n):=z1
        have lenv:=hv.length
        refine append_at (hsz:=by rw [List.size_toArray]; omega) zD fun h9 hs9 hD9=>?_
        have I8':Inv (blk X scope N' C fp s₂ H₂) (pinsAt fp s5.heap) σ6 H8 s8:=I8.pins_of fun p hp=>I8.pin p (List.mem_append_right _ (List.mem_append_right _ hp))
        have I9:Inv (blk X scope N' C fp s₂ H₂) (pinsAt fp s5.heap) σ6 H8 { s8 with heap:=h9 }:=I8'.turned (it:=D) (t':=s8.toks) (fun b o hb e=>(hs9.2 b hb).trans e) z2 z3
          (.inr (by show s₂.heap.objs.size ≤ D; omega)) (fun x c e=>by have z : @LT.lt Nat _ c s₂.heap.objs.size:=blk_cells (scope:=scope) I e; show ¬ @Eq Nat c D; omega) (fun p hp=>by
            have hp':p ∈ pinsAt fp s5.heap:=by simpa [blk] using hp
            have z:=hlt _ (of_pinsAt hp').1
            show ¬ @Eq Nat p.1 D
            omega)
        have hD9':h9.get? D = some (lstO (its ++ [yv]) (n + 1)):=by
          rw [hD9]
          simp [lstO]
        have I10:Inv (blk X scope N' C fp s₂ H₂) [(D,lstO (its ++ [yv]) (n + 1))] σ6 H8 { s8 with heap:=h9 }:=I9.pins_of fun p hp=>by
          have e:p = (D,lstO (its ++ [yv]) (n + 1)):=by simpa using hp
          subst e
          refine ⟨hD9',z2,z3,z4,fun v z=>?_⟩
          have z':Data.seq _ _ = Data.cell v:=z
          cases z'
        refine ⟨m',hm,i + 1,ys ++ [y],its ++ [yv],n + 1,σ6,H8,I10,hv.append (.cons r8 .nil),T.keep _ _ _ st5 fun b hb o e=>?_,fun b hb=>?_,w8⟩
        · have hbD:b ≠ D:=by
            have z:=hlt b hb
            show ¬ @Eq Nat b D
            omega
          exact (hs9.2 b hbD).trans (fpin I8 b hb o e).1
        · obtain ⟨o,e,_⟩:=T.obj _ _ st5 b hb
          exact (fpin I8 b hb o e).2
  exact codeAny_compStart_list (loop _ rfl) (T.self _ 0 _ _ _ st₁ (loop _ rfl))
theorem Gone.go {pins:List (Addr × Obj)} {σ : St} {H:Hp} {s:Shared} {C:Addr} {h':Heap} (G:Gone X pins H s C) (I:Inv X pins σ H s) (hs:Heap.SameBut C s.heap h') : Inv X pins σ H { s with heap:=h' }:=
  I.turned (it:=C) (t':=s.toks) (fun b o hb e=>(hs.2 b hb).trans e) G.fr G.nl (.inr G.ab) G.nc G.np
variable {scope:Scope} {N':List Str} {ix:List (Option Nat)} {tg iter elt:Expr} {ifs:List Expr} {pos:Pos} {wi:TI} {g:TG} {ti:TT} {te:TE}
theorem comp_clos (co:CompOk X.N X.env.scope scope N' ix) {pins:List (Addr × Obj)} {σ : St} {H:Hp} {s:Shared} (I:Inv X pins σ H s) : closureFor scope X.env = pure (clOf scope X.env):=
  closure_is fun p hp e=>I.ok.has p.1 (co.frees p hp e)
theorem pe_lcomp (co:CompOk X.N X.env.scope scope N' ix) (hc:X.calm = true) (hit:PI X tg iter wi) (hg : ∀ C fp s₂ H₂,PG (blk X scope N' C fp s₂ H₂) tg g) (hi : ∀ C fp s₂ H₂,PIf (blk X scope N' C fp s₂ H₂) ifs ti)
    (he : ∀ C fp s₂ H₂,PE (blk X scope N' C fp s₂ H₂) elt te) (hs : ∀ x,foldedSetIterable iter X.env x = pure x:=by intro _; rfl) :
    PE X (.ListComp elt [⟨tg,iter,ifs,0⟩] scope pos) (tLc ix wi g ti te):=by
  intro pins s σ H Q I h
  rw [eval_ListComp]
  refine wpAny_comprehension_free (use:=none) rfl hs (comp_clos co I) co.kind co.names (thn (hit pins s σ H _ I h) fun xv s₁ h₁=>thn h₁ fun itv s₂ h₂=>?_)
  obtain ⟨it,fp,tn,J,H₂,e,I₂,T,st,hf,W,w0,hW⟩:=h₂
  subst e
  refine blk_run co hc hg hi he I₂ T st hf w0 hW (RR:=fun acc C=>compPost (model X.prog X.w) X.A X.xe none (EP X pins σ Q) acc C) fun D C ys H' s' I' dn q G=>?_
  obtain ⟨m,hn⟩:=G.ns
  exact ⟨m,hn,fun h' hs'=>⟨.ref D,_,G.go I' hs',rfl,q D dn⟩⟩
end
theorem lc_list {K:PySem.W.Frag} {a:Addr} {xs:List V} {g:TG} {ti:TT} {te:TE} {σ0:St} {H0:Hp} {Q:VK} (Pv:Nat → List V → St → Hp → Prop) (h0:Pv 0 [] σ0 H0)
    (hl : ∀ i ys σ H,i ≤ xs.length → Pv i ys σ H → SqL K H a xs ∧ ys.length ≤ sizeLine)
    (hs : ∀ i x ys σ H,xs[i]? = some x → Pv i ys σ H → g x σ H fun σ2 H2=>ti σ2 H2 fun b H3=>if b = true then te σ2 H3 fun y H4=>Pv (i + 1) (ys ++ [y]) σ2 H4 else Pv (i + 1) ys σ2 H3)
    (hd : ∀ ys σ H,Pv xs.length ys σ H → ∀ p,H p = none → Q (.ref p) (upd H p (.lst ys))) :
    ∃ W : Nat → Nat → List V → St → Hp → Prop,(∃ m,W 0 m [] σ0 H0) ∧ ∀ i m ys σ H,W i m ys σ H →
      ys.length ≤ sizeLine ∧ (((Itl K a).stop i H ∧ lcEnd Q ys H) ∨
        ((Itl K a).go i H ∧ ∃ N:List V → St → Hp → Prop,(∀ ys' σ' H',N ys' σ' H' → ∃ m',m' < m ∧ W (i + 1) m' ys' σ' H') ∧
          ∀ x H',(Itl K a).yld i H x H' → g x σ H' fun σ2 H2=>ti σ2 H2 fun b H3=>if b = true then te σ2 H3 fun y H4=>N (ys ++ [y]) σ2 H4 else N ys σ2 H3)):=by
  refine ⟨fun i m ys σ H=>m = xs.length - i ∧ i ≤ xs.length ∧ Pv i ys σ H,⟨xs.length,by simp,Nat.zero_le _,h0⟩,?_⟩
  rintro i m ys σ H ⟨rfl,hi,p⟩
  obtain ⟨q,hz⟩:=hl i ys σ H hi p
  refine ⟨hz,?_⟩
  by_cases hlt:i < xs.length
  · refine .inr ⟨⟨xs,xs[i],q,by simp [hlt]⟩,Pv (i + 1),fun ys' σ' H' p'=>⟨xs.length - (i + 1),by omega,rfl,hlt,p'⟩,fun x H' y=>?_⟩
    obtain ⟨e,y⟩:=y
    subst e
    exact hs i x ys σ _ (y xs q) p
  · have e:i = xs.length:=by omega
    subst e
    exact .inl ⟨⟨xs,q,Nat.le_refl _⟩,hd ys σ H p⟩
end L2
namespace L2
open PySem PySem.Spec PyProof.Rows
section
variable {X:Cx}
theorem call_isinst:CallR X (.builtin "isinstance") (fun xs H Q=>∃ x t T b,xs = [x,.ty T] ∧ TyOf X.K H x t ∧ PySem.W.kitOne X.K t (.type T) = some b ∧ Q (.bl b) H):=by
  intro pins s σ H xs us Q I r h
  obtain ⟨x,t,T,b,rfl,ty,e,q⟩:=h
  obtain ⟨u,w,rfl,r1,r2⟩:=vals2 r
  obtain rfl:w = Value.type T:=r2
  exact isinst_ok I r1 ty e fun tk=>⟨.bl b,H,I.tok tk,rfl,q⟩
theorem walks_list {A:Around} {s:Shared} {p:Addr} {its:List Value} (hh:A.handled = none) (hl:s.heap.IsList p its.toArray) :
    ∃ (fp:List Addr),(∀ b ∈ fp,b < s.heap.objs.size + 1) ∧ Walks X.prog X.w A s.heap.objs.size fp [s.heap.objs.size] its.toArray.size (fun i v=>its.toArray[i]? = some v) (fun i h=>h.IsListIter s.heap.objs.size p i ∧ h.IsList p its.toArray) ∧
      ((s.heap.push { cls:=.type "list_iterator",data:=.fields #[.ref p,.int 0 0] }).IsListIter s.heap.objs.size p 0 ∧ (s.heap.push { cls:=.type "list_iterator",data:=.fields #[.ref p,.int 0 0] }).IsList p its.toArray):=by
  have hlt:p < s.heap.objs.size:=by obtain ⟨_,e,_⟩:=hl; exact Heap.lt_size e
  refine ⟨[s.heap.objs.size,p],fun b hb=>?_,Walks.list (A:=A) hh _ p (Nat.ne_of_lt hlt) its.toArray,⟨_,Heap.get?_push_size _ rfl,rfl,rfl⟩,hl.push _⟩
  rcases List.mem_cons.mp hb with e | e
  · rw [e]; exact Nat.lt_succ_self _
  · rw [List.mem_singleton.mp e]; exact Nat.lt_succ_of_lt hlt
theorem kept_iter' {s:Shared} {h':Heap} {o:Obj} (hk : ∀ b x,b ∉ [s.heap.objs.size] → (s.heap.push o).get? b = some x → h'.get? b = some x) : ∀ b x,s.heap.get? b = some x → h'.get? b = some x:=
  fun b x e=>hk b x (fun hm=>by rw [List.mem_singleton.mp hm] at e; exact Nat.lt_irrefl _ (Heap.lt_size e)) (Heap.get?_push_of_some _ e)
theorem vals_bl : ∀ {bs:List Bool} {us:List Value},Vals (bs.map V.bl) us → us = bs.map Value.bool
  | [],us,h=>by
    rw [List.map_nil] at h
    cases h
    rfl
  | b :: bs,us,h=>by
    rw [List.map_cons] at h
    cases h with
    | cons r1 r2=>
      cases r1
      rw [vals_bl r2,List.map_cons]
theorem truth_bl {A:Around} (bs:List Bool) (d:Bool) : ∀ (i:Nat) (v:Value) (s':Shared) (Q':Bool → Shared → Prop) (E':Value → Shared → Prop),(bs.map Value.bool).toArray[i]? = some v → Q' ((bs[i]?).getD d) s' → wpAny (model X.prog X.w) A (truthy v) Q' E' s':=
  fun i v s' Q' E' hP hQ=>by
    have e:(bs.map Value.bool)[i]? = some v:=by simpa using hP
    rw [List.getElem?_map] at e
    cases q:bs[i]? with
    | none=>rw [q] at e; cases e
    | some b=>
      rw [q] at e hQ
      have e':Value.bool b = v:=Option.some.inj e
      subst e'
      exact wpAny_truthy_bool hQ
theorem call_all (hc:X.calm = true) : CallR X (.builtin "all") (fun xs H Q=>∃ (p:Addr) (bs:List Bool),xs = [.ref p] ∧ SqL X.K H p (bs.map V.bl) ∧ Q (.bl (bs.all id)) H):=by
  intro pins s σ H xs us Q I r h
  obtain ⟨p,bs,rfl,hq,q⟩:=h
  obtain ⟨u,rfl,rx⟩:=vals1 r
  cases rx
  obtain ⟨its,r',pl,hz⟩:=I.list hq
  have ei:=vals_bl r'
  subst ei
  obtain ⟨fp,hfp,W,st⟩:=walks_list (X:=X) (A:=X.A.in1) (s:=s) (I.ok.hd hc) pl.isList
  refine call_all_walk (wpAny_pyIter_list pl.isList ⟨_,fp,_,_,_,_,fun i=>(bs[i]?).getD true,rfl,W,st,truth_bl bs true,fun h' tk hk=>?_⟩)
  have e:((List.range (bs.map Value.bool).toArray.size).all fun i=>(bs[i]?).getD true) = bs.all id:=by
    rw [List.size_toArray,List.length_map]; exact LSm.range_all bs
  rw [e]
  exact ⟨.bl (bs.all id),H,I.kept (t':=tk) (kept_iter' hk),rfl,q⟩
theorem call_sum (hc:X.calm = true) : CallR X (.builtin "sum") (fun xs H Q=>∃ (p:Addr) (ns:List Int),xs = [.ref p] ∧ SqL X.K H p (ns.map V.int) ∧ Q (.int ns.sum) H):=by
  intro pins s σ H xs us Q I r h
  obtain ⟨p,ns,rfl,hq,q⟩:=h
  obtain ⟨u,rfl,rx⟩:=vals1 r
  cases rx
  obtain ⟨its,r',pl,hz⟩:=I.list hq
  have hi:=intsAre_of r'
  obtain ⟨ms,hx⟩:=hi.allInts.items
  have hl':s.heap.IsList p (intItems ms):=hx ▸ pl.isList
  refine sum_intListG (I.ok.hd hc) hl' fun h' tk t' hk=>?_
  have e1:ns = ms.toList.map (·.1):=by
    rw [← nums_intItems,← hx]
    exact (show numsOf its.toArray.toList = ns from hi.numsOf).symm
  have e2:preSum (numAt ms) ms.size = ns.sum:=by
    rw [preSum_eq,List.take_of_length_le (by simp),e1]
  rw [e2]
  exact ⟨.int ns.sum,H,I.kept (t':=tk) hk,⟨t',rfl⟩,q⟩
end
end L2
namespace L2
open PySem PySem.Spec PyProof.Rows
inductive Dt where
  | non | bl (b:Bool) | int (i:Int) | str (x:Str) | tup (ds:List Dt) | lst (ds:List Dt)
mutual
def qp (K:PySem.W.Frag) (H:Hp) : Dt → V → Prop
  | .non,v=>v = .non
  | .bl b,v=>v = .bl b
  | .int i,v=>v = .int i
  | .str x,v=>v = .str x
  | .tup ds,v=>∃ a xs,v = .ref a ∧ SqT K H a xs ∧ HasDs K H ds xs
  | .lst ds,v=>∃ a xs,v = .ref a ∧ SqL K H a xs ∧ HasDs K H ds xs
def HasDs (K:PySem.W.Frag) (H:Hp) : List Dt → List V → Prop
  | [],xs=>xs = []
  | d :: ds,xs=>∃ x r,xs = x :: r ∧ qp K H d x ∧ HasDs K H ds r
end
mutual
def eqD:Dt → Dt → Bool
  | .non,.non=>true
  | .bl a,.bl b=>a == b
  | .bl a,.int b=>(if a then 1 else 0) == b
  | .int a,.bl b=>a == (if b then 1 else 0)
  | .int a,.int b=>a == b
  | .str a,.str b=>a == b
  | .tup as,.tup bs=>eqDs as bs
  | .lst as,.lst bs=>eqDs as bs
  | _,_=>false
def eqDs:List Dt → List Dt → Bool
  | [],[]=>true
  | a :: as,b :: bs=>eqD a b && eqDs as bs
  | _,_=>false
end
mutual
def depD:Dt → Nat
  | .tup ds=>depDs ds + 1
  | .lst ds=>depDs ds + 1
  | _=>0
def depDs:List Dt → Nat
  | []=>0
  | d :: ds=>max (depD d) (depDs ds)
end
def eqAtI (ds es:List Dt) (j:Nat) : Bool:=match ds[j]?,es[j]? with
  | some a,some b=>eqD a b
  | _,_=>true
theorem range_eqDs : ∀ (ds es:List Dt),((List.range (min ds.length es.length)).all (eqAtI ds es) && (ds.length == es.length)) = eqDs ds es
  | [],[]=>by simp [eqDs]
  | [],e :: es=>by simp [eqDs]
  | d :: ds,[]=>by simp [eqDs]
  | d :: ds,e :: es=>by
    have ih:=range_eqDs ds es
    have e1:min (d :: ds).length (e :: es).length = min ds.length es.length + 1:=by simp only [List.length_cons]; omega
    have e2:((d :: ds).length == (e :: es).length) = (ds.length == es.length):=by simp
    have e3:(eqAtI (d :: ds) (e :: es) ∘ Nat.succ) = eqAtI ds es:=by funext j; simp [eqAtI,Function.comp]
    have e4:eqAtI (d :: ds) (e :: es) 0 = eqD d e:=by simp [eqAtI]
    rw [e1,e2,List.range_succ_eq_map,List.all_cons,List.all_map,e3,e4,Bool.and_assoc,ih,eqDs]
theorem HasDs.length {K:PySem.W.Frag} {H:Hp} : ∀ {ds:List Dt} {xs:List V},HasDs K H ds xs → ds.length = xs.length
  | [],xs,h=>by
    rw [HasDs] at h
    rw [h]
    rfl
  | d :: ds,xs,h=>by
    rw [HasDs] at h
    obtain ⟨x,r,rfl,_,h2⟩:=h
    rw [List.length_cons,List.length_cons,HasDs.length h2]
theorem HasDs.get {K:PySem.W.Frag} {H:Hp} : ∀ {ds:List Dt} {xs:List V} {j:Nat} {x:V},HasDs K H ds xs → xs[j]? = some x → ∃ d,ds[j]? = some d ∧ qp K H d x
  | [],xs,j,x,h,e=>by
    rw [HasDs] at h
    subst h
    simp at e
  | d :: ds,xs,j,x,h,e=>by
    rw [HasDs] at h
    obtain ⟨y,r,rfl,h1,h2⟩:=h
    cases j with
    | zero=>
      have e':y = x:=by simpa using e
      subst e'
      exact ⟨d,by simp,h1⟩
    | succ j=>
      obtain ⟨d',q1,q2⟩:=HasDs.get (j:=j) h2 (by simpa using e)
      exact ⟨d',by simpa using q1,q2⟩
theorem dep_get : ∀ {ds:List Dt} {j:Nat} {d:Dt},ds[j]? = some d → depD d ≤ depDs ds
  | [],j,d,e=>by simp at e
  | c :: ds,j,d,e=>by
    rw [depDs]
    cases j with
    | zero=>
      have e':c = d:=by simpa using e
      subst e'
      exact Nat.le_max_left _ _
    | succ j=>exact Nat.le_trans (dep_get (j:=j) (by simpa using e)) (Nat.le_max_right _ _)
section
variable {X:Cx} {pins:List (Addr × Obj)} {σ : St} {H:Hp} {s:Shared}
theorem list_not_tuple (I:Inv X pins σ H s) {a:Addr} {xs ys:List V} (h:SqL X.K H a xs) (h':SqT X.K H a ys) : False:=by
  obtain ⟨_,_,p,_⟩:=I.list h
  obtain ⟨_,_,q,_⟩:=I.tuple h'
  obtain ⟨o,e,c,_⟩:=p.isList
  obtain ⟨o',e',c',_⟩:=q
  rw [e] at e'
  cases e'
  rw [c] at c'
  exact absurd c' (by decide)
mutual
theorem hasD_same (I:Inv X pins σ H s) : ∀ (d e:Dt) (x:V),qp X.K H d x → qp X.K H e x → eqD d e = true
  | .non,e,x,h,k=>by
    rw [qp] at h
    subst h
    cases e <;> rw [qp] at k <;> first | (obtain ⟨_,_,z,_⟩:=k; cases z) | rfl | cases k
  | .bl b,e,x,h,k=>by
    rw [qp] at h
    subst h
    cases e <;> rw [qp] at k <;> first | (obtain ⟨_,_,z,_⟩:=k; cases z) | (cases k; simp [eqD]; done) | cases k
  | .int b,e,x,h,k=>by
    rw [qp] at h
    subst h
    cases e <;> rw [qp] at k <;> first | (obtain ⟨_,_,z,_⟩:=k; cases z) | (cases k; simp [eqD]; done) | cases k
  | .str b,e,x,h,k=>by
    rw [qp] at h
    subst h
    cases e <;> rw [qp] at k <;> first | (obtain ⟨_,_,z,_⟩:=k; cases z) | (cases k; simp [eqD]; done) | cases k
  | .tup ds,e,x,h,k=>by
    rw [qp] at h
    obtain ⟨a,xs,rfl,h1,h2⟩:=h
    cases e with
    | tup es=>
      rw [qp] at k
      obtain ⟨b,ys,z,k1,k2⟩:=k
      cases z
      have e:=I.tuple_inj k1 h1
      subst e
      rw [eqD]
      exact hasDs_same I ds es _ h2 k2
    | lst es=>
      rw [qp] at k
      obtain ⟨b,ys,z,k1,k2⟩:=k
      cases z
      exact (list_not_tuple I k1 h1).elim
    | non=>rw [qp] at k; cases k
    | bl b=>rw [qp] at k; cases k
    | int b=>rw [qp] at k; cases k
    | str b=>rw [qp] at k; cases k
  | .lst ds,e,x,h,k=>by
    rw [qp] at h
    obtain ⟨a,xs,rfl,h1,h2⟩:=h
    cases e with
    | lst es=>
      rw [qp] at k
      obtain ⟨b,ys,z,k1,k2⟩:=k
      cases z
      have e:=I.list_inj k1 h1
      subst e
      rw [eqD]
      exact hasDs_same I ds es _ h2 k2
    | tup es=>
      rw [qp] at k
      obtain ⟨b,ys,z,k1,k2⟩:=k
      cases z
      exact (list_not_tuple I h1 k1).elim
    | non=>rw [qp] at k; cases k
    | bl b=>rw [qp] at k; cases k
    | int b=>rw [qp] at k; cases k
    | str b=>rw [qp] at k; cases k
theorem hasDs_same (I:Inv X pins σ H s) : ∀ (ds es:List Dt) (xs:List V),HasDs X.K H ds xs → HasDs X.K H es xs → eqDs ds es = true
  | [],es,xs,h,k=>by
    rw [HasDs] at h
    subst h
    cases es with
    | nil=>rw [eqDs]
    | cons e es=>
      rw [HasDs] at k
      obtain ⟨_,_,z,_⟩:=k
      cases z
  | d :: ds,es,xs,h,k=>by
    rw [HasDs] at h
    obtain ⟨x,r,rfl,h1,h2⟩:=h
    cases es with
    | nil=>rw [HasDs] at k; cases k
    | cons e es=>
      rw [HasDs] at k
      obtain ⟨y,r',z,k1,k2⟩:=k
      cases z
      rw [eqDs,hasD_same I d e _ h1 k1,hasDs_same I ds es _ h2 k2]
      rfl
end
theorem items_eqAt {A:Around} {ds es:List Dt} {xs ys:List V} {is js:List Value} (hd:HasDs X.K H ds xs) (he:HasDs X.K H es ys) (vi:Vals xs is) (vj:Vals ys js)
    (rec : ∀ d e x y u v,d ∈ ds → depD d ≤ depDs ds → qp X.K H d x → qp X.K H e y → RelV x u → RelV y v → SeqAt.EqAt A s u v (eqD d e)) :
    ∀ j (h1:j < is.toArray.size) (h2:j < js.toArray.size),SeqAt.EqAt A s is.toArray[j] js.toArray[j] (eqAtI ds es j):=fun j h1 h2=>by
  have h1':j < is.length:=by simpa using h1
  have h2':j < js.length:=by simpa using h2
  have lx:j < xs.length:=by rw [vi.length]; exact h1'
  have ly:j < ys.length:=by rw [vj.length]; exact h2'
  obtain ⟨u,eu,ru⟩:=vi.get (i:=j) (x:=xs[j]) (by simp [lx])
  obtain ⟨v,ev,rv⟩:=vj.get (i:=j) (x:=ys[j]) (by simp [ly])
  obtain ⟨d,ed,kd⟩:=hd.get (j:=j) (x:=xs[j]) (by simp [lx])
  obtain ⟨e,ee,ke⟩:=he.get (j:=j) (x:=ys[j]) (by simp [ly])
  have e1:is.toArray[j] = u:=by
    rw [List.getElem?_eq_getElem h1'] at eu
    simpa using eu
  have e2:js.toArray[j] = v:=by
    rw [List.getElem?_eq_getElem h2'] at ev
    simpa using ev
  have e3:eqAtI ds es j = eqD d e:=by simp [eqAtI,ed,ee]
  rw [e1,e2,e3]
  exact rec d e _ _ u v (List.mem_of_getElem? ed) (dep_get ed) kd ke ru rv
theorem same_len {ds es:List Dt} {xs ys:List V} {is js:List Value} (hd:HasDs X.K H ds xs) (he:HasDs X.K H es ys) (vi:Vals xs is) (vj:Vals ys js) : ds.length = is.toArray.size ∧ es.length = js.toArray.size:=by
  rw [hd.length,he.length,vi.length,vj.length]
  simp
theorem lists_all {ds es:List Dt} (h:ds.length = es.length) : (List.range ds.length).all (eqAtI ds es) = eqDs ds es:=by
  have q:=range_eqDs ds es
  rw [← h,Nat.min_self,beq_self_eq_true,Bool.and_true] at q
  exact q
theorem lists_no {ds es:List Dt} (h:ds.length ≠ es.length) : eqDs ds es = false:=by
  have q:=range_eqDs ds es
  rw [show (ds.length == es.length) = false from by simpa using h,Bool.and_false] at q
  exact q.symm
theorem eqAt_D (I:Inv X pins σ H s) : ∀ (n:Nat) (d e:Dt) (x y:V) (u v:Value) (A:Around),depD d ≤ n → A.units + n < cLine → qp X.K H d x → qp X.K H e y → RelV x u → RelV y v → SeqAt.EqAt A s u v (eqD d e):=by
  intro n
  induction n with
  | zero=>
    intro d e x y u v A hn hu hd he ru rv
    have hu':A.units < cLine:=by omega
    cases d with
    | tup ds=>rw [depD] at hn; omega
    | lst ds=>rw [depD] at hn; omega
    | non=>
      rw [qp] at hd; subst hd; cases ru
      cases e <;> rw [qp] at he
      case non=>subst he; cases rv; exact SeqAt.EqAt.same _
      case bl b=>subst he; cases rv; exact SeqAt.EqAt.none_bool b
      case int b=>subst he; obtain ⟨t,rfl⟩:=rv; exact SeqAt.EqAt.none_int b t
      case str b=>subst he; obtain ⟨t,rfl⟩:=rv; exact SeqAt.EqAt.none_str b t
      case tup es=>obtain ⟨b,ys,rfl,k1,k2⟩:=he; cases rv; obtain ⟨js,vj,pj,_⟩:=I.tuple k1; exact SeqAt.EqAt.none_tuple pj hu'
      case lst es=>obtain ⟨b,ys,rfl,k1,k2⟩:=he; cases rv; obtain ⟨js,vj,pj,_⟩:=I.list k1; exact SeqAt.EqAt.none_list pj.isList hu'
    | bl a=>
      rw [qp] at hd; subst hd; cases ru
      cases e <;> rw [qp] at he
      case non=>subst he; cases rv; exact SeqAt.EqAt.bool_none a
      case bl b=>subst he; cases rv; exact SeqAt.EqAt.bool_bool a b
      case int b=>subst he; obtain ⟨t,rfl⟩:=rv; exact SeqAt.EqAt.bool_int a b t
      case str b=>subst he; obtain ⟨t,rfl⟩:=rv; exact SeqAt.EqAt.bool_str a b t
      case tup es=>obtain ⟨b,ys,rfl,k1,k2⟩:=he; cases rv; obtain ⟨js,vj,pj,_⟩:=I.tuple k1; exact SeqAt.EqAt.bool_tuple a pj hu'
      case lst es=>obtain ⟨b,ys,rfl,k1,k2⟩:=he; cases rv; obtain ⟨js,vj,pj,_⟩:=I.list k1; exact SeqAt.EqAt.bool_list a pj.isList hu'
    | int a=>
      rw [qp] at hd; subst hd; obtain ⟨t0,rfl⟩:=ru
      cases e <;> rw [qp] at he
      case non=>subst he; cases rv; exact SeqAt.EqAt.int_none a t0
      case bl b=>subst he; cases rv; exact SeqAt.EqAt.int_bool a t0 b
      case int b=>subst he; obtain ⟨t,rfl⟩:=rv; exact SeqAt.EqAt.int_int a t0 b t
      case str b=>subst he; obtain ⟨t,rfl⟩:=rv; exact SeqAt.EqAt.int_str a t0 b t
      case tup es=>obtain ⟨b,ys,rfl,k1,k2⟩:=he; cases rv; obtain ⟨js,vj,pj,_⟩:=I.tuple k1; exact SeqAt.EqAt.int_tuple a t0 pj hu'
      case lst es=>obtain ⟨b,ys,rfl,k1,k2⟩:=he; cases rv; obtain ⟨js,vj,pj,_⟩:=I.list k1; exact SeqAt.EqAt.int_list a t0 pj.isList hu'
    | str a=>
      rw [qp] at hd; subst hd; obtain ⟨t0,rfl⟩:=ru
      cases e <;> rw [qp] at he
      case non=>subst he; cases rv; exact SeqAt.EqAt.str_none a t0
      case bl b=>subst he; cases rv; exact SeqAt.EqAt.str_bool a t0 b
      case int b=>subst he; obtain ⟨t,rfl⟩:=rv; exact SeqAt.EqAt.str_int a t0 b t
      case str b=>subst he; obtain ⟨t,rfl⟩:=rv; exact SeqAt.EqAt.str_str a t0 b t
      case tup es=>obtain ⟨b,ys,rfl,k1,k2⟩:=he; cases rv; obtain ⟨js,vj,pj,_⟩:=I.tuple k1; exact SeqAt.EqAt.str_tuple a t0 pj hu'
      case lst es=>obtain ⟨b,ys,rfl,k1,k2⟩:=he; cases rv; obtain ⟨js,vj,pj,_⟩:=I.list k1; exact SeqAt.EqAt.str_list a t0 pj.isList hu'
  | succ n ih=>
    intro d e x y u v A hn hu hd he ru rv
    have hu':A.units < cLine:=by omega
    have hu1:A.in1.units + n < cLine:=by rw [units_in1]; omega
    cases d with
    | tup ds=>
      rw [depD] at hn
      have hd0:=hd
      rw [qp] at hd
      obtain ⟨a,xs,rfl,k1,k2⟩:=hd
      cases ru
      obtain ⟨is,vi,pi,_⟩:=I.tuple k1
      cases e with
      | tup es=>
        have he0:=he
        rw [qp] at he
        obtain ⟨b,ys,rfl,l1,l2⟩:=he
        cases rv
        obtain ⟨js,vj,pj,_⟩:=I.tuple l1
        by_cases hab:a = b
        · subst hab
          rw [hasD_same I _ _ _ hd0 he0]
          exact SeqAt.EqAt.same _
        · have q:=SeqAt.RcAt.tuples (A:=A) pi pj hu' (items_eqAt k2 l2 vi vj fun d e x y u v _ hdd=>ih d e x y u v A.in1 (by omega) hu1)
          obtain ⟨z1,z2⟩:=same_len k2 l2 vi vj
          rw [← z1,← z2,range_eqDs] at q
          rw [eqD]
          exact SeqAt.EqAt.of_refs hab q
      | lst es=>rw [qp] at he; obtain ⟨b,ys,rfl,l1,l2⟩:=he; cases rv; obtain ⟨js,vj,pj,_⟩:=I.list l1; exact SeqAt.EqAt.tuple_list pi pj.isList hu'
      | non=>rw [qp] at he; subst he; cases rv; exact SeqAt.EqAt.tuple_none pi hu'
      | bl b=>rw [qp] at he; subst he; cases rv; exact SeqAt.EqAt.tuple_bool b pi hu'
      | int b=>rw [qp] at he; subst he; obtain ⟨t,rfl⟩:=rv; exact SeqAt.EqAt.tuple_int b t pi hu'
      | str b=>rw [qp] at he; subst he; obtain ⟨t,rfl⟩:=rv; exact SeqAt.EqAt.tuple_str b t pi hu'
    | lst ds=>
      rw [depD] at hn
      have hd0:=hd
      rw [qp] at hd
      obtain ⟨a,xs,rfl,k1,k2⟩:=hd
      cases ru
      obtain ⟨is,vi,pi,_⟩:=I.list k1
      cases e with
      | lst es=>
        have he0:=he
        rw [qp] at he
        obtain ⟨b,ys,rfl,l1,l2⟩:=he
        cases rv
        obtain ⟨js,vj,pj,_⟩:=I.list l1
        obtain ⟨z1,z2⟩:=same_len k2 l2 vi vj
        by_cases hab:a = b
        · subst hab
          rw [hasD_same I _ _ _ hd0 he0]
          exact SeqAt.EqAt.same _
        · rw [eqD]
          by_cases hsz:ds.length = es.length
          · have q:=SeqAt.RcAt.lists (A:=A) pi.isList pj.isList (by omega) hu' (items_eqAt k2 l2 vi vj fun d e x y u v _ hdd=>ih d e x y u v A.in1 (by omega) hu1)
            rw [← z1,lists_all hsz] at q
            exact SeqAt.EqAt.of_refs hab q
          · rw [lists_no hsz]
            exact SeqAt.EqAt.of_refs hab (SeqAt.RcAt.lists_lengths pi.isList pj.isList (by rw [← z1,← z2]; simpa using hsz) hu')
      | tup es=>rw [qp] at he; obtain ⟨b,ys,rfl,l1,l2⟩:=he; cases rv; obtain ⟨js,vj,pj,_⟩:=I.tuple l1; exact SeqAt.EqAt.list_tuple pi.isList pj hu'
      | non=>rw [qp] at he; subst he; cases rv; exact SeqAt.EqAt.list_none pi.isList hu'
      | bl b=>rw [qp] at he; subst he; cases rv; exact SeqAt.EqAt.list_bool b pi.isList hu'
      | int b=>rw [qp] at he; subst he; obtain ⟨t,rfl⟩:=rv; exact SeqAt.EqAt.list_int b t pi.isList hu'
      | str b=>rw [qp] at he; subst he; obtain ⟨t,rfl⟩:=rv; exact SeqAt.EqAt.list_str b t pi.isList hu'
    | non=>exact ih _ _ _ _ _ _ _ (Nat.zero_le n) (by omega) hd he ru rv
    | bl b=>exact ih _ _ _ _ _ _ _ (Nat.zero_le n) (by omega) hd he ru rv
    | int b=>exact ih _ _ _ _ _ _ _ (Nat.zero_le n) (by omega) hd he ru rv
    | str b=>exact ih _ _ _ _ _ _ _ (Nat.zero_le n) (by omega) hd he ru rv
end
end L2
namespace L2
open PySem PySem.Spec PyProof.Rows
section
variable {X:Cx} {pins:List (Addr × Obj)} {σ : St} {H:Hp} {s:Shared}
theorem rcAt_D (I:Inv X pins σ H s) {n:Nat} {d e:Dt} {x y:V} {u v:Value} {A:Around} (hn:depD d ≤ n) (hu:A.units + n < cLine) (hd:qp X.K H d x) (he:qp X.K H e y) (ru:RelV x u) (rv:RelV y v) : SeqAt.RcAt A s u v (eqD d e):=by
  have hu':A.units < cLine:=by omega
  cases d with
  | non=>
    rw [qp] at hd; subst hd; cases ru
    cases e <;> rw [qp] at he
    case non=>subst he; cases rv; exact SeqAt.RcAt.none_none
    case bl b=>subst he; cases rv; exact SeqAt.RcAt.none_bool b
    case int b=>subst he; obtain ⟨t,rfl⟩:=rv; exact SeqAt.RcAt.none_int b t
    case str b=>subst he; obtain ⟨t,rfl⟩:=rv; exact SeqAt.RcAt.none_str b t
    case tup es=>obtain ⟨b,ys,rfl,k1,k2⟩:=he; cases rv; obtain ⟨js,vj,pj,_⟩:=I.tuple k1; exact SeqAt.RcAt.none_tuple pj hu'
    case lst es=>obtain ⟨b,ys,rfl,k1,k2⟩:=he; cases rv; obtain ⟨js,vj,pj,_⟩:=I.list k1; exact SeqAt.RcAt.none_list pj.isList hu'
  | bl a=>
    rw [qp] at hd; subst hd; cases ru
    cases e <;> rw [qp] at he
    case non=>subst he; cases rv; exact SeqAt.RcAt.bool_none a
    case bl b=>subst he; cases rv; exact SeqAt.RcAt.bool_bool a b
    case int b=>subst he; obtain ⟨t,rfl⟩:=rv; exact SeqAt.RcAt.bool_int a b t
    case str b=>subst he; obtain ⟨t,rfl⟩:=rv; exact SeqAt.RcAt.bool_str a b t
    case tup es=>obtain ⟨b,ys,rfl,k1,k2⟩:=he; cases rv; obtain ⟨js,vj,pj,_⟩:=I.tuple k1; exact SeqAt.RcAt.bool_tuple a pj hu'
    case lst es=>obtain ⟨b,ys,rfl,k1,k2⟩:=he; cases rv; obtain ⟨js,vj,pj,_⟩:=I.list k1; exact SeqAt.RcAt.bool_list a pj.isList hu'
  | int a=>
    rw [qp] at hd; subst hd; obtain ⟨t0,rfl⟩:=ru
    cases e <;> rw [qp] at he
    case non=>subst he; cases rv; exact SeqAt.RcAt.int_none a t0
    case bl b=>subst he; cases rv; exact SeqAt.RcAt.int_bool a t0 b
    case int b=>subst he; obtain ⟨t,rfl⟩:=rv; exact SeqAt.RcAt.int_int a t0 b t
    case str b=>subst he; obtain ⟨t,rfl⟩:=rv; exact SeqAt.RcAt.int_str a t0 b t
    case tup es=>obtain ⟨b,ys,rfl,k1,k2⟩:=he; cases rv; obtain ⟨js,vj,pj,_⟩:=I.tuple k1; exact SeqAt.RcAt.int_tuple a t0 pj hu'
    case lst es=>obtain ⟨b,ys,rfl,k1,k2⟩:=he; cases rv; obtain ⟨js,vj,pj,_⟩:=I.list k1; exact SeqAt.RcAt.int_list a t0 pj.isList hu'
  | str a=>
    rw [qp] at hd; subst hd; obtain ⟨t0,rfl⟩:=ru
    cases e <;> rw [qp] at he
    case non=>subst he; cases rv; exact SeqAt.RcAt.str_none a t0
    case bl b=>subst he; cases rv; exact SeqAt.RcAt.str_bool a t0 b
    case int b=>subst he; obtain ⟨t,rfl⟩:=rv; exact SeqAt.RcAt.str_int a t0 b t
    case str b=>subst he; obtain ⟨t,rfl⟩:=rv; exact SeqAt.RcAt.str_str a t0 b t
    case tup es=>obtain ⟨b,ys,rfl,k1,k2⟩:=he; cases rv; obtain ⟨js,vj,pj,_⟩:=I.tuple k1; exact SeqAt.RcAt.str_tuple a t0 pj hu'
    case lst es=>obtain ⟨b,ys,rfl,k1,k2⟩:=he; cases rv; obtain ⟨js,vj,pj,_⟩:=I.list k1; exact SeqAt.RcAt.str_list a t0 pj.isList hu'
  | tup ds=>
    rw [depD] at hn
    have hu1:A.in1.units + (n - 1) < cLine:=by rw [units_in1]; omega
    rw [qp] at hd
    obtain ⟨a,xs,rfl,k1,k2⟩:=hd
    cases ru
    obtain ⟨is,vi,pi,_⟩:=I.tuple k1
    cases e with
    | tup es=>
      rw [qp] at he
      obtain ⟨b,ys,rfl,l1,l2⟩:=he
      cases rv
      obtain ⟨js,vj,pj,_⟩:=I.tuple l1
      have q:=SeqAt.RcAt.tuples (A:=A) pi pj hu' (items_eqAt k2 l2 vi vj fun d e x y u v _ hdd=>eqAt_D I (n - 1) d e x y u v A.in1 (by omega) hu1)
      obtain ⟨z1,z2⟩:=same_len k2 l2 vi vj
      rw [← z1,← z2,range_eqDs] at q
      rw [eqD]
      exact q
    | lst es=>rw [qp] at he; obtain ⟨b,ys,rfl,l1,l2⟩:=he; cases rv; obtain ⟨js,vj,pj,_⟩:=I.list l1; exact SeqAt.RcAt.tuple_list pi pj.isList hu'
    | non=>rw [qp] at he; subst he; cases rv; exact SeqAt.RcAt.tuple_none pi hu'
    | bl b=>rw [qp] at he; subst he; cases rv; exact SeqAt.RcAt.tuple_bool b pi hu'
    | int b=>rw [qp] at he; subst he; obtain ⟨t,rfl⟩:=rv; exact SeqAt.RcAt.tuple_int b t pi hu'
    | str b=>rw [qp] at he; subst he; obtain ⟨t,rfl⟩:=rv; exact SeqAt.RcAt.tuple_str b t pi hu'
  | lst ds=>
    rw [depD] at hn
    have hu1:A.in1.units + (n - 1) < cLine:=by rw [units_in1]; omega
    rw [qp] at hd
    obtain ⟨a,xs,rfl,k1,k2⟩:=hd
    cases ru
    obtain ⟨is,vi,pi,_⟩:=I.list k1
    cases e with
    | lst es=>
      rw [qp] at he
      obtain ⟨b,ys,rfl,l1,l2⟩:=he
      cases rv
      obtain ⟨js,vj,pj,_⟩:=I.list l1
      obtain ⟨z1,z2⟩:=same_len k2 l2 vi vj
      rw [eqD]
      by_cases hsz:ds.length = es.length
      · have q:=SeqAt.RcAt.lists (A:=A) pi.isList pj.isList (by omega) hu' (items_eqAt k2 l2 vi vj fun d e x y u v _ hdd=>eqAt_D I (n - 1) d e x y u v A.in1 (by omega) hu1)
        rw [← z1,lists_all hsz] at q
        exact q
      · rw [lists_no hsz]
        exact SeqAt.RcAt.lists_lengths pi.isList pj.isList (by rw [← z1,← z2]; simpa using hsz) hu'
    | tup es=>rw [qp] at he; obtain ⟨b,ys,rfl,l1,l2⟩:=he; cases rv; obtain ⟨js,vj,pj,_⟩:=I.tuple l1; exact SeqAt.RcAt.list_tuple pi.isList pj hu'
    | non=>rw [qp] at he; subst he; cases rv; exact SeqAt.RcAt.list_none pi.isList hu'
    | bl b=>rw [qp] at he; subst he; cases rv; exact SeqAt.RcAt.list_bool b pi.isList hu'
    | int b=>rw [qp] at he; subst he; obtain ⟨t,rfl⟩:=rv; exact SeqAt.RcAt.list_int b t pi.isList hu'
    | str b=>rw [qp] at he; subst he; obtain ⟨t,rfl⟩:=rv; exact SeqAt.RcAt.list_str b t pi.isList hu'
theorem rcNeAt_D (I:Inv X pins σ H s) {n:Nat} {d e:Dt} {x y:V} {u v:Value} {A:Around} (hn:depD d ≤ n) (hu:A.units + n < cLine) (hd:qp X.K H d x) (he:qp X.K H e y) (ru:RelV x u) (rv:RelV y v) : SeqAt.RcNeAt A s u v (!(eqD d e)):=by
  have hu':A.units < cLine:=by omega
  cases d with
  | non=>
    rw [qp] at hd; subst hd; cases ru
    cases e <;> rw [qp] at he
    case non=>subst he; cases rv; exact SeqAt.RcNeAt.none_none
    case bl b=>subst he; cases rv; exact SeqAt.RcNeAt.none_bool b
    case int b=>subst he; obtain ⟨t,rfl⟩:=rv; exact SeqAt.RcNeAt.none_int b t
    case str b=>subst he; obtain ⟨t,rfl⟩:=rv; exact SeqAt.RcNeAt.none_str b t
    case tup es=>obtain ⟨b,ys,rfl,k1,k2⟩:=he; cases rv; obtain ⟨js,vj,pj,_⟩:=I.tuple k1; exact SeqAt.RcNeAt.none_tuple pj hu'
    case lst es=>obtain ⟨b,ys,rfl,k1,k2⟩:=he; cases rv; obtain ⟨js,vj,pj,_⟩:=I.list k1; exact SeqAt.RcNeAt.none_list pj.isList hu'
  | bl a=>
    rw [qp] at hd; subst hd; cases ru
    cases e <;> rw [qp] at he
    case non=>subst he; cases rv; exact SeqAt.RcNeAt.bool_none a
    case bl b=>subst he; cases rv; exact SeqAt.RcNeAt.bool_bool a b
    case int b=>subst he; obtain ⟨t,rfl⟩:=rv; exact SeqAt.RcNeAt.bool_int a b t
    case str b=>subst he; obtain ⟨t,rfl⟩:=rv; exact SeqAt.RcNeAt.bool_str a b t
    case tup es=>obtain ⟨b,ys,rfl,k1,k2⟩:=he; cases rv; obtain ⟨js,vj,pj,_⟩:=I.tuple k1; exact SeqAt.RcNeAt.bool_tuple a pj hu'
    case lst es=>obtain ⟨b,ys,rfl,k1,k2⟩:=he; cases rv; obtain ⟨js,vj,pj,_⟩:=I.list k1; exact SeqAt.RcNeAt.bool_list a pj.isList hu'
  | int a=>
    rw [qp] at hd; subst hd; obtain ⟨t0,rfl⟩:=ru
    cases e <;> rw [qp] at he
    case non=>subst he; cases rv; exact SeqAt.RcNeAt.int_none a t0
    case bl b=>subst he; cases rv; exact SeqAt.RcNeAt.int_bool a t0 b
    case int b=>subst he; obtain ⟨t,rfl⟩:=rv; exact SeqAt.RcNeAt.int_int a t0 b t
    case str b=>subst he; obtain ⟨t,rfl⟩:=rv; exact SeqAt.RcNeAt.int_str a t0 b t
    case tup es=>obtain ⟨b,ys,rfl,k1,k2⟩:=he; cases rv; obtain ⟨js,vj,pj,_⟩:=I.tuple k1; exact SeqAt.RcNeAt.int_tuple a t0 pj hu'
    case lst es=>obtain ⟨b,ys,rfl,k1,k2⟩:=he; cases rv; obtain ⟨js,vj,pj,_⟩:=I.list k1; exact SeqAt.RcNeAt.int_list a t0 pj.isList hu'
  | str a=>
    rw [qp] at hd; subst hd; obtain ⟨t0,rfl⟩:=ru
    cases e <;> rw [qp] at he
    case non=>subst he; cases rv; exact SeqAt.RcNeAt.str_none a t0
    case bl b=>subst he; cases rv; exact SeqAt.RcNeAt.str_bool a t0 b
    case int b=>subst he; obtain ⟨t,rfl⟩:=rv; exact SeqAt.RcNeAt.str_int a t0 b t
    case str b=>subst he; obtain ⟨t,rfl⟩:=rv; exact SeqAt.RcNeAt.str_str a t0 b t
    case tup es=>obtain ⟨b,ys,rfl,k1,k2⟩:=he; cases rv; obtain ⟨js,vj,pj,_⟩:=I.tuple k1; exact SeqAt.RcNeAt.str_tuple a t0 pj hu'
    case lst es=>obtain ⟨b,ys,rfl,k1,k2⟩:=he; cases rv; obtain ⟨js,vj,pj,_⟩:=I.list k1; exact SeqAt.RcNeAt.str_list a t0 pj.isList hu'
  | tup ds=>
    rw [depD] at hn
    have hu1:A.in1.units + (n - 1) < cLine:=by rw [units_in1]; omega
    rw [qp] at hd
    obtain ⟨a,xs,rfl,k1,k2⟩:=hd
    cases ru
    obtain ⟨is,vi,pi,_⟩:=I.tuple k1
    cases e with
    | tup es=>
      rw [qp] at he
      obtain ⟨b,ys,rfl,l1,l2⟩:=he
      cases rv
      obtain ⟨js,vj,pj,_⟩:=I.tuple l1
      have q:=SeqAt.RcNeAt.tuples (A:=A) pi pj hu' (items_eqAt k2 l2 vi vj fun d e x y u v _ hdd=>eqAt_D I (n - 1) d e x y u v A.in1 (by omega) hu1)
      obtain ⟨z1,z2⟩:=same_len k2 l2 vi vj
      rw [← z1,← z2,range_eqDs] at q
      rw [eqD]
      exact q
    | lst es=>rw [qp] at he; obtain ⟨b,ys,rfl,l1,l2⟩:=he; cases rv; obtain ⟨js,vj,pj,_⟩:=I.list l1; exact SeqAt.RcNeAt.tuple_list pi pj.isList hu'
    | non=>rw [qp] at he; subst he; cases rv; exact SeqAt.RcNeAt.tuple_none pi hu'
    | bl b=>rw [qp] at he; subst he; cases rv; exact SeqAt.RcNeAt.tuple_bool b pi hu'
    | int b=>rw [qp] at he; subst he; obtain ⟨t,rfl⟩:=rv; exact SeqAt.RcNeAt.tuple_int b t pi hu'
    | str b=>rw [qp] at he; subst he; obtain ⟨t,rfl⟩:=rv; exact SeqAt.RcNeAt.tuple_str b t pi hu'
  | lst ds=>
    rw [depD] at hn
    have hu1:A.in1.units + (n - 1) < cLine:=by rw [units_in1]; omega
    rw [qp] at hd
    obtain ⟨a,xs,rfl,k1,k2⟩:=hd
    cases ru
    obtain ⟨is,vi,pi,_⟩:=I.list k1
    cases e with
    | lst es=>
      rw [qp] at he
      obtain ⟨b,ys,rfl,l1,l2⟩:=he
      cases rv
      obtain ⟨js,vj,pj,_⟩:=I.list l1
      obtain ⟨z1,z2⟩:=same_len k2 l2 vi vj
      rw [eqD]
      by_cases hsz:ds.length = es.length
      · have q:=SeqAt.RcNeAt.lists (A:=A) pi.isList pj.isList (by omega) hu' (items_eqAt k2 l2 vi vj fun d e x y u v _ hdd=>eqAt_D I (n - 1) d e x y u v A.in1 (by omega) hu1)
        rw [← z1,lists_all hsz] at q
        exact q
      · rw [lists_no hsz]
        exact SeqAt.RcNeAt.lists_lengths pi.isList pj.isList (by rw [← z1,← z2]; simpa using hsz) hu'
    | tup es=>rw [qp] at he; obtain ⟨b,ys,rfl,l1,l2⟩:=he; cases rv; obtain ⟨js,vj,pj,_⟩:=I.tuple l1; exact SeqAt.RcNeAt.list_tuple pi.isList pj hu'
    | non=>rw [qp] at he; subst he; cases rv; exact SeqAt.RcNeAt.list_none pi.isList hu'
    | bl b=>rw [qp] at he; subst he; cases rv; exact SeqAt.RcNeAt.list_bool b pi.isList hu'
    | int b=>rw [qp] at he; subst he; obtain ⟨t,rfl⟩:=rv; exact SeqAt.RcNeAt.list_int b t pi.isList hu'
    | str b=>rw [qp] at he; subst he; obtain ⟨t,rfl⟩:=rv; exact SeqAt.RcNeAt.list_str b t pi.isList hu'
end
def rEqD (K:PySem.W.Frag) : R2:=fun x y H Q=>∃ d e,qp K H d x ∧ qp K H e y ∧ depD d ≤ 60 ∧ Q (.bl (eqD d e)) H
def rNeD (K:PySem.W.Frag) : R2:=fun x y H Q=>∃ d e,qp K H d x ∧ qp K H e y ∧ depD d ≤ 60 ∧ Q (.bl (!eqD d e)) H
section
variable {X:Cx}
theorem op_eqD (hu:X.A.units + 64 < cLine) : OpR X (compareOp .Eq) (rEqD X.K):=by
  intro pins s σ H x y v u Q I rx ry h
  obtain ⟨d,e,hd,he,hn,q⟩:=h
  exact rcAt_D I hn (by omega) hd he rx ry _ _ _ _ ⟨.bl _,H,I,rfl,q⟩
theorem op_neD (hu:X.A.units + 64 < cLine) : OpR X (compareOp .NotEq) (rNeD X.K):=by
  intro pins s σ H x y v u Q I rx ry h
  obtain ⟨d,e,hd,he,hn,q⟩:=h
  exact rcNeAt_D I hn (by omega) hd he rx ry _ _ _ _ ⟨.bl _,H,I,rfl,q⟩
end
theorem hasDs_ints (K:PySem.W.Frag) (H:Hp) : ∀ ns:List Int,HasDs K H (ns.map Dt.int) (ns.map V.int)
  | []=>by rw [List.map_nil,List.map_nil,HasDs]
  | n :: ns=>by
    rw [List.map_cons,List.map_cons,HasDs]
    exact ⟨_,_,rfl,by rw [qp],hasDs_ints K H ns⟩
theorem hasD_listI {K:PySem.W.Frag} {H:Hp} {a:Addr} {ns:List Int} (h:SqL K H a (ns.map V.int)) : qp K H (.lst (ns.map Dt.int)) (.ref a):=by
  rw [qp]
  exact ⟨a,_,rfl,h,hasDs_ints K H ns⟩
theorem hasD_tupI {K:PySem.W.Frag} {H:Hp} {a:Addr} {ns:List Int} (h:SqT K H a (ns.map V.int)) : qp K H (.tup (ns.map Dt.int)) (.ref a):=by
  rw [qp]
  exact ⟨a,_,rfl,h,hasDs_ints K H ns⟩
theorem depDs_ints : ∀ ns:List Int,depDs (ns.map Dt.int) = 0
  | []=>by rw [List.map_nil,depDs]
  | n :: ns=>by
    show max (depD (Dt.int n)) (depDs (ns.map Dt.int)) = 0
    rw [depDs_ints ns]
    rfl
theorem eqDs_ints : ∀ ms ns:List Int,eqDs (ms.map Dt.int) (ns.map Dt.int) = decide (ms = ns)
  | [],[]=>by simp [eqDs]
  | [],n :: ns=>by simp [eqDs]
  | m :: ms,[]=>by simp [eqDs]
  | m :: ms,n :: ns=>by
    rw [List.map_cons,List.map_cons,eqDs,eqDs_ints ms ns,eqD]
    by_cases h:m = n
    · subst h; simp
    · simp [h]
theorem eqD_listI (ms ns:List Int) : eqD (.lst (ms.map Dt.int)) (.lst (ns.map Dt.int)) = decide (ms = ns):=by rw [eqD,eqDs_ints]
theorem eqD_tupI (ms ns:List Int) : eqD (.tup (ms.map Dt.int)) (.tup (ns.map Dt.int)) = decide (ms = ns):=by rw [eqD,eqDs_ints]
theorem dep_listI (ns:List Int) : depD (.lst (ns.map Dt.int)) ≤ 60:=by rw [depD,depDs_ints]; decide
theorem dep_tupI (ns:List Int) : depD (.tup (ns.map Dt.int)) ≤ 60:=by rw [depD,depDs_ints]; decide
end L2
namespace L2
open PySem PySem.Spec PyProof.Rows
section
variable {X:Cx}
def rGetL (K:PySem.W.Frag) : R2:=fun x y H Q=>∃ p xs i v,x = .ref p ∧ y = .int i ∧ SqL K H p xs ∧ 0 ≤ i ∧ xs[i.toNat]? = some v ∧ Q v H
theorem get_list:PGet X (rGetL X.K):=by
  intro pins s σ H o i ov iv Q I ro ri h
  obtain ⟨p,xs,k,z,rfl,rfl,hq,h0,he,q⟩:=h
  cases ro
  obtain ⟨t,rfl⟩:=ri
  obtain ⟨its,r,pl,hz⟩:=I.list hq
  obtain ⟨w,ew,rw'⟩:=r.get he
  have hl:=r.length
  have hn:=line63
  have hk:k.toNat < its.length:=(List.getElem?_eq_some_iff.mp ew).1
  exact wpAny_getItem_list pl.isList h0 (by omega) (by simpa using ew) ⟨z,H,I,rw',q⟩
end
def kb11 {α : Type} : List α → List α → List α
  | [u0],[w0]=>[u0,w0]
  | _,_=>[]
theorem kb_rel11 {vs:List V} {us:List Value} {zs:List V} {ws:List Value} (r1:Vals vs us) (r2:Vals zs ws) : Vals (kb11 vs zs) (kb11 us ws):=by
  cases r1 with
  | nil=>exact .nil
  | cons a ra=>
    cases ra with
    | nil=>
      cases r2 with
      | nil=>exact .nil
      | cons b rb=>
        cases rb with
        | nil=>exact .cons a (.cons b .nil)
        | cons _ _=>exact .nil
    | cons _ _=>exact .nil
theorem bd_kw1 {K:PySem.W.Frag} {fd:FuncData} {p k:Str} {kd:Addr} {v:Value} (e:PySem.W.nsIn K kd k = some (some v)) (hp:fd.params.posonlyargs = []) (ha:fd.params.args.map (·.arg) = [p]) (hv:fd.params.vararg = none) (hk:fd.params.kwonlyargs.map (·.arg) = [k])
    (hkw:fd.params.kwarg = none) (hd:fd.defaults = .none) (hkd:fd.kwdefaults = .ref kd) (hpk:(k == p) = false) : Binds K fd [p,k] [v]:=by
  intro s us KX hl
  obtain ⟨u,rfl⟩ : ∃ u,us = [u]:=by
    match us,hl with
    | [u],_=>exact ⟨u,rfl⟩
    | _ :: _ :: _,hl=>simp at hl
  intro Mo A E Q hq
  have L:=PySem.W.looks_nsIn (M:=Mo) KX e
  unfold bindArgs
  have hz:seqItems? Value.none = pure none:=rfl
  simp only [hp,ha,hv,hk,hkw,hd,hkd,hz,List.map_nil,List.nil_append,List.length_cons,List.length_nil,List.zip_cons_cons,List.zip_nil_right,pure_bind,Option.getD_none,List.forIn_nil]
  simp [List.lookup_cons,hpk]
  refine wpAny_bind (L A _ E s (fun _ _ h=>h) ?_)
  simp [List.lookup_cons,hpk]
  exact wpAny_pure hq
end L2
namespace L2
open PySem PySem.Spec PyProof.Rows
theorem ObjOk.there {P:Program} {w:World} {H:Hp} {h:Heap} {a:Addr} {o:HO} (x:ObjOk P w H h a o) : ∃ ob,h.get? a = some ob:=by
  cases o with
  | lst xs=>obtain ⟨_,_,_,_,e⟩:=x; exact ⟨_,e⟩
  | tup xs=>obtain ⟨_,_,_,p⟩:=x; obtain ⟨o,e,_⟩:=p; exact ⟨_,e⟩
  | dK kvs=>obtain ⟨_,_,_,_,o,_,_,e,_⟩:=x; exact ⟨_,e⟩
  | dT kvs=>obtain ⟨_,_,_,_,o,_,_,e,_⟩:=x; exact ⟨_,e⟩
  | set S n=>obtain ⟨o,_,_,_,e,_⟩:=x; exact ⟨_,e⟩
  | ins C dx fs=>obtain ⟨_,_,_,e,_⟩:=x; exact ⟨_,e⟩
  | own y=>obtain ⟨_,e⟩:=x; exact ⟨_,e⟩
  | xd fs=>obtain ⟨_,⟨_,_,_,e,_⟩,_⟩:=x; exact ⟨_,e⟩
  | rng lo hi=>obtain ⟨_,_,_,e⟩:=x; exact ⟨_,e⟩
  | frz ob u=>obtain ⟨e,_⟩:=x; exact ⟨_,e⟩
  | tbl ps=>exact ⟨_,(show h.get? a = some _ from x)⟩
  | met f y=>exact ⟨_,(show h.get? a = some _ from x)⟩
  | ext φ=>obtain ⟨_,⟨_,e⟩,_⟩:=x; exact ⟨_,e⟩
structure Fly (P:Program) (w:World) (l:List Env) (H H':Hp) (s s':Shared) (ea:Addr) (cls:Value) : Prop where
  os:s'.os = s.os
  bare:AllBare s'.gens
  un:Un (frs l) [] H H' s.heap s'.heap
  hok:HOk P w H' s'.heap
  fly : ∃ (B:Heap) (t:Addr),Heap.FlyingW B l ea cls (.ref t) s'.heap ∧ (∀ b o o',s.heap.get? b = some o → s'.heap.get? b = some o' → b ∉ frs l → B.get? b = some o') ∧ (∀ b u o',H' b = some u → s'.heap.get? b = some o' → B.get? b = some o')
  new:s.heap.get? ea = none
def CX1 (P:Program) (w:World) : CXT:=fun l H s E e s'=>∃ ea cls H',e = .ref ea ∧ Fly P w l H H' s s' ea cls ∧ E cls none H'
section
variable {X:Cx} {pins:List (Addr × Obj)} {σ : St} {H H':Hp} {s s':Shared} {ea:Addr} {cls:Value}
theorem Inv.stkNe (I:Inv X pins σ H s) {b:Addr} {o:Obj} (e:X.s₀.heap.get? b = some o) (hb:b ∉ X.fs) : b ∉ frs X.stack:=fun z=>by
  rcases List.mem_cons.mp (I.stkSub b z) with q | q
  · have h1 : @LT.lt Nat _ b X.s₀.heap.objs.size:=Heap.lt_size e
    have h2 : @LE.le Nat _ X.s₀.heap.objs.size X.env.locals:=I.ok.above
    have h3 : @Eq Nat b X.env.locals:=q
    omega
  · exact hb q
end
section
variable {P:Program} {w:World} {K:PySem.W.Frag} {mg:Str → Option Value} {base:Heap} {N:List Str} {qual:Str} {scope:Scope} {f:Addr} {cd:Value} {A:Around} {outer:List Env} {s:Shared} {H:Hp} {E:XK}
theorem raise1 {pins:List (Addr × Obj)} {σ : St} {H1:Hp} {s1:Shared} {ea:Addr} {cls:Value} {vs:List Value} {h1:Heap} (I:Inv (cxOf (CX1 P w) P w K mg base N qual scope f cd A outer s H E) pins σ H1 s1)
    (hx:Heap.MadeExcOf s1.heap h1 ea cls vs) (q:E cls none H1) : (cxOf (CX1 P w) P w K mg base N qual scope f cd A outer s H E).xe (.ref ea) { s1 with heap:=h1 }:=by
  generalize hX:cxOf (CX1 P w) P w K mg base N qual scope f cd A outer s H E = X at I
  have hstk:X.stack = envOfC qual scope s.heap.objs.size f cd :: outer:=by rw [← hX]; rfl
  have hin : ∀ env ∈ X.stack,∀ b,env.frame = some b → b ∈ frs X.stack:=fun env he b hb=>List.mem_filterMap.mpr ⟨env,he,hb⟩
  have noE : ∀ b:Addr,b ∉ ([] : List Addr):=fun b=>by simp
  have ib:Un (frs outer) [] H H1 s.heap s1.heap:=by
    have:=I.base
    rw [← hX] at this
    exact this
  have hX':=hX
  subst hX'
  show wpAny (model P w) (A.deeper (envOfC qual scope s.heap.objs.size f cd)) (leaving (envOfC qual scope s.heap.objs.size f cd) (.ref ea)) _ _ { s1 with heap:=h1 }
  have hideg : ∀ b o,s1.heap.get? b = some o → b ∉ frs (envOfC qual scope s.heap.objs.size f cd :: outer) → (PySem.W.hideAll s1.heap (frs (envOfC qual scope s.heap.objs.size f cd :: outer))).get? b = some o:=fun b o e hb=>PySem.W.hideAll_get _ e hb
  refine wpAny_leaves_madeW (base:=PySem.W.hideAll s1.heap (frs (envOfC qual scope s.heap.objs.size f cd :: outer))) (h:=s1.heap) I.ok.frames (L:=s.heap.objs.size) rfl (fun b o q=>PySem.W.of_hideAll _ q)
    (PySem.W.funFrames_hide I.stack hin) hx fun h' t x1 x2 x3 x4=>?_
  have stkNe : ∀ b o,s.heap.get? b = some o → b ∉ frs outer → b ∉ frs (envOfC qual scope s.heap.objs.size f cd :: outer):=fun b o e hb=>I.stkNe e hb
  have trk : ∀ b u,H1 b = some u → b ∉ frs (envOfC qual scope s.heap.objs.size f cd :: outer):=fun b u e z=>by
    have:=I.stkFree b z
    rw [e] at this
    cases this
  have up:s1.heap.UpToSlots h':=fun b o e nf=>x4 b o (hx.keeps b o e) nf
  have stay : ∀ b o,s1.heap.get? b = some o → b ∉ frs (envOfC qual scope s.heap.objs.size f cd :: outer) → h'.get? b = some o:=fun b o e hb=>x1.1 _ _ (hideg b o e hb)
  have slots : ∀ b o,s.heap.get? b = some o → H b = none → b ∈ frs outer → ∃ sl,h'.get? b = some { o with slots:=sl }:=fun b o e n hb=>by
    obtain ⟨sl,e1⟩:=ib.slot b o e n hb (noE b)
    obtain ⟨_,o3,e3,nf⟩:=I.ok.funs.mem hb
    have e3':s.heap.get? b = some o3:=e3
    rw [e] at e3'
    cases e3'
    obtain ⟨sl3,e4⟩:=up b _ e1 nf
    exact ⟨sl3,e4⟩
  refine ⟨ea,cls,H1,rfl,⟨I.os,I.bare,⟨fun b o e n hb _=>?_,fun b o e n hb _=>slots b o e n hb,fun b o e n _=>ib.free b o e n (noE b),fun b o e _=>?_,ib.tups,ib.frzs,ib.tbls⟩,fun b u e=>?_,⟨_,t,x1,fun b o o' e e' hb=>?_,fun b u o' q e'=>?_⟩,?_⟩,q⟩
  · exact stay b o (ib.keep b o e n hb (noE b)) (stkNe b o e hb)
  · by_cases hb:b ∈ frs outer
    · obtain ⟨sl,q⟩:=slots b o e (I.ok.frf b hb) hb
      exact ⟨_,q⟩
    · obtain ⟨o1,e1⟩:=ib.there b o e (noE b)
      exact ⟨o1,stay b o1 e1 (stkNe b o e hb)⟩
  · refine (I.hok b u e).stay (fun c v hc q=>?_) (fun _ q=>q) fun _ _ q=>q
    rcases hc with z | z
    · subst z
      exact stay _ _ q (trk _ _ e)
    · exact stay _ _ q (trk _ _ z)
  · obtain ⟨o1,e1⟩:=ib.there b o e (noE b)
    have z:=stay b o1 e1 (stkNe b o e hb)
    have e2:h'.get? b = some o':=e'
    rw [z] at e2
    cases e2
    exact hideg b _ e1 (stkNe b o e hb)
  · obtain ⟨o1,e1⟩:=(I.hok b u q).there
    have z:=stay b o1 e1 (trk _ _ q)
    have e2:h'.get? b = some o':=e'
    rw [z] at e2
    cases e2
    exact hideg b _ e1 (trk _ _ q)
  · cases q:s.heap.get? ea with
    | none=>rfl
    | some o=>
      obtain ⟨o1,e1⟩:=ib.there ea o q (noE ea)
      rw [hx.new] at e1
      cases e1
end
end L2
namespace L2
open PySem PySem.Spec PyProof.Rows
def vErr:List Value:=[.type "ValueError",.type "Exception",.type "BaseException",.type "object"]
def XCls (K:PySem.W.Frag) (C:Addr) : Prop:=PySem.W.excIn K C vErr "ValueError.__new__" = true
theorem exc_obj {K:PySem.W.Frag} {h:Heap} {C:Addr} {bmB:List Value} {newId:String} (X:K.In h) (q:PySem.W.excIn K C bmB newId = true) :
    ∃ bm N nm qn bs hdct sn sub ab col dd k0 k1 k2 k3 k5 mN,h.get? C = some (excClassObj nm qn C N bs bm hdct sn sub ab col dd k0 k1 k2 k3 k5 newId) ∧ h.Ns N mN ∧ mN "__init__" = none ∧ OwnTail h bmB bm:=by
  unfold PySem.W.excIn at q
  split at q
  · rename_i dd cd sl ho
    split at q
    · rename_i C' bm k0 k1 k2 k3 n k5 hm hs
      simp only [Bool.and_eq_true,beq_iff_eq,Bool.not_eq_true'] at q
      obtain ⟨⟨⟨⟨⟨rfl,rfl⟩,hdel⟩,ht⟩,hok⟩,hni⟩:=q
      obtain ⟨nm,bs,mro,ns,qn,hd,sn,sub,ab,col,del⟩:=cd
      dsimp only at hm hdel hok hni
      subst hm hdel
      have hsl:sl = #[k0,k1,k2,k3,some (.builtin n),k5]:=by
        obtain ⟨l⟩:=sl
        simp only at hs
        rw [hs]
      subst hsl
      exact ⟨bm,ns,nm,qn,bs,hd,sn,sub,ab,col,dd,k0,k1,k2,k3,k5,_,X _ _ ho,.of_isNs (PySem.W.isNs_of_in X hok),PySem.W.nsMap_none_of_in X hok hni,PySem.W.tail_of_in X ht⟩
    · cases q
  · cases q
theorem looks_exc {K:PySem.W.Frag} {M:Model} {h:Heap} {ea C Pc:Addr} {oe:Obj} {b:Bool} (X:K.In h) (he:h.get? ea = some oe) (hc:oe.cls = .ref C) (m:PySem.W.kitCls K (.ref C) (.ref Pc) = some b) (hb:PySem.W.mroIn K Pc (.type "BaseException") = some true) :
    PySem.W.Looks M h (excMatches (.ref ea) (.ref Pc)) b:=by
  obtain ⟨L1,L2,L3⟩:=PySem.W.kit_cls (M:=M) X m
  have L4:=PySem.W.looks_mroIn (M:=M) X hb
  have L5:PySem.W.Looks M h (typeOf (.ref ea)) (.ref C):=hc ▸ (PySem.W.Looks.ld he).andThen .now
  have f:=tc_notTuple
  intro A Q E s k q
  unfold excMatches isInstance isExcClass
  simp only [bind_assoc]
  refine wpAny_bind (L1 A _ E s k ?_)
  rw [f]
  simp only [pure_bind,Bool.false_eq_true,if_false,List.forIn_cons,List.forIn_nil,bind_assoc]
  refine wpAny_bind (L2 A _ E s k ?_)
  simp only [if_true]
  refine wpAny_bind (L4 A _ E s k ?_)
  simp only [Bool.not_true,Bool.false_eq_true,if_false,pure_bind]
  refine wpAny_bind (L5 A _ E s k ?_)
  refine wpAny_bind (L3 A _ E s k ?_)
  cases b
  · exact wpAny_pure q
  · exact wpAny_pure q
def tRaise (W:Hp → Prop) (t:TA) : TS:=fun _ σ H=>t σ H fun vs H1=>vs.length ≤ sizeLine ∧ W H1
section
variable {X:Cx}
theorem ps_raise {x:Str} {C:Addr} {e:Expr} {es:List Expr} {t:TA} {np cpos pos:Pos} {W:Hp → Prop} (hc:X.calm = true) (hg:Gl X x) (hm:X.mg x = some (.ref C)) (hC:XCls X.K C) (ha:PA X (e :: es) t)
    (hxe : ∀ {pins:List (Addr × Obj)} {σ : St} {H:Hp} {s:Shared} {ea:Addr} {vs:List Value} {h1:Heap},Inv X pins σ H s → Heap.MadeExcOf s.heap h1 ea (.ref C) vs → W H → X.xe (.ref ea) { s with heap:=h1 })
    (hdb:(x == ("__debug__" : Str)) = false:=by decide) (he:starEach (e :: es) X.env = (false,eval e X.env) :: starEach es X.env:=by rfl) (hpl:(backTo cpos (starEach es X.env)).any (·.1) = false:=by rfl) :
    PS X (.Raise (some (.Call (.Name x np) (e :: es) [] cpos)) none pos) (tRaise W t):=by
  intro pins s σ H D I h
  obtain ⟨bm,N,nm,qn,bs,hdct,sn,sub,ab,col,dd,k0,k1,k2,k3,k5,mN,hC,hN,hni,T⟩:=exc_obj I.mod.kin hC
  have FB:=F.excBase_ValueError
  refine wpAny_Raise_call_subT (C:=C) (nm:=nm) (q:=qn) (N:=N) (bs:=bs) (bm:=bm) (hdct:=hdct) (sn:=sn) (sub:=sub) (ab:=ab) (col:=col) (dd:=dd) (k0:=k0) (k1:=k1) (k2:=k2) (k3:=k3) (k5:=k5)
    FB (mN:=mN) (T.hasType FB.hasBase) (I.ok.hd hc) (by rw [he]; show (false || (backTo cpos (starEach es X.env)).any (·.1)) = false; rw [hpl]; rfl) hni (ld_glob I hg hm ⟨rfl,?_⟩ hdb)
  have hA:=ha cpos pins s σ H _ I h
  rw [he] at hA ⊢
  exact Calls.evalArgs_plain (thn hA fun us s2 ⟨vs,H2,I2,r2,hz,q2⟩=>⟨rfl,by rw [← r2.length]; exact hz,I2.bk _ _ hC,hN.keeps I2.bk,T.keeps I2.bk,fun h' e hm=>hxe I2 hm q2⟩)
end
def tryCx (X:Cx) (pn:List (Addr × Obj)) (W:St → Value → Hp → Prop) : Cx:=
  { X with pn:=pn,xe:=fun e s'=>∃ (pins:List (Addr × Obj)) (σ : St) (H:Hp) (s0:Shared) (ea:Addr) (cls:Value) (H':Hp),e = .ref ea ∧ Inv { X with pn:=pn } pins σ H s0 ∧ Fly X.prog X.w X.stack H H' s0 s' ea cls ∧ W σ cls H' }
def hndCx (X:Cx) (ea:Addr) : Cx:={ X with A:=X.A.mark (some (.ref ea)),calm:=false,xe:=fun _ _=>False }
def tMethT (C:Addr) (m:Str) (sp:Sp) (dvs:List V) (W:St → Value → Hp → Prop) (ta:TE) (t:TA) : TE:=fun σ H Q=>ta σ H fun x H1=>∃ a dx fs,x = .ref a ∧ H1 a = some (.ins C dx fs) ∧ fs.lookup m = none ∧
  t σ H1 fun vs H2=>sp (x :: (vs ++ dvs)) H2 Q fun cls _ H'=>W σ cls H'
def IsExc (ea:Addr) (cls:Value) : HO:=.ext fun h=>∃ o vs,h.get? ea = some o ∧ o.cls = cls ∧ o.data = .fields vs
section
variable {X:Cx} {pins pn:List (Addr × Obj)} {σ : St} {H H':Hp} {s s':Shared}
theorem Inv.recx {X Y:Cx} (I:Inv X pins σ H s) (ok:Y.Ok) (hs:Y.s₀ = X.s₀) (hH:Y.H₀ = X.H₀) (he:Y.env = X.env) (ho:Y.outer = X.outer) (hx:Y.ex = X.ex) (hN:Y.N = X.N) (hp:Y.prog = X.prog) (hw:Y.w = X.w)
    {pins':List (Addr × Obj)} (hpin : ∀ p ∈ Y.pn ++ pins',p ∈ X.pn ++ pins) : Inv Y pins' σ H s:=by
  obtain ⟨prog,w,K,mg,base,A,N,s₀,H₀,env,outer,stack,ex,fn,calm,pnX,xe⟩:=X
  obtain ⟨prog',w',K',mg',base',A',N',s₀',H₀',env',outer',stack',ex',fn',calm',pnY,xe'⟩:=Y
  dsimp only at hs hH he ho hx hN hp hw
  subst hs hH he ho hx hN hp hw
  exact ⟨ok,I.os,I.bare,I.base,I.loc,I.cell,I.free,I.freeC,fun p hp=>I.pin p (hpin p hp),I.hok,I.len⟩
theorem Cx.Ok.recx {X Y:Cx} (ok:X.Ok) (hm:Y.K = X.K ∧ Y.mg = X.mg ∧ Y.base = X.base) (he:Y.env = X.env) (hs:Y.s₀ = X.s₀) (hH:Y.H₀ = X.H₀) (ho:Y.outer = X.outer) (hst:Y.stack = X.stack) (hx:Y.ex = X.ex) (hf:Y.fn = X.fn)
    (hd:Y.calm = true → Y.A.handled = none) (hfr:Y.A.frames = some Y.stack) : Y.Ok:=by
  obtain ⟨prog,w,K,mg,base,A,N,s₀,H₀,env,outer,stack,ex,fn,calm,pnX,xe⟩:=X
  obtain ⟨prog',w',K',mg',base',A',N',s₀',H₀',env',outer',stack',ex',fn',calm',pnY,xe'⟩:=Y
  obtain ⟨hm1,hm2,hm3⟩:=hm
  dsimp only at hm1 hm2 hm3 he hs hH ho hst hx hf
  subst hm1 hm2 hm3 he hs hH ho hst hx hf
  exact ⟨ok.mod,ok.kind,ok.glob,ok.blt,ok.above,ok.inj,ok.has,ok.cab,hd,hfr,ok.stk,ok.exf,ok.bs,ok.bsz,ok.noex,ok.exfs,ok.funs,ok.frf⟩
theorem Inv.toTry {W:St → Value → Hp → Prop} (I:Inv X pins σ H s) (h : ∀ p ∈ pn,p ∈ X.pn ++ pins) : Inv (tryCx X pn W) pins σ H s:=
  I.recx (Y:=tryCx X pn W) (I.ok.recx (Y:=tryCx X pn W) ⟨rfl,rfl,rfl⟩ rfl rfl rfl rfl rfl rfl rfl I.ok.hd I.ok.frames) rfl rfl rfl rfl rfl rfl rfl rfl fun p hp=>(List.mem_append.mp hp).elim (h p) fun z=>List.mem_append_right _ z
theorem Inv.ofTry {W:St → Value → Hp → Prop} (I:Inv (tryCx X pn W) pins σ H s) : Inv { X with pn:=pn } pins σ H s:=
  I.recx (Y:={ X with pn:=pn }) (I.ok.recx (Y:={ X with pn:=pn }) ⟨rfl,rfl,rfl⟩ rfl rfl rfl rfl rfl rfl rfl I.ok.hd I.ok.frames) rfl rfl rfl rfl rfl rfl rfl rfl fun _ hp=>hp
theorem Inv.backPn {pins':List (Addr × Obj)} (I:Inv { X with pn:=pn } pins' σ H s) (h : ∀ p ∈ X.pn ++ pins,p ∈ pn) : Inv X pins σ H s:=
  I.recx (Y:=X) (I.ok.recx (Y:=X) ⟨rfl,rfl,rfl⟩ rfl rfl rfl rfl rfl rfl rfl I.ok.hd I.ok.frames) rfl rfl rfl rfl rfl rfl rfl rfl fun p hp=>List.mem_append_left _ (h p hp)
theorem Inv.toHnd {ea:Addr} (I:Inv X pins σ H s) : Inv (hndCx X ea) pins σ H s:=
  I.recx (Y:=hndCx X ea) (I.ok.recx (Y:=hndCx X ea) ⟨rfl,rfl,rfl⟩ rfl rfl rfl rfl rfl rfl rfl (fun z=>by have z':false = true:=z; cases z') I.ok.frames) rfl rfl rfl rfl rfl rfl rfl rfl fun _ hp=>hp
theorem Inv.ofHnd {ea:Addr} (ok:X.Ok) (I:Inv (hndCx X ea) pins σ H s) : Inv X pins σ H s:=I.recx (Y:=X) ok rfl rfl rfl rfl rfl rfl rfl rfl fun _ hp=>hp
theorem run_fnT {CX:CXT} {k:Nat} {f:Addr} {fd:FuncData} {ps:List Str} {sp:Sp} {dvs:List V} {ds:List Value} {E:XK} {Q:VK} {us:List Value} {vs:List V} (F:FnOk X.prog X.w X.K X.mg X.base CX k f fd ps sp) (hr:Room k X.A) (hb:Binds X.K fd ps ds) (hd:Vals dvs ds)
    (I:Inv X pins σ H s) (hx : ∀ e s',CX X.stack H s E e s' → X.xe e s') (r:Vals vs us) (h:sp (vs ++ dvs) H Q E) : wpAny (model X.prog X.w) X.A (call (.ref f) us) (EP X pins σ Q) X.xe s:=by
  have r2:Vals (vs ++ dvs) (us ++ ds):=r.append hd
  have hl:(us ++ ds).length = ps.length:=by rw [← r2.length]; exact F.len _ _ _ _ h
  refine wpAny_call (codeAny_mono (F.run X.A X.stack s H ⟨us,[]⟩ (us ++ ds) (vs ++ dvs) Q E hr I.env0 (hb s us I.kIn hl) r2 h) fun r s' hq=>?_)
  cases r with
  | error e=>exact hx e s' hq
  | ok fl=>
    cases fl with
    | ret u=>exact I.after hq
    | next=>exact False.elim hq
    | brk=>exact False.elim hq
    | cont=>exact False.elim hq
theorem try_xe {W:St → Value → Hp → Prop} (I:Inv (tryCx X pn W) pins σ H s) (e:Value) (s':Shared) (h:CX1 X.prog X.w X.stack H s (fun cls _ H'=>W σ cls H') e s') : (tryCx X pn W).xe e s':=by
  obtain ⟨ea,cls,H',rfl,F,q⟩:=h
  exact ⟨pins,σ,H,s,ea,cls,H',rfl,I.ofTry,F,q⟩
theorem pe_methT {W:St → Value → Hp → Prop} {k:Nat} {f C:Addr} {fd:FuncData} {ps:List Str} {sp:Sp} {dvs:List V} {ds:List Value} {m:Str} {apos pos:Pos} {o e:Expr} {es:List Expr} {ta:TE} {t:TA} {pl:Sem Bool}
    (he:PE (tryCx X pn W) o ta) (c:Cls X.K C) (hm:Meth X.K C m f) (F:FnOk X.prog X.w X.K X.mg X.base (CX1 X.prog X.w) k f fd ps sp) (hr:Room k X.A) (hb:Binds X.K fd ps ds) (hd:Vals dvs ds) (ha:PA (tryCx X pn W) (e :: es) t)
    (hst:starEach (e :: es) X.env = (false,eval e X.env) :: starEach es X.env:=by rfl) (hpl:(backTo pos (starEach es X.env)).any (·.1) = false:=by rfl)
    (ht:eval (.Call (.Attribute o m apos) (e :: es) [] pos) X.env = (do
      let ov ← eval o X.env
      standAt apos.atName
      let (f,first) ← holding [ov] (getMethod ov m pl)
      callWith pos f first (backTo pos (starEach (e :: es) X.env)) (backToKw pos (keywordEach [] X.env))):=by rfl) :
    PE (tryCx X pn W) (.Call (.Attribute o m apos) (e :: es) [] pos) (tMethT C m sp dvs W ta t):=by
  intro pins s σ H Q I h
  refine PySem.W.methodCall_KW (pl:=pl) (thn (he pins s σ H _ I h) fun u s1 ⟨x,H1,I1,rx,a,dx,fs,ex,ea,l,q⟩=>?_) ht
  subst ex
  obtain rfl:u = Value.ref a:=rx
  refine getmeth_ok I1 ea c hm l ?_
  refine PySem.W.callWith_K (first:=[.ref a]) (h₀:=X.base) I.ok.mod.kin hm.kp (thn (ha pos pins s1 σ H1 _ I1 q) fun us s2 ⟨vs,H2,I2,r,q2⟩=>⟨I2.kIn,?_⟩) hst hpl
  exact run_fnT (us:=.ref a :: us) (vs:=.ref a :: vs) F hr hb hd I2 (try_xe I2) (.cons rfl r) q2
theorem fly_here {ea:Addr} {cls:Value} (I:Inv X pins σ H s) (F:Fly X.prog X.w X.stack H H' s s' ea cls) {h':Heap} {B:Heap} {t:Addr} (hf:Heap.FlyingW B X.stack ea cls (.ref t) h') (hu:s'.heap.UpToSlots h')
    (k1 : ∀ b o o',s.heap.get? b = some o → s'.heap.get? b = some o' → b ∉ frs X.stack → B.get? b = some o') (k2 : ∀ b u o',H' b = some u → s'.heap.get? b = some o' → B.get? b = some o') :
    Inv X pins σ H' { s' with heap:=h' }:=by
  have noE : ∀ b:Addr,b ∉ ([] : List Addr):=fun b=>by simp
  have slots : ∀ b o,s.heap.get? b = some o → H b = none → b ∈ frs X.stack → ∃ sl,h'.get? b = some { o with slots:=sl }:=fun b o e n hb=>by
    obtain ⟨sl2,e2⟩:=F.un.slot b _ e n hb (noE b)
    obtain ⟨_,o3,e3,nf⟩:=I.stack.mem hb
    rw [e] at e3
    cases e3
    obtain ⟨sl3,e4⟩:=hu b _ e2 nf
    exact ⟨sl3,e4⟩
  refine I.call' (ch:=[]) F.os ⟨fun b o e n hb _=>?_,fun b o e n hb _=>slots b o e n hb,fun b o e n _=>F.un.free b o e n (noE b),fun b o e _=>?_,F.un.tups,F.un.frzs,F.un.tbls⟩ (fun b u e=>?_) F.bare fun b z=>absurd z (noE b)
  · have e2:=F.un.keep b o e n hb (noE b)
    exact hf.1 _ _ (k1 b o o e e2 hb)
  · by_cases hb:b ∈ frs X.stack
    · obtain ⟨sl,q⟩:=slots b o e (I.stkFree b hb) hb
      exact ⟨_,q⟩
    · obtain ⟨o2,e2⟩:=F.un.there b o e (noE b)
      exact ⟨o2,hf.1 _ _ (k1 b o o2 e e2 hb)⟩
  · refine (F.hok b u e).stay (fun c v hc q=>?_) (fun _ q=>q) fun _ _ q=>q
    rcases hc with z | z
    · subst z
      exact hf.1 _ _ (k2 _ _ _ e q)
    · exact hf.1 _ _ (k2 _ _ _ z q)
theorem Inv.track {a:Addr} {o:HO} (I:Inv X pins σ H s) (hex:X.ex = []) (hn:H a = none) (h0:X.s₀.heap.get? a = none) (hL:a ≠ X.env.locals) (hc : ∀ x c,X.env.cells.lookup x = some c → c ≠ a) (hp : ∀ p ∈ X.pn ++ pins,p.1 ≠ a)
    (new:ObjOk X.prog X.w (upd H a o) s.heap a o) : Inv X pins σ (upd H a o) s:=by
  have ne0 : ∀ b ob,X.s₀.heap.get? b = some ob → b ≠ a:=fun b ob e z=>by rw [z,h0] at e; cases e
  refine ⟨I.ok,I.os,I.bare,⟨I.base.keep,I.base.slot,fun b ob e n hx=>?_,I.base.there,fun b xs q=>?_,fun b ob u q=>?_,fun b ps q=>?_⟩,I.loc,I.cell,?_,fun x c e=>?_,fun p hpp=>?_,fun b u e=>?_,I.len⟩
  · rw [je (ne0 b ob e)]; exact I.base.free b ob e n hx
  · rw [je (jh (I.base.tups b xs q) hn)]; exact I.base.tups b xs q
  · rw [je (jh (I.base.frzs b ob u q) hn)]; exact I.base.frzs b ob u q
  · obtain ⟨more,z⟩:=I.base.tbls b ps q
    exact ⟨more,by rw [je (jh z hn)]; exact z⟩
  · rw [je (Ne.symm hL)]; exact I.free
  · rw [je (hc x c e)]; exact I.freeC x c e
  · obtain ⟨q1,q2,q3⟩:=I.pin p hpp
    exact ⟨q1,by rw [je (hp p hpp)]; exact q2,q3⟩
  · by_cases hb:b = a
    · subst hb
      rw [ja] at e
      cases e
      exact new
    · rw [je hb] at e
      exact (I.hok b u e).stay (fun _ _ _ q=>q) (fun c q=>by rw [je (jh q hn)]; exact q) fun c xs q=>by rw [je (jh q hn)]; exact q
theorem Inv.unset {i:Nat} {n:Str} (I:Inv X pins σ H s) (hN:X.N.Nodup) (hi:X.N[i]? = some n) {m:Str → Option Value} (hm:s.heap.Ns X.env.locals m)
    (hl : ∀ (i:Nat) (x:Str) (v:V),X.N[i]? = some x → σ[i]? = some (some v) → Vis X.env.scope x → ∃ u,RelV v u ∧ Look X.env s.heap m x u) {h':Heap} {u:Option Value} (hn':h'.Ns X.env.locals (fun x=>if x = n then u else m x))
    (hs:Heap.SameBut X.env.locals s.heap h') : Inv X pins (σ.set i none) H { s with heap:=h' }:=by
  obtain ⟨oL,_,_,hoL,_⟩:=id hm
  have hiσ : i < σ.length:=by rw [I.len]; exact (List.getElem?_eq_some_iff.mp hi).1
  have cne:=I.cne
  refine ⟨I.ok,I.os,I.bare,⟨fun b o e n hb hx=>?_,fun b o e n hb hx=>?_,I.base.free,fun b o e hx=>?_,I.base.tups,I.base.frzs,I.base.tbls⟩,⟨_,hn',fun j y v' e1 e2 e3=>?_⟩,fun y c e=>?_,I.free,I.freeC,fun p hp=>?_,fun b ob e=>?_,by simpa using I.len⟩
  · exact (hs.2 b (Nat.ne_of_lt (Nat.lt_of_lt_of_le (Heap.lt_size e) I.ok.above))).trans (I.base.keep b o e n hb hx)
  · obtain ⟨sl,e1⟩:=I.base.slot b o e n hb hx
    exact ⟨sl,(hs.2 b (Nat.ne_of_lt (Nat.lt_of_lt_of_le (Heap.lt_size e) I.ok.above))).trans e1⟩
  · obtain ⟨o',e1⟩:=I.base.there b o e hx
    exact ⟨o',(hs.2 b (Nat.ne_of_lt (Nat.lt_of_lt_of_le (Heap.lt_size e) I.ok.above))).trans e1⟩
  · by_cases hj:j = i
    · subst hj
      rw [List.getElem?_set_self hiσ] at e2
      cases e2
    · rw [List.getElem?_set_ne (Ne.symm hj)] at e2
      obtain ⟨u',r',q⟩:=hl j y v' e1 e2 e3
      refine ⟨u',r',?_⟩
      rcases q with ⟨k,e⟩ | ⟨k,c,e,z⟩
      · refine .inl ⟨k,?_⟩
        have:y ≠ n:=fun e=>hj (nodup_ix hN e1 (e ▸ hi))
        simp [this,e]
      · exact .inr ⟨k,c,e,z.sameBut hs (cne y c e)⟩
  · obtain ⟨w',z⟩:=I.cell y c e
    exact ⟨w',z.sameBut hs (cne y c e)⟩
  · obtain ⟨e,n,ne,nf,d⟩:=I.pin p hp
    exact ⟨(hs.2 p.1 ne).trans e,n,ne,nf,d⟩
  · refine (I.hok b ob e).stay (fun c w' hc q=>(hs.2 c ?_).trans q) (fun _ q=>q) fun _ _ q=>q
    have fr:=I.free
    rintro rfl
    rcases hc with rfl | hc
    · rw [fr] at e; cases e
    · rw [fr] at hc; cases hc
end
end L2
namespace L2
open PySem PySem.Spec PyProof.Rows
def tTry (K:PySem.W.Frag) (Pc:Addr) (i:Nat) (tb:(St → Value → Hp → Prop) → TS) (ts:TS) : TS:=fun D σ H=>∃ W:St → Value → Hp → Prop,tb W D σ H ∧
  ∀ σ' cls H' ea,W σ' cls H' → H' ea = none → (∃ C,cls = .ref C ∧ PySem.W.kitCls K (.ref C) (.ref Pc) = some true) ∧
    ts { nx:=fun σ2 H2=>D.nx (σ2.set i none) H2,rt:=D.rt,bk:=fun σ2 H2=>D.bk (σ2.set i none) H2,ct:=fun σ2 H2=>D.ct (σ2.set i none) H2 } (σ'.set i (some (.ref ea))) (upd H' ea (IsExc ea cls))
section
variable {X:Cx}
theorem ps_try {body:List Stmt} {x n:Str} {i:Nat} {np hpos pos:Pos} {b₀:Stmt} {suite:List Stmt} {Pc:Addr} {tb:(St → Value → Hp → Prop) → TS} {ts:TS}
    (hstk:X.stack = X.env :: X.outer) (hfr:X.env.frame = some X.env.locals) (hex:X.ex = []) (hg:Gl X x) (hm:X.mg x = some (.ref Pc)) (hB:PySem.W.mroIn X.K Pc (.type "BaseException") = some true)
    (hN:X.N.Nodup) (hi:X.N[i]? = some n) (hn:X.env.scope.names.lookup n = some .local)
    (hb : ∀ pn W,PSs (tryCx X pn W) body (tb W)) (hs : ∀ ea,PSs (hndCx X ea) (b₀ :: suite) ts) (hdb:(x == ("__debug__" : Str)) = false:=by decide) :
    PS X (.Try body [.ExceptHandler (some (.Name x np)) (some n) (b₀ :: suite) hpos] [] [] pos) (tTry X.K Pc i tb ts):=by
  intro pins s σ H D I h
  obtain ⟨W,h1,h2⟩:=h
  have noE : ∀ b:Addr,b ∉ ([] : List Addr):=fun b=>by simp
  refine wpAny_Try_except ?_
  have back : ∀ {pins':List (Addr × Obj)} {σ':St} {H':Hp} {s':Shared},Inv (tryCx X (X.pn ++ pins) W) pins' σ' H' s' → Inv X pins σ' H' s':=fun J=>J.ofTry.backPn fun _ hp=>hp
  refine wpAny_mono (hb (X.pn ++ pins) W pins s σ H D (I.toTry fun _ hp=>hp) h1) (fun f s1 q=>?_) (fun e s1 q=>?_)
  · cases f with
    | next=>
      obtain ⟨σ1,H1,I1,q⟩:=q
      exact wpAny_execs_nil ⟨σ1,H1,back I1,q⟩
    | brk=>obtain ⟨σ1,H1,I1,q⟩:=q; exact ⟨σ1,H1,back I1,q⟩
    | cont=>obtain ⟨σ1,H1,I1,q⟩:=q; exact ⟨σ1,H1,back I1,q⟩
    | ret u=>obtain ⟨v,σ1,H1,I1,r,q⟩:=q; exact ⟨v,σ1,H1,back I1,r,q⟩
  · obtain ⟨pins',σ',H1,s0,ea,cls,H',rfl,I0,F,w⟩:=q
    have IX:Inv X pins σ' H1 s0:=I0.backPn fun _ hp=>hp
    obtain ⟨B,t,hf,k1,k2⟩:=F.fly
    have hea:H' ea = none:=by
      cases q:H' ea with
      | none=>rfl
      | some u=>
        obtain ⟨o,e⟩:=(F.hok ea u q).there
        have z:=k2 ea u o q e
        rw [hf.2.1] at z
        cases z
    obtain ⟨⟨C,rfl,hsub⟩,hts⟩:=h2 σ' cls H' ea w hea
    have frames:X.A.frames = some (X.env :: X.outer):=by rw [IX.ok.frames,hstk]
    have hf':Heap.FlyingW B (X.env :: X.outer) ea (.ref C) (.ref t) s1.heap:=by rw [← hstk]; exact hf
    refine wpAny_looks_onW frames hfr hf' fun h₄ hheld₄ hsm₄=>?_
    refine wpAny_landsW hheld₄ fun h₅ hfl₅ hsm₅=>?_
    have hfl5:Heap.FlyingW B X.stack ea (.ref C) (.ref t) h₅:=by rw [hstk]; exact hfl₅
    have I5:Inv X pins σ' H' { s1 with heap:=h₅ }:=fly_here IX F hfl5 (hsm₄.trans hsm₅) k1 k2
    obtain ⟨oe,ve,hoe,hoec,hoed,_⟩:=hfl5.first
    refine wpAny_handleBy_cons (codeAny_handlers_test (Calls.Name_function_global I5.ok.kind hg (Calls.loadGlobal_global (by rw [I5.ok.glob]; exact I5.mod.glob.keeps I5.bk) hm ?_) hdb)) (by intro q; cases q)
    refine looks_exc (K:=X.K) (h:=h₅) I5.kIn hoe hoec hsub hB _ _ _ _ (fun _ _ q=>q) ?_
    show codeAny _ _ _ _ _
    refine codeAny_handlers_suite_as ?_
    refine lands_againW hfl5 fun h₆ hfl₆ hsm₆=>?_
    have I6:Inv X pins σ' H' { s1 with heap:=h₆ }:=fly_here IX F hfl₆ ((hsm₄.trans hsm₅).trans hsm₆) k1 k2
    obtain ⟨oe6,ve6,hoe6,hoec6,hoed6,_⟩:=hfl₆.first
    have new0:X.s₀.heap.get? ea = none:=by
      cases q:X.s₀.heap.get? ea with
      | none=>rfl
      | some o=>
        have base:=IX.base
        rw [hex] at base
        obtain ⟨o1,e1⟩:=base.there ea o q (noE ea)
        rw [F.new] at e1
        cases e1
    have ne0 : ∀ b o,s0.heap.get? b = some o → b ≠ ea:=fun b o e z=>by rw [z,F.new] at e; cases e
    have I7:Inv X pins σ' (upd H' ea (IsExc ea (.ref C))) { s1 with heap:=h₆ }:=by
      refine I6.track hex hea new0 ?_ (fun y c e=>?_) (fun p hp=>?_) ⟨⟨oe6,ve6,hoe6,hoec6,hoed6⟩,⟨oe6,hoe6⟩,fun h1 h2 p k=>?_⟩
      · obtain ⟨m,⟨o,_,_,ho,_⟩,_⟩:=IX.loc
        exact (ne0 _ _ ho).symm
      · obtain ⟨v,o,ho,_⟩:=IX.cell y c e
        exact ne0 _ _ ho
      · exact ne0 _ _ (IX.pin p hp).1
      · obtain ⟨o,vs,e1,e2,e3⟩:=p
        exact ⟨o,vs,k o e1,e2,e3⟩
    refine store_ok (v:=.ref ea) I7 hN hi (.inl hn) rfl (fun s8 I8=>?_) (.inr hn)
    refine wpAny_mono (hs ea pins s8 _ _ _ I8.toHnd hts) (fun f s9 q=>?_) (fun _ _ z=>z.elim)
    have behind : ∀ {σ9:St} {H9:Hp} {Z:St → Prop},Inv X pins σ9 H9 s9 → (∀ s10,Inv X pins (σ9.set i none) H9 s10 → SP X pins D f s10) →
        wpAny (model X.prog X.w) X.A (do bindName X.env n .none; unbindBehindTheSuite X.env n hpos) (fun _ s₃=>SP X pins D f s₃) X.xe s9:=fun {σ9 H9 Z} J k=>by
      refine wpAny_bind (wpAny_bindName (store_ok (v:=.non) J hN hi (.inl hn) rfl (fun s10 I10=>?_) (.inr hn)))
      obtain ⟨m,hm10,hl10⟩:=id I10.loc
      have hiσ : i < σ9.length:=by rw [J.len]; exact (List.getElem?_eq_some_iff.mp hi).1
      obtain ⟨u,ru,lk⟩:=hl10 i n .non hi (by rw [List.getElem?_set_self hiσ]) (.inl hn)
      have hmn:m n = some u:=by
        rcases lk with ⟨_,q⟩ | ⟨q,_⟩
        · exact q
        · rcases q with q | q
          · have q':X.env.scope.names.lookup n = some .cell:=q
            rw [hn] at q'
            cases q'
          · have q':X.env.scope.names.lookup n = some .free:=q
            rw [hn] at q'
            cases q'
      unfold unbindBehindTheSuite
      refine wpAny_onRaise (wpAny_unbindName_local (env:=X.env) hn hm10 hmn (by rw [J.ok.kind]; rfl) fun h' u' hn' hs'=>?_)
      have I11:=I10.unset hN hi hm10 hl10 hn' hs'
      rw [List.set_set] at I11
      exact k _ I11
    show wpAny _ _ _ _ _ _
    cases f with
    | next=>
      obtain ⟨σ9,H9,I9,q⟩:=q
      exact behind (Z:=fun _=>True) (I9.ofHnd I8.ok) fun s10 I10=>⟨_,_,I10,q⟩
    | brk=>
      obtain ⟨σ9,H9,I9,q⟩:=q
      exact behind (Z:=fun _=>True) (I9.ofHnd I8.ok) fun s10 I10=>⟨_,_,I10,q⟩
    | cont=>
      obtain ⟨σ9,H9,I9,q⟩:=q
      exact behind (Z:=fun _=>True) (I9.ofHnd I8.ok) fun s10 I10=>⟨_,_,I10,q⟩
    | ret u=>
      obtain ⟨v,σ9,H9,I9,r,q⟩:=q
      exact behind (Z:=fun _=>True) (I9.ofHnd I8.ok) fun s10 I10=>⟨v,_,_,I10,r,q⟩
end
end L2
namespace L2
open PySem PySem.Spec PyProof.Rows
structure XIs (K:PySem.W.Frag) (C:Addr) : Prop where
  ga:PySem.W.findIn K (.ref C) "__getattribute__" = some (some (.builtin "BaseException.__getattribute__"))
  gn:PySem.W.findIn K (.ref C) "__getattr__" = some none
  cl:PySem.W.findIn K (.ref C) "__class__" = some (some (.builtin "object.__class__"))
  be:PySem.W.mroIn K C (.type "BaseException") = some true
  ob:PySem.W.mroIn K C (.type "object") = some true
  is:(PySem.W.clsIn K C).isSome = true
section
variable {prog:Program} {w:World} {A:Around} {E:Value → Shared → Prop} {K:PySem.W.Frag} {h:Heap} {g:Array GenState} {d:Drawn} {t:Nat} {os:OsState} {a C:Addr} {o:Obj}
theorem xc_type {M:Model} (hx:h.get? a = some o) (hc:o.cls = .ref C) : PySem.W.Looks M h (typeOf (.ref a)) (.ref C):=hc ▸ (PySem.W.Looks.ld hx).andThen .now
theorem xc_get {R:Result → Shared → Prop} {tp:Value} (X:K.In h) (I:XIs K C) (hx:h.get? a = some o) (hc:o.cls = .ref C) (hq:R (.ok (.ret (.ref C))) ⟨h,g,d,t,os⟩) :
    codeAny (model prog w) A (.call (.builtin "getset_descriptor.__get__") ⟨[.builtin "object.__class__",.ref a,tp],[]⟩) R ⟨h,g,d,t,os⟩:=by
  have L1:=PySem.W.looks_mroIn (M:=model prog w) X I.ob
  have hT5:(⟨h,g,d,t,os⟩ : Shared).TypeIs (.builtin "object.__class__") "getset_descriptor" := F.typeOf_object_class
  refine codeAny_call_builtin F.slot_gs_get.plain F.entry_gs_get (F.slot_gs_get.check _ _ _ _ _ _ _ _ hT5 (F.args_gs_get _ _ _) ?_)
  have ow:=F.owner_object_class
  repeat (any_goals (first | assumption | (with_reducible refine wpAny_loadPart_at hx ?_; rw [hc]) | (rw [ow]; with_reducible refine L1.at ?_) | (with_reducible refine L1.at ?_) | wp_step))
  refine ⟨Code.quiet_builtin _ (by decide +kernel),codeAny_builtin F.entry_object_class ?_⟩
  repeat (any_goals (first | assumption | (with_reducible refine wpAny_loadPart_at hx ?_; rw [hc]) | wp_step))
theorem xc_entry {tk:Tok} {Q:Fin → Shared → Prop} (X:K.In h) (I:XIs K C) (hx:h.get? a = some o) (hc:o.cls = .ref C) (hq:Q (.done (.ret (.ref C))) ⟨h,g,d,t,os⟩) :
    wpAny (model prog w) A (Builtin.«object.__getattribute__» ⟨[.ref a,.str "__class__" tk],[]⟩) Q E ⟨h,g,d,t,os⟩:=by
  have hT5:(⟨h,g,d,t,os⟩ : Shared).TypeIs (.builtin "object.__class__") "getset_descriptor" := F.typeOf_object_class
  have f5:=F.typeOf_object_class
  have f6:=F.slot_gs_get.lookup
  have f7:=F.slot_gs_set.lookup
  have L1:=PySem.W.looks_findIn (M:=model prog w) X I.cl
  repeat (any_goals (first | assumption | (with_reducible refine wpAny_loadPart_at hx ?_; rw [hc]) | (with_reducible refine L1.at ?_) | wp_step))
  refine xc_get X I hx hc ?_
  repeat (any_goals (first | assumption | wp_step))
theorem xc_check {M:Model} {nameV:Value} {Q:Unit → Shared → Prop} (X:K.In h) (I:XIs K C) (hx:h.get? a = some o) (hc:o.cls = .ref C) (hq:Q () ⟨h,g,d,t,os⟩) : wpAny M A (checkBuiltinCall "BaseException.__getattribute__" ⟨[.ref a,nameV],[]⟩) Q E ⟨h,g,d,t,os⟩:=by
  have hk:builtinKind "BaseException.__getattribute__" = some .slot:=by decide +kernel
  have hsplit:splitId "BaseException.__getattribute__" = some ("BaseException","__getattribute__"):=by decide +kernel
  have L1:=PySem.W.looks_mroIn (M:=M) X I.be
  have ha:=F.args_bexc_ga (.ref a) nameV
  simp only [checkBuiltinCall,hk,hsplit]
  refine wpAny_bind ?_
  · unfold isInstance
    repeat (first | (with_reducible refine wpAny_loadPart_at hx ?_; rw [hc]) | (with_reducible refine L1.at ?_) | wp_step)
    exact hq
theorem xc_call {tk:Tok} {R:Result → Shared → Prop} (X:K.In h) (I:XIs K C) (hx:h.get? a = some o) (hc:o.cls = .ref C) (hq:R (.ok (.ret (.ref C))) ⟨h,g,d,t,os⟩) :
    codeAny (model prog w) A (.call (.builtin "BaseException.__getattribute__") ⟨[.ref a,.str "__class__" tk],[]⟩) R ⟨h,g,d,t,os⟩:=
  codeAny_call_builtin F.attr_ValueError.ga.plain F.entry_bexc_ga (xc_check X I hx hc (xc_entry X I hx hc hq))
theorem xc_by {tk:Tok} {Q:Value → Shared → Prop} (X:K.In h) (I:XIs K C) (hx:h.get? a = some o) (hc:o.cls = .ref C) (hq:Q (.ref C) ⟨h,g,d,t,os⟩) :
    wpAny (model prog w) A (getAttrBy (.ref a) (.str "__class__" tk) false) Q E ⟨h,g,d,t,os⟩:=by
  have f3:=F.attr_ValueError.ga.bind (.ref a)
  have L1:=PySem.W.looks_findIn (M:=model prog w) X I.ga
  have L2:=PySem.W.looks_findIn (M:=model prog w) X I.gn
  have hx2:(Value.builtin "BaseException.__getattribute__" == Value.builtin "object.__getattribute__") = false:=by decide +kernel
  have hx1:(onTheHeap (Value.ref C) && Value.builtin "BaseException.__getattribute__" == Value.builtin "object.__getattribute__") = false:=by rw [hx2]; rfl
  repeat (any_goals (first | assumption | (with_reducible refine wpAny_loadPart_at hx ?_; rw [hc]) | (with_reducible refine L1.at ?_) | (with_reducible refine L2.at ?_) | wp_step))
  refine xc_call X I hx hc ?_
  repeat (any_goals (first | assumption | wp_step))
theorem xc_attr {Q:Option Value → Shared → Prop} (X:K.In h) (I:XIs K C) (hx:h.get? a = some o) (hc:o.cls = .ref C) (hq:Q (some (.ref C)) ⟨h,g,d,t + 1,os⟩) : wpAny (model prog w) A (getAttr? (.ref a) "__class__") Q E ⟨h,g,d,t,os⟩:=by
  unfold getAttr? getAttrBy?
  repeat (any_goals (first | assumption | with_reducible apply xc_by X I hx hc | wp_step))
end
theorem kitx_exc {K:PySem.W.Frag} {ea C:Addr} (I:XIs K C) : PySem.W.KitX K (.ref ea) (.ref C) (fun h=>∃ o vs,h.get? ea = some o ∧ o.cls = .ref C ∧ o.data = .fields vs) where
  ty:=fun _ _ _ ⟨o,_,h1,h2,_⟩=>xc_type h1 h2
  it:=fun _ _ X _=>by
    have hcD:=I.is
    unfold PySem.W.clsIn at hcD
    split at hcD
    · rename_i c' d' cd' sl' ho
      intro A' Q' E' s' k q
      unfold isType loadHead
      exact wpAny_bind (wpAny_loadPart (k _ _ (X _ _ ho)) (wpAny_pure q))
    · cases hcD
  ne:=fun h tp dd its n sl X htp=>by
    refine Bool.eq_false_iff.mpr fun q=>?_
    have e:C = tp:=Value.ref.inj (beq_iff_eq.mp q)
    subst e
    have hcD:=I.is
    unfold PySem.W.clsIn at hcD
    split at hcD
    · rename_i c' d' cd' sl' ho
      have z:=(X _ _ ho).symm.trans htp
      cases z
    · cases hcD
  ca:=fun {_ _ _ _ _ s} X ⟨o,_,h1,h2,_⟩ k=>by
    obtain ⟨hh,g,d,t,os⟩:=s
    exact xc_attr X I h1 h2 k
section
variable {X:Cx}
theorem zx:CallR X (.builtin "isinstance") (fun xs H Q=>∃ ea C y c b,xs = [.ref ea,y] ∧ H ea = some (IsExc ea (.ref C)) ∧ XIs X.K C ∧ RelV y c ∧ PySem.W.kitOne X.K (.ref C) c = some b ∧ Q (.bl b) H):=by
  intro pins s σ H xs us Q I r h
  obtain ⟨ea,C,y,c,b,rfl,hH,hX,ry,hk,q⟩:=h
  obtain ⟨u,w,rfl,r1,r2⟩:=vals2 r
  obtain rfl:u = Value.ref ea:=r1
  have hw:w = c:=by
    cases y with
    | ref z=>exact (show w = Value.ref z from r2).trans (show c = Value.ref z from ry).symm
    | ty z=>exact (show w = Value.type z from r2).trans (show c = Value.type z from ry).symm
    | non=>exact (show w = Value.none from r2).trans (show c = Value.none from ry).symm
    | bl z=>exact (show w = Value.bool z from r2).trans (show c = Value.bool z from ry).symm
    | int z=>
      exfalso
      obtain ⟨_,rfl⟩:=ry
      unfold PySem.W.kitOne PySem.W.kitCls at hk
      simp at hk
    | str z=>
      exfalso
      obtain ⟨_,rfl⟩:=ry
      unfold PySem.W.kitOne PySem.W.kitCls at hk
      simp at hk
    | byt z=>
      exfalso
      obtain ⟨_,rfl⟩:=ry
      unfold PySem.W.kitOne PySem.W.kitCls at hk
      simp at hk
    | flt z=>
      exfalso
      obtain ⟨_,rfl⟩:=ry
      unfold PySem.W.kitOne PySem.W.kitCls at hk
      simp at hk
  subst hw
  obtain ⟨p,_,_⟩:=(show ObjOk X.prog X.w H s.heap ea (IsExc ea (.ref C)) from I.hok ea _ hH)
  exact PySem.W.kia_one (kitx_exc hX) I.kIn p hk (fun z=>nomatch z) fun tk=>⟨.bl b,H,I.tok tk,rfl,q⟩
end
end L2
namespace L2
open PySem PySem.Spec PyProof.Rows
theorem eqAt_bl {A:Around} {s:Shared} (k:Bool) (bs:List Bool) : ∀ y,y ∈ (bs.map Value.bool).toArray → SeqAt.EqAt A s y (.bool k) (isBoolOf k y):=fun y hy=>by
  have hy':y ∈ bs.map Value.bool:=by simpa using hy
  obtain ⟨b,_,rfl⟩:=List.mem_map.mp hy'
  exact SeqAt.EqAt.bool_bool b k
theorem countP_bl (k:Bool) : ∀ bs:List Bool,(bs.map Value.bool).countP (isBoolOf k) = bs.count k
  | []=>rfl
  | b :: bs=>by
    rw [List.map_cons,List.countP_cons,List.count_cons,countP_bl k bs]
    rfl
def rCountB (K:PySem.W.Frag) : V → List V → Hp → VK → Prop:=fun x vs H Q=>∃ (l:Addr) (bs:List Bool) (k:Bool),x = .ref l ∧ vs = [.bl k] ∧ SqL K H l (bs.map V.bl) ∧ Q (.int (bs.count k)) H
def rIndexB (K:PySem.W.Frag) : V → List V → Hp → VK → Prop:=fun x vs H Q=>∃ (l:Addr) (bs:List Bool) (k:Bool),x = .ref l ∧ vs = [.bl k] ∧ SqL K H l (bs.map V.bl) ∧ k ∈ bs ∧ Q (.int (bs.idxOf k)) H
section
variable {X:Cx}
theorem mt_countB:MtR X "list.count" (rCountB X.K):=by
  intro pins s σ H x vs v us Q I rx rv h
  obtain ⟨l,bs,k,rfl,rfl,hH,q⟩:=h
  cases rx
  obtain ⟨u,rfl,ru⟩:=rv.one
  obtain rfl:u = Value.bool k:=ru
  obtain ⟨its,r,pl,hz⟩:=I.list hH
  have e:=vals_bl r
  subst e
  obtain ⟨⟨cls,dd,data,sl⟩,ho,hc,n,hd⟩:=pl.isList
  simp only at hc hd
  subst hc hd
  refine call_meets PySem.F.slot_list_count ⟨_,ho,rfl⟩ PySem.F.entry_list_count (PySem.F.args_list_count_2 _ _) (SeqAt.list_countAt l _ n dd sl (.bool k) (isBoolOf k)) ⟨ho,fun y hy=>eqAt_bl k bs y hy,?_⟩
  rw [show (bs.map Value.bool).toArray.toList = bs.map Value.bool from rfl,countP_bl k bs]
  exact ⟨.int (bs.count k),H,I.tok _,⟨_,rfl⟩,q⟩
theorem mt_indexB:MtR X "list.index" (rIndexB X.K):=by
  intro pins s σ H x vs v us Q I rx rv h
  obtain ⟨l,bs,k,rfl,rfl,hH,hk,q⟩:=h
  cases rx
  obtain ⟨u,rfl,ru⟩:=rv.one
  obtain rfl:u = Value.bool k:=ru
  obtain ⟨its,r,pl,hz⟩:=I.list hH
  have e:=vals_bl r
  subst e
  obtain ⟨⟨cls,dd,data,sl⟩,ho,hc,n,hd⟩:=pl.isList
  simp only at hc hd
  subst hc hd
  have hj:bs.idxOf k < bs.length:=List.idxOf_lt_length_iff.mpr hk
  have hz':bs.length ≤ sizeLine:=by rw [List.length_map] at hz; exact hz
  have hs:(sizeLine:Int) < 2 ^ 63 - 1:=by decide
  refine call_meets PySem.F.slot_list_index ⟨_,ho,rfl⟩ PySem.F.entry_list_index (PySem.F.args_list_index_2 _ _)
    (SeqAt.list_indexAt l _ n dd sl (.bool k) (isBoolOf k) (bs.idxOf k) (by simpa using hj) (by omega) ?_ ?_) ⟨ho,fun y hy=>eqAt_bl k bs y hy,?_⟩
  · have e:(bs.map Value.bool).toArray[bs.idxOf k]'(by simpa using hj) = Value.bool (bs[bs.idxOf k]):=by simp
    rw [e]
    show (bs[bs.idxOf k] == k) = true
    simpa using List.getElem_idxOf hj
  · intro j hjs hlt
    have hjl:j < bs.length:=by simpa using hjs
    have e:(bs.map Value.bool).toArray[j]'hjs = Value.bool (bs[j]):=by simp
    rw [e]
    show (bs[j] == k) = false
    exact Bool.eq_false_iff.mpr fun z=>by simpa [z] using List.not_of_lt_findIdx (p:=(· == k)) (xs:=bs) (i:=j) hlt
  · exact ⟨.int (bs.idxOf k),H,I.tok _,⟨_,rfl⟩,q⟩
end
section
variable {P:Program} {w:World} {K:PySem.W.Frag} {mg:Str → Option Value} {base:Heap}
theorem Fun.okX {x qual:Str} {st:Stmt} {f:Addr} {fd:FuncData} {N ps:List Str} {k:Nat} {sp:Sp} (F:Fun K x qual st f fd) (S:jt N ps (jb st)) (len : ∀ vs H Q E,sp vs H Q E → vs.length = ps.length)
    (hbody : ∀ (cdv:Value) (A:Around) (outer:List Env) (s:Shared) (H:Hp) (vs:List V) (Q:VK) (E:XK),Room k (A.deeper (envOfC qual (jb st) s.heap.objs.size f cdv)) → sp vs H Q E →
      ∃ t,PSs (cxOf (CX1 P w) P w K mg base N qual (jb st) f cdv A outer s H E) (jq st) t ∧ t { nx:=fun _ H'=>Q .non H',rt:=Q } (start N vs) H) : FnOk P w K mg base (CX1 P w) (k + 1) f fd ps sp:=by
  obtain ⟨oc,od,kV,doc,pm,an,cdv,ct,osl,rfl,lk,hcd⟩:=F.ex
  exact fn_of lk hcd S len fun A outer s H vs Q E hr hsp=>hbody cdv A outer s H vs Q E hr hsp
theorem ps_raise1 {N:List Str} {qual:Str} {scope:Scope} {f:Addr} {cd:Value} {A:Around} {outer:List Env} {s:Shared} {H:Hp} {E:XK} {x:Str} {C:Addr} {e:Expr} {es:List Expr} {t:TA} {np cpos pos:Pos}
    (hg:Gl (cxOf (CX1 P w) P w K mg base N qual scope f cd A outer s H E) x) (hm:mg x = some (.ref C)) (hC:XCls K C) (ha:PA (cxOf (CX1 P w) P w K mg base N qual scope f cd A outer s H E) (e :: es) t)
    (hdb:(x == ("__debug__" : Str)) = false:=by decide) (he:starEach (e :: es) (envOfC qual scope s.heap.objs.size f cd) = (false,eval e (envOfC qual scope s.heap.objs.size f cd)) :: starEach es (envOfC qual scope s.heap.objs.size f cd):=by rfl)
    (hpl:(backTo cpos (starEach es (envOfC qual scope s.heap.objs.size f cd))).any (·.1) = false:=by rfl) :
    PS (cxOf (CX1 P w) P w K mg base N qual scope f cd A outer s H E) (.Raise (some (.Call (.Name x np) (e :: es) [] cpos)) none pos) (tRaise (E (.ref C) none) t):=
  ps_raise rfl hg hm hC ha (fun I hx q=>raise1 I hx q) hdb he hpl
end
end L2
namespace L2
open PySem
def kinds (K:PySem.W.Frag) (C:Value) (Ds:List Value) : List (Option Bool):=Ds.map (PySem.W.kitOne K C)
end L2
namespace L2
open PySem PySem.Spec PyProof.Rows
def isStar:Expr → Bool
  | .Starred _ _=>true
  | _=>false
theorem starEach_no {e:Expr} {es:List Expr} {env:Env} (h:isStar e = false) : starEach (e :: es) env = (false,eval e env) :: starEach es env:=by
  cases e <;> first | rfl | cases h
section
variable {X:Cx} {e:Expr} {es:List Expr} {te:TE} {t:TA}
theorem jd (ha:PE X e te) (hr:PA X es t) (h:isStar e = false:=by rfl) : PA X (e :: es) (tCons te t):=pa_cons ha hr (starEach_no h)
end
end L2
namespace L2
open PySem PySem.Spec PyProof.Rows
section
variable {prog:Program} {w:World} {A:Around} {E:Value → Shared → Prop} {s:Shared}
end
section
variable {X:Cx}
end
def kb12 {α : Type} : List α → List α → List α
  | [u0],[w0,w1]=>[u0,w0,w1]
  | _,_=>[]
theorem kb_rel12 {vs:List V} {us:List Value} {zs:List V} {ws:List Value} (r1:Vals vs us) (r2:Vals zs ws) : Vals (kb12 vs zs) (kb12 us ws):=by
  rcases r1 with _ | ⟨a,_ | ⟨_,_⟩⟩ <;> rcases r2 with _ | ⟨b,_ | ⟨c,_ | ⟨_,_⟩⟩⟩
  all_goals first | exact .nil | exact .cons a (.cons b (.cons c .nil))
end L2
namespace L2
open PySem PySem.Spec PyProof.Rows
section
open PySem.SeqAt
open PySem.MeetsSeq PySem.MeetsSeq2 PySem.MeetsSeq3
end
end L2
namespace L2
open PySem PySem.Spec PyProof.Rows
section
variable {X:Cx}
end
end L2
namespace HT
open PySem PyProof.Rows
section
variable {prog:Program} {w:World} {A:Around} {E:Value → Shared → Prop} {s:Shared}
end
end HT
namespace L2
open PySem PySem.Spec PyProof.Rows
section
variable {X:Cx}
end
end L2
namespace L2
open PySem PySem.Spec PyProof.Rows
def constV:Expr → Option V
  | .Constant (.int i) _ _=>some (.int i)
  | .Constant (.bool b) _ _=>some (.bl b)
  | .Constant .none _ _=>some .non
  | .Constant (.str x) _ _=>some (.str x)
  | .BinOp (.Constant (.int i) _ _) .Sub (.Constant (.int j) _ _) _=>some (.int (i - j))
  | _=>none
def constsV:List Expr → Option (List V)
  | []=>some []
  | e :: es=>match constV e,constsV es with
    | some v,some vs=>some (v :: vs)
    | _,_=>none
inductive Lit where
  | c (v:V) | t (vs:List V) | l (vs:List V) | r (vs:List V) (k:Int)
def litOf:Expr → Option Lit
  | .Tuple es _ _=>(constsV es).map .t
  | .List es _=>(constsV es).map .l
  | .BinOp (.List es _) .Mult (.Constant (.int k) _ _) _=>(constsV es).map fun vs=>.r vs k
  | e=>(constV e).map .c
def litsOf:List Expr → Option (List Lit)
  | []=>some []
  | e :: es=>match litOf e,litsOf es with
    | some v,some vs=>some (v :: vs)
    | _,_=>none
def tVals (vs:List V) : TA:=fun _ H Q=>Q vs H
def tLits:List Lit → TA
  | []=>fun _ H Q=>Q [] H
  | .c v :: ls=>fun σ H Q=>tLits ls σ H fun vs H'=>Q (v :: vs) H'
  | .t xs :: ls=>fun σ H Q=>xs.length ≤ sizeLine ∧ ∀ p,H p = none → tLits ls σ (upd H p (.tup xs)) fun vs H'=>Q (.ref p :: vs) H'
  | .l xs :: ls=>fun σ H Q=>xs.length ≤ sizeLine ∧ ∀ p,H p = none → tLits ls σ (upd H p (.lst xs)) fun vs H'=>Q (.ref p :: vs) H'
  | .r xs k :: ls=>fun σ H Q=>xs.length ≤ sizeLine ∧ ∀ p,H p = none → (-(2 ^ 63) ≤ k ∧ k < 2 ^ 63 ∧ xs.length * k.toNat ≤ sizeLine) ∧ ∀ p2,upd H p (.lst xs) p2 = none → tLits ls σ (upd (upd H p (.lst xs)) p2 (.lst (List.replicate k.toNat xs).flatten)) fun vs H'=>Q (.ref p2 :: vs) H'
def tRep (xs:List V) (k:Int) : TE:=fun _ H Q=>xs.length ≤ sizeLine ∧ ∀ p,H p = none → (-(2 ^ 63) ≤ k ∧ k < 2 ^ 63 ∧ xs.length * k.toNat ≤ sizeLine) ∧ ∀ p2,upd H p (.lst xs) p2 = none → Q (.ref p2) (upd (upd H p (.lst xs)) p2 (.lst (List.replicate k.toNat xs).flatten))
section
variable {X:Cx}
theorem pe_constV {e:Expr} {v:V} (h:constV e = some v) : PE X e (tC v) ∧ isStar e = false:=by
  unfold constV at h
  split at h
  · cases h; exact ⟨jj,rfl⟩
  · cases h; exact ⟨pe_bl,rfl⟩
  · cases h; exact ⟨pe_non,rfl⟩
  · cases h; exact ⟨pe_str,rfl⟩
  · cases h
    refine ⟨fun pins s σ H Q I q=>?_,rfl⟩
    exact (pe_op op_sub jj jj:PE X _ _) pins s σ H Q I ⟨_,_,rfl,rfl,q⟩
  · cases h
theorem pa_consts : ∀ {es:List Expr} {vs:List V},constsV es = some vs → PA X es (tVals vs)
  | [],vs,h=>by
    cases h
    exact jg
  | e :: es,vs,h=>by
    unfold constsV at h
    split at h
    · rename_i v ws h1 h2
      cases h
      exact jd (pe_constV h1).1 (pa_consts h2) (pe_constV (X:=X) h1).2
    · cases h
theorem pe_litT {e:Expr} {xs:List V} (h:litOf e = some (.t xs)) : PE X e (tTup (tVals xs)) ∧ isStar e = false:=by
  unfold litOf at h
  split at h
  · rename_i es a b
    cases q:constsV es with
    | none=>rw [q] at h; cases h
    | some vs=>
      rw [q] at h
      cases h
      exact ⟨pe_tup (pa_consts q),rfl⟩
  · rename_i es a
    cases q:constsV es with
    | none=>rw [q] at h; cases h
    | some vs=>rw [q] at h; cases h
  · rename_i es a k b c d
    cases q:constsV es with
    | none=>rw [q] at h; cases h
    | some vs=>rw [q] at h; cases h
  · cases q:constV e with
    | none=>rw [q] at h; cases h
    | some v=>rw [q] at h; cases h
theorem pe_litL {e:Expr} {xs:List V} (h:litOf e = some (.l xs)) : PE X e (tLst (tVals xs)) ∧ isStar e = false:=by
  unfold litOf at h
  split at h
  · rename_i es a b
    cases q:constsV es with
    | none=>rw [q] at h; cases h
    | some vs=>rw [q] at h; cases h
  · rename_i es a
    cases q:constsV es with
    | none=>rw [q] at h; cases h
    | some vs=>
      rw [q] at h
      cases h
      exact ⟨qd (pa_consts q),rfl⟩
  · rename_i es a k b c d
    cases q:constsV es with
    | none=>rw [q] at h; cases h
    | some vs=>rw [q] at h; cases h
  · cases q:constV e with
    | none=>rw [q] at h; cases h
    | some v=>rw [q] at h; cases h
theorem pe_litC {e:Expr} {v:V} (h:litOf e = some (.c v)) : PE X e (tC v) ∧ isStar e = false:=by
  unfold litOf at h
  split at h
  · rename_i es a b
    cases q:constsV es with
    | none=>rw [q] at h; cases h
    | some vs=>rw [q] at h; cases h
  · rename_i es a
    cases q:constsV es with
    | none=>rw [q] at h; cases h
    | some vs=>rw [q] at h; cases h
  · rename_i es a k b c d
    cases q:constsV es with
    | none=>rw [q] at h; cases h
    | some vs=>rw [q] at h; cases h
  · cases q:constV e with
    | none=>rw [q] at h; cases h
    | some v=>
      rw [q] at h
      cases h
      exact pe_constV q
theorem pe_litR {e:Expr} {xs:List V} {k:Int} (h:litOf e = some (.r xs k)) : PE X e (tRep xs k) ∧ isStar e = false:=by
  unfold litOf at h
  split at h
  · rename_i es a b
    cases q:constsV es with
    | none=>rw [q] at h; cases h
    | some vs=>rw [q] at h; cases h
  · rename_i es a
    cases q:constsV es with
    | none=>rw [q] at h; cases h
    | some vs=>rw [q] at h; cases h
  · rename_i es a k b c d
    cases q:constsV es with
    | none=>rw [q] at h; cases h
    | some vs=>
      rw [q] at h
      cases h
      refine ⟨fun pins s σ H Q I q'=>?_,rfl⟩
      obtain ⟨hz,q'⟩:=q'
      exact (pe_op op_rep (qd (pa_consts q)) jj:PE X _ _) pins s σ H Q I ⟨hz,fun p hp=>⟨p,k,_,rfl,rfl,ja,(q' p hp).1.1,(q' p hp).1.2.1,(q' p hp).1.2.2,(q' p hp).2⟩⟩
  · cases q:constV e with
    | none=>rw [q] at h; cases h
    | some v=>rw [q] at h; cases h
theorem pa_lits : ∀ {es:List Expr} {ls:List Lit},litsOf es = some ls → PA X es (tLits ls)
  | [],vs,h=>by
    cases h
    exact jg
  | e :: es,vs,h=>by
    unfold litsOf at h
    split at h
    · rename_i v ws h1 h2
      cases h
      cases v with
      | c v=>exact jd (pe_litC h1).1 (pa_lits h2) (pe_litC (X:=X) h1).2
      | t xs=>exact jd (pe_litT h1).1 (pa_lits h2) (pe_litT (X:=X) h1).2
      | l xs=>exact jd (pe_litL h1).1 (pa_lits h2) (pe_litL (X:=X) h1).2
      | r xs k=>exact jd (pe_litR h1).1 (pa_lits h2) (pe_litR (X:=X) h1).2
    · cases h
end
end L2
namespace L2
open PySem PySem.Spec PyProof.Rows
section
variable {X:Cx} {e v1 v2:Expr} {es:List Expr} {te:TE} {t:Str → TE} {pos:Pos}
end
end L2
namespace L2
open PySem PySem.Spec PyProof.Rows
section
variable {X:Cx} {pins:List (Addr × Obj)} {σ : St} {H:Hp} {s:Shared} {a:Addr} {o:Obj} {u:HO}
theorem Inv.freeze (I:Inv X pins σ H s) (hm:Mut (some u)) (ha:H a = some u) (ho:s.heap.get? a = some o) : Inv X pins σ (upd H a (.frz o u)) s:=by
  have new:ObjOk X.prog X.w (upd H a (.frz o u)) s.heap a (.frz o u):=by
    refine ⟨ho,(I.hok a u ha).stay (fun _ _ _ q=>q) (fun c q=>?_) fun c xs q=>?_⟩
    · have hc:c ≠ a:=fun z=>by
        subst z
        rw [ha] at q
        cases q
        exact hm
      rw [je hc]
      exact q
    · have hc:c ≠ a:=fun z=>by
        subst z
        rw [ha] at q
        cases q
        exact hm
      rw [je hc]
      exact q
  exact I.write (t':=s.toks) (x:=a) (e:=a) (o:=.frz o u) (h':=s.heap) (by rw [ha]; exact hm) (.inl rfl) (fun b v _ q=>q) ⟨o,ho⟩ new
theorem Inv.thaw (I:Inv X pins σ H s) (ha:H a = some (.frz o u)) (h0 : ∀ o' u',X.H₀ a ≠ some (.frz o' u')) (hm:Mut (some u)) : Inv X pins σ (upd H a u) s:=by
  have ne : ∀ {b:Addr} {v:HO},H b = some v → (∀ o' u',v ≠ .frz o' u') → b ≠ a:=fun {b v} e h z=>by
    subst z
    rw [ha] at e
    exact h _ _ (Option.some.inj e).symm
  have nen : ∀ {b:Addr},H b = none → b ≠ a:=fun {b} e z=>by
    subst z
    rw [ha] at e
    cases e
  refine ⟨I.ok,I.os,I.bare,⟨I.base.keep,I.base.slot,fun b ob e n hx=>?_,I.base.there,fun b xs q=>?_,fun b ob v q=>?_,fun b ps q=>?_⟩,I.loc,I.cell,?_,fun x c e=>?_,fun p hp=>?_,fun b v e=>?_,I.len⟩
  · have q:=I.base.free b ob e n hx
    rw [je (nen q)]
    exact q
  · have q':=I.base.tups b xs q
    rw [je (ne q' fun _ _ z=>nomatch z)]
    exact q'
  · have hb:b ≠ a:=fun z=>by
      subst z
      exact h0 _ _ q
    rw [je hb]
    exact I.base.frzs b ob v q
  · obtain ⟨more,z⟩:=I.base.tbls b ps q
    exact ⟨more,by rw [je (ne z fun _ _ z=>nomatch z)]; exact z⟩
  · rw [je (nen I.free)]
    exact I.free
  · rw [je (nen (I.freeC x c e))]
    exact I.freeC x c e
  · obtain ⟨q1,q2,q3⟩:=I.pin p hp
    exact ⟨q1,by rw [je (nen q2)]; exact q2,q3⟩
  · have own : ∀ (c y:Addr),H c = some (.own y) → upd H a u c = some (.own y):=fun c y q=>by
      rw [je (ne q fun _ _ z=>nomatch z)]
      exact q
    have tup : ∀ (c:Addr) (xs:List V),H c = some (.tup xs) → upd H a u c = some (.tup xs):=fun c xs q=>by
      rw [je (ne q fun _ _ z=>nomatch z)]
      exact q
    by_cases hb:b = a
    · subst hb
      rw [ja] at e
      cases e
      obtain ⟨_,q⟩:=I.hok _ _ ha
      exact q.stay (fun _ _ _ q=>q) (fun c q=>own c _ q) tup
    · rw [je hb] at e
      exact (I.hok b v e).stay (fun _ _ _ q=>q) (fun c q=>own c _ q) tup
def tThaw (H0:Hp) (t:TS) : TS:=fun D σ H=>
  let un:(Hp → Prop) → Hp → Prop:=fun Q H'=>∃ a o u,H' a = some (.frz o u) ∧ (∀ o' u',H0 a ≠ some (.frz o' u')) ∧ Mut (some u) ∧ Q (upd H' a u)
  t { nx:=fun σ' H'=>un (D.nx σ') H',rt:=fun v H'=>un (D.rt v) H',bk:=D.bk,ct:=D.ct } σ H
theorem ps_thaw {st:Stmt} {t:TS} (h:PS X st t) : PS X st (tThaw X.H₀ t):=by
  intro pins s σ H D I q
  refine thn (h pins s σ H _ I q) fun f s1 q1=>?_
  cases f with
  | next=>
    obtain ⟨σ1,H1,I1,a,o,u,ha,h0,hm,q⟩:=q1
    exact ⟨σ1,_,I1.thaw ha h0 hm,q⟩
  | ret v=>
    obtain ⟨x,σ1,H1,I1,r,a,o,u,ha,h0,hm,q⟩:=q1
    exact ⟨x,σ1,_,I1.thaw ha h0 hm,r,q⟩
  | brk=>exact q1
  | cont=>exact q1
def tThawE (H0:Hp) (t:TE) : TE:=fun σ H Q=>t σ H fun v H'=>∃ a o u,H' a = some (.frz o u) ∧ (∀ o' u',H0 a ≠ some (.frz o' u')) ∧ Mut (some u) ∧ Q v (upd H' a u)
theorem pe_thaw {e:Expr} {t:TE} (h:PE X e t) : PE X e (tThawE X.H₀ t):=by
  intro pins s σ H Q I q
  refine thn (h pins s σ H _ I q) fun v s1 ⟨x,H1,I1,r,a,o,u,ha,h0,hm,q⟩=>?_
  exact ⟨x,_,I1.thaw ha h0 hm,r,q⟩
end
theorem rel_key {k:Key} {v:Value} (h:keyIs k v = true) : RelV (kV k) v:=by
  rcases xm h with ⟨i,t,rfl,rfl⟩ | ⟨x,t,rfl,rfl⟩
  · exact ⟨t,rfl⟩
  · exact ⟨t,rfl⟩
def Itd (a:Addr) (o:Obj) (kvs:List (Key × V)) : It where
  go:=fun i H=>i < kvs.length ∧ H a = some (.frz o (.dK kvs))
  yld:=fun i H x H'=>H' = H ∧ ∃ kv,kvs[i]? = some kv ∧ x = kV kv.1
  stop:=fun i H=>kvs.length ≤ i ∧ H a = some (.frz o (.dK kvs))
theorem kv_get {kvs:List (Key × V)} {vs:List (Key × Value)} : ∀ {i:Nat} {kv:Key × V},KV kvs vs → kvs[i]? = some kv → ∃ v,vs[i]? = some (kv.1,v) ∧ RelV kv.2 v:=by
  intro i kv r
  unfold KV at r
  induction r generalizing i with
  | nil=>intro e; simp at e
  | @cons p q ps qs h t ih=>
    intro e
    cases i with
    | zero=>
      have e':=Option.some.inj e
      subst e'
      exact ⟨q.2,by rw [h.1]; rfl,h.2⟩
    | succ i=>exact ih e
theorem turn_dK {P:Program} {w:World} {K:PySem.W.Frag} {tg:Expr} (a it:Addr) (o:Obj) (kvs:List (Key × V)) (es:Array DictEntry) (ep:Nat) (hd:o.data = .dict es ep) : Turn P w K tg (Itd a o kvs) [it] it (fun i h=>h.IsKeyIter it a i kvs.length ep) where
  mem:=by simp
  obj:=fun i h st b hb=>by
    have e:b = it:=by simpa using hb
    subst e
    obtain ⟨o,e,c,d⟩:=st
    exact ⟨o,e,fun v z=>by rw [d] at z; cases z⟩
  keep:=fun i h h' st k=>st.at fun o e=>k it (by simp) o e
  item:=by
    intro X hP hw hK hc i pins s σ H E I hf st hg
    subst hP hw hK
    obtain ⟨hi,hq⟩:=hg
    obtain ⟨ho,hz,hs,vs,r,o',es',ep',ho',hx',hd',r1,r2,r3⟩:=I.hok a _ hq
    have eo:o' = o:=Option.some.inj (ho'.symm.trans ho)
    subst eo
    have ee:ep' = ep:=by
      rw [hd] at hd'
      cases hd'
      rfl
    subst ee
    have hlen:kvs.length = vs.length:=Paired.length r
    have hm:s.heap.DictAt (zh X.prog X.w) a vs ep':=⟨o',es',ho,hx',hd',r1,r2,r3⟩
    obtain ⟨kv,ekv⟩ : ∃ kv,kvs[i]? = some kv:=⟨kvs[i],by simp [hi]⟩
    obtain ⟨v,ev,rv⟩:=kv_get r ekv
    obtain ⟨f0,f1,f2,f3,f4,f5⟩:=hf it (by simp)
    rw [hlen] at st
    refine wpAny_pyNext_dict_item st hm ev fun key h' hk st' sb=>?_
    have I1:Inv X pins σ H { s with heap:=h' }:=I.turned (t':=s.toks) (fun b o hb e=>(sb.2 b hb).trans e) f0 f1 f3 f4 f5
    rw [← hlen] at st'
    obtain ⟨oi,ei,ci,di⟩:=id st'
    exact ⟨key,rfl,go_of (s:={ s with heap:=h' }) ei ci di (by decide) ⟨kV kv.1,H,I1,rel_key hk,⟨rfl,kv,ekv,rfl⟩,st',fun b hb=>(hf b hb).1⟩⟩
  done:=by
    intro X hP hw hK hc i pins s σ H E I hf st hg
    subst hP hw hK
    obtain ⟨hi,hq⟩:=hg
    obtain ⟨ho,hz,hs,vs,r,o',es',ep',ho',hx',hd',r1,r2,r3⟩:=I.hok a _ hq
    have eo:o' = o:=Option.some.inj (ho'.symm.trans ho)
    subst eo
    have ee:ep' = ep:=by
      rw [hd] at hd'
      cases hd'
      rfl
    subst ee
    have hlen:kvs.length = vs.length:=Paired.length r
    have hm:s.heap.DictAt (zh X.prog X.w) a vs ep':=⟨o',es',ho,hx',hd',r1,r2,r3⟩
    obtain ⟨f0,f1,f2,f3,f4,f5⟩:=hf it (by simp)
    rw [hlen] at st
    exact wpAny_pyNext_dict_end (I.ok.hd hc) st hm (List.getElem?_eq_none_iff.mpr (by omega)) fun h' eb=>⟨rfl,I.turned (t':=s.toks) (fun b o hb e=>eb b o hb e) f0 f1 f3 f4 f5⟩
  self:=fun _ _ _ _ _ st h=>wpAny_pyIter_keyiter st h
def iDk (tl:TE) : TI:=fun σ H R=>tl σ H fun x H1=>∃ a kvs,x = .ref a ∧ H1 a = some (.dK kvs) ∧ ∀ o,R (Itd a o kvs) (upd H1 a (.frz o (.dK kvs)))
theorem pi_dK {X:Cx} {tg l:Expr} {tl:TE} (hl:PE X l tl) : PI X tg l (iDk tl):=by
  intro pins s σ H R I h
  refine thn (hl pins s σ H _ I h) fun v s1 ⟨x,H1,I1,r1,q1⟩=>?_
  obtain ⟨a,kvs,e,hq,q⟩:=q1
  subst e
  cases r1
  obtain ⟨hz,hs,vs,r,o,es,ep,ho,hx,hd,r1,r2,r3⟩:=I1.hok a _ hq
  have hlen:kvs.length = vs.length:=Paired.length r
  have hm:s1.heap.DictAt (zh X.prog X.w) a vs ep:=⟨o,es,ho,hx,hd,r1,r2,r3⟩
  refine wpAny_pyIter_dict hs hm ?_
  have I2:=I1.freeze (show Mut (some (HO.dK kvs)) from True.intro) hq ho
  have hn:upd H1 a (.frz o (.dK kvs)) s1.heap.objs.size = none:=I2.hok.fresh (Nat.le_refl _)
  refine ⟨s1.heap.objs.size,[s1.heap.objs.size],_,_,_,rfl,I2.kept (t':=s1.toks) fun b o e=>Heap.get?_push_of_some _ e,turn_dK a _ o kvs es ep hd,?_,fun b hb=>?_,q o⟩
  · rw [hlen]
    exact ⟨_,Heap.get?_push_size _ rfl,rfl,rfl⟩
  · have e:b = s1.heap.objs.size:=by simpa using hb
    subst e
    exact I2.fpOk (Nat.le_refl _) hn
end L2
namespace L2
open PySem PySem.Spec PyProof.Rows
def ViewV (v d:Addr) : HO:=.ext fun h=>h.IsValuesView v d
def Itv (a:Addr) (o:Obj) (kvs:List (Key × V)) : It where
  go:=fun i H=>i < kvs.length ∧ H a = some (.frz o (.dK kvs))
  yld:=fun i H x H'=>H' = H ∧ ∃ kv,kvs[i]? = some kv ∧ x = kv.2
  stop:=fun i H=>kvs.length ≤ i ∧ H a = some (.frz o (.dK kvs))
section
variable {X:Cx}
theorem mt_values:MtR X "dict.values" (fun x xs H Q=>∃ d kvs,x = .ref d ∧ xs = [] ∧ H d = some (.dK kvs) ∧ ∀ p,H p = none → Q (.ref p) (upd H p (ViewV p d))):=by
  intro pins s σ H x xs v us Q I rx rs h
  obtain ⟨d,kvs,rfl,rfl,hq,q⟩:=h
  cases rx
  cases rs
  obtain ⟨hz,hs,vs,r,hd⟩:=I.hok d _ hq
  refine call_meetsIn PySem.F.slot_dict_values hd.typeIs PySem.F.entry_dict_values (PySem.F.args_dict_values_1 _) (meets_dict_values (zh X.prog X.w) d hs) ⟨⟨vs,hd⟩,?_⟩
  refine ⟨.ref s.heap.objs.size,_,I.laid (t':=s.toks) (o:=ViewV s.heap.objs.size d) (fun b ob q=>Heap.get?_push_of_some _ q) (Nat.le_refl _) ?_,rfl,q _ I.fresh⟩
  refine ⟨⟨_,Heap.get?_push_size _ rfl,rfl,rfl⟩,⟨_,Heap.get?_push_size _ rfl⟩,fun h1 h2 p k=>?_⟩
  obtain ⟨o,e,c,d⟩:=p
  exact ⟨o,k o e,c,d⟩
end
theorem turn_vK {P:Program} {w:World} {K:PySem.W.Frag} {tg:Expr} (a it:Addr) (o:Obj) (kvs:List (Key × V)) (es:Array DictEntry) (ep:Nat) (hd:o.data = .dict es ep) : Turn P w K tg (Itv a o kvs) [it] it (fun i h=>h.IsValIter it a i kvs.length ep) where
  mem:=by simp
  obj:=fun i h st b hb=>by
    have e:b = it:=by simpa using hb
    subst e
    obtain ⟨o,e,c,d⟩:=st
    exact ⟨o,e,fun v z=>by rw [d] at z; cases z⟩
  keep:=fun i h h' st k=>st.at fun o e=>k it (by simp) o e
  item:=by
    intro X hP hw hK hc i pins s σ H E I hf st hg
    subst hP hw hK
    obtain ⟨hi,hq⟩:=hg
    obtain ⟨ho,hz,hs,vs,r,o',es',ep',ho',hx',hd',r1,r2,r3⟩:=I.hok a _ hq
    have eo:o' = o:=Option.some.inj (ho'.symm.trans ho)
    subst eo
    have ee:ep' = ep:=by
      rw [hd] at hd'
      cases hd'
      rfl
    subst ee
    have hlen:kvs.length = vs.length:=Paired.length r
    have hm:s.heap.DictAt (zh X.prog X.w) a vs ep':=⟨o',es',ho,hx',hd',r1,r2,r3⟩
    obtain ⟨kv,ekv⟩ : ∃ kv,kvs[i]? = some kv:=⟨kvs[i],by simp [hi]⟩
    obtain ⟨v,ev,rv⟩:=kv_get r ekv
    obtain ⟨f0,f1,f2,f3,f4,f5⟩:=hf it (by simp)
    rw [hlen] at st
    refine wpAny_pyNext_values_item st hm ev fun h' st' sb=>?_
    have I1:Inv X pins σ H { s with heap:=h' }:=I.turned (t':=s.toks) (fun b o hb e=>(sb.2 b hb).trans e) f0 f1 f3 f4 f5
    rw [← hlen] at st'
    obtain ⟨oi,ei,ci,di⟩:=id st'
    exact ⟨v,rfl,go_of (s:={ s with heap:=h' }) ei ci di (by decide) ⟨kv.2,H,I1,rv,⟨rfl,kv,ekv,rfl⟩,st',fun b hb=>(hf b hb).1⟩⟩
  done:=by
    intro X hP hw hK hc i pins s σ H E I hf st hg
    subst hP hw hK
    obtain ⟨hi,hq⟩:=hg
    obtain ⟨ho,hz,hs,vs,r,o',es',ep',ho',hx',hd',r1,r2,r3⟩:=I.hok a _ hq
    have eo:o' = o:=Option.some.inj (ho'.symm.trans ho)
    subst eo
    have ee:ep' = ep:=by
      rw [hd] at hd'
      cases hd'
      rfl
    subst ee
    have hlen:kvs.length = vs.length:=Paired.length r
    have hm:s.heap.DictAt (zh X.prog X.w) a vs ep':=⟨o',es',ho,hx',hd',r1,r2,r3⟩
    obtain ⟨f0,f1,f2,f3,f4,f5⟩:=hf it (by simp)
    rw [hlen] at st
    exact wpAny_pyNext_values_end (I.ok.hd hc) st hm (List.getElem?_eq_none_iff.mpr (by omega)) fun h' eb=>⟨rfl,I.turned (t':=s.toks) (fun b o hb e=>eb b o hb e) f0 f1 f3 f4 f5⟩
  self:=fun _ _ _ _ _ st h=>wpAny_pyIter_valiter st h
def iVk (tl:TE) : TI:=fun σ H R=>tl σ H fun x H1=>∃ v a kvs,x = .ref v ∧ H1 v = some (ViewV v a) ∧ H1 a = some (.dK kvs) ∧ ∀ o,R (Itv a o kvs) (upd H1 a (.frz o (.dK kvs)))
theorem pi_vK {X:Cx} {tg l:Expr} {tl:TE} (hl:PE X l tl) : PI X tg l (iVk tl):=by
  intro pins s σ H R I h
  refine thn (hl pins s σ H _ I h) fun v s1 ⟨x,H1,I1,r1,q1⟩=>?_
  obtain ⟨v,a,kvs,e,hv,hq,q⟩:=q1
  subst e
  cases r1
  obtain ⟨hz,hs,vs,r,o,es,ep,ho,hx,hd,r1,r2,r3⟩:=I1.hok a _ hq
  have hlen:kvs.length = vs.length:=Paired.length r
  have hm:s1.heap.DictAt (zh X.prog X.w) a vs ep:=⟨o,es,ho,hx,hd,r1,r2,r3⟩
  obtain ⟨hvv,_,_⟩:=(show ObjOk X.prog X.w H1 s1.heap v (ViewV v a) from I1.hok v _ hv)
  refine wpAny_pyIter_values hvv hm ?_
  have I2:=I1.freeze (show Mut (some (HO.dK kvs)) from True.intro) hq ho
  have hn:upd H1 a (.frz o (.dK kvs)) s1.heap.objs.size = none:=I2.hok.fresh (Nat.le_refl _)
  refine ⟨s1.heap.objs.size,[s1.heap.objs.size],_,_,_,rfl,I2.kept (t':=s1.toks) fun b o e=>Heap.get?_push_of_some _ e,turn_vK a _ o kvs es ep hd,?_,fun b hb=>?_,q o⟩
  · rw [hlen]
    exact ⟨_,Heap.get?_push_size _ rfl,rfl,rfl⟩
  · have e:b = s1.heap.objs.size:=by simpa using hb
    subst e
    exact I2.fpOk (Nat.le_refl _) hn
end L2
namespace SortT
open PySem PyProof.Rows PySem.W
def Wp (f:Nat → Nat → Bool) (n:Nat) {α : Type} : KasT α → (α → Prop) → Prop
  | .ret a,R=>R a
  | .ask i j k,R=>i < n ∧ j < n ∧ i ≠ j ∧ Wp f n (k (f i j)) R
theorem Wp.mono {f:Nat → Nat → Bool} {n:Nat} {α : Type} {R R' : α → Prop} (h : ∀ a,R a → R' a) : ∀ {t:KasT α},Wp f n t R → Wp f n t R'
  | .ret a,q=>h a q
  | .ask _ _ _,⟨a,b,c,q⟩=>⟨a,b,c,Wp.mono h q⟩
theorem Wp.bind {f:Nat → Nat → Bool} {n:Nat} {α β : Type} {g : α → KasT β} {R : β → Prop} : ∀ {t:KasT α},Wp f n t (fun a=>Wp f n (g a) R) → Wp f n (t.bind g) R
  | .ret _,q=>q
  | .ask _ _ _,⟨a,b,c,q⟩=>⟨a,b,c,Wp.bind q⟩
structure Tot (f:Nat → Nat → Bool) (n:Nat) : Prop where
  tot : ∀ i j,i < n → j < n → i ≠ j → f i j = false → f j i = true
  asy : ∀ i j,i < n → j < n → f i j = true → f j i = false
  tr : ∀ i j k,i < n → j < n → k < n → f i j = true → f j k = true → f i k = true
def P (n:Nat) (p:Array Nat) : Prop:=p.toList.Perm (List.range n)
section
variable {n:Nat} {p:Array Nat}
theorem P.size (h:P n p) : p.size = n:=by
  have:=h.length_eq
  rw [List.length_range] at this
  simpa using this
theorem getD_eq {k:Nat} (h:k < p.size) : p.getD k 0 = p[k]:=by simp [Array.getD,h]
theorem P.lt (h:P n p) {k:Nat} (hk:k < n) : p.getD k 0 < n:=by
  have hs:=h.size
  rw [getD_eq (by omega)]
  exact List.mem_range.mp (h.mem_iff.mp (by simp))
theorem P.inj (h:P n p) {a b:Nat} (ha:a < n) (hb:b < n) (e:p.getD a 0 = p.getD b 0) : a = b:=by
  have hs:=h.size
  rw [getD_eq (by omega),getD_eq (by omega)] at e
  have nd:p.toList.Nodup:=h.nodup_iff.mpr List.nodup_range
  exact (List.getElem_inj (h₀:=by simp; omega) (h₁:=by simp; omega) nd).mp (by simpa using e)
def Up (f:Nat → Nat → Bool) (p:Array Nat) (m:Nat) : Prop:=∀ a b,a < b → b < m → f (p.getD a 0) (p.getD b 0) = true
def Down (f:Nat → Nat → Bool) (p:Array Nat) (m:Nat) : Prop:=∀ a b,a < b → b < m → f (p.getD b 0) (p.getD a 0) = true
variable {f:Nat → Nat → Bool}
theorem Up.more (T:Tot f n) (hp:P n p) {m:Nat} (h1 : 1 ≤ m) (hm:m < n) (u:Up f p m) (h:f (p.getD (m - 1) 0) (p.getD m 0) = true) : Up f p (m + 1):=by
  intro a b ab bm
  by_cases e:b = m
  · subst e
    by_cases e2:a = b - 1
    · subst e2
      exact h
    · exact T.tr _ _ _ (hp.lt (by omega)) (hp.lt (by omega)) (hp.lt hm) (u a (b - 1) (by omega) (by omega)) h
  · exact u a b ab (by omega)
theorem Down.more (T:Tot f n) (hp:P n p) {m:Nat} (h1 : 1 ≤ m) (hm:m < n) (u:Down f p m) (h:f (p.getD m 0) (p.getD (m - 1) 0) = true) : Down f p (m + 1):=by
  intro a b ab bm
  by_cases e:b = m
  · subst e
    by_cases e2:a = b - 1
    · subst e2
      exact h
    · exact T.tr _ _ _ (hp.lt hm) (hp.lt (by omega)) (hp.lt (by omega)) h (u a (b - 1) (by omega) (by omega))
  · exact u a b ab (by omega)
theorem asc (T:Tot f n) (hp:P n p) : ∀ (c m:Nat),1 ≤ m → m + c ≤ n → Up f p m → Wp f n (kas_asc p c m) fun r=>m ≤ r ∧ r ≤ m + c ∧ Up f p r ∧ (r < m + c → f (p.getD r 0) (p.getD (r - 1) 0) = true)
  | 0,m,_,_,u=>⟨Nat.le_refl _,Nat.le_refl _,u,fun h=>absurd h (by omega)⟩
  | c + 1,m,h1,hm,u=>by
    refine ⟨hp.lt (by omega),hp.lt (by omega),fun e=>?_,?_⟩
    · have:=hp.inj (by omega) (by omega) e
      omega
    cases h:f (p.getD m 0) (p.getD (m - 1) 0) with
    | true=>exact ⟨Nat.le_refl _,by omega,u,fun _=>h⟩
    | false=>
      have u':=u.more T hp h1 (by omega) (T.tot _ _ (hp.lt (by omega)) (hp.lt (by omega)) (fun e=>by have:=hp.inj (by omega) (by omega) e; omega) h)
      show Wp f n (kas_asc p c (m + 1)) _
      refine (asc T hp c (m + 1) (by omega) (by omega) u').mono fun r q=>?_
      exact ⟨by omega,by omega,q.2.2.1,fun z=>q.2.2.2 (by omega)⟩
theorem desc (T:Tot f n) (hp:P n p) : ∀ (c m:Nat),2 ≤ m → m + c ≤ n → Down f p m → Wp f n (kas_desc c p m 0) fun r=>r.1 = p ∧ r.2.2 = 0 ∧ m ≤ r.2.1 ∧ r.2.1 ≤ m + c ∧ Down f p r.2.1
  | 0,m,_,_,u=>⟨rfl,rfl,Nat.le_refl _,Nat.le_refl _,u⟩
  | c + 1,m,h1,hm,u=>by
    refine ⟨hp.lt (by omega),hp.lt (by omega),fun e=>?_,?_⟩
    · have:=hp.inj (by omega) (by omega) e
      omega
    cases h:f (p.getD m 0) (p.getD (m - 1) 0) with
    | true=>
      show Wp f n (kas_desc c p (m + 1) 0) _
      refine (desc T hp c (m + 1) (by omega) (by omega) (u.more T hp (by omega) (by omega) h)).mono fun r q=>?_
      exact ⟨q.1,q.2.1,by omega,by omega,q.2.2.2.2⟩
    | false=>
      have h':=T.tot _ _ (hp.lt (by omega)) (hp.lt (by omega)) (fun e=>by have:=hp.inj (by omega) (by omega) e; omega) h
      refine ⟨hp.lt (by omega),hp.lt (by omega),fun e=>?_,?_⟩
      · have:=hp.inj (by omega) (by omega) e
        omega
      rw [h']
      exact ⟨rfl,rfl,Nat.le_refl _,Nat.le_add_right _ _,u⟩
theorem getD_of {q:Array Nat} {a b:Nat} (e:q[a]? = p[b]?) : q.getD a 0 = p.getD b 0:=by
  rw [Array.getD_eq_getD_getElem?,Array.getD_eq_getD_getElem?,e]
theorem rev_at (hp:P n p) {m:Nat} (hm:m ≤ n) (k:Nat) : (kas_rev p 0 m).getD k 0 = if k < m then p.getD (m - 1 - k) 0 else p.getD k 0:=by
  have h:=getElem?_mirror_all (xs:=p) (i:=0) (j:=m) (by rw [hp.size]; exact hm) k
  by_cases hk:k < m
  · rw [if_pos hk]
    rw [if_pos ⟨Nat.zero_le _,hk⟩] at h
    refine getD_of (h.trans ?_)
    congr 1
    omega
  · rw [if_neg hk]
    rw [if_neg (by omega)] at h
    exact getD_of h
theorem rev_P (hp:P n p) (m:Nat) : P n (kas_rev p 0 m):=(Array.perm_iff_toList_perm.mp (mirror_perm p 0 m _)).trans hp
theorem rev_up (hp:P n p) {m:Nat} (hm:m ≤ n) (d:Down f p m) : Up f (kas_rev p 0 m) m:=by
  intro a b ab bm
  rw [rev_at hp hm,rev_at hp hm,if_pos (by omega),if_pos bm]
  exact d _ _ (by omega) (by omega)
theorem tail3 (T:Tot f n) (hp:P n p) {m:Nat} (h1 : 1 ≤ m) (hm:m ≤ n) (d:Down f p m) : Wp f n (kas_tail3 m n p) fun r=>1 ≤ r.1 ∧ r.1 ≤ n ∧ P n r.2 ∧ Up f r.2 r.1:=by
  refine Wp.bind ((asc T (rev_P hp m) (n - m) m h1 (by omega) (rev_up hp hm d)).mono fun r q=>?_)
  exact ⟨by omega,by omega,rev_P hp m,q.2.2.1⟩
theorem count (T:Tot f n) (hp:P n p) (h1 : 1 ≤ n) : Wp f n (kas_count n p) fun r=>1 ≤ r.1 ∧ r.1 ≤ n ∧ P n r.2 ∧ Up f r.2 r.1:=by
  refine Wp.bind ((asc T hp (n - 1) 1 (Nat.le_refl _) (by omega) (fun a b ab hb=>absurd hb (by omega))).mono fun m q=>?_)
  obtain ⟨q1,q2,q3,q4⟩:=q
  by_cases e:m = n
  · rw [if_pos (by simp [e])]
    exact ⟨q1,by omega,hp,q3⟩
  · rw [if_neg (by simp [e])]
    by_cases e2:m > 1
    · rw [if_pos e2]
      refine ⟨hp.lt (by omega),hp.lt (by omega),fun z=>?_,?_⟩
      · have:=hp.inj (by omega) (by omega) z
        omega
      rw [q3 0 (m - 1) (by omega) (by omega)]
      exact ⟨q1,by omega,hp,q3⟩
    · rw [if_neg e2]
      have e3:m = 1:=by omega
      subst e3
      have h:=q4 (by omega)
      have d2:Down f p 2:=fun a b ab hb=>by
        have ea:a = 0:=by omega
        have eb:b = 1:=by omega
        subst ea eb
        exact h
      refine Wp.bind ((desc T hp (n - 2) 2 (Nat.le_refl _) (by omega) d2).mono fun r q=>?_)
      obtain ⟨r1,r2,r3,r4,r5⟩:=q
      rw [if_neg (by omega),r1]
      exact tail3 T hp (by omega) (by omega) r5
theorem place (T:Tot f n) (hp:P n p) {k:Nat} (hk:k < n) (u:Up f p k) : ∀ (c l r:Nat),l ≤ r → r ≤ k → r - l ≤ c → (∀ i,i < l → f (p.getD i 0) (p.getD k 0) = true) → (∀ i,r ≤ i → i < k → f (p.getD k 0) (p.getD i 0) = true) →
    Wp f n (kas_place p k c l r) fun q=>q ≤ k ∧ (∀ i,i < q → f (p.getD i 0) (p.getD k 0) = true) ∧ (∀ i,q ≤ i → i < k → f (p.getD k 0) (p.getD i 0) = true)
  | 0,l,r,h1,h2,h3,h4,h5=>⟨by omega,h4,fun i a b=>h5 i (by omega) b⟩
  | c + 1,l,r,h1,h2,h3,h4,h5=>by
    show Wp f n (if l ≥ r then .ret l else _) _
    by_cases e:l ≥ r
    · rw [if_pos e]
      exact ⟨by omega,h4,fun i a b=>h5 i (by omega) b⟩
    · rw [if_neg e]
      refine ⟨hp.lt hk,hp.lt (by omega),fun z=>?_,?_⟩
      · have:=hp.inj hk (by omega) z
        omega
      cases h:f (p.getD k 0) (p.getD ((l + r) / 2) 0) with
      | true=>
        show Wp f n (kas_place p k c l ((l + r) / 2)) _
        refine place T hp hk u c l _ (by omega) (by omega) (by omega) h4 fun i a b=>?_
        by_cases ei:i = (l + r) / 2
        · rw [ei]
          exact h
        · exact T.tr _ _ _ (hp.lt hk) (hp.lt (by omega)) (hp.lt (by omega)) h (u _ _ (by omega) b)
      | false=>
        have h':=T.tot _ _ (hp.lt hk) (hp.lt (by omega)) (fun z=>by have:=hp.inj hk (by omega) z; omega) h
        show Wp f n (kas_place p k c ((l + r) / 2 + 1) r) _
        refine place T hp hk u c _ r (by omega) h2 (by omega) (fun i a=>?_) h5
        by_cases ei:i = (l + r) / 2
        · rw [ei]
          exact h'
        · exact T.tr _ _ _ (hp.lt (by omega)) (hp.lt (by omega)) (hp.lt hk) (u _ _ (by omega) (by omega)) h'
theorem bubble_at (hp:P n p) {k l:Nat} (hk:k < n) (hl:l ≤ k) (i:Nat) : (bubble p k (k - l)).getD i 0 = if i = l then p.getD k 0 else if l < i ∧ i ≤ k then p.getD (i - 1) 0 else p.getD i 0:=by
  have h:=getElem?_bubble (xs:=p) (src:=k) (by rw [hp.size]; exact hk) (k - l) (by omega) i
  rw [show k - (k - l) = l by omega] at h
  by_cases e:i = l
  · rw [if_pos e] at h ⊢
    exact getD_of h
  · rw [if_neg e] at h ⊢
    by_cases e2:l < i ∧ i ≤ k
    · rw [if_pos e2] at h ⊢
      exact getD_of h
    · rw [if_neg e2] at h ⊢
      exact getD_of h
theorem bubble_up (hp:P n p) {k l:Nat} (hk:k < n) (hl:l ≤ k) (u:Up f p k) (h1 : ∀ i,i < l → f (p.getD i 0) (p.getD k 0) = true) (h2 : ∀ i,l ≤ i → i < k → f (p.getD k 0) (p.getD i 0) = true) : Up f (bubble p k (k - l)) (k + 1):=by
  intro a b ab bm
  rw [bubble_at hp hk hl,bubble_at hp hk hl]
  by_cases ea:a = l
  · rw [if_pos ea,if_neg (by omega),if_pos ⟨by omega,by omega⟩]
    exact h2 _ (by omega) (by omega)
  · rw [if_neg ea]
    by_cases eb:b = l
    · rw [if_neg (by omega),if_pos eb]
      exact h1 _ (by omega)
    · rw [if_neg eb]
      by_cases e1:l < a ∧ a ≤ k
      · rw [if_pos e1,if_pos ⟨by omega,by omega⟩]
        exact u _ _ (by omega) (by omega)
      · rw [if_neg e1]
        by_cases e2:l < b ∧ b ≤ k
        · rw [if_pos e2]
          exact u _ _ (by omega) (by omega)
        · rw [if_neg e2]
          exact u _ _ ab (by omega)
theorem bubble_P (hp:P n p) (k d:Nat) : P n (bubble p k d):=(Array.perm_iff_toList_perm.mp (bubble_perm p k d)).trans hp
end
theorem bin {f:Nat → Nat → Bool} {n:Nat} (T:Tot f n) : ∀ (c:Nat) (p:Array Nat) (k:Nat),P n p → k + c ≤ n → Up f p k → Wp f n (kas_bin c p k) fun r=>P n r ∧ Up f r (k + c)
  | 0,p,k,hp,_,u=>⟨hp,u⟩
  | c + 1,p,k,hp,hk,u=>by
    refine Wp.bind ((place T hp (k:=k) (by omega) u k 0 k (Nat.zero_le _) (Nat.le_refl _) (by omega) (fun i h=>absurd h (by omega)) (fun i a b=>absurd b (by omega))).mono fun l q=>?_)
    refine (bin T c _ (k + 1) (bubble_P hp k _) (by omega) (bubble_up hp (by omega) q.1 u q.2.1 q.2.2)).mono fun r q=>?_
    rw [show k + 1 + c = k + (c + 1) by omega] at q
    exact q
theorem range_P (n:Nat) : P n (List.toArray (List.range n)):=by
  unfold P
  rw [List.toList_toArray]
theorem sort {f:Nat → Nat → Bool} {n:Nat} (T:Tot f n) (h1 : 1 ≤ n) : Wp f n (kas_sort n) fun r=>P n r ∧ Up f r n:=by
  refine Wp.bind ((count T (range_P n) h1).mono fun r q=>?_)
  obtain ⟨q1,q2,q3,q4⟩:=q
  by_cases e:r.1 < n
  · rw [if_pos e]
    refine (bin T _ _ _ q3 (by omega) (by rw [show max r.1 1 = r.1 by omega]; exact q4)).mono fun z q=>?_
    rw [show max r.1 1 + (n - max r.1 1) = n by omega] at q
    exact q
  · rw [if_neg e]
    exact ⟨q3,by rw [show n = r.1 by omega]; exact q4⟩
end SortT
namespace L2
open PySem PySem.Spec PyProof.Rows PySem.W
section
variable {prog:Program} {w:World} {A:Around} {E:Value → Shared → Prop} {s:Shared}
theorem lex_ints {Q:Bool → Shared → Prop} : ∀ {vs us:List Value} {ns ms:List Int} (i:Nat),IntsAre vs ns → IntsAre us ms → Q (HT.lexLt ns ms) s → KatLex prog w A true (decide (ns.length < ms.length)) Q (vs.zip us) i s
  | [],[],[],[],_,_,_,q=>kat_nil (by simpa [HT.lexLt] using q)
  | [],_ :: _,[],_ :: _,_,_,_,q=>kat_nil (by simpa [HT.lexLt] using q)
  | _ :: _,[],_ :: _,[],_,_,_,q=>kat_nil (by simpa [HT.lexLt] using q)
  | _ :: vs,_ :: us,n :: ns,m :: ms,i,.cons _ t hv,.cons _ t' hu,q=>by
    rw [HT.lexLt_cons] at q
    refine kat_cons (wpAny_eqBool_int (kat_go (fun e=>?_) fun e=>?_))
    · have e':n = m:=by simpa using e
      rw [if_pos e'] at q
      refine kat_yes ?_
      show KatLex prog w A true _ Q (vs.zip us) (i + 1) s
      have h:=lex_ints (i + 1) hv hu q
      rw [show decide ((n :: ns).length < (m :: ms).length) = decide (ns.length < ms.length) by simp]
      exact h
    · have e' : ¬ n = m:=by simpa using e
      rw [if_neg e'] at q
      refine kat_no ?_
      cases i with
      | zero=>exact oneLt_int q
      | succ i=>exact kat_one _ _ (PyProof.Rows.lt_int q)
theorem sort_any {a:Addr} {vs:List Value} {n:Nat} {R:PySem.Fin → Shared → Prop} {Good:Array Nat → Prop} (ho:s.heap.get? a = some (seqObj "list" vs.toArray n)) (h64:vs.length < 64)
    (ask : 2 ≤ vs.length → ∀ s':Shared,(∀ b o,b ≠ a → s.heap.get? b = some o → s'.heap.get? b = some o) →
      wpAny (model prog w) A (keyKind' vs.toArray) (fun κ s1=>s1 = s' ∧ (kas_sort vs.length).kasWp (kas_ask prog w A κ vs) (fun p s2=>s2 = s' ∧ Good p) s') (fun _ _=>False) s')
    (one:vs.length < 2 → R (.done (.ret .none)) { s with heap:=sortedHeap s.heap a vs vs.toArray })
    (more : ∀ p:Array Nat,p.size = vs.length → Good p → R (.done (.ret .none)) { s with heap:=sortedHeap s.heap a vs (List.toArray (p.toList.map fun i=>vs.getD i Value.none)) }) :
    wpAny (model prog w) A (Builtin.«list.sort» ⟨[.ref a],[]⟩) R E s:=by
  have big:(64:Nat) ≤ sizeLine:=by decide
  obtain ⟨e1,ho1⟩ : ∃ e1,(s.heap.update a (Obj.mapSeq fun _=>#[])).get? a = some (seqObj "list" #[] e1):=⟨_,get?_update_seq ho (fun _=>#[])⟩
  have la:a < (s.heap.update a (Obj.mapSeq fun _=>(#[] : Array Value))).objs.size:=Heap.lt_size ho1
  have ho6:=Heap.get?_push_of_some (seqObj "list" #[] 0) (Heap.get?_push_of_some (seqObj "tuple" vs.toArray 0) ho1)
  have old : ∀ b o,b ≠ a → s.heap.get? b = some o → (((s.heap.update a (Obj.mapSeq fun _=>#[])).push (seqObj "tuple" vs.toArray 0)).push (seqObj "list" #[] 0)).get? b = some o:=fun b o hb e=>
    Heap.get?_push_of_some _ (Heap.get?_push_of_some _ ((Heap.get?_update_ne _ _ _ _ hb).trans e))
  rw [list_sort_plain]
  refine wpAny_bind (listItems_at ho rfl (wpAny_bind (listUpdate_at ho rfl (wpAny_bind (seqEpoch_at ho1 rfl (wpAny_bind (wpAny_newTuple (wpAny_bind (wpAny_newList (wpAny_holding ?_) (Nat.zero_le _))) (by show vs.length ≤ _; omega))))) (by show vs.toArray.size ≤ _; simp; omega) (Nat.zero_le _))))
  by_cases h2:vs.length < 2
  · have h2':vs.toArray.size < 2:=by simpa using h2
    have e:((vs.toArray.zip vs.toArray).map fun x:Value × Value=>x.2) = vs.toArray:=by
      apply Array.toList_inj.mp
      simp
      exact List.map_snd_zip (Nat.le_refl _)
    dsimp only
    rw [if_pos h2',if_pos h2']
    refine wpAny_bind (wpAny_pure ?_)
    rw [StateT.run_pure]
    refine wpAny_bind (wpAny_pure (wpAny_bind (seqEpoch_at ho6 rfl (wpAny_bind (listUpdate_at ho6 rfl ?_ (Nat.zero_le _) ?_)))))
    · simp only [bne_self_eq_false,Bool.false_eq_true,if_false]
      have q:=one h2
      rw [← e] at q
      exact wpAny_pure q
    · show ((vs.toArray.zip vs.toArray).map fun x:Value × Value=>x.2).size ≤ _
      rw [e]
      simp
      omega
  · have h2' : ¬ vs.toArray.size < 2:=by simpa using h2
    dsimp only
    rw [if_neg h2',if_neg h2']
    refine wpAny_bind (wpAny_mono (ask (by omega) _ old) (fun κ s1 hk=>?_) fun _ _ z=>z.elim)
    obtain ⟨rfl,hk⟩:=hk
    refine wpAny_bind (wpAny_mono (kat_run (ks:=vs) (vs:=vs) (Q:=fun st' s2=>∃ p:Array Nat,p.size = vs.length ∧ arrOf st' = p.map (kas_item (vs.toArray.zip vs.toArray)) ∧ failedOf st' = none ∧ s2 = _ ∧ Good p) rfl (by omega) h64 (fun p st' s2 a1 a2 a3 a4=>⟨p,a1,a2,a3,a4⟩) hk) ?_ fun _ _ z=>z)
    rintro ⟨⟨⟩,st⟩ s2 ⟨p,hp,har,hf,rfl,good⟩
    have e:=kat_snds (ks:=vs) (vs:=vs) rfl har
    dsimp only
    rw [e]
    refine wpAny_bind (seqEpoch_at ho6 rfl (wpAny_bind (listUpdate_at ho6 rfl ?_ (Nat.zero_le _) ?_)))
    · rw [hf]
      simp only [bne_self_eq_false,Bool.false_eq_true,if_false]
      exact wpAny_pure (more p hp good)
    · rw [List.size_toArray,List.length_map,Array.length_toList,hp]
      omega
theorem sorted_any {l:Addr} {vs:List Value} {Q:Value → Shared → Prop} {Good:Array Nat → Prop} (hl:s.heap.IsList l vs.toArray) (h64:vs.length < 64)
    (ask : 2 ≤ vs.length → ∀ s':Shared,(∀ b o,s.heap.get? b = some o → s'.heap.get? b = some o) →
      wpAny (model prog w) A.in1.in1 (keyKind' vs.toArray) (fun κ s1=>s1 = s' ∧ (kas_sort vs.length).kasWp (kas_ask prog w A.in1.in1 κ vs) (fun p s2=>s2 = s' ∧ Good p) s') (fun _ _=>False) s')
    (one:vs.length < 2 → Q (.ref (s.heap.objs.size + 1)) { s with heap:=sortedAll s.heap vs vs.toArray })
    (more : ∀ p:Array Nat,p.size = vs.length → Good p → Q (.ref (s.heap.objs.size + 1)) { s with heap:=sortedAll s.heap vs (List.toArray (p.toList.map fun i=>vs.getD i Value.none)) }) :
    wpAny (model prog w) A (call (.builtin "sorted") [.ref l]) Q E s:=by
  have big:(64:Nat) ≤ sizeLine:=by decide
  have sz:((s.heap.push (seqObj "list" #[] 0)).update s.heap.objs.size (Obj.mapSeq (· ++ vs.toArray))).objs.size = s.heap.objs.size + 1:=(Heap.size_update ..).trans (size_push' ..)
  have at1:(((s.heap.push (seqObj "list" #[] 0)).update s.heap.objs.size (Obj.mapSeq (· ++ vs.toArray))).push (seqObj "list" vs.toArray 0)).get? (s.heap.objs.size + 1) = some (seqObj "list" vs.toArray 0):=sz ▸ Heap.get?_push_size _ rfl
  have old : ∀ b o,s.heap.get? b = some o → (((s.heap.push (seqObj "list" #[] 0)).update s.heap.objs.size (Obj.mapSeq (· ++ vs.toArray))).push (seqObj "list" vs.toArray 0)).get? b = some o:=fun b o e=>
    Heap.get?_push_of_some _ ((Heap.get?_update_ne _ _ _ _ (Nat.ne_of_lt (Heap.lt_size e))).trans (Heap.get?_push_of_some _ e))
  have body:=sort_any (prog:=prog) (w:=w) (A:=A.in1.in1) (E:=E) (a:=s.heap.objs.size + 1) (Good:=Good) (R:=fun f s'=>f = .done (.ret .none) ∧ Q (.ref (s.heap.objs.size + 1)) s')
    (s:={ s with heap:=((s.heap.push (seqObj "list" #[] 0)).update s.heap.objs.size (Obj.mapSeq (· ++ vs.toArray))).push (seqObj "list" vs.toArray 0) }) at1 h64
    (fun h2 s' k=>ask h2 s' fun b o e=>k b o (Nat.ne_of_lt (Nat.lt_succ_of_lt (Heap.lt_size e))) (old b o e)) (fun h=>⟨rfl,one h⟩) (fun p hp g=>⟨rfl,more p hp g⟩)
  refine Calls.call_function_entry kind_sorted plain_sorted entry_sorted (args_sorted1 _) ?_
  show wpAny (model prog w) A.in1 (do checkCount "sorted" 1 1 _; _) _ _ s
  refine wpAny_bind (m:=checkCount "sorted" 1 1 _) (wpAny_pure (wpAny_bind (collect_list hl (wpAny_bind (wpAny_newList ?_ (by omega))) (by omega))))
  show wpAny (model prog w) A.in1 _ _ E { s with heap:=((s.heap.push (seqObj "list" #[] 0)).update s.heap.objs.size (Obj.mapSeq (· ++ vs.toArray))).push (seqObj "list" vs.toArray 0) }
  rw [sz]
  exact wpAny_bind (wpAny_holding (wpAny_call_entry slot_list_sort ⟨_,at1,rfl⟩ entry_list_sort (wpAny_mono body (fun f s' z=>⟨_,z.1,wpAny_pure ⟨_,rfl,z.2⟩⟩) fun _ _ z=>z) (args_list_sort _)))
end
theorem lex_asy : ∀ {a b:List Int},HT.lexLt a b = true → HT.lexLt b a = false
  | [],[],h=>by cases h
  | [],_ :: _,_=>rfl
  | _ :: _,[],h=>by cases h
  | x :: a,y :: b,h=>by
    rw [HT.lexLt_cons] at h ⊢
    by_cases e:x = y
    · rw [if_pos e] at h
      rw [if_pos e.symm]
      exact lex_asy h
    · rw [if_neg e] at h
      rw [if_neg (fun z=>e z.symm)]
      have:=of_decide_eq_true h
      exact decide_eq_false (by omega)
theorem lex_tot : ∀ {a b:List Int},a ≠ b → HT.lexLt a b = false → HT.lexLt b a = true
  | [],[],h,_=>absurd rfl h
  | [],_ :: _,_,h=>by cases h
  | _ :: _,[],_,_=>rfl
  | x :: a,y :: b,h,h'=>by
    rw [HT.lexLt_cons] at h' ⊢
    by_cases e:x = y
    · subst e
      rw [if_pos rfl] at h' ⊢
      exact lex_tot (fun z=>h (by rw [z])) h'
    · rw [if_neg e] at h'
      rw [if_neg (fun z=>e z.symm)]
      have:=of_decide_eq_false h'
      exact decide_eq_true (by omega)
theorem lex_tr : ∀ {a b c:List Int},HT.lexLt a b = true → HT.lexLt b c = true → HT.lexLt a c = true
  | [],[],_,h,_=>by cases h
  | [],_ :: _,[],_,h=>by cases h
  | [],_ :: _,_ :: _,_,_=>rfl
  | _ :: _,[],_,h,_=>by cases h
  | _ :: _,_ :: _,[],_,h=>by cases h
  | x :: a,y :: b,z :: c,h,h'=>by
    rw [HT.lexLt_cons] at h h' ⊢
    by_cases e:x = y
    · subst e
      rw [if_pos rfl] at h
      by_cases e2:x = z
      · rw [if_pos e2] at h' ⊢
        exact lex_tr h h'
      · rw [if_neg e2] at h' ⊢
        exact h'
    · rw [if_neg e] at h
      have h1:=of_decide_eq_true h
      by_cases e2:y = z
      · subst e2
        rw [if_neg e]
        exact h
      · rw [if_neg e2] at h'
        have h2:=of_decide_eq_true h'
        rw [if_neg (by omega)]
        exact decide_eq_true (by omega)
theorem wp_ask {f:Nat → Nat → Bool} {n:Nat} {s:Shared} {cmp:Nat → Nat → (Bool → Shared → Prop) → Shared → Prop} {α : Type} {R : α → Prop} (hc : ∀ i j C,i < n → j < n → C (f i j) s → cmp i j C s) :
    ∀ {t:KasT α},SortT.Wp f n t R → t.kasWp cmp (fun p s2=>s2 = s ∧ R p) s
  | .ret _,h=>⟨rfl,h⟩
  | .ask i j _,⟨a,b,_,h⟩=>hc i j _ a b (wp_ask hc h)
theorem range_getD {α : Type} (d : α) (l:List α) : (List.range l.length).map (fun i=>l.getD i d) = l:=by
  apply List.ext_getElem
  · simp
  · intro i h1 h2
    simp [h2]
section
variable {X:Cx} {pins:List (Addr × Obj)} {σ : St} {H:Hp} {s:Shared}
theorem paired_at {α β : Type} {F : α → β → Prop} {d : α} {e : β} : ∀ {xs:List α} {ys:List β} {i:Nat},Paired F xs ys → i < xs.length → F (xs.getD i d) (ys.getD i e)
  | _,_,_,.nil,h=>absurd h (Nat.not_lt_zero _)
  | _,_,0,.cons h _,_=>h
  | _,_,i + 1,.cons _ r,h=>paired_at (i:=i) r (by simpa using h)
theorem paired_pick {α β : Type} {F : α → β → Prop} {d : α} {e : β} {xs:List α} {ys:List β} (h:Paired F xs ys) : ∀ {l:List Nat},(∀ i ∈ l,i < xs.length) → Paired F (l.map fun i=>xs.getD i d) (l.map fun i=>ys.getD i e)
  | [],_=>.nil
  | i :: l,q=>.cons (paired_at h (q i (by simp))) (paired_pick h fun j hj=>q j (by simp [hj]))
def TupsAt (K:PySem.W.Frag) (H:Hp) (vs:List V) (ts:List (List Int)) : Prop:=Paired (fun v t=>∃ a,v = .ref a ∧ SqT K H a (t.map V.int)) vs ts
theorem fsts : ∀ {h:Heap} {its:List Value} {ts:List (List Int)},Paired (fun u t=>∃ a xs,u = Value.ref a ∧ IsTup h a xs ∧ IntsAre xs.toList t) its ts → (∀ t ∈ ts,t ≠ []) → ∃ fs,KatTups h its fs ∧ fs.length = its.length ∧ ∀ v ∈ fs,∃ i k,v = Value.int i k
  | _,_,_,.nil,_=>⟨[],KatTups.nil,rfl,fun _ z=>by cases z⟩
  | h,_,t :: ts,.cons ⟨a,xs,e,⟨o,ho,hc,n,hd⟩,hi⟩ r,ne=>by
    subst e
    obtain ⟨fs,k,l,q⟩:=fsts r fun z hz=>ne z (by simp [hz])
    obtain ⟨x,hx⟩ : ∃ x r,xs.toList = x :: r:=by
      cases hxs:xs.toList with
      | nil=>
        rw [hxs] at hi
        cases hi
        exact absurd rfl (ne [] (by simp))
      | cons x r=>exact ⟨x,r,rfl⟩
    obtain ⟨rr,hx⟩:=hx
    have h0:xs[0]? = some x:=by rw [← Array.getElem?_toList,hx]; rfl
    rw [hx] at hi
    refine ⟨x :: fs,KatTups.cons ho hc hd h0 k,by simp [l],fun v hv=>?_⟩
    rcases List.mem_cons.mp hv with rfl | hv
    · cases hi with
      | cons i k _=>exact ⟨i,k,rfl⟩
    · exact q v hv
theorem paired_two {α β γ : Type} {F : α → β → Prop} {G : α → γ → Prop} {L : β → γ → Prop} (h : ∀ v u t,F v u → G v t → L u t) : ∀ {vs:List α} {us:List β} {ts:List γ},Paired F vs us → Paired G vs ts → Paired L us ts
  | _,_,_,.nil,.nil=>.nil
  | _,_,_,.cons a r,.cons b q=>.cons (h _ _ _ a b) (paired_two h r q)
theorem lex_order {ts:List (List Int)} (nd:ts.Nodup) : SortT.Tot (fun i j=>HT.lexLt (ts.getD i []) (ts.getD j [])) ts.length where
  tot:=fun i j hi hj ne h=>lex_tot (fun e=>ne (by
    rw [List.getD_eq_getElem?_getD,List.getD_eq_getElem?_getD,List.getElem?_eq_getElem hi,List.getElem?_eq_getElem hj] at e
    exact (List.getElem_inj nd).mp e)) h
  asy:=fun _ _ _ _ h=>lex_asy h
  tr:=fun _ _ _ _ _ _ h1 h2=>lex_tr h1 h2
theorem ints_len : ∀ {vs:List Value} {ns:List Int},IntsAre vs ns → vs.length = ns.length
  | _,_,.nil=>rfl
  | _,_,.cons _ _ r=>by rw [List.length_cons,List.length_cons,ints_len r]
theorem call_sortedTX:CallR X (.builtin "sorted") (fun xs H Q=>∃ (p:Addr) (vs:List V) (ts:List (List Int)),xs = [.ref p] ∧ SqL X.K H p vs ∧ TupsAt X.K H vs ts ∧ vs.length < 64 ∧ ts.Nodup ∧ (∀ t ∈ ts,t ≠ []) ∧
    ∀ (q:Addr) (vs':List V) (ts':List (List Int)) (ix:List Nat),H q = none → ix.Perm (List.range vs.length) → vs' = ix.map (fun i=>vs.getD i .non) → ts' = ix.map (fun i=>ts.getD i []) → vs'.Perm vs → ts'.Perm ts → TupsAt X.K H vs' ts' → ts'.Pairwise (fun a b=>HT.lexLt a b = true) → Q (.ref q) (upd H q (.lst vs'))):=by
  intro pins s σ H xs us Q I r h
  obtain ⟨p,vs,ts,rfl,hq,ht,h64,nd,ne,q⟩:=h
  obtain ⟨u,rfl,rx⟩:=vals1 r
  cases rx
  obtain ⟨its,r',pl,hz⟩:=I.list hq
  have l1:vs.length = its.length:=r'.length
  have l2:vs.length = ts.length:=Paired.length ht
  have hn:H (s.heap.objs.size + 1) = none:=I.hok.fresh (Nat.le_succ _)
  have end_ : ∀ (out:List Value) (vs':List V) (ts':List (List Int)) (ix:List Nat),ix.Perm (List.range vs.length) → vs' = ix.map (fun i=>vs.getD i .non) → ts' = ix.map (fun i=>ts.getD i []) → Vals vs' out → vs'.Perm vs → ts'.Perm ts → TupsAt X.K H vs' ts' → ts'.Pairwise (fun a b=>HT.lexLt a b = true) →
      EP X pins σ Q (.ref (s.heap.objs.size + 1)) { s with heap:=sortedAll s.heap its out.toArray }:=fun out vs' ts' ix b1 b2 b3 a1 a2 a3 a4 a5=>by
    obtain ⟨e,he⟩:=sortedAll_at s.heap its out.toArray
    refine ⟨.ref (s.heap.objs.size + 1),_,I.laid (a:=s.heap.objs.size + 1) (o:=.lst vs') (t':=s.toks) (fun b o z=>sortedAll_old z) (Nat.le_succ _) ⟨?_,out,e,a1,he⟩,rfl,q _ vs' ts' ix hn b1 b2 b3 a2 a3 a4 a5⟩
    rw [a2.length_eq]
    exact hz
  have tt:Paired (fun u t=>∃ a xs,u = Value.ref a ∧ IsTup s.heap a xs ∧ IntsAre xs.toList t) its ts:=paired_two (fun v u t hv hu=>by
    obtain ⟨a,rfl,ha⟩:=hu
    cases hv
    obtain ⟨ys,ry,hy,_⟩:=I.tuple ha
    exact ⟨a,ys.toArray,rfl,hy,intsAre_of ry⟩) r' ht
  refine sorted_any pl.isList (by omega) (Good:=fun p=>SortT.P its.length p ∧ SortT.Up (fun i j=>HT.lexLt (ts.getD i []) (ts.getD j [])) p its.length) (fun h2 s' k=>?_) (fun h=>?_) (fun p hp g=>?_)
  · have tt':Paired (fun u t=>∃ a xs,u = Value.ref a ∧ IsTup s'.heap a xs ∧ IntsAre xs.toList t) its ts:=Paired.mapP tt fun u t ⟨a,xs,e,⟨o,ho,hr⟩,hi⟩=>⟨a,xs,e,⟨o,k a o ho,hr⟩,hi⟩
    obtain ⟨fs,kt,lf,hf⟩:=fsts tt' ne
    refine kat_kind (T:=Value.type "int") kt (by omega) (fun v hv=>?_) rfl ⟨rfl,?_⟩
    · obtain ⟨i,t,rfl⟩:=hf v hv
      exact .now
    have hs:=SortT.sort (lex_order nd) (by omega)
    rw [← l2,l1] at hs
    refine wp_ask (fun i j C hi hj c=>?_) hs
    obtain ⟨a,xs,ea,⟨o,ho,hc,n,hd⟩,ia⟩:=paired_at (d:=Value.none) (e:=[]) tt' hi
    obtain ⟨b,ys,eb,⟨o',ho',hc',n',hd'⟩,ib⟩:=paired_at (d:=Value.none) (e:=[]) tt' hj
    unfold kas_ask
    rw [ea,eb]
    have q:=lex_ints (prog:=X.prog) (w:=X.w) (A:=X.A.in1.in1) 0 ia ib c
    rw [← ints_len ia,← ints_len ib] at q
    refine kat_lt ho hd ho' hd' ?_
    rw [show (Value.type "int" != Value.type "tuple") = true from rfl]
    simpa using q
  · refine end_ its vs ts (List.range vs.length) (List.Perm.refl _) (range_getD ..).symm (by rw [l2]; exact (range_getD ..).symm) r' (List.Perm.refl _) (List.Perm.refl _) ht ?_
    match ts,l2 with
    | [],_=>exact .nil
    | [_],_=>exact List.pairwise_singleton _ _
    | _ :: _ :: _,e=>exact absurd e (by simp; omega)
  · obtain ⟨g1,g2⟩:=g
    have hm : ∀ i ∈ p.toList,i < vs.length:=fun i hi=>by
      rw [l1]
      exact List.mem_range.mp (g1.mem_iff.mp hi)
    refine end_ _ (p.toList.map fun i=>vs.getD i .non) (p.toList.map fun i=>ts.getD i []) p.toList (by rw [l1]; exact g1) rfl rfl (paired_pick r' hm) ?_ ?_ (paired_pick ht hm) ?_
    · refine (g1.map _).trans ?_
      rw [← l1,range_getD]
    · refine (g1.map _).trans ?_
      rw [← l1,l2,range_getD]
    · rw [List.pairwise_map,List.pairwise_iff_getElem]
      intro i j hi hj ij
      have hj':j < its.length:=by rw [Array.length_toList,hp] at hj; exact hj
      have:=g2 i j ij hj'
      rw [SortT.getD_eq (by rw [hp]; omega),SortT.getD_eq (by rw [hp]; omega)] at this
      simpa using this
theorem call_sortedT:CallR X (.builtin "sorted") (fun xs H Q=>∃ (p:Addr) (vs:List V) (ts:List (List Int)),xs = [.ref p] ∧ SqL X.K H p vs ∧ TupsAt X.K H vs ts ∧ vs.length < 64 ∧ ts.Nodup ∧ (∀ t ∈ ts,t ≠ []) ∧
    ∀ (q:Addr) (vs':List V) (ts':List (List Int)),H q = none → vs'.Perm vs → ts'.Perm ts → TupsAt X.K H vs' ts' → ts'.Pairwise (fun a b=>HT.lexLt a b = true) → Q (.ref q) (upd H q (.lst vs'))):=by
  intro pins s σ H xs us Q I r h
  obtain ⟨p,vs,ts,e,h1,h2,h3,h4,h5,q⟩:=h
  exact call_sortedTX pins s σ H xs us Q I r ⟨p,vs,ts,e,h1,h2,h3,h4,h5,fun q' vs' ts' ix a _ _ _ b c d f=>q q' vs' ts' a b c d f⟩
end
end L2
namespace L2
open PySem PySem.Spec PyProof.Rows
def TupI (K:PySem.W.Frag) (H:Hp) (x:V) (ns:List Int) : Prop:=∃ a,x = .ref a ∧ SqT K H a (ns.map V.int)
noncomputable def isT (K:PySem.W.Frag) (H:Hp) (n:List Int) (u:Value) : Bool:=@decide (∃ a,u = .ref a ∧ SqT K H a (n.map V.int)) (Classical.propDecidable _)
theorem map_int_inj {ns ms:List Int} (h:ns.map V.int = ms.map V.int) : ns = ms:=by
  induction ns generalizing ms with
  | nil=>cases ms with
    | nil=>rfl
    | cons _ _=>cases h
  | cons n ns ih=>cases ms with
    | nil=>cases h
    | cons m ms=>
      rw [List.map_cons,List.map_cons] at h
      injection h with h1 h2
      injection h1 with h1
      rw [h1,ih h2]
section
variable {X:Cx} {pins:List (Addr × Obj)} {σ : St} {H:Hp} {s:Shared}
theorem isT_is (I:Inv X pins σ H s) {x:V} {u:Value} {ns n:List Int} (h:TupI X.K H x ns) (r:RelV x u) : isT X.K H n u = decide (ns = n):=by
  obtain ⟨a,rfl,ha⟩:=h
  cases r
  unfold isT
  by_cases e:ns = n
  · subst e
    rw [decide_eq_true rfl]
    exact @decide_eq_true _ (Classical.propDecidable _) ⟨a,rfl,ha⟩
  · rw [decide_eq_false e]
    refine @decide_eq_false _ (Classical.propDecidable _) fun ⟨b,z,hb⟩=>?_
    cases z
    exact e (map_int_inj (I.tuple_inj ha hb))
theorem tups_eqAt (I:Inv X pins σ H s) {A:Around} (hu:A.units + 60 < cLine) {x:V} {v:Value} {n:List Int} (hx:TupI X.K H x n) (rx:RelV x v) : ∀ {xs:List V} {us:List Value} {nss:List (List Int)},Vals xs us → Paired (TupI X.K H) xs nss → ∀ u ∈ us,SeqAt.EqAt A s u v (isT X.K H n u)
  | _,_,_,.nil,_=>fun u hu=>by cases hu
  | y :: xs,w :: us,m :: nss,.cons r t,.cons h hs=>fun u hm=>by
    rcases List.mem_cons.mp hm with rfl | hm
    · rw [isT_is I h r]
      obtain ⟨a,rfl,ha⟩:=h
      obtain ⟨b,rfl,hb⟩:=hx
      have q:=eqAt_D I 60 (.tup (m.map Dt.int)) (.tup (n.map Dt.int)) (.ref a) (.ref b) u v A (dep_tupI _) hu (hasD_tupI ha) (hasD_tupI hb) r rx
      rw [eqD_tupI] at q
      exact q
    · exact tups_eqAt I hu hx rx t hs u hm
theorem tups_any (I:Inv X pins σ H s) {n:List Int} : ∀ {xs:List V} {us:List Value} {nss:List (List Int)},Vals xs us → Paired (TupI X.K H) xs nss → us.any (isT X.K H n) = decide (n ∈ nss)
  | _,_,_,.nil,.nil=>by simp
  | y :: xs,w :: us,m :: nss,.cons r t,.cons h hs=>by
    rw [List.any_cons,isT_is I h r,tups_any I t hs]
    by_cases e:m = n
    · subst e; simp
    · have e' : ¬ n = m:=fun z=>e z.symm
      simp [e,e']
def rInT (K:PySem.W.Frag) (neg:Bool) : R2:=fun x y H Q=>∃ p xs n nss,y = .ref p ∧ SqL K H p xs ∧ TupI K H x n ∧ Paired (TupI K H) xs nss ∧ Q (.bl (if neg then !decide (n ∈ nss) else decide (n ∈ nss))) H
end
section
variable {X:Cx}
theorem op_inT (hu:X.A.units + 64 < cLine) : OpR X (compareOp .In) (rInT X.K false):=by
  intro pins s σ H x y v u Q I rx ry h
  obtain ⟨p,xs,n,nss,rfl,hq,hx,hs,q⟩:=h
  cases ry
  obtain ⟨its,r,pl,hz⟩:=I.list hq
  refine SeqAt.in_listAt (isT X.K H n) pl.isList (fun w hw=>tups_eqAt I ?_ hx rx r hs w (by simpa using hw)) ⟨.bl _,H,I,rfl,?_⟩
  · first | (have e:X.A.in1.units = X.A.units + 1:=rfl; omega) | (have e:X.A.in1.units = X.A.units:=rfl; omega) | (have e:=Around.units_in1 X.A; omega)
  · rw [show its.toArray.any (isT X.K H n) = its.any (isT X.K H n) by simp,tups_any I r hs]
    exact q
end
end L2
namespace L2
open PySem PySem.Spec PyProof.Rows
section
variable {X:Cx} {pins:List (Addr × Obj)} {σ : St} {H H':Hp} {s s':Shared} {ea:Addr} {cls:Value}
end
section
variable {X:Cx} {scope:Scope} {N':List Str} {ix:List (Option Nat)} {C:Addr} {fp:List Addr} {s₂:Shared} {H₂:Hp} {pins:List (Addr × Obj)} {σ : St}
theorem blk_leave0 (I:Inv X pins σ H₂ s₂) (hf : ∀ b ∈ fp,FpOk X pins H₂ b) {ps:List (Addr × Obj)} {σ':St} {H':Hp} {s':Shared} (I':Inv (blk X scope N' C fp s₂ H₂) ps σ' H' s') : Inv X pins σ H' s':=
  I.call' (ch:=fp) I'.os I'.base I'.hok I'.bare fun b hb=>by
    obtain ⟨_,f1,_,f3,f4,f5⟩:=hf b hb
    exact ⟨f3,f1,f4,f5⟩
end
section
variable {prog:Program} {w:World} {A:Around} {R:Result → Shared → Prop} {s:Shared}
end
section
variable {X:Cx} {scope:Scope} {N':List Str} {ix:List (Option Nat)}
variable {tg iter elt:Expr} {ifs:List Expr} {pos:Pos} {wi:TI} {g:TG} {ti:TT} {te:TE} {W:Value → Hp → Prop}
end
end L2
namespace L2
open PySem PySem.Spec PyProof.Rows
section
variable {X:Cx} {pins:List (Addr × Obj)} {σ : St} {H:Hp} {s:Shared} {a:Addr} {y v:V} {u r:Value} {A:Around} {E:Value → Shared → Prop}
theorem d_dictSet {H':Hp} {Q:Unit → Shared → Prop} (hu:A.units < cLine) (I:Inv X pins σ H s) (g:DPut H a y v H') (ry:RelV y u) (rv:RelV v r) (h : ∀ s',Inv X pins σ H' s' → Q () s') : wpAny (model X.prog X.w) A (dictSet a u r) Q E s:=by
  rcases g with ⟨kvs,k,e,ey,l,eH⟩ | ⟨kvs,k,b,e,ey,eb,l,eH⟩
  · subst ey eH
    obtain ⟨z,hd,vs,rel,dd⟩:=dk_of I.hok e
    have hz:vs.length ≤ sizeLine:=by rw [← rel.length]; exact z
    have hl:(putK kvs k v).length ≤ sizeLine:=by have:=length_putK kvs k v; omega
    refine wpAny_dictSet_pairs (hsz:=hz) (kV_is ry) dd fun h' dd' hs=>h _ ?_
    have he : ∃ q,h'.get? a = some q:=let ⟨q,_,_,hq,_⟩:=dd'; ⟨q,hq⟩
    exact d_write I (by rw [e]; exact True.intro) hs he (dk_new hl hd (rel.put k rv) dd')
  · subst ey eH
    cases (show u = Value.ref b from ry)
    obtain ⟨z,hd,xs,rel,dd⟩:=dt_of I.hok e
    have hz:xs.length ≤ sizeLine:=by rw [← Paired.length rel]; exact z
    have hl:(putK kvs k v).length ≤ sizeLine:=by have:=length_putK kvs k v; omega
    refine wpAny_dictSet_heap (hsz:=hz) (knd:=tupleKind (zh X.prog X.w)) hu (key_of I.hok eb) dd fun h' dd' hs=>h _ ?_
    obtain ⟨q,es,ep,hq,h2,h3,h4,_,h5⟩:=dd'
    refine d_write I (by rw [e]; exact True.intro) hs ⟨q,hq⟩ ⟨hl,hd,_,(rel.put k eb rv).keeps fun c ys ec=>?_,q,es,ep,hq,h2,h3,h4,h5⟩
    rw [je (ne_of ec e (fun z=>nomatch z))]
    exact ec
end
section
variable {prog:Program} {w:World} {A:Around} {R:Result → Shared → Prop} {s:Shared}
theorem dcLoop_own {kx vx target iter:Expr} {ifs:List Expr} {scope:Scope} {pos:Pos} {it:Value} {D:Addr} {env:Env} (I:Nat → Shared → Prop)
    (turn : ∀ n s,I n s → wpAny (model prog w) A (pyNext it) (fun r s₁=>match r with
      | none=>R (.ok .next) s₁
      | some v=>wpAny (model prog w) A (letOwnedTupleGo target it v) (fun _ s₁=>wpAny (model prog w) A (assign target env v) (fun _ s₂=>wpAny (model prog w) A (forIn ifs true fun c r=>if r = true then do let ok ← isTrue c env (eval c env); pure (ForInStep.yield ok) else pure (ForInStep.yield r)) (fun ok s₃=>
            if ok = true then wpAny (model prog w) A (eval kx env) (fun kv s₄=>wpAny (model prog w) A (eval vx env) (fun vv s₅=>wpAny (model prog w) A (dictSet D kv vv) (fun _ s₆=>∃ m,m < n ∧ I m s₆) NoE s₅) NoE s₄) NoE s₃
            else ∃ m,m < n ∧ I m s₃) NoE s₂) NoE s₁) NoE s₁) NoE s)
    (n:Nat) (h:I n s) : codeAny (model prog w) A (.compLoop (.DictComp kx vx [⟨target,iter,ifs,0⟩] scope pos) 0 it (.ref D) env) R s:=by
  refine codeAny_loop rfl I (fun n s hI=>?_) n h
  have no : ∀ {α : Type} {t:Sem α} {Q : α → Shared → Prop} {E:Value → Shared → Prop} {s:Shared},wpAny (model prog w) A t Q NoE s → wpAny (model prog w) A t Q E s:=fun h=>wpAny_mono h (fun _ _ q=>q) fun _ _ z=>z.elim
  show wpAny _ A ((compTurn (.DictComp kx vx [⟨target,iter,ifs,0⟩] scope pos) 0 it (.ref D) env).onRaise (fun x=>do noteFrame x env; theTreesLotGoes x)) _ _ s
  rw [compTurn_dict]
  refine wpAny_noted (wpAny_bind (wpAny_standAt (wpAny_bind (no (thn (turn n s hI) fun r s₁ h₁=>?_)))))
  cases r with
  | none=>exact wpAny_pure h₁
  | some v=>
    refine wpAny_bind (no (thn h₁ fun _ s₁ h₁=>wpAny_bind (no (thn h₁ fun _ s₂ h₂=>wpAny_bind (no (thn h₂ fun ok s₃ h₃=>?_))))))
    cases ok with
    | false=>exact wpAny_pure ⟨rfl,h₃⟩
    | true=>
      refine wpAny_bind (wpAny_bind (no (thn h₃ fun kv s₄ h₄=>wpAny_bind (wpAny_holding (no (thn h₄ fun vv s₅ h₅=>?_))))))
      exact wpAny_bind (wpAny_standAt (wpAny_holding (no (thn h₅ fun _ s₆ h₆=>wpAny_pure ⟨rfl,h₆⟩))))
end
section
variable {X:Cx} {scope:Scope} {N':List Str} {ix:List (Option Nat)} {C:Addr} {fp:List Addr} {s₂:Shared} {H₂:Hp} {pins:List (Addr × Obj)} {σ : St}
theorem blk_start0 (I:Inv X pins σ H₂ s₂) (co:CompOk X.N X.env.scope scope N' ix) {h₁:Heap} {t':Nat} (hC : @Eq Nat C s₂.heap.objs.size) (hf : ∀ b ∈ fp,FpOk X pins H₂ b) (hlt : ∀ b ∈ fp,b < s₂.heap.objs.size)
    (old : ∀ b o,s₂.heap.get? b = some o → h₁.get? b = some o) {m:Str → Option Value} (hns:h₁.Ns C m) :
    Inv (blk X scope N' C fp s₂ H₂) [] (blkSt ix σ) H₂ { s₂ with heap:=h₁,toks:=t' } where
  ok:=blk_ok I co (by omega) hf hlt
  os:=rfl
  bare:=I.bare
  base:=Un.kept old
  loc := by
    refine ⟨m,hns,fun i x v e1 e2 e3=>?_⟩
    unfold blkSt at e2
    rw [List.getElem?_map] at e2
    cases q:ix[i]? with
    | none=>rw [q] at e2; cases e2
    | some o=>
      rw [q] at e2
      cases o with
      | none=>cases e2
      | some k=>
        have e2':(σ[k]?).join = some v:=Option.some.inj e2
        have e2'' : σ[k]? = some (some v):=by
          cases z : σ[k]? with
          | none=>rw [z] at e2'; cases e2'
          | some o=>rw [z] at e2'; exact congrArg some e2'
        obtain ⟨o1,o2,o3⟩:=co.out i x k e1 q
        have hk:X.env.kindOf x = some .cell ∨ X.env.kindOf x = some .free:=co.frees _ o2 rfl
        obtain ⟨m0,_,hl⟩:=I.loc
        obtain ⟨u,r,l⟩:=hl k x v o1 e2'' (.inr hk)
        refine ⟨u,r,?_⟩
        rcases l with ⟨l,_⟩ | ⟨_,c,ec,hcell⟩
        · rcases hk with z | z
          · rw [z] at l; cases l
          · rw [z] at l; cases l
        · refine .inr ⟨?_,c,clOf_has o2 ec,?_⟩
          · rcases e3 with z | z | z
            · obtain ⟨k',hm,q⟩:=lookup_relabel z
              rcases q with q | ⟨_,q⟩
              · have:=o3 _ hm rfl
                rw [show k' = NameKind.local from q] at this
                cases this
              · cases q
            · exact .inl z
            · exact .inr z
          · obtain ⟨o,ho,hd⟩:=hcell
            exact ⟨o,old _ _ ho,hd⟩
  cell:=fun x c e=>by
    obtain ⟨v,o,ho,hd⟩:=I.cell x c (clOf_env e)
    exact ⟨v,o,old _ _ ho,hd⟩
  free:=I.hok.fresh (by show @LE.le Nat _ s₂.heap.objs.size C; omega)
  freeC:=fun x c e=>I.freeC x c (clOf_env e)
  pin:=fun p hp=>by
    have hp':p ∈ ([] : List (Addr × Obj)):=by simpa [blk] using hp
    cases hp'
  hok:=I.hok.kept old
  len:=by unfold blkSt; rw [List.length_map]; exact co.len
end
def DcW (J:It) (g:TG) (ti:TT) (tk tv:TE) (D:Addr) (QF:Hp → Prop) (W:Nat → Nat → St → Hp → Prop) : Prop:=∀ i m σ H,W i m σ H → (J.stop i H ∧ QF H) ∨
  (J.go i H ∧ ∃ N:St → Hp → Prop,(∀ σ' H',N σ' H' → ∃ m',m' < m ∧ W (i + 1) m' σ' H') ∧
    ∀ x H',J.yld i H x H' → g x σ H' fun σ2 H2=>ti σ2 H2 fun b H3=>if b = true then tk σ2 H3 fun y H4=>tv σ2 H4 fun z H5=>∃ H6,DPut H5 D y z H6 ∧ N σ2 H6 else N σ2 H3)
def tDc (new:HO) (ix:List (Option Nat)) (wi:TI) (g:TG) (ti:TT) (tk tv:TE) : TE:=fun σ H Q=>wi σ H fun J H1=>∀ D,H1 D = none → ∃ W:Nat → Nat → St → Hp → Prop,(∃ m,W 0 m (blkSt ix σ) (upd H1 D new)) ∧ DcW J g ti tk tv D (fun H=>Q (.ref D) H) W
section
variable {X:Cx}
theorem dblk_run {scope:Scope} {N':List Str} {ix:List (Option Nat)} {pins:List (Addr × Obj)} {σ : St} {tg iter kx vx:Expr} {ifs:List Expr} {pos:Pos} {g:TG} {ti:TT} {tk tv:TE} {E:Value → Shared → Prop} {D:Addr}
    (co:CompOk X.N X.env.scope scope N' ix) (hc:X.calm = true) (hu:X.A.units < cLine)
    (hg : ∀ C fp s₂ H₂,PG (blk X scope N' C fp s₂ H₂) tg g) (hi : ∀ C fp s₂ H₂,PIf (blk X scope N' C fp s₂ H₂) ifs ti) (hk : ∀ C fp s₂ H₂,PE (blk X scope N' C fp s₂ H₂) kx tk) (hv : ∀ C fp s₂ H₂,PE (blk X scope N' C fp s₂ H₂) vx tv)
    {H₂:Hp} {s₂:Shared} {J:It} {fp:List Addr} {it:Addr} {tn:Nat → Heap → Prop} {QF:Hp → Prop} {W:Nat → Nat → St → Hp → Prop}
    (I:Inv X pins σ H₂ s₂) (T:Turn X.prog X.w X.K tg J fp it tn) (st:tn 0 s₂.heap) (hf : ∀ b ∈ fp,FpOk X pins H₂ b) (w0 : ∃ m,W 0 m (blkSt ix σ) H₂) (hW:DcW J g ti tk tv D QF W)
    {RR:Addr → Result → Shared → Prop} (hRR : ∀ C H' s',Inv X pins σ H' s' → QF H' → Gone X pins H' s' C → RR C (.ok .next) s') :
    wpAny (model X.prog X.w) X.A (newFunctionEnv scope X.env.globals (clOf scope X.env) [] X.env.qual none .none (some X.env)) (fun cenv s₄=>
      codeAny (model X.prog X.w) X.A (.compStart (.DictComp kx vx [⟨tg,iter,ifs,0⟩] scope pos) 0 (.ref it) (.ref D) { cenv with scope:=relabel scope X.env }) (RR cenv.locals) s₄) E s₂:=by
  have hlt : ∀ b ∈ fp,@LT.lt Nat _ b s₂.heap.objs.size:=fun b hb=>by
    obtain ⟨o,e,_⟩:=T.obj _ _ st b hb
    exact Heap.lt_size e
  refine wpAny_newFunctionEnv co.nocell (by intro y hy; simp at hy) (fun h₁ hns₁ hsb₁=>?_) co.kind
  have below : ∀ b:Nat,b < s₂.heap.objs.size → ¬ @Eq Nat b s₂.heap.objs.size:=fun b hb=>by omega
  have old : ∀ b o,s₂.heap.get? b = some o → h₁.get? b = some o:=fun b o e=>hsb₁.extBut b o (below b (Heap.lt_size e)) (Heap.get?_push_of_some _ e)
  have st₁:tn 0 h₁:=T.keep _ _ _ st fun b _ o e=>old b o e
  generalize hCe:s₂.heap.objs.size = C at hns₁ hsb₁ below ⊢
  have loop : ∀ s₃:Shared,s₃ = { s₂ with heap:=h₁,toks:=s₂.toks + ([] : List (Str × Value)).length } →
      codeAny (model X.prog X.w) X.A (.compLoop (.DictComp kx vx [⟨tg,iter,ifs,0⟩] scope pos) 0 (.ref it) (.ref D) (compEnvC scope (clOf scope X.env) C X.env)) (RR C) s₃:=by
    rintro s₃ rfl
    obtain ⟨m0,w0⟩:=w0
    have I3:Inv (blk X scope N' C fp s₂ H₂) [] (blkSt ix σ) H₂ { s₂ with heap:=h₁,toks:=s₂.toks + ([] : List (Str × Value)).length }:=blk_start0 I co hCe.symm hf hlt old hns₁
    refine dcLoop_own (fun k s'=>∃ i σ' H',Inv (blk X scope N' C fp s₂ H₂) [] σ' H' s' ∧ tn i s'.heap ∧ (∀ b ∈ fp,H' b = none) ∧ W i k σ' H') ?_ m0 ⟨0,_,_,I3,st₁,fun b hb=>(hf b hb).1,w0⟩
    rintro k s' ⟨i,σ',H',I',st',fr',w'⟩
    have fpok : ∀ {H':Hp},(∀ b ∈ fp,H' b = none) → ∀ b ∈ fp,FpOk (blk X scope N' C fp s₂ H₂) [] H' b:=fun {H'} hn b hb=>by
      refine ⟨hn b hb,below b (hCe ▸ hlt b hb),fun z=>?_,.inl hb,fun x c e=>(hf b hb).2.2.2.2.1 x c (clOf_env e),fun p hp=>?_⟩
      · rcases List.mem_cons.mp (I.stkSub b z) with e | e
        · exact (hf b hb).2.1 e
        · exact (hf b hb).2.2.1 e
      · have hp':p ∈ ([] : List (Addr × Obj)):=by simpa [blk] using hp
        cases hp'
    rcases hW i k σ' H' w' with ⟨stop,q⟩ | ⟨go,N,hN,step⟩
    · refine thn (T.done (blk X scope N' C fp s₂ H₂) rfl rfl rfl hc i _ s' σ' H' NoE I' (fpok fr') st' stop) fun r s4 ⟨hr,I4⟩=>?_
      subst hr
      have cf:H' C = none:=I4.free
      refine hRR C H' s4 (blk_leave0 I hf I4) q ⟨?_,cf,?_,?_,fun x c e=>?_,fun p hp=>?_⟩
      · obtain ⟨m,hn,_⟩:=I4.loc
        exact ⟨m,hn⟩
      · have z : @LT.lt Nat _ X.env.locals s₂.heap.objs.size:=I.lt
        show ¬ @Eq Nat C X.env.locals
        omega
      · have z : @LE.le Nat _ X.s₀.heap.objs.size s₂.heap.objs.size:=I.sz
        show @LE.le Nat _ X.s₀.heap.objs.size C
        omega
      · obtain ⟨v,z⟩:=I.cell x c e
        have z2 : @LT.lt Nat _ c s₂.heap.objs.size:=z.lt
        show ¬ @Eq Nat c C
        omega
      · have z2 : @LT.lt Nat _ p.1 s₂.heap.objs.size:=Heap.lt_size (I.pin p hp).1
        show ¬ @Eq Nat p.1 C
        omega
    · refine thn (T.item (blk X scope N' C fp s₂ H₂) rfl rfl rfl hc i _ s' σ' H' NoE I' (fpok fr') st' go) fun r s4 ⟨u,hr,h4⟩=>?_
      subst hr
      refine thn h4 fun _ s5 ⟨x,H5,I5,r5,y5,st5,fr5⟩=>?_
      have I5':=I5.pinned (fpok fr5) (T.obj _ _ st5)
      refine thn (hg C fp s₂ H₂ _ s5 σ' H5 x u _ I5' r5 (step x H5 y5)) fun _ s6 ⟨σ6,H6,I6,q6⟩=>?_
      refine thn (hi C fp s₂ H₂ _ s6 σ6 H6 _ I6 q6) fun ok s7 ⟨H7,I7,q7⟩=>?_
      have back : ∀ {σ8:St} {H8:Hp} {s8:Shared},Inv (blk X scope N' C fp s₂ H₂) ([] ++ pinsAt fp s5.heap) σ8 H8 s8 → N σ8 H8 → ∃ m',m' < k ∧ ∃ i σ' H',Inv (blk X scope N' C fp s₂ H₂) [] σ' H' s8 ∧ tn i s8.heap ∧ (∀ b ∈ fp,H' b = none) ∧ W i m' σ' H':=fun {σ8 H8 s8} I8 n8=>by
        obtain ⟨m',hm,w8⟩:=hN _ _ n8
        have fpin : ∀ b ∈ fp,∀ o,s5.heap.get? b = some o → s8.heap.get? b = some o ∧ H8 b = none:=fun b hb o e=>by
          have z:=I8.pin (b,o) (List.mem_append_right _ (List.mem_append_right _ (mem_pinsAt hb e)))
          exact ⟨z.1,z.2.1⟩
        refine ⟨m',hm,i + 1,σ8,H8,I8.unpinned,T.keep _ _ _ st5 fun b hb o e=>(fpin b hb o e).1,fun b hb=>?_,w8⟩
        obtain ⟨o,e,_⟩:=T.obj _ _ st5 b hb
        exact (fpin b hb o e).2
      cases ok with
      | false=>
        have q7':=q7
        rw [if_neg Bool.false_ne_true] at q7'
        exact back I7 q7'
      | true=>
        have q7':=q7
        rw [if_pos rfl] at q7'
        show wpAny _ _ _ _ _ _
        refine thn (hk C fp s₂ H₂ _ s7 σ6 H7 _ I7 q7') fun kv s8 ⟨y,H8,I8,r8,q8⟩=>?_
        refine thn (hv C fp s₂ H₂ _ s8 σ6 H8 _ I8 q8) fun vv s9 ⟨z,H9,I9,r9,H10,dp,q9⟩=>?_
        exact d_dictSet (X:=blk X scope N' C fp s₂ H₂) (A:=X.A) hu I9 dp r8 r9 fun s10 I10=>back I10 q9
  exact codeAny_compStart_dict (loop _ rfl) (T.self _ 0 _ _ _ st₁ (loop _ rfl))
variable {scope:Scope} {N':List Str} {ix:List (Option Nat)} {tg iter kx vx:Expr} {ifs:List Expr} {pos:Pos} {wi:TI} {g:TG} {ti:TT} {tk tv:TE}
theorem pe_dcomp (new:HO) (hnew:new = .dK [] ∨ new = .dT []) (hu:X.A.units + 1 < cLine) (co:CompOk X.N X.env.scope scope N' ix) (hc:X.calm = true) (hit:PI X tg iter wi) (hg : ∀ C fp s₂ H₂,PG (blk X scope N' C fp s₂ H₂) tg g) (hi : ∀ C fp s₂ H₂,PIf (blk X scope N' C fp s₂ H₂) ifs ti)
    (hk : ∀ C fp s₂ H₂,PE (blk X scope N' C fp s₂ H₂) kx tk) (hv : ∀ C fp s₂ H₂,PE (blk X scope N' C fp s₂ H₂) vx tv) (hs : ∀ x,foldedSetIterable iter X.env x = pure x:=by intro _; rfl) :
    PE X (.DictComp kx vx [⟨tg,iter,ifs,0⟩] scope pos) (tDc new ix wi g ti tk tv):=by
  intro pins s σ H Q I h
  show wpAny _ _ (comprehension (.DictComp kx vx [⟨tg,iter,ifs,0⟩] scope pos) scope X.env _ newDict false (eval iter X.env)) _ _ s
  refine wpAny_comprehension_free (use:=none) rfl hs (comp_clos co I) co.kind co.names (thn (hit pins s σ H _ I h) fun xv s₁ h₁=>thn h₁ fun itv s₂ h₂=>?_)
  obtain ⟨it,fp,tn,J,H₂,e,I₂,T,st,hf,hq⟩:=h₂
  subst e
  refine wpAny_newObj_type ?_
  have hn:H₂ s₂.heap.objs.size = none:=I₂.hok.fresh (Nat.le_refl _)
  have hob:ObjOk X.prog X.w (upd H₂ s₂.heap.objs.size new) (s₂.heap.push { cls:=.type "dict",dict:=none,data:=.dict #[] }) s₂.heap.objs.size new:=by
    rcases hnew with z | z
    · rw [z]; exact dk_empty s₂.heap I₂.big
    · rw [z]; exact dt_empty s₂.heap I₂.big
  have I₃:Inv X pins σ (upd H₂ s₂.heap.objs.size new) { s₂ with heap:=s₂.heap.push { cls:=.type "dict",dict:=none,data:=.dict #[] } }:=I₂.laid (a:=s₂.heap.objs.size) (o:=new) (t':=s₂.toks) (fun _ _ q=>Heap.get?_push_of_some _ q) (Nat.le_refl _) hob
  obtain ⟨W,w0,hW⟩:=hq s₂.heap.objs.size hn
  have hf' : ∀ b ∈ fp,FpOk X pins (upd H₂ s₂.heap.objs.size new) b:=fun b hb=>by
    obtain ⟨f0,f⟩:=hf b hb
    obtain ⟨o,e,_⟩:=T.obj _ _ st b hb
    exact ⟨by rw [je (Nat.ne_of_lt (Heap.lt_size e))]; exact f0,f⟩
  refine dblk_run co hc (Nat.lt_of_succ_lt hu) hg hi hk hv I₃ T (T.keep _ _ _ st fun b _ o e=>Heap.get?_push_of_some _ e) hf' w0 hW
    (RR:=fun C=>compPost (model X.prog X.w) X.A X.xe none (EP X pins σ Q) (.ref s₂.heap.objs.size) C) fun C H' s' I' q G=>?_
  obtain ⟨m,hn⟩:=G.ns
  exact ⟨m,hn,fun h' hs'=>⟨.ref s₂.heap.objs.size,_,G.go I' hs',rfl,q⟩⟩
end
end L2
namespace L2
open PySem PySem.Spec PyProof.Rows
section
variable {X:Cx} {pins:List (Addr × Obj)} {σ : St} {H:Hp} {s:Shared} {h':Heap}
end
end L2
namespace L2
open PySem PySem.Spec PyProof.Rows
theorem argBest_le (bt:Nat → Nat → Bool) : ∀ k,argBest bt k ≤ k
  | 0=>Nat.le_refl _
  | k + 1=>by
    have:=argBest_le bt k
    unfold argBest
    split <;> omega
section
variable {prog:Program} {w:World} {A:Around} {s:Shared} {l it S:Addr} {vs:List Value} {bt:Nat → Nat → Bool} {R:Result → Shared → Prop}
end
section
variable {prog:Program} {w:World} {A:Around} {s:Shared} {l:Addr} {vs:List Value} {bt:Nat → Nat → Bool} {E:Value → Shared → Prop}
end
section
variable {X:Cx}
end
end L2
namespace L2
open PySem PySem.Spec PyProof.Rows
section
variable {X:Cx} {K:PySem.W.Frag}
theorem ix_listK (hK:X.K = K) : IxR X (rIxL K):=by
  subst hK
  exact zk
theorem ix_tupK (hK:X.K = K) : IxR X (rIxT K):=by
  subst hK
  exact ix_tup
end
end L2
namespace PySem
section
variable {prog:Program} {w:World} {K:Type} [DecidableEq K] {knd:HeapKind prog w K} {A:Around} {E:Value → Shared → Prop} {s:Shared}
theorem pushH {h:Heap} {d a:Addr} {xs:List (K × Addr × Value)} {k:K} {v:Value} {o:Obj} {es:Array DictEntry} {ep:Nat} (ho:h.get? d = some o) (hc:o.ExactDict) (hd:o.data = .dict es ep) (he:es.toList = xs.map (entryOfKey knd))
    (his : ∀ x ∈ xs,knd.is h x.1 x.2.1) (hn:(xs.map (·.1)).Nodup) (hkey:knd.is h k a) (hnot:k ∉ xs.map (·.1)) :
    (h.update d (Obj.mapDictKeys (·.push ⟨knd.hash k,.ref a,v⟩))).DictOfH knd d (xs ++ [(k,a,v)]):=by
  refine ⟨_,_,ep + 1,Heap.get?_update_self _ ho (Obj.isFreed_of_dict (Obj.data_mapDictKeys hd _)),hc.mapDictKeys _,Obj.data_mapDictKeys hd _,by simp [he,entryOfKey],fun x hx=>?_,?_⟩
  · have old:knd.is h x.1 x.2.1:=(List.mem_append.mp hx).elim (his x) fun z=>by
      rw [List.mem_singleton.mp z]
      exact hkey
    exact knd.keeps old ho hd (Heap.SameBut.update ..)
  · have p:((xs ++ [(k,a,v)]).map (·.1)).Perm (k :: xs.map (·.1)):=by
      rw [List.map_append]
      exact List.perm_append_comm
    exact p.nodup_iff.mpr (List.nodup_cons.mpr ⟨hnot,hn⟩)
theorem setDefH {d a:Addr} {xs:List (K × Addr × Value)} {k:K} {dflt:Value} {Q:Value → Shared → Prop} (hu:knd.room A) (hkey:knd.is s.heap k a) (hm:s.heap.DictOfH knd d xs) (hsz:xs.length ≤ sizeLine)
    (h1 : ∀ p,atKey xs k = some p → Q p.2 { s with toks:=s.toks + knd.draws k })
    (h2:atKey xs k = none → ∀ h',h'.DictOfH knd d (xs ++ [(k,a,dflt)]) → Heap.SameBut d s.heap h' → Q dflt { s with heap:=h',toks:=s.toks + knd.draws k }) :
    wpAny (model prog w) A (dictSetDefault d (.ref a) dflt) Q E s:=by
  obtain ⟨o,es,ep,ho,hc,hd,he,his,hn⟩:=hm
  have sz:es.size = xs.length:=by
    have:=congrArg List.length he
    simpa using this
  unfold dictSetDefault
  refine wpAny_holding (wpAny_bind (knd.pyHash hu hkey (wpAny_bind (wpAny_dictFind_heap (s:={ s with toks:=s.toks + knd.draws k }) hu hkey ho hd he his hn (fun hno=>?_) (fun j p hj=>?_)))))
  · refine wpAny_bind (wpAny_rule (wpAny_bind (wpAny_updateDictKeys (hz:=by omega) (s:={ s with toks:=s.toks + knd.draws k }) ho hd (wpAny_pure (h2 (atKey_none_of_get hno) _ (pushH ho hc hd he his hn hkey (not_mem_keys_of_get hno)) (Heap.SameBut.update ..))))))
  · refine wpAny_bind (wpAny_dictEntries (s:={ s with toks:=s.toks + knd.draws k }) ho hd ?_)
    rw [entry_at he j,hj]
    exact wpAny_bind (wpAny_rule (wpAny_pure (h1 _ (atKey_of_get hn hj))))
theorem meetsH_setdefault (knd:HeapKind prog w K) (d a:Addr) (hd:(d == sysModules) = false) (dflt:Value) :
    MeetsIn prog w (Builtin.«dict.setdefault» ⟨[.ref d,.ref a,dflt],[]⟩) (fun A R s=>knd.room A.in1 ∧ ∃ k xs,knd.is s.heap k a ∧ s.heap.DictOfH knd d xs ∧ xs.length ≤ sizeLine ∧
      (∀ p,atKey xs k = some p → R (.ok (.ret p.2)) { s with toks:=s.toks + knd.draws k }) ∧
      (atKey xs k = none → ∀ h',h'.DictOfH knd d (xs ++ [(k,a,dflt)]) → Heap.SameBut d s.heap h' → R (.ok (.ret dflt)) { s with heap:=h',toks:=s.toks + knd.draws k })):=
  .of_wp fun A R s ⟨hu,k,xs,hkey,hm,hz,h1,h2⟩=>by
    have run:=setDefH (prog:=prog) (w:=w) (E:=fun e s'=>R (.error e) s') (Q:=fun v s'=>R (.ok (.ret v)) s') hu hkey hm hz h1 h2
    unfold Builtin.«dict.setdefault» Builtin.Dict.keyAndDefault
    refine wpAny_bind (wpAny_bind (wpAny_notOrdered_dict hm.typeIs ?_))
    show wpAny _ _ (pure (d,Value.ref a,some dflt)) _ _ s
    refine wpAny_pure ?_
    show wpAny _ _ (if (d == sysModules) = true then _ else (dictSetDefault d (.ref a) dflt >>= _)) _ _ s
    rw [if_neg (by rw [hd]; exact Bool.false_ne_true)]
    exact wpAny_bind (wpAny_mono run (fun v s' q=>wpAny_pure ⟨v,rfl,q⟩) fun _ _ z=>z)
end
end PySem
namespace L2
open PySem PySem.Spec PyProof.Rows
def tDSetDef (td ty tx:TE) : TE:=fun σ H Q=>td σ H fun x H1=>∃ a,x = .ref a ∧ IsD H1 a ∧ ty σ H1 fun y H2=>tx σ H2 fun z H3=>∃ kvs k b,H3 a = some (.dT kvs) ∧ y = .ref b ∧ H3 b = some (.tup (k.map kV)) ∧ kvs.length < sizeLine ∧
  (∀ v,valV kvs k = some v → Q v H3) ∧ (valV kvs k = none → Q z (upd H3 a (.dT (putK kvs k z))))
section
variable {X:Cx} {o e f:Expr} {apos cpos:Pos} {td ty tx:TE}
theorem pe_dsetdef (hu:X.A.units + 1 < cLine) (ho:PE X o td) (he:PE X e ty) (hf:PE X f tx) (m:M2 X o "setdefault" apos e f cpos) : PE X (.Call (.Attribute o "setdefault" apos) [e,f] [] cpos) (tDSetDef td ty tx):=by
  intro pins s σ H Q I h
  refine wpAny_Call_method m.base m.few m.line PySem.F.plainAttrs_dict PySem.F.slot_dict_setdefault PySem.F.type_dict_setdefault (thn (ho pins s σ H _ I h) fun u s1 ⟨x,H1,I1,rx,a,ex,d,q1⟩=>?_)
  subst ex
  obtain rfl:u = Value.ref a:=rx
  obtain ⟨t1,t2,_⟩:=isD_at I1 d
  refine ⟨t1,t2,?_⟩
  rw [m.trees]
  refine Calls.callWith_builtin rfl (Calls.evalArgs_plain (Calls.spliced_cons (thn (he pins s1 σ H1 _ I1 q1) fun iv s2 ⟨y,H2,I2,ry,q2⟩=>
    Calls.spliced_cons (thn (hf pins s2 σ H2 _ I2 q2) fun fv s3 ⟨z,H3,I3,rz,kvs,k,b,ea,ey,eb,hl,g1,g2⟩=>Calls.spliced_nil ?_))))
  subst ey
  cases (show iv = Value.ref b from ry)
  obtain ⟨hz,hd,xs,rel,dd⟩:=dt_of I3.hok ea
  have hz':xs.length ≤ sizeLine:=by rw [← Paired.length rel]; exact hz
  refine call_meetsIn PySem.F.slot_dict_setdefault dd.typeIs PySem.F.entry_dict_setdefault (PySem.F.args_dict_setdefault_3 _ _ _) (meetsH_setdefault (tupleKind (zh X.prog X.w)) a b hd fv) ⟨tupleKind_room_in1 hu,k,xs,key_of I3.hok eb,dd,hz',fun p hp=>?_,fun hn h' dd' hs=>?_⟩
  · have rv:=rel.val k
    rw [hp] at rv
    cases hv:valV kvs k with
    | none=>
      rw [hv] at rv
      cases rv
    | some v=>
      rw [hv] at rv
      exact ⟨v,H3,I3.tok _,rv,g1 v hv⟩
  · have rv:=rel.val k
    rw [hn] at rv
    have hv:valV kvs k = none:=by
      cases hv:valV kvs k with
      | none=>rfl
      | some v=>
        rw [hv] at rv
        cases rv
    have hl2:(putK kvs k z).length ≤ sizeLine:=by have:=length_putK kvs k z; omega
    have rel':=rel.put k eb rz
    rw [storedH_new hn] at rel'
    obtain ⟨q,es,ep,hq,h2,h3,h4,_,h5⟩:=dd'
    refine ⟨z,_,d_write (ob:=.dT (putK kvs k z)) I3 (by rw [ea]; exact True.intro) hs ⟨q,hq⟩ ⟨hl2,hd,_,rel'.keeps fun c ys ec=>?_,q,es,ep,hq,h2,h3,h4,h5⟩,rz,g2 hv⟩
    rw [je (ne_of ec ea (fun z=>nomatch z))]
    exact ec
end
end L2
namespace PySem
section
variable {prog:Program} {w:World} {A:Around} {E:Value → Shared → Prop} {s:Shared}
theorem next_key {it d:Addr} {i ep:Nat} {es:Array DictEntry} {od:Obj} {Q:Option Value → Shared → Prop} (hit:s.heap.IsKeyIter it d i es.size ep) (hod:s.heap.get? d = some od) (hdd:od.data = .dict es ep) (hlt:i < es.size)
    (hQ : ∀ h',h'.IsKeyIter it d (i + 1) es.size ep → Heap.SameBut it s.heap h' → Q (some es[i].key) { s with heap:=h' }) : wpAny (model prog w) A (pyNext (.ref it)) Q E s:=by
  obtain ⟨o,ho,hc,hd⟩:=id hit
  have hT:=hit.typeIs
  unfold pyNext
  refine wpAny_bind (wpAny_attempt ?_)
  refine wpAny_callSpecial?_slot hT F.slot_dict_keyiterator_next ?_
  refine wpAny_call_entry F.slot_dict_keyiterator_next hT F.entry_dict_keyiterator_next ?_ (F.args_dict_keyiterator_next_1 _)
  unfold Builtin.«dict_keyiterator.__next__»
  wp_walk using wpAny_typeNameOfWhole_keyiter hT,wpAny_fieldsOf ho hd,wpAny_dictEntries hod hdd,wpAny_dictEpoch hod hdd,wpAny_isOneOf_keyiter hT
  rw [if_neg (show ¬ (i:Int) < 0 by omega),Int.toNat_natCast,Array.getElem?_eq_getElem hlt]
  have hown:Builtin.Dict_items.ownsTuple "dict_keyiterator" = false:=by decide
  have hit':(s.heap.update it (Obj.mapFields (·.setIfInBounds 1 (rawInt ((i:Int) + 1))))).IsKeyIter it d (i + 1) es.size ep:=
    ⟨_,Heap.get?_update_self _ ho (Obj.isFreed_of_fields (Obj.data_mapFields hd _)),(Obj.cls_mapFields ..).trans hc,by rw [Obj.data_mapFields hd]; simp [rawInt]⟩
  refine wpAny_bind ?_
  wp_walk using wpAny_typeNameOfWhole_keyiter hT
  rw [hd]
  show wpAny _ _ (update it (Obj.mapFields (·.setIfInBounds 1 (rawInt ((i:Int) + 1))))) _ _ s
  refine wpAny_update ho (wpAny_bind (wpAny_holding ?_))
  wp_walk using wpAny_isOneOf_keyiter (s:={ s with heap:=s.heap.update it (Obj.mapFields (·.setIfInBounds 1 (rawInt ((i:Int) + 1)))) }) hit'.typeIs
  exact ⟨_,rfl,wpAny_pure (hQ _ hit' (Heap.SameBut.update ..))⟩
theorem next_key_end {it d:Addr} {i ep:Nat} {es:Array DictEntry} {od:Obj} {Q:Option Value → Shared → Prop} (hh:A.handled = none) (hit:s.heap.IsKeyIter it d i es.size ep) (hod:s.heap.get? d = some od) (hdd:od.data = .dict es ep) (hge:es.size ≤ i)
    (hQ : ∀ h',Heap.ExtBut it s.heap h' → Q none { s with heap:=h' }) : wpAny (model prog w) A (pyNext (.ref it)) Q E s:=by
  obtain ⟨o,ho,hc,hd⟩:=id hit
  have hT:=hit.typeIs
  unfold pyNext
  refine wpAny_bind (wpAny_attempt ?_)
  refine wpAny_callSpecial?_slot hT F.slot_dict_keyiterator_next ?_
  refine wpAny_call_entry F.slot_dict_keyiterator_next hT F.entry_dict_keyiterator_next ?_ (F.args_dict_keyiterator_next_1 _)
  unfold Builtin.«dict_keyiterator.__next__»
  wp_walk using wpAny_typeNameOfWhole_keyiter hT,wpAny_fieldsOf ho hd,wpAny_dictEntries hod hdd,wpAny_dictEpoch hod hdd,wpAny_isOneOf_keyiter hT
  rw [if_neg (show ¬ (i:Int) < 0 by omega),Int.toNat_natCast,Array.getElem?_eq_none hge]
  wp_walk using wpAny_typeNameOfWhole_keyiter hT
  rw [hd]
  show wpAny _ _ (update it (Obj.mapFields (·.setIfInBounds 0 .none))) _ _ s
  refine wpAny_update ho ?_
  unfold newExc raiseNew newTuple firstArgMember
  wp_walk using wpAny_newObj_type
  all_goals first
    | (show wpAny _ _ (isSubtype (.type "StopIteration") (.type "StopIteration")) _ _ _
       rw [isSubtype_stop]
       exact wpAny_pure (wpAny_pure (hQ _ (((Heap.SameBut.update ..).extBut.push _).push _))))
    | (unfold autoParam; size_fits)
    | size_fits
theorem iter_key {d:Addr} {es:Array DictEntry} {ep:Nat} {od:Obj} {Q:Value → Shared → Prop} (hd:(d == sysModules) = false) (hod:s.heap.get? d = some od) (hx:od.ExactDict) (hdd:od.data = .dict es ep)
    (hQ:Q (.ref s.heap.objs.size) { s with heap:=s.heap.push { cls:=.type "dict_keyiterator",data:=.fields #[.ref d,.int 0 0,.int es.size 0,.int ep 0] } }) : wpAny (model prog w) A (pyIter (.ref d)) Q E s:=by
  have hT:s.TypeIs (.ref d) "dict" := ⟨od,hod,hx.1⟩
  have run:wpAny (model prog w) A.in1 (Builtin.«dict.__iter__» ⟨[.ref d],[]⟩) (fun fin s'=>fin = .done (.ret (.ref s.heap.objs.size)) ∧ s' = { s with heap:=s.heap.push { cls:=.type "dict_keyiterator",data:=.fields #[.ref d,.int 0 0,.int es.size 0,.int ep 0] } }) E s:=by
    unfold Builtin.«dict.__iter__» Builtin.Dict.dictSlotNone Builtin.Dict.showsAll
    wp_walk using wpAny_notOrdered_dict hT,wpAny_dictEntries hod hdd,wpAny_dictEpoch hod hdd
    exact ⟨rfl,rfl⟩
  refine wpAny_pyIter_slot hT F.slot_dict_iter (wpAny_call_entry F.slot_dict_iter hT F.entry_dict_iter (wpAny_mono run (fun f s' z=>?_) fun _ _ z=>z) (F.args_dict_iter_1 _))
  obtain ⟨rfl,rfl⟩:=z
  exact ⟨_,rfl,"dict_keyiterator",_,⟨_,Heap.get?_push_size _ rfl,rfl⟩,F.slot_dict_keyiterator_next.lookup,hQ⟩
end
end PySem
namespace L2
open PySem PySem.Spec PyProof.Rows
def ItdT (a:Addr) (o:Obj) (kvs:List (List Key × V)) : It where
  go:=fun i H=>i < kvs.length ∧ H a = some (.frz o (.dT kvs))
  yld:=fun i H x H'=>H' = H ∧ ∃ kv b,kvs[i]? = some kv ∧ x = .ref b ∧ H b = some (.tup (kv.1.map kV))
  stop:=fun i H=>kvs.length ≤ i ∧ H a = some (.frz o (.dT kvs))
theorem ql {α β : Type} {F : α → β → Prop} : ∀ {xs:List α} {ys:List β} {i:Nat} {x : α},Paired F xs ys → xs[i]? = some x → ∃ y,ys[i]? = some y ∧ F x y
  | _,_,_,_,.nil,e=>by simp at e
  | _,_,0,_,.cons h _,e=>by
    cases Option.some.inj e
    exact ⟨_,rfl,h⟩
  | _,_,i + 1,_,.cons _ r,e=>ql (i:=i) r e
theorem turn_dT {P:Program} {w:World} {K:PySem.W.Frag} {tg:Expr} (a it:Addr) (o:Obj) (kvs:List (List Key × V)) (es:Array DictEntry) (ep:Nat) (hd:o.data = .dict es ep) : Turn P w K tg (ItdT a o kvs) [it] it (fun i h=>h.IsKeyIter it a i kvs.length ep) where
  mem:=by simp
  obj:=fun i h st b hb=>by
    have e:b = it:=by simpa using hb
    subst e
    obtain ⟨o,e,c,d⟩:=st
    exact ⟨o,e,fun v z=>by rw [d] at z; cases z⟩
  keep:=fun i h h' st k=>st.at fun o e=>k it (by simp) o e
  item:=by
    intro X hP hw hK hc i pins s σ H E I hf st hg
    subst hP hw hK
    obtain ⟨hi,hq⟩:=hg
    obtain ⟨ho,hz,hs,xs,r,o',es',ep',ho',hx',hd',he,nd⟩:=I.hok a _ hq
    cases Option.some.inj (ho'.symm.trans ho)
    rw [hd] at hd'
    cases hd'
    have hsz:es.size = kvs.length:=by
      have e1:=congrArg List.length he
      rw [List.length_map,← Paired.length r] at e1
      simpa using e1
    obtain ⟨kv,ekv⟩ : ∃ kv,kvs[i]? = some kv:=⟨kvs[i],by simp [hi]⟩
    obtain ⟨x,ex,e1,e2,e3⟩:=ql r ekv
    have hlt:i < es.size:=by omega
    have hkey:es[i].key = .ref x.2.1:=by
      have h1:es.toList[i]? = some es[i]:=by simp [hlt]
      rw [he,List.getElem?_map,ex] at h1
      rw [← Option.some.inj h1]
      rfl
    obtain ⟨f0,f1,f2,f3,f4,f5⟩:=hf it (by simp)
    rw [← hsz] at st
    refine next_key st ho hd hlt fun h' st' sb=>?_
    have I1:Inv X pins σ H { s with heap:=h' }:=I.turned (t':=s.toks) (fun b o hb e=>(sb.2 b hb).trans e) f0 f1 f3 f4 f5
    rw [hsz] at st'
    rw [hkey]
    obtain ⟨oi,ei,ci,di⟩:=id st'
    exact ⟨_,rfl,go_of (s:={ s with heap:=h' }) ei ci di (by decide) ⟨.ref x.2.1,H,I1,rfl,⟨rfl,kv,x.2.1,ekv,rfl,by rw [e1]; rw [e1] at e2; exact e2⟩,st',fun b hb=>(hf b hb).1⟩⟩
  done:=by
    intro X hP hw hK hc i pins s σ H E I hf st hg
    subst hP hw hK
    obtain ⟨hi,hq⟩:=hg
    obtain ⟨ho,hz,hs,xs,r,o',es',ep',ho',hx',hd',he,nd⟩:=I.hok a _ hq
    cases Option.some.inj (ho'.symm.trans ho)
    rw [hd] at hd'
    cases hd'
    have hsz:es.size = kvs.length:=by
      have e1:=congrArg List.length he
      rw [List.length_map,← Paired.length r] at e1
      simpa using e1
    obtain ⟨f0,f1,f2,f3,f4,f5⟩:=hf it (by simp)
    rw [← hsz] at st
    exact next_key_end (I.ok.hd hc) st ho hd (by omega) fun h' eb=>⟨rfl,I.turned (t':=s.toks) (fun b o hb e=>eb b o hb e) f0 f1 f3 f4 f5⟩
  self:=fun _ _ _ _ _ st h=>wpAny_pyIter_keyiter st h
def iDt (tl:TE) : TI:=fun σ H R=>tl σ H fun x H1=>∃ a kvs,x = .ref a ∧ H1 a = some (.dT kvs) ∧ ∀ o,R (ItdT a o kvs) (upd H1 a (.frz o (.dT kvs)))
theorem pi_dT {X:Cx} {tg l:Expr} {tl:TE} (hl:PE X l tl) : PI X tg l (iDt tl):=by
  intro pins s σ H R I h
  refine thn (hl pins s σ H _ I h) fun v s1 ⟨x,H1,I1,r1,q1⟩=>?_
  obtain ⟨a,kvs,e,hq,q⟩:=q1
  subst e
  cases r1
  obtain ⟨hz,hs,xs,r,o,es,ep,ho,hx,hd,he,nd⟩:=I1.hok a _ hq
  have hsz:es.size = kvs.length:=by
    have e1:=congrArg List.length he
    rw [List.length_map,← Paired.length r] at e1
    simpa using e1
  refine iter_key hs ho hx hd ?_
  have I2:=I1.freeze (show Mut (some (HO.dT kvs)) from True.intro) hq ho
  have hn:upd H1 a (.frz o (.dT kvs)) s1.heap.objs.size = none:=I2.hok.fresh (Nat.le_refl _)
  refine ⟨s1.heap.objs.size,[s1.heap.objs.size],_,_,_,rfl,I2.kept (t':=s1.toks) fun b o e=>Heap.get?_push_of_some _ e,turn_dT a _ o kvs es ep hd,?_,fun b hb=>?_,q o⟩
  · rw [← hsz]
    exact ⟨_,Heap.get?_push_size _ rfl,rfl,rfl⟩
  · have e:b = s1.heap.objs.size:=by simpa using hb
    subst e
    exact I2.fpOk (Nat.le_refl _) hn
end L2
namespace PySem
section
variable {prog:Program} {w:World} {A:Around} {E:Value → Shared → Prop} {s:Shared}
end
end PySem
namespace L2
open PySem PySem.Spec PyProof.Rows
section
variable {prog:Program} {w:World} {A:Around} {E:Value → Shared → Prop} {s:Shared} {a:Addr} {js:List Nat}
end
section
variable {prog:Program} {w:World} {A:Around} {E:Value → Shared → Prop} {s:Shared} {a:Addr} {js:List Nat}
end
section
variable {prog:Program} {w:World} {A:Around} {E:Value → Shared → Prop} {s:Shared} {a:Addr} {js:List Nat}
end
section
variable {X:Cx}
end
end L2
namespace L2
open PySem PySem.Spec PyProof.Rows
section
variable {K:Type} [DecidableEq K]
end
section
variable {prog:Program} {w:World} {A:Around} {E:Value → Shared → Prop} {s:Shared}
end
section
variable {X:Cx}
end
end L2
namespace L2
open PySem PySem.Spec PyProof.Rows
section
variable {X:Cx}
end
section
variable {X:Cx} {K:PySem.W.Frag}
end
end L2
namespace L2
open PySem PySem.Spec PyProof.Rows
section
variable {X:Cx}
end
end L2
namespace L2
open PySem PySem.Spec PyProof.Rows
section
variable {X:Cx}
theorem call_isSeq:CallR X (.builtin "isinstance") (fun xs H Q=>∃ x q,xs = [.ref x,.ref q] ∧ H q = some (.tup [.ty "list",.ty "tuple"]) ∧ ((∃ ys,SqL X.K H x ys) ∨ ∃ ys,SqT X.K H x ys) ∧ Q (.bl true) H):=by
  intro pins s σ H xs us Q I r h
  obtain ⟨x,q,rfl,hq,hx,k⟩:=h
  obtain ⟨u,w,rfl,r1,r2⟩:=vals2 r
  cases r1
  cases r2
  obtain ⟨ts,rt,ht,_⟩:=I.tuple (SqT.of hq)
  obtain ⟨a,b,rfl,ra,rb⟩:=vals2 rt
  obtain rfl:a = Value.type "list" := ra
  obtain rfl:b = Value.type "tuple" := rb
  obtain ⟨⟨c,dd,dt,sl⟩,ho,hc,n,hd⟩:=ht
  simp only at hc hd
  subst hc hd
  have fin : ∀ tk,EP X pins σ Q (.bool true) { s with toks:=tk }:=fun tk=>⟨.bl true,H,I.tok tk,rfl,k⟩
  rcases hx with ⟨ys,hy⟩ | ⟨ys,hy⟩
  · obtain ⟨its,_,pl,_⟩:=I.list hy
    obtain ⟨o,ho2,hc2,_⟩:=pl.isList
    exact PySem.W.kia_tup (its:=[.type "list",.type "tuple"]) PySem.W.kitx_list I.kIn ⟨o,ho2,hc2⟩ ho rfl (fun z=>nomatch z) fin
  · obtain ⟨its,_,⟨o,ho2,hc2,_⟩,_⟩:=I.tuple hy
    exact PySem.W.kia_tup (its:=[.type "list",.type "tuple"]) PySem.W.kitx_tuple I.kIn ⟨o,ho2,hc2⟩ ho rfl (fun z=>nomatch z) fin
def iOr (a b:TI) : TI:=fun σ H R=>a σ H R ∨ b σ H R
theorem pi_or {tg l:Expr} {a b:TI} (h1:PI X tg l a) (h2:PI X tg l b) : PI X tg l (iOr a b):=by
  intro pins s σ H R I h
  rcases h with h | h
  · exact h1 pins s σ H R I h
  · exact h2 pins s σ H R I h
theorem pi_seq {tg l:Expr} {tl:TE} (hl:PE X l tl) : PI X tg l (iOr (iList X.K tl) (iTup X.K tl)):=pi_or (pi_list hl) (pi_tup hl)
end
end L2
namespace L2
open PySem PySem.Spec PyProof.Rows
section
variable {X:Cx} {CX:CXT} {k:Nat} {C f:Addr} {fd:FuncData} {ps ks:List Str} {sp:Sp} {E:XK} {g:List Value → List Value → List Value} {gV:List V → List V → List V} {x:Str} {p pos:Pos} {e:Expr} {es:List Expr} {kws:List Keyword} {t tk:TA}
theorem run_makeK {pins:List (Addr × Obj)} {σ : St} {H:Hp} {s:Shared} {Q:VK} {us ws:List Value} {vs zs:List V} (M:Mk X.K C f) (F:FnOk X.prog X.w X.K X.mg X.base CX k f fd ps sp) (hr:Room (k + 1) X.A) (hb:KBinds X.K fd ps ks g gV)
    (hx:Passes CX X E) (I:Inv X pins σ H s) (r:Vals vs us) (rz:Vals zs ws)
    (h : ∀ x dx,H x = none → H dx = none → dx ≠ x → sp (gV (.ref x :: vs) zs) (upd (upd H dx (.own x)) x (.ins C dx [])) (fun v H2=>v = .non ∧ Q (.ref x) H2) E) :
    wpAny (model X.prog X.w) X.A (call (.ref C) us (ks.zip ws)) (EP X pins σ Q) X.xe s:=by
  have hq:=h (s.heap.objs.size + 1) s.heap.objs.size (I.hok.fresh (Nat.le_succ _)) (I.hok.fresh (Nat.le_refl _)) (Nat.ne_of_lt (Nat.lt_succ_self _))
  have I2:=Inv.made (C:=C) I
  have r2:=hb.rel (Paired.cons (show RelV (V.ref (s.heap.objs.size + 1)) (Value.ref (s.heap.objs.size + 1)) from rfl) r) rz
  have hl:(g (Value.ref (s.heap.objs.size + 1) :: us) ws).length = ps.length:=by
    rw [← Paired.length r2]
    exact F.len _ _ _ _ hq
  refine wpAny_call (make_map (f:=f) I.kIn M.makes M.init (beq_iff_eq.mp M.fn) (codeAny_mono (F.run _ X.stack _ _ ⟨Value.ref (s.heap.objs.size + 1) :: us,ks.zip ws⟩ _ _ _ E (hr.make C us (ks.zip ws))
    (I2.env0.make C us (ks.zip ws)) (hb.to _ _ _ I2.kIn hl) r2 hq) fun r s' hq'=>?_))
  cases r with
  | error e=>exact hx pins σ _ _ e s' I2 hq'
  | ok fl=>
    cases fl with
    | ret u=>
      obtain ⟨v,H',I3,rv,ev,q3⟩:=I2.after hq'
      subst ev
      exact ⟨rv,⟨V.ref (s.heap.objs.size + 1),H',I3,rfl,q3⟩⟩
    | next=>exact False.elim hq'
    | brk=>exact False.elim hq'
    | cont=>exact False.elim hq'
def tMakeK (C:Addr) (sp:Sp) (gV:List V → List V → List V) (E:XK) (t tk:TA) : TE:=fun σ H Q=>t σ H fun vs H1=>tk σ H1 fun zs H2=>∀ x dx,H2 x = none → H2 dx = none → dx ≠ x → sp (gV (.ref x :: vs) zs) (upd (upd H2 dx (.own x)) x (.ins C dx [])) (fun v H3=>v = .non ∧ Q (.ref x) H3) E
theorem pe_makeK (M:Mk X.K C f) (F:FnOk X.prog X.w X.K X.mg X.base CX k f fd ps sp) (hr:Room (k + 1) X.A) (hg:Gl X x) (hm:X.mg x = some (.ref C)) (hb:KBinds X.K fd ps ks g gV) (hx:Passes CX X E)
    (ha:PA X (e :: es) t) (hkw:PK X kws tk) (hall:(backToKw pos (keywordEach kws X.env)).all (·.1.isSome) = true:=by rfl) (hks:(backToKw pos (keywordEach kws X.env)).filterMap (·.1) = ks:=by rfl)
    (hdb:(x == ("__debug__" : Str)) = false:=by decide) (he:starEach (e :: es) X.env = (false,eval e X.env) :: starEach es X.env:=by rfl)
    (hpl:((backTo pos (starEach (e :: es) X.env)).any (·.1) || (backToKw pos (keywordEach kws X.env)).any (·.1.isNone)) = false:=by rfl) :
    PE X (.Call (.Name x p) (e :: es) kws pos) (tMakeK C sp gV E t tk):=by
  intro pins s σ H Q I h
  refine wpAny_Call_Name_kw (ld_glob I hg hm ?_ hdb)
  refine PySem.W.callWith_KW (h₀:=X.base) I.ok.mod.kin M.kp hall (thn (ha pos pins s σ H _ I h) fun us s1 ⟨vs,H1,I1,r,q⟩=>?_) hpl he
  refine thn (hkw pos pins s1 σ H1 _ I1 q) fun ws s2 ⟨zs,H2,I2,rz,q2⟩=>⟨I2.kIn,?_⟩
  rw [hks]
  exact run_makeK M F hr hb hx I2 r rz q2
end
section
variable {X:Cx}
end
section
variable {X:Cx} {K:PySem.W.Frag}
theorem op_notIn_seqK (hK:X.K = K) : OpR X (compareOp .NotIn) (rIn K true):=by
  subst hK
  exact op_notIn_seq
end
end L2
namespace L2
open PySem PySem.Spec PyProof.Rows
end L2
namespace PySem
section
variable {prog:Program} {w:World} {A:Around} {E:Value → Shared → Prop} {h:Heap} {g:Array GenState} {d:Drawn} {t:Nat} {os:OsState}
variable {nm q:Str} {C N:Addr} {bs bm bmB:List Value} {hdct:Bool} {sn:List Str} {sub:List Value} {ab:Bool} {col:Option Bool} {dd:Option Addr} {k0 k1 k2 k3 k5:Option Value} {B newId initId:String}
end
end PySem
namespace PySem
open Builtin Builtin.ObjectAttr
section
variable {prog:Program} {w:World} {A:Around} {E:Value → Shared → Prop} {h:Heap} {g:Array GenState} {d:Drawn} {t:Nat} {os:OsState}
variable {nm q:Str} {C N x:Addr} {bs bm:List Value} {hdct:Bool} {sn:List Str} {sub:List Value} {ab:Bool} {col:Option Bool} {dd:Option Addr} {k0 k1 k2 k3 k5:Option Value} {newId:String} {name:Str} {v:Value} {o:Obj}
end
end PySem
namespace L2
open PySem PySem.Spec PyProof.Rows
section
variable {X:Cx} {pins:List (Addr × Obj)} {σ : St} {H:Hp} {s:Shared}
end
section
variable {P:Program} {w:World} {K:PySem.W.Frag} {mg:Str → Option Value} {base:Heap} {N:List Str} {qual:Str} {scope:Scope} {f:Addr} {cd:Value} {A:Around} {outer:List Env} {s:Shared} {H:Hp} {E:XK}
end
end L2
namespace L2
open PySem PySem.Spec PyProof.Rows
section
variable {P:Program} {w:World} {K:PySem.W.Frag} {mg:Str → Option Value} {base:Heap}
end
section
variable {X:Cx}
end
end L2
namespace L2
open PySem PySem.Spec PyProof.Rows
section
variable {X:Cx} {pins pn:List (Addr × Obj)} {σ : St} {H H':Hp} {s s':Shared}
end
section
variable {X:Cx}
end
end L2
namespace L2
open PySem PySem.Spec PyProof.Rows
end L2
namespace L2
open PySem PySem.Spec PyProof.Rows
end L2
namespace L2
open PySem PySem.Spec PyProof.Rows
end L2
namespace L2
open PySem PySem.Spec PyProof.Rows
section
variable {X:Cx} {pn:List (Addr × Obj)}
end
section
variable {X:Cx}
end
end L2
namespace L2
open PySem PySem.Spec PyProof.Rows
theorem dc_range {lo:Int} {n:Nat} {D:Addr} {g:TG} {ti:TT} {tk tv:TE} {σ0:St} {H0:Hp} {QF:Hp → Prop} (Pv:Nat → St → Hp → Prop) (h0:Pv 0 σ0 H0)
    (hs : ∀ i σ H,i < n → Pv i σ H → g (.int (lo + i)) σ H fun σ2 H2=>ti σ2 H2 fun b H3=>if b = true then tk σ2 H3 fun y H4=>tv σ2 H4 fun z H5=>∃ H6,DPut H5 D y z H6 ∧ Pv (i + 1) σ2 H6 else Pv (i + 1) σ2 H3)
    (hd : ∀ σ H,Pv n σ H → QF H) : ∃ W:Nat → Nat → St → Hp → Prop,(∃ m,W 0 m σ0 H0) ∧ DcW (Itr lo n) g ti tk tv D QF W:=by
  refine ⟨fun i m σ H=>m = n - i ∧ i ≤ n ∧ Pv i σ H,⟨n,by simp,Nat.zero_le _,h0⟩,?_⟩
  rintro i m σ H ⟨rfl,hi,p⟩
  by_cases hlt:i < n
  · refine .inr ⟨hlt,Pv (i + 1),fun σ' H' p'=>⟨n - (i + 1),by omega,rfl,hlt,p'⟩,fun x H' y=>?_⟩
    obtain ⟨e,y⟩:=y
    subst e y
    exact hs i σ _ hlt p
  · have e:i = n:=by omega
    subst e
    exact .inl ⟨Nat.le_refl _,hd σ H p⟩
theorem argBest_top (val:Nat → Int) : ∀ k i,i ≤ k → val i ≤ val (argBest (fun i j=>decide (val i > val j)) k)
  | 0,i,h=>by
    have:i = 0:=by omega
    subst this
    exact Int.le_refl _
  | k + 1,i,h=>by
    have ih:=argBest_top val k
    unfold argBest
    by_cases z:val (k + 1) > val (argBest (fun i j=>decide (val i > val j)) k)
    · rw [if_pos (decide_eq_true z)]
      by_cases q:i = k + 1
      · rw [q]
        exact Int.le_refl _
      · have:=ih i (by omega)
        omega
    · rw [if_neg (by simpa using z)]
      by_cases q:i = k + 1
      · rw [q]; omega
      · exact ih i (by omega)
theorem paired_back {α β : Type} {R : α → β → Prop} : ∀ {xs:List α} {ys:List β} {i:Nat} {y : β},Paired R xs ys → ys[i]? = some y → ∃ x,xs[i]? = some x ∧ R x y
  | _,_,i,y,.nil,e=>by simp at e
  | _,_,0,y,.cons h _,e=>by
    cases Option.some.inj e
    exact ⟨_,rfl,h⟩
  | _,_,i + 1,y,.cons _ t,e=>paired_back (i:=i) t e
section
variable {X:Cx}
theorem call_maxL (hc:X.calm = true) : CallR X (.builtin "max") (fun xs H Q=>∃ (p:Addr) (ns:List Int),xs = [.ref p] ∧ SqL X.K H p (ns.map V.int) ∧ 0 < ns.length ∧ ∀ M,M ∈ ns → (∀ a ∈ ns,a ≤ M) → Q (.int M) H):=by
  intro pins s σ H xs us Q I r h
  obtain ⟨p,ns,rfl,hq,hne,q⟩:=h
  obtain ⟨u,rfl,rx⟩:=vals1 r
  cases rx
  obtain ⟨its,r',pl,hz⟩:=I.list hq
  have hlen:ns.length = its.length:=by have:=r'.length; rw [List.length_map] at this; exact this
  have hv : ∀ i v,its.toArray[i]? = some v → ∃ t,v = Value.int (ns.getD i 0) t:=fun i v e=>by
    have e':its[i]? = some v:=by simpa using e
    obtain ⟨y,ey,ry⟩:=paired_back r' e'
    rw [List.getElem?_map] at ey
    cases hn:ns[i]? with
    | none=>rw [hn] at ey; cases ey
    | some n=>
      rw [hn] at ey
      cases ey
      obtain ⟨t,et⟩:=ry
      refine ⟨t,?_⟩
      rw [et,List.getD_eq_getElem?_getD,hn]
      rfl
  have hp:p ≠ s.heap.objs.size:=by
    obtain ⟨o,ho,_⟩:=pl.isList
    exact Nat.ne_of_lt (Heap.lt_size ho)
  refine call_max_walk (wpAny_pyIter_list pl.isList ⟨s.heap.objs.size,_,_,_,_,_,_,rfl,Walks.list (A:=X.A.in1) (show X.A.in1.handled = none from I.ok.hd hc) s.heap.objs.size p hp its.toArray,⟨⟨_,Heap.get?_push_size _ rfl,rfl,rfl⟩,?_⟩,fun b hb=>?_,by simpa using (by omega : 0 < its.length),CmpOf.ints_gt (fun i=>ns.getD i 0) hv,fun v h' tk hP hk=>?_⟩)
  · obtain ⟨o,ho,hr⟩:=pl.isList
    exact ⟨o,Heap.get?_push_of_some _ ho,hr⟩
  · rw [Heap.size_push]
    rcases List.mem_cons.mp hb with rfl | hb
    · exact Nat.lt_succ_self _
    · rw [List.mem_singleton.mp hb]
      obtain ⟨o,ho,_⟩:=pl.isList
      exact Nat.lt_succ_of_lt (Heap.lt_size ho)
  · obtain ⟨t,rfl⟩:=hv _ _ hP
    refine ⟨V.int (ns.getD (argBest (fun i j=>decide (ns.getD i 0 > ns.getD j 0)) (its.toArray.size - 1)) 0),H,I.kept (t':=tk) fun b o e=>hk b o (fun z=>?_) (Heap.get?_push_of_some _ e),⟨t,rfl⟩,q _ ?_ fun a ha=>?_⟩
    · have:b = s.heap.objs.size:=by simpa using z
      have lt:=Heap.lt_size e
      rw [this] at lt
      exact Nat.lt_irrefl _ lt
    · have hb:=argBest_le (fun i j=>decide (ns.getD i 0 > ns.getD j 0)) (its.toArray.size - 1)
      have hs:its.toArray.size = its.length:=by simp
      generalize argBest (fun i j=>decide (ns.getD i 0 > ns.getD j 0)) (its.toArray.size - 1) = j at hb
      have hj:j < ns.length:=by omega
      rw [List.getD_eq_getElem?_getD,List.getElem?_eq_getElem hj]
      exact List.getElem_mem hj
    · obtain ⟨i,hi,rfl⟩:=List.mem_iff_getElem.mp ha
      have:=argBest_top (fun i=>ns.getD i 0) (its.toArray.size - 1) i (by simp; omega)
      rw [show ns.getD i 0 = ns[i] by rw [List.getD_eq_getElem?_getD,List.getElem?_eq_getElem hi]; rfl] at this
      exact this
end
structure ClsM (K:PySem.W.Frag) (C:Addr) (m:Str) (f:Addr) : Prop where
  sp:PySem.W.specialIn K (.ref C) "__getattribute__" = some (some (.builtin "type.__getattribute__"))
  rd:PySem.W.readsIn K C (.type "type") = true
  at_:PySem.W.findCls K (.ref C) (.type "type") m = some (.val (.ref f))
  kp:PySem.W.keepIn K (.ref f) = true
section
variable {X:Cx} {CX:CXT} {E:XK} {k:Nat} {f C:Addr} {fd:FuncData} {ps:List Str} {sp:Sp} {dvs:List V} {ds:List Value} {x m:Str} {p apos pos:Pos} {e:Expr} {es:List Expr} {t:TA}
theorem pe_clsM {pl:Sem Bool} (hg:Gl X x) (hC:X.mg x = some (.ref C)) (hm:ClsM X.K C m f) (F:FnOk X.prog X.w X.K X.mg X.base CX k f fd ps sp) (hr:Room k X.A) (hb:Binds X.K fd ps ds) (hd:Vals dvs ds) (hx:Passes CX X E) (ha:PA X (e :: es) t)
    (hdb:(x == ("__debug__" : Str)) = false:=by decide) (hst:starEach (e :: es) X.env = (false,eval e X.env) :: starEach es X.env:=by rfl) (hpl:(backTo pos (starEach es X.env)).any (·.1) = false:=by rfl)
    (ht:eval (.Call (.Attribute (.Name x p) m apos) (e :: es) [] pos) X.env = (do
      let ov ← eval (.Name x p) X.env
      standAt apos.atName
      let (f,first) ← holding [ov] (getMethod ov m pl)
      callWith pos f first (backTo pos (starEach (e :: es) X.env)) (backToKw pos (keywordEach [] X.env))):=by rfl) :
    PE X (.Call (.Attribute (.Name x p) m apos) (e :: es) [] pos) (tCall sp dvs E t):=by
  intro pins s σ H Q I h
  refine PySem.W.methodCall_KW (pl:=pl) (thn (ld_glob (Q:=EP X pins σ fun v H'=>v = V.ref C ∧ H' = H) I hg hC ⟨V.ref C,H,I,rfl,rfl,rfl⟩ hdb) fun u s1 ⟨y,H1,I1,ry,ey,eH⟩=>?_) ht
  subst ey eH
  obtain rfl:u = Value.ref C:=ry
  refine PySem.W.method_cls I1.kIn hm.sp (PySem.W.cls_value I1.kIn hm.rd hm.at_ rfl ?_)
  have I2:=I1.tok (s1.toks + 1)
  refine PySem.W.callWith_K (first:=[]) (h₀:=X.base) I.ok.mod.kin hm.kp (thn (ha pos pins _ σ H1 _ I2 h) fun us s2 ⟨vs,H2,I3,r,q2⟩=>⟨I3.kIn,?_⟩) hst hpl
  exact run_fn F hr hb hd hx I3 r q2
end
section
variable {X:Cx}
end
end L2
namespace L2
open PySem PySem.Spec PyProof.Rows
end L2
namespace L2
open PySem PySem.Spec PyProof.Rows
open AutoSeq1 (wpAny_loadPart')
theorem rm_walk {l:Addr} {its:List Value} {n:Nat} {x:Value} {e:Value → Bool} {j:Nat} {y:Value} (hj:its[j]? = some y) (hit:e y = true) (hz:its.length ≤ sizeLine) :
    ∀ (d i:Nat),i + d = j → (∀ m z,i ≤ m → m < j → its[m]? = some z → e z = false) → Meets (Builtin.«list.remove.loop» ⟨[.ref l,x,rawInt i],[]⟩)
      (fun A R s=>s.heap.get? l = some { cls:=.type "list",dict:=none,data:=.seq its.toArray n,slots:=#[] } ∧ (∀ u ∈ its,SeqAt.EqAt A.in1 s u x (e u)) ∧ R (.ok (.ret .none)) { s with heap:=s.heap.update l (Obj.mapSeq fun xs=>xs.eraseIdxIfInBounds j) })
  | d,i,hd,hno=>by
    intro prog w A R s h
    obtain ⟨hp,g,dp,tk,os⟩:=s
    obtain ⟨hl,he,h⟩:=h
    have lt:i < its.length:=by
      have:=(List.getElem?_eq_some_iff.mp hj).1
      omega
    obtain ⟨v,hv⟩ : ∃ v,its[i]? = some v:=⟨_,List.getElem?_eq_getElem lt⟩
    have hi:its.toArray[((i:Nat) : Int).toNat]? = some v:=by simpa using hv
    have hs1:its.toArray.size ≤ sizeLine:=by rw [List.size_toArray]; exact hz
    wp_walk using wpAny_loadPart' hl
    rw [hi]
    refine wpAny_bind (he v (List.mem_of_getElem? hv) prog w _ _ ?_)
    cases d with
    | zero=>
      have e1:i = j:=by omega
      subst e1
      rw [hj] at hv
      cases hv
      rw [hit]
      wp_walk using wpAny_loadPart' hl
      have small:(Obj.mapSeq (fun x=>x.eraseIdxIfInBounds ((i:Nat) : Int).toNat) { cls:=Value.type "list",data:=Data.seq its.toArray n }).data.pastItsLine = none:=by
        refine pastItsLine_seq (Nat.le_trans ?_ (Nat.le_succ_of_le hz))
        show (its.toArray.eraseIdxIfInBounds ((i:Nat) : Int).toNat).size ≤ its.length
        rw [List.eraseIdxIfInBounds_toArray,List.size_toArray]
        exact List.length_eraseIdx_le _ _
      rw [small]
      wp_walk
      exact h
    | succ d=>
      rw [hno i v (Nat.le_refl _) (by omega) hv]
      wp_walk
      have ec:((i:Int) + 1) = ((i + 1:Nat) : Int):=by push_cast; rfl
      rw [ec]
      refine ⟨plainId_quiet MeetsSeq.plain_remove_loop _,codeAny_builtin MeetsSeq.entry_remove_loop ?_⟩
      rw [Around.under_plainId MeetsSeq.plain_remove_loop _]
      exact rm_walk hj hit hz d (i + 1) (by omega) (fun m z h1 h2=>hno m z (by omega) h2) prog w A R _ ⟨hl,he,h⟩
theorem rm_list {l:Addr} {its:List Value} {n:Nat} {x:Value} {e:Value → Bool} {j:Nat} {y:Value} (hj:its[j]? = some y) (hit:e y = true) (hz:its.length ≤ sizeLine) (hno : ∀ m z,m < j → its[m]? = some z → e z = false) :
    Meets (Builtin.«list.remove» ⟨[.ref l,x],[]⟩)
      (fun A R s=>s.heap.get? l = some { cls:=.type "list",dict:=none,data:=.seq its.toArray n,slots:=#[] } ∧ (∀ u ∈ its,SeqAt.EqAt A.in1 s u x (e u)) ∧ R (.ok (.ret .none)) { s with heap:=s.heap.update l (Obj.mapSeq fun xs=>xs.eraseIdxIfInBounds j) }):=by
  intro prog w A R s h
  obtain ⟨hp,g,dp,tk,os⟩:=s
  have go:=rm_walk (l:=l) (n:=n) (x:=x) hj hit hz j 0 (Nat.zero_add j) (fun m z _ h2=>hno m z h2) prog w A R _ h
  wp_walk using wpAny_loadPart' h.1
  refine ⟨plainId_quiet MeetsSeq.plain_remove_loop _,codeAny_builtin MeetsSeq.entry_remove_loop ?_⟩
  rw [Around.under_plainId MeetsSeq.plain_remove_loop _]
  exact go
def rRemT (K:PySem.W.Frag) : V → List V → Hp → VK → Prop:=fun x vs H Q=>∃ l xs y n nss,x = .ref l ∧ vs = [y] ∧ H l = some (.lst xs) ∧ TupI K H y n ∧ Paired (TupI K H) xs nss ∧ n ∈ nss ∧ Q .non (upd H l (.lst (xs.eraseIdx (nss.idxOf n))))
section
variable {X:Cx}
theorem mt_removeT (hu:X.A.units + 64 < cLine) : MtM X "list.remove" (rRemT X.K):=by
  intro pins s σ H x vs v us Q I rx rv h
  obtain ⟨l,xs,y,n,nss,rfl,rfl,hH,hy,hs,hm,q⟩:=h
  cases rx
  obtain ⟨u,rfl,ru⟩:=rv.one
  obtain ⟨z,its,k,r,hl,e⟩:=I.lstM hH
  have lx:=Paired.length hs
  have hi:nss.idxOf n < nss.length:=List.idxOf_lt_length_iff.mpr hm
  obtain ⟨w,hw,rw'⟩:=r.get (List.getElem?_eq_getElem (show nss.idxOf n < xs.length by omega))
  have is : ∀ (m:Nat) (v:Value),its[m]? = some v → ∃ t,nss[m]? = some t ∧ isT X.K H n v = decide (t = n):=fun m v hv=>by
    obtain ⟨x',hx',rv'⟩:=paired_back r hv
    obtain ⟨t,ht,q'⟩:=ql hs hx'
    exact ⟨t,ht,isT_is I q' rv'⟩
  have yes:isT X.K H n w = true:=by
    obtain ⟨t,ht,q'⟩:=is _ _ hw
    rw [List.getElem?_eq_getElem hi,List.getElem_idxOf hi] at ht
    rw [q',← Option.some.inj ht]
    exact decide_eq_true rfl
  refine call_meets F.slot_list_remove ⟨_,e,rfl⟩ F.entry_list_remove (F.args_list_remove_2 _ _) (rm_list (e:=isT X.K H n) hw yes (by omega) (fun m v hlt hv=>?_)) ⟨e,fun v hv=>tups_eqAt I ?_ hy ru r hs v hv,?_⟩
  · obtain ⟨t,ht,q'⟩:=is _ _ hv
    rw [q']
    refine decide_eq_false fun z=>?_
    subst z
    obtain ⟨a1,b1⟩:=List.getElem?_eq_some_iff.mp ht
    have no:=List.not_of_lt_findIdx (p:=(· == t)) (xs:=nss) (i:=m) hlt
    rw [b1] at no
    simp at no
  · first | (have e:X.A.in1.units = X.A.units + 1:=rfl; omega) | (have e:X.A.in1.units = X.A.units:=rfl; omega) | (have e:=Around.units_in1 X.A; omega)
  · refine ⟨.non,_,I.lset (its':=its.eraseIdx (nss.idxOf n)) hH e ?_ (r.eraseIdx _) ?_,rfl,q⟩
    · show its.toArray.eraseIdxIfInBounds _ = (its.eraseIdx _).toArray
      rw [List.eraseIdxIfInBounds_toArray]
    · have:=List.length_eraseIdx_le xs (nss.idxOf n)
      omega
end
end L2
namespace L2
open PySem PySem.Spec PyProof.Rows
section
variable {X:Cx}
theorem paired_mk {α β : Type} {F : α → β → Prop} : ∀ {xs:List α} {ys:List β},xs.length = ys.length → (∀ (i:Nat) x y,xs[i]? = some x → ys[i]? = some y → F x y) → Paired F xs ys
  | [],[],_,_=>.nil
  | x :: xs,y :: ys,e,h=>.cons (h 0 x y rfl rfl) (paired_mk (Nat.succ.inj e) fun i a b ea eb=>h (i + 1) a b ea eb)
theorem call_listD (hc:X.calm = true) : CallR X (.type "list") (fun xs H Q=>∃ (p:Addr) (kvs:List (Key × V)),xs = [.ref p] ∧ H p = some (.dK kvs) ∧ ∀ l,H l = none → Q (.ref l) (upd H l (.lst (kvs.map fun kv=>kV kv.1)))):=by
  intro pins s σ H xs us Q I r h
  obtain ⟨p,kvs,rfl,hp,q⟩:=h
  obtain ⟨u,rfl,rx⟩:=vals1 r
  cases rx
  obtain ⟨hz,lo,vs,rel,o,es,ep,ho,hx,hd,r1,r2,r3⟩:=I.hok p _ hp
  have hm:s.heap.DictAt (zh X.prog X.w) p vs ep:=⟨o,es,ho,hx,hd,r1,r2,r3⟩
  have hlen:kvs.length = vs.length:=Paired.length rel
  refine PySem.W.kdl_call (PySem.W.kdl_dict (knd:=zh X.prog X.w) (kvs:=vs) (ep:=ep) lo) (I.ok.hd hc) hm (by omega) fun h' tk acc' c' hk hD hacc=>?_
  refine ⟨.ref s.heap.objs.size,_,I.laid (t':=tk) hk (Nat.le_refl _) (show ObjOk X.prog X.w _ h' _ (.lst (kvs.map fun kv=>kV kv.1)) from ⟨?_,acc'.toList,c',?_,?_⟩),rfl,q _ (I.hok.fresh (Nat.le_refl _))⟩
  · rw [List.length_map]
    omega
  · refine paired_mk (by have e:=hacc.1; rw [List.length_map,show acc'.toList.length = acc'.size from Array.length_toList,e]; exact hlen) fun i x v ex ev=>?_
    obtain ⟨k,y,e1,hk'⟩:=hacc.2 i v (by rw [← Array.getElem?_toList]; exact ev)
    rw [List.getElem?_map] at ex
    cases e2:kvs[i]? with
    | none=>rw [e2] at ex; cases ex
    | some kv=>
      rw [e2] at ex
      cases ex
      obtain ⟨z,e3,_⟩:=kv_get rel e2
      rw [e3] at e1
      cases e1
      exact rel_key hk'
  · simpa using hD
end
end L2
namespace L2
open PySem PySem.Spec PyProof.Rows
def kb23m {α : Type} (d : α) : List α → List α → List α
  | [u0,u1],[w0,w1,w2]=>[u0,u1,w0,w1,d,w2]
  | _,_=>[]
def kb22dd {α : Type} (d d' : α) : List α → List α → List α
  | [u0,u1],[w0,w1]=>[u0,u1,w0,w1,d,d']
  | _,_=>[]
theorem kb_rel23m {x:V} {u:Value} (r:RelV x u) {vs:List V} {us:List Value} {zs:List V} {ws:List Value} (r1:Vals vs us) (r2:Vals zs ws) : Vals (kb23m x vs zs) (kb23m u us ws):=by
  rcases r1 with _ | ⟨a,_ | ⟨a2,_ | ⟨_,_⟩⟩⟩ <;> rcases r2 with _ | ⟨b,_ | ⟨c,_ | ⟨d,_ | ⟨_,_⟩⟩⟩⟩
  all_goals first | exact .nil | exact .cons a (.cons a2 (.cons b (.cons c (.cons r (.cons d .nil)))))
theorem kb_rel22dd {x y:V} {u v:Value} (r:RelV x u) (r':RelV y v) {vs:List V} {us:List Value} {zs:List V} {ws:List Value} (r1:Vals vs us) (r2:Vals zs ws) : Vals (kb22dd x y vs zs) (kb22dd u v us ws):=by
  rcases r1 with _ | ⟨a,_ | ⟨a2,_ | ⟨_,_⟩⟩⟩ <;> rcases r2 with _ | ⟨b,_ | ⟨c,_ | ⟨_,_⟩⟩⟩
  all_goals first | exact .nil | exact .cons a (.cons a2 (.cons b (.cons c (.cons r (.cons r' .nil)))))
theorem two_beq {a b:Str} (h : ¬ a = b) : (a == b) = false ∧ (b == a) = false:=⟨by simpa using h,by simpa using fun z=>h z.symm⟩
theorem bd_kb23m {K:PySem.W.Frag} {fd:FuncData} {p p2 k1 k2 k3 k4:Str} {kd:Addr} {v:Value} {x:V} (r:RelV x v) (e:PySem.W.nsIn K kd k3 = some (some v)) (hp:fd.params.posonlyargs = []) (ha:fd.params.args.map (·.arg) = [p,p2]) (hv:fd.params.vararg = none) (hk:fd.params.kwonlyargs.map (·.arg) = [k1,k2,k3,k4])
    (hkw:fd.params.kwarg = none) (hd:fd.defaults = .none) (hkd:fd.kwdefaults = .ref kd) (nd : [p,p2,k1,k2,k3,k4].Nodup) :
    KBinds K fd [p,p2,k1,k2,k3,k4] [k1,k2,k4] (kb23m v) (kb23m x):=by
  refine ⟨fun s us ws KX hl=>?_,fun r1 r2=>kb_rel23m r r1 r2⟩
  match us,ws,hl with
  | [u,u'],[w1,w2,w3],_=>
  intro Mo A E Q hq
  have L:=PySem.W.looks_nsIn (M:=Mo) KX e
  simp only [List.nodup_cons,List.mem_cons,List.not_mem_nil,or_false,not_or,not_false_eq_true,and_true,List.nodup_nil] at nd
  obtain ⟨⟨a1,a2,a3,a4,a5⟩,⟨b2,b3,b4,b5⟩,⟨c3,c4,c5⟩,⟨d4,d5⟩,e5⟩:=nd
  obtain ⟨a11,a12⟩:=two_beq a1
  obtain ⟨a21,a22⟩:=two_beq a2
  obtain ⟨a31,a32⟩:=two_beq a3
  obtain ⟨a41,a42⟩:=two_beq a4
  obtain ⟨a51,a52⟩:=two_beq a5
  obtain ⟨b21,b22⟩:=two_beq b2
  obtain ⟨b31,b32⟩:=two_beq b3
  obtain ⟨b41,b42⟩:=two_beq b4
  obtain ⟨b51,b52⟩:=two_beq b5
  obtain ⟨c31,c32⟩:=two_beq c3
  obtain ⟨c41,c42⟩:=two_beq c4
  obtain ⟨c51,c52⟩:=two_beq c5
  obtain ⟨d41,d42⟩:=two_beq d4
  obtain ⟨d51,d52⟩:=two_beq d5
  obtain ⟨e51,e52⟩:=two_beq e5
  unfold bindArgs
  have hz:seqItems? Value.none = pure none:=rfl
  simp only [hp,ha,hv,hk,hkw,hd,hkd,hz,List.map_nil,List.nil_append,List.length_cons,List.length_nil,List.zip_cons_cons,List.zip_nil_right,List.zip_nil_left,pure_bind,Option.getD_none,List.forIn_nil]
  simp [List.lookup_cons,a11,a12,a21,a22,a31,a32,a41,a42,a51,a52,b21,b22,b31,b32,b41,b42,b51,b52,c31,c32,c41,c42,c51,c52,d41,d42,d51,d52,e51,e52]
  refine wpAny_bind (L A _ E s (fun _ _ h=>h) ?_)
  simp [List.lookup_cons,a11,a12,a21,a22,a31,a32,a41,a42,a51,a52,b21,b22,b31,b32,b41,b42,b51,b52,c31,c32,c41,c42,c51,c52,d41,d42,d51,d52,e51,e52]
  exact wpAny_pure hq
theorem bd_kb22dd {K:PySem.W.Frag} {fd:FuncData} {p p2 k1 k2 k3 k4:Str} {kd:Addr} {v v':Value} {x x':V} (r:RelV x v) (r':RelV x' v') (e:PySem.W.nsIn K kd k3 = some (some v)) (e':PySem.W.nsIn K kd k4 = some (some v')) (hp:fd.params.posonlyargs = []) (ha:fd.params.args.map (·.arg) = [p,p2]) (hv:fd.params.vararg = none) (hk:fd.params.kwonlyargs.map (·.arg) = [k1,k2,k3,k4])
    (hkw:fd.params.kwarg = none) (hd:fd.defaults = .none) (hkd:fd.kwdefaults = .ref kd) (nd : [p,p2,k1,k2,k3,k4].Nodup) :
    KBinds K fd [p,p2,k1,k2,k3,k4] [k1,k2] (kb22dd v v') (kb22dd x x'):=by
  refine ⟨fun s us ws KX hl=>?_,fun r1 r2=>kb_rel22dd r r' r1 r2⟩
  match us,ws,hl with
  | [u,u'],[w1,w2],_=>
  intro Mo A E Q hq
  have L:=PySem.W.looks_nsIn (M:=Mo) KX e
  have L':=PySem.W.looks_nsIn (M:=Mo) KX e'
  simp only [List.nodup_cons,List.mem_cons,List.not_mem_nil,or_false,not_or,not_false_eq_true,and_true,List.nodup_nil] at nd
  obtain ⟨⟨a1,a2,a3,a4,a5⟩,⟨b2,b3,b4,b5⟩,⟨c3,c4,c5⟩,⟨d4,d5⟩,e5⟩:=nd
  obtain ⟨a11,a12⟩:=two_beq a1
  obtain ⟨a21,a22⟩:=two_beq a2
  obtain ⟨a31,a32⟩:=two_beq a3
  obtain ⟨a41,a42⟩:=two_beq a4
  obtain ⟨a51,a52⟩:=two_beq a5
  obtain ⟨b21,b22⟩:=two_beq b2
  obtain ⟨b31,b32⟩:=two_beq b3
  obtain ⟨b41,b42⟩:=two_beq b4
  obtain ⟨b51,b52⟩:=two_beq b5
  obtain ⟨c31,c32⟩:=two_beq c3
  obtain ⟨c41,c42⟩:=two_beq c4
  obtain ⟨c51,c52⟩:=two_beq c5
  obtain ⟨d41,d42⟩:=two_beq d4
  obtain ⟨d51,d52⟩:=two_beq d5
  obtain ⟨e51,e52⟩:=two_beq e5
  unfold bindArgs
  have hz:seqItems? Value.none = pure none:=rfl
  simp only [hp,ha,hv,hk,hkw,hd,hkd,hz,List.map_nil,List.nil_append,List.length_cons,List.length_nil,List.zip_cons_cons,List.zip_nil_right,List.zip_nil_left,pure_bind,Option.getD_none,List.forIn_nil]
  simp [List.lookup_cons,a11,a12,a21,a22,a31,a32,a41,a42,a51,a52,b21,b22,b31,b32,b41,b42,b51,b52,c31,c32,c41,c42,c51,c52,d41,d42,d51,d52,e51,e52]
  refine wpAny_bind (L A _ E s (fun _ _ h=>h) ?_)
  simp [List.lookup_cons,a11,a12,a21,a22,a31,a32,a41,a42,a51,a52,b21,b22,b31,b32,b41,b42,b51,b52,c31,c32,c41,c42,c51,c52,d41,d42,d51,d52,e51,e52]
  refine wpAny_bind (L' A _ E s (fun _ _ h=>h) ?_)
  simp [List.lookup_cons,a11,a12,a21,a22,a31,a32,a41,a42,a51,a52,b21,b22,b31,b32,b41,b42,b51,b52,c31,c32,c41,c42,c51,c52,d41,d42,d51,d52,e51,e52]
  exact wpAny_pure hq
section
variable {X:Cx} {K:PySem.W.Frag}
theorem call_list_ofK (hK:X.K = K) : CallR X (.type "list") (fun xs H Q=>∃ p ys,xs = [.ref p] ∧ (SqL K H p ys ∨ SqT K H p ys) ∧ ∀ l,H l = none → Q (.ref l) (upd H l (.lst ys))):=by
  subst hK
  exact ye
end
end L2
namespace L2
open PySem PySem.Spec PyProof.Rows
section
variable {X:Cx}
end
end L2
namespace L2
open PySem PySem.Spec PyProof.Rows
section
variable {K:PySem.W.Frag} {x qual:Str} {st:Stmt} {f:Addr} {fd:FuncData} {p1 p2 p3 p4 p5:Str}
abbrev BndAt (x qual:Str) (st:Stmt) (ps:List Str) (us:List Value) : Prop:=∀ (kV doc pm:Value) (an:Option Addr) (cdv ct:Value),bindArgs (PySem.W.fnOf x qual (jr st) (jq st) (jb st) .none kV doc pm an cdv ct) ⟨us,[]⟩ = pure (ps.zip us)
theorem bn1 (F:Fun K x qual st f fd) (h : ∀ a,BndAt x qual st [p1] [a]) : Binds K fd [p1] []:=F.binds fun kV doc pm an cdv ct us hl=>by
  obtain ⟨a,rfl⟩:=List.length_eq_one_iff.mp hl
  exact h a kV doc pm an cdv ct
theorem len_succ {us:List Value} {n:Nat} (h:us.length = n + 1) : ∃ a r,us = a :: r ∧ r.length = n:=by
  cases us with
  | nil=>cases h
  | cons a r=>exact ⟨a,r,rfl,Nat.succ.inj h⟩
theorem bn2 (F:Fun K x qual st f fd) (h : ∀ a b,BndAt x qual st [p1,p2] [a,b]) : Binds K fd [p1,p2] []:=F.binds fun kV doc pm an cdv ct us hl=>by
  obtain ⟨a,r1,rfl,h1⟩:=len_succ hl
  obtain ⟨b,rfl⟩:=List.length_eq_one_iff.mp h1
  exact h a b kV doc pm an cdv ct
theorem bn3 (F:Fun K x qual st f fd) (h : ∀ a b c,BndAt x qual st [p1,p2,p3] [a,b,c]) : Binds K fd [p1,p2,p3] []:=F.binds fun kV doc pm an cdv ct us hl=>by
  obtain ⟨a,r1,rfl,h1⟩:=len_succ hl
  obtain ⟨b,r2,rfl,h2⟩:=len_succ h1
  obtain ⟨c,rfl⟩:=List.length_eq_one_iff.mp h2
  exact h a b c kV doc pm an cdv ct
theorem bn4 (F:Fun K x qual st f fd) (h : ∀ a b c d,BndAt x qual st [p1,p2,p3,p4] [a,b,c,d]) : Binds K fd [p1,p2,p3,p4] []:=F.binds fun kV doc pm an cdv ct us hl=>by
  obtain ⟨a,r1,rfl,h1⟩:=len_succ hl
  obtain ⟨b,r2,rfl,h2⟩:=len_succ h1
  obtain ⟨c,r3,rfl,h3⟩:=len_succ h2
  obtain ⟨d,rfl⟩:=List.length_eq_one_iff.mp h3
  exact h a b c d kV doc pm an cdv ct
theorem bn5 (F:Fun K x qual st f fd) (h : ∀ a b c d e,BndAt x qual st [p1,p2,p3,p4,p5] [a,b,c,d,e]) : Binds K fd [p1,p2,p3,p4,p5] []:=F.binds fun kV doc pm an cdv ct us hl=>by
  obtain ⟨a,r1,rfl,h1⟩:=len_succ hl
  obtain ⟨b,r2,rfl,h2⟩:=len_succ h1
  obtain ⟨c,r3,rfl,h3⟩:=len_succ h2
  obtain ⟨d,r4,rfl,h4⟩:=len_succ h3
  obtain ⟨e,rfl⟩:=List.length_eq_one_iff.mp h4
  exact h a b c d e kV doc pm an cdv ct
theorem kbm11 {k1:Str} (h : ∀ (s:Shared) a b,BindsTo s fd ⟨[a],[(k1,b)]⟩ [(p1,a),(p2,b)]) : KBinds K fd [p1,p2] [k1] kb11 kb11:=⟨fun s us ws _ hl=>by
  rcases us with _ | ⟨a,_ | ⟨_,_⟩⟩ <;> rcases ws with _ | ⟨b,_ | ⟨_,_⟩⟩
  all_goals first | exact h s a b | (cases hl),fun r1 r2=>kb_rel11 r1 r2⟩
theorem kbm12 {k1 k2:Str} (h : ∀ (s:Shared) a b c,BindsTo s fd ⟨[a],[(k1,b),(k2,c)]⟩ [(p1,a),(p2,b),(p3,c)]) : KBinds K fd [p1,p2,p3] [k1,k2] kb12 kb12:=⟨fun s us ws _ hl=>by
  rcases us with _ | ⟨a,_ | ⟨_,_⟩⟩ <;> rcases ws with _ | ⟨b,_ | ⟨c,_ | ⟨_,_⟩⟩⟩
  all_goals first | exact h s a b c | (cases hl),fun r1 r2=>kb_rel12 r1 r2⟩
end
end L2
set_option Elab.async false
set_option linter.all false
set_option maxRecDepth 100000
namespace M
structure O where
  p:Int
  n:Int
  g:Int
  m:Int
  deriving DecidableEq
def isOrd (q:Int) (o:O) : Bool:=decide (0 ≤ o.p ∧ o.p ≤ q - 1 ∧ 0 ≤ o.g ∧ o.g ≤ q - 1 ∧ o.p ≠ o.g ∧ 0 ≤ o.n ∧ o.n ≤ 99 ∧ 1 ≤ o.m ∧ o.m ≤ 1000)
theorem isOrd_iff {q:Int} {o:O} : isOrd q o = true ↔ (0 ≤ o.p ∧ o.p ≤ q - 1 ∧ 0 ≤ o.g ∧ o.g ≤ q - 1 ∧ o.p ≠ o.g ∧ 0 ≤ o.n ∧ o.n ≤ 99 ∧ 1 ≤ o.m ∧ o.m ≤ 1000):=by
  unfold isOrd
  rw [decide_eq_true_iff]
end M
namespace M
open PySem L2
theorem zs0 : 0 ≤ sizeLine:=by decide
theorem zs1 : 1 ≤ sizeLine:=by decide
theorem zs2 : 2 ≤ sizeLine:=by decide
theorem zs3 : 3 ≤ sizeLine:=by decide
theorem zs4 : 4 ≤ sizeLine:=by decide
theorem zs6 : 6 ≤ sizeLine:=by decide
theorem zs9 : 9 ≤ sizeLine:=by decide
theorem zs11 : 11 ≤ sizeLine:=by decide
theorem pa_2 {X:Cx} {e0 e1:Expr} {t0 t1:TE} (h0:PE X e0 t0) (h1:PE X e1 t1) (s0:isStar e0 = false:=by rfl) (s1:isStar e1 = false:=by rfl) : PA X [e0,e1] (tCons t0 (tCons t1 tNil)):=by
  refine jd h0 ?_ s0
  refine jd h1 ?_ s1
  exact jg
theorem pa_3 {X:Cx} {e0 e1 e2:Expr} {t0 t1 t2:TE} (h0:PE X e0 t0) (h1:PE X e1 t1) (h2:PE X e2 t2) (s0:isStar e0 = false:=by rfl) (s1:isStar e1 = false:=by rfl) (s2:isStar e2 = false:=by rfl) : PA X [e0,e1,e2] (tCons t0 (tCons t1 (tCons t2 tNil))):=by
  refine jd h0 ?_ s0
  refine jd h1 ?_ s1
  refine jd h2 ?_ s2
  exact jg
theorem pa_4 {X:Cx} {e0 e1 e2 e3:Expr} {t0 t1 t2 t3:TE} (h0:PE X e0 t0) (h1:PE X e1 t1) (h2:PE X e2 t2) (h3:PE X e3 t3) (s0:isStar e0 = false:=by rfl) (s1:isStar e1 = false:=by rfl) (s2:isStar e2 = false:=by rfl) (s3:isStar e3 = false:=by rfl) : PA X [e0,e1,e2,e3] (tCons t0 (tCons t1 (tCons t2 (tCons t3 tNil)))):=by
  refine jd h0 ?_ s0
  refine jd h1 ?_ s1
  refine jd h2 ?_ s2
  refine jd h3 ?_ s3
  exact jg
theorem pa_5 {X:Cx} {e0 e1 e2 e3 e4:Expr} {t0 t1 t2 t3 t4:TE} (h0:PE X e0 t0) (h1:PE X e1 t1) (h2:PE X e2 t2) (h3:PE X e3 t3) (h4:PE X e4 t4) (s0:isStar e0 = false:=by rfl) (s1:isStar e1 = false:=by rfl) (s2:isStar e2 = false:=by rfl) (s3:isStar e3 = false:=by rfl) (s4:isStar e4 = false:=by rfl) : PA X [e0,e1,e2,e3,e4] (tCons t0 (tCons t1 (tCons t2 (tCons t3 (tCons t4 tNil))))):=by
  refine jd h0 ?_ s0
  refine jd h1 ?_ s1
  refine jd h2 ?_ s2
  refine jd h3 ?_ s3
  refine jd h4 ?_ s4
  exact jg
def top (i:Nat) : Stmt:=PySem.Challenge.pw_manypurses_k18_whole_two_worlds.main.body.getD i (.Pass ⟨0,0,0,0⟩)
abbrev s_is_whole:Stmt:=top 2
abbrev s_is_between:Stmt:=top 3
abbrev s_is_order:Stmt:=top 30
abbrev s_place_of:Stmt:=top 31
abbrev s_are_rising:Stmt:=top 4
abbrev xb:Stmt:=top 5
abbrev zl:Stmt:=top 9
abbrev s_is_few:Stmt:=top 10
abbrev s_outnumber:Stmt:=top 11
abbrev s_enough_of:Stmt:=top 12
abbrev s_are_sums:Stmt:=top 41
abbrev zo:Stmt:=top 42
abbrev s_check_houses:Stmt:=top 46
abbrev s_check_purses:Stmt:=top 47
abbrev zt:Stmt:=inClass (top 33) 0
abbrev qw:Stmt:=inClass (top 33) 4
abbrev s_Board_put:Stmt:=inClass (top 33) 1
abbrev xc:Stmt:=inClass (top 33) 5
abbrev xh:Stmt:=inClass (top 35) 0
abbrev xr:Stmt:=inClass (top 35) 1
abbrev yl:Stmt:=inClass (top 35) 2
abbrev yp:Stmt:=inClass (top 35) 3
abbrev zf:Stmt:=inClass (top 37) 0
abbrev zr:Stmt:=inClass (top 37) 2
abbrev qi:Stmt:=inClass (top 37) 8
abbrev qv:Stmt:=inClass (top 37) 7
abbrev xt:Stmt:=inClass (top 37) 6
abbrev yn:Stmt:=inClass (top 37) 3
abbrev qj:Stmt:=inClass (top 37) 4
abbrev xk:Stmt:=inClass (top 48) 0
abbrev xf:Stmt:=inClass (top 48) 7
abbrev xp:Stmt:=inClass (top 48) 1
abbrev xn:Stmt:=inClass (top 48) 13
abbrev zg:Stmt:=inClass (top 48) 20
abbrev s_World_sums:Stmt:=inClass (top 48) 9
abbrev xg:Stmt:=inClass (top 48) 10
abbrev yk:Stmt:=inClass (top 48) 11
abbrev qh:Stmt:=inClass (top 48) 22
abbrev qk:Stmt:=inClass (top 48) 23
abbrev qg:Stmt:=inClass (top 48) 24
abbrev qb:Stmt:=inClass (top 48) 19
abbrev ze:Stmt:=inClass (top 48) 18
abbrev s_World_ask:Stmt:=inClass (top 48) 3
abbrev yi:Stmt:=inClass (top 48) 4
abbrev s_World_come:Stmt:=inClass (top 48) 8
abbrev s__law_town:Stmt:=top 50
abbrev s__law_draw:Stmt:=top 51
abbrev xo:Stmt:=top 52
abbrev s__law_told:Stmt:=top 53
abbrev s__law_deed:Stmt:=top 54
abbrev s__law_does:Stmt:=top 55
abbrev s_law:Stmt:=top 56
theorem sc_is_whole:jt ["thing"] ["thing"] (jb s_is_whole):=⟨rfl,rfl,rfl,by decide +kernel,rfl,by decide +kernel,by decide +kernel⟩
theorem sc_is_between:jt ["thing","low","high"] ["thing","low","high"] (jb s_is_between):=⟨rfl,rfl,rfl,by decide +kernel,rfl,by decide +kernel,by decide +kernel⟩
theorem sc_is_order:jt ["thing","purses","purse","number","goal","much"] ["thing","purses"] (jb s_is_order):=⟨rfl,rfl,rfl,by decide +kernel,rfl,by decide +kernel,by decide +kernel⟩
theorem sc_place_of:jt ["order"] ["order"] (jb s_place_of):=⟨rfl,rfl,rfl,by decide +kernel,rfl,by decide +kernel,by decide +kernel⟩
theorem sc_are_rising:jt ["things","bound","least","thing"] ["things","bound"] (jb s_are_rising):=⟨rfl,rfl,rfl,by decide +kernel,rfl,by decide +kernel,by decide +kernel⟩
theorem sc_is_rising_row:jt ["thing","bound"] ["thing","bound"] (jb xb):=⟨rfl,rfl,rfl,by decide +kernel,rfl,by decide +kernel,by decide +kernel⟩
theorem sc_is_house_count:jt ["thing"] ["thing"] (jb zl):=⟨rfl,rfl,rfl,by decide +kernel,rfl,by decide +kernel,by decide +kernel⟩
theorem sc_is_few:jt ["thing"] ["thing"] (jb s_is_few):=⟨rfl,rfl,rfl,by decide +kernel,rfl,by decide +kernel,by decide +kernel⟩
theorem sc_outnumber:jt ["houses","few"] ["houses","few"] (jb s_outnumber):=⟨rfl,rfl,rfl,by decide +kernel,rfl,by decide +kernel,by decide +kernel⟩
theorem sc_enough_of:jt ["houses","few"] ["houses","few"] (jb s_enough_of):=⟨rfl,rfl,rfl,by decide +kernel,rfl,by decide +kernel,by decide +kernel⟩
theorem sc_are_sums:jt ["thing"] ["thing"] (jb s_are_sums):=⟨rfl,rfl,rfl,by decide +kernel,rfl,by decide +kernel,by decide +kernel⟩
theorem sc_are_first_sums:jt ["thing"] ["thing"] (jb zo):=⟨rfl,rfl,rfl,by decide +kernel,rfl,by decide +kernel,by decide +kernel⟩
theorem sc_check_houses:jt ["houses","few","liars"] ["houses","few","liars"] (jb s_check_houses):=⟨rfl,rfl,rfl,by decide +kernel,rfl,by decide +kernel,by decide +kernel⟩
theorem sc_check_purses:jt ["sums","cheats"] ["sums","cheats"] (jb s_check_purses):=⟨rfl,rfl,rfl,by decide +kernel,rfl,by decide +kernel,by decide +kernel⟩
theorem sc_Board___init__:jt ["self","enough"] ["self","enough"] (jb zt):=⟨rfl,rfl,rfl,by decide +kernel,rfl,by decide +kernel,by decide +kernel⟩
theorem sc_Board_is_carried:jt ["self","thing"] ["self","thing"] (jb qw):=⟨rfl,rfl,rfl,by decide +kernel,rfl,by decide +kernel,by decide +kernel⟩
theorem sc_Board_put:jt ["self","house","thing","houses"] ["self","house","thing"] (jb s_Board_put):=⟨rfl,rfl,rfl,by decide +kernel,rfl,by decide +kernel,by decide +kernel⟩
theorem sc_Board_carried:jt ["self"] ["self"] (jb xc):=⟨rfl,rfl,rfl,by decide +kernel,rfl,by decide +kernel,by decide +kernel⟩
theorem sc_Book___init__:jt ["self","sums"] ["self","sums"] (jb xh):=⟨rfl,rfl,rfl,by decide +kernel,rfl,by decide +kernel,by decide +kernel⟩
theorem sc_Book_is_past:jt ["self","order"] ["self","order"] (jb xr):=⟨rfl,rfl,rfl,by decide +kernel,rfl,by decide +kernel,by decide +kernel⟩
theorem sc_Book_is_due:jt ["self","order","purse","number","goal","much"] ["self","order"] (jb yl):=⟨rfl,rfl,rfl,by decide +kernel,rfl,by decide +kernel,by decide +kernel⟩
theorem sc_Book_settle:jt ["self","order","purse","number","goal","much"] ["self","order"] (jb yp):=⟨rfl,rfl,rfl,by decide +kernel,rfl,by decide +kernel,by decide +kernel⟩
theorem sc_Keeper___init__:jt ["self","sums"] ["self","sums"] (jb zf):=⟨rfl,rfl,rfl,by decide +kernel,rfl,by decide +kernel,by decide +kernel⟩
theorem sc_Keeper_left_of:jt ["self","purse","orders"] ["self","purse","orders"] (jb zr):=⟨rfl,rfl,rfl,by decide +kernel,rfl,by decide +kernel,by decide +kernel⟩
theorem xw:jt ["self","votes","later","order"] ["self"] (jb qi):=⟨rfl,rfl,rfl,by decide +kernel,rfl,by decide +kernel,by decide +kernel⟩
theorem sc_Keeper_first_due:jt ["self","order"] ["self"] (jb qv):=⟨rfl,rfl,rfl,by decide +kernel,rfl,by decide +kernel,by decide +kernel⟩
theorem sc_Keeper_go_on:jt ["self","order"] ["self"] (jb xt):=⟨rfl,rfl,rfl,by decide +kernel,rfl,by decide +kernel,by decide +kernel⟩
theorem sc_Keeper_hear:jt ["self","order"] ["self","order"] (jb yn):=⟨rfl,rfl,rfl,by decide +kernel,rfl,by decide +kernel,by decide +kernel⟩
theorem sc_Keeper_take_paper:jt ["self","order"] ["self","order"] (jb qj):=⟨rfl,rfl,rfl,by decide +kernel,rfl,by decide +kernel,by decide +kernel⟩
theorem sc_World___init__:jt ["self","houses","few","sums","liars","cheats"] ["self","houses","few","sums","liars","cheats"] (jb xk):=⟨rfl,rfl,rfl,by decide +kernel,rfl,by decide +kernel,by decide +kernel⟩
theorem sc_World_letters:jt ["self"] ["self"] (jb xf):=⟨rfl,rfl,rfl,by decide +kernel,rfl,by decide +kernel,by decide +kernel⟩
theorem sc_World_honest:jt ["self"] ["self"] (jb xp):=⟨rfl,rfl,rfl,by decide +kernel,rfl,by decide +kernel,by decide +kernel⟩
theorem sc_World_papers:jt ["self"] ["self"] (jb xn):=⟨rfl,rfl,rfl,by decide +kernel,rfl,by decide +kernel,by decide +kernel⟩
theorem sc_World_keeper_of:jt ["self","house"] ["self","house"] (jb zg):=⟨rfl,rfl,rfl,by decide +kernel,rfl,by decide +kernel,by decide +kernel⟩
theorem sc_World_sums:jt ["self","house"] ["self","house"] (jb s_World_sums):=⟨rfl,rfl,rfl,by decide +kernel,rfl,by decide +kernel,by decide +kernel⟩
theorem sc_World_settled:jt ["self","house"] ["self","house"] (jb xg):=⟨rfl,rfl,rfl,by decide +kernel,rfl,by decide +kernel,by decide +kernel⟩
theorem sc_World_waits:jt ["self","house"] ["self","house"] (jb yk):=⟨rfl,rfl,rfl,by decide +kernel,rfl,by decide +kernel,by decide +kernel⟩
theorem sc_World_check_purse:jt ["self","purse"] ["self","purse"] (jb qh):=⟨rfl,rfl,rfl,by decide +kernel,rfl,by decide +kernel,by decide +kernel⟩
theorem sc_World_check_asker:jt ["self","purse","goal"] ["self","purse","goal"] (jb qk):=⟨rfl,rfl,rfl,by decide +kernel,rfl,by decide +kernel,by decide +kernel⟩
theorem sc_World_check_order:jt ["self","order"] ["self","order"] (jb qg):=⟨rfl,rfl,rfl,by decide +kernel,rfl,by decide +kernel,by decide +kernel⟩
theorem sc_World_write_to_all:jt ["self","word","order","house"] ["self","word","order"] (jb qb):=⟨rfl,rfl,rfl,by decide +kernel,rfl,by decide +kernel,by decide +kernel⟩
theorem sc_World_put_votes:jt ["self","house","orders","order"] ["self","house","orders"] (jb ze):=⟨rfl,rfl,rfl,by decide +kernel,rfl,by decide +kernel,by decide +kernel⟩
theorem sc_World_ask:jt ["self","purse","goal","much","asked","order"] ["self","purse","goal","much"] (jb s_World_ask):=⟨rfl,rfl,rfl,by decide +kernel,rfl,by decide +kernel,by decide +kernel⟩
theorem sc_World_cheat:jt ["self","order","house"] ["self","order","house"] (jb yi):=⟨rfl,rfl,rfl,by decide +kernel,rfl,by decide +kernel,by decide +kernel⟩
theorem sc_World_come:jt ["self","at","letter","word","house","order","keeper"] ["self","at"] (jb s_World_come):=⟨rfl,rfl,rfl,by decide +kernel,rfl,by decide +kernel,by decide +kernel⟩
theorem sc__law_town:jt ["_law_script"] ["_law_script"] (jb s__law_town):=⟨rfl,rfl,rfl,by decide +kernel,rfl,by decide +kernel,by decide +kernel⟩
theorem sc__law_draw:jt ["_law_town_here","_law_many","_law_row","_law_at","_law_cell","_law_mixed"] ["_law_town_here","_law_many"] (jb s__law_draw):=⟨rfl,rfl,rfl,by decide +kernel,rfl,by decide +kernel,by decide +kernel⟩
theorem xx:jt ["_law_caught","_law_kinds","_law_words"] ["_law_caught"] (jb xo):=⟨rfl,rfl,rfl,by decide +kernel,rfl,by decide +kernel,by decide +kernel⟩
theorem qm:jt ["_law_kind","_law_world","_law_one","_law_two","_law_three","_law_told_here","_law_caught","e"] ["_law_kind","_law_world","_law_one","_law_two","_law_three"] (jb s__law_told):=⟨rfl,rfl,rfl,by decide +kernel,rfl,by decide +kernel,by decide +kernel⟩
theorem sc__law_deed:jt ["_law_town_here","_law_world","_law_many","_law_cheat","_law_kind","_law_purse","_law_goal"] ["_law_town_here","_law_world","_law_many","_law_cheat"] (jb s__law_deed):=⟨rfl,rfl,rfl,by decide +kernel,rfl,by decide +kernel,by decide +kernel⟩
theorem yf:jt ["_law_world","_law_deed_here","_law_spoil","_law_told_here","_law_seen","_law_house","_law_found","_law_row"] ["_law_world","_law_deed_here","_law_spoil"] (jb s__law_does):=⟨rfl,rfl,rfl,by decide +kernel,rfl,by decide +kernel,by decide +kernel⟩
theorem sc_law:jt ["_law_script","_law_town_here","_law_begin","_law_made","_law_two","_law_deeds","_law_tells","_law_turn","_law_k","_law_deed_here","_law_alone"] ["_law_script"] (jb s_law):=⟨rfl,rfl,rfl,by decide +kernel,rfl,by decide +kernel,by decide +kernel⟩
theorem nd_0:(["thing","self"] : List Str).Nodup:=by decide +kernel
theorem nd_1:(["order","self"] : List Str).Nodup:=by decide +kernel
theorem nd_2:(["keeper","purse","asked"] : List Str).Nodup:=by decide +kernel
theorem nd_3:(["each"] : List Str).Nodup:=by decide +kernel
theorem nd_4:(["each"] : List Str).Nodup:=by decide +kernel
theorem nd_5:(["house","sums","liars"] : List Str).Nodup:=by decide +kernel
theorem nd_6:(["_law_row"] : List Str).Nodup:=by decide +kernel
theorem nd_7:(["_law_deed_here","_law_alone","_law_k"] : List Str).Nodup:=by decide +kernel
theorem boot_isinstance:bootBuiltins "isinstance" = some (.builtin "isinstance"):=by decide +kernel
theorem boot_bool:bootBuiltins "bool" = some (.type "bool"):=by decide +kernel
theorem boot_int:bootBuiltins "int" = some (.type "int"):=by decide +kernel
theorem boot_len:bootBuiltins "len" = some (.builtin "len"):=by decide +kernel
theorem boot_tuple:bootBuiltins "tuple" = some (.type "tuple"):=by decide +kernel
theorem boot_sorted:bootBuiltins "sorted" = some (.builtin "sorted"):=by decide +kernel
theorem boot_list:bootBuiltins "list" = some (.type "list"):=by decide +kernel
theorem boot_sum:bootBuiltins "sum" = some (.builtin "sum"):=by decide +kernel
theorem boot_max:bootBuiltins "max" = some (.builtin "max"):=by decide +kernel
theorem boot_all:bootBuiltins "all" = some (.builtin "all"):=by decide +kernel
theorem boot_ValueError:bootBuiltins "ValueError" = some (.type "ValueError"):=by decide +kernel
set_option genInjectivity false in
structure Ad where
  f_is_whole:Addr
  d_is_whole:FuncData
  f_is_between:Addr
  d_is_between:FuncData
  f_is_order:Addr
  d_is_order:FuncData
  f_place_of:Addr
  d_place_of:FuncData
  f_are_rising:Addr
  d_are_rising:FuncData
  f_is_rising_row:Addr
  d_is_rising_row:FuncData
  f_is_house_count:Addr
  d_is_house_count:FuncData
  f_is_few:Addr
  d_is_few:FuncData
  f_outnumber:Addr
  d_outnumber:FuncData
  f_enough_of:Addr
  d_enough_of:FuncData
  f_are_sums:Addr
  d_are_sums:FuncData
  f_are_first_sums:Addr
  d_are_first_sums:FuncData
  f_check_houses:Addr
  d_check_houses:FuncData
  f_check_purses:Addr
  d_check_purses:FuncData
  f_Board___init__:Addr
  d_Board___init__:FuncData
  f_Board_is_carried:Addr
  d_Board_is_carried:FuncData
  f_Board_put:Addr
  d_Board_put:FuncData
  f_Board_carried:Addr
  d_Board_carried:FuncData
  f_Book___init__:Addr
  d_Book___init__:FuncData
  f_Book_is_past:Addr
  d_Book_is_past:FuncData
  f_Book_is_due:Addr
  d_Book_is_due:FuncData
  f_Book_settle:Addr
  d_Book_settle:FuncData
  f_Keeper___init__:Addr
  d_Keeper___init__:FuncData
  f_Keeper_left_of:Addr
  d_Keeper_left_of:FuncData
  f_Keeper_give_votes:Addr
  d_Keeper_give_votes:FuncData
  f_Keeper_first_due:Addr
  d_Keeper_first_due:FuncData
  f_Keeper_go_on:Addr
  d_Keeper_go_on:FuncData
  f_Keeper_hear:Addr
  d_Keeper_hear:FuncData
  f_Keeper_take_paper:Addr
  d_Keeper_take_paper:FuncData
  f_World___init__:Addr
  d_World___init__:FuncData
  f_World_letters:Addr
  d_World_letters:FuncData
  f_World_honest:Addr
  d_World_honest:FuncData
  f_World_papers:Addr
  d_World_papers:FuncData
  f_World_keeper_of:Addr
  d_World_keeper_of:FuncData
  f_World_sums:Addr
  d_World_sums:FuncData
  f_World_settled:Addr
  d_World_settled:FuncData
  f_World_waits:Addr
  d_World_waits:FuncData
  f_World_check_purse:Addr
  d_World_check_purse:FuncData
  f_World_check_asker:Addr
  d_World_check_asker:FuncData
  f_World_check_order:Addr
  d_World_check_order:FuncData
  f_World_write_to_all:Addr
  d_World_write_to_all:FuncData
  f_World_put_votes:Addr
  d_World_put_votes:FuncData
  f_World_ask:Addr
  d_World_ask:FuncData
  f_World_cheat:Addr
  d_World_cheat:FuncData
  f_World_come:Addr
  d_World_come:FuncData
  f__law_town:Addr
  d__law_town:FuncData
  f__law_draw:Addr
  d__law_draw:FuncData
  f__law_refusal:Addr
  d__law_refusal:FuncData
  f__law_told:Addr
  d__law_told:FuncData
  f__law_deed:Addr
  d__law_deed:FuncData
  f__law_does:Addr
  d__law_does:FuncData
  f_law:Addr
  d_law:FuncData
  a_Board:Addr
  jw:Addr
  jv:Addr
  a_Book:Addr
  a_TooMuch:Addr
  a_NotNow:Addr
  a_PurseError:Addr
  a_BadCut:Addr
  a_BadText:Addr
  a_BadPaper:Addr
  a_NoHouse:Addr
  a_NoPurse:Addr
  a_NoLetter:Addr
  a_BadNumber:Addr
  a_BadOrder:Addr
  a_BadHouses:Addr
def asked (t:Ad) : List Value:=[.ref t.a_BadNumber,.ref t.a_BadOrder,.ref t.a_BadHouses,.ref t.a_NoHouse,.ref t.a_NoPurse,.ref t.a_NoLetter,.ref t.a_NotNow,.ref t.a_TooMuch,.ref t.a_BadPaper,.ref t.a_BadCut,.ref t.a_BadText,.ref t.a_PurseError,.type "ValueError"]
structure Txt (K:W.Frag) (mg:Str → Option Value) (t:Ad) : Prop where
  F_is_whole:Fun K "is_whole" "is_whole" s_is_whole t.f_is_whole t.d_is_whole
  m_is_whole:mg "is_whole" = some (.ref t.f_is_whole)
  b_is_whole:Binds K t.d_is_whole ["thing"] []
  qo:Fun K "is_between" "is_between" s_is_between t.f_is_between t.d_is_between
  qy:mg "is_between" = some (.ref t.f_is_between)
  za:Binds K t.d_is_between ["thing","low","high"] []
  F_is_order:Fun K "is_order" "is_order" s_is_order t.f_is_order t.d_is_order
  m_is_order:mg "is_order" = some (.ref t.f_is_order)
  bk0_is_order:KBinds K t.d_is_order ["thing","purses"] ["purses"] kb11 kb11
  bd0_is_order : ∃ tk,Binds K t.d_is_order ["thing","purses"] [.int 8 tk]
  F_place_of:Fun K "place_of" "place_of" s_place_of t.f_place_of t.d_place_of
  m_place_of:mg "place_of" = some (.ref t.f_place_of)
  b_place_of:Binds K t.d_place_of ["order"] []
  F_are_rising:Fun K "are_rising" "are_rising" s_are_rising t.f_are_rising t.d_are_rising
  m_are_rising:mg "are_rising" = some (.ref t.f_are_rising)
  b_are_rising:Binds K t.d_are_rising ["things","bound"] []
  F_is_rising_row:Fun K "is_rising_row" "is_rising_row" xb t.f_is_rising_row t.d_is_rising_row
  m_is_rising_row:mg "is_rising_row" = some (.ref t.f_is_rising_row)
  b_is_rising_row:Binds K t.d_is_rising_row ["thing","bound"] []
  F_is_house_count:Fun K "is_house_count" "is_house_count" zl t.f_is_house_count t.d_is_house_count
  m_is_house_count:mg "is_house_count" = some (.ref t.f_is_house_count)
  b_is_house_count:Binds K t.d_is_house_count ["thing"] []
  F_is_few:Fun K "is_few" "is_few" s_is_few t.f_is_few t.d_is_few
  m_is_few:mg "is_few" = some (.ref t.f_is_few)
  b_is_few:Binds K t.d_is_few ["thing"] []
  F_outnumber:Fun K "outnumber" "outnumber" s_outnumber t.f_outnumber t.d_outnumber
  m_outnumber:mg "outnumber" = some (.ref t.f_outnumber)
  bk0_outnumber:KBinds K t.d_outnumber ["houses","few"] ["few"] kb11 kb11
  F_enough_of:Fun K "enough_of" "enough_of" s_enough_of t.f_enough_of t.d_enough_of
  m_enough_of:mg "enough_of" = some (.ref t.f_enough_of)
  bk0_enough_of:KBinds K t.d_enough_of ["houses","few"] ["few"] kb11 kb11
  F_are_sums:Fun K "are_sums" "are_sums" s_are_sums t.f_are_sums t.d_are_sums
  m_are_sums:mg "are_sums" = some (.ref t.f_are_sums)
  b_are_sums:Binds K t.d_are_sums ["thing"] []
  F_are_first_sums:Fun K "are_first_sums" "are_first_sums" zo t.f_are_first_sums t.d_are_first_sums
  m_are_first_sums:mg "are_first_sums" = some (.ref t.f_are_first_sums)
  b_are_first_sums:Binds K t.d_are_first_sums ["thing"] []
  F_check_houses:Fun K "check_houses" "check_houses" s_check_houses t.f_check_houses t.d_check_houses
  m_check_houses:mg "check_houses" = some (.ref t.f_check_houses)
  bk0_check_houses:KBinds K t.d_check_houses ["houses","few","liars"] ["few","liars"] kb12 kb12
  F_check_purses:Fun K "check_purses" "check_purses" s_check_purses t.f_check_purses t.d_check_purses
  m_check_purses:mg "check_purses" = some (.ref t.f_check_purses)
  bk0_check_purses:KBinds K t.d_check_purses ["sums","cheats"] ["cheats"] kb11 kb11
  F_Board___init__:Fun K "__init__" "Board.__init__" zt t.f_Board___init__ t.d_Board___init__
  mt_Board___init__:Meth K t.a_Board "__init__" t.f_Board___init__
  mk_Board:Mk K t.a_Board t.f_Board___init__
  b_Board___init__:Binds K t.d_Board___init__ ["self","enough"] []
  F_Board_is_carried:Fun K "is_carried" "Board.is_carried" qw t.f_Board_is_carried t.d_Board_is_carried
  mt_Board_is_carried:Meth K t.a_Board "is_carried" t.f_Board_is_carried
  b_Board_is_carried:Binds K t.d_Board_is_carried ["self","thing"] []
  F_Board_put:Fun K "put" "Board.put" s_Board_put t.f_Board_put t.d_Board_put
  mt_Board_put:Meth K t.a_Board "put" t.f_Board_put
  b_Board_put:Binds K t.d_Board_put ["self","house","thing"] []
  F_Board_carried:Fun K "carried" "Board.carried" xc t.f_Board_carried t.d_Board_carried
  mt_Board_carried:Meth K t.a_Board "carried" t.f_Board_carried
  b_Board_carried:Binds K t.d_Board_carried ["self"] []
  F_Book___init__:Fun K "__init__" "Book.__init__" xh t.f_Book___init__ t.d_Book___init__
  mt_Book___init__:Meth K t.a_Book "__init__" t.f_Book___init__
  mk_Book:Mk K t.a_Book t.f_Book___init__
  b_Book___init__:Binds K t.d_Book___init__ ["self","sums"] []
  F_Book_is_past:Fun K "is_past" "Book.is_past" xr t.f_Book_is_past t.d_Book_is_past
  mt_Book_is_past:Meth K t.a_Book "is_past" t.f_Book_is_past
  b_Book_is_past:Binds K t.d_Book_is_past ["self","order"] []
  F_Book_is_due:Fun K "is_due" "Book.is_due" yl t.f_Book_is_due t.d_Book_is_due
  mt_Book_is_due:Meth K t.a_Book "is_due" t.f_Book_is_due
  b_Book_is_due:Binds K t.d_Book_is_due ["self","order"] []
  F_Book_settle:Fun K "settle" "Book.settle" yp t.f_Book_settle t.d_Book_settle
  mt_Book_settle:Meth K t.a_Book "settle" t.f_Book_settle
  b_Book_settle:Binds K t.d_Book_settle ["self","order"] []
  F_Keeper___init__:Fun K "__init__" "Keeper.__init__" zf t.f_Keeper___init__ t.d_Keeper___init__
  mt_Keeper___init__:Meth K t.jw "__init__" t.f_Keeper___init__
  mk_Keeper:Mk K t.jw t.f_Keeper___init__
  b_Keeper___init__:Binds K t.d_Keeper___init__ ["self","sums"] []
  F_Keeper_left_of:Fun K "left_of" "Keeper.left_of" zr t.f_Keeper_left_of t.d_Keeper_left_of
  mt_Keeper_left_of:Meth K t.jw "left_of" t.f_Keeper_left_of
  b_Keeper_left_of:Binds K t.d_Keeper_left_of ["self","purse","orders"] []
  F_Keeper_give_votes:Fun K "give_votes" "Keeper.give_votes" qi t.f_Keeper_give_votes t.d_Keeper_give_votes
  mt_Keeper_give_votes:Meth K t.jw "give_votes" t.f_Keeper_give_votes
  b_Keeper_give_votes:Binds K t.d_Keeper_give_votes ["self"] []
  F_Keeper_first_due:Fun K "first_due" "Keeper.first_due" qv t.f_Keeper_first_due t.d_Keeper_first_due
  mt_Keeper_first_due:Meth K t.jw "first_due" t.f_Keeper_first_due
  b_Keeper_first_due:Binds K t.d_Keeper_first_due ["self"] []
  F_Keeper_go_on:Fun K "go_on" "Keeper.go_on" xt t.f_Keeper_go_on t.d_Keeper_go_on
  mt_Keeper_go_on:Meth K t.jw "go_on" t.f_Keeper_go_on
  b_Keeper_go_on:Binds K t.d_Keeper_go_on ["self"] []
  F_Keeper_hear:Fun K "hear" "Keeper.hear" yn t.f_Keeper_hear t.d_Keeper_hear
  mt_Keeper_hear:Meth K t.jw "hear" t.f_Keeper_hear
  b_Keeper_hear:Binds K t.d_Keeper_hear ["self","order"] []
  F_Keeper_take_paper:Fun K "take_paper" "Keeper.take_paper" qj t.f_Keeper_take_paper t.d_Keeper_take_paper
  mt_Keeper_take_paper:Meth K t.jw "take_paper" t.f_Keeper_take_paper
  b_Keeper_take_paper:Binds K t.d_Keeper_take_paper ["self","order"] []
  F_World___init__:Fun K "__init__" "World.__init__" xk t.f_World___init__ t.d_World___init__
  mt_World___init__:Meth K t.jv "__init__" t.f_World___init__
  mk_World:Mk K t.jv t.f_World___init__
  bk0_World___init__ : ∃ a,KBinds K t.d_World___init__ ["self","houses","few","sums","liars","cheats"] ["few","sums","cheats"] (kb23m (Value.ref a)) (kb23m (V.ref a)) ∧ ∃ o n,K.lookup a = some o ∧ o.cls = .type "tuple" ∧ o.data = .seq #[] n
  bk1_World___init__ : ∃ a b,KBinds K t.d_World___init__ ["self","houses","few","sums","liars","cheats"] ["few","sums"] (kb22dd (Value.ref a) (Value.ref b)) (kb22dd (V.ref a) (V.ref b)) ∧ (∃ o n,K.lookup a = some o ∧ o.cls = .type "tuple" ∧ o.data = .seq #[] n) ∧ ∃ o n,K.lookup b = some o ∧ o.cls = .type "tuple" ∧ o.data = .seq #[] n
  F_World_letters:Fun K "letters" "World.letters" xf t.f_World_letters t.d_World_letters
  mt_World_letters:Meth K t.jv "letters" t.f_World_letters
  b_World_letters:Binds K t.d_World_letters ["self"] []
  F_World_honest:Fun K "honest" "World.honest" xp t.f_World_honest t.d_World_honest
  mt_World_honest:Meth K t.jv "honest" t.f_World_honest
  b_World_honest:Binds K t.d_World_honest ["self"] []
  F_World_papers:Fun K "papers" "World.papers" xn t.f_World_papers t.d_World_papers
  mt_World_papers:Meth K t.jv "papers" t.f_World_papers
  b_World_papers:Binds K t.d_World_papers ["self"] []
  F_World_keeper_of:Fun K "keeper_of" "World.keeper_of" zg t.f_World_keeper_of t.d_World_keeper_of
  xl:Meth K t.jv "keeper_of" t.f_World_keeper_of
  x8:Binds K t.d_World_keeper_of ["self","house"] []
  F_World_sums:Fun K "sums" "World.sums" s_World_sums t.f_World_sums t.d_World_sums
  mt_World_sums:Meth K t.jv "sums" t.f_World_sums
  b_World_sums:Binds K t.d_World_sums ["self","house"] []
  F_World_settled:Fun K "settled" "World.settled" xg t.f_World_settled t.d_World_settled
  mt_World_settled:Meth K t.jv "settled" t.f_World_settled
  b_World_settled:Binds K t.d_World_settled ["self","house"] []
  F_World_waits:Fun K "waits" "World.waits" yk t.f_World_waits t.d_World_waits
  mt_World_waits:Meth K t.jv "waits" t.f_World_waits
  b_World_waits:Binds K t.d_World_waits ["self","house"] []
  F_World_check_purse:Fun K "check_purse" "World.check_purse" qh t.f_World_check_purse t.d_World_check_purse
  mt_World_check_purse:Meth K t.jv "check_purse" t.f_World_check_purse
  b_World_check_purse:Binds K t.d_World_check_purse ["self","purse"] []
  F_World_check_asker:Fun K "check_asker" "World.check_asker" qk t.f_World_check_asker t.d_World_check_asker
  mt_World_check_asker:Meth K t.jv "check_asker" t.f_World_check_asker
  b_World_check_asker:Binds K t.d_World_check_asker ["self","purse","goal"] []
  F_World_check_order:Fun K "check_order" "World.check_order" qg t.f_World_check_order t.d_World_check_order
  mt_World_check_order:Meth K t.jv "check_order" t.f_World_check_order
  b_World_check_order:Binds K t.d_World_check_order ["self","order"] []
  F_World_write_to_all:Fun K "write_to_all" "World.write_to_all" qb t.f_World_write_to_all t.d_World_write_to_all
  mt_World_write_to_all:Meth K t.jv "write_to_all" t.f_World_write_to_all
  b_World_write_to_all:Binds K t.d_World_write_to_all ["self","word","order"] []
  F_World_put_votes:Fun K "put_votes" "World.put_votes" ze t.f_World_put_votes t.d_World_put_votes
  mt_World_put_votes:Meth K t.jv "put_votes" t.f_World_put_votes
  b_World_put_votes:Binds K t.d_World_put_votes ["self","house","orders"] []
  F_World_ask:Fun K "ask" "World.ask" s_World_ask t.f_World_ask t.d_World_ask
  mt_World_ask:Meth K t.jv "ask" t.f_World_ask
  b_World_ask:Binds K t.d_World_ask ["self","purse","goal","much"] []
  F_World_cheat:Fun K "cheat" "World.cheat" yi t.f_World_cheat t.d_World_cheat
  mt_World_cheat:Meth K t.jv "cheat" t.f_World_cheat
  b_World_cheat:Binds K t.d_World_cheat ["self","order","house"] []
  F_World_come:Fun K "come" "World.come" s_World_come t.f_World_come t.d_World_come
  mt_World_come:Meth K t.jv "come" t.f_World_come
  b_World_come:Binds K t.d_World_come ["self","at"] []
  F__law_town:Fun K "_law_town" "_law_town" s__law_town t.f__law_town t.d__law_town
  m__law_town:mg "_law_town" = some (.ref t.f__law_town)
  b__law_town:Binds K t.d__law_town ["_law_script"] []
  yo:Fun K "_law_draw" "_law_draw" s__law_draw t.f__law_draw t.d__law_draw
  m__law_draw:mg "_law_draw" = some (.ref t.f__law_draw)
  b__law_draw:Binds K t.d__law_draw ["_law_town_here","_law_many"] []
  F__law_refusal:Fun K "_law_refusal" "_law_refusal" xo t.f__law_refusal t.d__law_refusal
  m__law_refusal:mg "_law_refusal" = some (.ref t.f__law_refusal)
  b__law_refusal:Binds K t.d__law_refusal ["_law_caught"] []
  F__law_told:Fun K "_law_told" "_law_told" s__law_told t.f__law_told t.d__law_told
  m__law_told:mg "_law_told" = some (.ref t.f__law_told)
  b__law_told:Binds K t.d__law_told ["_law_kind","_law_world","_law_one","_law_two","_law_three"] []
  F__law_deed:Fun K "_law_deed" "_law_deed" s__law_deed t.f__law_deed t.d__law_deed
  m__law_deed:mg "_law_deed" = some (.ref t.f__law_deed)
  b__law_deed:Binds K t.d__law_deed ["_law_town_here","_law_world","_law_many","_law_cheat"] []
  F__law_does:Fun K "_law_does" "_law_does" s__law_does t.f__law_does t.d__law_does
  m__law_does:mg "_law_does" = some (.ref t.f__law_does)
  b__law_does:Binds K t.d__law_does ["_law_world","_law_deed_here","_law_spoil"] []
  F_law:Fun K "law" "law" s_law t.f_law t.d_law
  m_law:mg "law" = some (.ref t.f_law)
  b_law:Binds K t.d_law ["_law_script"] []
  c_MOST_MUCH : ∃ tk,mg "MOST_MUCH" = some (.int 1000 tk)
  c_LAST_NUMBER : ∃ tk,mg "LAST_NUMBER" = some (.int 99 tk)
  c_PAPER_LETTER : ∃ tk,mg "PAPER_LETTER" = some (.str "paper" tk)
  c_ORDER_LETTER : ∃ tk,mg "ORDER_LETTER" = some (.str "order" tk)
  c_MOST_HOUSES : ∃ tk,mg "MOST_HOUSES" = some (.int 16 tk)
  c_MOST_FEW : ∃ tk,mg "MOST_FEW" = some (.int 5 tk)
  c_MOST_FIRST_SUM : ∃ tk,mg "MOST_FIRST_SUM" = some (.int 1000 tk)
  c_LEAST_PURSES : ∃ tk,mg "LEAST_PURSES" = some (.int 2 tk)
  c_MOST_PURSES : ∃ tk,mg "MOST_PURSES" = some (.int 8 tk)
  m_Board:mg "Board" = some (.ref t.a_Board)
  cl_Board:Cls K t.a_Board
  yb:yh K t.a_Board "enough"
  na_Board_signers:yh K t.a_Board "signers"
  m_Keeper:mg "Keeper" = some (.ref t.jw)
  jm:Cls K t.jw
  xq:yh K t.jw "held"
  zc:yh K t.jw "next_numbers"
  na_Keeper_done:yh K t.jw "done"
  na_Keeper_heard:yh K t.jw "heard"
  x9:yh K t.jw "unvoted"
  zy:yh K t.jw "choices"
  zj:yh K t.jw "waiting"
  m_World:mg "World" = some (.ref t.jv)
  jn:Cls K t.jv
  na_World_purses:yh K t.jv "purses"
  na_World_total:yh K t.jv "total"
  na_World_lying:yh K t.jv "lying"
  na_World_cheating:yh K t.jv "cheating"
  qz:yh K t.jv "keepers"
  na_World_board:yh K t.jv "board"
  na_World_asked:yh K t.jv "asked"
  xa:yh K t.jv "on_way"
  m_Book:mg "Book" = some (.ref t.a_Book)
  cl_Book:Cls K t.a_Book
  na_Book_held:yh K t.a_Book "held"
  na_Book_next_numbers:yh K t.a_Book "next_numbers"
  na_Book_done:yh K t.a_Book "done"
  mt_Keeper_is_due:Meth K t.jw "is_due" t.f_Book_is_due
  mt_Keeper_is_past:Meth K t.jw "is_past" t.f_Book_is_past
  mt_Keeper_settle:Meth K t.jw "settle" t.f_Book_settle
  cm_Book___init__:ClsM K t.a_Book "__init__" t.f_Book___init__
  m_TooMuch:mg "TooMuch" = some (.ref t.a_TooMuch)
  m_NotNow:mg "NotNow" = some (.ref t.a_NotNow)
  m_PurseError:mg "PurseError" = some (.ref t.a_PurseError)
  m_BadCut:mg "BadCut" = some (.ref t.a_BadCut)
  m_BadText:mg "BadText" = some (.ref t.a_BadText)
  m_BadPaper:mg "BadPaper" = some (.ref t.a_BadPaper)
  m_NoHouse:mg "NoHouse" = some (.ref t.a_NoHouse)
  m_NoPurse:mg "NoPurse" = some (.ref t.a_NoPurse)
  m_NoLetter:mg "NoLetter" = some (.ref t.a_NoLetter)
  m_BadNumber:mg "BadNumber" = some (.ref t.a_BadNumber)
  m_BadOrder:mg "BadOrder" = some (.ref t.a_BadOrder)
  m_BadHouses:mg "BadHouses" = some (.ref t.a_BadHouses)
  x_TooMuch:XCls K t.a_TooMuch
  xi_TooMuch:XIs K t.a_TooMuch
  xk_TooMuch:kinds K (.ref t.a_TooMuch) (asked t) = [some false,some false,some false,some false,some false,some false,some false,some true,some false,some false,some false,some true,some true]
  xc_TooMuch_PurseError:W.kitCls K (.ref t.a_TooMuch) (.ref t.a_PurseError) = some true
  x_NotNow:XCls K t.a_NotNow
  xi_NotNow:XIs K t.a_NotNow
  xk_NotNow:kinds K (.ref t.a_NotNow) (asked t) = [some false,some false,some false,some false,some false,some false,some true,some false,some false,some false,some false,some true,some true]
  xc_NotNow_PurseError:W.kitCls K (.ref t.a_NotNow) (.ref t.a_PurseError) = some true
  be_PurseError:W.mroIn K t.a_PurseError (.type "BaseException") = some true
  jy:mg "isinstance" = none
  n_bool:mg "bool" = none
  n_int:mg "int" = none
  n_len:mg "len" = none
  n_tuple:mg "tuple" = none
  n_sorted:mg "sorted" = none
  n_list:mg "list" = none
  n_sum:mg "sum" = none
  n_max:mg "max" = none
  n_all:mg "all" = none
  n_range:mg "range" = none
  n_ValueError:mg "ValueError" = none
def ordV (o:O) : List V:=[.int o.p,.int o.n,.int o.g,.int o.m]
def OrdAt (H:Hp) (x:V) (o:O) : Prop:=∃ a,x = .ref a ∧ H a = some (.tup (ordV o))
theorem ji {H:Hp} {p:Addr} {o:HO} (h:H p = none) : Same H (upd H p o):=fun b u e=>by rw [je (jh e h)]; exact e
theorem nd {c:Prop} [Decidable c] (h:(!decide c) = true) : ¬ c:=fun z=>by rw [decide_eq_true z] at h; cases h
theorem yd {c:Prop} [Decidable c] (h : ¬ (!decide c) = true) : c:=by
  by_cases z:c
  · exact z
  · exact absurd (by rw [decide_eq_false z]; rfl) h
theorem ifTrue {b:Bool} {A B:Prop} (e:b = true) (h:B) : if (!b) = true then A else B:=by subst e; exact iteF h
theorem take_snoc {α : Type} {l:List α} {i:Nat} {x : α} (h:l[i]? = some x) : l.take (i + 1) = l.take i ++ [x]:=by rw [List.take_add_one,h]; rfl
theorem set_map (s:List Int) (i:Nat) (z:Int) : (s.map V.int).set i (.int z) = (s.set i z).map V.int:=by rw [List.map_set]
theorem get_map {s:List Int} {i:Nat} (h:i < s.length) : (s.map V.int)[i]? = some (.int (s.getD i 0)):=by
  rw [List.getElem?_map,List.getElem?_eq_getElem h,List.getD_eq_getElem?_getD,List.getElem?_eq_getElem h]
  rfl
theorem ixN_of {n:Nat} {i:Int} (h0 : 0 ≤ i) (h1:i.toNat < n) : ixN n i = some i.toNat:=by
  unfold ixN
  rw [if_pos h0,if_pos (by omega)]
theorem atI_of {α : Type} {xs:List α} {i:Int} {v : α} (h0 : 0 ≤ i) (h:xs[i.toNat]? = some v) : atI xs i = some v:=by
  unfold atI
  rw [ixN_of h0 (List.getElem?_eq_some_iff.mp h).1]
  exact h
theorem len1000 {n:Nat} (h:n ≤ 1000) : n ≤ sizeLine:=Nat.le_of_lt (xy h)
def Town (T R:Addr) (H:Hp) : Prop:=∃ (row:List Int) (c:Int),H T = some (.lst [.ref R,.int c]) ∧ H R = some (.lst (row.map V.int)) ∧ 0 < row.length
def KeepT (T R:Addr) (H H':Hp) : Prop:=∀ b o,H b = some o → b ≠ T → b ≠ R → H' b = some o
theorem Town.ne {T R:Addr} {H:Hp} (h:Town T R H) : T ≠ R:=by
  obtain ⟨row,c,h1,h2,h3⟩:=h
  refine ne_of h1 h2 fun e=>?_
  have e':=HO.lst.inj e
  cases row with
  | nil=>cases h3
  | cons x r=>rw [List.map_cons] at e'; cases (List.cons.inj e').1
theorem Town.same {T R:Addr} {H H':Hp} (h:Town T R H) (s:Same H H') : Town T R H':=by
  obtain ⟨row,c,h1,h2,h3⟩:=h
  exact ⟨row,c,s _ _ h1,s _ _ h2,h3⟩
theorem Town.fresh {T R b:Addr} {H:Hp} (h:Town T R H) (hb:H b = none) : b ≠ T ∧ b ≠ R:=by
  obtain ⟨row,c,h1,h2,h3⟩:=h
  exact ⟨(jh h1 hb).symm,(jh h2 hb).symm⟩
def sp_is_whole:Sp:=fun vs H Q _=>∃ i,vs = [.int i] ∧ Q (.bl true) H
def sp_is_between:Sp:=fun vs H Q _=>∃ i l h,vs = [.int i,.int l,.int h] ∧ Q (.bl (decide (l ≤ i ∧ i ≤ h))) H
def sp_is_order:Sp:=fun vs H Q _=>∃ a o q,vs = [.ref a,.int q] ∧ H a = some (.tup (ordV o)) ∧ Q (.bl (isOrd q o)) H
def sp_place_of:Sp:=fun vs H Q _=>∃ a o,vs = [.ref a] ∧ H a = some (.tup (ordV o)) ∧ isOrd 8 o = true ∧ ∀ p,H p = none → Q (.ref p) (upd H p (.tup [.int o.p,.int o.n]))
theorem ok_is_whole (T:Txt K mg t) : FnOk P w K mg base CX0 1 t.f_is_whole t.d_is_whole ["thing"] sp_is_whole:=by
  refine T.F_is_whole.ok sc_is_whole (fun vs H Q E h=>?_) (fun cdv A outer s H vs Q E hr h=>?_)
  · obtain ⟨i,rfl,_⟩:=h
    rfl
  · obtain ⟨i,rfl,q⟩:=h
    refine ⟨_,(@jf _ _ _ (j4 (pe_and (ju call_isinst rfl T.jy boot_isinstance (@pa_2 _ _ _ _ _ (pv 0) (pe_bltn (v:=.ty "int") rfl T.n_int boot_int rfl) rfl rfl)) (pe_one (pe_not (ju call_isinst rfl T.jy boot_isinstance (@pa_2 _ _ _ _ _ (pv 0) (pe_bltn (v:=.ty "bool") rfl T.n_bool boot_bool rfl) rfl rfl))))))),?_⟩
    refine ⟨_,rfl,_,_,_,true,rfl,.int _,rfl,_,rfl,iteT ?_⟩
    exact ⟨_,rfl,_,_,_,false,rfl,.int _,rfl,_,rfl,q⟩
theorem qt (T:Txt K mg t) : FnOk P w K mg base CX0 2 t.f_is_between t.d_is_between ["thing","low","high"] sp_is_between:=by
  refine T.qo.ok sc_is_between (fun vs H Q E h=>?_) (fun cdv A outer s H vs Q E hr h=>?_)
  · obtain ⟨i,l,h,rfl,_⟩:=h
    rfl
  · obtain ⟨i,l,u,rfl,q⟩:=h
    refine ⟨_,(@jf _ _ _ (j4 (pe_and (j5 (ok_is_whole T) (hr.mono (by decide)) rfl T.m_is_whole T.F_is_whole.kp T.b_is_whole .nil jx (jd (pv 0) jg)) (pe_one (pe_chain op_le op_le (pv 1) (pv 0) (pv 2)))))),?_⟩
    refine ⟨_,rfl,i,rfl,_,rfl,iteT ?_⟩
    refine ⟨_,rfl,_,rfl,_,_,rfl,rfl,_,rfl,?_⟩
    refine ite2 (fun h1=>?_) (fun h1=>?_)
    · refine ⟨_,rfl,_,_,rfl,rfl,?_⟩
      have e:decide (l ≤ i ∧ i ≤ u) = decide (i ≤ u):=by
        have h1':=of_decide_eq_true h1
        simp [h1']
      rw [e] at q
      exact q
    · have e:decide (l ≤ i ∧ i ≤ u) = false:=by
        have h1' : ¬ l ≤ i:=fun z=>h1 (decide_eq_true z)
        simp [h1']
      rw [e] at q
      exact q
theorem ok_is_order (T:Txt K mg t) : FnOk P w K mg base CX0 3 t.f_is_order t.d_is_order ["thing","purses"] sp_is_order:=by
  refine T.F_is_order.ok sc_is_order (fun vs H Q E h=>?_) (fun cdv A outer s H vs Q E hr h=>?_)
  · obtain ⟨a,o,q,rfl,_⟩:=h
    rfl
  · obtain ⟨a,o,q,rfl,ha,k⟩:=h
    refine ⟨_,(@jc _ _ _ _ _ (yc (PW.pt (pw_or (pt_not (xu (ju call_isinst rfl T.jy boot_isinstance (@pa_2 _ _ _ _ _ (pv 0) (pe_bltn (v:=.ty "tuple") rfl T.n_tuple boot_tuple rfl) rfl rfl)))) (pw_or1 (qr op_ne (ju j8 rfl T.n_len boot_len (jd (pv 0) jg)) jj (zv _))))) (@jf _ _ _ (j4 pe_bl)) qe)
      (@jc _ _ _ _ _ (ps_asg (pv 0) (pg_tup rfl (yj (qc (i:=2) sc_is_order.nd rfl (Or.inl rfl)) (yj (qc (i:=3) sc_is_order.nd rfl (Or.inl rfl)) (yj (qc (i:=4) sc_is_order.nd rfl (Or.inl rfl)) (yj (qc (i:=5) sc_is_order.nd rfl (Or.inl rfl)) pgs_nil))))))
      (@jc _ _ _ _ _ (yc (PW.pt (pw_or (pt_not (xu (j5 (qt T) (hr.mono (by decide)) rfl T.qy T.qo.kp T.za .nil jx (@pa_3 _ _ _ _ _ _ _ (pv 2) jj (pe_op op_sub (pv 1) jj) rfl rfl rfl)))) (pw_or1 (pt_not (xu (j5 (qt T) (hr.mono (by decide)) rfl T.qy T.qo.kp T.za .nil jx (@pa_3 _ _ _ _ _ _ _ (pv 4) jj (pe_op op_sub (pv 1) jj) rfl rfl rfl))))))) (@jf _ _ _ (j4 pe_bl)) qe)
      (@jf _ _ _ (j4 (pe_and (pe_cmpR op_ne (pv 2) (pv 4) (zv _)) (pe_and (j5 (qt T) (hr.mono (by decide)) rfl T.qy T.qo.kp T.za .nil jx (@pa_3 _ _ _ _ _ _ _ (pv 3) jj (zq (v:=.int 99) rfl T.c_LAST_NUMBER.choose_spec ⟨_,rfl⟩) rfl rfl rfl)) (pe_one (j5 (qt T) (hr.mono (by decide)) rfl T.qy T.qo.kp T.za .nil jx (@pa_3 _ _ _ _ _ _ _ (pv 5) jj (zq (v:=.int 1000) rfl T.c_MOST_MUCH.choose_spec ⟨_,rfl⟩) rfl rfl rfl)))))))))),?_⟩
    refine ⟨_,rfl,_,_,_,true,rfl,.tup ha,rfl,_,rfl,?_⟩
    refine iteF ?_
    refine ⟨_,rfl,a,ordV o,rfl,.inr (SqT.of ha),rfl,_,rfl,?_⟩
    refine iteF ?_
    refine ⟨_,rfl,a,ordV o,rfl,SqT.of ha,rfl,_,_,rfl,_,_,rfl,_,_,rfl,_,_,rfl,rfl,?_⟩
    have fin : ∀ b,b = isOrd q o → Q (.bl b) H:=fun b e=>e ▸ k
    refine ⟨_,rfl,_,rfl,_,_,rfl,rfl,_,_,_,rfl,_,rfl,?_⟩
    refine ite2 (fun h1=>fin _ ?_) (fun h1=>?_)
    · have z:=nd h1
      unfold isOrd
      exact (decide_eq_false (fun h=>z ⟨h.1,h.2.1⟩)).symm
    have z1:=yd h1
    refine ⟨_,rfl,_,rfl,_,_,rfl,rfl,_,_,_,rfl,_,rfl,?_⟩
    refine ite2 (fun h2=>fin _ ?_) (fun h2=>?_)
    · have z:=nd h2
      unfold isOrd
      exact (decide_eq_false (fun h=>z ⟨h.2.2.1,h.2.2.2.1⟩)).symm
    have z2:=yd h2
    refine ⟨_,rfl,_,rfl,rfl,_,rfl,?_⟩
    refine ite2 (fun h3=>?_) (fun h3=>fin _ ?_)
    · have z3 : ¬ o.p = o.g:=by simpa using h3
      refine ⟨_,rfl,_,_,_,rfl,_,rfl,?_⟩
      refine ite2 (fun h4=>?_) (fun h4=>fin _ ?_)
      · have z4:=of_decide_eq_true h4
        refine ⟨_,rfl,_,_,_,rfl,fin _ ?_⟩
        unfold isOrd
        rw [Bool.eq_iff_iff,decide_eq_true_iff,decide_eq_true_iff]
        exact ⟨fun h=>⟨z1.1,z1.2,z2.1,z2.2,z3,z4.1,z4.2,h.1,h.2⟩,fun h=>h.2.2.2.2.2.2.2⟩
      · have z4 : ¬ (0 ≤ o.n ∧ o.n ≤ 99):=fun h=>h4 (decide_eq_true h)
        unfold isOrd
        exact (decide_eq_false (fun h=>z4 ⟨h.2.2.2.2.2.1,h.2.2.2.2.2.2.1⟩)).symm
    · have z3:o.p = o.g:=by simpa using h3
      unfold isOrd
      exact (decide_eq_false (fun h=>h.2.2.2.2.1 z3)).symm
theorem ok_place_of (T:Txt K mg t) : FnOk P w K mg base CX0 4 t.f_place_of t.d_place_of ["order"] sp_place_of:=by
  refine T.F_place_of.ok sc_place_of (fun vs H Q E h=>?_) (fun cdv A outer s H vs Q E hr h=>?_)
  · obtain ⟨a,o,rfl,_⟩:=h
    rfl
  · obtain ⟨a,o,rfl,ha,ho,k⟩:=h
    refine ⟨_,(@jc _ _ _ _ _ (yc (pt_not (xu (j5 (ok_is_order T) (hr.mono (by decide)) rfl T.m_is_order T.F_is_order.kp T.bd0_is_order.choose_spec (show Vals [.int 8] _ from .cons ⟨_,rfl⟩ .nil) jx (jd (pv 0) jg)))) (@jf _ _ _ (ps_never)) qe)
      (@jf _ _ _ (j4 (@pe_tup _ _ _ _ _ (@pa_2 _ _ _ _ _ (yq ix_tup (pv 0) jj (fun _ _=>rfl)) (yq ix_tup (pv 0) jj (fun _ _=>rfl)) rfl rfl))))),?_⟩
    refine ⟨_,rfl,a,o,8,rfl,ha,_,rfl,ifTrue ho ?_⟩
    exact ⟨_,rfl,a,ordV o,0,.int o.p,rfl,rfl,SqT.of ha,rfl,_,rfl,a,ordV o,1,.int o.n,rfl,rfl,SqT.of ha,rfl,zs2,fun p hp=>k p hp⟩
theorem upd_none' {H:Hp} {a b:Addr} {o:HO} (h:upd H a o b = none) : b ≠ a ∧ H b = none:=by
  have hb:b ≠ a:=fun z=>by
    rw [z,ja] at h
    cases h
  rw [je hb] at h
  exact ⟨hb,h⟩
def brd (S:Addr) (en:Int) : List (Str × V):=j9 "signers" (.ref S) (j9 "enough" (.int en) [])
theorem brd_signers (S:Addr) (en:Int) : (brd S en).lookup ("signers" : Str) = some (.ref S):=by
  unfold brd
  rw [jl,if_pos rfl]
theorem brd_enough (S:Addr) (en:Int) : (brd S en).lookup ("enough" : Str) = some (.int en):=by
  unfold brd
  rw [jl,if_neg (by decide +kernel),jl,if_pos rfl]
theorem brd_no (S:Addr) (en:Int) {m:Str} (h1 : ¬ m = "signers") (h2 : ¬ m = "enough") : (brd S en).lookup m = none:=by
  unfold brd
  rw [jl,if_neg h1,jl,if_neg h2]
  rfl
abbrev Things:=List (List Key × List Int)
def HsAt (H:Hp) (kv:List Key × V) (p:List Key × List Int) : Prop:=kv.1 = p.1 ∧ ∃ b,kv.2 = .ref b ∧ H b = some (.lst (p.2.map V.int))
structure BoardAt (t:Ad) (H:Hp) (p dx S:Addr) (en:Int) (kvs:List (List Key × V)) (ps:Things) : Prop where
  ob:H p = some (.ins t.a_Board dx (brd S en))
  sg:H S = some (.dT kvs)
  hs:Paired (HsAt H) kvs ps
  un:(kvs.map (·.2)).Nodup
theorem BoardAt.same {t:Ad} {H H':Hp} {p dx S:Addr} {en:Int} {kvs:List (List Key × V)} {ps:Things} (s:Same H H') (b:BoardAt t H p dx S en kvs ps) : BoardAt t H' p dx S en kvs ps:=
  ⟨s _ _ b.ob,s _ _ b.sg,Paired.mapP b.hs fun _ _ ⟨e,c,ec,h⟩=>⟨e,c,ec,s _ _ h⟩,b.un⟩
structure BoardRd (t:Ad) (H:Hp) (p dx S:Addr) (en:Int) (kvs:List (List Key × V)) (ps:Things) : Prop where
  ob:H p = some (.ins t.a_Board dx (brd S en))
  sg:Rd H S (.dT kvs)
  hs:Paired (HsAt H) kvs ps
theorem BoardAt.rd {t:Ad} {H:Hp} {p dx S:Addr} {en:Int} {kvs:List (List Key × V)} {ps:Things} (b:BoardAt t H p dx S en kvs ps) : BoardRd t H p dx S en kvs ps:=⟨b.ob,.inl b.sg,b.hs⟩
theorem rd_same {H H':Hp} {a:Addr} {u:HO} (s:Same H H') (h:Rd H a u) : Rd H' a u:=by
  rcases h with h | ⟨o,h⟩
  · exact .inl (s _ _ h)
  · exact .inr ⟨o,s _ _ h⟩
def qu:Things → List Key → List Int
  | [],_=>[]
  | p :: ps,k=>if p.1 = k then p.2 else qu ps k
theorem val_houses {H:Hp} {k:List Key} : ∀ {kvs:List (List Key × V)} {ps:Things},Paired (HsAt H) kvs ps → (valV kvs k = none ∧ qu ps k = [] ∧ k ∉ ps.map (·.1)) ∨ ∃ b,valV kvs k = some (.ref b) ∧ H b = some (.lst ((qu ps k).map V.int))
  | _,_,.nil=>.inl ⟨rfl,rfl,by simp⟩
  | kv :: kvs,p :: ps,.cons ⟨e,b,eb,h⟩ r=>by
    by_cases z:p.1 = k
    · refine .inr ⟨b,?_,?_⟩
      · rw [valV_pos (e.trans z),eb]
      · rw [qu,if_pos z]
        exact h
    · have z' : ¬ kv.1 = k:=fun q=>z (e.symm.trans q)
      rw [qu,if_neg z,valV_neg z']
      rcases val_houses r with ⟨h1,h2,h3⟩ | h
      · exact .inl ⟨h1,h2,by rw [List.map_cons,List.mem_cons]; exact fun q=>q.elim (fun q=>z q.symm) h3⟩
      · exact .inr h
def sp_brinit (t:Ad) : Sp:=fun vs H Q _=>∃ x dx en,vs = [.ref x,.int en] ∧ H x = some (.ins t.a_Board dx []) ∧ ∀ S H',H S = none → BoardAt t H' x dx S en [] [] → (∀ b o,H b = some o → b ≠ x → H' b = some o) → Q .non H'
def sp_carriedIs (t:Ad) : Sp:=fun vs H Q _=>∃ p dx S en kvs ps b k,vs = [.ref p,.ref b] ∧ BoardRd t H p dx S en kvs ps ∧ H b = some (.tup (k.map kV)) ∧ ∀ H',Same H H' → Q (.bl (decide (en ≤ ((qu ps k).length:Int)))) H'
def signP:Things → List Key → Int → Things
  | [],k,h=>[(k,[h])]
  | p :: ps,k,h=>if p.1 = k then (p.1,p.2 ++ [h]) :: ps else p :: signP ps k h
def NotIn (kvs:List (List Key × V)) (c:Addr) : Prop:=∀ kv ∈ kvs,kv.2 ≠ .ref c
def sp_put (t:Ad) : Sp:=fun vs H Q _=>∃ p dx S en kvs ps b k h,vs = [.ref p,.int h,.ref b] ∧ BoardAt t H p dx S en kvs ps ∧ H b = some (.tup (k.map kV)) ∧ kvs.length ≤ 1000 ∧ (qu ps k).length ≤ 1000 ∧
  (h ∈ qu ps k → ∀ H',Same H H' → Q (.bl false) H') ∧
  (h ∉ qu ps k → ∀ kvs' H',BoardAt t H' p dx S en kvs' (signP ps k h) → (∀ c u,H c = some u → c ≠ S → NotIn kvs c → H' c = some u) → (∀ c u,H c = some u → NotIn kvs c → NotIn kvs' c) → Q (.bl (decide (((qu ps k).length:Int) + 1 = en))) H')
theorem signP_new : ∀ {ps:Things} {k:List Key} {h:Int},k ∉ ps.map (·.1) → signP ps k h = ps ++ [(k,[h])]
  | [],_,_,_=>rfl
  | p :: ps,k,h,z=>by
    rw [List.map_cons,List.mem_cons] at z
    rw [signP,if_neg (fun e=>z (.inl e.symm)),signP_new fun e=>z (.inr e)]
    rfl
theorem qx {α β : Type} {F : α → β → Prop} : ∀ {xs:List α} {ys:List β} {x : α} {y : β},Paired F xs ys → F x y → Paired F (xs ++ [x]) (ys ++ [y])
  | _,_,_,_,.nil,h=>.cons h .nil
  | _,_,_,_,.cons a r,h=>.cons a (qx r h)
theorem val_mem {k:List Key} {v:V} {kvs:List (List Key × V)} (ev:valV kvs k = some v) : v ∈ kvs.map (·.2):=by
  unfold valV at ev
  cases hf:kvs.find? (fun kv=>decide (kv.1 = k)) with
  | none=>
    rw [hf] at ev
    cases ev
  | some q=>
    rw [hf] at ev
    have e3:q.2 = v:=Option.some.inj ev
    rw [← e3]
    exact List.mem_map_of_mem (List.mem_of_find?_eq_some hf)
theorem inV_ints {h:Int} : ∀ {hs:List Int},inV (.int h) (hs.map V.int) = decide (h ∈ hs)
  | []=>rfl
  | x :: hs=>by
    have ih:=inV_ints (h:=h) (hs:=hs)
    simp only [List.map_cons,inV,List.any_cons] at ih ⊢
    rw [ih]
    by_cases e:h = x
    · subst e
      simp [eqV]
    · have e' : ¬ x = h:=fun z=>e z.symm
      simp [eqV,e,e']
theorem flat_ints (hs:List Int) : (hs.map V.int).all flatV = true:=by
  rw [List.all_eq_true]
  intro y hy
  obtain ⟨i,_,rfl⟩:=List.mem_map.mp hy
  rfl
theorem refs_old {H:Hp} {r:Addr} (hr:H r = none) : ∀ {kvs:List (List Key × V)} {ps:Things},Paired (HsAt H) kvs ps → V.ref r ∉ kvs.map (·.2)
  | _,_,.nil=>by simp
  | _,_,.cons ⟨_,b,eb,hb⟩ q=>by
    rw [List.map_cons,List.mem_cons]
    rintro (z | z)
    · rw [eb] at z
      cases z
      rw [hr] at hb
      cases hb
    · exact refs_old hr q z
theorem grown {H:Hp} {k:List Key} {h:Int} {c:Addr} : ∀ {kvs:List (List Key × V)} {ps:Things},Paired (HsAt H) kvs ps → (kvs.map (·.2)).Nodup → valV kvs k = some (.ref c) → Paired (HsAt (upd H c (.lst ((qu ps k ++ [h]).map V.int)))) kvs (signP ps k h)
  | _,_,.nil,_,e=>by cases e
  | kv :: kvs,p :: ps,.cons ⟨e,b,eb,hb⟩ r,nd,ev=>by
    rw [List.map_cons,List.nodup_cons] at nd
    have keep : ∀ {kvs:List (List Key × V)} {ps:Things} {o:HO} {a:Addr},V.ref a ∉ kvs.map (·.2) → Paired (HsAt H) kvs ps → Paired (HsAt (upd H a o)) kvs ps:=fun {kvs ps o a} ha r=>by
      induction r with
      | nil=>exact .nil
      | cons q _ ih=>
        rw [List.map_cons,List.mem_cons] at ha
        obtain ⟨q1,b,q2,q3⟩:=q
        refine .cons ⟨q1,b,q2,?_⟩ (ih fun z=>ha (.inr z))
        rw [je (fun z=>ha (.inl (by rw [q2,z])))]
        exact q3
    by_cases z:p.1 = k
    · rw [valV_pos (e.trans z),eb] at ev
      cases ev
      rw [signP,if_pos z,qu,if_pos z]
      rw [eb] at nd
      exact .cons ⟨e,c,eb,ja⟩ (keep nd.1 r)
    · have z' : ¬ kv.1 = k:=fun q=>z (e.symm.trans q)
      rw [valV_neg z'] at ev
      rw [signP,if_neg z,qu,if_neg z]
      have hm:V.ref c ∈ kvs.map (·.2):=val_mem ev
      have hbc:b ≠ c:=fun q=>nd.1 (by rw [eb,q]; exact hm)
      exact .cons ⟨e,b,eb,by rw [je hbc]; exact hb⟩ (grown r nd.2 ev)
theorem lc_dT {a:Addr} {o:Obj} {kvs:List (List Key × V)} {g:TG} {ti:TT} {te:TE} {σ0:St} {H0:Hp} {Q:VK} (Pv:Nat → List V → St → Hp → Prop) (h0:Pv 0 [] σ0 H0)
    (hl : ∀ i ys σ H,i ≤ kvs.length → Pv i ys σ H → H a = some (.frz o (.dT kvs)) ∧ ys.length ≤ sizeLine)
    (hs : ∀ i kv b ys σ H,kvs[i]? = some kv → H b = some (.tup (kv.1.map kV)) → Pv i ys σ H → g (.ref b) σ H fun σ2 H2=>ti σ2 H2 fun c H3=>if c = true then te σ2 H3 fun y H4=>Pv (i + 1) (ys ++ [y]) σ2 H4 else Pv (i + 1) ys σ2 H3)
    (hd : ∀ ys σ H,Pv kvs.length ys σ H → ∀ p,H p = none → Q (.ref p) (upd H p (.lst ys))) :
    ∃ W : Nat → Nat → List V → St → Hp → Prop,(∃ m,W 0 m [] σ0 H0) ∧ ∀ i m ys σ H,W i m ys σ H →
      ys.length ≤ sizeLine ∧ (((ItdT a o kvs).stop i H ∧ lcEnd Q ys H) ∨
        ((ItdT a o kvs).go i H ∧ ∃ N:List V → St → Hp → Prop,(∀ ys' σ' H',N ys' σ' H' → ∃ m',m' < m ∧ W (i + 1) m' ys' σ' H') ∧
          ∀ x H',(ItdT a o kvs).yld i H x H' → g x σ H' fun σ2 H2=>ti σ2 H2 fun b H3=>if b = true then te σ2 H3 fun y H4=>N (ys ++ [y]) σ2 H4 else N ys σ2 H3)):=by
  refine ⟨fun i m ys σ H=>m = kvs.length - i ∧ i ≤ kvs.length ∧ Pv i ys σ H,⟨kvs.length,by simp,Nat.zero_le _,h0⟩,?_⟩
  rintro i m ys σ H ⟨rfl,hi,p⟩
  obtain ⟨q,hz⟩:=hl i ys σ H hi p
  refine ⟨hz,?_⟩
  by_cases hlt:i < kvs.length
  · refine .inr ⟨⟨hlt,q⟩,Pv (i + 1),fun ys' σ' H' p'=>⟨kvs.length - (i + 1),by omega,rfl,hlt,p'⟩,fun x H' y=>?_⟩
    obtain ⟨e,kv,b,ek,ex,eb⟩:=y
    subst e ex
    exact hs i kv b ys σ _ ek eb p
  · have e:i = kvs.length:=by omega
    subst e
    exact .inl ⟨⟨Nat.le_refl _,q⟩,hd ys σ H p⟩
abbrev IThings:=List (List Int × List Int)
def keyI (t:List Int) : List Key:=t.map Sum.inl
def thP (is:IThings) : Things:=is.map fun p=>(keyI p.1,p.2)
theorem keyI_map (t:List Int) : (keyI t).map kV = t.map V.int:=by
  unfold keyI
  rw [List.map_map]
  rfl
theorem keyI_inj {t u:List Int} (h:keyI t = keyI u) : t = u:=(List.map_inj_right (fun _ _ z=>Sum.inl.inj z)).mp h
def carriedI (is:IThings) (en:Int) : List (List Int):=(is.filter fun p=>decide (en ≤ (p.2.length:Int))).map (·.1)
theorem houses_at : ∀ {is:IThings} {i:Nat} {p:List Int × List Int},(is.map (·.1)).Nodup → is[i]? = some p → qu (thP is) (keyI p.1) = p.2
  | [],_,_,_,e=>by simp at e
  | x :: is,0,p,_,e=>by
    cases Option.some.inj e
    show (if keyI x.1 = keyI x.1 then x.2 else _) = _
    rw [if_pos rfl]
  | x :: is,i + 1,p,nd,e=>by
    rw [List.map_cons,List.nodup_cons] at nd
    have hm:p ∈ is:=List.mem_of_getElem? (by simpa using e)
    show (if keyI x.1 = keyI p.1 then x.2 else qu (thP is) (keyI p.1)) = _
    rw [if_neg fun z=>nd.1 (by rw [keyI_inj z]; exact List.mem_map_of_mem hm)]
    exact houses_at nd.2 (by simpa using e)
def sp_carried (K:W.Frag) (t:Ad) : Sp:=fun vs H Q _=>∃ p dx S en kvs is,vs = [.ref p] ∧ BoardAt t H p dx S en kvs (thP is) ∧ kvs.length < 64 ∧ (is.map (·.1)).Nodup ∧ (∀ x ∈ is,x.1 ≠ []) ∧
  ∀ (r:Addr) (vs':List V) (ts':List (List Int)) (H':Hp),H r = none → Same H H' → ts'.Perm (carriedI is en) → ts'.Pairwise (fun a b=>HT.lexLt a b = true) → TupsAt K H' vs' ts' → H' r = some (.lst vs') → Q (.ref r) H'
theorem tups_same {K:W.Frag} {H H':Hp} {vs:List V} {ts:List (List Int)} (s:Same H H') (h:TupsAt K H vs ts) : TupsAt K H' vs ts:=Paired.mapP h fun _ _ ⟨a,e,q⟩=>⟨a,e,by
  rcases q with q | q
  · exact .inl (rd_same s q)
  · exact .inr q⟩
theorem tups_snoc {K:W.Frag} {H:Hp} {vs:List V} {ts:List (List Int)} {b:Addr} {u:List Int} (h:TupsAt K H vs ts) (hb:H b = some (.tup (u.map V.int))) : TupsAt K H (vs ++ [.ref b]) (ts ++ [u]):=qx h ⟨b,rfl,SqT.of hb⟩
section
variable {P:Program} {w:World} {K:W.Frag} {mg:Str → Option Value} {base:Heap} {t:Ad}
theorem ok_Board_is_carried (T:Txt K mg t) : FnOk P w K mg base CX0 1 t.f_Board_is_carried t.d_Board_is_carried ["self","thing"] (sp_carriedIs t):=by
  refine T.F_Board_is_carried.ok sc_Board_is_carried (fun vs H Q E h=>?_) (fun cdv A outer s H vs Q E hr h=>?_)
  · obtain ⟨p,dx,S,en,kvs,ps,b,k,rfl,_⟩:=h
    rfl
  · obtain ⟨p,dx,S,en,kvs,ps,b,k,rfl,B,hb,q⟩:=h
    refine ⟨_,(@jf _ _ _ (j4 (pe_cmpR op_ge (ju j8 rfl T.n_len boot_len (jd (pe_dget2 (hu_of hr) (qa (pv 0) rfl) (pv 1) (@qd _ _ _ _ jg) ⟨rfl,rfl,rfl,rfl⟩) jg)) (qa (pv 0) rfl) (zv _)))),?_⟩
    refine ⟨_,rfl,p,_,dx,_,_,rfl,B.ob,T.cl_Board,T.na_Board_signers,brd_signers _ _,S,rfl,.inr ⟨kvs,B.sg⟩,_,rfl,zs0,fun r hr=>?_⟩
    have s1:=ji (o:=.lst []) hr
    refine ⟨_,.inr ⟨kvs,k,b,rd_same s1 B.sg,rfl,s1 _ _ hb,rfl⟩,?_⟩
    rcases val_houses (k:=k) B.hs with ⟨h1,h2,h3⟩ | ⟨c,h1,h2⟩
    · rw [h1]
      refine ⟨r,[],rfl,.inl (SqL.of ja),_,rfl,p,_,dx,_,_,rfl,s1 _ _ B.ob,T.cl_Board,T.yb,brd_enough _ _,_,_,rfl,rfl,?_⟩
      have:=q _ s1
      rw [h2] at this
      exact this
    · rw [h1]
      refine ⟨c,_,rfl,.inl (SqL.of (s1 _ _ h2)),_,rfl,p,_,dx,_,_,rfl,s1 _ _ B.ob,T.cl_Board,T.yb,brd_enough _ _,_,_,rfl,rfl,?_⟩
      rw [List.length_map]
      exact q _ s1
theorem ok_Board_put (T:Txt K mg t) : FnOk P w K mg base CX0 1 t.f_Board_put t.d_Board_put ["self","house","thing"] (sp_put t):=by
  refine T.F_Board_put.ok sc_Board_put (fun vs H Q E h=>?_) (fun cdv A outer s H vs Q E hr h=>?_)
  · obtain ⟨p,dx,S,en,kvs,ps,b,k,h,rfl,_⟩:=h
    rfl
  · obtain ⟨p,dx,S,en,kvs,ps,b,k,h,rfl,B,hb,l1,l2,q1,q2⟩:=h
    refine ⟨_,(@jc _ _ _ _ _ (j7 (i:=3) sc_Board_put.nd rfl (Or.inl rfl) (pe_dsetdef (hu_of hr) (qa (pv 0) rfl) (pv 2) (@qd _ _ _ _ jg) ⟨rfl,rfl,rfl,rfl⟩))
      (@jc _ _ _ _ _ (yc (qr op_in_seq (pv 1) (pv 3) (by with_unfolding_all rfl)) (@jf _ _ _ (j4 pe_bl)) qe)
      (@jc _ _ _ _ _ (zd (pe_bm PySem.F.plainAttrs_list PySem.F.slot_list_append PySem.F.type_list_append ya (pv 3) (jd (pv 1) jg)))
      (@jf _ _ _ (j4 (pe_cmpR op_eq (ju j8 rfl T.n_len boot_len (jd (pv 3) jg)) (qa (pv 0) rfl) (zv _))))))),?_⟩
    refine ⟨_,rfl,p,_,dx,_,_,rfl,B.ob,T.cl_Board,T.na_Board_signers,brd_signers _ _,S,rfl,.inr ⟨kvs,.inl B.sg⟩,_,rfl,zs0,fun r hr=>?_⟩
    have s1:=ji (o:=.lst []) hr
    have B1:=B.same s1
    refine ⟨kvs,k,b,B1.sg,rfl,s1 _ _ hb,xy l1,fun v hv=>?_,fun hv=>?_⟩
    · rcases val_houses (k:=k) B1.hs with ⟨z,_⟩ | ⟨c,h1,h2⟩
      · rw [hv] at z
        cases z
      cases Option.some.inj (hv.symm.trans h1)
      refine ⟨_,rfl,_,rfl,c,_,rfl,.inl (SqL.of h2),rfl,flat_ints _,_,rfl,ite2 (fun z=>?_) (fun z=>?_)⟩
      · rw [if_neg (by decide),inV_ints] at z
        exact q1 (of_decide_eq_true z) _ s1
      rw [if_neg (by decide),inV_ints] at z
      have nh:h ∉ qu ps k:=fun y=>z (decide_eq_true y)
      have pc:p ≠ c:=ne_of B1.ob h2 (by intro z; cases z)
      have Sc:S ≠ c:=ne_of B1.sg h2 (by intro z; cases z)
      refine ⟨_,rfl,.inl ⟨rfl,_,SqL.of h2⟩,_,rfl,c,_,_,rfl,rfl,h2,xy (by rw [List.length_map]; exact l2),?_⟩
      refine ⟨_,rfl,c,_,rfl,.inl (SqL.of ja),_,rfl,p,_,dx,_,_,rfl,(by rw [je pc]; exact B1.ob),T.cl_Board,T.yb,brd_enough _ _,rfl,?_⟩
      have G:=grown (h:=h) B1.hs B1.un h1
      rw [List.map_append] at G
      have e:decide (V.int (((qu ps k).map V.int ++ [V.int h]).length:Nat) = V.int en) = decide (((qu ps k).length:Int) + 1 = en):=by
        rw [List.length_append,List.length_map]
        simp
      have goal:=q2 nh kvs _ ⟨by rw [je pc]; exact B1.ob,by rw [je Sc]; exact B1.sg,G,B1.un⟩ fun c' u hc cS cN=>by
        have ne:c' ≠ c:=fun y=>by
          obtain ⟨kv,hm,ek⟩:=List.mem_map.mp (val_mem h1)
          exact cN kv hm (by rw [ek,y])
        rw [je ne]
        exact s1 _ _ hc
      have goal:=goal fun _ _ _ z=>z
      rw [← e] at goal
      exact goal
    · rcases val_houses (k:=k) B1.hs with ⟨_,h2,h3⟩ | ⟨c,z,_⟩
      case inr=>rw [hv] at z; cases z
      have rS:r ≠ S:=(jh B.sg hr).symm
      have rp:r ≠ p:=(jh B.ob hr).symm
      have Sp:S ≠ p:=ne_of B.sg B.ob (by intro z; cases z)
      rw [putK_new _ hv]
      have hr1:upd (upd H r (.lst [])) S (.dT (kvs ++ [(k,.ref r)])) r = some (.lst []):=by rw [je rS]; exact ja
      refine ⟨_,rfl,_,rfl,r,[],rfl,.inl (SqL.of hr1),rfl,rfl,_,rfl,iteF ?_⟩
      refine ⟨_,rfl,.inl ⟨rfl,_,SqL.of hr1⟩,_,rfl,r,[],_,rfl,rfl,hr1,(by show 0 < sizeLine; decide),?_⟩
      have ob2:upd (upd (upd H r (.lst [])) S (.dT (kvs ++ [(k,.ref r)]))) r (.lst ([] ++ [.int h])) p = some (.ins t.a_Board dx (brd S en)):=by rw [je rp.symm,je Sp.symm]; exact B1.ob
      refine ⟨_,rfl,r,_,rfl,.inl (SqL.of ja),_,rfl,p,_,dx,_,_,rfl,ob2,T.cl_Board,T.yb,brd_enough _ _,rfl,?_⟩
      have goal:=q2 (by rw [h2]; simp) (kvs ++ [(k,.ref r)]) (upd (upd (upd H r (.lst [])) S (.dT (kvs ++ [(k,.ref r)]))) r (.lst ([] ++ [.int h]))) ⟨ob2,by rw [je rS.symm]; exact ja,by
        rw [signP_new h3]
        refine qx (Paired.mapP B.hs fun kv pp ⟨e1,c,e2,e3⟩=>⟨e1,c,e2,?_⟩) ⟨rfl,r,rfl,ja⟩
        rw [je (jh e3 hr),je (ne_of e3 B.sg (by intro z; cases z)),je (jh e3 hr)]
        exact e3,by
        rw [List.map_append,List.nodup_append]
        refine ⟨B.un,by simp,fun x hx y hy e=>?_⟩
        rw [List.map_cons,List.map_nil,List.mem_singleton] at hy
        rw [e,hy] at hx
        exact refs_old hr B.hs hx⟩ fun c' u hc cS _=>by
          rw [je (jh hc hr),je cS,je (jh hc hr)]
          exact hc
      have goal:=goal fun c u hc z kv hm=>by
        rcases List.mem_append.mp hm with y | y
        · exact z kv y
        · have y':kv = (k,.ref r):=by simpa using y
          rw [y']
          intro w
          have w':r = c:=by simpa using w
          rw [← w',hr] at hc
          cases hc
      rw [h2] at goal
      have e:decide (V.int ((([] : List V) ++ [V.int h]).length:Nat) = V.int en) = decide ((([] : List Int).length:Int) + 1 = en):=by simp
      rw [← e] at goal
      exact goal
theorem ok_Board_carried (T:Txt K mg t) : FnOk P w K mg base CX0 2 t.f_Board_carried t.d_Board_carried ["self"] (sp_carried K t):=by
  refine T.F_Board_carried.ok sc_Board_carried (fun vs H Q E h=>?_) (fun cdv A outer s H vs Q E hr h=>?_)
  · obtain ⟨p,dx,S,en,kvs,is,rfl,_⟩:=h
    rfl
  · obtain ⟨p,dx,S,en,kvs,is,rfl,B,l64,nd,ne,q⟩:=h
    refine ⟨_,(@jf _ _ _ (j4 (ju call_sortedT rfl T.n_sorted boot_sorted (jd (pe_thaw (pe_lcomp (N':=["thing","self"]) (ix:=[none,some 0]) (compOk_is (by kernel_rfl)) rfl (pi_dT (qa (pv 0) rfl)) (fun _ _ _ _=>(qc (i:=0) nd_0 rfl (Or.inl rfl) (.inr rfl))) (fun _ _ _ _=>(pif_one (xu (qq (pv 1) T.cl_Board T.mt_Board_is_carried (ok_Board_is_carried T) (hr.mono (by decide)) T.b_Board_is_carried .nil jx (jd (pv 0) jg))))) (fun _ _ _ _=>(pv 0)))) jg)))),?_⟩
    have len:kvs.length = is.length:=by
      have:=Paired.length B.hs
      rwa [thP,List.length_map] at this
    refine ⟨_,rfl,p,_,dx,_,_,rfl,B.ob,T.cl_Board,T.na_Board_signers,brd_signers _ _,S,kvs,rfl,B.sg,fun o=>lc_dT (fun i ys σ H'=>∃ v,σ = [v,some (.ref p)] ∧ Same (upd H S (.frz o (.dT kvs))) H' ∧ TupsAt K H' ys (carriedI (is.take i) en)) ⟨none,rfl,Same.refl _,.nil⟩ ?_ ?_ ?_⟩
    · rintro i ys σ H' hi ⟨v,rfl,sm,tu⟩
      refine ⟨sm _ _ ja,?_⟩
      rw [Paired.length tu,carriedI,List.length_map]
      exact len1000 (Nat.le_trans (List.length_filter_le _ _) (by rw [List.length_take]; omega))
    · rintro i kv b ys σ H' ek eb ⟨v,rfl,sm,tu⟩
      obtain ⟨pp,ep,e1,c,e2,e3⟩:=ql B.hs ek
      obtain ⟨x,ex,rfl⟩ : ∃ x,is[i]? = some x ∧ (keyI x.1,x.2) = pp:=by
        rw [thP,List.getElem?_map] at ep
        cases hx:is[i]? with
        | none=>
          rw [hx] at ep
          cases ep
        | some x=>
          rw [hx] at ep
          exact ⟨x,rfl,Option.some.inj ep⟩
      have hfr : ∀ c u,H c = some u → c ≠ S → H' c = some u:=fun c u hc cS=>sm _ _ (by rw [je cS]; exact hc)
      have hS':H' S = some (.frz o (.dT kvs)):=sm _ _ ja
      have R:BoardRd t H' p dx S en kvs (thP is):=⟨hfr _ _ B.ob (ne_of B.ob B.sg (by intro z; cases z)),.inr ⟨o,hS'⟩,Paired.mapP B.hs fun _ _ ⟨a1,c,a2,a3⟩=>⟨a1,c,a2,hfr _ _ a3 (ne_of a3 B.sg (by intro z; cases z))⟩⟩
      have hk:kv.1 = keyI x.1:=e1
      rw [hk] at eb
      have hh:=houses_at nd ex
      have tk:carriedI (is.take (i + 1)) en = carriedI (is.take i) en ++ (if en ≤ (x.2.length:Int) then [x.1] else []):=by
        unfold carriedI
        rw [take_snoc ex,List.filter_append,List.map_append]
        by_cases z:en ≤ (x.2.length:Int) <;> simp [z]
      refine ⟨_,rfl,p,dx,_,rfl,R.ob,brd_no _ _ (by decide +kernel) (by decide +kernel),_,rfl,p,dx,S,en,kvs,thP is,b,keyI x.1,rfl,R,eb,fun H3 s3=>⟨_,rfl,?_⟩⟩
      rw [hh]
      have eb3:H3 b = some (.tup (x.1.map V.int)):=by
        have:=s3 _ _ eb
        rwa [keyI_map] at this
      refine ite2 (fun z=>?_) (fun z=>?_)
      · refine ⟨_,rfl,_,rfl,sm.trans s3,?_⟩
        rw [tk,if_pos (of_decide_eq_true z)]
        exact tups_snoc (tups_same s3 tu) eb3
      · refine ⟨_,rfl,sm.trans s3,?_⟩
        rw [tk,if_neg (fun y=>z (decide_eq_true y)),List.append_nil]
        exact tups_same s3 tu
    · rintro ys σ H' ⟨v,rfl,sm,tu⟩ r hr
      rw [len,List.take_length] at tu
      have hS':H' S = some (.frz o (.dT kvs)):=sm _ _ ja
      have rS:r ≠ S:=(jh hS' hr).symm
      have keepE : ∀ c u,H' c = some u → c ≠ S → upd (upd H' r (.lst ys)) S (.dT kvs) c = some u:=fun c u hc cS=>by
        rw [je cS,je (jh hc hr)]
        exact hc
      refine ⟨S,o,.dT kvs,(by rw [je rS.symm]; exact hS'),(fun o' u' z=>?_),True.intro,r,ys,carriedI is en,rfl,SqL.of (by rw [je rS]; exact ja),?_,?_,?_,?_,fun q' vs' ts' hq _ pt ta pw=>?_⟩
      · have z':H S = some (.frz o' u'):=z
        rw [B.sg] at z'
        cases z'
      · refine Paired.mapP tu fun _ _ ⟨a,e,h⟩=>⟨a,e,?_⟩
        rcases h with (h | ⟨o',h⟩) | h
        · exact .inl (.inl (keepE _ _ h (ne_of h hS' (by intro z; cases z))))
        · exact .inl (.inr ⟨o',keepE _ _ h (ne_of h hS' (by intro z; cases z))⟩)
        · exact .inr h
      · rw [Paired.length tu,carriedI,List.length_map]
        exact Nat.lt_of_le_of_lt (List.length_filter_le _ _) (by omega)
      · exact nd.sublist (List.filter_sublist.map _)
      · intro u hu
        obtain ⟨x,hx,rfl⟩:=List.mem_map.mp hu
        exact ne x (List.mem_filter.mp hx).1
      · obtain ⟨n1,n2⟩:=upd_none' hq
        obtain ⟨n3,n4⟩:=upd_none' n2
        have h0:=(upd_none' (sm.free n4)).2
        refine q q' vs' ts' _ h0 (fun c u hc=>?_) pt pw (tups_same (ji hq) ta) ja
        rw [je (jh hc h0)]
        by_cases cS:c = S
        · subst cS
          rw [ja,← hc,B.sg]
        · exact keepE c u (sm _ _ (by rw [je cS]; exact hc)) cS
theorem ok_Board___init__ (T:Txt K mg t) : FnOk P w K mg base CX0 1 t.f_Board___init__ t.d_Board___init__ ["self","enough"] (sp_brinit t):=by
  refine T.F_Board___init__.ok sc_Board___init__ (fun vs H Q E h=>?_) (fun cdv A outer s H vs Q E hr h=>?_)
  · obtain ⟨x,dx,en,rfl,_⟩:=h
    rfl
  · obtain ⟨x,dx,en,rfl,hx,k⟩:=h
    refine ⟨_,(@jc _ _ _ _ _ (ps_fld (pv 0) (pv 1) rfl)
      (@jf _ _ _ (ps_fld (pv 0) pe_dnewT rfl))),?_⟩
    refine ⟨_,rfl,_,rfl,x,_,dx,_,rfl,hx,T.cl_Board,T.yb,(by show 0 < 1000; decide),fun S hS=>?_⟩
    obtain ⟨Sx,hS0⟩:=upd_none' hS
    refine ⟨_,rfl,x,_,dx,_,rfl,(by rw [je (Ne.symm Sx),ja]),T.cl_Board,T.na_Board_signers,(by show 1 < 1000; decide),?_⟩
    refine k S _ hS0 ⟨ja,by rw [je Sx]; exact ja,.nil,.nil⟩ fun b o e bx=>?_
    rw [je bx,je (jh e hS0),je bx]
    exact e
structure Kp where
  held:List Int
  nexts:List Int
  done:List O
  heard:List O
  unv:List O
  cho:List ((Int × Int) × O)
  wait:List O
def gI (xs:List Int) (i:Int) : Int:=(xs[i.toNat]?).getD 0
def addI (xs:List Int) (i d:Int) : List Int:=xs.set i.toNat (gI xs i + d)
theorem addI_len (xs:List Int) (i d:Int) : (addI xs i d).length = xs.length:=List.length_set ..
theorem gI_of {xs:List Int} {i:Int} (h0 : 0 ≤ i) (h:i < xs.length) : xs[i.toNat]? = some (gI xs i):=by
  unfold gI
  rw [List.getElem?_eq_getElem (by omega)]
  rfl
def Kp.past (k:Kp) (o:O) : Bool:=decide (o.n < gI k.nexts o.p)
def Kp.due (k:Kp) (o:O) : Bool:=decide (o.n = gI k.nexts o.p) && decide (o.m ≤ gI k.held o.p)
def Kp.settle (k:Kp) (o:O) : Kp:={ k with held:=addI (addI k.held o.p (-o.m)) o.g o.m,nexts:=addI k.nexts o.p 1,done:=k.done ++ [o] }
def chose (c:List ((Int × Int) × O)) (o:O) : Bool:=c.any fun x=>decide (x.1 = (o.p,o.n))
abbrev Gv:=List ((Int × Int) × O) × List O × List O
def gvS (k:Kp) (o:O) (a:Gv) : Gv:=if (k.due o && !chose a.1 o) = true then (a.1 ++ [((o.p,o.n),o)],a.2.1 ++ [o],a.2.2) else if (!k.past o && !chose a.1 o) = true then (a.1,a.2.1,a.2.2 ++ [o]) else a
def gv (k:Kp) (os:List O) (a:Gv) : Gv:=os.foldl (fun a o=>gvS k o a) a
def Kp.zb (k:Kp) : Kp × List O:=({ k with cho:=(gv k k.unv (k.cho,[],[])).1,unv:=(gv k k.unv (k.cho,[],[])).2.2 },(gv k k.unv (k.cho,[],[])).2.1)
def Kp.first (k:Kp) : Option O:=k.wait.find? k.due
def Kp.step (k:Kp) (o:O) : Kp:={ k with wait:=k.wait.erase o }.settle o
def Kp.go:Nat → Kp → Kp
  | 0,k=>k
  | n + 1,k=>match k.first with
    | none=>k
    | some o=>Kp.go n (k.step o)
def Kp.goOn (k:Kp) : Kp:=Kp.go k.wait.length k
def Kp.hear (k:Kp) (o:O) : Kp × List O:=if o ∈ k.heard then (k,[]) else Kp.zb { k with heard:=k.heard ++ [o],unv:=k.unv ++ [o] }
def Kp.paper (k:Kp) (o:O) : Kp × List O:=if (k.past o || decide (o ∈ k.wait)) = true then (k,[]) else (Kp.goOn { k with wait:=k.wait ++ [o] }).zb
structure Kp.Ok (n:Nat) (k:Kp) : Prop where
  h:k.held.length = n
  x:k.nexts.length = n
  u : ∀ o ∈ k.unv,isOrd n o = true
  w : ∀ o ∈ k.wait,isOrd n o = true
  nd:k.wait.Nodup
theorem Kp.Ok.settle {n:Nat} {k:Kp} (q:k.Ok n) (o:O) : (k.settle o).Ok n:=⟨by show (addI (addI _ _ _) _ _).length = n; rw [addI_len,addI_len]; exact q.h,by show (addI _ _ _).length = n; rw [addI_len]; exact q.x,q.u,q.w,q.nd⟩
theorem Kp.Ok.step {n:Nat} {k:Kp} (q:k.Ok n) (o:O) : (k.step o).Ok n:=Kp.Ok.settle (k:={ k with wait:=k.wait.erase o }) ⟨q.h,q.x,q.u,fun o' h=>q.w o' (List.mem_of_mem_erase h),q.nd.erase o⟩ o
theorem gv_later (k:Kp) {P:O → Prop} : ∀ (os:List O) (a:Gv),(∀ o ∈ os,P o) → (∀ o ∈ a.2.2,P o) → ∀ o ∈ (gv k os a).2.2,P o
  | [],a,_,h=>h
  | o :: os,a,h1,h2=>by
    unfold gv
    rw [List.foldl_cons]
    refine gv_later k os _ (fun o' h=>h1 o' (List.mem_cons_of_mem _ h)) ?_
    unfold gvS
    split
    · exact h2
    · split
      · intro o' h
        rcases List.mem_append.mp h with h | h
        · exact h2 o' h
        · rw [List.mem_singleton.mp h]
          exact h1 o List.mem_cons_self
      · exact h2
theorem Kp.Ok.zb {n:Nat} {k:Kp} (q:k.Ok n) : k.zb.1.Ok n:=⟨q.h,q.x,gv_later k k.unv _ q.u (fun o h=>by cases h),q.w,q.nd⟩
inductive Part where
  | x | wy | ak | bd | sd | sg | kd
  | row (i:Nat)
  | kp (h:Int) (f:Nat)
  | own (i:Nat)
  deriving DecidableEq
abbrev Role:=Nat × Part
abbrev Rho:=Addr → Option Role
def noTup:HO → Prop
  | .tup _=>False
  | .frz _ (.tup _)=>False
  | _=>True
def OkR (ρ : Rho) (H:Hp) : Prop:=∀ a r,ρ a = some r → ∃ u,H a = some u ∧ noTup u
def Fr (P:Role → Prop) (ρ : Rho) (H:Hp) (ρ':Rho) (H':Hp) : Prop:=∀ a u,H a = some u → (∀ r,ρ a = some r → ¬ P r) → H' a = some u ∧ ρ' a = ρ a
def zm (ρ : Rho) (p:Addr) (r:Role) : Rho:=fun a=>if a = p then some r else ρ a
theorem j3 {ρ : Rho} {p:Addr} {r:Role} : zm ρ p r p = some r:=if_pos rfl
theorem qf {ρ : Rho} {p a:Addr} {r:Role} (h:a ≠ p) : zm ρ p r a = ρ a:=if_neg h
theorem Fr.refl {P:Role → Prop} {ρ : Rho} {H:Hp} : Fr P ρ H ρ H:=fun _ _ e _=>⟨e,rfl⟩
theorem Fr.trans {P:Role → Prop} {ρ ρ' ρ'':Rho} {H H' H'':Hp} (f:Fr P ρ H ρ' H') (g:Fr P ρ' H' ρ'' H'') : Fr P ρ H ρ'' H'':=fun a u e n=>by
  obtain ⟨e1,r1⟩:=f a u e n
  obtain ⟨e2,r2⟩:=g a u e1 (fun r h=>n r (r1 ▸ h))
  exact ⟨e2,r2.trans r1⟩
theorem Fr.mono {P P':Role → Prop} {ρ ρ':Rho} {H H':Hp} (h : ∀ r,P r → P' r) (f:Fr P ρ H ρ' H') : Fr P' ρ H ρ' H':=fun a u e n=>f a u e fun r hr p=>n r hr (h r p)
theorem Fr.same {P:Role → Prop} {ρ : Rho} {H H':Hp} (s:Same H H') : Fr P ρ H ρ H':=fun _ _ e _=>⟨s _ _ e,rfl⟩
theorem OkR.same {ρ : Rho} {H H':Hp} (s:Same H H') (o:OkR ρ H) : OkR ρ H':=fun a r h=>let ⟨u,e,n⟩:=o a r h; ⟨u,s _ _ e,n⟩
theorem OkR.none {ρ : Rho} {H:Hp} {p:Addr} (o:OkR ρ H) (h:H p = none) : ρ p = .none:=by
  cases e : ρ p with
  | none=>rfl
  | some r=>
    obtain ⟨u,q,_⟩:=o p r e
    rw [h] at q
    cases q
theorem OkR.tup {ρ : Rho} {H:Hp} {p:Addr} {xs:List V} (o:OkR ρ H) (h:H p = some (.tup xs)) : ρ p = .none:=by
  cases e : ρ p with
  | none=>rfl
  | some r=>
    obtain ⟨u,q,n⟩:=o p r e
    rw [h] at q
    cases q
    exact n.elim
theorem OkR.tupF {ρ : Rho} {H:Hp} {p:Addr} {b:Obj} {xs:List V} (o:OkR ρ H) (h:H p = some (.frz b (.tup xs))) : ρ p = .none:=by
  cases e : ρ p with
  | none=>rfl
  | some r=>
    obtain ⟨u,q,n⟩:=o p r e
    rw [h] at q
    cases q
    exact n.elim
theorem Fr.put {P:Role → Prop} {ρ : Rho} {H:Hp} {a:Addr} {r:Role} {o:HO} (h : ρ a = some r) (p:P r) : Fr P ρ H ρ (upd H a o):=fun b u e n=>by
  have:b ≠ a:=fun z=>n r (z ▸ h) p
  exact ⟨by rw [je this]; exact e,rfl⟩
theorem OkR.put {ρ : Rho} {H:Hp} {a:Addr} {o:HO} (k:OkR ρ H) (ho:noTup o:=by exact True.intro) : OkR ρ (upd H a o):=fun b r h=>by
  by_cases z:b = a
  · subst z
    exact ⟨_,ja,ho⟩
  · obtain ⟨u,e,n⟩:=k b r h
    exact ⟨u,by rw [je z]; exact e,n⟩
theorem Fr.newR {P:Role → Prop} {ρ : Rho} {H:Hp} {p:Addr} {r:Role} {o:HO} (n:H p = none) : Fr P ρ H (zm ρ p r) (upd H p o):=fun b u e _=>by
  have:b ≠ p:=jh e n
  exact ⟨by rw [je this]; exact e,qf this⟩
theorem OkR.newR {ρ : Rho} {H:Hp} {p:Addr} {r:Role} {o:HO} (k:OkR ρ H) (ho:noTup o:=by exact True.intro) : OkR (zm ρ p r) (upd H p o):=fun b r' h=>by
  by_cases z:b = p
  · subst z
    exact ⟨_,ja,ho⟩
  · rw [qf z] at h
    obtain ⟨u,e,n⟩:=k b r' h
    exact ⟨u,by rw [je z]; exact e,n⟩
theorem ner {ρ : Rho} {a b:Addr} {r r':Role} (ha : ρ a = some r) (hb : ρ b = some r') (n:r ≠ r') : a ≠ b:=fun z=>by
  subst z
  rw [ha] at hb
  exact n (Option.some.inj hb)
theorem neu {ρ : Rho} {a b:Addr} {r:Role} (ha : ρ a = none) (hb : ρ b = some r) : a ≠ b:=fun z=>by
  subst z
  rw [ha] at hb
  cases hb
def xj (H:Hp) (ρ : Rho) (x:V) (o:O) : Prop:=∃ a,x = .ref a ∧ ρ a = none ∧ H a = some (.tup (ordV o))
theorem xj.fr {P:Role → Prop} {ρ ρ':Rho} {H H':Hp} {x:V} {o:O} (f:Fr P ρ H ρ' H') (h:xj H ρ x o) : xj H' ρ' x o:=by
  obtain ⟨a,e,n,q⟩:=h
  obtain ⟨q',n'⟩:=f a _ q fun r hr=>by rw [n] at hr; cases hr
  exact ⟨a,e,n'.trans n,q'⟩
theorem xj.at_ {H:Hp} {ρ : Rho} {x:V} {o:O} (h:xj H ρ x o) : OrdAt H x o:=let ⟨a,e,_,q⟩:=h; ⟨a,e,q⟩
def ordK (o:O) : List Key:=[.inl o.p,.inl o.n,.inl o.g,.inl o.m]
theorem ordK_inj {o u:O} (h:ordK o = ordK u) : o = u:=by
  cases o
  cases u
  unfold ordK at h
  simp at h
  simp [h]
def bkf (he nn dn:Addr) : List (Str × V):=j9 "done" (.ref dn) (j9 "next_numbers" (.ref nn) (j9 "held" (.ref he) []))
def kf (he nn dn hd un cs wt:Addr) : List (Str × V):=j9 "waiting" (.ref wt) (j9 "choices" (.ref cs) (j9 "unvoted" (.ref un) (j9 "heard" (.ref hd) (bkf he nn dn))))
abbrev kfA (A:Nat → Addr) : List (Str × V):=kf (A 1) (A 2) (A 3) (A 4) (A 5) (A 6) (A 7)
def FldR (H:Hp) (ρ : Rho) (κ : Kp) (f:Nat) (u:HO) : Prop:=match f with
  | 1=>u = .lst (κ.held.map V.int)
  | 2=>u = .lst (κ.nexts.map V.int)
  | 3=>∃ xs,u = .lst xs ∧ Paired (xj H ρ) xs κ.done
  | 4=>∃ kvs,u = .dT kvs ∧ kvs.map (·.1) = κ.heard.map ordK
  | 5=>∃ xs,u = .lst xs ∧ Paired (xj H ρ) xs κ.unv
  | 6=>∃ kvs,u = .dT kvs ∧ Paired (fun kv (c:(Int × Int) × O)=>kv.1 = [.inl c.1.1,.inl c.1.2] ∧ xj H ρ kv.2 c.2) kvs κ.cho
  | 7=>∃ xs,u = .lst xs ∧ Paired (xj H ρ) xs κ.wait
  | _=>True
theorem FldR.fr {P:Role → Prop} {ρ ρ':Rho} {H H':Hp} {κ : Kp} {f:Nat} {u:HO} (fr:Fr P ρ H ρ' H') (h:FldR H ρ κ f u) : FldR H' ρ' κ f u:=by
  unfold FldR at h ⊢
  split at h
  · exact h
  · exact h
  · obtain ⟨xs,e,p⟩:=h
    exact ⟨xs,e,Paired.mapP p fun _ _=>xj.fr fr⟩
  · exact h
  · obtain ⟨xs,e,p⟩:=h
    exact ⟨xs,e,Paired.mapP p fun _ _=>xj.fr fr⟩
  · obtain ⟨xs,e,p⟩:=h
    exact ⟨xs,e,Paired.mapP p fun _ _ ⟨a,b⟩=>⟨a,b.fr fr⟩⟩
  · obtain ⟨xs,e,p⟩:=h
    exact ⟨xs,e,Paired.mapP p fun _ _=>xj.fr fr⟩
  · trivial
structure xi (t:Ad) (H:Hp) (ρ : Rho) (id:Nat) (h:Int) (k:Addr) (A:Nat → Addr) (dk:Addr) (κ : Kp) : Prop where
  ob:H k = some (.ins t.jw dk (kfA A))
  r0 : ρ k = some (id,.kp h 0)
  fl : ∀ f,1 ≤ f → f ≤ 7 → ρ (A f) = some (id,.kp h f) ∧ ∃ u,H (A f) = some u ∧ FldR H ρ κ f u
def isK (id:Nat) (h:Int) : Role → Prop:=fun r=>∃ f,r = (id,.kp h f)
section
variable {t:Ad} {H H':Hp} {ρ ρ':Rho} {id:Nat} {h:Int} {k dk:Addr} {A:Nat → Addr} {κ κ':Kp} {P:Role → Prop}
theorem xi.fr (hP : ∀ f,¬ P (id,.kp h f)) (f:Fr P ρ H ρ' H') (K:xi t H ρ id h k A dk κ) : xi t H' ρ' id h k A dk κ:=by
  obtain ⟨e1,r1⟩:=f _ _ K.ob fun r hr=>by rw [K.r0] at hr; cases hr; exact hP 0
  refine ⟨e1,r1.trans K.r0,fun i h1 h7=>?_⟩
  obtain ⟨ri,u,hu,q⟩:=K.fl i h1 h7
  obtain ⟨e2,r2⟩:=f _ _ hu fun r hr=>by rw [ri] at hr; cases hr; exact hP i
  exact ⟨r2.trans ri,u,e2,q.fr f⟩
theorem xi.put (K:xi t H ρ id h k A dk κ) {f0:Nat} (h1 : 1 ≤ f0) (h7:f0 ≤ 7) {u0:HO} (q0:FldR (upd H (A f0) u0) ρ κ' f0 u0) (hs : ∀ f u,f ≠ f0 → FldR H ρ κ f u → FldR H ρ κ' f u) : xi t (upd H (A f0) u0) ρ id h k A dk κ' ∧ Fr (isK id h) ρ H ρ (upd H (A f0) u0):=by
  obtain ⟨r0,_⟩:=K.fl f0 h1 h7
  have fr:Fr (isK id h) ρ H ρ (upd H (A f0) u0):=Fr.put r0 ⟨f0,rfl⟩
  refine ⟨⟨?_,K.r0,fun f a b=>?_⟩,fr⟩
  · rw [je (ner K.r0 r0 (by intro z; cases z; omega))]
    exact K.ob
  · obtain ⟨rf,u,hu,q⟩:=K.fl f a b
    by_cases z:f = f0
    · subst z
      exact ⟨rf,_,ja,q0⟩
    · refine ⟨rf,u,?_,(hs f u z q).fr fr⟩
      rw [je (ner rf r0 (by intro y; cases y; exact z rfl))]
      exact hu
end
theorem zz (A:Nat → Addr) : (kfA A).lookup ("held" : Str) = some (.ref (A 1)) ∧ (kfA A).lookup ("next_numbers" : Str) = some (.ref (A 2)) ∧ (kfA A).lookup ("done" : Str) = some (.ref (A 3)) ∧ (kfA A).lookup ("heard" : Str) = some (.ref (A 4)) ∧ (kfA A).lookup ("unvoted" : Str) = some (.ref (A 5)) ∧ (kfA A).lookup ("choices" : Str) = some (.ref (A 6)) ∧ (kfA A).lookup ("waiting" : Str) = some (.ref (A 7)):=by
  unfold kfA kf bkf
  refine ⟨?_,?_,?_,?_,?_,?_,?_⟩ <;> repeat (first | rw [jl,if_pos rfl] | rw [jl,if_neg (by decide +kernel)])
theorem kfA_no (A:Nat → Addr) {m:Str} (h : ¬ m = "waiting" ∧ ¬ m = "choices" ∧ ¬ m = "unvoted" ∧ ¬ m = "heard" ∧ ¬ m = "done" ∧ ¬ m = "next_numbers" ∧ ¬ m = "held") : (kfA A).lookup m = none:=by
  obtain ⟨h1,h2,h3,h4,h5,h6,h7⟩:=h
  unfold kfA kf bkf
  rw [jl,if_neg h1,jl,if_neg h2,jl,if_neg h3,jl,if_neg h4,jl,if_neg h5,jl,if_neg h6,jl,if_neg h7]
  rfl
theorem xi.he {t:Ad} {H:Hp} {ρ : Rho} {id:Nat} {h:Int} {k dk:Addr} {A:Nat → Addr} {κ : Kp} (K:xi t H ρ id h k A dk κ) : H (A 1) = some (.lst (κ.held.map V.int)):=by
  obtain ⟨_,u,hu,q⟩:=K.fl 1 (by decide) (by decide)
  rw [hu,show u = _ from q]
theorem xi.nn {t:Ad} {H:Hp} {ρ : Rho} {id:Nat} {h:Int} {k dk:Addr} {A:Nat → Addr} {κ : Kp} (K:xi t H ρ id h k A dk κ) : H (A 2) = some (.lst (κ.nexts.map V.int)):=by
  obtain ⟨_,u,hu,q⟩:=K.fl 2 (by decide) (by decide)
  rw [hu,show u = _ from q]
theorem xi.dn {t:Ad} {H:Hp} {ρ : Rho} {id:Nat} {h:Int} {k dk:Addr} {A:Nat → Addr} {κ : Kp} (K:xi t H ρ id h k A dk κ) : ∃ xs,H (A 3) = some (.lst xs) ∧ Paired (xj H ρ) xs κ.done:=by
  obtain ⟨_,u,hu,xs,rfl,q⟩:=K.fl 3 (by decide) (by decide)
  exact ⟨xs,hu,q⟩
theorem xi.hd {t:Ad} {H:Hp} {ρ : Rho} {id:Nat} {h:Int} {k dk:Addr} {A:Nat → Addr} {κ : Kp} (K:xi t H ρ id h k A dk κ) : ∃ kvs,H (A 4) = some (.dT kvs) ∧ kvs.map (·.1) = κ.heard.map ordK:=by
  obtain ⟨_,u,hu,xs,rfl,q⟩:=K.fl 4 (by decide) (by decide)
  exact ⟨xs,hu,q⟩
theorem xi.un {t:Ad} {H:Hp} {ρ : Rho} {id:Nat} {h:Int} {k dk:Addr} {A:Nat → Addr} {κ : Kp} (K:xi t H ρ id h k A dk κ) : ∃ xs,H (A 5) = some (.lst xs) ∧ Paired (xj H ρ) xs κ.unv:=by
  obtain ⟨_,u,hu,xs,rfl,q⟩:=K.fl 5 (by decide) (by decide)
  exact ⟨xs,hu,q⟩
theorem xi.cs {t:Ad} {H:Hp} {ρ : Rho} {id:Nat} {h:Int} {k dk:Addr} {A:Nat → Addr} {κ : Kp} (K:xi t H ρ id h k A dk κ) : ∃ kvs,H (A 6) = some (.dT kvs) ∧ Paired (fun kv (c:(Int × Int) × O)=>kv.1 = [.inl c.1.1,.inl c.1.2] ∧ xj H ρ kv.2 c.2) kvs κ.cho:=by
  obtain ⟨_,u,hu,xs,rfl,q⟩:=K.fl 6 (by decide) (by decide)
  exact ⟨xs,hu,q⟩
theorem xi.wt {t:Ad} {H:Hp} {ρ : Rho} {id:Nat} {h:Int} {k dk:Addr} {A:Nat → Addr} {κ : Kp} (K:xi t H ρ id h k A dk κ) : ∃ xs,H (A 7) = some (.lst xs) ∧ Paired (xj H ρ) xs κ.wait:=by
  obtain ⟨_,u,hu,xs,rfl,q⟩:=K.fl 7 (by decide) (by decide)
  exact ⟨xs,hu,q⟩
theorem ord_ix {n:Nat} {o:O} {xs:List Int} (h:isOrd n o = true) (l:xs.length = n) : xs[o.p.toNat]? = some (gI xs o.p) ∧ 0 ≤ o.p ∧ o.p < n:=by
  obtain ⟨a1,a2,_⟩:=isOrd_iff.mp h
  exact ⟨gI_of a1 (by omega),a1,by omega⟩
theorem ok_Book_is_past (T:Txt K mg t) : FnOk P w K mg base CX0 1 t.f_Book_is_past t.d_Book_is_past ["self","order"] (fun vs H Q _=>∃ ρ id h k A dk κ n q o,vs = [.ref k,.ref q] ∧ xi t H ρ id h k A dk κ ∧ H q = some (.tup (ordV o)) ∧ isOrd (n:Nat) o = true ∧ κ.nexts.length = n ∧ Q (.bl (κ.past o)) H):=by
  refine T.F_Book_is_past.ok sc_Book_is_past (fun vs H Q E h=>?_) (fun cdv A outer s H vs Q E hr h=>?_)
  · obtain ⟨ρ,id,h,k,A,dk,κ,n,q,o,rfl,_⟩:=h
    rfl
  · obtain ⟨ρ,id,h,k,A',dk,κ,n,q,o,rfl,R,hq,ho,l,g⟩:=h
    refine ⟨_,(@jf _ _ _ (j4 (pe_cmpR op_lt (yq ix_tup (pv 1) jj (fun _ _=>rfl)) (yq zk (qa (pv 0) rfl) (yq ix_tup (pv 1) jj (fun _ _=>rfl)) (fun _ _=>rfl)) (zv _)))),?_⟩
    obtain ⟨e,p0,_⟩:=ord_ix ho l
    refine ⟨_,rfl,q,ordV o,1,.int o.n,rfl,rfl,SqT.of hq,rfl,_,rfl,k,_,dk,_,_,rfl,R.ob,T.jm,T.zc,(zz A').2.1,_,rfl,q,ordV o,0,.int o.p,rfl,rfl,SqT.of hq,rfl,A' 2,_,o.p,.int (gI κ.nexts o.p),rfl,rfl,SqL.of R.nn,atI_of p0 (by rw [List.getElem?_map,e]; rfl),_,_,rfl,rfl,g⟩
theorem ok_Book_is_due (T:Txt K mg t) : FnOk P w K mg base CX0 1 t.f_Book_is_due t.d_Book_is_due ["self","order"] (fun vs H Q _=>∃ ρ id h k A dk κ n q o,vs = [.ref k,.ref q] ∧ xi t H ρ id h k A dk κ ∧ H q = some (.tup (ordV o)) ∧ isOrd (n:Nat) o = true ∧ κ.nexts.length = n ∧ κ.held.length = n ∧ Q (.bl (κ.due o)) H):=by
  refine T.F_Book_is_due.ok sc_Book_is_due (fun vs H Q E h=>?_) (fun cdv A outer s H vs Q E hr h=>?_)
  · obtain ⟨ρ,id,h,k,A,dk,κ,n,q,o,rfl,_⟩:=h
    rfl
  · obtain ⟨ρ,id,h,k,A',dk,κ,n,q,o,rfl,R,hq,ho,l,l2,g⟩:=h
    refine ⟨_,(@jc _ _ _ _ _ (ps_asg (pv 1) (pg_tup rfl (yj (qc (i:=2) sc_Book_is_due.nd rfl (Or.inl rfl)) (yj (qc (i:=3) sc_Book_is_due.nd rfl (Or.inl rfl)) (yj (qc (i:=4) sc_Book_is_due.nd rfl (Or.inl rfl)) (yj (qc (i:=5) sc_Book_is_due.nd rfl (Or.inl rfl)) pgs_nil))))))
      (@jf _ _ _ (j4 (pe_and (pe_cmpR op_eq (pv 3) (yq zk (qa (pv 0) rfl) (pv 2) (fun _ _=>rfl)) (zv _)) (pe_one (pe_cmpR op_le (pv 5) (yq zk (qa (pv 0) rfl) (pv 2) (fun _ _=>rfl)) (zv _))))))),?_⟩
    obtain ⟨e,p0,_⟩:=ord_ix ho l
    obtain ⟨e2,_,_⟩:=ord_ix ho l2
    refine ⟨_,rfl,q,_,rfl,SqT.of hq,rfl,_,_,rfl,_,_,rfl,_,_,rfl,_,_,rfl,rfl,?_⟩
    refine ⟨_,rfl,_,rfl,k,_,dk,_,_,rfl,R.ob,T.jm,T.zc,(zz A').2.1,_,rfl,A' 2,_,o.p,.int (gI κ.nexts o.p),rfl,rfl,SqL.of R.nn,atI_of p0 (by rw [List.getElem?_map,e]; rfl),rfl,_,rfl,?_⟩
    unfold Kp.due at g
    refine ite2 (fun z=>?_) (fun z=>?_)
    · refine ⟨_,rfl,_,rfl,k,_,dk,_,_,rfl,R.ob,T.jm,T.xq,(zz A').1,_,rfl,A' 1,_,o.p,.int (gI κ.held o.p),rfl,rfl,SqL.of R.he,atI_of p0 (by rw [List.getElem?_map,e2]; rfl),_,_,rfl,rfl,?_⟩
      rw [decide_eq_true (V.int.inj (of_decide_eq_true z)),Bool.true_and] at g
      exact g
    · rw [decide_eq_false (fun y=>z (by rw [y]; exact decide_eq_true rfl)),Bool.false_and] at g
      exact g
theorem ok_Book_settle (T:Txt K mg t) : FnOk P w K mg base CX0 1 t.f_Book_settle t.d_Book_settle ["self","order"] (fun vs H Q _=>∃ ρ id h k A dk κ n q o,vs = [.ref k,.ref q] ∧ xi t H ρ id h k A dk κ ∧ xj H ρ (.ref q) o ∧ isOrd (n:Nat) o = true ∧ κ.nexts.length = n ∧ κ.held.length = n ∧ κ.done.length ≤ 1000 ∧ OkR ρ H ∧
    ∀ H',xi t H' ρ id h k A dk (κ.settle o) → Fr (isK id h) ρ H ρ H' → OkR ρ H' → Q .non H'):=by
  refine T.F_Book_settle.ok sc_Book_settle (fun vs H Q E h=>?_) (fun cdv A outer s H vs Q E hr h=>?_)
  · obtain ⟨ρ,id,h,k,A,dk,κ,n,q,o,rfl,_⟩:=h
    rfl
  · obtain ⟨ρ,id,h,k,A',dk,κ,n,q,o,rfl,R,uq,ho,l,l2,ld,kr,g⟩:=h
    refine ⟨_,(@jc _ _ _ _ _ (ps_asg (pv 1) (pg_tup rfl (yj (qc (i:=2) sc_Book_settle.nd rfl (Or.inl rfl)) (yj (qc (i:=3) sc_Book_settle.nd rfl (Or.inl rfl)) (yj (qc (i:=4) sc_Book_settle.nd rfl (Or.inl rfl)) (yj (qc (i:=5) sc_Book_settle.nd rfl (Or.inl rfl)) pgs_nil))))))
      (@jc _ _ _ _ _ (ps_augS (qa (pv 0) rfl) (pv 2) get_list (pv 5) ip_sub set_list)
      (@jc _ _ _ _ _ (ps_augS (qa (pv 0) rfl) (pv 4) get_list (pv 5) ip_add set_list)
      (@jc _ _ _ _ _ (ps_augS (qa (pv 0) rfl) (pv 2) get_list jj ip_add set_list)
      (@jf _ _ _ (zd (pe_bm PySem.F.plainAttrs_list PySem.F.slot_list_append PySem.F.type_list_append ya (qa (pv 0) rfl) (jd (pv 1) jg)))))))),?_⟩
    obtain ⟨_,eq,nq,hq⟩:=uq
    cases eq
    obtain ⟨e,p0,p1⟩:=ord_ix ho l
    obtain ⟨e2,_,_⟩:=ord_ix ho l2
    refine ⟨_,rfl,q,_,rfl,SqT.of hq,rfl,_,_,rfl,_,_,rfl,_,_,rfl,_,_,rfl,rfl,?_⟩
    obtain ⟨g0,g1⟩:=(fun a=>⟨a.2.2.1,a.2.2.2.1⟩ : _ → 0 ≤ o.g ∧ o.g ≤ (n:Int) - 1) (isOrd_iff.mp ho)
    refine ⟨_,rfl,k,_,dk,_,_,rfl,R.ob,T.jm,T.xq,(zz A').1,_,rfl,A' 1,_,o.p,.int (gI κ.held o.p),rfl,rfl,SqL.of R.he,p0,(by rw [List.getElem?_map,e2]; rfl),_,rfl,_,_,rfl,rfl,A' 1,_,o.p,_,rfl,rfl,R.he,ixN_of p0 (by rw [List.length_map]; omega),?_⟩
    have m1:((κ.held.map V.int).set o.p.toNat (.int (gI κ.held o.p - o.m))) = (addI κ.held o.p (-o.m)).map V.int:=by
      rw [addI,List.map_set]
      rfl
    dsimp only
    rw [m1]
    obtain ⟨R1,f1⟩:=R.put (κ':={ κ with held:=addI κ.held o.p (-o.m) }) (f0:=1) (by decide) (by decide) (u0:=.lst ((addI κ.held o.p (-o.m)).map V.int)) rfl (fun f u hf q=>by unfold FldR at q ⊢; split at q <;> first | exact q | exact absurd rfl hf)
    have kr1:=kr.put (a:=A' 1) (o:=.lst ((addI κ.held o.p (-o.m)).map V.int))
    generalize upd H (A' 1) (.lst ((addI κ.held o.p (-o.m)).map V.int)) = H1 at R1 f1 kr1
    have l3:(addI κ.held o.p (-o.m)).length = n:=(addI_len ..).trans l2
    have e3:(addI κ.held o.p (-o.m))[o.g.toNat]? = some (gI (addI κ.held o.p (-o.m)) o.g):=gI_of g0 (by omega)
    refine ⟨_,rfl,k,_,dk,_,_,rfl,R1.ob,T.jm,T.xq,(zz A').1,_,rfl,A' 1,_,o.g,.int (gI (addI κ.held o.p (-o.m)) o.g),rfl,rfl,SqL.of R1.he,g0,(by rw [List.getElem?_map,e3]; rfl),_,rfl,_,_,rfl,rfl,A' 1,_,o.g,_,rfl,rfl,R1.he,ixN_of g0 (by rw [List.length_map]; show o.g.toNat < (addI κ.held o.p (-o.m)).length; omega),?_⟩
    have m2:((addI κ.held o.p (-o.m)).map V.int).set o.g.toNat (.int (gI (addI κ.held o.p (-o.m)) o.g + o.m)) = (addI (addI κ.held o.p (-o.m)) o.g o.m).map V.int:=by
      rw [addI.eq_def (addI κ.held o.p (-o.m)),List.map_set]
    dsimp only
    rw [m2]
    obtain ⟨R2,f2⟩:=R1.put (κ':={ κ with held:=addI (addI κ.held o.p (-o.m)) o.g o.m }) (f0:=1) (by decide) (by decide) (u0:=.lst ((addI (addI κ.held o.p (-o.m)) o.g o.m).map V.int)) rfl (fun f u hf q=>by unfold FldR at q ⊢; split at q <;> first | exact q | exact absurd rfl hf)
    have kr2:=kr1.put (a:=A' 1) (o:=.lst ((addI (addI κ.held o.p (-o.m)) o.g o.m).map V.int))
    generalize upd H1 (A' 1) (.lst ((addI (addI κ.held o.p (-o.m)) o.g o.m).map V.int)) = H2 at R2 f2 kr2
    refine ⟨_,rfl,k,_,dk,_,_,rfl,R2.ob,T.jm,T.zc,(zz A').2.1,_,rfl,A' 2,_,o.p,.int (gI κ.nexts o.p),rfl,rfl,SqL.of R2.nn,p0,(by rw [List.getElem?_map,e]; rfl),_,_,rfl,rfl,A' 2,_,o.p,_,rfl,rfl,R2.nn,ixN_of p0 (by rw [List.length_map]; show o.p.toNat < κ.nexts.length; rw [l]; omega),?_⟩
    have m3:(κ.nexts.map V.int).set o.p.toNat (.int (gI κ.nexts o.p + 1)) = (addI κ.nexts o.p 1).map V.int:=by
      rw [addI,List.map_set]
    dsimp only
    rw [m3]
    obtain ⟨R3,f3⟩:=R2.put (κ':={ κ with held:=addI (addI κ.held o.p (-o.m)) o.g o.m,nexts:=addI κ.nexts o.p 1 }) (f0:=2) (by decide) (by decide) (u0:=.lst ((addI κ.nexts o.p 1).map V.int)) rfl (fun f u hf q=>by unfold FldR at q ⊢; split at q <;> first | exact q | exact absurd rfl hf)
    have kr3:=kr2.put (a:=A' 2) (o:=.lst ((addI κ.nexts o.p 1).map V.int))
    generalize upd H2 (A' 2) (.lst ((addI κ.nexts o.p 1).map V.int)) = H3 at R3 f3 kr3
    obtain ⟨xs,hx,px⟩:=R3.dn
    have fr:=(f1.trans f2).trans f3
    have uq3:xj H3 ρ (.ref q) o:=xj.fr fr ⟨q,rfl,nq,hq⟩
    have lx:xs.length ≤ 1000:=by rw [Paired.length px]; exact ld
    refine ⟨_,rfl,k,_,dk,_,_,rfl,R3.ob,T.jm,T.na_Keeper_done,(zz A').2.2.1,.inl ⟨rfl,_,SqL.of hx⟩,_,rfl,A' 3,xs,.ref q,rfl,rfl,hx,xy lx,?_⟩
    obtain ⟨r3,_⟩:=R3.fl 3 (by decide) (by decide)
    obtain ⟨R4,f4⟩:=R3.put (κ':=κ.settle o) (f0:=3) (by decide) (by decide) (u0:=.lst (xs ++ [.ref q])) ⟨_,rfl,qx (Paired.mapP px fun _ _=>xj.fr (Fr.put (P:=isK id h) r3 ⟨3,rfl⟩)) (uq3.fr (Fr.put (P:=isK id h) r3 ⟨3,rfl⟩))⟩ (fun f u hf q=>by unfold FldR at q ⊢; split at q <;> first | exact q | exact absurd rfl hf)
    exact g _ R4 (fr.trans f4) kr3.put
theorem xj.ref {H:Hp} {ρ : Rho} {x:V} {o:O} (h:xj H ρ x o) : ∃ q,x = .ref q ∧ H q = some (.tup (ordV o)):=let ⟨q,e,_,h⟩:=h; ⟨q,e,h⟩
theorem ok_Keeper_first_due (T:Txt K mg t) : FnOk P w K mg base CX0 2 t.f_Keeper_first_due t.d_Keeper_first_due ["self"] (fun vs H Q _=>∃ ρ id h k A dk κ n,vs = [.ref k] ∧ xi t H ρ id h k A dk κ ∧ κ.Ok n ∧ ∀ v,((κ.first = none ∧ v = .non) ∨ ∃ o,κ.first = some o ∧ xj H ρ v o) → Q v H):=by
  refine T.F_Keeper_first_due.ok sc_Keeper_first_due (fun vs H Q E h=>?_) (fun cdv A outer s H vs Q E hr h=>?_)
  · obtain ⟨ρ,id,h,k,A,dk,κ,n,rfl,_⟩:=h
    rfl
  · obtain ⟨ρ,id,h,k,A',dk,κ,n,rfl,R,hok,g⟩:=h
    refine ⟨_,(@jc _ _ _ _ _ (ps_for PassesOwn.never rfl (@pi_list _ _ _ _ (qa (pv 0) rfl)) (qc (i:=1) sc_Keeper_first_due.nd rfl (Or.inl rfl)) (@jf _ _ _ (yc (xu (qq (pv 0) T.jm T.mt_Keeper_is_due (ok_Book_is_due T) (hr.mono (by decide)) T.b_Book_is_due .nil jx (jd (pv 1) jg))) (@jf _ _ _ (j4 (pv 1))) qe)))
      (@jf _ _ _ (j4 pe_non))),?_⟩
    obtain ⟨xs,hx,px⟩:=R.wt
    refine ⟨_,rfl,k,_,dk,_,_,rfl,R.ob,T.jm,T.zj,(zz A').2.2.2.2.2.2,A' 7,rfl,⟨_,SqL.of hx⟩,for_list (K:=K) (a:=A' 7) (xs:=xs) (fun i σ H'=>∃ v,σ = [some (.ref k),v] ∧ H' = H ∧ (κ.wait.take i).find? κ.due = none) ⟨none,rfl,rfl,rfl⟩ (fun i σ H' _ ⟨_,_,e,_⟩=>SqL.of (by rw [e]; exact hx)) ?_ ?_⟩
    · rintro i x σ H' ex ⟨v,rfl,rfl,hf⟩
      obtain ⟨o,eo,uo⟩:=ql px ex
      obtain ⟨q,rfl,hq⟩:=uo.ref
      have om:o ∈ κ.wait:=List.mem_of_getElem? eo
      refine ⟨_,rfl,k,dk,_,rfl,R.ob,kfA_no A' (by decide +kernel),_,rfl,ρ,id,h,k,A',dk,κ,n,q,o,rfl,R,hq,hok.w o om,hok.x,hok.h,_,rfl,?_⟩
      cases hd : κ.due o with
      | true=>
        refine iteT ⟨_,rfl,g _ (.inr ⟨o,?_,uo⟩)⟩
        have:(κ.wait.take (i + 1)).find? κ.due = some o:=by
          rw [take_snoc eo,List.find?_append,hf,List.find?_cons,hd]
          rfl
        unfold Kp.first
        rw [← List.take_append_drop (i + 1) κ.wait,List.find?_append,this]
        rfl
      | false=>
        refine iteF ⟨_,rfl,rfl,?_⟩
        rw [take_snoc eo,List.find?_append,hf,List.find?_cons,hd]
        rfl
    · rintro σ H' ⟨v,rfl,rfl,hf⟩
      refine g _ (.inl ⟨?_,rfl⟩)
      rw [Paired.length px,List.take_length] at hf
      exact hf
theorem Fr.reR {P:Role → Prop} {ρ : Rho} {H:Hp} {a:Addr} {r r':Role} (h : ρ a = some r) (p:P r) : Fr P ρ H (zm ρ a r') H:=fun b u e n=>by
  have:b ≠ a:=fun z=>n r (z ▸ h) p
  exact ⟨e,qf this⟩
theorem OkR.reR {ρ : Rho} {H:Hp} {a:Addr} {r r':Role} (h : ρ a = some r) (k:OkR ρ H) : OkR (zm ρ a r') H:=fun b r'' hb=>by
  by_cases z:b = a
  · subst z
    exact k _ _ h
  · rw [qf z] at hb
    exact k _ _ hb
theorem cho_val {H:Hp} {ρ : Rho} {o:O} : ∀ {kvs:List (List Key × V)} {c:List ((Int × Int) × O)},Paired (fun kv (c:(Int × Int) × O)=>kv.1 = [.inl c.1.1,.inl c.1.2] ∧ xj H ρ kv.2 c.2) kvs c → (valV kvs [.inl o.p,.inl o.n]).isSome = chose c o
  | _,_,.nil=>rfl
  | kv :: kvs,c :: cs,.cons ⟨e,_⟩ r=>by
    have ih:=cho_val (o:=o) r
    unfold chose at ih ⊢
    rw [List.any_cons]
    by_cases z:c.1 = (o.p,o.n)
    · rw [valV_pos (show kv.1 = _ by rw [e,z]),decide_eq_true z]
      rfl
    · rw [valV_neg (fun y=>z ?_),ih,decide_eq_false z,Bool.false_or]
      rw [e] at y
      have y1:=(List.cons.inj y).1
      have y2:=(List.cons.inj (List.cons.inj y).2).1
      exact Prod.ext (Sum.inl.inj y1) (Sum.inl.inj y2)
theorem ord8 {n:Nat} {o:O} (h:isOrd n o = true) (l:n ≤ 8) : isOrd 8 o = true:=by
  rw [isOrd_iff] at h ⊢
  omega
theorem gv_snoc (κ : Kp) {os:List O} {i:Nat} {o:O} (e:os[i]? = some o) (a:Gv) : gv κ (os.take (i + 1)) a = gvS κ o (gv κ (os.take i) a):=by
  unfold gv
  rw [take_snoc e,List.foldl_append]
  rfl
theorem gvS_len (κ : Kp) (o:O) (a:Gv) : (gvS κ o a).1.length ≤ a.1.length + 1 ∧ (gvS κ o a).2.1.length ≤ a.2.1.length + 1 ∧ (gvS κ o a).2.2.length ≤ a.2.2.length + 1:=by
  unfold gvS
  split
  · simp
  · split
    · simp
    · simp
theorem gv_len (κ : Kp) : ∀ (os:List O) (a:Gv),(gv κ os a).1.length ≤ a.1.length + os.length ∧ (gv κ os a).2.1.length ≤ a.2.1.length + os.length ∧ (gv κ os a).2.2.length ≤ a.2.2.length + os.length
  | [],a=>by simp [gv]
  | o :: os,a=>by
    have h1:=gv_len κ os (gvS κ o a)
    have h2:=gvS_len κ o a
    unfold gv at h1 ⊢
    rw [List.foldl_cons,List.length_cons]
    omega
structure GvJ (t:Ad) (ρ : Rho) (id:Nat) (h:Int) (k:Addr) (A:Nat → Addr) (dk:Addr) (κ : Kp) (Vt Lt:Addr) (xs:List V) (H0:Hp) (a:Gv) (H:Hp) : Prop where
  fr:Fr (isK id h) ρ H0 ρ H
  kr:OkR ρ H
  R:xi t H ρ id h k A dk { κ with cho:=a.1 }
  hv : ∃ vs,H Vt = some (.lst vs) ∧ Paired (xj H ρ) vs a.2.1
  hl : ∃ ls,H Lt = some (.lst ls) ∧ Paired (xj H ρ) ls a.2.2
  hx:H (A 5) = some (.lst xs)
  px:Paired (xj H ρ) xs κ.unv
theorem GvJ.same {t:Ad} {ρ : Rho} {id:Nat} {h:Int} {k:Addr} {A:Nat → Addr} {dk:Addr} {κ : Kp} {Vt Lt:Addr} {xs:List V} {H0 H H':Hp} {a:Gv} (s:Same H H') (J:GvJ t ρ id h k A dk κ Vt Lt xs H0 a H) : GvJ t ρ id h k A dk κ Vt Lt xs H0 a H':=by
  have f:Fr (fun _=>False) ρ H ρ H':=Fr.same s
  obtain ⟨vs,v1,v2⟩:=J.hv
  obtain ⟨ls,l1,l2⟩:=J.hl
  exact ⟨J.fr.trans (Fr.same s),J.kr.same s,J.R.fr (fun _ z=>z) f,⟨vs,s _ _ v1,Paired.mapP v2 fun _ _=>xj.fr f⟩,⟨ls,s _ _ l1,Paired.mapP l2 fun _ _=>xj.fr f⟩,s _ _ J.hx,Paired.mapP J.px fun _ _=>xj.fr f⟩
theorem GvJ.putL {t:Ad} {ρ : Rho} {id:Nat} {h:Int} {k:Addr} {A:Nat → Addr} {dk:Addr} {κ : Kp} {Vt Lt:Addr} {xs ls ls':List V} {H0 H:Hp} {a:Gv} {later:List O} (J:GvJ t ρ id h k A dk κ Vt Lt xs H0 a H) (hl:H Lt = some (.lst ls)) (rL : ρ Lt = some (id,.kp h 9)) (rV : ρ Vt = some (id,.kp h 8)) (LV:Lt ≠ Vt)
    (fL:Fr (isK id h) ρ H ρ (upd H Lt (.lst ls'))) (pl:Paired (xj (upd H Lt (.lst ls')) ρ) ls' later) : GvJ t ρ id h k A dk κ Vt Lt xs H0 (a.1,a.2.1,later) (upd H Lt (.lst ls')):=by
  have f9:Fr (fun r=>r = (id,.kp h 9)) ρ H ρ (upd H Lt (.lst ls')):=Fr.put rL rfl
  obtain ⟨vs,v1,v2⟩:=J.hv
  have nf : ∀ {f:Nat},f ≤ 7 → ∀ {b:Addr},ρ b = some (id,.kp h f) → b ≠ Lt:=fun {f} hf {b} hb=>ner hb rL (by intro z; cases z; omega)
  refine ⟨J.fr.trans fL,J.kr.put,⟨?_,J.R.r0,fun f a1 b1=>?_⟩,⟨vs,?_,Paired.mapP v2 fun _ _=>xj.fr fL⟩,⟨ls',ja,pl⟩,?_,Paired.mapP J.px fun _ _=>xj.fr fL⟩
  · rw [je (nf (by decide) J.R.r0)]
    exact J.R.ob
  · obtain ⟨rf,u,hu,q⟩:=J.R.fl f a1 b1
    exact ⟨rf,u,by rw [je (nf b1 rf)]; exact hu,q.fr fL⟩
  · rw [je LV.symm]
    exact v1
  · rw [je (nf (by decide) (J.R.fl 5 (by decide) (by decide)).1)]
    exact J.hx
theorem GvJ.putV {t:Ad} {ρ : Rho} {id:Nat} {h:Int} {k:Addr} {A:Nat → Addr} {dk:Addr} {κ : Kp} {Vt Lt:Addr} {xs vs':List V} {H0 H:Hp} {a:Gv} {zb:List O} (J:GvJ t ρ id h k A dk κ Vt Lt xs H0 a H) (rV : ρ Vt = some (id,.kp h 8)) (LV:Lt ≠ Vt)
    (fL:Fr (isK id h) ρ H ρ (upd H Vt (.lst vs'))) (pv:Paired (xj (upd H Vt (.lst vs')) ρ) vs' zb) : GvJ t ρ id h k A dk κ Vt Lt xs H0 (a.1,zb,a.2.2) (upd H Vt (.lst vs')):=by
  obtain ⟨ls,l1,l2⟩:=J.hl
  have nf : ∀ {f:Nat},f ≤ 7 → ∀ {b:Addr},ρ b = some (id,.kp h f) → b ≠ Vt:=fun {f} hf {b} hb=>ner hb rV (by intro z; cases z; omega)
  refine ⟨J.fr.trans fL,J.kr.put,⟨?_,J.R.r0,fun f a1 b1=>?_⟩,⟨vs',ja,pv⟩,⟨ls,?_,Paired.mapP l2 fun _ _=>xj.fr fL⟩,?_,Paired.mapP J.px fun _ _=>xj.fr fL⟩
  · rw [je (nf (by decide) J.R.r0)]
    exact J.R.ob
  · obtain ⟨rf,u,hu,q⟩:=J.R.fl f a1 b1
    exact ⟨rf,u,by rw [je (nf b1 rf)]; exact hu,q.fr fL⟩
  · rw [je LV]
    exact l1
  · rw [je (nf (by decide) (J.R.fl 5 (by decide) (by decide)).1)]
    exact J.hx
theorem GvJ.putC {t:Ad} {ρ : Rho} {id:Nat} {h:Int} {k:Addr} {A:Nat → Addr} {dk:Addr} {κ : Kp} {Vt Lt:Addr} {xs:List V} {H0 H:Hp} {a:Gv} {cho:List ((Int × Int) × O)} {kvs:List (List Key × V)} (J:GvJ t ρ id h k A dk κ Vt Lt xs H0 a H) (rL : ρ Lt = some (id,.kp h 9)) (rV : ρ Vt = some (id,.kp h 8))
    (pc:Paired (fun kv (c:(Int × Int) × O)=>kv.1 = [.inl c.1.1,.inl c.1.2] ∧ xj (upd H (A 6) (.dT kvs)) ρ kv.2 c.2) kvs cho) : GvJ t ρ id h k A dk κ Vt Lt xs H0 (cho,a.2.1,a.2.2) (upd H (A 6) (.dT kvs)):=by
  obtain ⟨R,fL⟩:=J.R.put (κ':={ κ with cho:=cho }) (f0:=6) (by decide) (by decide) (u0:=.dT kvs) ⟨kvs,rfl,pc⟩ (fun f u hf q=>by unfold FldR at q ⊢; split at q <;> first | exact q | exact absurd rfl hf)
  obtain ⟨vs,v1,v2⟩:=J.hv
  obtain ⟨ls,l1,l2⟩:=J.hl
  have r6:=(J.R.fl 6 (by decide) (by decide)).1
  refine ⟨J.fr.trans fL,J.kr.put,R,⟨vs,?_,Paired.mapP v2 fun _ _=>xj.fr fL⟩,⟨ls,?_,Paired.mapP l2 fun _ _=>xj.fr fL⟩,?_,Paired.mapP J.px fun _ _=>xj.fr fL⟩
  · rw [je (ner rV r6 (by intro z; cases z))]
    exact v1
  · rw [je (ner rL r6 (by intro z; cases z))]
    exact l1
  · rw [je (ner (J.R.fl 5 (by decide) (by decide)).1 r6 (by intro z; cases z))]
    exact J.hx
theorem kfA_un (A:Nat → Addr) (p:Addr) : j9 "unvoted" (.ref p) (kfA A) = kfA (fun f=>if f = 5 then p else A f):=by
  unfold kfA kf bkf
  rfl
theorem ok_Keeper_give_votes (T:Txt K mg t) : FnOk P w K mg base CX0 5 t.f_Keeper_give_votes t.d_Keeper_give_votes ["self"] (fun vs H Q _=>∃ ρ id h k A dk κ n,vs = [.ref k] ∧ xi t H ρ id h k A dk κ ∧ κ.Ok n ∧ n ≤ 8 ∧ κ.unv.length + κ.cho.length ≤ 1000 ∧ OkR ρ H ∧
    ∀ ρ' H' A' r xs,xi t H' ρ' id h k A' dk κ.zb.1 → Fr (isK id h) ρ H ρ' H' → OkR ρ' H' → ρ' r = some (id,.kp h 8) → H' r = some (.lst xs) → Paired (xj H' ρ') xs κ.zb.2 → Q (.ref r) H'):=by
  refine T.F_Keeper_give_votes.ok xw (fun vs H Q E h=>?_) (fun cdv A outer s H vs Q E hr h=>?_)
  · obtain ⟨ρ,id,h,k,A,dk,κ,n,rfl,_⟩:=h
    rfl
  · obtain ⟨ρ,id,h,k,A',dk,κ,n,rfl,R,hok,n8,ll,kr,g⟩:=h
    refine ⟨_,(@jc _ _ _ _ _ (@j7 _ _ 1 _ _ _ _ xw.nd rfl (Or.inl rfl) (@qd _ _ _ _ jg) (by rfl) (by first | exact .inl rfl | exact .inr rfl))
      (@jc _ _ _ _ _ (@j7 _ _ 2 _ _ _ _ xw.nd rfl (Or.inl rfl) (@qd _ _ _ _ jg) (by rfl) (by first | exact .inl rfl | exact .inr rfl))
      (@jc _ _ _ _ _ (ps_for PassesOwn.never rfl (@pi_list _ _ _ _ (qa (pv 0) rfl)) (qc (i:=3) xw.nd rfl (Or.inl rfl)) (@jf _ _ _ (yc (PW.pt (pw_and (xu (qq (pv 0) T.jm T.mt_Keeper_is_due (ok_Book_is_due T) (hr.mono (by decide)) T.b_Book_is_due .nil jx (jd (pv 3) jg))) (pw_and1 (pt_cmp (pc_dnotin (hu_of hr) (j5 (ok_place_of T) (hr.mono (by decide)) rfl T.m_place_of T.F_place_of.kp T.b_place_of .nil jx (jd (pv 3) jg)) (qa (pv 0) rfl)))))) (@jc _ _ _ _ _ (ps_dput (hu_of hr) (qa (pv 0) rfl) (j5 (ok_place_of T) (hr.mono (by decide)) rfl T.m_place_of T.F_place_of.kp T.b_place_of .nil jx (jd (pv 3) jg)) (pv 3) rfl)
      (@jf _ _ _ (zd (pe_bm PySem.F.plainAttrs_list PySem.F.slot_list_append PySem.F.type_list_append ya (pv 1) (jd (pv 3) jg))))) (@jf _ _ _ (yc (PW.pt (pw_and (pt_not (xu (qq (pv 0) T.jm T.mt_Keeper_is_past (ok_Book_is_past T) (hr.mono (by decide)) T.b_Book_is_past .nil jx (jd (pv 3) jg)))) (pw_and1 (pt_cmp (pc_dnotin (hu_of hr) (j5 (ok_place_of T) (hr.mono (by decide)) rfl T.m_place_of T.F_place_of.kp T.b_place_of .nil jx (jd (pv 3) jg)) (qa (pv 0) rfl)))))) (@jf _ _ _ (zd (pe_bm PySem.F.plainAttrs_list PySem.F.slot_list_append PySem.F.type_list_append ya (pv 2) (jd (pv 3) jg)))) qe)))))
      (@jc _ _ _ _ _ (ps_fld (pv 0) (pv 2) rfl)
      (@jf _ _ _ (j4 (pv 1))))))),?_⟩
    refine ⟨zs0,fun Vt nV=>⟨zs0,fun Lt nL=>?_⟩⟩
    have kf0 : ∀ f,isK id h (id,.kp h f):=fun f=>⟨f,rfl⟩
    have f1:Fr (isK id h) ρ H (zm ρ Vt (id,.kp h 8)) (upd H Vt (.lst [])):=Fr.newR nV
    have kr1:OkR (zm ρ Vt (id,.kp h 8)) (upd H Vt (.lst [])):=kr.newR
    have f2:Fr (isK id h) (zm ρ Vt (id,.kp h 8)) (upd H Vt (.lst [])) (zm (zm ρ Vt (id,.kp h 8)) Lt (id,.kp h 9)) (upd (upd H Vt (.lst [])) Lt (.lst [])):=Fr.newR nL
    have kr2:OkR (zm (zm ρ Vt (id,.kp h 8)) Lt (id,.kp h 9)) (upd (upd H Vt (.lst [])) Lt (.lst [])):=kr1.newR
    generalize eρ : zm (zm ρ Vt (id,.kp h 8)) Lt (id,.kp h 9) = ρ2 at f2 kr2
    have f12:=f1.trans f2
    have LV:Lt ≠ Vt:=fun z=>by
      rw [z,ja] at nL
      cases nL
    have rV : ρ2 Vt = some (id,.kp h 8):=by rw [← eρ,qf LV.symm,j3]
    have rL : ρ2 Lt = some (id,.kp h 9):=by rw [← eρ,j3]
    have hV2:upd (upd H Vt (.lst [])) Lt (.lst []) Vt = some (.lst []):=by rw [je LV.symm,ja]
    have hL2:upd (upd H Vt (.lst [])) Lt (.lst []) Lt = some (.lst []):=ja
    have R2:xi t (upd (upd H Vt (.lst [])) Lt (.lst [])) ρ2 id h k A' dk κ:=by
      have s2:=(ji (o:=.lst []) nV).trans (ji (o:=.lst []) nL)
      have nv2 : ∀ {a:Addr} {u:HO},H a = some u → ρ2 a = ρ a:=fun {a u} e=>by
        rw [← eρ,qf (jh ((ji (o:=.lst []) nV) _ _ e) nL),qf (jh e nV)]
      refine ⟨s2 _ _ R.ob,(nv2 R.ob).trans R.r0,fun f a b=>?_⟩
      obtain ⟨rf,u,hu,q⟩:=R.fl f a b
      exact ⟨(nv2 hu).trans rf,u,s2 _ _ hu,q.fr f12⟩
    generalize upd (upd H Vt (.lst [])) Lt (.lst []) = H2 at f12 kr2 R2 hV2 hL2
    obtain ⟨xs,hx,px⟩:=R2.un
    have lx:xs.length = κ.unv.length:=Paired.length px
    clear f1 f2 kr1 nV nL R
    refine ⟨_,rfl,k,_,dk,_,_,rfl,R2.ob,T.jm,T.x9,(zz A').2.2.2.2.1,A' 5,rfl,⟨_,SqL.of hx⟩,for_list (K:=K) (a:=A' 5) (xs:=xs) (fun i σ H'=>∃ v,σ = [some (.ref k),some (.ref Vt),some (.ref Lt),v] ∧ GvJ t ρ2 id h k A' dk κ Vt Lt xs H2 (gv κ (κ.unv.take i) (κ.cho,[],[])) H') ⟨none,rfl,Fr.refl,kr2,R2,⟨_,hV2,.nil⟩,⟨_,hL2,.nil⟩,hx,px⟩ (fun i σ H' _ ⟨_,_,J⟩=>SqL.of J.hx) ?_ ?_⟩
    · rintro i x σ H3 ex ⟨v,rfl,J⟩
      obtain ⟨o,eo,uo⟩:=ql J.px ex
      have gl:=gv_len κ (κ.unv.take i) (κ.cho,[],[])
      have li:(κ.unv.take i).length ≤ κ.unv.length:=by rw [List.length_take]; omega
      rw [gv_snoc κ eo]
      generalize gv κ (κ.unv.take i) (κ.cho,[],[]) = a at J gl ⊢
      obtain ⟨q,rfl,hq⟩:=uo.ref
      have om:o ∈ κ.unv:=List.mem_of_getElem? eo
      have ho:=hok.u o om
      have ho8:=ord8 ho n8
      obtain ⟨kvs,hk,pk⟩:=J.R.cs
      have ck:=cho_val (o:=o) pk
      refine ⟨_,rfl,k,dk,_,rfl,J.R.ob,kfA_no A' (by decide +kernel),_,rfl,ρ2,id,h,k,A',dk,_,n,q,o,rfl,J.R,hq,ho,hok.x,hok.h,_,rfl,?_⟩
      show (if κ.due o = true then _ else _)
      have Js:Same H3 H3:=Same.refl _
      cases hd : κ.due o with
      | false=>
        refine iteF ?_
        have no : ¬ (κ.due o && !chose a.1 o) = true:=by simp [hd]
        refine ⟨_,rfl,k,dk,_,rfl,J.R.ob,kfA_no A' (by decide +kernel),_,rfl,ρ2,id,h,k,A',dk,_,n,q,o,rfl,J.R,hq,ho,hok.x,_,rfl,?_⟩
        show (if (!κ.past o) = true then _ else _)
        cases hp : κ.past o with
        | true=>
          refine iteF ⟨_,rfl,?_⟩
          rw [gvS,if_neg no,if_neg (by simp [hp])]
          exact J
        | false=>
          refine iteT ⟨_,rfl,q,o,rfl,hq,ho8,fun p np=>?_⟩
          have sp:=ji (o:=.tup [.int o.p,.int o.n]) np
          have Jp:=J.same sp
          refine ⟨_,rfl,k,_,dk,_,_,rfl,Jp.R.ob,T.jm,T.zy,(zz A').2.2.2.2.2.1,A' 6,valV kvs [.inl o.p,.inl o.n],rfl,.inr ⟨kvs,[.inl o.p,.inl o.n],p,.inl (sp _ _ hk),rfl,ja,rfl⟩,_,rfl,?_⟩
          rw [ck]
          cases hc:chose a.1 o with
          | true=>
            refine iteF ⟨_,rfl,?_⟩
            rw [gvS,if_neg no,if_neg (by rw [hc,Bool.not_true,Bool.and_false]; decide)]
            exact Jp
          | false=>
            obtain ⟨ls,hl,pl⟩:=Jp.hl
            have ll2:ls.length ≤ 1000:=by rw [Paired.length pl]; have:=gl.2.2; simp at this; omega
            refine iteT ⟨_,rfl,.inl ⟨rfl,_,SqL.of hl⟩,_,rfl,Lt,ls,.ref q,rfl,rfl,hl,xy ll2,⟨_,rfl,?_⟩⟩
            rw [gvS,if_neg no,if_pos (by rw [hp,hc]; rfl)]
            have fL:Fr (isK id h) ρ2 (upd H3 p (.tup [.int o.p,.int o.n])) ρ2 (upd (upd H3 p (.tup [.int o.p,.int o.n])) Lt (.lst (ls ++ [.ref q]))):=Fr.put rL ⟨9,rfl⟩
            have uq:=(uo.fr (Fr.same (P:=fun _=>False) ((Js).trans sp))).fr fL
            exact Jp.putL hl rL rV LV fL (qx (Paired.mapP pl fun _ _=>xj.fr fL) uq)
      | true=>
        refine iteT ⟨_,rfl,q,o,rfl,hq,ho8,fun p0 np0=>?_⟩
        have sp0:=ji (o:=.tup [.int o.p,.int o.n]) np0
        have J0:=J.same sp0
        have J0s:=sp0
        have hk0:=sp0 _ _ hk
        have hq0:=sp0 _ _ hq
        refine ⟨_,rfl,k,_,dk,_,_,rfl,J0.R.ob,T.jm,T.zy,(zz A').2.2.2.2.2.1,A' 6,valV kvs [.inl o.p,.inl o.n],rfl,.inr ⟨kvs,[.inl o.p,.inl o.n],p0,.inl hk0,rfl,ja,rfl⟩,_,rfl,?_⟩
        rw [ck]
        cases hc0:chose a.1 o with
        | true=>
          refine iteF ?_
          have no : ¬ (κ.due o && !chose a.1 o) = true:=by rw [hc0,Bool.not_true,Bool.and_false]; decide
          generalize upd H3 p0 (.tup [.int o.p,.int o.n]) = H4 at sp0 J0 J0s hk0 hq0
          refine ⟨_,rfl,k,dk,_,rfl,J0.R.ob,kfA_no A' (by decide +kernel),_,rfl,ρ2,id,h,k,A',dk,_,n,q,o,rfl,J0.R,hq0,ho,hok.x,_,rfl,?_⟩
          show (if (!κ.past o) = true then _ else _)
          cases hp : κ.past o with
          | true=>
            refine iteF ⟨_,rfl,?_⟩
            rw [gvS,if_neg no,if_neg (by simp [hp])]
            exact J0
          | false=>
            refine iteT ⟨_,rfl,q,o,rfl,hq0,ho8,fun p np=>?_⟩
            have sp:=ji (o:=.tup [.int o.p,.int o.n]) np
            have Jp:=J0.same sp
            refine ⟨_,rfl,k,_,dk,_,_,rfl,Jp.R.ob,T.jm,T.zy,(zz A').2.2.2.2.2.1,A' 6,valV kvs [.inl o.p,.inl o.n],rfl,.inr ⟨kvs,[.inl o.p,.inl o.n],p,.inl (sp _ _ hk0),rfl,ja,rfl⟩,_,rfl,?_⟩
            rw [ck]
            cases hc:chose a.1 o with
            | true=>
              refine iteF ⟨_,rfl,?_⟩
              rw [gvS,if_neg no,if_neg (by rw [hc,Bool.not_true,Bool.and_false]; decide)]
              exact Jp
            | false=>
              obtain ⟨ls,hl,pl⟩:=Jp.hl
              have ll2:ls.length ≤ 1000:=by rw [Paired.length pl]; have:=gl.2.2; simp at this; omega
              refine iteT ⟨_,rfl,.inl ⟨rfl,_,SqL.of hl⟩,_,rfl,Lt,ls,.ref q,rfl,rfl,hl,xy ll2,⟨_,rfl,?_⟩⟩
              rw [gvS,if_neg no,if_pos (by rw [hp,hc]; rfl)]
              have fL:Fr (isK id h) ρ2 (upd H4 p (.tup [.int o.p,.int o.n])) ρ2 (upd (upd H4 p (.tup [.int o.p,.int o.n])) Lt (.lst (ls ++ [.ref q]))):=Fr.put rL ⟨9,rfl⟩
              have uq:=(uo.fr (Fr.same (P:=fun _=>False) ((J0s).trans sp))).fr fL
              exact Jp.putL hl rL rV LV fL (qx (Paired.mapP pl fun _ _=>xj.fr fL) uq)
        | false=>
          refine iteT ?_
          generalize upd H3 p0 (.tup [.int o.p,.int o.n]) = H4 at sp0 J0 J0s hk0 hq0
          refine ⟨_,rfl,_,rfl,k,_,dk,_,_,rfl,J0.R.ob,T.jm,T.zy,(zz A').2.2.2.2.2.1,_,rfl,q,o,rfl,hq0,ho8,fun p np=>?_⟩
          have sp:=ji (o:=.tup [.int o.p,.int o.n]) np
          have Jp:=J0.same sp
          have lk:kvs.length ≤ 1000:=by rw [Paired.length pk]; have:=gl.1; show a.1.length ≤ 1000; simp at this; omega
          have nk:valV kvs [.inl o.p,.inl o.n] = none:=by
            cases e:valV kvs [.inl o.p,.inl o.n] with
            | none=>rfl
            | some v=>
              rw [e,hc0] at ck
              cases ck
          refine ⟨A' 6,_,rfl,DPut.t (k:=[.inl o.p,.inl o.n]) (sp _ _ hk0) ja (xy lk),?_⟩
          rw [putK_new _ nk]
          have r6:=(Jp.R.fl 6 (by decide) (by decide)).1
          have f6:Fr (isK id h) ρ2 (upd H4 p (.tup [.int o.p,.int o.n])) ρ2 (upd (upd H4 p (.tup [.int o.p,.int o.n])) (A' 6) (.dT (kvs ++ [([.inl o.p,.inl o.n],.ref q)]))):=Fr.put r6 ⟨6,rfl⟩
          have u4:=uo.fr (Fr.same (P:=fun _=>False) (J0s.trans sp))
          have pk4:=Paired.mapP pk fun _ _ ⟨e,b⟩=>(⟨e,(b.fr (Fr.same (P:=fun _=>False) (J0s.trans sp))).fr f6⟩ : _ ∧ xj _ ρ2 _ _)
          have J5:=Jp.putC rL rV (cho:=a.1 ++ [((o.p,o.n),o)]) (qx pk4 ⟨rfl,u4.fr f6⟩)
          have u5:=u4.fr f6
          generalize upd (upd H4 p (.tup [.int o.p,.int o.n])) (A' 6) (.dT (kvs ++ [([.inl o.p,.inl o.n],.ref q)])) = H5 at J5 u5
          obtain ⟨vs,hv,pv⟩:=J5.hv
          have lv:vs.length ≤ 1000:=by rw [Paired.length pv]; have:=gl.2.1; show a.2.1.length ≤ 1000; simp at this; omega
          refine ⟨_,rfl,.inl ⟨rfl,_,SqL.of hv⟩,_,rfl,Vt,vs,.ref q,rfl,rfl,hv,xy lv,⟨_,rfl,?_⟩⟩
          rw [gvS,if_pos (by simp [hd,hc0])]
          have fV:Fr (isK id h) ρ2 H5 ρ2 (upd H5 Vt (.lst (vs ++ [.ref q]))):=Fr.put rV ⟨8,rfl⟩
          exact J5.putV rV LV fV (qx (Paired.mapP pv fun _ _=>xj.fr fV) (u5.fr fV))
    · rintro σ H3 ⟨v,rfl,J⟩
      rw [lx,List.take_length] at J
      obtain ⟨vs,hv,pv⟩:=J.hv
      obtain ⟨ls,hl,pl⟩:=J.hl
      refine ⟨_,rfl,_,rfl,k,_,dk,_,rfl,J.R.ob,T.jm,T.x9,(by show 7 < 1000; decide),⟨_,rfl,?_⟩⟩
      rw [kfA_un]
      have fo:Fr (isK id h) ρ2 H3 ρ2 (upd H3 k (.ins t.jw dk (kfA fun f=>if f = 5 then Lt else A' f))):=Fr.put J.R.r0 ⟨0,rfl⟩
      have fo':Fr (isK id h) ρ2 (upd H3 k (.ins t.jw dk (kfA fun f=>if f = 5 then Lt else A' f))) (zm ρ2 Lt (id,.kp h 5)) (upd H3 k (.ins t.jw dk (kfA fun f=>if f = 5 then Lt else A' f))):=Fr.reR rL ⟨9,rfl⟩
      have ff:=fo.trans fo'
      have kL:Lt ≠ k:=ner rL J.R.r0 (by intro z; cases z)
      have Vk:Vt ≠ k:=ner rV J.R.r0 (by intro z; cases z)
      refine g (zm ρ2 Lt (id,.kp h 5)) _ (fun f=>if f = 5 then Lt else A' f) Vt vs ⟨ja,?_,fun f a1 b1=>?_⟩ (f12.trans (J.fr.trans ff)) ?_ ?_ ?_ (Paired.mapP pv fun _ _=>xj.fr ff)
      · rw [qf kL.symm]
        exact J.R.r0
      · by_cases z:f = 5
        · subst z
          exact ⟨j3,.lst ls,(by show upd H3 k _ Lt = _; rw [je kL]; exact hl),ls,rfl,Paired.mapP pl fun _ _=>xj.fr ff⟩
        · obtain ⟨rf,u,hu,q⟩:=J.R.fl f a1 b1
          have nL:A' f ≠ Lt:=ner rf rL (by intro y; cases y; omega)
          show zm ρ2 Lt (id,.kp h 5) (if f = 5 then Lt else A' f) = _ ∧ ∃ u,upd H3 k _ (if f = 5 then Lt else A' f) = _ ∧ _
          rw [if_neg z]
          refine ⟨by rw [qf nL]; exact rf,u,by rw [je (ner rf J.R.r0 (by intro y; cases y; omega))]; exact hu,?_⟩
          have q':=q.fr ff
          unfold FldR at q' ⊢
          split at q' <;> first | exact q' | exact absurd rfl z
      · exact OkR.reR rL J.kr.put
      · rw [qf LV.symm]
        exact rV
      · rw [je Vk]
        exact hv
theorem paired_eraseIdx {α β : Type} {F : α → β → Prop} : ∀ {xs:List α} {ys:List β} {j:Nat},Paired F xs ys → Paired F (xs.eraseIdx j) (ys.eraseIdx j)
  | _,_,_,.nil=>.nil
  | _,_,0,.cons _ t=>t
  | _,_,j + 1,.cons h t=>.cons h (paired_eraseIdx t)
theorem erase_idx {α : Type} [DecidableEq α] (a : α) : ∀ l:List α,l.erase a = l.eraseIdx (l.idxOf a)
  | []=>rfl
  | b :: l=>by
    by_cases z:b = a
    · subst z
      simp
    · have e:(b :: l).idxOf a = l.idxOf a + 1:=by
        rw [List.idxOf_cons,show (b == a) = false by simpa using z]
        rfl
      rw [List.erase_cons_tail (by simpa using z),e,List.eraseIdx_cons_succ,erase_idx a l]
def ordI (o:O) : List Int:=[o.p,o.n,o.g,o.m]
theorem ordI_inj {o u:O} (h:ordI o = ordI u) : o = u:=by
  cases o
  cases u
  unfold ordI at h
  simp at h
  simp [h]
theorem idx_ordI (o:O) : ∀ l:List O,(l.map ordI).idxOf (ordI o) = l.idxOf o
  | []=>rfl
  | b :: l=>by
    rw [List.map_cons]
    by_cases z:b = o
    · subst z
      simp
    · rw [List.idxOf_cons,List.idxOf_cons,show (b == o) = false by simpa using z,show (ordI b == ordI o) = false by simpa using fun y=>z (ordI_inj y),idx_ordI o l]
theorem ords_tupI {K:W.Frag} {H:Hp} {ρ : Rho} : ∀ {xs:List V} {os:List O},Paired (xj H ρ) xs os → Paired (TupI K H) xs (os.map ordI)
  | _,_,.nil=>.nil
  | _,_,.cons ⟨a,e,_,h⟩ t=>.cons ⟨a,e,SqT.of h⟩ (ords_tupI t)
theorem first_mem {κ : Kp} {o:O} (h : κ.first = some o) : o ∈ κ.wait:=List.mem_of_find?_eq_some h
theorem go_none {κ : Kp} (h : κ.first = none) : ∀ m,Kp.go m κ = κ
  | 0=>rfl
  | m + 1=>by
    unfold Kp.go
    rw [h]
theorem go_some {κ : Kp} {o:O} (h : κ.first = some o) : Kp.go κ.wait.length κ = Kp.go (κ.step o).wait.length (κ.step o):=by
  have e:(κ.step o).wait.length = κ.wait.length - 1:=List.length_erase_of_mem (first_mem h)
  have p : 0 < κ.wait.length:=List.length_pos_of_mem (first_mem h)
  obtain ⟨m,hm⟩ : ∃ m,κ.wait.length = m + 1:=⟨κ.wait.length - 1,by omega⟩
  rw [e,hm]
  show (match κ.first with | none=>κ | some o=>Kp.go m (κ.step o)) = _
  rw [h]
  rfl
theorem ok_Keeper_go_on (T:Txt K mg t) : FnOk P w K mg base CX0 6 t.f_Keeper_go_on t.d_Keeper_go_on ["self"] (fun vs H Q _=>∃ ρ id h k A dk κ n,vs = [.ref k] ∧ xi t H ρ id h k A dk κ ∧ κ.Ok n ∧ n ≤ 8 ∧ κ.unv.length + κ.cho.length ≤ 1000 ∧ κ.done.length + κ.wait.length ≤ 1000 ∧ OkR ρ H ∧
    ∀ ρ' H' A' r xs,xi t H' ρ' id h k A' dk κ.goOn.zb.1 → Fr (isK id h) ρ H ρ' H' → OkR ρ' H' → ρ' r = some (id,.kp h 8) → H' r = some (.lst xs) → Paired (xj H' ρ') xs κ.goOn.zb.2 → Q (.ref r) H'):=by
  refine T.F_Keeper_go_on.ok sc_Keeper_go_on (fun vs H Q E h=>?_) (fun cdv A outer s H vs Q E hr h=>?_)
  · obtain ⟨ρ,id,h,k,A,dk,κ,n,rfl,_⟩:=h
    rfl
  · obtain ⟨ρ,id,h,k,A',dk,κ,n,rfl,R,hok,n8,ll,ld,kr,g⟩:=h
    refine ⟨_,(@jc _ _ _ _ _ (j7 (i:=1) sc_Keeper_go_on.nd rfl (Or.inl rfl) (pe_meth0 (pv 0) T.jm T.mt_Keeper_first_due (ok_Keeper_first_due T) (hr.mono (by decide)) T.b_Keeper_first_due .nil jx))
      (@jc _ _ _ _ _ (ps_while PassesOwn.never (qr op_notN (pv 1) pe_non (zv _)) (@jc _ _ _ _ _ (zd (pe_bm PySem.F.plainAttrs_list PySem.F.slot_list_remove PySem.F.type_list_remove (mt_removeT hr.units) (qa (pv 0) rfl) (jd (pv 1) jg)))
      (@jc _ _ _ _ _ (zd (qq (pv 0) T.jm T.mt_Keeper_settle (ok_Book_settle T) (hr.mono (by decide)) T.b_Book_settle .nil jx (jd (pv 1) jg)))
      (@jf _ _ _ (j7 (i:=1) sc_Keeper_go_on.nd rfl (Or.inl rfl) (pe_meth0 (pv 0) T.jm T.mt_Keeper_first_due (ok_Keeper_first_due T) (hr.mono (by decide)) T.b_Keeper_first_due .nil jx))))))
      (@jf _ _ _ (j4 (pe_meth0 (pv 0) T.jm T.mt_Keeper_give_votes (ok_Keeper_give_votes T) (hr.mono (by decide)) T.b_Keeper_give_votes .nil jx))))),?_⟩
    refine ⟨_,rfl,k,dk,_,rfl,R.ob,kfA_no A' (by decide +kernel),ρ,id,h,k,A',dk,κ,n,rfl,R,hok,fun v0 h0=>?_⟩
    refine while_by (fun σ H'=>∃ κ' v,σ = [some (.ref k),some v] ∧ xi t H' ρ id h k A' dk κ' ∧ κ'.Ok n ∧ Fr (isK id h) ρ H ρ H' ∧ OkR ρ H' ∧ Kp.go κ'.wait.length κ' = κ.goOn ∧ κ'.unv = κ.unv ∧ κ'.cho = κ.cho ∧ κ'.done.length + κ'.wait.length ≤ 1000 ∧ ((κ'.first = none ∧ v = .non) ∨ ∃ o,κ'.first = some o ∧ xj H' ρ v o)) (fun _ H'=>match H' (A' 7) with | some (.lst xs)=>xs.length | _=>0) ⟨κ,v0,rfl,R,hok,Fr.refl,kr,rfl,rfl,rfl,ld,h0⟩ ?_ ?_
    · rintro σ H1 ⟨κ',v,rfl,R1,hok1,f1,kr1,eg,eu,ec,ld1,hv⟩
      refine ⟨_,rfl,rfl,_,rfl,?_⟩
      rcases hv with ⟨e,rfl⟩ | ⟨o,e,uo⟩
      · refine iteF ?_
        rw [go_none e] at eg
        subst eg
        refine ⟨_,rfl,k,dk,_,rfl,R1.ob,kfA_no A' (by decide +kernel),ρ,id,h,k,A',dk,_,n,rfl,R1,hok1,n8,by rw [eu,ec]; exact ll,kr1,fun ρ' H' A'' r xs q1 q2 q3 q4 q5 q6=>g ρ' H' A'' r xs q1 (f1.trans q2) q3 q4 q5 q6⟩
      · obtain ⟨q,rfl,nq,hq⟩:=uo
        refine iteT ?_
        obtain ⟨xs,hx,px⟩:=R1.wt
        have om:=first_mem e
        refine ⟨_,rfl,k,_,dk,_,_,rfl,R1.ob,T.jm,T.zj,(zz A').2.2.2.2.2.2,.inl ⟨rfl,_,SqL.of hx⟩,_,rfl,A' 7,xs,.ref q,ordI o,κ'.wait.map ordI,rfl,rfl,hx,⟨q,rfl,SqT.of hq⟩,ords_tupI px,List.mem_map_of_mem om,?_⟩
        rw [idx_ordI]
        obtain ⟨r7,_⟩:=R1.fl 7 (by decide) (by decide)
        obtain ⟨R2,f2⟩:=R1.put (κ':={ κ' with wait:=κ'.wait.erase o }) (f0:=7) (by decide) (by decide) (u0:=.lst (xs.eraseIdx (κ'.wait.idxOf o))) ⟨_,rfl,by show Paired _ _ (κ'.wait.erase o); rw [erase_idx]; exact paired_eraseIdx (Paired.mapP px fun _ _=>xj.fr (Fr.put (P:=isK id h) r7 ⟨7,rfl⟩))⟩ (fun f u hf q=>by unfold FldR at q ⊢; split at q <;> first | exact q | exact absurd rfl hf)
        have kr2:=kr1.put (a:=A' 7) (o:=.lst (xs.eraseIdx (κ'.wait.idxOf o)))
        have uq2:xj (upd H1 (A' 7) (.lst (xs.eraseIdx (κ'.wait.idxOf o)))) ρ (.ref q) o:=xj.fr f2 ⟨q,rfl,nq,hq⟩
        have ho:=hok1.w o om
        generalize upd H1 (A' 7) (.lst (xs.eraseIdx (κ'.wait.idxOf o))) = H2 at R2 f2 kr2 uq2
        refine ⟨_,rfl,k,dk,_,rfl,R2.ob,kfA_no A' (by decide +kernel),_,rfl,ρ,id,h,k,A',dk,_,n,q,o,rfl,R2,uq2,ho,hok1.x,hok1.h,by show κ'.done.length ≤ 1000; omega,kr2,fun H3 R3 f3 kr3=>?_⟩
        have ok3:(κ'.step o).Ok n:=hok1.step o
        refine ⟨_,rfl,k,dk,_,rfl,R3.ob,kfA_no A' (by decide +kernel),ρ,id,h,k,A',dk,κ'.step o,n,rfl,R3,ok3,fun v1 hv1=>⟨⟨κ'.step o,v1,rfl,R3,ok3,(f1.trans f2).trans f3,kr3,by rw [← go_some e]; exact eg,eu,ec,?_,hv1⟩,?_⟩⟩
        · have l1:(κ'.step o).done.length = κ'.done.length + 1:=by show (κ'.done ++ [o]).length = _; rw [List.length_append]; rfl
          have l2:(κ'.step o).wait.length = κ'.wait.length - 1:=List.length_erase_of_mem om
          have:=List.length_pos_of_mem om
          omega
        · obtain ⟨ys,hy,py⟩:=R3.wt
          have l2:(κ'.step o).wait.length = κ'.wait.length - 1:=List.length_erase_of_mem om
          have:=List.length_pos_of_mem om
          have e1:=Paired.length px
          have e2:ys.length = (κ'.step o).wait.length:=Paired.length py
          rw [hy,hx]
          show ys.length < xs.length
          omega
    · intro σ H Q Q' hQ h
      obtain ⟨v,e1,e2,c,e3,q⟩:=h
      exact ⟨v,e1,e2,c,e3,hQ _ _ q⟩
theorem heard_val {o:O} : ∀ {kvs:List (List Key × V)} {os:List O},kvs.map (·.1) = os.map ordK → (valV kvs (ordK o)).isSome = decide (o ∈ os)
  | [],[],_=>rfl
  | [],_ :: _,e=>by simp at e
  | _ :: _,[],e=>by simp at e
  | kv :: kvs,u :: os,e=>by
    rw [List.map_cons,List.map_cons] at e
    obtain ⟨e1,e2⟩:=List.cons.inj e
    have ih:=heard_val (o:=o) e2
    by_cases z:u = o
    · subst z
      rw [valV_pos e1]
      simp
    · rw [valV_neg (fun y=>z (ordK_inj (e1.symm.trans y))),ih]
      simp [Ne.symm z]
theorem xi.newR {t:Ad} {H:Hp} {ρ : Rho} {id:Nat} {h:Int} {k dk:Addr} {A:Nat → Addr} {κ : Kp} {r:Addr} {ro:Role} {o:HO} (R:xi t H ρ id h k A dk κ) (kr:OkR ρ H) (nr:H r = none) : xi t (upd H r o) (zm ρ r ro) id h k A dk κ:=
  R.fr (P:=fun _=>False) (fun _ z=>z) (Fr.newR nr)
def sp_votes (t:Ad) (κ':Kp → O → Kp × List O) : Sp:=fun vs H Q _=>∃ ρ id h k A dk κ n q o,vs = [.ref k,.ref q] ∧ xi t H ρ id h k A dk κ ∧ xj H ρ (.ref q) o ∧ κ.Ok n ∧ n ≤ 8 ∧ isOrd (n:Nat) o = true ∧ κ.heard.length ≤ 900 ∧ κ.unv.length + κ.cho.length ≤ 900 ∧ κ.done.length + κ.wait.length ≤ 900 ∧ OkR ρ H ∧
    ∀ ρ' H' A' r xs,xi t H' ρ' id h k A' dk (κ' κ o).1 → Fr (isK id h) ρ H ρ' H' → OkR ρ' H' → ρ' r = some (id,.kp h 8) → H' r = some (.lst xs) → Paired (xj H' ρ') xs (κ' κ o).2 → Q (.ref r) H'
theorem ok_Keeper_hear (T:Txt K mg t) : FnOk P w K mg base CX0 6 t.f_Keeper_hear t.d_Keeper_hear ["self","order"] (sp_votes t Kp.hear):=by
  refine T.F_Keeper_hear.ok sc_Keeper_hear (fun vs H Q E h=>?_) (fun cdv A outer s H vs Q E hr h=>?_)
  · obtain ⟨ρ,id,h,k,A,dk,κ,n,q,o,rfl,_⟩:=h
    rfl
  · obtain ⟨ρ,id,h,k,A',dk,κ,n,q,o,rfl,R,uq,hok,n8,ho,lh,lu,ld,kr,g⟩:=h
    refine ⟨_,(@jc _ _ _ _ _ (yc (pt_cmp (pc_din (hu_of hr) (pv 1) (qa (pv 0) rfl))) (@jf _ _ _ (j4 (@qd _ _ _ _ jg))) qe)
      (@jc _ _ _ _ _ (ps_dput (hu_of hr) (qa (pv 0) rfl) (pv 1) pe_bl rfl)
      (@jc _ _ _ _ _ (zd (pe_bm PySem.F.plainAttrs_list PySem.F.slot_list_append PySem.F.type_list_append ya (qa (pv 0) rfl) (jd (pv 1) jg)))
      (@jf _ _ _ (j4 (pe_meth0 (pv 0) T.jm T.mt_Keeper_give_votes (ok_Keeper_give_votes T) (hr.mono (by decide)) T.b_Keeper_give_votes .nil jx)))))),?_⟩
    obtain ⟨_,eq,nq,hq⟩:=uq
    cases eq
    obtain ⟨kvs,hk,ek⟩:=R.hd
    have hv:=heard_val (o:=o) ek
    refine ⟨_,rfl,_,rfl,k,_,dk,_,_,rfl,R.ob,T.jm,T.na_Keeper_heard,(zz A').2.2.2.1,A' 4,valV kvs (ordK o),rfl,.inr ⟨kvs,ordK o,q,.inl hk,rfl,hq,rfl⟩,_,rfl,?_⟩
    rw [hv]
    unfold Kp.hear at g
    refine ite2 (fun z=>?_) (fun z=>?_)
    · have z':o ∈ κ.heard:=of_decide_eq_true z
      rw [if_pos z'] at g
      refine ⟨zs0,fun r nr=>?_⟩
      have f1:Fr (isK id h) ρ H (zm ρ r (id,.kp h 8)) (upd H r (.lst [])):=Fr.newR nr
      refine g _ _ A' r [] (xi.newR R kr nr) f1 kr.newR j3 ja .nil
    · have z' : ¬ o ∈ κ.heard:=fun y=>z (decide_eq_true y)
      rw [if_neg z'] at g
      have nk:valV kvs (ordK o) = none:=by
        cases e:valV kvs (ordK o) with
        | none=>rfl
        | some v=>
          rw [e,decide_eq_false z'] at hv
          cases hv
      have lk:kvs.length ≤ 1000:=by
        have:=congrArg List.length ek
        rw [List.length_map,List.length_map] at this
        omega
      refine ⟨_,rfl,k,_,dk,_,_,rfl,R.ob,T.jm,T.na_Keeper_heard,(zz A').2.2.2.1,_,rfl,A' 4,_,rfl,DPut.t (k:=ordK o) hk hq (xy lk),?_⟩
      rw [putK_new _ nk]
      obtain ⟨R1,f1⟩:=R.put (κ':={ κ with heard:=κ.heard ++ [o] }) (f0:=4) (by decide) (by decide) (u0:=.dT (kvs ++ [(ordK o,.bl true)])) ⟨_,rfl,by rw [List.map_append,ek,List.map_append]; rfl⟩ (fun f u hf q=>by unfold FldR at q ⊢; split at q <;> first | exact q | exact absurd rfl hf)
      have kr1:=kr.put (a:=A' 4) (o:=.dT (kvs ++ [(ordK o,.bl true)]))
      have uq1:xj _ ρ (.ref q) o:=xj.fr f1 ⟨q,rfl,nq,hq⟩
      generalize upd H (A' 4) (.dT (kvs ++ [(ordK o,.bl true)])) = H1 at R1 f1 kr1 uq1
      obtain ⟨xs,hx,px⟩:=R1.un
      have lx:xs.length ≤ 1000:=by rw [Paired.length px]; show κ.unv.length ≤ 1000; omega
      refine ⟨_,rfl,k,_,dk,_,_,rfl,R1.ob,T.jm,T.x9,(zz A').2.2.2.2.1,.inl ⟨rfl,_,SqL.of hx⟩,_,rfl,A' 5,xs,.ref q,rfl,rfl,hx,xy lx,?_⟩
      obtain ⟨r5,_⟩:=R1.fl 5 (by decide) (by decide)
      obtain ⟨R2,f2⟩:=R1.put (κ':={ κ with heard:=κ.heard ++ [o],unv:=κ.unv ++ [o] }) (f0:=5) (by decide) (by decide) (u0:=.lst (xs ++ [.ref q])) ⟨_,rfl,qx (Paired.mapP px fun _ _=>xj.fr (Fr.put (P:=isK id h) r5 ⟨5,rfl⟩)) (uq1.fr (Fr.put (P:=isK id h) r5 ⟨5,rfl⟩))⟩ (fun f u hf q=>by unfold FldR at q ⊢; split at q <;> first | exact q | exact absurd rfl hf)
      have kr2:=kr1.put (a:=A' 5) (o:=.lst (xs ++ [.ref q]))
      dsimp only
      generalize upd H1 (A' 5) (.lst (xs ++ [.ref q])) = H2 at R2 f2 kr2
      have ok2:Kp.Ok n { κ with heard:=κ.heard ++ [o],unv:=κ.unv ++ [o] }:=⟨hok.h,hok.x,fun u hu=>by
        rcases List.mem_append.mp hu with hu | hu
        · exact hok.u u hu
        · rw [List.mem_singleton.mp hu]; exact ho,hok.w,hok.nd⟩
      exact ⟨_,rfl,k,dk,_,rfl,R2.ob,kfA_no A' (by decide +kernel),ρ,id,h,k,A',dk,_,n,rfl,R2,ok2,n8,by show (κ.unv ++ [o]).length + κ.cho.length ≤ 1000; rw [List.length_append]; show κ.unv.length + 1 + κ.cho.length ≤ 1000; omega,kr2,fun ρ' H' A'' r ys q1 q2 q3 q4 q5 q6=>g ρ' H' A'' r ys q1 ((f1.trans f2).trans q2) q3 q4 q5 q6⟩
theorem ok_Keeper_take_paper (T:Txt K mg t) : FnOk P w K mg base CX0 7 t.f_Keeper_take_paper t.d_Keeper_take_paper ["self","order"] (sp_votes t Kp.paper):=by
  refine T.F_Keeper_take_paper.ok sc_Keeper_take_paper (fun vs H Q E h=>?_) (fun cdv A outer s H vs Q E hr h=>?_)
  · obtain ⟨ρ,id,h,k,A,dk,κ,n,q,o,rfl,_⟩:=h
    rfl
  · obtain ⟨ρ,id,h,k,A',dk,κ,n,q,o,rfl,R,uq,hok,n8,ho,lh,lu,ld,kr,g⟩:=h
    refine ⟨_,(@jc _ _ _ _ _ (yc (PW.pt (pw_or (xu (qq (pv 0) T.jm T.mt_Keeper_is_past (ok_Book_is_past T) (hr.mono (by decide)) T.b_Book_is_past .nil jx (jd (pv 1) jg))) (pw_or1 (qr (op_inT hr.units) (pv 1) (qa (pv 0) rfl) (by with_unfolding_all rfl))))) (@jf _ _ _ (j4 (@qd _ _ _ _ jg))) qe)
      (@jc _ _ _ _ _ (zd (pe_bm PySem.F.plainAttrs_list PySem.F.slot_list_append PySem.F.type_list_append ya (qa (pv 0) rfl) (jd (pv 1) jg)))
      (@jf _ _ _ (j4 (pe_meth0 (pv 0) T.jm T.mt_Keeper_go_on (ok_Keeper_go_on T) (hr.mono (by decide)) T.b_Keeper_go_on .nil jx))))),?_⟩
    obtain ⟨_,eq,nq,hq⟩:=uq
    cases eq
    obtain ⟨xs,hx,px⟩:=R.wt
    unfold Kp.paper at g
    have none_:(κ.past o || decide (o ∈ κ.wait)) = true → ∀ r H1,Same H H1 → H1 r = none → Q (.ref r) (upd H1 r (.lst [])):=fun z r H1 s1 nr=>by
      rw [if_pos z] at g
      have f0:Fr (isK id h) ρ H ρ H1:=Fr.same s1
      have f1:Fr (isK id h) ρ H1 (zm ρ r (id,.kp h 8)) (upd H1 r (.lst [])):=Fr.newR nr
      exact g _ _ A' r [] (xi.newR (R.fr (P:=fun _=>False) (fun _ z=>z) (Fr.same s1)) (kr.same s1) nr) (f0.trans f1) (kr.same s1).newR j3 ja .nil
    refine ⟨_,rfl,k,dk,_,rfl,R.ob,kfA_no A' (by decide +kernel),_,rfl,ρ,id,h,k,A',dk,κ,n,q,o,rfl,R,hq,ho,hok.x,_,rfl,?_⟩
    cases hp : κ.past o with
    | true=>
      refine iteT (iteT ⟨zs0,fun r nr=>none_ (by rw [hp]; rfl) r H (Same.refl _) nr⟩)
    | false=>
      refine iteF ⟨_,rfl,_,rfl,k,_,dk,_,_,rfl,R.ob,T.jm,T.zj,(zz A').2.2.2.2.2.2,A' 7,xs,ordI o,κ.wait.map ordI,rfl,SqL.of hx,⟨q,rfl,SqT.of hq⟩,ords_tupI px,_,rfl,ite2 (fun z=>?_) (fun z=>?_)⟩
      · have z':o ∈ κ.wait:=by
          obtain ⟨u,hu,e⟩:=List.mem_map.mp (of_decide_eq_true z)
          rw [← ordI_inj e]
          exact hu
        exact ⟨zs0,fun r nr=>none_ (by rw [decide_eq_true z',Bool.or_true]) r H (Same.refl _) nr⟩
      · have z' : ¬ o ∈ κ.wait:=fun y=>z (decide_eq_true (List.mem_map_of_mem y))
        rw [if_neg (by rw [hp,decide_eq_false z']; decide)] at g
        have lx:xs.length ≤ 1000:=by rw [Paired.length px]; omega
        refine ⟨_,rfl,k,_,dk,_,_,rfl,R.ob,T.jm,T.zj,(zz A').2.2.2.2.2.2,.inl ⟨rfl,_,SqL.of hx⟩,_,rfl,A' 7,xs,.ref q,rfl,rfl,hx,xy lx,?_⟩
        obtain ⟨r7,_⟩:=R.fl 7 (by decide) (by decide)
        obtain ⟨R2,f2⟩:=R.put (κ':={ κ with wait:=κ.wait ++ [o] }) (f0:=7) (by decide) (by decide) (u0:=.lst (xs ++ [.ref q])) ⟨_,rfl,qx (Paired.mapP px fun _ _=>xj.fr (Fr.put (P:=isK id h) r7 ⟨7,rfl⟩)) (xj.fr (Fr.put (P:=isK id h) r7 ⟨7,rfl⟩) ⟨q,rfl,nq,hq⟩)⟩ (fun f u hf q=>by unfold FldR at q ⊢; split at q <;> first | exact q | exact absurd rfl hf)
        have kr2:=kr.put (a:=A' 7) (o:=.lst (xs ++ [.ref q]))
        dsimp only
        generalize upd H (A' 7) (.lst (xs ++ [.ref q])) = H2 at R2 f2 kr2
        have ok2:Kp.Ok n { κ with wait:=κ.wait ++ [o] }:=⟨hok.h,hok.x,hok.u,fun u hu=>by
          rcases List.mem_append.mp hu with hu | hu
          · exact hok.w u hu
          · rw [List.mem_singleton.mp hu]; exact ho,List.nodup_append.mpr ⟨hok.nd,by simp,fun x hx y hy e=>by rw [List.mem_singleton.mp hy] at e; subst e; exact z' hx⟩⟩
        exact ⟨_,rfl,k,dk,_,rfl,R2.ob,kfA_no A' (by decide +kernel),ρ,id,h,k,A',dk,_,n,rfl,R2,ok2,n8,by show κ.unv.length + κ.cho.length ≤ 1000; omega,by show κ.done.length + (κ.wait ++ [o]).length ≤ 1000; rw [List.length_append]; show κ.done.length + (κ.wait.length + 1) ≤ 1000; omega,kr2,fun ρ' H' A'' r ys q1 q2 q3 q4 q5 q6=>g ρ' H' A'' r ys q1 (f2.trans q2) q3 q4 q5 q6⟩
def wof (n tot:Int) (ly ch kd bd ak wy:Addr) : List (Str × V):=j9 "on_way" (.ref wy) (j9 "asked" (.ref ak) (j9 "board" (.ref bd) (j9 "keepers" (.ref kd) (j9 "cheating" (.ref ch) (j9 "lying" (.ref ly) (j9 "total" (.int tot) (j9 "purses" (.int n) [])))))))
theorem wof_purses (n tot:Int) (ly ch kd bd ak wy:Addr) : (wof n tot ly ch kd bd ak wy).lookup ("purses" : Str) = some (.int n):=by
  unfold wof
  repeat (first | rw [jl,if_pos rfl] | rw [jl,if_neg (by decide +kernel)])
theorem wof_cheating (n tot:Int) (ly ch kd bd ak wy:Addr) : (wof n tot ly ch kd bd ak wy).lookup ("cheating" : Str) = some (.ref ch):=by
  unfold wof
  repeat (first | rw [jl,if_pos rfl] | rw [jl,if_neg (by decide +kernel)])
theorem wof_keepers (n tot:Int) (ly ch kd bd ak wy:Addr) : (wof n tot ly ch kd bd ak wy).lookup ("keepers" : Str) = some (.ref kd):=by
  unfold wof
  repeat (first | rw [jl,if_pos rfl] | rw [jl,if_neg (by decide +kernel)])
theorem wof_board (n tot:Int) (ly ch kd bd ak wy:Addr) : (wof n tot ly ch kd bd ak wy).lookup ("board" : Str) = some (.ref bd):=by
  unfold wof
  repeat (first | rw [jl,if_pos rfl] | rw [jl,if_neg (by decide +kernel)])
theorem wof_asked (n tot:Int) (ly ch kd bd ak wy:Addr) : (wof n tot ly ch kd bd ak wy).lookup ("asked" : Str) = some (.ref ak):=by
  unfold wof
  repeat (first | rw [jl,if_pos rfl] | rw [jl,if_neg (by decide +kernel)])
theorem wof_on_way (n tot:Int) (ly ch kd bd ak wy:Addr) : (wof n tot ly ch kd bd ak wy).lookup ("on_way" : Str) = some (.ref wy):=by
  unfold wof
  repeat (first | rw [jl,if_pos rfl] | rw [jl,if_neg (by decide +kernel)])
theorem wof_no (n tot:Int) (ly ch kd bd ak wy:Addr) {m:Str} (h : ¬ m = "on_way" ∧ ¬ m = "asked" ∧ ¬ m = "board" ∧ ¬ m = "keepers" ∧ ¬ m = "cheating" ∧ ¬ m = "lying" ∧ ¬ m = "total" ∧ ¬ m = "purses") : (wof n tot ly ch kd bd ak wy).lookup m = none:=by
  obtain ⟨h1,h2,h3,h4,h5,h6,h7,h8⟩:=h
  unfold wof
  rw [jl,if_neg h1,jl,if_neg h2,jl,if_neg h3,jl,if_neg h4,jl,if_neg h5,jl,if_neg h6,jl,if_neg h7,jl,if_neg h8]
  rfl
structure Wd where
  n:Nat
  cheats:List Int
  ks:List (Int × Kp)
  bd:IThings
  en:Int
  asked:List (List O)
  way:List (Bool × Int × O)
def setK (ks:List (Int × Kp)) (h:Int) (κ : Kp) : List (Int × Kp):=ks.map fun c=>if c.1 = h then (h,κ) else c
def Wd.post (w:Wd) (b:Bool) (o:O) : Wd:={ w with way:=w.way ++ w.ks.map fun c=>(b,c.1,o) }
def housesI:IThings → List Int → List Int
  | [],_=>[]
  | p :: ps,k=>if p.1 = k then p.2 else housesI ps k
def signI:IThings → List Int → Int → IThings
  | [],k,h=>[(k,[h])]
  | p :: ps,k,h=>if p.1 = k then (p.1,p.2 ++ [h]) :: ps else p :: signI ps k h
def Wd.put (w:Wd) (h:Int) (o:O) : Wd × Bool:=if h ∈ housesI w.bd (ordI o) then (w,false) else ({ w with bd:=signI w.bd (ordI o) h },decide (((housesI w.bd (ordI o)).length:Int) + 1 = w.en))
def Wd.vote (h:Int) (w:Wd) (o:O) : Wd:=if (w.put h o).2 = true then (w.put h o).1.post false o else (w.put h o).1
def Wd.zb (w:Wd) (h:Int) (os:List O) : Wd:=os.foldl (Wd.vote h) w
def Wd.keep (w:Wd) (h:Int) : Option Kp:=(w.ks.find? fun c=>decide (c.1 = h)).map (·.2)
def Kp.take (κ : Kp) (b:Bool) (o:O) : Kp × List O:=if b = true then κ.hear o else κ.paper o
def Wd.come (w:Wd) (i:Nat) (l:Bool × Int × O) (κ : Kp) : Wd:=Wd.zb { w with way:=w.way.eraseIdx i,ks:=setK w.ks l.2.1 (κ.take l.1 l.2.2).1 } l.2.1 (κ.take l.1 l.2.2).2
theorem houses_thP (k:List Int) : ∀ is:IThings,qu (thP is) (keyI k) = housesI is k
  | []=>rfl
  | p :: ps=>by
    show (if keyI p.1 = keyI k then p.2 else qu (thP ps) (keyI k)) = if p.1 = k then p.2 else housesI ps k
    by_cases z:p.1 = k
    · rw [if_pos z,if_pos (by rw [z])]
    · rw [if_neg z,if_neg (fun y=>z (keyI_inj y)),houses_thP k ps]
theorem sign_thP (k:List Int) (h:Int) : ∀ is:IThings,signP (thP is) (keyI k) h = thP (signI is k h)
  | []=>rfl
  | p :: ps=>by
    show (if keyI p.1 = keyI k then (keyI p.1,p.2 ++ [h]) :: thP ps else (keyI p.1,p.2) :: signP (thP ps) (keyI k) h) = thP (if p.1 = k then (p.1,p.2 ++ [h]) :: ps else p :: signI ps k h)
    by_cases z:p.1 = k
    · rw [if_pos z,if_pos (by rw [z])]
      rfl
    · rw [if_neg z,if_neg (fun y=>z (keyI_inj y)),sign_thP k h ps]
      rfl
def wordV (b:Bool) : V:=.str (if b = true then "order" else "paper")
def LetU (H:Hp) (ρ : Rho) (x:V) (l:Bool × Int × O) : Prop:=∃ a q,x = .ref a ∧ ρ a = none ∧ H a = some (.tup [wordV l.1,.int l.2.1,.ref q]) ∧ xj H ρ (.ref q) l.2.2
theorem LetU.fr {P:Role → Prop} {ρ ρ':Rho} {H H':Hp} {x:V} {l:Bool × Int × O} (f:Fr P ρ H ρ' H') (h:LetU H ρ x l) : LetU H' ρ' x l:=by
  obtain ⟨a,q,e,n,h1,h2⟩:=h
  obtain ⟨h1',n'⟩:=f a _ h1 fun r hr=>by rw [n] at hr; cases hr
  exact ⟨a,q,e,n'.trans n,h1',h2.fr f⟩
structure WA where
  x:Addr
  dx:Addr
  tot:Int
  ly:Addr
  ch:Addr
  kd:Addr
  bd:Addr
  ak:Addr
  wy:Addr
  db:Addr
  S:Addr
abbrev WA.fs (W:WA) (n:Nat) : List (Str × V):=wof n W.tot W.ly W.ch W.kd W.bd W.ak W.wy
def yg (t:Ad) (H:Hp) (ρ : Rho) (id:Nat) (kvs:List (Key × V)) (ks:List (Int × Kp)) : Prop:=Paired (fun kv (c:Int × Kp)=>kv.1 = .inl c.1 ∧ ∃ k A dk,kv.2 = .ref k ∧ xi t H ρ id c.1 k A dk c.2) kvs ks
def RowsR (H:Hp) (ρ : Rho) (id:Nat) (rs:List Addr) (asked:List (List O)) : Prop:=rs.length = asked.length ∧ ∀ (i:Nat) (r:Addr) (os:List O),rs[i]? = some r → asked[i]? = some os → ρ r = some (id,.row i) ∧ ∃ xs,H r = some (.lst xs) ∧ Paired (xj H ρ) xs os
def SigR (ρ : Rho) (id:Nat) (kvs:List (List Key × V)) : Prop:=∀ kv ∈ kvs,∃ c,kv.2 = .ref c ∧ ρ c = some (id,.sg)
structure jz (t:Ad) (H:Hp) (ρ : Rho) (id:Nat) (W:WA) (w:Wd) : Prop where
  ob:H W.x = some (.ins t.jv W.dx (W.fs w.n)) ∧ ρ W.x = some (id,.x)
  ch:H W.ch = some (.lst (w.cheats.map V.int)) ∧ ρ W.ch = none
  kd : ρ W.kd = some (id,.kd) ∧ ∃ kvs,H W.kd = some (.dK kvs) ∧ yg t H ρ id kvs w.ks
  bd : ρ W.bd = some (id,.bd) ∧ ρ W.S = some (id,.sd) ∧ ∃ kvs,BoardAt t H W.bd W.db W.S w.en kvs (thP w.bd) ∧ SigR ρ id kvs
  ak : ρ W.ak = some (id,.ak) ∧ ∃ rs,H W.ak = some (.lst (rs.map V.ref)) ∧ RowsR H ρ id rs w.asked
  wy : ρ W.wy = some (id,.wy) ∧ ∃ xs,H W.wy = some (.lst xs) ∧ Paired (LetU H ρ) xs w.way
section
variable {t:Ad} {H H':Hp} {ρ ρ':Rho} {id:Nat} {W:WA} {w:Wd} {P:Role → Prop}
theorem zi {a:Addr} {u:HO} {r:Role} (f:Fr P ρ H ρ' H') (e:H a = some u) (er : ρ a = some r) (n : ¬ P r) : H' a = some u ∧ ρ' a = some r:=by
  obtain ⟨e1,r1⟩:=f a u e fun r' hr=>by rw [er] at hr; cases hr; exact n
  exact ⟨e1,r1.trans er⟩
theorem fr_un {a:Addr} {u:HO} (f:Fr P ρ H ρ' H') (e:H a = some u) (er : ρ a = none) : H' a = some u ∧ ρ' a = none:=by
  obtain ⟨e1,r1⟩:=f a u e fun r' hr=>by rw [er] at hr; cases hr
  exact ⟨e1,r1.trans er⟩
theorem yg.fr {kvs:List (Key × V)} {ks:List (Int × Kp)} (f:Fr P ρ H ρ' H') (hP : ∀ h i,¬ P (id,.kp h i)) (k:yg t H ρ id kvs ks) : yg t H' ρ' id kvs ks:=Paired.mapP k fun _ c ⟨e,k,A,dk,ek,q⟩=>⟨e,k,A,dk,ek,q.fr (hP c.1) f⟩
theorem RowsR.fr {rs:List Addr} {asked:List (List O)} (f:Fr P ρ H ρ' H') (hP : ∀ i,¬ P (id,.row i)) (k:RowsR H ρ id rs asked) : RowsR H' ρ' id rs asked:=⟨k.1,fun i r os e1 e2=>by
  obtain ⟨rr,xs,h,p⟩:=k.2 i r os e1 e2
  obtain ⟨h',r'⟩:=zi f h rr (hP i)
  exact ⟨r',xs,h',Paired.mapP p fun _ _=>xj.fr f⟩⟩
theorem BoardAt.fr {p dx S:Addr} {en:Int} {kvs:List (List Key × V)} {ps:Things} (f:Fr P ρ H ρ' H') (rp : ρ p = some (id,.bd)) (rS : ρ S = some (id,.sd)) (sg:SigR ρ id kvs) (n1 : ¬ P (id,.bd)) (n2 : ¬ P (id,.sd)) (n3 : ¬ P (id,.sg)) (B:BoardAt t H p dx S en kvs ps) : BoardAt t H' p dx S en kvs ps ∧ ρ' p = some (id,.bd) ∧ ρ' S = some (id,.sd) ∧ SigR ρ' id kvs:=by
  obtain ⟨e1,r1⟩:=zi f B.ob rp n1
  obtain ⟨e2,r2⟩:=zi f B.sg rS n2
  have hs : ∀ {kv:List Key × V} {q:List Key × List Int},kv ∈ kvs → HsAt H kv q → HsAt H' kv q ∧ ∃ c,kv.2 = .ref c ∧ ρ' c = some (id,.sg):=fun {kv q} m ⟨a,c,ec,hc⟩=>by
    obtain ⟨c',ec',rc⟩:=sg kv m
    rw [ec] at ec'
    cases ec'
    obtain ⟨h1,h2⟩:=zi f hc rc n3
    exact ⟨⟨a,c,ec,h1⟩,c,ec,h2⟩
  have all : ∀ {xs:List (List Key × V)} {ys:Things},(∀ x ∈ xs,x ∈ kvs) → Paired (HsAt H) xs ys → Paired (HsAt H') xs ys ∧ SigR ρ' id xs:=fun {xs ys} m q=>by
    induction q with
    | nil=>exact ⟨.nil,fun _ z=>by cases z⟩
    | cons h _ ih=>
      obtain ⟨i1,i2⟩:=ih fun x hx=>m x (List.mem_cons_of_mem _ hx)
      obtain ⟨j1,j2⟩:=hs (m _ List.mem_cons_self) h
      refine ⟨.cons j1 i1,fun x hx=>?_⟩
      rcases List.mem_cons.mp hx with rfl | hx
      · exact j2
      · exact i2 x hx
  obtain ⟨a1,a2⟩:=all (fun _ h=>h) B.hs
  exact ⟨⟨e1,e2,a1,B.un⟩,r1,r2,a2⟩
theorem jz.fr (hP : ∀ p,¬ P (id,p)) (f:Fr P ρ H ρ' H') (w1:jz t H ρ id W w) : jz t H' ρ' id W w:=by
  obtain ⟨rk,kvs,hk,ks⟩:=w1.kd
  obtain ⟨rb,rS,bvs,B,sg⟩:=w1.bd
  obtain ⟨ra,rs,ha,rows⟩:=w1.ak
  obtain ⟨rw_,xs,hw,pw⟩:=w1.wy
  obtain ⟨hk',rk'⟩:=zi f hk rk (hP _)
  obtain ⟨B',rb',rS',sg'⟩:=B.fr f rb rS sg (hP _) (hP _) (hP _)
  obtain ⟨ha',ra'⟩:=zi f ha ra (hP _)
  obtain ⟨hw',rw'⟩:=zi f hw rw_ (hP _)
  exact ⟨zi f w1.ob.1 w1.ob.2 (hP _),fr_un f w1.ch.1 w1.ch.2,⟨rk',kvs,hk',ks.fr f fun _ _=>hP _⟩,⟨rb',rS',bvs,B',sg'⟩,⟨ra',rs,ha',rows.fr f fun _=>hP _⟩,⟨rw',xs,hw',Paired.mapP pw fun _ _=>LetU.fr f⟩⟩
theorem jz.but (f:Fr P ρ H ρ' H') (w1:jz t H ρ id W w) (w':Wd) (n1 : ¬ P (id,.x)) (en:w'.n = w.n) (ec:w'.cheats = w.cheats)
    (kd:(ρ W.kd = some (id,.kd) → (∃ kvs,H W.kd = some (.dK kvs) ∧ yg t H ρ id kvs w.ks) → ρ' W.kd = some (id,.kd) ∧ ∃ kvs,H' W.kd = some (.dK kvs) ∧ yg t H' ρ' id kvs w'.ks))
    (bd:(ρ W.bd = some (id,.bd) → ρ W.S = some (id,.sd) → (∃ kvs,BoardAt t H W.bd W.db W.S w.en kvs (thP w.bd) ∧ SigR ρ id kvs) → ρ' W.bd = some (id,.bd) ∧ ρ' W.S = some (id,.sd) ∧ ∃ kvs,BoardAt t H' W.bd W.db W.S w'.en kvs (thP w'.bd) ∧ SigR ρ' id kvs))
    (ak:(ρ W.ak = some (id,.ak) → (∃ rs,H W.ak = some (.lst (rs.map V.ref)) ∧ RowsR H ρ id rs w.asked) → ρ' W.ak = some (id,.ak) ∧ ∃ rs,H' W.ak = some (.lst (rs.map V.ref)) ∧ RowsR H' ρ' id rs w'.asked))
    (wy:(ρ W.wy = some (id,.wy) → (∃ xs,H W.wy = some (.lst xs) ∧ Paired (LetU H ρ) xs w.way) → ρ' W.wy = some (id,.wy) ∧ ∃ xs,H' W.wy = some (.lst xs) ∧ Paired (LetU H' ρ') xs w'.way)) : jz t H' ρ' id W w':=by
  refine ⟨?_,?_,kd w1.kd.1 w1.kd.2,bd w1.bd.1 w1.bd.2.1 w1.bd.2.2,ak w1.ak.1 w1.ak.2,wy w1.wy.1 w1.wy.2⟩
  · rw [en]
    exact zi f w1.ob.1 w1.ob.2 n1
  · rw [ec]
    exact fr_un f w1.ch.1 w1.ch.2
theorem kd_keep (f:Fr P ρ H ρ' H') (n1 : ¬ P (id,.kd)) (n2 : ∀ h i,¬ P (id,.kp h i)) {kd:Addr} {ks:List (Int × Kp)} (r : ρ kd = some (id,.kd)) (h : ∃ kvs,H kd = some (.dK kvs) ∧ yg t H ρ id kvs ks) : ρ' kd = some (id,.kd) ∧ ∃ kvs,H' kd = some (.dK kvs) ∧ yg t H' ρ' id kvs ks:=by
  obtain ⟨kvs,hk,q⟩:=h
  obtain ⟨h',r'⟩:=zi f hk r n1
  exact ⟨r',kvs,h',q.fr f n2⟩
theorem bd_keep (f:Fr P ρ H ρ' H') (n1 : ¬ P (id,.bd)) (n2 : ¬ P (id,.sd)) (n3 : ¬ P (id,.sg)) {b db S:Addr} {en:Int} {is:IThings} (rb : ρ b = some (id,.bd)) (rS : ρ S = some (id,.sd)) (h : ∃ kvs,BoardAt t H b db S en kvs (thP is) ∧ SigR ρ id kvs) : ρ' b = some (id,.bd) ∧ ρ' S = some (id,.sd) ∧ ∃ kvs,BoardAt t H' b db S en kvs (thP is) ∧ SigR ρ' id kvs:=by
  obtain ⟨kvs,B,sg⟩:=h
  obtain ⟨B',rb',rS',sg'⟩:=B.fr f rb rS sg n1 n2 n3
  exact ⟨rb',rS',kvs,B',sg'⟩
theorem ak_keep (f:Fr P ρ H ρ' H') (n1 : ¬ P (id,.ak)) (n2 : ∀ i,¬ P (id,.row i)) {ak:Addr} {asked:List (List O)} (r : ρ ak = some (id,.ak)) (h : ∃ rs,H ak = some (.lst (rs.map V.ref)) ∧ RowsR H ρ id rs asked) : ρ' ak = some (id,.ak) ∧ ∃ rs,H' ak = some (.lst (rs.map V.ref)) ∧ RowsR H' ρ' id rs asked:=by
  obtain ⟨rs,hk,q⟩:=h
  obtain ⟨h',r'⟩:=zi f hk r n1
  exact ⟨r',rs,h',q.fr f n2⟩
theorem wy_keep (f:Fr P ρ H ρ' H') (n1 : ¬ P (id,.wy)) {wy:Addr} {way:List (Bool × Int × O)} (r : ρ wy = some (id,.wy)) (h : ∃ xs,H wy = some (.lst xs) ∧ Paired (LetU H ρ) xs way) : ρ' wy = some (id,.wy) ∧ ∃ xs,H' wy = some (.lst xs) ∧ Paired (LetU H' ρ') xs way:=by
  obtain ⟨rs,hk,q⟩:=h
  obtain ⟨h',r'⟩:=zi f hk r n1
  exact ⟨r',rs,h',Paired.mapP q fun _ _=>LetU.fr f⟩
end
theorem paired_cat {α β : Type} {F : α → β → Prop} : ∀ {xs xs':List α} {ys ys':List β},Paired F xs ys → Paired F xs' ys' → Paired F (xs ++ xs') (ys ++ ys')
  | _,_,_,_,.nil,h=>h
  | _,_,_,_,.cons a r,h=>.cons a (paired_cat r h)
theorem big {n:Nat} (h:n ≤ 1000000) : n < sizeLine:=Nat.lt_of_le_of_lt h (by decide)
theorem bigL {n:Nat} (h:n ≤ 1000000) : n ≤ sizeLine:=Nat.le_of_lt (big h)
abbrev Frm (H:Hp) (x:Addr) (G:Hp) : Prop:=∀ b u,H b = some u → b ≠ x → G b = some u
theorem Fr.ofFrm {P:Role → Prop} {ρ : Rho} {H G:Hp} {x:Addr} {r:Role} (h : ρ x = some r) (p:P r) (f:Frm H x G) : Fr P ρ H ρ G:=fun b u e n=>⟨f b u e fun z=>n r (z ▸ h) p,rfl⟩
theorem OkR.ofFrm {ρ : Rho} {H G:Hp} {x:Addr} {u:HO} (k:OkR ρ H) (f:Frm H x G) (hx:G x = some u) (nu:noTup u) : OkR ρ G:=fun b r h=>by
  by_cases z:b = x
  · subst z
    exact ⟨u,hx,nu⟩
  · obtain ⟨v,e,n⟩:=k b r h
    exact ⟨v,f b v e z,n⟩
def isP (id:Nat) (p:Part) : Role → Prop:=fun r=>r = (id,p)
theorem jo {id:Nat} {p q:Part} (h:q ≠ p) : ¬ isP id p (id,q):=fun z=>h (Prod.mk.inj z).2
theorem for_dK {a:Addr} {o:Obj} {kvs:List (Key × V)} {g:TG} {tb:TS} {D:Ends} {σ : St} {H:Hp} (Pv:Nat → St → Hp → Prop) (h0:Pv 0 σ H) (hl : ∀ i σ H,i ≤ kvs.length → Pv i σ H → H a = some (.frz o (.dK kvs)))
    (hs : ∀ i kv σ H,kvs[i]? = some kv → Pv i σ H → g (kV kv.1) σ H fun σ2 H2=>tb { D with nx:=Pv (i + 1),ct:=Pv (i + 1),bk:=D.nx } σ2 H2) (hd : ∀ σ H,Pv kvs.length σ H → D.nx σ H) :
    ∃ W:Nat → Nat → St → Hp → Prop,(∃ m,W 0 m σ H) ∧ ∀ i m σ H,W i m σ H →
      ((Itd a o kvs).stop i H ∧ D.nx σ H) ∨ ((Itd a o kvs).go i H ∧ ∃ N:St → Hp → Prop,(∀ σ' H',N σ' H' → ∃ m',m' < m ∧ W (i + 1) m' σ' H') ∧ ∀ x H',(Itd a o kvs).yld i H x H' → g x σ H' fun σ2 H2=>tb { D with nx:=N,ct:=N,bk:=D.nx } σ2 H2):=by
  refine ⟨fun i m σ H=>m = kvs.length - i ∧ i ≤ kvs.length ∧ Pv i σ H,⟨kvs.length,by simp,Nat.zero_le _,h0⟩,?_⟩
  rintro i m σ H ⟨rfl,hi,p⟩
  have q:=hl i σ H hi p
  by_cases hlt:i < kvs.length
  · refine .inr ⟨⟨hlt,q⟩,Pv (i + 1),fun σ' H' p'=>⟨kvs.length - (i + 1),by omega,rfl,hlt,p'⟩,fun x H' y=>?_⟩
    obtain ⟨e,kv,ek,ex⟩:=y
    subst e ex
    exact hs i kv σ _ ek p
  · have e:i = kvs.length:=by omega
    subst e
    exact .inl ⟨⟨Nat.le_refl _,q⟩,hd σ H p⟩
theorem ok_World_letters (T:Txt K mg t) : FnOk P w K mg base CX0 1 t.f_World_letters t.d_World_letters ["self"] (fun vs H Q _=>∃ ρ id W ω,vs = [.ref W.x] ∧ jz t H ρ id W ω ∧ ω.way.length ≤ 100000 ∧ ∀ r xs,H r = none → Paired (LetU H ρ) xs ω.way → Q (.ref r) (upd H r (.lst xs))):=by
  refine T.F_World_letters.ok sc_World_letters (fun vs H Q E h=>?_) (fun cdv A outer s H vs Q E hr h=>?_)
  · obtain ⟨ρ,id,W,ω,rfl,_⟩:=h
    rfl
  · obtain ⟨ρ,id,W,ω,rfl,O,l,k⟩:=h
    refine ⟨_,(@jf _ _ _ (j4 (pe_callTy ye rfl T.n_list boot_list (jd (qa (pv 0) rfl) jg)))),?_⟩
    obtain ⟨rw_,xs,hw,pw⟩:=O.wy
    exact ⟨_,rfl,W.x,_,W.dx,_,_,rfl,O.ob.1,T.jn,T.xa,wof_on_way _ _ _ _ _ _ _ _,W.wy,xs,rfl,.inl (SqL.of hw),fun r nr=>k r xs nr pw⟩
theorem ok_World_write_to_all (T:Txt K mg t) : FnOk P w K mg base CX0 1 t.f_World_write_to_all t.d_World_write_to_all ["self","word","order"] (fun vs H Q _=>∃ ρ id W ω b q o,vs = [.ref W.x,wordV b,.ref q] ∧ jz t H ρ id W ω ∧ OkR ρ H ∧ xj H ρ (.ref q) o ∧ ω.way.length ≤ 100000 ∧ ω.ks.length ≤ 16 ∧
    ∀ H',jz t H' ρ id W (ω.post b o) → Fr (isP id .wy) ρ H ρ H' → OkR ρ H' → Q .non H'):=by
  refine T.F_World_write_to_all.ok sc_World_write_to_all (fun vs H Q E h=>?_) (fun cdv A outer s H vs Q E hr h=>?_)
  · obtain ⟨ρ,id,W,ω,b,q,o,rfl,_⟩:=h
    rfl
  · obtain ⟨ρ,id,W,ω,b,q,o,rfl,O,kr,uq,l,l2,k⟩:=h
    refine ⟨_,(@jf _ _ _ (ps_thaw (ps_for PassesOwn.never rfl (pi_dK (qa (pv 0) rfl)) (qc (i:=3) sc_World_write_to_all.nd rfl (Or.inl rfl)) (@jf _ _ _ (zd (pe_bm PySem.F.plainAttrs_list PySem.F.slot_list_append PySem.F.type_list_append ya (qa (pv 0) rfl) (jd (@pe_tup _ _ _ _ _ (@pa_3 _ _ _ _ _ _ _ (pv 1) (pv 3) (pv 2) rfl rfl rfl)) jg))))))),?_⟩
    obtain ⟨rk,kvs,kd,ks⟩:=O.kd
    obtain ⟨rw_,way,wy,pw⟩:=O.wy
    have ob:=O.ob.1
    have kw:W.kd ≠ W.wy:=ner rk rw_ (by intro z; cases z)
    have kx:W.x ≠ W.kd:=ner O.ob.2 rk (by intro z; cases z)
    have wx:W.x ≠ W.wy:=ner O.ob.2 rw_ (by intro z; cases z)
    have lk:kvs.length = ω.ks.length:=Paired.length ks
    have lw:way.length = ω.way.length:=Paired.length pw
    refine ⟨_,rfl,W.x,_,W.dx,_,_,rfl,ob,T.jn,T.qz,wof_keepers _ _ _ _ _ _ _ _,W.kd,kvs,rfl,kd,fun oo=>for_dK (fun i σ H'=>∃ v ts,σ = [some (.ref W.x),some (wordV b),some (.ref q),v] ∧ ts.length = i ∧ H' W.wy = some (.lst (way ++ ts)) ∧ Frm (upd H W.kd (.frz oo (.dK kvs))) W.wy H' ∧ Paired (fun x (c:Int × Kp)=>∃ a,x = .ref a ∧ H a = none ∧ H' a = some (.tup [wordV b,.int c.1,.ref q])) ts (ω.ks.take i)) ?_ ?_ ?_ ?_⟩
    · exact ⟨none,[],rfl,rfl,(by rw [List.append_nil,je kw.symm]; exact wy),(fun b u e _=>e),.nil⟩
    · rintro i σ H' _ ⟨v,ts,_,_,_,f,_⟩
      exact f _ _ ja kw
    · rintro i kv σ H' ek ⟨v,ts,rfl,lt,hw,f,pt⟩
      obtain ⟨c,ec,e1,_⟩:=ql ks ek
      have ob':H' W.x = some (.ins t.jv W.dx (W.fs ω.n)):=f _ _ (by rw [je kx]; exact ob) wx
      have hi:=(List.getElem?_eq_some_iff.mp ek).1
      refine ⟨_,rfl,W.x,_,W.dx,_,_,rfl,ob',T.jn,T.xa,wof_on_way _ _ _ _ _ _ _ _,.inl ⟨rfl,_,SqL.of hw⟩,_,rfl,_,rfl,_,rfl,zs3,fun p np=>?_⟩
      have sp:=ji (o:=.tup [wordV b,kV kv.1,.ref q]) np
      have np0:H p = none:=by
        cases e:H p with
        | none=>rfl
        | some u=>
          exfalso
          by_cases z:p = W.wy
          · rw [z,hw] at np
            cases np
          · by_cases z2:p = W.kd
            · rw [z2,f _ _ ja kw] at np
              cases np
            · have:=f p u (by rw [je z2]; exact e) z
              rw [np] at this
              cases this
      have pw_:p ≠ W.wy:=fun z=>by
        rw [z,hw] at np
        cases np
      refine ⟨W.wy,_,_,rfl,rfl,sp _ _ hw,big (by rw [List.length_append,lt]; omega),_,ts ++ [.ref p],rfl,?_,?_,fun b' u e bw=>?_,?_⟩
      · rw [List.length_append,lt]; rfl
      · rw [ja,List.append_assoc]
      · rw [je bw]
        exact sp _ _ (f _ _ e bw)
      · rw [take_snoc ec]
        refine qx (Paired.mapP pt fun _ _ ⟨a,e,n,h'⟩=>⟨a,e,n,?_⟩) ⟨p,rfl,np0,?_⟩
        · rw [je (fun z=>by rw [z,hw] at h'; cases h')]
          exact sp _ _ h'
        · rw [je pw_,ja,e1]
          rfl
    · rintro σ H' ⟨v,ts,rfl,lt,hw,f,pt⟩
      have fin:Frm H W.wy (upd H' W.kd (.dK kvs)):=fun b' u e bw=>by
        by_cases z:b' = W.kd
        · subst z
          rw [kd] at e
          rw [ja,← e]
        · rw [je z]
          exact f _ _ (by rw [je z]; exact e) bw
      have hw':upd H' W.kd (.dK kvs) W.wy = some (.lst (way ++ ts)):=by rw [je kw.symm]; exact hw
      refine ⟨W.kd,oo,.dK kvs,f _ _ ja kw,fun o' u' z=>?_,True.intro,?_⟩
      · have z':H W.kd = some (.frz o' u'):=z
        rw [kd] at z'
        cases z'
      have fr:Fr (isP id .wy) ρ H ρ (upd H' W.kd (.dK kvs)):=Fr.ofFrm rw_ rfl fin
      rw [lk,List.take_length] at pt
      refine k _ (O.but fr (ω.post b o) (jo (by intro z; cases z)) rfl rfl (kd_keep fr (jo (by intro z; cases z)) (fun _ _=>jo (by intro z; cases z))) (bd_keep fr (jo (by intro z; cases z)) (jo (by intro z; cases z)) (jo (by intro z; cases z))) (ak_keep fr (jo (by intro z; cases z)) (fun _=>jo (by intro z; cases z))) (fun _ _=>⟨rw_,_,hw',?_⟩)) fr (kr.ofFrm fin hw' (by exact True.intro))
      have up:=uq.fr fr
      have q2:Paired (LetU (upd H' W.kd (.dK kvs)) ρ) ts (ω.ks.map fun c=>(b,c.1,o)):=by
        clear hw' lt hw
        have gen : ∀ {xs:List V} {cs:List (Int × Kp)},Paired (fun x (c:Int × Kp)=>∃ a,x = .ref a ∧ H a = none ∧ H' a = some (.tup [wordV b,.int c.1,.ref q])) xs cs → Paired (LetU (upd H' W.kd (.dK kvs)) ρ) xs (cs.map fun c=>(b,c.1,o)):=fun {xs cs} h=>by
          induction h with
          | nil=>exact .nil
          | cons a _ ih=>
            obtain ⟨p,e,n,hp⟩:=a
            refine .cons ⟨p,q,e,kr.none n,?_,up⟩ ih
            rw [je (fun z=>by rw [z,kd] at n; cases n)]
            exact hp
        exact gen pt
      exact paired_cat (Paired.mapP pw fun _ _=>LetU.fr fr) q2
def isVt (id:Nat) : Role → Prop:=fun r=>r = (id,.wy) ∨ r = (id,.sd) ∨ r = (id,.sg)
theorem vt_no {id:Nat} {p:Part} (h1:p ≠ .wy) (h2:p ≠ .sd) (h3:p ≠ .sg) : ¬ isVt id (id,p):=fun z=>by
  rcases z with z | z | z
  · exact h1 (Prod.mk.inj z).2
  · exact h2 (Prod.mk.inj z).2
  · exact h3 (Prod.mk.inj z).2
structure Sz (ω : Wd) (a b c:Nat) : Prop where
  bd : ω.bd.length ≤ a
  hs : ∀ x ∈ ω.bd,x.2.length ≤ b
  wy : ω.way.length ≤ c
  ks : ω.ks.length ≤ 16
theorem sign_len {k:List Int} {h:Int} : ∀ {is:IThings} {a b:Nat},is.length ≤ a → (∀ x ∈ is,x.2.length ≤ b) → (signI is k h).length ≤ a + 1 ∧ ∀ x ∈ signI is k h,x.2.length ≤ b + 1
  | [],a,b,_,_=>⟨by show 1 ≤ a + 1; omega,fun x hx=>by rw [List.mem_singleton.mp hx]; show 1 ≤ b + 1; omega⟩
  | p :: ps,a,b,h1,h2=>by
    unfold signI
    split
    · refine ⟨by rw [List.length_cons] at h1 ⊢; omega,fun x hx=>?_⟩
      rcases List.mem_cons.mp hx with rfl | hx
      · have:=h2 p List.mem_cons_self
        show (p.2 ++ [h]).length ≤ b + 1
        rw [List.length_append]
        show p.2.length + 1 ≤ b + 1
        omega
      · have:=h2 x (List.mem_cons_of_mem _ hx)
        omega
    · rw [List.length_cons] at h1
      obtain ⟨i1,i2⟩:=sign_len (k:=k) (h:=h) (is:=ps) (a:=a - 1) (b:=b) (by omega) (fun x hx=>h2 x (List.mem_cons_of_mem _ hx))
      refine ⟨by rw [List.length_cons]; omega,fun x hx=>?_⟩
      rcases List.mem_cons.mp hx with rfl | hx
      · have:=h2 x List.mem_cons_self
        omega
      · exact i2 x hx
theorem Sz.put {ω : Wd} {a b c:Nat} (z:Sz ω a b c) (h:Int) (o:O) : Sz (ω.put h o).1 (a + 1) (b + 1) c:=by
  unfold Wd.put
  split
  · exact ⟨Nat.le_succ_of_le z.bd,fun x hx=>Nat.le_succ_of_le (z.hs x hx),z.wy,z.ks⟩
  · obtain ⟨i1,i2⟩:=sign_len (k:=ordI o) (h:=h) z.bd z.hs
    exact ⟨i1,i2,z.wy,z.ks⟩
theorem Sz.vote {ω : Wd} {a b c:Nat} (z:Sz ω a b c) (h:Int) (o:O) : Sz (ω.vote h o) (a + 1) (b + 1) (c + 16):=by
  have p:=z.put h o
  unfold Wd.vote
  split
  · refine ⟨p.bd,p.hs,?_,p.ks⟩
    show ((ω.put h o).1.way ++ _).length ≤ c + 16
    rw [List.length_append,List.length_map]
    have:=p.wy
    have:=p.ks
    omega
  · exact ⟨p.bd,p.hs,by have:=p.wy; omega,p.ks⟩
theorem Sz.mono {ω : Wd} {a b c a' b' c':Nat} (z:Sz ω a b c) (h1:a ≤ a') (h2:b ≤ b') (h3:c ≤ c') : Sz ω a' b' c':=⟨Nat.le_trans z.bd h1,fun x hx=>Nat.le_trans (z.hs x hx) h2,Nat.le_trans z.wy h3,z.ks⟩
theorem votes_snoc (ω : Wd) (h:Int) {os:List O} {i:Nat} {o:O} (e:os[i]? = some o) : ω.zb h (os.take (i + 1)) = (ω.zb h (os.take i)).vote h o:=by
  unfold Wd.zb
  rw [take_snoc e,List.foldl_append]
  rfl
theorem Sz.zb {ω : Wd} {a b c:Nat} (z:Sz ω a b c) (h:Int) {os:List O} : ∀ i,i ≤ os.length → Sz (ω.zb h (os.take i)) (a + i) (b + i) (c + 16 * i)
  | 0,_=>z
  | i + 1,hi=>by
    rw [votes_snoc ω h (List.getElem?_eq_getElem (show i < os.length by omega))]
    exact ((Sz.zb z h i (by omega)).vote h _).mono (by omega) (by omega) (by omega)
theorem houses_mem {k:List Int} : ∀ {is:IThings},housesI is k = [] ∨ ∃ x ∈ is,housesI is k = x.2
  | []=>.inl rfl
  | p :: ps=>by
    unfold housesI
    split
    · exact .inr ⟨p,List.mem_cons_self,rfl⟩
    · rcases houses_mem (k:=k) (is:=ps) with h | ⟨x,hx,e⟩
      · exact .inl h
      · exact .inr ⟨x,List.mem_cons_of_mem _ hx,e⟩
theorem Sz.hl {ω : Wd} {a b c:Nat} (z:Sz ω a b c) (k:List Int) : (housesI ω.bd k).length ≤ b:=by
  rcases houses_mem (k:=k) (is:=ω.bd) with h | ⟨x,hx,e⟩
  · rw [h]
    exact Nat.zero_le _
  · rw [e]
    exact z.hs x hx
open Classical in
noncomputable def voteR (ρ : Rho) (id:Nat) (kvs kvs':List (List Key × V)) : Rho:=fun a=>if ∃ kv ∈ kvs',kv.2 = .ref a then some (id,.sg) else if ∃ kv ∈ kvs,kv.2 = .ref a then none else ρ a
theorem ok_World_put_votes (T:Txt K mg t) : FnOk P w K mg base CX0 2 t.f_World_put_votes t.d_World_put_votes ["self","house","orders"] (fun vs H Q _=>∃ ρ id W ω h r xs os a b c,vs = [.ref W.x,.int h,.ref r] ∧ jz t H ρ id W ω ∧ OkR ρ H ∧ H r = some (.lst xs) ∧ (∀ ro,ρ r = some ro → ¬ isVt id ro) ∧ Paired (xj H ρ) xs os ∧ Sz ω a b c ∧ a + os.length ≤ 1000 ∧ b + os.length ≤ 1000 ∧ c + 16 * os.length ≤ 100000 ∧
    ∀ ρ' H',jz t H' ρ' id W (ω.zb h os) → Fr (isVt id) ρ H ρ' H' → OkR ρ' H' → Q .non H'):=by
  refine T.F_World_put_votes.ok sc_World_put_votes (fun vs H Q E h=>?_) (fun cdv A outer s H vs Q E hr h=>?_)
  · obtain ⟨ρ,id,W,ω,h,r,xs,os,a,b,c,rfl,_⟩:=h
    rfl
  · obtain ⟨ρ,id,W,ω,h,r,xs,os,a,b,c,rfl,O,kr,hx,nr,px,sz,la,lb,lc,k⟩:=h
    refine ⟨_,(@jf _ _ _ (ps_for PassesOwn.never rfl (@pi_list _ _ _ _ (pv 2)) (qc (i:=3) sc_World_put_votes.nd rfl (Or.inl rfl)) (@jf _ _ _ (yc (xu (qq (qa (pv 0) rfl) T.cl_Board T.mt_Board_put (ok_Board_put T) (hr.mono (by decide)) T.b_Board_put .nil jx (@pa_2 _ _ _ _ _ (pv 1) (pv 3) rfl rfl))) (@jf _ _ _ (zd (qq (pv 0) T.jn T.mt_World_write_to_all (ok_World_write_to_all T) (hr.mono (by decide)) T.b_World_write_to_all .nil jx (@pa_2 _ _ _ _ _ (zq (v:=.str "paper") rfl T.c_PAPER_LETTER.choose_spec ⟨_,rfl⟩) (pv 3) rfl rfl)))) qe)))),?_⟩
    have lx:xs.length = os.length:=Paired.length px
    refine ⟨_,rfl,r,rfl,⟨_,SqL.of hx⟩,for_list (K:=K) (a:=r) (xs:=xs) (fun i σ H'=>∃ v ρ',σ = [some (.ref W.x),some (.int h),some (.ref r),v] ∧ jz t H' ρ' id W (ω.zb h (os.take i)) ∧ Fr (isVt id) ρ H ρ' H' ∧ OkR ρ' H') ⟨none,ρ,rfl,O,Fr.refl,kr⟩ (fun i σ H' _ ⟨_,ρ',_,_,f,_⟩=>SqL.of (f _ _ hx nr).1) ?_ ?_⟩
    · rintro i x σ H1 ex ⟨v,ρ1,rfl,O1,f1,kr1⟩
      obtain ⟨o,eo,uo⟩:=ql px ex
      have uo1:=uo.fr f1
      obtain ⟨q,rfl,nq,hq⟩:=uo1
      have hi:=(List.getElem?_eq_some_iff.mp eo).1
      have z1:=sz.zb h (os:=os) i (by omega)
      rw [votes_snoc ω h eo]
      generalize ω.zb h (os.take i) = ω1 at O1 z1 ⊢
      obtain ⟨rb,rS,kvs,B,sg⟩:=O1.bd
      have ek:qu (thP ω1.bd) (ordK o) = housesI ω1.bd (ordI o):=houses_thP (ordI o) ω1.bd
      have lk:kvs.length ≤ 1000:=by
        rw [Paired.length B.hs,thP,List.length_map]
        have:=z1.bd
        omega
      have lh:=z1.hl (ordI o)
      refine ⟨_,rfl,W.x,_,W.dx,_,_,rfl,O1.ob.1,T.jn,T.na_World_board,wof_board _ _ _ _ _ _ _ _,W.bd,W.db,_,rfl,B.ob,brd_no _ _ (by decide +kernel) (by decide +kernel),_,rfl,_,rfl,W.bd,W.db,W.S,ω1.en,kvs,thP ω1.bd,q,ordK o,h,rfl,B,hq,lk,by rw [ek]; omega,fun hm H2 s2=>?_,fun hm kvs' H2 B2 k2 nn2=>?_⟩
      · rw [ek] at hm
        refine ⟨_,rfl,iteF ⟨_,ρ1,rfl,?_,f1.trans (Fr.same s2),kr1.same s2⟩⟩
        have e : ω1.vote h o = ω1:=by
          unfold Wd.vote Wd.put
          rw [if_pos hm]
          rfl
        rw [e]
        exact O1.fr (P:=fun _=>False) (fun _ z=>z) (Fr.same s2)
      · rw [ek] at hm
        rw [ek]
        have inS : ∀ {a:Addr},(∃ kv ∈ kvs,kv.2 = .ref a) → ρ1 a = some (id,.sg):=fun {a} ⟨kv,m,e⟩=>by
          obtain ⟨c,ec,rc⟩:=sg kv m
          rw [e] at ec
          cases ec
          exact rc
        have f2:Fr (isVt id) ρ1 H1 (voteR ρ1 id kvs kvs') H2:=fun a u e n=>by
          have n1 : ¬ ∃ kv ∈ kvs,kv.2 = .ref a:=fun z=>n _ (inS z) (.inr (.inr rfl))
          have n2:NotIn kvs a:=fun kv m e=>n1 ⟨kv,m,e⟩
          have n3 : ¬ ∃ kv ∈ kvs',kv.2 = .ref a:=fun ⟨kv,m,e'⟩=>nn2 a u e n2 kv m e'
          refine ⟨k2 a u e (fun z=>n _ (z ▸ rS) (.inr (.inl rfl))) n2,?_⟩
          unfold voteR
          rw [if_neg n3,if_neg n1]
        have kr2:OkR (voteR ρ1 id kvs kvs') H2:=fun a ro e=>by
          unfold voteR at e
          split at e
          · rename_i hm'
            obtain ⟨kv,m,ev⟩:=hm'
            obtain ⟨j,hj,ej⟩:=List.mem_iff_getElem.mp m
            obtain ⟨pp,_,_,c,ec,hc⟩:=ql B2.hs (by rw [List.getElem?_eq_getElem hj,ej])
            rw [ev] at ec
            cases ec
            exact ⟨_,hc,True.intro⟩
          · split at e
            · cases e
            · rename_i n1
              obtain ⟨u,hu,nu⟩:=kr1 a ro e
              by_cases z:a = W.S
              · subst z
                exact ⟨_,B2.sg,True.intro⟩
              · exact ⟨u,k2 a u hu z (fun kv m e=>n1 ⟨kv,m,e⟩),nu⟩
        have O2:jz t H2 (voteR ρ1 id kvs kvs') id W { ω1 with bd:=signI ω1.bd (ordI o) h }:=by
          refine O1.but f2 _ (vt_no (by intro z; cases z) (by intro z; cases z) (by intro z; cases z)) rfl rfl (kd_keep f2 (vt_no (by intro z; cases z) (by intro z; cases z) (by intro z; cases z)) fun _ _=>vt_no (by intro z; cases z) (by intro z; cases z) (by intro z; cases z)) (fun rb' rS' _=>?_) (ak_keep f2 (vt_no (by intro z; cases z) (by intro z; cases z) (by intro z; cases z)) fun _=>vt_no (by intro z; cases z) (by intro z; cases z) (by intro z; cases z)) (fun rw' hw'=>?_)
          · have e:=sign_thP (ordI o) h ω1.bd
            rw [show keyI (ordI o) = ordK o from rfl] at e
            rw [e] at B2
            have nS : ∀ {a:Addr} {r:Role} {u:HO},ρ1 a = some r → H1 a = some u → r ≠ (id,.sg) → voteR ρ1 id kvs kvs' a = some r:=fun {a r u} er eu n=>by
              have n1 : ¬ ∃ kv ∈ kvs,kv.2 = .ref a:=fun z=>n (Option.some.inj (er.symm.trans (inS z)))
              have n3 : ¬ ∃ kv ∈ kvs',kv.2 = .ref a:=fun ⟨kv,m,e'⟩=>nn2 a u eu (fun kv m e=>n1 ⟨kv,m,e⟩) kv m e'
              unfold voteR
              rw [if_neg n3,if_neg n1]
              exact er
            refine ⟨nS rb B.ob (by intro z; cases z),nS rS B.sg (by intro z; cases z),kvs',B2,fun kv m=>?_⟩
            obtain ⟨j,hj,ej⟩:=List.mem_iff_getElem.mp m
            obtain ⟨pp,_,_,c,ec,hc⟩:=ql B2.hs (by rw [List.getElem?_eq_getElem hj,ej])
            refine ⟨c,ec,?_⟩
            unfold voteR
            rw [if_pos ⟨kv,m,ec⟩]
          · obtain ⟨ws,h1,p1⟩:=hw'
            have n1 : ¬ ∃ kv ∈ kvs,kv.2 = .ref W.wy:=fun z=>by
              have:=inS z
              rw [rw'] at this
              cases this
            have n2:NotIn kvs W.wy:=fun kv m e=>n1 ⟨kv,m,e⟩
            have n3 : ¬ ∃ kv ∈ kvs',kv.2 = .ref W.wy:=fun ⟨kv,m,e'⟩=>nn2 _ _ h1 n2 kv m e'
            refine ⟨?_,ws,k2 _ _ h1 (ner rw' rS (by intro z; cases z)) n2,Paired.mapP p1 fun _ _=>LetU.fr f2⟩
            unfold voteR
            rw [if_neg n3,if_neg n1]
            exact rw'
        have ev : ω1.put h o = ({ ω1 with bd:=signI ω1.bd (ordI o) h },decide (((housesI ω1.bd (ordI o)).length:Int) + 1 = ω1.en)):=by
          unfold Wd.put
          rw [if_neg hm]
        refine ⟨_,rfl,ite2 (fun z=>?_) (fun z=>?_)⟩
        · have zp:=z1.put h o
          rw [ev] at zp
          have hq2:xj H2 (voteR ρ1 id kvs kvs') (.ref q) o:=xj.fr f2 ⟨q,rfl,nq,hq⟩
          refine ⟨_,rfl,W.x,W.dx,_,rfl,O2.ob.1,wof_no _ _ _ _ _ _ _ _ (by decide +kernel),_,rfl,_,id,W,_,false,q,o,rfl,O2,kr2,hq2,by show ω1.way.length ≤ 100000; have:=z1.wy; omega,zp.ks,fun H3 O3 f3 kr3=>⟨_,_,rfl,?_,(f1.trans f2).trans (f3.mono fun r hr=>.inl hr),kr3⟩⟩
          have e : ω1.vote h o = Wd.post { ω1 with bd:=signI ω1.bd (ordI o) h } false o:=by
            unfold Wd.vote
            rw [ev,if_pos z]
          rw [e]
          exact O3
        · refine ⟨_,_,rfl,?_,f1.trans f2,kr2⟩
          have e : ω1.vote h o = { ω1 with bd:=signI ω1.bd (ordI o) h }:=by
            unfold Wd.vote
            rw [ev,if_neg z]
          rw [e]
          exact O2
    · rintro σ H1 ⟨v,ρ1,rfl,O1,f1,kr1⟩
      rw [lx,List.take_length] at O1
      exact k ρ1 H1 O1 f1 kr1
theorem setK_len (ks:List (Int × Kp)) (h:Int) (κ : Kp) : (setK ks h κ).length = ks.length:=List.length_map ..
theorem keeps_val {t:Ad} {H:Hp} {ρ : Rho} {id:Nat} {h:Int} {κ : Kp} : ∀ {kvs:List (Key × V)} {ks:List (Int × Kp)},yg t H ρ id kvs ks → (ks.find? fun c=>decide (c.1 = h)).map (·.2) = some κ → ∃ k A dk,valV kvs (.inl h) = some (.ref k) ∧ xi t H ρ id h k A dk κ
  | _,_,.nil,e=>by cases e
  | kv :: kvs,c :: ks,.cons ⟨e1,k,A,dk,e2,R⟩ r,e=>by
    by_cases z:c.1 = h
    · rw [List.find?_cons,decide_eq_true z] at e
      obtain rfl:c.2 = κ:=Option.some.inj e
      subst z
      exact ⟨k,A,dk,by rw [valV_pos (by rw [e1]),e2],R⟩
    · rw [List.find?_cons,decide_eq_false z] at e
      obtain ⟨k',A',dk',v,R'⟩:=keeps_val r e
      exact ⟨k',A',dk',by rw [valV_neg (fun y=>z (Sum.inl.inj (e1.symm.trans y)))]; exact v,R'⟩
theorem keeps_set {t:Ad} {H H':Hp} {ρ ρ':Rho} {id:Nat} {h:Int} {κ':Kp} {k:Addr} {A':Nat → Addr} {dk:Addr} (f:Fr (isK id h) ρ H ρ' H') (R':xi t H' ρ' id h k A' dk κ') : ∀ {kvs:List (Key × V)} {ks:List (Int × Kp)},(ks.map (·.1)).Nodup → valV kvs (.inl h) = some (.ref k) → yg t H ρ id kvs ks → yg t H' ρ' id kvs (setK ks h κ')
  | _,_,_,_,.nil=>.nil
  | kv :: kvs,c :: ks,nd,ev,.cons ⟨e1,k0,A,dk0,e2,R⟩ r=>by
    rw [List.map_cons,List.nodup_cons] at nd
    show Paired _ (kv :: kvs) ((if c.1 = h then (h,κ') else c) :: setK ks h κ')
    have oth : ∀ {kvs:List (Key × V)} {ks:List (Int × Kp)},h ∉ ks.map (·.1) → yg t H ρ id kvs ks → yg t H' ρ' id kvs (setK ks h κ'):=fun {kvs ks} nh q=>by
      induction q with
      | nil=>exact .nil
      | cons a _ ih=>
        rename_i b _ _ _
        rw [List.map_cons,List.mem_cons] at nh
        obtain ⟨x1,x2,x3,x4,x5,x6⟩:=a
        have nb : ¬ b.1 = h:=fun z=>nh (.inl z.symm)
        show Paired _ (_ :: _) ((if b.1 = h then (h,κ') else b) :: setK _ h κ')
        rw [if_neg nb]
        exact .cons ⟨x1,x2,x3,x4,x5,x6.fr (fun i ⟨j,e⟩=>nb (by cases e; rfl)) f⟩ (ih fun z=>nh (.inr z))
    by_cases z:c.1 = h
    · subst z
      rw [if_pos rfl]
      rw [valV_pos (by rw [e1])] at ev
      exact .cons ⟨e1,k,A',dk,Option.some.inj ev,R'⟩ (oth nd.1 r)
    · rw [if_neg z]
      refine .cons ⟨e1,k0,A,dk0,e2,R.fr (fun i ⟨j,e⟩=>z (by cases e; rfl)) f⟩ (keeps_set f R' nd.2 ?_ r)
      rw [valV_neg (fun y=>z (Sum.inl.inj (e1.symm.trans y)))] at ev
      exact ev
theorem jz.keeper {t:Ad} {H H':Hp} {ρ ρ':Rho} {id:Nat} {W:WA} {ω : Wd} {h:Int} {κ':Kp} {k:Addr} {A':Nat → Addr} {dk:Addr} (f:Fr (isK id h) ρ H ρ' H') (O:jz t H ρ id W ω) (nd:(ω.ks.map (·.1)).Nodup) (ek : ∀ kvs,H W.kd = some (.dK kvs) → valV kvs (.inl h) = some (.ref k)) (R':xi t H' ρ' id h k A' dk κ') : jz t H' ρ' id W { ω with ks:=setK ω.ks h κ' }:=by
  have no : ∀ {p:Part},(∀ i,p ≠ .kp h i) → ¬ isK id h (id,p):=fun hp ⟨i,e⟩=>hp i (Prod.mk.inj e).2
  refine O.but f _ (no fun _ z=>by cases z) rfl rfl (fun rk hk=>?_) (bd_keep f (no fun _ z=>by cases z) (no fun _ z=>by cases z) (no fun _ z=>by cases z)) (ak_keep f (no fun _ z=>by cases z) fun _=>no fun _ z=>by cases z) (wy_keep f (no fun _ z=>by cases z))
  obtain ⟨kvs,h1,q⟩:=hk
  obtain ⟨h2,r2⟩:=zi f h1 rk (no fun _ z=>by cases z)
  exact ⟨r2,kvs,h2,keeps_set f R' nd (ek kvs h1) q⟩
theorem ok_World_keeper_of (T:Txt K mg t) : FnOk P w K mg base CX0 2 t.f_World_keeper_of t.d_World_keeper_of ["self","house"] (fun vs H Q _=>∃ ρ id W ω h κ,vs = [.ref W.x,.int h] ∧ jz t H ρ id W ω ∧ ω.keep h = some κ ∧ ∀ k A dk,xi t H ρ id h k A dk κ → Q (.ref k) H):=by
  refine T.F_World_keeper_of.ok sc_World_keeper_of (fun vs H Q E h=>?_) (fun cdv A outer s H vs Q E hr h=>?_)
  · obtain ⟨ρ,id,W,ω,h,κ,rfl,_⟩:=h
    rfl
  · obtain ⟨ρ,id,W,ω,h,κ,rfl,O,e,g⟩:=h
    refine ⟨_,(@jc _ _ _ _ _ (yc (PW.pt (pw_or (pt_not (xu (j5 (ok_is_whole T) (hr.mono (by decide)) rfl T.m_is_whole T.F_is_whole.kp T.b_is_whole .nil jx (jd (pv 1) jg)))) (pw_or1 (pt_cmp (pc_dnotin (hu_of hr) (pv 1) (qa (pv 0) rfl)))))) zu qe)
      (@jf _ _ _ (j4 (pe_dget (hu_of hr) (qa (pv 0) rfl) (pv 1) (fun _ _=>rfl))))),?_⟩
    obtain ⟨rk,kvs,hk,ks⟩:=O.kd
    obtain ⟨k,A',dk,ev,R⟩:=keeps_val ks e
    refine ⟨_,rfl,h,rfl,_,rfl,iteF ?_⟩
    refine ⟨_,rfl,_,rfl,W.x,_,W.dx,_,_,rfl,O.ob.1,T.jn,T.qz,wof_keepers _ _ _ _ _ _ _ _,W.kd,some (.ref k),rfl,.inl ⟨kvs,.inl h,.inl hk,rfl,ev.symm⟩,_,rfl,iteF ?_⟩
    exact ⟨_,rfl,W.x,_,W.dx,_,_,rfl,O.ob.1,T.jn,T.qz,wof_keepers _ _ _ _ _ _ _ _,_,rfl,W.kd,.ref k,rfl,.inl ⟨kvs,.inl h,.inl hk,rfl,ev.symm⟩,g k A' dk R⟩
theorem ok_World_sums (T:Txt K mg t) : FnOk P w K mg base CX0 3 t.f_World_sums t.d_World_sums ["self","house"] (fun vs H Q _=>∃ ρ id W ω h κ,vs = [.ref W.x,.int h] ∧ jz t H ρ id W ω ∧ ω.keep h = some κ ∧ κ.held.length ≤ 1000 ∧ ∀ r,H r = none → Q (.ref r) (upd H r (.lst (κ.held.map V.int)))):=by
  refine T.F_World_sums.ok sc_World_sums (fun vs H Q E h=>?_) (fun cdv A outer s H vs Q E hr h=>?_)
  · obtain ⟨ρ,id,W,ω,h,κ,rfl,_⟩:=h
    rfl
  · obtain ⟨ρ,id,W,ω,h,κ,rfl,O,e,l,g⟩:=h
    refine ⟨_,(@jf _ _ _ (j4 (pe_callTy ye rfl T.n_list boot_list (jd (qa (qq (pv 0) T.jn T.xl (ok_World_keeper_of T) (hr.mono (by decide)) T.x8 .nil jx (jd (pv 1) jg)) rfl) jg)))),?_⟩
    exact ⟨_,rfl,W.x,W.dx,_,rfl,O.ob.1,wof_no _ _ _ _ _ _ _ _ (by decide +kernel),_,rfl,ρ,id,W,ω,h,κ,rfl,O,e,fun k A' dk R=>⟨k,_,dk,_,_,rfl,R.ob,T.jm,T.xq,(zz A').1,A' 1,_,rfl,.inl (SqL.of R.he),g⟩⟩
theorem ok_World_settled (T:Txt K mg t) : FnOk P w K mg base CX0 3 t.f_World_settled t.d_World_settled ["self","house"] (fun vs H Q _=>∃ ρ id W ω h κ,vs = [.ref W.x,.int h] ∧ jz t H ρ id W ω ∧ ω.keep h = some κ ∧ κ.done.length ≤ 1000 ∧ ∀ r xs,H r = none → Paired (xj H ρ) xs κ.done → Q (.ref r) (upd H r (.lst xs))):=by
  refine T.F_World_settled.ok sc_World_settled (fun vs H Q E h=>?_) (fun cdv A outer s H vs Q E hr h=>?_)
  · obtain ⟨ρ,id,W,ω,h,κ,rfl,_⟩:=h
    rfl
  · obtain ⟨ρ,id,W,ω,h,κ,rfl,O,e,l,g⟩:=h
    refine ⟨_,(@jf _ _ _ (j4 (pe_callTy ye rfl T.n_list boot_list (jd (qa (qq (pv 0) T.jn T.xl (ok_World_keeper_of T) (hr.mono (by decide)) T.x8 .nil jx (jd (pv 1) jg)) rfl) jg)))),?_⟩
    refine ⟨_,rfl,W.x,W.dx,_,rfl,O.ob.1,wof_no _ _ _ _ _ _ _ _ (by decide +kernel),_,rfl,ρ,id,W,ω,h,κ,rfl,O,e,fun k A' dk R=>?_⟩
    obtain ⟨xs,hx,px⟩:=R.dn
    exact ⟨k,_,dk,_,_,rfl,R.ob,T.jm,T.na_Keeper_done,(zz A').2.2.1,A' 3,xs,rfl,.inl (SqL.of hx),fun r nr=>g r xs nr px⟩
theorem ok_World_check_purse (T:Txt K mg t) : FnOk P w K mg base CX0 3 t.f_World_check_purse t.d_World_check_purse ["self","purse"] (fun vs H Q _=>∃ ρ id W ω p,vs = [.ref W.x,.int p] ∧ jz t H ρ id W ω ∧ 0 ≤ p ∧ p < (ω.n:Int) ∧ Q .non H):=by
  refine T.F_World_check_purse.ok sc_World_check_purse (fun vs H Q E h=>?_) (fun cdv A outer s H vs Q E hr h=>?_)
  · obtain ⟨ρ,id,W,ω,p,rfl,_⟩:=h
    rfl
  · obtain ⟨ρ,id,W,ω,p,rfl,O,p0,p1,g⟩:=h
    refine ⟨_,(@jf _ _ _ (yc (pt_not (xu (j5 (qt T) (hr.mono (by decide)) rfl T.qy T.qo.kp T.za .nil jx (@pa_3 _ _ _ _ _ _ _ (pv 1) jj (pe_op op_sub (qa (pv 0) rfl) jj) rfl rfl rfl)))) zu qe)),?_⟩
    refine ⟨_,rfl,_,rfl,W.x,_,W.dx,_,_,rfl,O.ob.1,T.jn,T.na_World_purses,wof_purses _ _ _ _ _ _ _ _,_,_,rfl,rfl,p,0,(ω.n:Int) - 1,rfl,_,rfl,?_⟩
    rw [decide_eq_true (show 0 ≤ p ∧ p ≤ (ω.n:Int) - 1 from ⟨p0,by omega⟩)]
    exact iteF g
theorem ok_World_check_asker (T:Txt K mg t) : FnOk P w K mg base CX0 4 t.f_World_check_asker t.d_World_check_asker ["self","purse","goal"] (fun vs H Q _=>∃ ρ id W ω p q,vs = [.ref W.x,.int p,.int q] ∧ jz t H ρ id W ω ∧ (0 ≤ p ∧ p < (ω.n:Int)) ∧ (0 ≤ q ∧ q < (ω.n:Int)) ∧ p ∉ ω.cheats ∧ q ≠ p ∧ Q .non H):=by
  refine T.F_World_check_asker.ok sc_World_check_asker (fun vs H Q E h=>?_) (fun cdv A outer s H vs Q E hr h=>?_)
  · obtain ⟨ρ,id,W,ω,p,q,rfl,_⟩:=h
    rfl
  · obtain ⟨ρ,id,W,ω,p,q,rfl,O,hp,hq,nc,nq,g⟩:=h
    refine ⟨_,(@jc _ _ _ _ _ (zd (qq (pv 0) T.jn T.mt_World_check_purse (ok_World_check_purse T) (hr.mono (by decide)) T.b_World_check_purse .nil jx (jd (pv 1) jg)))
      (@jc _ _ _ _ _ (zd (qq (pv 0) T.jn T.mt_World_check_purse (ok_World_check_purse T) (hr.mono (by decide)) T.b_World_check_purse .nil jx (jd (pv 2) jg)))
      (@jf _ _ _ (yc (PW.pt (pw_or (qr op_in_seq (pv 1) (qa (pv 0) rfl) (by with_unfolding_all rfl)) (pw_or1 (qr op_eq (pv 2) (pv 1) (zv _))))) zu qe)))),?_⟩
    refine ⟨_,rfl,W.x,W.dx,_,rfl,O.ob.1,wof_no _ _ _ _ _ _ _ _ (by decide +kernel),_,rfl,ρ,id,W,ω,p,rfl,O,hp.1,hp.2,?_⟩
    refine ⟨_,rfl,W.x,W.dx,_,rfl,O.ob.1,wof_no _ _ _ _ _ _ _ _ (by decide +kernel),_,rfl,ρ,id,W,ω,q,rfl,O,hq.1,hq.2,?_⟩
    refine ⟨_,rfl,_,rfl,W.x,_,W.dx,_,_,rfl,O.ob.1,T.jn,T.na_World_cheating,wof_cheating _ _ _ _ _ _ _ _,W.ch,_,rfl,.inl (SqL.of O.ch.1),rfl,flat_ints _,_,rfl,?_⟩
    refine ite2 (fun z=>?_) (fun z=>?_)
    · exfalso
      rw [if_neg (by decide),inV_ints] at z
      exact nc (of_decide_eq_true z)
    · refine ⟨_,rfl,_,rfl,rfl,_,rfl,ite2 (fun y=>?_) (fun _=>g)⟩
      exact absurd (V.int.inj (of_decide_eq_true y)) nq
theorem ok_World_check_order (T:Txt K mg t) : FnOk P w K mg base CX0 5 t.f_World_check_order t.d_World_check_order ["self","order"] (fun vs H Q _=>∃ ρ id W ω q o,vs = [.ref W.x,.ref q] ∧ jz t H ρ id W ω ∧ H q = some (.tup (ordV o)) ∧ isOrd ω.n o = true ∧ Q .non H):=by
  refine T.F_World_check_order.ok sc_World_check_order (fun vs H Q E h=>?_) (fun cdv A outer s H vs Q E hr h=>?_)
  · obtain ⟨ρ,id,W,ω,q,o,rfl,_⟩:=h
    rfl
  · obtain ⟨ρ,id,W,ω,q,o,rfl,O,hq,ho,g⟩:=h
    refine ⟨_,(@jf _ _ _ (yc (pt_not (xu (pe_callK (ok_is_order T) (hr.mono (by decide)) rfl T.m_is_order T.F_is_order.kp T.bk0_is_order jx (jd (pv 1) jg) (pk_cons (qa (pv 0) rfl) pk_nil)))) zu qe)),?_⟩
    refine ⟨_,rfl,_,rfl,W.x,_,W.dx,_,_,rfl,O.ob.1,T.jn,T.na_World_purses,wof_purses _ _ _ _ _ _ _ _,q,o,(ω.n:Int),rfl,hq,_,rfl,?_⟩
    rw [ho]
    exact iteF g
theorem ok_World_honest (T:Txt K mg t) : FnOk P w K mg base CX0 1 t.f_World_honest t.d_World_honest ["self"] (fun vs H Q _=>∃ ρ id W ω,vs = [.ref W.x] ∧ jz t H ρ id W ω ∧ ∀ r,H r = none → Q (.ref r) (upd H r (.lst ((ω.ks.map (·.1)).map V.int)))):=by
  refine T.F_World_honest.ok sc_World_honest (fun vs H Q E h=>?_) (fun cdv A outer s H vs Q E hr h=>?_)
  · obtain ⟨ρ,id,W,ω,rfl,_⟩:=h
    rfl
  · obtain ⟨ρ,id,W,ω,rfl,O,g⟩:=h
    refine ⟨_,(@jf _ _ _ (j4 (pe_callTy (call_listD rfl) rfl T.n_list boot_list (jd (qa (pv 0) rfl) jg)))),?_⟩
    obtain ⟨rk,kvs,hk,ks⟩:=O.kd
    have e:(kvs.map fun kv=>kV kv.1) = (ω.ks.map (·.1)).map V.int:=by
      clear hk
      have gen : ∀ {kvs:List (Key × V)} {ks:List (Int × Kp)},yg t H ρ id kvs ks → (kvs.map fun kv=>kV kv.1) = (ks.map (·.1)).map V.int:=fun {kvs ks} q=>by
        induction q with
        | nil=>rfl
        | cons a _ ih=>
          rw [List.map_cons,List.map_cons,List.map_cons,ih,a.1]
          rfl
      exact gen ks
    refine ⟨_,rfl,W.x,_,W.dx,_,_,rfl,O.ob.1,T.jn,T.qz,wof_keepers _ _ _ _ _ _ _ _,W.kd,kvs,rfl,hk,fun r nr=>?_⟩
    rw [e]
    exact g r nr
theorem ok_World_papers (T:Txt K mg t) : FnOk P w K mg base CX0 3 t.f_World_papers t.d_World_papers ["self"] (fun vs H Q _=>∃ ρ id W ω,vs = [.ref W.x] ∧ jz t H ρ id W ω ∧ ω.bd.length < 64 ∧ (ω.bd.map (·.1)).Nodup ∧ (∀ x ∈ ω.bd,x.1 ≠ []) ∧
    ∀ (r:Addr) (vs':List V) (ts':List (List Int)) (H':Hp),H r = none → Same H H' → ts'.Perm (carriedI ω.bd ω.en) → ts'.Pairwise (fun a b=>HT.lexLt a b = true) → TupsAt K H' vs' ts' → H' r = some (.lst vs') → Q (.ref r) H'):=by
  refine T.F_World_papers.ok sc_World_papers (fun vs H Q E h=>?_) (fun cdv A outer s H vs Q E hr h=>?_)
  · obtain ⟨ρ,id,W,ω,rfl,_⟩:=h
    rfl
  · obtain ⟨ρ,id,W,ω,rfl,O,l,nd,ne,g⟩:=h
    refine ⟨_,(@jf _ _ _ (j4 (pe_meth0 (qa (pv 0) rfl) T.cl_Board T.mt_Board_carried (ok_Board_carried T) (hr.mono (by decide)) T.b_Board_carried .nil jx))),?_⟩
    obtain ⟨rb,rS,kvs,B,sg⟩:=O.bd
    have lk:kvs.length < 64:=by
      rw [Paired.length B.hs,thP,List.length_map]
      exact l
    exact ⟨_,rfl,W.x,_,W.dx,_,_,rfl,O.ob.1,T.jn,T.na_World_board,wof_board _ _ _ _ _ _ _ _,W.bd,W.db,_,rfl,B.ob,brd_no _ _ (by decide +kernel) (by decide +kernel),W.bd,W.db,W.S,ω.en,kvs,ω.bd,rfl,B,lk,nd,ne,g⟩
theorem ords_tupsAt {K:W.Frag} {H:Hp} {ρ : Rho} : ∀ {xs:List V} {os:List O},Paired (xj H ρ) xs os → TupsAt K H xs (os.map ordI)
  | _,_,.nil=>.nil
  | _,_,.cons ⟨a,e,_,h⟩ t=>.cons ⟨a,e,SqT.of h⟩ (ords_tupsAt t)
theorem ok_World_waits (T:Txt K mg t) : FnOk P w K mg base CX0 3 t.f_World_waits t.d_World_waits ["self","house"] (fun vs H Q _=>∃ ρ id W ω h κ,vs = [.ref W.x,.int h] ∧ jz t H ρ id W ω ∧ ω.keep h = some κ ∧ κ.wait.length < 64 ∧ κ.wait.Nodup ∧
    ∀ (r:Addr) (vs':List V) (ts':List (List Int)),H r = none → ts'.Perm (κ.wait.map ordI) → ts'.Pairwise (fun a b=>HT.lexLt a b = true) → TupsAt K H vs' ts' → Q (.ref r) (upd H r (.lst vs'))):=by
  refine T.F_World_waits.ok sc_World_waits (fun vs H Q E h=>?_) (fun cdv A outer s H vs Q E hr h=>?_)
  · obtain ⟨ρ,id,W,ω,h,κ,rfl,_⟩:=h
    rfl
  · obtain ⟨ρ,id,W,ω,h,κ,rfl,O,e,l,nd,g⟩:=h
    refine ⟨_,(@jf _ _ _ (j4 (ju call_sortedT rfl T.n_sorted boot_sorted (jd (qa (qq (pv 0) T.jn T.xl (ok_World_keeper_of T) (hr.mono (by decide)) T.x8 .nil jx (jd (pv 1) jg)) rfl) jg)))),?_⟩
    refine ⟨_,rfl,W.x,W.dx,_,rfl,O.ob.1,wof_no _ _ _ _ _ _ _ _ (by decide +kernel),_,rfl,ρ,id,W,ω,h,κ,rfl,O,e,fun k A' dk R=>?_⟩
    obtain ⟨xs,hx,px⟩:=R.wt
    refine ⟨k,_,dk,_,_,rfl,R.ob,T.jm,T.zj,(zz A').2.2.2.2.2.2,A' 7,xs,κ.wait.map ordI,rfl,SqL.of hx,ords_tupsAt px,by rw [Paired.length px]; exact l,List.Pairwise.map _ (fun a b hab z=>hab (ordI_inj z)) nd,fun t ht z=>?_,fun q vs' ts' nq _ p2 p3 p4=>g q vs' ts' nq p2 p4 p3⟩
    obtain ⟨o,_,rfl⟩:=List.mem_map.mp ht
    cases z
theorem ok_World_cheat (T:Txt K mg t) : FnOk P w K mg base CX0 6 t.f_World_cheat t.d_World_cheat ["self","order","house"] (fun vs H Q _=>∃ ρ id W ω q o h κ,vs = [.ref W.x,.ref q,.int h] ∧ jz t H ρ id W ω ∧ OkR ρ H ∧ xj H ρ (.ref q) o ∧ isOrd ω.n o = true ∧ o.p ∈ ω.cheats ∧ ω.keep h = some κ ∧ ω.way.length ≤ 100000 ∧
    ∀ H',jz t H' ρ id W { ω with way:=ω.way ++ [(true,h,o)] } → Fr (isP id .wy) ρ H ρ H' → OkR ρ H' → Q .non H'):=by
  refine T.F_World_cheat.ok sc_World_cheat (fun vs H Q E h=>?_) (fun cdv A outer s H vs Q E hr h=>?_)
  · obtain ⟨ρ,id,W,ω,q,o,h,κ,rfl,_⟩:=h
    rfl
  · obtain ⟨ρ,id,W,ω,q,o,h,κ,rfl,O,kr,uq,ho,oc,ek,l,g⟩:=h
    refine ⟨_,(@jc _ _ _ _ _ (zd (qq (pv 0) T.jn T.mt_World_check_order (ok_World_check_order T) (hr.mono (by decide)) T.b_World_check_order .nil jx (jd (pv 1) jg)))
      (@jc _ _ _ _ _ (yc (qr op_notIn_seq (yq ix_tup (pv 1) jj (fun _ _=>rfl)) (qa (pv 0) rfl) (by with_unfolding_all rfl)) zu qe)
      (@jc _ _ _ _ _ (zd (qq (pv 0) T.jn T.xl (ok_World_keeper_of T) (hr.mono (by decide)) T.x8 .nil jx (jd (pv 2) jg)))
      (@jf _ _ _ (zd (pe_bm PySem.F.plainAttrs_list PySem.F.slot_list_append PySem.F.type_list_append ya (qa (pv 0) rfl) (jd (@pe_tup _ _ _ _ _ (@pa_3 _ _ _ _ _ _ _ (zq (v:=.str "order") rfl T.c_ORDER_LETTER.choose_spec ⟨_,rfl⟩) (pv 2) (pv 1) rfl rfl rfl)) jg))))))),?_⟩
    have uq':=uq
    obtain ⟨_,eq,nq,hq⟩:=uq'
    cases eq
    refine ⟨_,rfl,W.x,W.dx,_,rfl,O.ob.1,wof_no _ _ _ _ _ _ _ _ (by decide +kernel),_,rfl,ρ,id,W,ω,q,o,rfl,O,hq,ho,?_⟩
    refine ⟨_,rfl,q,ordV o,0,.int o.p,rfl,rfl,SqT.of hq,rfl,_,rfl,W.x,_,W.dx,_,_,rfl,O.ob.1,T.jn,T.na_World_cheating,wof_cheating _ _ _ _ _ _ _ _,W.ch,_,rfl,.inl (SqL.of O.ch.1),rfl,flat_ints _,_,rfl,?_⟩
    rw [if_pos rfl,inV_ints,decide_eq_true oc]
    refine iteF ?_
    refine ⟨_,rfl,W.x,W.dx,_,rfl,O.ob.1,wof_no _ _ _ _ _ _ _ _ (by decide +kernel),_,rfl,ρ,id,W,ω,h,κ,rfl,O,ek,fun k A' dk R=>?_⟩
    obtain ⟨rw_,xs,hw,pw⟩:=O.wy
    refine ⟨_,rfl,W.x,_,W.dx,_,_,rfl,O.ob.1,T.jn,T.xa,wof_on_way _ _ _ _ _ _ _ _,.inl ⟨rfl,_,SqL.of hw⟩,_,rfl,_,rfl,zs3,fun p np=>?_⟩
    have sp:=ji (o:=.tup [.str "order",.int h,.ref q]) np
    have lx:xs.length ≤ 1000000:=by rw [Paired.length pw]; omega
    refine ⟨W.wy,xs,.ref p,rfl,rfl,sp _ _ hw,big lx,?_⟩
    have O1:=O.fr (P:=fun _=>False) (fun _ z=>z) (Fr.same sp)
    have kr1:=kr.same sp
    have f2:Fr (isP id .wy) ρ (upd H p (.tup [.str "order",.int h,.ref q])) ρ (upd (upd H p (.tup [.str "order",.int h,.ref q])) W.wy (.lst (xs ++ [.ref p]))):=Fr.put rw_ rfl
    have f0:Fr (isP id .wy) ρ H ρ (upd H p (.tup [.str "order",.int h,.ref q])):=Fr.same sp
    refine g _ (O1.but f2 _ (jo (by intro z; cases z)) rfl rfl (kd_keep f2 (jo (by intro z; cases z)) (fun _ _=>jo (by intro z; cases z))) (bd_keep f2 (jo (by intro z; cases z)) (jo (by intro z; cases z)) (jo (by intro z; cases z))) (ak_keep f2 (jo (by intro z; cases z)) (fun _=>jo (by intro z; cases z))) (fun _ _=>⟨rw_,_,ja,?_⟩)) (f0.trans f2) kr1.put
    have np0:=kr.none np
    refine qx (Paired.mapP pw fun _ _=>LetU.fr (f0.trans f2)) ⟨p,q,rfl,np0,?_,uq.fr (f0.trans f2)⟩
    rw [je (neu np0 rw_),ja]
    rfl
theorem paired_erase {α β : Type} {F : α → β → Prop} {xs:List α} {ys:List β} {j:Nat} (h:Paired F xs ys) : Paired F (xs.eraseIdx j) (ys.eraseIdx j):=paired_eraseIdx h
structure KSz (κ : Kp) (m:Nat) : Prop where
  hd : κ.heard.length ≤ m
  uc : κ.unv.length + κ.cho.length ≤ m
  dw : κ.done.length + κ.wait.length ≤ m
theorem ok_World_come (T:Txt K mg t) : FnOk P w K mg base CX0 8 t.f_World_come t.d_World_come ["self","at"] (fun vs H Q _=>∃ ρ id W ω i l κ a b c,vs = [.ref W.x,.int (i:Nat)] ∧ jz t H ρ id W ω ∧ OkR ρ H ∧ ω.way[i]? = some l ∧ ω.keep l.2.1 = some κ ∧ (ω.ks.map (·.1)).Nodup ∧ κ.Ok ω.n ∧ ω.n ≤ 8 ∧ isOrd ω.n l.2.2 = true ∧ KSz κ 900 ∧ Sz ω a b c ∧ a + (κ.take l.1 l.2.2).2.length ≤ 1000 ∧ b + (κ.take l.1 l.2.2).2.length ≤ 1000 ∧ c + 16 * (κ.take l.1 l.2.2).2.length ≤ 100000 ∧
    ∀ ρ' H' x,jz t H' ρ' id W (ω.come i l κ) → Fr (fun r=>r.1 = id) ρ H ρ' H' → OkR ρ' H' → LetU H' ρ' x l → Q x H'):=by
  refine T.F_World_come.ok sc_World_come (fun vs H Q E h=>?_) (fun cdv A outer s H vs Q E hr h=>?_)
  · obtain ⟨ρ,id,W,ω,i,l,κ,a,b,c,rfl,_⟩:=h
    rfl
  · obtain ⟨ρ,id,W,ω,i,l,κ,a,b,c,rfl,O,kr,el,ek,nd,hok,n8,ho,ksz,sz,la,lb,lc,g⟩:=h
    refine ⟨_,(@jc _ _ _ _ _ (yc (pt_not (xu (j5 (qt T) (hr.mono (by decide)) rfl T.qy T.qo.kp T.za .nil jx (@pa_3 _ _ _ _ _ _ _ (pv 1) jj (pe_op op_sub (ju j8 rfl T.n_len boot_len (jd (qa (pv 0) rfl) jg)) jj) rfl rfl rfl)))) zu qe)
      (@jc _ _ _ _ _ (j7 (i:=2) sc_World_come.nd rfl (Or.inl rfl) (pe_bm PySem.F.plainAttrs_list PySem.F.slot_list_pop PySem.F.type_list_pop mt_popAt (qa (pv 0) rfl) (jd (pv 1) jg)))
      (@jc _ _ _ _ _ (ps_asg (pv 2) (pg_tup rfl (yj (qc (i:=3) sc_World_come.nd rfl (Or.inl rfl)) (yj (qc (i:=4) sc_World_come.nd rfl (Or.inl rfl)) (yj (qc (i:=5) sc_World_come.nd rfl (Or.inl rfl)) pgs_nil)))))
      (@jc _ _ _ _ _ (j7 (i:=6) sc_World_come.nd rfl (Or.inl rfl) (pe_dget (hu_of hr) (qa (pv 0) rfl) (pv 4) (fun _ _=>rfl)))
      (@jc _ _ _ _ _ (yc (qr op_eq (pv 3) (zq (v:=.str "order") rfl T.c_ORDER_LETTER.choose_spec ⟨_,rfl⟩) (zv _)) (@jf _ _ _ (zd (qq (pv 0) T.jn T.mt_World_put_votes (ok_World_put_votes T) (hr.mono (by decide)) T.b_World_put_votes .nil jx (@pa_2 _ _ _ _ _ (pv 4) (qq (pv 6) T.jm T.mt_Keeper_hear (ok_Keeper_hear T) (hr.mono (by decide)) T.b_Keeper_hear .nil jx (jd (pv 5) jg)) rfl rfl)))) (@jf _ _ _ (zd (qq (pv 0) T.jn T.mt_World_put_votes (ok_World_put_votes T) (hr.mono (by decide)) T.b_World_put_votes .nil jx (@pa_2 _ _ _ _ _ (pv 4) (qq (pv 6) T.jm T.mt_Keeper_take_paper (ok_Keeper_take_paper T) (hr.mono (by decide)) T.b_Keeper_take_paper .nil jx (jd (pv 5) jg)) rfl rfl)))))
      (@jf _ _ _ (j4 (pv 2)))))))),?_⟩
    obtain ⟨rw_,xs,hw,pw⟩:=O.wy
    have lx:xs.length = ω.way.length:=Paired.length pw
    have hi:=(List.getElem?_eq_some_iff.mp el).1
    have wl:=sz.wy
    refine ⟨_,rfl,_,rfl,W.x,_,W.dx,_,_,rfl,O.ob.1,T.jn,T.xa,wof_on_way _ _ _ _ _ _ _ _,W.wy,xs,rfl,.inl (SqL.of hw),_,_,rfl,rfl,(i:Int),0,(xs.length:Int) - 1,rfl,_,rfl,?_⟩
    rw [decide_eq_true (show 0 ≤ (i:Int) ∧ (i:Int) ≤ (xs.length:Int) - 1 by omega)]
    refine iteF ?_
    obtain ⟨x,ex,ux⟩:=paired_back pw el
    refine ⟨_,rfl,W.x,_,W.dx,_,_,rfl,O.ob.1,T.jn,T.xa,wof_on_way _ _ _ _ _ _ _ _,.inl ⟨rfl,_,SqL.of hw⟩,_,rfl,W.wy,xs,(i:Int),i,x,rfl,rfl,hw,by omega,by omega,?_,ex,?_⟩
    · unfold seqIndex?
      simp
      omega
    have f1:Fr (isP id .wy) ρ H ρ (upd H W.wy (.lst (xs.eraseIdx i))):=Fr.put rw_ rfl
    have O1:jz t (upd H W.wy (.lst (xs.eraseIdx i))) ρ id W { ω with way:=ω.way.eraseIdx i }:=O.but f1 _ (jo (by intro z; cases z)) rfl rfl (kd_keep f1 (jo (by intro z; cases z)) (fun _ _=>jo (by intro z; cases z))) (bd_keep f1 (jo (by intro z; cases z)) (jo (by intro z; cases z)) (jo (by intro z; cases z))) (ak_keep f1 (jo (by intro z; cases z)) (fun _=>jo (by intro z; cases z))) (fun _ _=>⟨rw_,_,ja,paired_erase (Paired.mapP pw fun _ _=>LetU.fr f1)⟩)
    have kr1:=kr.put (a:=W.wy) (o:=.lst (xs.eraseIdx i))
    have ux1:=ux.fr f1
    generalize upd H W.wy (.lst (xs.eraseIdx i)) = H1 at f1 O1 kr1 ux1
    obtain ⟨la',q,rfl,nl,hl,uq⟩:=ux1
    refine ⟨_,rfl,la',_,rfl,SqT.of hl,rfl,_,_,rfl,_,_,rfl,_,_,rfl,rfl,?_⟩
    obtain ⟨rk,kvs,hk,ks⟩:=O1.kd
    obtain ⟨k,A',dk,ev,R⟩:=keeps_val ks ek
    refine ⟨_,rfl,W.x,_,W.dx,_,_,rfl,O1.ob.1,T.jn,T.qz,wof_keepers _ _ _ _ _ _ _ _,_,rfl,W.kd,.ref k,rfl,.inl ⟨kvs,.inl l.2.1,.inl hk,rfl,ev.symm⟩,?_⟩
    obtain ⟨wb,h,o⟩:=l
    cases wb with
    | true=>
      refine ⟨_,rfl,rfl,_,rfl,iteT ?_⟩
      refine ⟨_,rfl,W.x,W.dx,_,rfl,O1.ob.1,wof_no _ _ _ _ _ _ _ _ (by decide +kernel),_,rfl,_,rfl,k,dk,_,rfl,R.ob,kfA_no A' (by decide +kernel),_,rfl,ρ,id,h,k,A',dk,κ,ω.n,q,o,rfl,R,uq,hok,n8,ho,ksz.hd,ksz.uc,ksz.dw,kr1,fun ρ2 H2 A2 r ys R2 f2 kr2 rr hr2 pr=>?_⟩
      have O2:=O1.keeper f2 nd (fun kvs' hk'=>by rw [hk] at hk'; cases hk'; exact ev) R2
      have z2:Sz { { ω with way:=ω.way.eraseIdx i } with ks:=setK ω.ks h (Kp.hear κ o).1 } a b c:=⟨sz.bd,sz.hs,Nat.le_trans (List.length_eraseIdx_le _ _) sz.wy,by show (setK _ _ _).length ≤ 16; rw [setK_len]; exact sz.ks⟩
      refine ⟨ρ2,id,W,_,h,r,ys,(Kp.hear κ o).2,a,b,c,rfl,O2,kr2,hr2,fun ro e=>?_,pr,z2,la,lb,lc,fun ρ3 H3 O3 f3 kr3=>?_⟩
      · rw [rr] at e
        cases e
        exact vt_no (by intro z; cases z) (by intro z; cases z) (by intro z; cases z)
      · have fr:Fr (fun r=>r.1 = id) ρ H ρ3 H3:=((f1.mono fun r hr=>by rw [hr]).trans (f2.mono fun r ⟨j,hr⟩=>by rw [hr])).trans (f3.mono fun r hr=>by rcases hr with hr | hr | hr <;> rw [hr])
        exact ⟨_,rfl,g ρ3 H3 _ O3 fr kr3 (LetU.fr fr ux)⟩
    | false=>
      refine ⟨_,rfl,rfl,_,rfl,iteF ?_⟩
      refine ⟨_,rfl,W.x,W.dx,_,rfl,O1.ob.1,wof_no _ _ _ _ _ _ _ _ (by decide +kernel),_,rfl,_,rfl,k,dk,_,rfl,R.ob,kfA_no A' (by decide +kernel),_,rfl,ρ,id,h,k,A',dk,κ,ω.n,q,o,rfl,R,uq,hok,n8,ho,ksz.hd,ksz.uc,ksz.dw,kr1,fun ρ2 H2 A2 r ys R2 f2 kr2 rr hr2 pr=>?_⟩
      have O2:=O1.keeper f2 nd (fun kvs' hk'=>by rw [hk] at hk'; cases hk'; exact ev) R2
      have z2:Sz { { ω with way:=ω.way.eraseIdx i } with ks:=setK ω.ks h (Kp.paper κ o).1 } a b c:=⟨sz.bd,sz.hs,Nat.le_trans (List.length_eraseIdx_le _ _) sz.wy,by show (setK _ _ _).length ≤ 16; rw [setK_len]; exact sz.ks⟩
      refine ⟨ρ2,id,W,_,h,r,ys,(Kp.paper κ o).2,a,b,c,rfl,O2,kr2,hr2,fun ro e=>?_,pr,z2,la,lb,lc,fun ρ3 H3 O3 f3 kr3=>?_⟩
      · rw [rr] at e
        cases e
        exact vt_no (by intro z; cases z) (by intro z; cases z) (by intro z; cases z)
      · have fr:Fr (fun r=>r.1 = id) ρ H ρ3 H3:=((f1.mono fun r hr=>by rw [hr]).trans (f2.mono fun r ⟨j,hr⟩=>by rw [hr])).trans (f3.mono fun r hr=>by rcases hr with hr | hr | hr <;> rw [hr])
        exact ⟨_,rfl,g ρ3 H3 _ O3 fr kr3 (LetU.fr fr ux)⟩
def Kp.leftOf (κ : Kp) (p:Int) (os:List O) : Int:=gI κ.held p - ((os.filter fun o=>!κ.past o).map fun o=>o.m).sum
theorem ok_Keeper_left_of (T:Txt K mg t) : FnOk P w K mg base CX0 2 t.f_Keeper_left_of t.d_Keeper_left_of ["self","purse","orders"] (fun vs H Q _=>∃ ρ id h k A dk κ n p r xs os,vs = [.ref k,.int p,.ref r] ∧ xi t H ρ id h k A dk κ ∧ κ.Ok n ∧ 0 ≤ p ∧ p < (n:Int) ∧ H r = some (.lst xs) ∧ Paired (xj H ρ) xs os ∧ (∀ o ∈ os,isOrd (n:Nat) o = true) ∧ os.length ≤ 1000 ∧ ∀ H',Same H H' → Q (.int (κ.leftOf p os)) H'):=by
  refine T.F_Keeper_left_of.ok sc_Keeper_left_of (fun vs H Q E h=>?_) (fun cdv A outer s H vs Q E hr h=>?_)
  · obtain ⟨ρ,id,h,k,A,dk,κ,n,p,r,xs,os,rfl,_⟩:=h
    rfl
  · obtain ⟨ρ,id,h,k,A',dk,κ,n,p,r,xs,os,rfl,R,hok,p0,p1,hx,px,ho,ll,g⟩:=h
    refine ⟨_,(@jf _ _ _ (j4 (pe_op op_sub (yq zk (qa (pv 0) rfl) (pv 1) (fun _ _=>rfl)) (ju (call_sum rfl) rfl T.n_sum boot_sum (jd (pe_lcomp (N':=["order","self"]) (ix:=[none,some 0]) (compOk_is (by kernel_rfl)) rfl (@pi_list _ _ _ _ (pv 2)) (fun _ _ _ _=>(qc (i:=0) nd_1 rfl (Or.inl rfl) (.inr rfl))) (fun _ _ _ _=>(pif_one (pt_not (xu (qq (pv 1) T.jm T.mt_Keeper_is_past (ok_Book_is_past T) (hr.mono (by decide)) T.b_Book_is_past .nil jx (jd (pv 0) jg)))))) (fun _ _ _ _=>(yq (ix_tupK (K:=K) rfl) (pv 0) jj (fun _ _=>rfl)))) jg))))),?_⟩
    have e:=gI_of (xs:=κ.held) p0 (by rw [hok.h]; exact p1)
    refine ⟨_,rfl,k,_,dk,_,_,rfl,R.ob,T.jm,T.xq,(zz A').1,_,rfl,A' 1,_,p,.int (gI κ.held p),rfl,rfl,SqL.of R.he,atI_of p0 (by rw [List.getElem?_map,e]; rfl),?_⟩
    refine ⟨_,rfl,r,rfl,⟨_,SqL.of hx⟩,lc_list (K:=K) (a:=r) (xs:=xs) (fun i ys σ H'=>∃ v,σ = [v,some (.ref k)] ∧ H' = H ∧ ys = (((os.take i).filter fun o=>!κ.past o).map fun o=>o.m).map V.int) ⟨none,rfl,rfl,rfl⟩ ?_ ?_ ?_⟩
    · rintro i ys σ H' hi ⟨v,rfl,rfl,rfl⟩
      refine ⟨SqL.of hx,len1000 ?_⟩
      rw [List.length_map,List.length_map]
      refine Nat.le_trans (List.length_filter_le _ _) ?_
      rw [List.length_take]
      omega
    · rintro i x ys σ H' ex ⟨v,rfl,rfl,rfl⟩
      obtain ⟨o,eo,uo⟩:=ql px ex
      obtain ⟨q,rfl,hq⟩:=uo.ref
      have om:o ∈ os:=List.mem_of_getElem? eo
      refine ⟨_,rfl,k,dk,_,rfl,R.ob,kfA_no A' (by decide +kernel),_,rfl,ρ,id,h,k,A',dk,κ,n,q,o,rfl,R,hq,ho o om,hok.x,_,rfl,?_⟩
      rw [take_snoc eo,List.filter_append,List.map_append,List.map_append]
      cases hp : κ.past o with
      | true=>
        refine iteF ⟨_,rfl,rfl,?_⟩
        simp [hp]
      | false=>
        refine iteT ⟨_,rfl,q,ordV o,3,.int o.m,rfl,rfl,SqT.of hq,rfl,_,rfl,rfl,?_⟩
        simp [hp]
    · rintro ys σ H' ⟨v,rfl,rfl,rfl⟩ l nl
      rw [Paired.length px,List.take_length]
      refine ⟨l,_,rfl,SqL.of ja,_,_,rfl,rfl,g _ (ji nl)⟩
def Wd.carried (ω : Wd) (o:O) : Bool:=decide (ω.en ≤ ((housesI ω.bd (ordI o)).length:Int))
theorem max_of {ns:List Int} {M:Int} (h1:M ∈ ns) (h2 : ∀ a ∈ ns,a ≤ M) : ns.max? = some M:=List.max?_eq_some_iff.mpr ⟨h1,h2⟩
def Wd.asks (ω : Wd) (o:O) (row:List O) : Wd:=Wd.post { ω with asked:=ω.asked.set o.p.toNat (row ++ [o]) } true o
theorem lc_vK {a:Addr} {o:Obj} {kvs:List (Key × V)} {g:TG} {ti:TT} {te:TE} {σ0:St} {H0:Hp} {Q:VK} (Pv:Nat → List V → St → Hp → Prop) (h0:Pv 0 [] σ0 H0)
    (hl : ∀ i ys σ H,i ≤ kvs.length → Pv i ys σ H → H a = some (.frz o (.dK kvs)) ∧ ys.length ≤ sizeLine)
    (hs : ∀ i kv ys σ H,kvs[i]? = some kv → Pv i ys σ H → g kv.2 σ H fun σ2 H2=>ti σ2 H2 fun c H3=>if c = true then te σ2 H3 fun y H4=>Pv (i + 1) (ys ++ [y]) σ2 H4 else Pv (i + 1) ys σ2 H3)
    (hd : ∀ ys σ H,Pv kvs.length ys σ H → ∀ p,H p = none → Q (.ref p) (upd H p (.lst ys))) :
    ∃ W : Nat → Nat → List V → St → Hp → Prop,(∃ m,W 0 m [] σ0 H0) ∧ ∀ i m ys σ H,W i m ys σ H →
      ys.length ≤ sizeLine ∧ (((Itv a o kvs).stop i H ∧ lcEnd Q ys H) ∨
        ((Itv a o kvs).go i H ∧ ∃ N:List V → St → Hp → Prop,(∀ ys' σ' H',N ys' σ' H' → ∃ m',m' < m ∧ W (i + 1) m' ys' σ' H') ∧
          ∀ x H',(Itv a o kvs).yld i H x H' → g x σ H' fun σ2 H2=>ti σ2 H2 fun b H3=>if b = true then te σ2 H3 fun y H4=>N (ys ++ [y]) σ2 H4 else N ys σ2 H3)):=by
  refine ⟨fun i m ys σ H=>m = kvs.length - i ∧ i ≤ kvs.length ∧ Pv i ys σ H,⟨kvs.length,by simp,Nat.zero_le _,h0⟩,?_⟩
  rintro i m ys σ H ⟨rfl,hi,p⟩
  obtain ⟨q,hz⟩:=hl i ys σ H hi p
  refine ⟨hz,?_⟩
  by_cases hlt:i < kvs.length
  · refine .inr ⟨⟨hlt,q⟩,Pv (i + 1),fun ys' σ' H' p'=>⟨kvs.length - (i + 1),by omega,rfl,hlt,p'⟩,fun x H' y=>?_⟩
    obtain ⟨e,kv,ek,ex⟩:=y
    subst e ex
    exact hs i kv ys σ _ ek p
  · have e:i = kvs.length:=by omega
    subst e
    exact .inl ⟨⟨Nat.le_refl _,q⟩,hd ys σ H p⟩
theorem last_at {H:Hp} {ρ : Rho} {xs:List V} {os:List O} {o:O} (p:Paired (xj H ρ) xs os) (e:os.getLast? = some o) : ∃ x,atI xs (-1) = some x ∧ xj H ρ x o:=by
  rw [List.getLast?_eq_getElem?] at e
  obtain ⟨x,ex,u⟩:=paired_back p e
  have l:=Paired.length p
  have lt:=(List.getElem?_eq_some_iff.mp e).1
  refine ⟨x,?_,u⟩
  unfold atI ixN
  rw [if_neg (by decide),if_pos (by omega)]
  show xs[(-1 + (xs.length:Int)).toNat]? = some x
  rw [show (-1 + (xs.length:Int)).toNat = os.length - 1 by omega]
  exact ex
structure Wd.Ok (ω : Wd) : Prop where
  n8 : ω.n ≤ 8
  al : ω.asked.length = ω.n
  ao : ∀ row ∈ ω.asked,(∀ o ∈ row,isOrd ω.n o = true)
  ks : ∀ c ∈ ω.ks,c.2.Ok ω.n
  nd:(ω.ks.map (·.1)).Nodup
  k0 : 0 < ω.ks.length
  k1 : ω.ks.length ≤ 16
def sp_ask (t:Ad) : Sp:=fun vs H Q E=>∃ ρ id W ω p g m row,vs = [.ref W.x,.int p,.int g,.int m] ∧ jz t H ρ id W ω ∧ OkR ρ H ∧ ω.Ok ∧ (0 ≤ p ∧ p < (ω.n:Int)) ∧ (0 ≤ g ∧ g < (ω.n:Int)) ∧ p ∉ ω.cheats ∧ g ≠ p ∧ (1 ≤ m ∧ m ≤ 1000) ∧ ω.asked[p.toNat]? = some row ∧ row.length ≤ 90 ∧ ω.way.length ≤ 90000 ∧
  (∀ o,row.getLast? = some o → ω.carried o = false → ∀ H',Same H H' → E (.ref t.a_NotNow) none H') ∧
  ((∀ o,row.getLast? = some o → ω.carried o = true) → ∀ M,(ω.ks.map fun c=>c.2.leftOf p row).max? = some M →
    (M < m → ∀ H',Same H H' → E (.ref t.a_TooMuch) none H') ∧
    (m ≤ M → ∀ H' q,jz t H' ρ id W (ω.asks ⟨p,row.length,g,m⟩ row) → Fr (fun r=>r.1 = id) ρ H ρ H' → OkR ρ H' → xj H' ρ (.ref q) ⟨p,row.length,g,m⟩ → Q (.ref q) H'))
set_option maxHeartbeats 0 in
theorem ok_World_ask (T:Txt K mg t) : FnOk P w K mg base (CX1 P w) 6 t.f_World_ask t.d_World_ask ["self","purse","goal","much"] (sp_ask t):=by
  refine T.F_World_ask.okX sc_World_ask (fun vs H Q E h=>?_) (fun cdv A outer s H vs Q E hr h=>?_)
  · obtain ⟨ρ,id,W,ω,p,g,m,row,rfl,_⟩:=h
    rfl
  · obtain ⟨ρ,id,W,ω,p,g,m,row,rfl,O,kr,hok,hp,hg,nc,ng,hm,erow,lrow,lway,e1,e2⟩:=h
    refine ⟨_,(@jc _ _ _ _ _ (zd (qq (pv 0) T.jn T.mt_World_check_asker (ok_World_check_asker T) (hr.mono (by decide)) T.b_World_check_asker .nil jx (@pa_2 _ _ _ _ _ (pv 1) (pv 2) rfl rfl)))
      (@jc _ _ _ _ _ (yc (pt_not (xu (j5 (qt T) (hr.mono (by decide)) rfl T.qy T.qo.kp T.za .nil jx (@pa_3 _ _ _ _ _ _ _ (pv 3) jj (zq (v:=.int 1000) rfl T.c_MOST_MUCH.choose_spec ⟨_,rfl⟩) rfl rfl rfl)))) zu qe)
      (@jc _ _ _ _ _ (j7 (i:=4) sc_World_ask.nd rfl (Or.inr rfl) (yq zk (qa (pv 0) rfl) (pv 1) (fun _ _=>rfl)))
      (@jc _ _ _ _ _ (yc (PW.pt (pw_or (qr op_gt (ju j8 rfl T.n_len boot_len (jd (pv 4) jg)) (zq (v:=.int 99) rfl T.c_LAST_NUMBER.choose_spec ⟨_,rfl⟩) (zv _)) (pw_or1 (PW.pt (pw_and (pt_truth (pv 4) (fun _=>rfl)) (pw_and1 (pt_not (xu (qq (qa (pv 0) rfl) T.cl_Board T.mt_Board_is_carried (ok_Board_is_carried T) (hr.mono (by decide)) T.b_Board_is_carried .nil jx (jd (yq zk (pv 4) (pe_un un_neg jj) (fun _ _=>rfl)) jg)))))))))) (@jf _ _ _ (ps_raise1 rfl T.m_NotNow T.x_NotNow (jd pe_str jg))) qe)
      (@jc _ _ _ _ _ (yc (qr op_gt (pv 3) (ju (call_maxL rfl) rfl T.n_max boot_max (jd (pe_thaw (pe_lcomp (N':=["keeper","purse","asked"]) (ix:=[none,some 1,some 4]) (compOk_is (by kernel_rfl)) rfl (pi_vK (pe_bm0 PySem.F.plainAttrs_dict PySem.F.slot_dict_values PySem.F.type_dict_values mt_values (qa (pv 0) rfl))) (fun _ _ _ _=>(qc (i:=0) nd_2 rfl (Or.inl rfl) (.inr rfl))) (fun _ _ _ _=>pif_nil) (fun _ _ _ _=>(qq (pv 0) T.jm T.mt_Keeper_left_of (ok_Keeper_left_of T) (hr.mono (by decide)) T.b_Keeper_left_of .nil jx (@pa_2 _ _ _ _ _ (pv 1) (pv 2) rfl rfl))))) jg)) (zv _)) (@jf _ _ _ (ps_raise1 rfl T.m_TooMuch T.x_TooMuch (jd pe_str jg))) qe)
      (@jc _ _ _ _ _ (@j7 _ _ 5 _ _ _ _ sc_World_ask.nd rfl (Or.inl rfl) (@pe_tup _ _ _ _ _ (@pa_4 _ _ _ _ _ _ _ _ _ (pv 1) (ju j8 rfl T.n_len boot_len (jd (pv 4) jg)) (pv 2) (pv 3) rfl rfl rfl rfl)) (by rfl) (by first | exact .inl rfl | exact .inr rfl))
      (@jc _ _ _ _ _ (zd (pe_bm PySem.F.plainAttrs_list PySem.F.slot_list_append PySem.F.type_list_append ya (pv 4) (jd (pv 5) jg)))
      (@jc _ _ _ _ _ (zd (qq (pv 0) T.jn T.mt_World_write_to_all (ok_World_write_to_all T) (hr.mono (by decide)) T.b_World_write_to_all .nil jx (@pa_2 _ _ _ _ _ (zq (v:=.str "order") rfl T.c_ORDER_LETTER.choose_spec ⟨_,rfl⟩) (pv 5) rfl rfl)))
      (@jf _ _ _ (j4 (pv 5))))))))))),?_⟩
    obtain ⟨ra,rs,ha,hrows⟩:=O.ak
    obtain ⟨r,er⟩ : ∃ r,rs[p.toNat]? = some r:=⟨_,List.getElem?_eq_getElem (by rw [hrows.1]; exact (List.getElem?_eq_some_iff.mp erow).1)⟩
    obtain ⟨rr,xs,hr0,px⟩:=hrows.2 _ _ _ er erow
    obtain ⟨rk,kvs,kdH,ksH⟩:=O.kd
    have lk:kvs.length = ω.ks.length:=Paired.length ksH
    have lx:xs.length = row.length:=Paired.length px
    refine ⟨_,rfl,W.x,W.dx,_,rfl,O.ob.1,wof_no _ _ _ _ _ _ _ _ (by decide +kernel),_,rfl,_,rfl,ρ,id,W,ω,p,g,rfl,O,hp,hg,nc,ng,?_⟩
    refine ⟨_,rfl,m,1,1000,rfl,_,rfl,?_⟩
    rw [decide_eq_true hm]
    refine iteF ?_
    refine ⟨_,rfl,W.x,_,W.dx,_,_,rfl,O.ob.1,T.jn,T.na_World_asked,wof_asked _ _ _ _ _ _ _ _,_,rfl,W.ak,_,p,.ref r,rfl,rfl,SqL.of ha,atI_of hp.1 (by rw [List.getElem?_map,er]; rfl),?_⟩
    refine ⟨_,rfl,r,xs,rfl,.inl (SqL.of hr0),_,_,rfl,rfl,_,rfl,ite2 (fun z=>absurd (of_decide_eq_true z) (by show ¬ (99:Int) < (xs.length:Int); omega)) (fun _=>?_)⟩
    refine' (fun key=>_:(∀ HC,Same H HC → (∀ o,row.getLast? = some o → ω.carried o = true) → (_:Hp → Prop) HC) → _) _
    rotate_left
    · cases hlast:row.getLast?
      case some o=>
        obtain ⟨x,ex,ux⟩:=last_at px hlast
        have x0:(!xs.isEmpty) = true:=by
          cases xs with
          | nil=>cases ex
          | cons _ _=>rfl
        refine ⟨_,rfl,true,.inl ⟨_,SqL.of hr0,x0.symm⟩,iteT ?_⟩
        obtain ⟨q0,rfl,hq0⟩:=ux.ref
        obtain ⟨rb,rS,bvs,B,sg⟩:=O.bd
        refine ⟨_,rfl,W.x,_,W.dx,_,_,rfl,O.ob.1,T.jn,T.na_World_board,wof_board _ _ _ _ _ _ _ _,W.bd,W.db,_,rfl,B.ob,brd_no _ _ (by decide +kernel) (by decide +kernel),_,rfl,_,rfl,r,xs,-1,.ref q0,rfl,rfl,SqL.of hr0,ex,W.bd,W.db,W.S,ω.en,bvs,thP ω.bd,q0,ordK o,rfl,B.rd,hq0,fun HC sHC=>⟨_,rfl,?_⟩⟩
        have ec:decide (ω.en ≤ ((qu (thP ω.bd) (ordK o)).length:Int)) = ω.carried o:=by
          unfold Wd.carried
          rw [show qu (thP ω.bd) (ordK o) = housesI ω.bd (ordI o) from houses_thP (ordI o) ω.bd]
        rw [ec]
        cases hc : ω.carried o with
        | false=>exact iteT ⟨zs1,e1 o hlast hc _ sHC⟩
        | true=>
          refine iteF ?_
          have carr : ∀ o',row.getLast? = some o' → ω.carried o' = true:=fun o' e=>by rw [hlast] at e; cases e; exact hc
          exact key HC sHC carr
      case none=>
        have e0:row = []:=List.getLast?_eq_none_iff.mp hlast
        have x0:xs = []:=List.length_eq_zero_iff.mp (by rw [lx,e0]; rfl)
        refine ⟨_,rfl,false,.inl ⟨_,SqL.of hr0,by rw [x0]; rfl⟩,iteF ?_⟩
        have carr : ∀ o,row.getLast? = some o → ω.carried o = true:=fun o e=>by rw [hlast] at e; cases e
        exact key H (Same.refl _) carr
    · rintro HC sHC carr
      have OC:=O.fr (P:=fun _=>False) (fun _ z=>z) (Fr.same sHC)
      have kd:=sHC _ _ kdH
      have ksR:yg t HC ρ id kvs ω.ks:=yg.fr (P:=fun _=>False) (Fr.same sHC) (fun _ _ z=>z) ksH
      have hrC:=sHC _ _ hr0
      have pxC:Paired (xj HC ρ) xs row:=Paired.mapP px fun _ _=>xj.fr (P:=fun _=>False) (Fr.same sHC)
      refine ⟨_,rfl,_,rfl,W.x,_,W.dx,_,_,rfl,OC.ob.1,T.jn,T.qz,wof_keepers _ _ _ _ _ _ _ _,.inr (.inr (.inl ⟨rfl,.inl ⟨_,kd⟩⟩)),W.kd,kvs,rfl,rfl,kd,fun vw hvw=>?_⟩
      have sv:=ji (o:=ViewV vw W.kd) hvw
      have kd1:=sv _ _ kd
      have ks1:yg t (upd HC vw (ViewV vw W.kd)) ρ id kvs ω.ks:=yg.fr (P:=fun _=>False) (Fr.same sv) (fun _ _ z=>z) ksR
      have hr1:=sv _ _ hrC
      have px1:Paired (xj (upd HC vw (ViewV vw W.kd)) ρ) xs row:=Paired.mapP pxC fun _ _=>xj.fr (P:=fun _=>False) (Fr.same sv)
      have gv:upd HC vw (ViewV vw W.kd) vw = some (ViewV vw W.kd):=ja
      generalize upd HC vw (ViewV vw W.kd) = H1 at sv kd1 ks1 gv hr1 px1
      refine ⟨vw,W.kd,kvs,rfl,gv,kd1,fun oo=>lc_vK (fun i' ys σ H'=>∃ v0,σ = [v0,some (.int p),some (.ref r)] ∧ Same (upd H1 W.kd (.frz oo (.dK kvs))) H' ∧ ys = ((ω.ks.take i').map fun c=>c.2.leftOf p row).map V.int) ⟨none,rfl,Same.refl _,rfl⟩ ?_ ?_ ?_⟩
      · rintro i' ys σ H' hi ⟨v0,rfl,sm,rfl⟩
        refine ⟨sm _ _ ja,len1000 ?_⟩
        rw [List.length_map,List.length_map,List.length_take]
        have:=hok.k1
        omega
      · rintro i' kv ys σ H' ek ⟨v0,rfl,sm,rfl⟩
        obtain ⟨c,ec,e1,kk,A',dk,e2,R⟩:=ql ks1 ek
        have cm:c ∈ ω.ks:=List.mem_of_getElem? ec
        rw [e2]
        have fz:Fr (isP id .kd) ρ H1 ρ H':=(Fr.put rk rfl:Fr (isP id .kd) ρ H1 ρ (upd H1 W.kd (.frz oo (.dK kvs)))).trans (Fr.same sm)
        have R':=R.fr (fun f=>jo (by intro z; cases z)) fz
        have hr2:=(zi fz hr1 rr (jo (by intro z; cases z))).1
        have px2:Paired (xj H' ρ) xs row:=Paired.mapP px1 fun _ _=>xj.fr fz
        dsimp only [gName,tYes]
        rw [if_pos rfl]
        refine ⟨_,rfl,kk,dk,_,rfl,R'.ob,kfA_no A' (by decide +kernel),_,rfl,_,rfl,ρ,id,c.1,kk,A',dk,c.2,ω.n,p,r,xs,row,rfl,R',hok.ks c cm,hp.1,hp.2,hr2,px2,hok.ao row (List.mem_of_getElem? erow),by omega,fun H'' s''=>⟨_,rfl,sm.trans s'',?_⟩⟩
        rw [take_snoc ec,List.map_append,List.map_append]
        rfl
      · rintro ys σ H' ⟨v0,rfl,sm,rfl⟩ L nL
        rw [lk,List.take_length]
        have hD':=sm _ _ (ja (H:=H1) (a:=W.kd) (o:=.frz oo (.dK kvs)))
        have LD:L ≠ W.kd:=(jh hD' nL).symm
        have SF:Same HC (upd (upd H' L (.lst ((ω.ks.map fun c=>c.2.leftOf p row).map V.int))) W.kd (.dK kvs)):=fun c u hc=>by
          have h1:=sv _ _ hc
          by_cases z:c = W.kd
          · subst z
            rw [kd1] at h1
            rw [ja,h1]
          · have hc':H' c = some u:=sm _ _ (by rw [je z]; exact h1)
            rw [je z,je (jh hc' nL)]
            exact hc'
        refine ⟨W.kd,oo,.dK kvs,(by rw [je LD.symm]; exact hD'),fun o' u' z=>?_,True.intro,L,ω.ks.map fun c=>c.2.leftOf p row,rfl,SqL.of (by rw [je LD]; exact ja),(by rw [List.length_map]; exact hok.k0),fun M hM hA=>?_⟩
        · have z':H W.kd = some (.frz o' u'):=z
          rw [kdH] at z'
          cases z'
        obtain ⟨eM,qM⟩:=e2 carr M (max_of hM hA)
        refine ⟨_,_,rfl,rfl,_,rfl,ite2 (fun z=>?_) (fun z=>?_)⟩
        · exact ⟨zs1,eM (of_decide_eq_true z) _ (sHC.trans SF)⟩
        · have z' : m ≤ M:=by
            have : ¬ M < m:=fun y=>z (decide_eq_true y)
            omega
          have sG:=sHC.trans SF
          generalize upd (upd H' L (.lst ((ω.ks.map fun c=>c.2.leftOf p row).map V.int))) W.kd (.dK kvs) = G at SF sG
          have OG:=O.fr (P:=fun _=>False) (fun _ z=>z) (Fr.same sG)
          have krG:=kr.same sG
          have hrG:=sG _ _ hr0
          have pxG:Paired (xj G ρ) xs row:=Paired.mapP px fun _ _=>xj.fr (P:=fun _=>False) (Fr.same sG)
          refine ⟨_,rfl,_,rfl,r,xs,rfl,.inl (SqL.of hrG),_,rfl,_,rfl,zs4,fun q nq=>?_⟩
          have eo : [V.int p,.int xs.length,.int g,.int m] = ordV ⟨p,row.length,g,m⟩:=by rw [lx]; rfl
          rw [eo]
          have s1:=ji (o:=.tup (ordV ⟨p,row.length,g,m⟩)) nq
          have O1:=OG.fr (P:=fun _=>False) (fun _ z=>z) (Fr.same s1)
          have kr1:=krG.same s1
          have hr1':=s1 _ _ hrG
          have px1':Paired (xj (upd G q (.tup (ordV ⟨p,row.length,g,m⟩))) ρ) xs row:=Paired.mapP pxG fun _ _=>xj.fr (P:=fun _=>False) (Fr.same s1)
          have uq1:xj (upd G q (.tup (ordV ⟨p,row.length,g,m⟩))) ρ (.ref q) ⟨p,row.length,g,m⟩:=⟨q,rfl,krG.none nq,ja⟩
          dsimp only
          generalize upd G q (.tup (ordV ⟨p,row.length,g,m⟩)) = G1 at s1 O1 kr1 hr1' px1' uq1
          refine ⟨_,rfl,.inl ⟨rfl,_,SqL.of hr1'⟩,_,rfl,r,xs,.ref q,rfl,rfl,hr1',xy (by omega),?_⟩
          have f2:Fr (isP id (.row p.toNat)) ρ G1 ρ (upd G1 r (.lst (xs ++ [.ref q]))):=Fr.put rr rfl
          have O2 : jz t (upd G1 r (.lst (xs ++ [.ref q]))) ρ id W { ω with asked:=ω.asked.set p.toNat (row ++ [⟨p,row.length,g,m⟩]) }:=by
            refine O1.but f2 _ (jo (by intro z; cases z)) rfl rfl (kd_keep f2 (jo (by intro z; cases z)) (fun _ _=>jo (by intro z; cases z))) (bd_keep f2 (jo (by intro z; cases z)) (jo (by intro z; cases z)) (jo (by intro z; cases z))) (fun ra' ha'=>?_) (wy_keep f2 (jo (by intro z; cases z)))
            obtain ⟨rs',h1,h2⟩:=ha'
            have eq':rs' = rs:=by
              have h3:=s1 _ _ (sG _ _ ha)
              rw [h1] at h3
              have h4:=HO.lst.inj (Option.some.inj h3)
              exact (List.map_inj_right (fun a b e=>V.ref.inj e)).mp h4
            subst eq'
            obtain ⟨h5,r5⟩:=zi f2 h1 ra' (jo (by intro z; cases z))
            refine ⟨r5,rs',h5,?_,fun i r' os e1' e2'=>?_⟩
            · rw [List.length_set]
              exact h2.1
            · by_cases z:i = p.toNat
              · subst z
                have:r' = r:=by
                  rw [er] at e1'
                  exact (Option.some.inj e1').symm
                subst this
                have lt:=(List.getElem?_eq_some_iff.mp erow).1
                rw [List.getElem?_set_self lt] at e2'
                cases e2'
                exact ⟨rr,_,ja,qx (Paired.mapP px1' fun _ _=>xj.fr f2) (uq1.fr f2)⟩
              · rw [List.getElem?_set_ne (fun y=>z y.symm)] at e2'
                obtain ⟨q1,q2,q3,q4⟩:=h2.2 i r' os e1' e2'
                obtain ⟨q5,q6⟩:=zi f2 q3 q1 (jo (by intro y; cases y; exact z rfl))
                exact ⟨q6,q2,q5,Paired.mapP q4 fun _ _=>xj.fr f2⟩
          have kr2:=kr1.put (a:=r) (o:=.lst (xs ++ [.ref q]))
          have uq2:=uq1.fr f2
          dsimp only
          generalize upd G1 r (.lst (xs ++ [.ref q])) = G2 at f2 O2 kr2 uq2
          refine ⟨_,rfl,W.x,W.dx,_,rfl,O2.ob.1,wof_no _ _ _ _ _ _ _ _ (by decide +kernel),_,rfl,ρ,id,W,_,true,q,⟨p,row.length,g,m⟩,rfl,O2,kr2,uq2,by show ω.way.length ≤ 100000; omega,hok.k1,fun G3 O3 f3 kr3=>⟨_,rfl,?_⟩⟩
          have fr:Fr (fun r=>r.1 = id) ρ H ρ G3:=((Fr.same (sG.trans s1)).trans (f2.mono fun r hr=>by rw [hr])).trans (f3.mono fun r hr=>by rw [hr])
          exact qM z' G3 q O3 fr kr3 (uq2.fr f3)
def CheatsAt (K:W.Frag) (H:Hp) (a:Addr) (ks:List Int) : Prop:=H a = some (.lst (ks.map V.int)) ∨ (ks = [] ∧ SqT K H a [])
def sp_rising (K:W.Frag) : Sp:=fun vs H Q _=>∃ a b ks,vs = [.ref a,.int b] ∧ CheatsAt K H a ks ∧ ks.Pairwise (· < ·) ∧ (∀ k ∈ ks,0 ≤ k ∧ k < b) ∧ Q (.bl true) H
theorem ok_are_rising (T:Txt K mg t) : FnOk P w K mg base CX0 3 t.f_are_rising t.d_are_rising ["things","bound"] (sp_rising K):=by
  refine T.F_are_rising.ok sc_are_rising (fun vs H Q E h=>?_) (fun cdv A outer s H vs Q E hr h=>?_)
  · obtain ⟨a,b,ks,rfl,_⟩:=h
    rfl
  · obtain ⟨a,b,ks,rfl,hc,up,rg,k⟩:=h
    refine ⟨_,(@jc _ _ _ _ _ (j7 (i:=2) sc_are_rising.nd rfl (Or.inl rfl) jj)
      (@jc _ _ _ _ _ (ps_for PassesOwn.never rfl (pi_seq (pv 0)) (qc (i:=3) sc_are_rising.nd rfl (Or.inl rfl)) (@jc _ _ _ _ _ (yc (pt_not (xu (j5 (qt T) (hr.mono (by decide)) rfl T.qy T.qo.kp T.za .nil jx (@pa_3 _ _ _ _ _ _ _ (pv 3) (pv 2) (pe_op op_sub (pv 1) jj) rfl rfl rfl)))) (@jf _ _ _ (j4 pe_bl)) qe)
      (@jf _ _ _ (j7 (i:=2) sc_are_rising.nd rfl (Or.inl rfl) (pe_op op_add (pv 3) jj)))))
      (@jf _ _ _ (j4 pe_bl)))),?_⟩
    rcases hc with ha | ⟨rfl,ha⟩
    · refine .inl ⟨_,rfl,a,rfl,⟨_,SqL.of ha⟩,for_list (K:=K) (a:=a) (xs:=ks.map V.int) (fun i σ H'=>∃ v l,σ = [some (.ref a),some (.int b),some (.int l),v] ∧ H' = H ∧ ∀ z ∈ ks.drop i,l ≤ z) ⟨none,0,rfl,rfl,fun z hz=>(rg z hz).1⟩ (fun i σ H' _ ⟨_,_,_,e,_⟩=>SqL.of (by rw [e]; exact ha)) ?_ ?_⟩
      · rintro i x σ H' hx ⟨v,l,rfl,rfl,hl⟩
        obtain ⟨z,ez,rfl⟩ : ∃ z,ks[i]? = some z ∧ x = .int z:=by
          rw [List.getElem?_map] at hx
          cases e:ks[i]? with
          | none=>rw [e] at hx; cases hx
          | some z=>rw [e] at hx; exact ⟨z,rfl,(Option.some.inj hx).symm⟩
        obtain ⟨hi,ez'⟩:=List.getElem?_eq_some_iff.mp ez
        have r:=rg z (List.mem_of_getElem? ez)
        have lz:l ≤ z:=hl z (by rw [List.drop_eq_getElem_cons hi,ez']; simp)
        refine ⟨_,rfl,_,rfl,_,rfl,_,_,rfl,rfl,_,_,_,rfl,?_⟩
        rw [decide_eq_true ⟨lz,(by omega:z ≤ b - 1)⟩]
        refine ⟨_,rfl,iteF ?_⟩
        refine ⟨_,rfl,_,_,rfl,rfl,_,_,rfl,rfl,fun y hy=>?_⟩
        obtain ⟨j,hj,e⟩:=List.mem_iff_getElem.mp hy
        rw [List.length_drop] at hj
        rw [List.getElem_drop] at e
        have:=List.pairwise_iff_getElem.mp up i (i + 1 + j) hi (by omega) (by omega)
        rw [ez',e] at this
        omega
      · rintro σ H' ⟨v,l,rfl,rfl,_⟩
        exact k
    · refine .inr ⟨_,rfl,a,rfl,⟨_,ha⟩,for_tup (K:=K) (a:=a) (xs:=[]) (fun i σ H'=>∃ v,σ = [some (.ref a),some (.int b),some (.int 0),v] ∧ H' = H) ⟨none,rfl,rfl⟩ (fun i σ H' _ ⟨_,_,e⟩=>by rw [e]; exact ha) (fun i x σ H' hx _=>by simp at hx) ?_⟩
      rintro σ H' ⟨v,rfl,rfl⟩
      exact k
theorem ok_is_rising_row (T:Txt K mg t) : FnOk P w K mg base CX0 4 t.f_is_rising_row t.d_is_rising_row ["thing","bound"] (fun vs H Q _=>∃ a b ks,vs = [.ref a,.int b] ∧ CheatsAt K H a ks ∧ ks.Pairwise (· < ·) ∧ (∀ k ∈ ks,0 ≤ k ∧ k < b) ∧ ∀ H',Same H H' → Q (.bl true) H'):=by
  refine T.F_is_rising_row.ok sc_is_rising_row (fun vs H Q E h=>?_) (fun cdv A outer s H vs Q E hr h=>?_)
  · obtain ⟨a,b,ks,rfl,_⟩:=h
    rfl
  · obtain ⟨a,b,ks,rfl,hc,up,rg,k⟩:=h
    refine ⟨_,(@jf _ _ _ (j4 (pe_and (ju call_isSeq rfl T.jy boot_isinstance (@pa_2 _ _ _ _ _ (pv 0) (@pe_tup _ _ _ _ _ (@pa_2 _ _ _ _ _ (pe_bltn (v:=.ty "list") rfl T.n_list boot_list rfl) (pe_bltn (v:=.ty "tuple") rfl T.n_tuple boot_tuple rfl) rfl rfl)) rfl rfl)) (pe_one (j5 (ok_are_rising T) (hr.mono (by decide)) rfl T.m_are_rising T.F_are_rising.kp T.b_are_rising .nil jx (@pa_2 _ _ _ _ _ (pv 0) (pv 1) rfl rfl)))))),?_⟩
    refine ⟨_,rfl,zs2,fun q hq=>?_⟩
    have s1:=ji (o:=.tup [.ty "list",.ty "tuple"]) hq
    have hc1:CheatsAt K (upd H q (.tup [.ty "list",.ty "tuple"])) a ks:=by
      rcases hc with h | ⟨e,h⟩
      · exact .inl (s1 _ _ h)
      · refine .inr ⟨e,?_⟩
        rcases h with h | h
        · exact .inl (rd_same s1 h)
        · exact .inr h
    refine ⟨a,q,rfl,ja,?_,?_⟩
    · rcases hc1 with h | ⟨_,h⟩
      · exact .inl ⟨_,SqL.of h⟩
      · exact .inr ⟨_,h⟩
    exact ⟨_,rfl,iteT ⟨_,rfl,_,rfl,a,b,ks,rfl,hc1,up,rg,k _ s1⟩⟩
theorem CheatsAt.same {K:W.Frag} {H H':Hp} {a:Addr} {ks:List Int} (s1:Same H H') (hc:CheatsAt K H a ks) : CheatsAt K H' a ks:=by
  rcases hc with h | ⟨e,h⟩
  · exact .inl (s1 _ _ h)
  · refine .inr ⟨e,?_⟩
    rcases h with h | h
    · exact .inl (rd_same s1 h)
    · exact .inr h
theorem CheatsAt.sq {K:W.Frag} {H:Hp} {a:Addr} {ks:List Int} (hc:CheatsAt K H a ks) : SqL K H a (ks.map V.int) ∨ SqT K H a (ks.map V.int):=by
  rcases hc with h | ⟨e,h⟩
  · exact .inl (SqL.of h)
  · subst e
    exact .inr h
theorem ok_is_house_count (T:Txt K mg t) : FnOk P w K mg base CX0 3 t.f_is_house_count t.d_is_house_count ["thing"] (fun vs H Q _=>∃ i,vs = [.int i] ∧ Q (.bl (decide (1 ≤ i ∧ i ≤ 16))) H):=by
  refine T.F_is_house_count.ok sc_is_house_count (fun vs H Q E h=>?_) (fun cdv A outer s H vs Q E hr h=>?_)
  · obtain ⟨x,rfl,_⟩:=h
    rfl
  · obtain ⟨x,rfl,k⟩:=h
    refine ⟨_,(@jf _ _ _ (j4 (j5 (qt T) (hr.mono (by decide)) rfl T.qy T.qo.kp T.za .nil jx (@pa_3 _ _ _ _ _ _ _ (pv 0) jj (zq (v:=.int 16) rfl T.c_MOST_HOUSES.choose_spec ⟨_,rfl⟩) rfl rfl rfl)))),?_⟩
    exact ⟨_,rfl,x,1,16,rfl,k⟩
theorem ok_is_few (T:Txt K mg t) : FnOk P w K mg base CX0 3 t.f_is_few t.d_is_few ["thing"] (fun vs H Q _=>∃ i,vs = [.int i] ∧ Q (.bl (decide (0 ≤ i ∧ i ≤ 5))) H):=by
  refine T.F_is_few.ok sc_is_few (fun vs H Q E h=>?_) (fun cdv A outer s H vs Q E hr h=>?_)
  · obtain ⟨x,rfl,_⟩:=h
    rfl
  · obtain ⟨x,rfl,k⟩:=h
    refine ⟨_,(@jf _ _ _ (j4 (j5 (qt T) (hr.mono (by decide)) rfl T.qy T.qo.kp T.za .nil jx (@pa_3 _ _ _ _ _ _ _ (pv 0) jj (zq (v:=.int 5) rfl T.c_MOST_FEW.choose_spec ⟨_,rfl⟩) rfl rfl rfl)))),?_⟩
    exact ⟨_,rfl,x,0,5,rfl,k⟩
theorem ok_outnumber (T:Txt K mg t) : FnOk P w K mg base CX0 1 t.f_outnumber t.d_outnumber ["houses","few"] (fun vs H Q _=>∃ h f:Int,vs = [.int h,.int f] ∧ Q (.bl (decide (h > 3 * f))) H):=by
  refine T.F_outnumber.ok sc_outnumber (fun vs H Q E h=>?_) (fun cdv A outer s H vs Q E hr h=>?_)
  · obtain ⟨i,j,rfl,_⟩:=h
    rfl
  · obtain ⟨i,j,rfl,q⟩:=h
    refine ⟨_,(@jf _ _ _ (j4 (pe_cmpR op_gt (pv 0) (pe_op op_mul jj (pv 1)) (zv _)))),?_⟩
    exact ⟨_,rfl,_,rfl,_,_,rfl,rfl,.inl (by decide),_,_,rfl,rfl,q⟩
theorem ok_enough_of (T:Txt K mg t) : FnOk P w K mg base CX0 1 t.f_enough_of t.d_enough_of ["houses","few"] (fun vs H Q _=>∃ i j:Int,vs = [.int i,.int j] ∧ Q (.int (i - j)) H):=by
  refine T.F_enough_of.ok sc_enough_of (fun vs H Q E h=>?_) (fun cdv A outer s H vs Q E hr h=>?_)
  · obtain ⟨i,j,rfl,_⟩:=h
    rfl
  · obtain ⟨i,j,rfl,q⟩:=h
    refine ⟨_,(@jf _ _ _ (j4 (pe_op op_sub (pv 0) (pv 1)))),?_⟩
    exact ⟨_,rfl,_,rfl,_,_,rfl,rfl,q⟩
theorem ok_are_sums (T:Txt K mg t) : FnOk P w K mg base CX0 3 t.f_are_sums t.d_are_sums ["thing"] (fun vs H Q _=>∃ a ns,vs = [.ref a] ∧ H a = some (.lst ((ns:List Int).map V.int)) ∧ 2 ≤ ns.length ∧ ns.length ≤ 8 ∧ (∀ i ∈ ns,0 ≤ i ∧ i ≤ 1000) ∧ ∀ H',Same H H' → Q (.bl true) H'):=by
  refine T.F_are_sums.ok sc_are_sums (fun vs H Q E h=>?_) (fun cdv A outer s H vs Q E hr h=>?_)
  · obtain ⟨a,ns,rfl,_⟩:=h
    rfl
  · obtain ⟨a,ns,rfl,e,l2,l8,rg,k⟩:=h
    refine ⟨_,(@jc _ _ _ _ _ (yc (PW.pt (pw_or (pt_not (xu (ju call_isinst rfl T.jy boot_isinstance (@pa_2 _ _ _ _ _ (pv 0) (pe_bltn (v:=.ty "list") rfl T.n_list boot_list rfl) rfl rfl)))) (pw_or1 (qr op_lt (ju j8 rfl T.n_len boot_len (jd (pv 0) jg)) (zq (v:=.int 2) rfl T.c_LEAST_PURSES.choose_spec ⟨_,rfl⟩) (zv _))))) (@jf _ _ _ (j4 pe_bl)) qe)
      (@jf _ _ _ (j4 (ju (call_all rfl) rfl T.n_all boot_all (jd (pe_lcomp (N':=["each"]) (ix:=[none]) (compOk_is (by kernel_rfl)) rfl (@pi_list _ _ _ _ (pv 0)) (fun _ _ _ _=>(qc (i:=0) nd_3 rfl (Or.inl rfl) (.inr rfl))) (fun _ _ _ _=>pif_nil) (fun _ _ _ _=>(j5 (qt T) (hr.mono (by decide)) rfl T.qy T.qo.kp T.za .nil jx (@pa_3 _ _ _ _ _ _ _ (pv 0) jj (zq (v:=.int 1000) rfl T.c_MOST_FIRST_SUM.choose_spec ⟨_,rfl⟩) rfl rfl rfl)))) jg))))),?_⟩
    refine ⟨_,rfl,_,_,_,true,rfl,.lst e,rfl,_,rfl,iteF ?_⟩
    refine ⟨_,rfl,a,_,rfl,.inl (SqL.of e),_,_,rfl,rfl,_,rfl,ite2 (fun h1=>?_) (fun h1=>?_)⟩
    · exfalso
      have:=of_decide_eq_true h1
      rw [List.length_map] at this
      omega
    refine ⟨_,rfl,a,rfl,⟨_,SqL.of e⟩,lc_list (K:=K) (a:=a) (xs:=ns.map V.int) (fun i ys σ' H'=>∃ v,σ' = [v] ∧ H' = H ∧ ys = (List.replicate i true).map V.bl) ⟨none,rfl,rfl,rfl⟩ ?_ ?_ ?_⟩
    · rintro i ys σ' H' hi ⟨v,rfl,rfl,rfl⟩
      refine ⟨SqL.of e,len1000 ?_⟩
      rw [List.length_map] at hi
      rw [List.length_map,List.length_replicate]
      omega
    · rintro i x ys σ' H' hx ⟨v,rfl,rfl,rfl⟩
      obtain ⟨z,ez,rfl⟩ : ∃ z,ns[i]? = some z ∧ x = .int z:=by
        rw [List.getElem?_map] at hx
        cases e:ns[i]? with
        | none=>rw [e] at hx; cases hx
        | some z=>rw [e] at hx; exact ⟨z,rfl,(Option.some.inj hx).symm⟩
      dsimp only [gName,tYes]
      rw [if_pos rfl]
      refine ⟨_,rfl,z,0,1000,rfl,?_⟩
      rw [decide_eq_true (rg z (List.mem_of_getElem? ez))]
      refine ⟨_,rfl,rfl,?_⟩
      rw [List.replicate_succ',List.map_append]
      rfl
    · rintro ys σ' H' ⟨v,rfl,rfl,rfl⟩ q hq
      refine ⟨q,List.replicate (ns.map V.int).length true,rfl,SqL.of ja,?_⟩
      have g:=k _ (ji (o:=.lst ((List.replicate (ns.map V.int).length true).map V.bl)) hq)
      rw [show (List.replicate (ns.map V.int).length true).all id = true by simp]
      exact g
theorem ok_are_first_sums (T:Txt K mg t) : FnOk P w K mg base CX0 4 t.f_are_first_sums t.d_are_first_sums ["thing"] (fun vs H Q _=>∃ a ns,vs = [.ref a] ∧ H a = some (.lst ((ns:List Int).map V.int)) ∧ 2 ≤ ns.length ∧ ns.length ≤ 8 ∧ (∀ i ∈ ns,0 ≤ i ∧ i ≤ 1000) ∧ ∀ H',Same H H' → Q (.bl true) H'):=by
  refine T.F_are_first_sums.ok sc_are_first_sums (fun vs H Q E h=>?_) (fun cdv A outer s H vs Q E hr h=>?_)
  · obtain ⟨a,ns,rfl,_⟩:=h
    rfl
  · obtain ⟨a,ns,rfl,e,l2,l8,rg,k⟩:=h
    refine ⟨_,(@jf _ _ _ (j4 (pe_and (j5 (ok_are_sums T) (hr.mono (by decide)) rfl T.m_are_sums T.F_are_sums.kp T.b_are_sums .nil jx (jd (pv 0) jg)) (pe_one (pe_cmpR op_le (ju j8 rfl T.n_len boot_len (jd (pv 0) jg)) (zq (v:=.int 8) rfl T.c_MOST_PURSES.choose_spec ⟨_,rfl⟩) (zv _)))))),?_⟩
    refine ⟨_,rfl,a,ns,rfl,e,l2,l8,rg,fun H1 s1=>⟨_,rfl,iteT ?_⟩⟩
    refine ⟨_,rfl,a,_,rfl,.inl (SqL.of (s1 _ _ e)),_,_,rfl,rfl,?_⟩
    have g:=k H1 s1
    show Q (.bl (decide (((ns.map V.int).length:Int) ≤ 8))) H1
    rw [show decide (((ns.map V.int).length:Int) ≤ 8) = true from decide_eq_true (by rw [List.length_map]; omega)]
    exact g
theorem ok_check_houses (T:Txt K mg t) : FnOk P w K mg base CX0 5 t.f_check_houses t.d_check_houses ["houses","few","liars"] (fun vs H Q _=>∃ h f a ks,vs = [.int h,.int f,.ref a] ∧ (1 ≤ h ∧ h ≤ 16) ∧ (0 ≤ f ∧ f ≤ 5) ∧ 3 * f < h ∧ CheatsAt K H a ks ∧ ks.Pairwise (· < ·) ∧ (∀ k ∈ ks,0 ≤ k ∧ k < h) ∧ (ks.length:Int) ≤ f ∧ ∀ H',Same H H' → Q .non H'):=by
  refine T.F_check_houses.ok sc_check_houses (fun vs H Q E h=>?_) (fun cdv A outer s H vs Q E hr h=>?_)
  · obtain ⟨hs,fw,a,ks,rfl,_⟩:=h
    rfl
  · obtain ⟨h,f,a,ks,rfl,h1,f1,lt,hc,up,rg,l,k⟩:=h
    refine ⟨_,(@jc _ _ _ _ _ (yc (PW.pt (pw_or (pt_not (xu (j5 (ok_is_house_count T) (hr.mono (by decide)) rfl T.m_is_house_count T.F_is_house_count.kp T.b_is_house_count .nil jx (jd (pv 0) jg)))) (pw_or1 (pt_not (xu (j5 (ok_is_few T) (hr.mono (by decide)) rfl T.m_is_few T.F_is_few.kp T.b_is_few .nil jx (jd (pv 1) jg))))))) zu qe)
      (@jc _ _ _ _ _ (yc (pt_not (xu (pe_callK (ok_outnumber T) (hr.mono (by decide)) rfl T.m_outnumber T.F_outnumber.kp T.bk0_outnumber jx (jd (pv 0) jg) (pk_cons (pv 1) pk_nil)))) zu qe)
      (@jf _ _ _ (yc (PW.pt (pw_or (pt_not (xu (j5 (ok_is_rising_row T) (hr.mono (by decide)) rfl T.m_is_rising_row T.F_is_rising_row.kp T.b_is_rising_row .nil jx (@pa_2 _ _ _ _ _ (pv 2) (pv 0) rfl rfl)))) (pw_or1 (qr op_gt (ju j8 rfl T.n_len boot_len (jd (pv 2) jg)) (pv 1) (zv _))))) zu qe)))),?_⟩
    refine ⟨_,rfl,h,rfl,_,rfl,?_⟩
    rw [decide_eq_true h1]
    refine iteF ⟨_,rfl,f,rfl,_,rfl,?_⟩
    rw [decide_eq_true f1]
    refine iteF ⟨_,rfl,_,rfl,h,f,rfl,_,rfl,?_⟩
    rw [decide_eq_true (by omega)]
    refine iteF ⟨_,rfl,_,rfl,a,h,ks,rfl,hc,up,rg,fun H1 s1=>⟨_,rfl,iteF ?_⟩⟩
    refine ⟨_,rfl,a,_,rfl,(hc.same s1).sq,_,rfl,_,_,rfl,rfl,_,rfl,ite2 (fun z=>?_) (fun _=>k _ s1)⟩
    exfalso
    have:=of_decide_eq_true z
    rw [List.length_map] at this
    omega
theorem ok_check_purses (T:Txt K mg t) : FnOk P w K mg base CX0 5 t.f_check_purses t.d_check_purses ["sums","cheats"] (fun vs H Q _=>∃ a ns b ks,vs = [.ref a,.ref b] ∧ H a = some (.lst ((ns:List Int).map V.int)) ∧ 2 ≤ ns.length ∧ ns.length ≤ 8 ∧ (∀ i ∈ ns,0 ≤ i ∧ i ≤ 1000) ∧ CheatsAt K H b ks ∧ ks.Pairwise (· < ·) ∧ (∀ k ∈ ks,0 ≤ k ∧ k < (ns.length:Int)) ∧ ∀ H',Same H H' → Q .non H'):=by
  refine T.F_check_purses.ok sc_check_purses (fun vs H Q E h=>?_) (fun cdv A outer s H vs Q E hr h=>?_)
  · obtain ⟨a,ns,b,ks,rfl,_⟩:=h
    rfl
  · obtain ⟨a,ns,b,ks,rfl,e,l2,l8,r1,hc,up,rg,k⟩:=h
    refine ⟨_,(@jc _ _ _ _ _ (yc (pt_not (xu (j5 (ok_are_first_sums T) (hr.mono (by decide)) rfl T.m_are_first_sums T.F_are_first_sums.kp T.b_are_first_sums .nil jx (jd (pv 0) jg)))) zu qe)
      (@jf _ _ _ (yc (pt_not (xu (j5 (ok_is_rising_row T) (hr.mono (by decide)) rfl T.m_is_rising_row T.F_is_rising_row.kp T.b_is_rising_row .nil jx (@pa_2 _ _ _ _ _ (pv 1) (ju j8 rfl T.n_len boot_len (jd (pv 0) jg)) rfl rfl)))) zu qe))),?_⟩
    refine ⟨_,rfl,a,ns,rfl,e,l2,l8,r1,fun H1 s1=>⟨_,rfl,iteF ?_⟩⟩
    refine ⟨_,rfl,_,rfl,a,_,rfl,.inl (SqL.of (s1 _ _ e)),b,_,ks,rfl,hc.same s1,up,fun k hk=>?_,fun H2 s2=>⟨_,rfl,iteF (k _ (s1.trans s2))⟩⟩
    rw [List.length_map]
    exact rg k hk
def PK (H:Hp) (ρ : Rho) (id:Nat) (h:Int) (L:List (Nat × Addr × HO)) : Prop:=∀ x ∈ L,1 ≤ x.1 ∧ ρ x.2.1 = some (id,.kp h x.1) ∧ H x.2.1 = some x.2.2
theorem PK.new {H:Hp} {ρ : Rho} {id:Nat} {h:Int} {L:List (Nat × Addr × HO)} {p:Addr} {f:Nat} {u:HO} (k:PK H ρ id h L) (n:H p = none) (hf : 1 ≤ f) : PK (upd H p u) (zm ρ p (id,.kp h f)) id h ((f,p,u) :: L):=fun x hx=>by
  rcases List.mem_cons.mp hx with rfl | hx
  · exact ⟨hf,j3,ja⟩
  · obtain ⟨a,b,c⟩:=k x hx
    have:x.2.1 ≠ p:=jh c n
    exact ⟨a,by rw [qf this]; exact b,by rw [je this]; exact c⟩
theorem PK.obj {H:Hp} {ρ : Rho} {id:Nat} {h:Int} {L:List (Nat × Addr × HO)} {x:Addr} {o:HO} (k:PK H ρ id h L) (rx : ρ x = some (id,.kp h 0)) : PK (upd H x o) ρ id h L:=fun y hy=>by
  obtain ⟨a,b,c⟩:=k y hy
  exact ⟨a,b,by rw [je (ner b rx (fun z=>by have e:=(Part.kp.inj (Prod.mk.inj z).2).2; omega))]; exact c⟩
theorem PK.same {H H':Hp} {ρ : Rho} {id:Nat} {h:Int} {L:List (Nat × Addr × HO)} (s:Same H H') (k:PK H ρ id h L) : PK H' ρ id h L:=fun y hy=>let ⟨a,b,c⟩:=k y hy; ⟨a,b,s _ _ c⟩
theorem PK.at_ {H:Hp} {ρ : Rho} {id:Nat} {h:Int} {L:List (Nat × Addr × HO)} (k:PK H ρ id h L) (j:Nat) {f:Nat} {a:Addr} {u:HO} (e:L[j]? = some (f,a,u)) : ρ a = some (id,.kp h f) ∧ H a = some u:=(k _ (List.mem_of_getElem? e)).2
structure Mk (t:Ad) (ρ0:Rho) (H0:Hp) (id:Nat) (h:Int) (x dx:Addr) (fs:List (Str × V)) (L:List (Nat × Addr × HO)) (ρ : Rho) (H:Hp) : Prop where
  ob:H x = some (.ins t.jw dx fs)
  rx : ρ x = some (id,.kp h 0)
  pk:PK H ρ id h L
  fr:Fr (isK id h) ρ0 H0 ρ H
  kr:OkR ρ H
section
variable {t:Ad} {ρ0 ρ : Rho} {H0 H H':Hp} {id:Nat} {h:Int} {x dx:Addr} {fs fs':List (Str × V)} {L:List (Nat × Addr × HO)}
theorem Mk.new {p:Addr} {u:HO} (f:Nat) (m:Mk t ρ0 H0 id h x dx fs L ρ H) (n:H p = none) (hf : 1 ≤ f) (hu:noTup u:=by exact True.intro) : Mk t ρ0 H0 id h x dx fs ((f,p,u) :: L) (zm ρ p (id,.kp h f)) (upd H p u):=by
  have nx:x ≠ p:=jh m.ob n
  exact ⟨by rw [je nx]; exact m.ob,by rw [qf nx]; exact m.rx,m.pk.new n hf,m.fr.trans (Fr.newR n),m.kr.newR hu⟩
theorem Mk.tmp (m:Mk t ρ0 H0 id h x dx fs L ρ H) (s:Same H H') : Mk t ρ0 H0 id h x dx fs L ρ H':=⟨s _ _ m.ob,m.rx,m.pk.same s,m.fr.trans (Fr.same s),m.kr.same s⟩
theorem Mk.obj (m:Mk t ρ0 H0 id h x dx fs L ρ H) : Mk t ρ0 H0 id h x dx fs' L ρ (upd H x (.ins t.jw dx fs')):=⟨ja,m.rx,m.pk.obj m.rx,m.fr.trans (Fr.put m.rx ⟨0,rfl⟩),m.kr.put⟩
end
theorem ok_Book___init__ (T:Txt K mg t) : FnOk P w K mg base CX0 1 t.f_Book___init__ t.d_Book___init__ ["self","sums"] (fun vs H Q _=>∃ ρ id h x dx sa,∃ ns:List Int,vs = [.ref x,.ref sa] ∧ H x = some (.ins t.jw dx []) ∧ ρ x = some (id,.kp h 0) ∧ OkR ρ H ∧ H sa = some (.lst (ns.map V.int)) ∧ ns.length ≤ 1000 ∧
    ∀ ρ' H' he nn dn,Mk t ρ H id h x dx (bkf he nn dn) [(3,dn,.lst []),(2,nn,.lst ((List.replicate ns.length 0).map V.int)),(1,he,.lst (ns.map V.int))] ρ' H' → Q .non H'):=by
  refine T.F_Book___init__.ok sc_Book___init__ (fun vs H Q E h=>?_) (fun cdv A outer s H vs Q E hr h=>?_)
  · obtain ⟨ρ,id,h,x,dx,sa,ns,rfl,_⟩:=h
    rfl
  · obtain ⟨ρ,id,h,x,dx,sa,ns,rfl,hx,rx,kr,hs,ln,k⟩:=h
    refine ⟨_,(@jc _ _ _ _ _ (ps_fld (pv 0) (pe_callTy ye rfl T.n_list boot_list (jd (pv 1) jg)) rfl)
      (@jc _ _ _ _ _ (ps_fld (pv 0) (pe_op op_rep (@qd _ _ _ _ (jd jj jg)) (ju j8 rfl T.n_len boot_len (jd (pv 1) jg))) rfl)
      (@jf _ _ _ (ps_fld (pv 0) (@qd _ _ _ _ jg) rfl)))),?_⟩
    have m0:Mk t ρ H id h x dx [] [] ρ H:=⟨hx,rx,(fun _ z=>by cases z),Fr.refl,kr⟩
    have sx:sa ≠ x:=ne_of hs hx (by intro z; cases z)
    refine ⟨_,rfl,sa,_,rfl,.inl (SqL.of hs),fun he nh=>?_⟩
    have m1:=m0.new 1 nh (u:=.lst (ns.map V.int)) (by decide)
    have hs1:=ji (o:=.lst (ns.map V.int)) nh _ _ hs
    refine ⟨_,rfl,x,_,dx,_,rfl,m1.ob,T.jm,T.xq,(by show 0 < 1000; decide),?_⟩
    have m2:=m1.obj (fs':=j9 "held" (.ref he) [])
    have hs2:upd (upd H he (.lst (ns.map V.int))) x (.ins t.jw dx (j9 "held" (.ref he) [])) sa = some (.lst (ns.map V.int)):=by rw [je sx]; exact hs1
    dsimp only
    generalize upd (upd H he (.lst (ns.map V.int))) x (.ins t.jw dx (j9 "held" (.ref he) [])) = G at m2 hs2
    refine ⟨zs1,fun z1 n1=>⟨_,rfl,sa,_,rfl,.inl (SqL.of ((ji n1) _ _ hs2)),?_⟩⟩
    have m3:=m2.tmp (ji (o:=.lst [.int 0]) n1)
    refine ⟨z1,_,[.int 0],rfl,rfl,ja,?_,?_,?_,fun nn n2=>?_⟩
    · omega
    · rw [List.length_map]; have:=line63; omega
    · rw [List.length_map]; exact len1000 (by simp; omega)
    have er:(List.replicate (((ns.map V.int).length:Nat) : Int).toNat [V.int 0]).flatten = (List.replicate ns.length 0).map V.int:=by
      rw [Int.toNat_natCast,List.length_map,List.map_replicate]
      generalize ns.length = n
      induction n with
      | zero=>rfl
      | succ n ih=>rw [List.replicate_succ,List.flatten_cons,ih,List.replicate_succ]; rfl
    rw [er]
    have m4:=m3.new 2 n2 (u:=.lst ((List.replicate ns.length 0).map V.int)) (by decide)
    generalize upd (upd G z1 (.lst [.int 0])) nn (.lst ((List.replicate ns.length 0).map V.int)) = G4 at m4
    refine ⟨_,rfl,x,_,dx,_,rfl,m4.ob,T.jm,T.zc,(by show 1 < 1000; decide),?_⟩
    have m5:=m4.obj (fs':=j9 "next_numbers" (.ref nn) (j9 "held" (.ref he) []))
    dsimp only
    generalize upd G4 x (.ins t.jw dx (j9 "next_numbers" (.ref nn) (j9 "held" (.ref he) []))) = G5 at m5
    refine ⟨zs0,fun dn n3=>⟨_,rfl,x,_,dx,_,rfl,(m5.new 3 n3 (u:=.lst []) (by decide)).ob,T.jm,T.na_Keeper_done,(by show 2 < 1000; decide),?_⟩⟩
    exact k _ _ he nn dn ((m5.new 3 n3 (u:=.lst []) (by decide)).obj)
def kp0 (ns:List Int) : Kp:=⟨ns,List.replicate ns.length 0,[],[],[],[],[]⟩
theorem ok_Keeper___init__ (T:Txt K mg t) : FnOk P w K mg base CX0 2 t.f_Keeper___init__ t.d_Keeper___init__ ["self","sums"] (fun vs H Q _=>∃ ρ id h x dx sa,∃ ns:List Int,vs = [.ref x,.ref sa] ∧ H x = some (.ins t.jw dx []) ∧ ρ x = some (id,.kp h 0) ∧ OkR ρ H ∧ H sa = some (.lst (ns.map V.int)) ∧ ns.length ≤ 1000 ∧
    ∀ ρ' H' A,xi t H' ρ' id h x A dx (kp0 ns) → Fr (isK id h) ρ H ρ' H' → OkR ρ' H' → Q .non H'):=by
  refine T.F_Keeper___init__.ok sc_Keeper___init__ (fun vs H Q E h=>?_) (fun cdv A outer s H vs Q E hr h=>?_)
  · obtain ⟨ρ,id,h,x,dx,sa,ns,rfl,_⟩:=h
    rfl
  · obtain ⟨ρ,id,h,x,dx,sa,ns,rfl,hx,rx,kr,hs,ln,k⟩:=h
    refine ⟨_,(@jc _ _ _ _ _ (zd (pe_clsM rfl T.m_Book T.cm_Book___init__ (ok_Book___init__ T) (hr.mono (by decide)) T.b_Book___init__ .nil jx (@pa_2 _ _ _ _ _ (pv 0) (pv 1) rfl rfl)))
      (@jc _ _ _ _ _ (ps_fld (pv 0) pe_dnewT rfl)
      (@jc _ _ _ _ _ (ps_fld (pv 0) (@qd _ _ _ _ jg) rfl)
      (@jc _ _ _ _ _ (ps_fld (pv 0) pe_dnewT rfl)
      (@jf _ _ _ (ps_fld (pv 0) (@qd _ _ _ _ jg) rfl)))))),?_⟩
    refine ⟨_,rfl,_,rfl,ρ,id,h,x,dx,sa,ns,rfl,hx,rx,kr,hs,ln,fun ρ1 H1 he nn dn m1=>?_⟩
    refine fun hd n1=>⟨_,rfl,x,_,dx,_,rfl,(m1.new 4 n1 (u:=.dT []) (by decide)).ob,T.jm,T.na_Keeper_heard,(by show 3 < 1000; decide),?_⟩
    have m2:=(m1.new 4 n1 (u:=.dT []) (by decide)).obj (fs':=j9 "heard" (.ref hd) (bkf he nn dn))
    dsimp only
    generalize upd (upd H1 hd (.dT [])) x (.ins t.jw dx (j9 "heard" (.ref hd) (bkf he nn dn))) = G2 at m2
    refine ⟨zs0,fun un n2=>⟨_,rfl,x,_,dx,_,rfl,(m2.new 5 n2 (u:=.lst []) (by decide)).ob,T.jm,T.x9,(by show 4 < 1000; decide),?_⟩⟩
    have m3:=(m2.new 5 n2 (u:=.lst []) (by decide)).obj (fs':=j9 "unvoted" (.ref un) (j9 "heard" (.ref hd) (bkf he nn dn)))
    dsimp only
    generalize upd (upd G2 un (.lst [])) x (.ins t.jw dx (j9 "unvoted" (.ref un) (j9 "heard" (.ref hd) (bkf he nn dn)))) = G3 at m3
    refine fun cs n3=>⟨_,rfl,x,_,dx,_,rfl,(m3.new 6 n3 (u:=.dT []) (by decide)).ob,T.jm,T.zy,(by show 5 < 1000; decide),?_⟩
    have m4:=(m3.new 6 n3 (u:=.dT []) (by decide)).obj (fs':=j9 "choices" (.ref cs) (j9 "unvoted" (.ref un) (j9 "heard" (.ref hd) (bkf he nn dn))))
    dsimp only
    generalize upd (upd G3 cs (.dT [])) x (.ins t.jw dx (j9 "choices" (.ref cs) (j9 "unvoted" (.ref un) (j9 "heard" (.ref hd) (bkf he nn dn))))) = G4 at m4
    refine ⟨zs0,fun wt n4=>⟨_,rfl,x,_,dx,_,rfl,(m4.new 7 n4 (u:=.lst []) (by decide)).ob,T.jm,T.zj,(by show 6 < 1000; decide),?_⟩⟩
    have m5:=(m4.new 7 n4 (u:=.lst []) (by decide)).obj (fs':=kf he nn dn hd un cs wt)
    refine k _ _ (fun f=>match f with | 1=>he | 2=>nn | 3=>dn | 4=>hd | 5=>un | 6=>cs | _=>wt) ⟨m5.ob,m5.rx,fun f h1 h7=>?_⟩ m5.fr m5.kr
    have p:=m5.pk
    match f,h1,h7 with
    | 1,_,_=>exact ⟨(p.at_ 6 rfl).1,_,(p.at_ 6 rfl).2,rfl⟩
    | 2,_,_=>exact ⟨(p.at_ 5 rfl).1,_,(p.at_ 5 rfl).2,rfl⟩
    | 3,_,_=>exact ⟨(p.at_ 4 rfl).1,_,(p.at_ 4 rfl).2,[],rfl,.nil⟩
    | 4,_,_=>exact ⟨(p.at_ 3 rfl).1,_,(p.at_ 3 rfl).2,[],rfl,rfl⟩
    | 5,_,_=>exact ⟨(p.at_ 2 rfl).1,_,(p.at_ 2 rfl).2,[],rfl,.nil⟩
    | 6,_,_=>exact ⟨(p.at_ 1 rfl).1,_,(p.at_ 1 rfl).2,[],rfl,.nil⟩
    | 7,_,_=>exact ⟨(p.at_ 0 rfl).1,_,(p.at_ 0 rfl).2,[],rfl,.nil⟩
def CheatsU (K:W.Frag) (H:Hp) (ρ : Rho) (id:Nat) (a:Addr) (ks:List Int) : Prop:=(H a = some (.lst (ks.map V.int)) ∧ ∀ r,ρ a = some r → ¬ r.1 = id) ∨ (ks = [] ∧ ∃ (o:Obj) (its:Array Value) (n:Nat),K.lookup a = some o ∧ o.cls = .type "tuple" ∧ o.data = .seq its n ∧ its.size ≤ sizeLine ∧ Vals [] its.toList)
theorem CheatsU.at_ {K:W.Frag} {H:Hp} {ρ : Rho} {id:Nat} {a:Addr} {ks:List Int} (h:CheatsU K H ρ id a ks) : CheatsAt K H a ks:=h.imp (fun q=>q.1) (fun q=>⟨q.1,.inr q.2⟩)
theorem CheatsU.fr {K:W.Frag} {H H':Hp} {ρ ρ':Rho} {id:Nat} {a:Addr} {ks:List Int} (f:Fr (fun r=>r.1 = id) ρ H ρ' H') (h:CheatsU K H ρ id a ks) : CheatsAt K H' a ks:=by
  rcases h with ⟨h,n⟩ | ⟨e,h⟩
  · exact .inl (f a _ h n).1
  · exact .inr ⟨e,.inr h⟩
theorem yg.fr' {t:Ad} {P:Role → Prop} {ρ ρ':Rho} {H H':Hp} {id:Nat} (f:Fr P ρ H ρ' H') : ∀ {kvs:List (Key × V)} {ks:List (Int × Kp)},(∀ c ∈ ks,∀ j,¬ P (id,.kp c.1 j)) → yg t H ρ id kvs ks → yg t H' ρ' id kvs ks
  | _,_,_,.nil=>.nil
  | _,c :: _,n,.cons ⟨e,k,A,dk,ek,q⟩ r=>.cons ⟨e,k,A,dk,ek,q.fr (n c List.mem_cons_self) f⟩ (yg.fr' f (fun c' hc=>n c' (List.mem_cons_of_mem _ hc)) r)
def allI (id:Nat) : Role → Prop:=fun r=>r.1 = id
structure MkW (t:Ad) (ρ0:Rho) (H0:Hp) (id:Nat) (x dx:Addr) (fs:List (Str × V)) (ρ : Rho) (H:Hp) : Prop where
  ob:H x = some (.ins t.jv dx fs)
  rx : ρ x = some (id,.x)
  fr:Fr (allI id) ρ0 H0 ρ H
  kr:OkR ρ H
section
variable {t:Ad} {ρ0 ρ ρ':Rho} {H0 H H':Hp} {id:Nat} {x dx:Addr} {fs fs':List (Str × V)} {P:Role → Prop}
theorem MkW.step (m:MkW t ρ0 H0 id x dx fs ρ H) (f:Fr P ρ H ρ' H') (n : ¬ P (id,.x)) (hP : ∀ r,P r → r.1 = id) (kr:OkR ρ' H') : MkW t ρ0 H0 id x dx fs ρ' H':=by
  obtain ⟨e,r⟩:=zi f m.ob m.rx n
  exact ⟨e,r,m.fr.trans (f.mono hP),kr⟩
theorem MkW.tmp (m:MkW t ρ0 H0 id x dx fs ρ H) (s:Same H H') : MkW t ρ0 H0 id x dx fs ρ H':=m.step (P:=fun _=>False) (Fr.same s) (fun z=>z) (fun _ z=>z.elim) (m.kr.same s)
theorem MkW.new {p:Addr} {u:HO} {r:Role} (m:MkW t ρ0 H0 id x dx fs ρ H) (n:H p = none) (hu:noTup u:=by exact True.intro) : MkW t ρ0 H0 id x dx fs (zm ρ p r) (upd H p u):=m.step (P:=fun _=>False) (Fr.newR n) (fun z=>z) (fun _ z=>z.elim) (m.kr.newR hu)
theorem MkW.obj (m:MkW t ρ0 H0 id x dx fs ρ H) : MkW t ρ0 H0 id x dx fs' ρ (upd H x (.ins t.jv dx fs')):=⟨ja,m.rx,m.fr.trans (Fr.put m.rx rfl),m.kr.put⟩
theorem MkW.fo (m:MkW t ρ0 H0 id x dx fs ρ H) : Fr (isP id .x) ρ H ρ (upd H x (.ins t.jv dx fs')):=Fr.put m.rx rfl
end
def w0 (h f:Int) (ns cs:List Int) : Wd:=⟨ns.length,cs,(List.range h.toNat).map fun (i:Nat)=>((i:Int),kp0 ns),[],h - f,List.replicate ns.length [],[]⟩
def sp_winit (K:PySem.W.Frag) (t:Ad) : Sp:=fun vs H Q _=>∃ ρ id x dx h f sa ns la ca cs,vs = [.ref x,.int h,.int f,.ref sa,.ref la,.ref ca] ∧ H x = some (.ins t.jv dx []) ∧ ρ x = some (id,.x) ∧ OkR ρ H ∧ (1 ≤ h ∧ h ≤ 16) ∧ (0 ≤ f ∧ f ≤ 5) ∧ 3 * f < h ∧
  H sa = some (.lst ((ns:List Int).map V.int)) ∧ (∀ r,ρ sa = some r → ¬ allI id r) ∧ 2 ≤ ns.length ∧ ns.length ≤ 8 ∧ (∀ i ∈ ns,0 ≤ i ∧ i ≤ 1000) ∧ CheatsU K H ρ id la [] ∧ CheatsU K H ρ id ca cs ∧ cs.Pairwise (· < ·) ∧ (∀ k ∈ cs,0 ≤ k ∧ k < (ns.length:Int)) ∧
  ∀ ρ' H' W,W.x = x → jz t H' ρ' id W (w0 h f ns cs) → Fr (allI id) ρ H ρ' H' → OkR ρ' H' → Q .non H'
set_option maxHeartbeats 0 in
theorem ok_World___init__ (T:Txt K mg t) : FnOk P w K mg base CX0 6 t.f_World___init__ t.d_World___init__ ["self","houses","few","sums","liars","cheats"] (sp_winit K t):=by
  refine T.F_World___init__.ok sc_World___init__ (fun vs H Q E h=>?_) (fun cdv A outer s H vs Q E hr h=>?_)
  · obtain ⟨ρ,id,x,dx,h,f,sa,ns,la,ca,cs,rfl,_⟩:=h
    rfl
  · obtain ⟨ρ,id,x,dx,h,f,sa,ns,la,ca,cs,rfl,hx,rx,kr,h1,f1,lt,hs,nsa,l2,l8,rg,ula,uca,up,rgc,k⟩:=h
    have hla:=ula.at_
    have hca:=uca.at_
    refine ⟨_,(@jc _ _ _ _ _ (zd (pe_callK (ok_check_houses T) (hr.mono (by decide)) rfl T.m_check_houses T.F_check_houses.kp T.bk0_check_houses jx (jd (pv 1) jg) (pk_cons (pv 2) (pk_cons (pv 4) pk_nil))))
      (@jc _ _ _ _ _ (zd (pe_callK (ok_check_purses T) (hr.mono (by decide)) rfl T.m_check_purses T.F_check_purses.kp T.bk0_check_purses jx (jd (pv 3) jg) (pk_cons (pv 5) pk_nil)))
      (@jc _ _ _ _ _ (ps_fld (pv 0) (ju j8 rfl T.n_len boot_len (jd (pv 3) jg)) rfl)
      (@jc _ _ _ _ _ (ps_fld (pv 0) (ju (call_sum rfl) rfl T.n_sum boot_sum (jd (pv 3) jg)) rfl)
      (@jc _ _ _ _ _ (ps_fld (pv 0) (pe_callTy ye rfl T.n_list boot_list (jd (pv 4) jg)) rfl)
      (@jc _ _ _ _ _ (ps_fld (pv 0) (pe_callTy ye rfl T.n_list boot_list (jd (pv 5) jg)) rfl)
      (@jc _ _ _ _ _ (ps_fld (pv 0) (pe_dcomp (.dK []) (.inl rfl) (hu_of hr) (N':=["house","sums","liars"]) (ix:=[none,some 3,some 4]) (compOk_is (by kernel_rfl)) rfl (pi_range1 rfl T.n_range (jd (pv 1) jg)) (fun _ _ _ _=>(qc (i:=0) nd_5 rfl (Or.inl rfl) (.inr rfl))) (fun _ _ _ _=>(pif_one (qr (op_notIn_seqK (K:=K) rfl) (pv 0) (pv 2) (by with_unfolding_all rfl)))) (fun _ _ _ _=>(pv 0)) (fun _ _ _ _=>(pe_make T.mk_Keeper (ok_Keeper___init__ T) (hr.mono (by decide)) rfl T.m_Keeper T.b_Keeper___init__ .nil jx (jd (pv 1) jg)))) rfl)
      (@jc _ _ _ _ _ (ps_fld (pv 0) (pe_make T.mk_Board (ok_Board___init__ T) (hr.mono (by decide)) rfl T.m_Board T.b_Board___init__ .nil jx (jd (pe_callK (ok_enough_of T) (hr.mono (by decide)) rfl T.m_enough_of T.F_enough_of.kp T.bk0_enough_of jx (jd (pv 1) jg) (pk_cons (pv 2) pk_nil)) jg)) rfl)
      (@jc _ _ _ _ _ (ps_fld (pv 0) (pe_lcomp (N':=["each"]) (ix:=[none]) (compOk_is (by kernel_rfl)) rfl (@pi_list _ _ _ _ (pv 3)) (fun _ _ _ _=>(qc (i:=0) nd_4 rfl (Or.inl rfl) (.inr rfl))) (fun _ _ _ _=>pif_nil) (fun _ _ _ _=>(@qd _ _ _ _ jg))) rfl)
      (@jf _ _ _ (ps_fld (pv 0) (@qd _ _ _ _ jg) rfl))))))))))),?_⟩
    refine ⟨_,rfl,_,rfl,_,rfl,h,f,la,[],rfl,h1,f1,lt,hla,.nil,(fun _ z=>by cases z),f1.1,fun H1 s1=>?_⟩
    refine ⟨_,rfl,_,rfl,sa,ns,ca,cs,rfl,s1 _ _ hs,l2,l8,rg,hca.same s1,up,rgc,fun H2 s2=>?_⟩
    have m2:MkW t ρ H id x dx [] ρ H2:=MkW.tmp ⟨hx,rx,Fr.refl,kr⟩ (s1.trans s2)
    have sa_ : ∀ {ρ' H' fs},MkW t ρ H id x dx fs ρ' H' → H' sa = some (.lst (ns.map V.int)):=fun m=>(m.fr _ _ hs nsa).1
    have la_ : ∀ {ρ' H' fs},MkW t ρ H id x dx fs ρ' H' → CheatsAt K H' la []:=fun m=>ula.fr m.fr
    have ca_ : ∀ {ρ' H' fs},MkW t ρ H id x dx fs ρ' H' → CheatsAt K H' ca cs:=fun m=>uca.fr m.fr
    refine ⟨_,rfl,sa,_,rfl,.inl (SqL.of (sa_ m2)),_,rfl,x,_,dx,_,rfl,m2.ob,T.jn,T.na_World_purses,(by show 0 < 1000; decide),?_⟩
    have m3:=m2.obj (fs':=j9 "purses" (.int (ns.map V.int).length) [])
    dsimp only
    generalize upd H2 x (.ins t.jv dx (j9 "purses" (.int (ns.map V.int).length) [])) = G3 at m3
    refine ⟨_,rfl,sa,ns,rfl,SqL.of (sa_ m3),_,rfl,x,_,dx,_,rfl,m3.ob,T.jn,T.na_World_total,(by show 1 < 1000; decide),?_⟩
    have m4:=m3.obj (fs':=j9 "total" (.int ns.sum) (j9 "purses" (.int (ns.map V.int).length) []))
    dsimp only
    generalize upd G3 x (.ins t.jv dx (j9 "total" (.int ns.sum) (j9 "purses" (.int (ns.map V.int).length) []))) = G4 at m4
    refine ⟨_,rfl,la,_,rfl,(la_ m4).sq,fun ly nly=>?_⟩
    have m5:=m4.tmp (ji (o:=.lst (([] : List Int).map V.int)) nly)
    refine ⟨_,rfl,x,_,dx,_,rfl,m5.ob,T.jn,T.na_World_lying,(by show 2 < 1000; decide),?_⟩
    have m6:=m5.obj (fs':=j9 "lying" (.ref ly) (j9 "total" (.int ns.sum) (j9 "purses" (.int (ns.map V.int).length) [])))
    dsimp only
    generalize upd (upd G4 ly (.lst (([] : List Int).map V.int))) x (.ins t.jv dx (j9 "lying" (.ref ly) (j9 "total" (.int ns.sum) (j9 "purses" (.int (ns.map V.int).length) [])))) = G6 at m6
    refine ⟨_,rfl,ca,_,rfl,(ca_ m6).sq,fun ch nch=>?_⟩
    have m7:=m6.tmp (ji (o:=.lst (cs.map V.int)) nch)
    have c7:upd G6 ch (.lst (cs.map V.int)) ch = some (.lst (cs.map V.int)) ∧ ρ ch = none:=⟨ja,m6.kr.none nch⟩
    refine ⟨_,rfl,x,_,dx,_,rfl,m7.ob,T.jn,T.na_World_cheating,(by show 3 < 1000; decide),?_⟩
    have m8:=m7.obj (fs':=j9 "cheating" (.ref ch) (j9 "lying" (.ref ly) (j9 "total" (.int ns.sum) (j9 "purses" (.int (ns.map V.int).length) []))))
    have c8:=fr_un (m7.fo (fs':=j9 "cheating" (.ref ch) (j9 "lying" (.ref ly) (j9 "total" (.int ns.sum) (j9 "purses" (.int (ns.map V.int).length) []))))) c7.1 c7.2
    dsimp only
    generalize upd (upd G6 ch (.lst (cs.map V.int))) x (.ins t.jv dx (j9 "cheating" (.ref ch) (j9 "lying" (.ref ly) (j9 "total" (.int ns.sum) (j9 "purses" (.int (ns.map V.int).length) []))))) = G8 at m8 c8
    clear m2 m3 m4 m5 m6 m7 c7 nly nch
    refine ⟨_,rfl,h,rfl,(by omega),(by omega),fun D nD=>?_⟩
    have m9:=m8.new (r:=(id,.kd)) nD (u:=.dK [])
    have c9:upd G8 D (.dK []) ch = some (.lst (cs.map V.int)) ∧ zm ρ D (id,.kd) ch = none:=fr_un (P:=fun _=>False) (Fr.newR nD) c8.1 c8.2
    refine dc_range (lo:=0) (n:=h.toNat) (fun i σ H'=>∃ v kvs ρ',σ = [v,some (.ref sa),some (.ref la)] ∧ MkW t ρ H id x dx (j9 "cheating" (.ref ch) (j9 "lying" (.ref ly) (j9 "total" (.int ns.sum) (j9 "purses" (.int (ns.map V.int).length) [])))) ρ' H' ∧ (H' ch = some (.lst (cs.map V.int)) ∧ ρ' ch = none) ∧ ρ' D = some (id,.kd) ∧ H' D = some (.dK kvs) ∧ yg t H' ρ' id kvs ((List.range i).map fun (i:Nat)=>((i:Int),kp0 ns))) ⟨none,[],_,rfl,m9,c9,j3,ja,.nil⟩ ?_ ?_
    · rintro i σ H' hi ⟨v,kvs,ρ',rfl,m,hc,rD,hD,ks⟩
      refine ⟨_,rfl,_,rfl,la,[],rfl,(la_ m).sq,rfl,rfl,_,rfl,iteT ?_⟩
      have e0:(0:Int) + (i:Int) = i:=Int.zero_add _
      rw [e0]
      refine ⟨_,rfl,_,rfl,fun k dk nk ndk ne=>?_⟩
      have sk:Same H' (upd H' dk (.own k)):=ji ndk
      have nk1:upd H' dk (.own k) k = none:=by rw [je ne.symm]; exact nk
      have f1:Fr (fun _=>False) ρ' H' (zm ρ' k (id,.kp i 0)) (upd (upd H' dk (.own k)) k (.ins t.jw dk [])):=(Fr.same sk).trans (Fr.newR nk1)
      have kr1:OkR (zm ρ' k (id,.kp i 0)) (upd (upd H' dk (.own k)) k (.ins t.jw dk [])):=(m.kr.same sk).newR
      have m1:=m.step f1 (fun z=>z) (fun _ z=>z.elim) kr1
      refine ⟨_,id,(i:Int),k,dk,sa,ns,rfl,ja,j3,kr1,sa_ m1,by omega,fun ρ2 H2' A2 R2 f2 kr2=>⟨rfl,?_⟩⟩
      have f12:Fr (isK id i) ρ' H' ρ2 H2':=(f1.mono fun _ z=>z.elim).trans f2
      have nk2 : ∀ {p:Part},(∀ j,p ≠ .kp (i:Int) j) → ¬ isK id (i:Int) (id,p):=fun hp ⟨j,e⟩=>hp j (Prod.mk.inj e).2
      have mm:=m.step f12 (nk2 fun _ z=>by cases z) (fun r ⟨j,e⟩=>by rw [e]) kr2
      have hc2:=fr_un f12 hc.1 hc.2
      obtain ⟨hD2,rD2⟩:=zi f12 hD rD (nk2 fun _ z=>by cases z)
      have ks2:yg t H2' ρ2 id kvs ((List.range i).map fun (i:Nat)=>((i:Int),kp0 ns)):=yg.fr' f12 (fun c hc j=>by
        obtain ⟨i',hi',rfl⟩:=List.mem_map.mp hc
        have:=List.mem_range.mp hi'
        refine nk2 fun j' z=>?_
        have:=(Part.kp.inj z).1
        omega) ks
      have nv:valV kvs (.inl (i:Int)) = none:=by
        cases e:valV kvs (.inl (i:Int)) with
        | none=>rfl
        | some v=>
          exfalso
          have hm:=valV_in e
          obtain ⟨j,hj,ej⟩:=List.mem_iff_getElem.mp hm
          rw [List.length_map] at hj
          obtain ⟨c,ec,e1,_⟩:=ql ks2 (List.getElem?_eq_getElem hj)
          rw [List.getElem_map] at ej
          rw [e1] at ej
          obtain ⟨i',hi',rfl⟩:=List.mem_map.mp (List.mem_of_getElem? ec)
          have:=List.mem_range.mp hi'
          have:=Sum.inl.inj ej
          omega
      have lk:kvs.length ≤ 1000:=by
        rw [Paired.length ks2,List.length_map,List.length_range]
        omega
      refine ⟨_,DPut.k (k:=.inl (i:Int)) hD2 (xy lk),?_⟩
      rw [putK_new _ nv]
      have f3:Fr (isP id .kd) ρ2 H2' ρ2 (upd H2' D (.dK (kvs ++ [(.inl (i:Int),.ref k)]))):=Fr.put rD2 rfl
      refine ⟨_,_,ρ2,rfl,mm.step f3 (jo (by intro z; cases z)) (fun r e=>by rw [e]) kr2.put,fr_un f3 hc2.1 hc2.2,rD2,ja,?_⟩
      rw [List.range_succ,List.map_append]
      exact qx (yg.fr f3 (fun _ _=>jo (by intro z; cases z)) ks2) ⟨rfl,k,A2,dk,rfl,R2.fr (fun _=>jo (by intro z; cases z)) f3⟩
    · rintro σ G10 ⟨v,kvs,ρ1,rfl,m10,c10,rD,hD,ks⟩
      clear m8 c8 m9 c9 nD
      refine ⟨_,rfl,x,_,dx,_,rfl,m10.ob,T.jn,T.qz,(by show 4 < 1000; decide),?_⟩
      have m11:=m10.obj (fs':=j9 "keepers" (.ref D) (j9 "cheating" (.ref ch) (j9 "lying" (.ref ly) (j9 "total" (.int ns.sum) (j9 "purses" (.int (ns.map V.int).length) [])))))
      have fo11:=m10.fo (fs':=j9 "keepers" (.ref D) (j9 "cheating" (.ref ch) (j9 "lying" (.ref ly) (j9 "total" (.int ns.sum) (j9 "purses" (.int (ns.map V.int).length) [])))))
      have c11:=fr_un fo11 c10.1 c10.2
      have k11:=kd_keep fo11 (jo (by intro z; cases z)) (fun _ _=>jo (by intro z; cases z)) rD ⟨kvs,hD,ks⟩
      dsimp only
      generalize upd G10 x (.ins t.jv dx (j9 "keepers" (.ref D) (j9 "cheating" (.ref ch) (j9 "lying" (.ref ly) (j9 "total" (.int ns.sum) (j9 "purses" (.int (ns.map V.int).length) [])))))) = G11 at m11 c11 k11
      clear fo11 m10 c10
      refine ⟨_,rfl,_,rfl,h,f,rfl,fun b db nb ndb neb=>?_⟩
      have sb:Same G11 (upd G11 db (.own b)):=ji ndb
      have nb1:upd G11 db (.own b) b = none:=by rw [je neb.symm]; exact nb
      refine ⟨b,db,h - f,rfl,ja,fun S G12 nS B fr=>⟨rfl,?_⟩⟩
      have nS0:G11 S = none:=by
        have nSb:S ≠ b:=fun z=>by rw [z,ja] at nS; cases nS
        rw [je nSb] at nS
        exact sb.free nS
      have s12:Same G11 G12:=fun c u e=>fr _ _ (by rw [je (jh (sb _ _ e) nb1)]; exact sb _ _ e) (jh e nb)
      have bS:b ≠ S:=ne_of B.ob B.sg (by intro z; cases z)
      have f12:Fr (fun _=>False) ρ1 G11 (zm (zm ρ1 b (id,.bd)) S (id,.sd)) G12:=fun a u e _=>⟨s12 _ _ e,by rw [qf (jh e nS0),qf (jh e nb)]⟩
      have kr12:OkR (zm (zm ρ1 b (id,.bd)) S (id,.sd)) G12:=fun a r e=>by
        by_cases z:a = S
        · subst z
          exact ⟨_,B.sg,True.intro⟩
        · rw [qf z] at e
          by_cases y:a = b
          · subst y
            exact ⟨_,B.ob,True.intro⟩
          · rw [qf y] at e
            obtain ⟨u,hu,nu⟩:=m11.kr a r e
            exact ⟨u,s12 _ _ hu,nu⟩
      have m12:=m11.step f12 (fun z=>z) (fun _ z=>z.elim) kr12
      have c12:=fr_un f12 c11.1 c11.2
      have k12:=kd_keep f12 (fun z=>z) (fun _ _ z=>z) k11.1 k11.2
      have b12:(zm (zm ρ1 b (id,.bd)) S (id,.sd)) b = some (id,.bd) ∧ (zm (zm ρ1 b (id,.bd)) S (id,.sd)) S = some (id,.sd) ∧ ∃ kvs,BoardAt t G12 b db S (h - f) kvs (thP []) ∧ SigR (zm (zm ρ1 b (id,.bd)) S (id,.sd)) id kvs:=⟨by rw [qf bS,j3],j3,[],B,fun _ z=>by cases z⟩
      generalize zm (zm ρ1 b (id,.bd)) S (id,.sd) = ρ2 at m12 c12 k12 b12 kr12 f12
      clear m11 c11 k11 f12 kr12
      refine ⟨_,rfl,x,_,dx,_,rfl,m12.ob,T.jn,T.na_World_board,(by show 5 < 1000; decide),?_⟩
      have m13:=m12.obj (fs':=j9 "board" (.ref b) (j9 "keepers" (.ref D) (j9 "cheating" (.ref ch) (j9 "lying" (.ref ly) (j9 "total" (.int ns.sum) (j9 "purses" (.int (ns.map V.int).length) []))))))
      have fo:=m12.fo (fs':=j9 "board" (.ref b) (j9 "keepers" (.ref D) (j9 "cheating" (.ref ch) (j9 "lying" (.ref ly) (j9 "total" (.int ns.sum) (j9 "purses" (.int (ns.map V.int).length) []))))))
      have c13:=fr_un fo c12.1 c12.2
      have k13:=kd_keep fo (jo (by intro z; cases z)) (fun _ _=>jo (by intro z; cases z)) k12.1 k12.2
      have b13:=bd_keep fo (jo (by intro z; cases z)) (jo (by intro z; cases z)) (jo (by intro z; cases z)) b12.1 b12.2.1 b12.2.2
      dsimp only
      generalize upd G12 x (.ins t.jv dx (j9 "board" (.ref b) (j9 "keepers" (.ref D) (j9 "cheating" (.ref ch) (j9 "lying" (.ref ly) (j9 "total" (.int ns.sum) (j9 "purses" (.int (ns.map V.int).length) []))))))) = G13 at m13 c13 k13 b13
      clear m12 c12 k12 b12 fo
      have hsa:=sa_ m13
      refine ⟨_,rfl,sa,rfl,⟨_,SqL.of hsa⟩,lc_list (K:=K) (a:=sa) (xs:=ns.map V.int) (fun i ys σ H'=>∃ v rr ρ',σ = [v] ∧ ys = rr.map V.ref ∧ rr.length = i ∧ MkW t ρ H id x dx (j9 "board" (.ref b) (j9 "keepers" (.ref D) (j9 "cheating" (.ref ch) (j9 "lying" (.ref ly) (j9 "total" (.int ns.sum) (j9 "purses" (.int (ns.map V.int).length) [])))))) ρ' H' ∧ Fr (fun _=>False) ρ2 G13 ρ' H' ∧ ∀ (j:Nat) r,rr[j]? = some r → ρ' r = some (id,.row j) ∧ H' r = some (.lst [])) ⟨none,[],ρ2,rfl,rfl,rfl,m13,Fr.refl,fun j r e=>by cases e⟩ ?_ ?_ ?_⟩
      · rintro i ys σ H' hi ⟨v,rr,ρ',rfl,rfl,lr,mm,ff,hrr⟩
        rw [List.length_map] at hi
        refine ⟨SqL.of (sa_ mm),len1000 ?_⟩
        rw [List.length_map]
        omega
      · rintro i y ys σ H' hy ⟨v,rr,ρ',rfl,rfl,lr,mm,ff,hrr⟩
        dsimp only [gName,tYes]
        rw [if_pos rfl]
        refine ⟨zs0,fun p np=>⟨_,rr ++ [p],zm ρ' p (id,.row i),rfl,?_,?_,mm.new np,ff.trans (Fr.newR np),fun j r e=>?_⟩⟩
        · rw [List.map_append]; rfl
        · rw [List.length_append,lr]; rfl
        · by_cases z:j < rr.length
          · rw [List.getElem?_append_left z] at e
            obtain ⟨q1,q2⟩:=hrr j r e
            have:r ≠ p:=jh q2 np
            exact ⟨by rw [qf this]; exact q1,by rw [je this]; exact q2⟩
          · rw [List.getElem?_append_right (by omega)] at e
            have j0:j = rr.length:=by
              have:=(List.getElem?_eq_some_iff.mp e).1
              simp at this
              omega
            subst j0
            rw [Nat.sub_self] at e
            cases e
            rw [lr]
            exact ⟨j3,ja⟩
      · rintro ys σ H' ⟨v,rr,ρ3,rfl,rfl,lr,m14,f14,hrr⟩ ak nak
        rw [List.length_map] at lr
        have c14:=fr_un f14 c13.1 c13.2
        have k14:=kd_keep f14 (fun z=>z) (fun _ _ z=>z) k13.1 k13.2
        have b14:=bd_keep f14 (fun z=>z) (fun z=>z) (fun z=>z) b13.1 b13.2.1 b13.2.2
        have f15:Fr (fun _=>False) ρ3 H' (zm ρ3 ak (id,.ak)) (upd H' ak (.lst (rr.map V.ref))):=Fr.newR nak
        have m15:=m14.new (r:=(id,.ak)) nak (u:=.lst (rr.map V.ref))
        have c15:=fr_un f15 c14.1 c14.2
        have k15:=kd_keep f15 (fun z=>z) (fun _ _ z=>z) k14.1 k14.2
        have b15:=bd_keep f15 (fun z=>z) (fun z=>z) (fun z=>z) b14.1 b14.2.1 b14.2.2
        have a15:(zm ρ3 ak (id,.ak)) ak = some (id,.ak) ∧ ∃ rs,upd H' ak (.lst (rr.map V.ref)) ak = some (.lst (rs.map V.ref)) ∧ RowsR (upd H' ak (.lst (rr.map V.ref))) (zm ρ3 ak (id,.ak)) id rs (List.replicate ns.length []):=by
          refine ⟨j3,rr,ja,by rw [lr,List.length_replicate],fun i r os e1 e2=>?_⟩
          obtain ⟨q1,q2⟩:=hrr i r e1
          obtain ⟨q3,q4⟩:=zi f15 q2 q1 (fun z=>z)
          have:os = []:=List.eq_of_mem_replicate (List.mem_of_getElem? e2)
          subst this
          exact ⟨q4,[],q3,.nil⟩
        generalize zm ρ3 ak (id,.ak) = ρ4 at f15 m15 c15 k15 b15 a15
        refine ⟨_,rfl,x,_,dx,_,rfl,m15.ob,T.jn,T.na_World_asked,(by show 6 < 1000; decide),?_⟩
        have m16:=m15.obj (fs':=j9 "asked" (.ref ak) (j9 "board" (.ref b) (j9 "keepers" (.ref D) (j9 "cheating" (.ref ch) (j9 "lying" (.ref ly) (j9 "total" (.int ns.sum) (j9 "purses" (.int (ns.map V.int).length) [])))))))
        have fo:=m15.fo (fs':=j9 "asked" (.ref ak) (j9 "board" (.ref b) (j9 "keepers" (.ref D) (j9 "cheating" (.ref ch) (j9 "lying" (.ref ly) (j9 "total" (.int ns.sum) (j9 "purses" (.int (ns.map V.int).length) [])))))))
        have c16:=fr_un fo c15.1 c15.2
        have k16:=kd_keep fo (jo (by intro z; cases z)) (fun _ _=>jo (by intro z; cases z)) k15.1 k15.2
        have b16:=bd_keep fo (jo (by intro z; cases z)) (jo (by intro z; cases z)) (jo (by intro z; cases z)) b15.1 b15.2.1 b15.2.2
        have a16:=ak_keep fo (jo (by intro z; cases z)) (fun _=>jo (by intro z; cases z)) a15.1 a15.2
        dsimp only
        generalize upd (upd H' ak (.lst (rr.map V.ref))) x (.ins t.jv dx (j9 "asked" (.ref ak) (j9 "board" (.ref b) (j9 "keepers" (.ref D) (j9 "cheating" (.ref ch) (j9 "lying" (.ref ly) (j9 "total" (.int ns.sum) (j9 "purses" (.int (ns.map V.int).length) [])))))))) = G16 at m16 c16 k16 b16 a16
        refine ⟨zs0,fun wy nwy=>?_⟩
        have f17:Fr (fun _=>False) ρ4 G16 (zm ρ4 wy (id,.wy)) (upd G16 wy (.lst [])):=Fr.newR nwy
        have m17:=m16.new (r:=(id,.wy)) nwy (u:=.lst [])
        have c17:=fr_un f17 c16.1 c16.2
        have k17:=kd_keep f17 (fun z=>z) (fun _ _ z=>z) k16.1 k16.2
        have b17:=bd_keep f17 (fun z=>z) (fun z=>z) (fun z=>z) b16.1 b16.2.1 b16.2.2
        have a17:=ak_keep f17 (fun z=>z) (fun _ z=>z) a16.1 a16.2
        refine ⟨_,rfl,x,_,dx,_,rfl,m17.ob,T.jn,T.xa,(by show 7 < 1000; decide),?_⟩
        have m18:=m17.obj (fs':=wof (ns.map V.int).length ns.sum ly ch D b ak wy)
        have fo18:=m17.fo (fs':=wof (ns.map V.int).length ns.sum ly ch D b ak wy)
        have c18:=fr_un fo18 c17.1 c17.2
        have k18:=kd_keep fo18 (jo (by intro z; cases z)) (fun _ _=>jo (by intro z; cases z)) k17.1 k17.2
        have b18:=bd_keep fo18 (jo (by intro z; cases z)) (jo (by intro z; cases z)) (jo (by intro z; cases z)) b17.1 b17.2.1 b17.2.2
        have a18:=ak_keep fo18 (jo (by intro z; cases z)) (fun _=>jo (by intro z; cases z)) a17.1 a17.2
        have y18:=wy_keep (way:=[]) fo18 (jo (by intro z; cases z)) j3 ⟨[],ja,.nil⟩
        refine k _ _ ⟨x,dx,ns.sum,ly,ch,D,b,ak,wy,db,S⟩ rfl ⟨⟨?_,m18.rx⟩,c18,k18,b18,a18,y18⟩ m18.fr m18.kr
        refine (m18.ob).trans ?_
        show some (HO.ins t.jv dx (wof ((ns.map V.int).length:Int) ns.sum ly ch D b ak wy)) = some (HO.ins t.jv dx (wof (ns.length:Int) ns.sum ly ch D b ak wy))
        rw [List.length_map]
theorem nodup_len {α : Type} [DecidableEq α] : ∀ {xs ys:List α},xs.Nodup → (∀ x ∈ xs,x ∈ ys) → xs.length ≤ ys.length
  | [],_,_,_=>Nat.zero_le _
  | x :: xs,ys,nd,h=>by
    rw [List.nodup_cons] at nd
    have hx:=h x List.mem_cons_self
    have:=nodup_len (xs:=xs) (ys:=ys.erase x) nd.2 fun y hy=>(List.mem_erase_of_ne (fun z=>nd.1 (by rw [← z]; exact hy))).mpr (h y (List.mem_cons_of_mem _ hy))
    rw [List.length_erase_of_mem hx] at this
    have:=List.length_pos_of_mem hx
    rw [List.length_cons]
    omega
theorem gvS_sum (κ : Kp) (o:O) (a:Gv) : (gvS κ o a).1.length + (gvS κ o a).2.2.length ≤ a.1.length + a.2.2.length + 1:=by
  unfold gvS
  split
  · simp; omega
  · split
    · simp; omega
    · omega
theorem gv_sum (κ : Kp) : ∀ (os:List O) (a:Gv),(gv κ os a).1.length + (gv κ os a).2.2.length ≤ a.1.length + a.2.2.length + os.length
  | [],a=>by simp [gv]
  | o :: os,a=>by
    have h1:=gv_sum κ os (gvS κ o a)
    have h2:=gvS_sum κ o a
    unfold gv at h1 ⊢
    rw [List.foldl_cons,List.length_cons]
    omega
theorem gv_votes (κ : Kp) {P:O → Prop} : ∀ (os:List O) (a:Gv),(∀ o ∈ os,P o) → (∀ o ∈ a.2.1,P o) → ∀ o ∈ (gv κ os a).2.1,P o
  | [],a,_,h=>h
  | o :: os,a,h1,h2=>by
    unfold gv
    rw [List.foldl_cons]
    refine gv_votes κ os _ (fun o' h=>h1 o' (List.mem_cons_of_mem _ h)) ?_
    unfold gvS
    split
    · intro o' h
      rcases List.mem_append.mp h with h | h
      · exact h2 o' h
      · rw [List.mem_singleton.mp h]
        exact h1 o List.mem_cons_self
    · split
      · exact h2
      · exact h2
structure KIn (L:List O) (m n:Nat) (κ : Kp) : Prop where
  ok : κ.Ok n
  sz:KSz κ m
  u : ∀ o ∈ κ.unv,o ∈ L
  w : ∀ o ∈ κ.wait,o ∈ L
theorem KIn.zb {L:List O} {m n:Nat} {κ : Kp} (k:KIn L m n κ) : KIn L m n κ.zb.1 ∧ (∀ o ∈ κ.zb.2,o ∈ L) ∧ κ.zb.2.length ≤ m:=by
  refine ⟨⟨k.ok.zb,⟨k.sz.hd,?_,k.sz.dw⟩,gv_later κ κ.unv _ k.u (fun o h=>by cases h),k.w⟩,gv_votes κ κ.unv _ k.u (fun o h=>by cases h),?_⟩
  · have h1:=gv_sum κ κ.unv (κ.cho,[],[])
    have h2:=k.sz.uc
    show (gv κ κ.unv (κ.cho,[],[])).2.2.length + (gv κ κ.unv (κ.cho,[],[])).1.length ≤ m
    simp at h1
    omega
  · have h1:=(gv_len κ κ.unv (κ.cho,[],[])).2.1
    have h2:=k.sz.uc
    show (gv κ κ.unv (κ.cho,[],[])).2.1.length ≤ m
    simp at h1
    omega
theorem KIn.go {L:List O} {m n:Nat} : ∀ {j:Nat} {κ : Kp},KIn L m n κ → KIn L m n (Kp.go j κ)
  | 0,_,k=>k
  | j + 1,κ,k=>by
    unfold Kp.go
    cases e : κ.first with
    | none=>exact k
    | some o=>
      have om:=first_mem e
      have l2:(κ.step o).wait.length = κ.wait.length - 1:=List.length_erase_of_mem om
      have l1:(κ.step o).done.length = κ.done.length + 1:=by show (κ.done ++ [o]).length = _; rw [List.length_append]; rfl
      have:=List.length_pos_of_mem om
      have:=k.sz.dw
      exact KIn.go (κ:=κ.step o) ⟨k.ok.step o,⟨k.sz.hd,k.sz.uc,by omega⟩,k.u,fun o' h=>k.w o' (List.mem_of_mem_erase h)⟩
theorem KIn.mono {L L':List O} {m m' n:Nat} {κ : Kp} (k:KIn L m n κ) (h1 : ∀ o ∈ L,o ∈ L') (h2:m ≤ m') : KIn L' m' n κ:=⟨k.ok,⟨Nat.le_trans k.sz.hd h2,Nat.le_trans k.sz.uc h2,Nat.le_trans k.sz.dw h2⟩,fun o h=>h1 o (k.u o h),fun o h=>h1 o (k.w o h)⟩
theorem KIn.take {L:List O} {m n:Nat} {κ : Kp} (k:KIn L m n κ) (b:Bool) {o:O} (ol:o ∈ L) (ho:isOrd n o = true) : KIn L (m + 1) n (κ.take b o).1 ∧ (∀ o' ∈ (κ.take b o).2,o' ∈ L) ∧ (κ.take b o).2.length ≤ m + 1:=by
  have h1:=k.sz.hd
  have h2:=k.sz.uc
  have h3:=k.sz.dw
  have nil_:KIn L (m + 1) n κ ∧ (∀ o' ∈ ([] : List O),o' ∈ L) ∧ ([] : List O).length ≤ m + 1:=⟨k.mono (fun _ h=>h) (by omega),(fun _ z=>by cases z),Nat.zero_le _⟩
  unfold Kp.take
  split
  · unfold Kp.hear
    split
    · exact nil_
    · refine KIn.zb (m:=m + 1) ⟨⟨k.ok.h,k.ok.x,fun u hu=>?_,k.ok.w,k.ok.nd⟩,⟨by show (κ.heard ++ [o]).length ≤ m + 1; rw [List.length_append]; show κ.heard.length + 1 ≤ m + 1; omega,by show (κ.unv ++ [o]).length + κ.cho.length ≤ m + 1; rw [List.length_append]; show κ.unv.length + 1 + κ.cho.length ≤ m + 1; omega,by show κ.done.length + κ.wait.length ≤ m + 1; omega⟩,fun u hu=>?_,k.w⟩
      · rcases List.mem_append.mp hu with hu | hu
        · exact k.ok.u u hu
        · rw [List.mem_singleton.mp hu]; exact ho
      · rcases List.mem_append.mp hu with hu | hu
        · exact k.u u hu
        · rw [List.mem_singleton.mp hu]; exact ol
  · unfold Kp.paper
    split
    · exact nil_
    · rename_i nz
      have no : ¬ o ∈ κ.wait:=fun z=>nz (by rw [decide_eq_true z,Bool.or_true])
      refine KIn.zb (m:=m + 1) (KIn.go ⟨⟨k.ok.h,k.ok.x,k.ok.u,fun u hu=>?_,?_⟩,⟨by show κ.heard.length ≤ m + 1; omega,by show κ.unv.length + κ.cho.length ≤ m + 1; omega,by show κ.done.length + (κ.wait ++ [o]).length ≤ m + 1; rw [List.length_append]; show κ.done.length + (κ.wait.length + 1) ≤ m + 1; omega⟩,k.u,fun u hu=>?_⟩)
      · rcases List.mem_append.mp hu with hu | hu
        · exact k.ok.w u hu
        · rw [List.mem_singleton.mp hu]; exact ho
      · exact List.nodup_append.mpr ⟨k.ok.nd,by simp,fun x hx y hy e=>by rw [List.mem_singleton.mp hy] at e; subst e; exact no hx⟩
      · rcases List.mem_append.mp hu with hu | hu
        · exact k.w u hu
        · rw [List.mem_singleton.mp hu]; exact ol
structure BIn (L:List O) (hs:List Int) (is:IThings) : Prop where
  nd:(is.map (·.1)).Nodup
  ks : ∀ x ∈ is,∃ o ∈ L,x.1 = ordI o
  hn : ∀ x ∈ is,x.2.Nodup ∧ ∀ h ∈ x.2,h ∈ hs
theorem sign_keys {k:List Int} {h:Int} : ∀ {is:IThings} {y:List Int},y ∈ (signI is k h).map (·.1) → y ∈ is.map (·.1) ∨ y = k
  | [],y,hy=>.inr (List.mem_singleton.mp hy)
  | p :: ps,y,hy=>by
    unfold signI at hy
    split at hy
    · rw [List.map_cons,List.mem_cons] at hy ⊢
      exact .inl hy
    · rw [List.map_cons,List.mem_cons] at hy ⊢
      rcases hy with hy | hy
      · exact .inl (.inl hy)
      · rcases sign_keys hy with h | h
        · exact .inl (.inr h)
        · exact .inr h
theorem BIn.sign {L:List O} {hs:List Int} {o:O} {h:Int} (ol:o ∈ L) (hh:h ∈ hs) : ∀ {is:IThings},BIn L hs is → h ∉ housesI is (ordI o) → BIn L hs (signI is (ordI o) h)
  | [],_,_=>⟨by simp [signI],fun x hx=>by rw [List.mem_singleton.mp hx]; exact ⟨o,ol,rfl⟩,fun x hx=>by rw [List.mem_singleton.mp hx]; exact ⟨by simp,fun y hy=>by rw [List.mem_singleton.mp hy]; exact hh⟩⟩
  | p :: ps,b,hn=>by
    have bt:BIn L hs ps:=⟨(List.nodup_cons.mp b.nd).2,fun x hx=>b.ks x (List.mem_cons_of_mem _ hx),fun x hx=>b.hn x (List.mem_cons_of_mem _ hx)⟩
    unfold signI
    unfold housesI at hn
    split
    · rename_i z
      rw [if_pos z] at hn
      refine ⟨b.nd,fun x hx=>?_,fun x hx=>?_⟩
      · rcases List.mem_cons.mp hx with rfl | hx
        · exact b.ks p List.mem_cons_self
        · exact bt.ks x hx
      · rcases List.mem_cons.mp hx with rfl | hx
        · obtain ⟨q1,q2⟩:=b.hn p List.mem_cons_self
          refine ⟨List.nodup_append.mpr ⟨q1,by simp,fun x1 hx1 y1 hy1 e=>by rw [List.mem_singleton.mp hy1] at e; subst e; exact hn hx1⟩,fun y hy=>?_⟩
          rcases List.mem_append.mp hy with hy | hy
          · exact q2 y hy
          · rw [List.mem_singleton.mp hy]; exact hh
        · exact bt.hn x hx
    · rename_i z
      rw [if_neg z] at hn
      have ih:=bt.sign ol hh hn
      refine ⟨?_,fun x hx=>?_,fun x hx=>?_⟩
      · rw [List.map_cons,List.nodup_cons]
        refine ⟨fun y=>?_,ih.nd⟩
        rcases sign_keys y with y | y
        · exact (List.nodup_cons.mp b.nd).1 y
        · exact z y
      · rcases List.mem_cons.mp hx with rfl | hx
        · exact b.ks _ List.mem_cons_self
        · exact ih.ks x hx
      · rcases List.mem_cons.mp hx with rfl | hx
        · exact b.hn _ List.mem_cons_self
        · exact ih.hn x hx
theorem BIn.len {L:List O} {hs:List Int} {is:IThings} (b:BIn L hs is) : is.length ≤ L.length ∧ ∀ x ∈ is,x.2.length ≤ hs.length:=by
  refine ⟨?_,fun x hx=>nodup_len (b.hn x hx).1 (b.hn x hx).2⟩
  have:=nodup_len (ys:=L.map ordI) b.nd fun y hy=>by
    obtain ⟨x,hx,rfl⟩:=List.mem_map.mp hy
    obtain ⟨o,ol,e⟩:=b.ks x hx
    rw [e]
    exact List.mem_map_of_mem ol
  rwa [List.length_map,List.length_map] at this
structure Wd.In (ω : Wd) (T:Nat) (L:List O) : Prop where
  ok : ω.Ok
  l:L.length ≤ T
  lo : ∀ o ∈ L,isOrd ω.n o = true
  ks : ∀ c ∈ ω.ks,KIn L T ω.n c.2
  bd:BIn L (ω.ks.map (·.1)) ω.bd
  wy : ∀ x ∈ ω.way,x.2.2 ∈ L ∧ x.2.1 ∈ ω.ks.map (·.1)
  wl : ω.way.length ≤ 1000 * T
  al : ∀ row ∈ ω.asked,row.length ≤ T
structure Wd.Like (ω ω':Wd) : Prop where
  n : ω'.n = ω.n
  c : ω'.cheats = ω.cheats
  k : ω'.ks = ω.ks
  e : ω'.en = ω.en
  a : ω'.asked = ω.asked
theorem Wd.Like.trans {a b c:Wd} (x:a.Like b) (y:b.Like c) : a.Like c:=⟨y.n.trans x.n,y.c.trans x.c,y.k.trans x.k,y.e.trans x.e,y.a.trans x.a⟩
theorem put_like (ω : Wd) (h:Int) (o:O) : ω.Like (ω.put h o).1:=by
  unfold Wd.put
  split
  · exact ⟨rfl,rfl,rfl,rfl,rfl⟩
  · exact ⟨rfl,rfl,rfl,rfl,rfl⟩
theorem vote_like (ω : Wd) (h:Int) (o:O) : ω.Like (ω.vote h o):=by
  have p:=put_like ω h o
  unfold Wd.vote
  split
  · exact ⟨p.n,p.c,p.k,p.e,p.a⟩
  · exact p
def WayIn (L:List O) (hs:List Int) (way:List (Bool × Int × O)) : Prop:=∀ x ∈ way,x.2.2 ∈ L ∧ x.2.1 ∈ hs
theorem vote_in {L:List O} {hs:List Int} {ω : Wd} {h:Int} {o:O} (eh:hs = ω.ks.map (·.1)) (ol:o ∈ L) (hh:h ∈ hs) (b:BIn L hs ω.bd) (y:WayIn L hs ω.way) : BIn L hs (ω.vote h o).bd ∧ WayIn L hs (ω.vote h o).way ∧ (ω.vote h o).way.length ≤ ω.way.length + ω.ks.length:=by
  have pb:BIn L hs (ω.put h o).1.bd ∧ (ω.put h o).1.way = ω.way ∧ (ω.put h o).1.ks = ω.ks:=by
    unfold Wd.put
    split
    · exact ⟨b,rfl,rfl⟩
    · rename_i hn
      exact ⟨b.sign ol hh hn,rfl,rfl⟩
  unfold Wd.vote
  split
  · refine ⟨pb.1,fun x hx=>?_,?_⟩
    · have hx':x ∈ (ω.put h o).1.way ++ (ω.put h o).1.ks.map fun c=>(false,c.1,o):=hx
      rw [pb.2.1,pb.2.2] at hx'
      rcases List.mem_append.mp hx' with hx' | hx'
      · exact y x hx'
      · obtain ⟨c,hc,rfl⟩:=List.mem_map.mp hx'
        exact ⟨ol,by rw [eh]; exact List.mem_map_of_mem hc⟩
    · show ((ω.put h o).1.way ++ (ω.put h o).1.ks.map fun c=>(false,c.1,o)).length ≤ _
      rw [pb.2.1,pb.2.2,List.length_append,List.length_map]
      exact Nat.le_refl _
  · rw [pb.2.1]
    exact ⟨pb.1,y,by omega⟩
theorem votes_in {L:List O} {hs:List Int} {h:Int} (hh:h ∈ hs) : ∀ {os:List O} {ω : Wd},hs = ω.ks.map (·.1) → (∀ o ∈ os,o ∈ L) → BIn L hs ω.bd → WayIn L hs ω.way → BIn L hs (ω.zb h os).bd ∧ WayIn L hs (ω.zb h os).way ∧ ω.Like (ω.zb h os) ∧ (ω.zb h os).way.length ≤ ω.way.length + ω.ks.length * os.length
  | [],ω,_,_,b,y=>⟨b,y,⟨rfl,rfl,rfl,rfl,rfl⟩,Nat.le_refl _⟩
  | o :: os,ω,eh,ol,b,y=>by
    obtain ⟨b1,y1,l1⟩:=vote_in eh (ol o List.mem_cons_self) hh b y
    have lk:=vote_like ω h o
    obtain ⟨b2,y2,k2,l2⟩:=votes_in hh (os:=os) (ω:=ω.vote h o) (by rw [lk.k]; exact eh) (fun o' h'=>ol o' (List.mem_cons_of_mem _ h')) b1 y1
    refine ⟨b2,y2,lk.trans k2,?_⟩
    show ((ω.vote h o).zb h os).way.length ≤ _
    rw [lk.k] at l2
    rw [List.length_cons,Nat.mul_succ]
    omega
inductive Deed where
  | ask (p g m:Int)
  | cheat (o:O)
  | come (i:Nat)
inductive Told where
  | none
  | ord (o:O)
  | word (z:Str)
  | letter (l:Bool × Int × O)
def okRow (ω : Wd) (row:List O) : Bool:=match row.getLast? with
  | none=>true
  | some o=>ω.carried o
def Wd.does (ω : Wd) : Deed → Wd × Told
  | .ask p g m=>match ω.asked[p.toNat]? with
    | none=>(ω,.none)
    | some row=>if okRow ω row = false then (ω,.word "now") else match (ω.ks.map fun c=>c.2.leftOf p row).max? with
      | none=>(ω,.none)
      | some M=>if M < m then (ω,.word "much") else (ω.asks ⟨p,row.length,g,m⟩ row,.ord ⟨p,row.length,g,m⟩)
  | .cheat o=>({ ω with way:=ω.way ++ [(true,0,o)] },.none)
  | .come i=>match ω.way[i]? with
    | none=>(ω,.none)
    | some l=>match ω.keep l.2.1 with
      | none=>(ω,.none)
      | some κ=>(ω.come i l κ,.letter l)
def Deed.Can (ω : Wd) : Deed → Prop
  | .ask p g m=>(0 ≤ p ∧ p < (ω.n:Int)) ∧ (0 ≤ g ∧ g < (ω.n:Int)) ∧ p ∉ ω.cheats ∧ g ≠ p ∧ (1 ≤ m ∧ m ≤ 1000)
  | .cheat o=>isOrd ω.n o = true ∧ o.p ∈ ω.cheats ∧ (0:Int) ∈ ω.ks.map (·.1)
  | .come i=>i < ω.way.length
theorem keep_of {ω : Wd} {h:Int} (m:h ∈ ω.ks.map (·.1)) : ∃ κ,ω.keep h = some κ ∧ (h,κ) ∈ ω.ks:=by
  unfold Wd.keep
  cases e : ω.ks.find? fun c=>decide (c.1 = h) with
  | none=>
    obtain ⟨c,hc,rfl⟩:=List.mem_map.mp m
    have:=List.find?_eq_none.mp e c hc
    simp at this
  | some c=>
    have h1:c.1 = h:=of_decide_eq_true (List.find?_some (p:=fun c:Int × Kp=>decide (c.1 = h)) e)
    refine ⟨c.2,rfl,?_⟩
    rw [← h1]
    exact List.mem_of_find?_eq_some e
theorem does_no {ω : Wd} {p g m:Int} (e : ω.asked[p.toNat]? = none) : ω.does (.ask p g m) = (ω,.none):=by simp [Wd.does,e]
theorem does_now {ω : Wd} {p g m:Int} {row:List O} (e : ω.asked[p.toNat]? = some row) (h:okRow ω row = false) : ω.does (.ask p g m) = (ω,.word "now"):=by simp [Wd.does,e,h]
theorem does_much {ω : Wd} {p g m M:Int} {row:List O} (e : ω.asked[p.toNat]? = some row) (h:okRow ω row = true) (em:(ω.ks.map fun c=>c.2.leftOf p row).max? = some M) (lt:M < m) : ω.does (.ask p g m) = (ω,.word "much"):=by simp [Wd.does,e,h,em,lt]
theorem does_told {ω : Wd} {p g m M:Int} {row:List O} (e : ω.asked[p.toNat]? = some row) (h:okRow ω row = true) (em:(ω.ks.map fun c=>c.2.leftOf p row).max? = some M) (lt : ¬ M < m) : ω.does (.ask p g m) = (ω.asks ⟨p,row.length,g,m⟩ row,.ord ⟨p,row.length,g,m⟩):=by simp [Wd.does,e,h,em,lt]
theorem does_none {ω : Wd} {p g m:Int} {row:List O} (e : ω.asked[p.toNat]? = some row) (h:okRow ω row = true) (em:(ω.ks.map fun c=>c.2.leftOf p row).max? = none) : ω.does (.ask p g m) = (ω,.none):=by simp [Wd.does,e,h,em]
theorem does_come {ω : Wd} {i:Nat} {l:Bool × Int × O} {κ : Kp} (e : ω.way[i]? = some l) (ek : ω.keep l.2.1 = some κ) : ω.does (.come i) = (ω.come i l κ,.letter l):=by simp [Wd.does,e,ek]
theorem Wd.In.does {ω : Wd} {T:Nat} {L:List O} (w : ω.In T L) (hT:T ≤ 60) {d:Deed} (can:d.Can ω) : ∃ L',(ω.does d).1.In (T + 1) L':=by
  have up : ∀ c ∈ ω.ks,∀ {L':List O},(∀ o ∈ L,o ∈ L') → KIn L' (T + 1) ω.n c.2:=fun c hc {L'} h=>(w.ks c hc).mono h (by omega)
  have bup : ∀ {L':List O},(∀ o ∈ L,o ∈ L') → BIn L' (ω.ks.map (·.1)) ω.bd:=fun {L'} h=>⟨w.bd.nd,fun x hx=>let ⟨o,a,b⟩:=w.bd.ks x hx; ⟨o,h o a,b⟩,w.bd.hn⟩
  have stay : ω.In (T + 1) L:=⟨w.ok,Nat.le_succ_of_le w.l,w.lo,fun c hc=>up c hc fun _ h=>h,w.bd,w.wy,Nat.le_trans w.wl (by omega),fun row hr=>Nat.le_succ_of_le (w.al row hr)⟩
  cases d with
  | ask p g m =>
    obtain ⟨hp,hg,nc,ng,hm⟩:=can
    cases er : ω.asked[p.toNat]? with
    | none=>exact ⟨L,by rw [does_no er]; exact stay⟩
    | some row=>
      cases ho0:okRow ω row with
      | false=>exact ⟨L,by rw [does_now er ho0]; exact stay⟩
      | true=>
        cases em:(ω.ks.map fun c=>c.2.leftOf p row).max? with
        | none=>exact ⟨L,by rw [does_none er ho0 em]; exact stay⟩
        | some M=>
          by_cases lt:M < m
          · exact ⟨L,by rw [does_much er ho0 em lt]; exact stay⟩
          · rw [does_told er ho0 em lt]
            have lr:=w.al row (List.mem_of_getElem? er)
            have ho:isOrd ω.n ⟨p,row.length,g,m⟩ = true:=isOrd_iff.mpr ⟨hp.1,by show p ≤ (ω.n:Int) - 1; omega,hg.1,by show g ≤ (ω.n:Int) - 1; omega,fun z=>ng z.symm,by show (0:Int) ≤ row.length; omega,by show (row.length:Int) ≤ 99; omega,hm.1,hm.2⟩
            have sub : ∀ o ∈ L,o ∈ (⟨p,row.length,g,m⟩ : O) :: L:=fun o h=>List.mem_cons_of_mem _ h
            refine ⟨⟨p,row.length,g,m⟩ :: L,⟨w.ok.n8,by show (ω.asked.set _ _).length = ω.n; rw [List.length_set]; exact w.ok.al,fun r hr o ho'=>?_,w.ok.ks,w.ok.nd,w.ok.k0,w.ok.k1⟩,by rw [List.length_cons]; have:=w.l; omega,fun o h=>?_,fun c hc=>up c hc sub,bup sub,fun x hx=>?_,?_,fun r hr=>?_⟩
            · rcases List.mem_or_eq_of_mem_set (show r ∈ ω.asked.set p.toNat (row ++ [⟨p,row.length,g,m⟩]) from hr) with hr | rfl
              · exact w.ok.ao r hr o ho'
              · rcases List.mem_append.mp ho' with h | h
                · exact w.ok.ao row (List.mem_of_getElem? er) o h
                · rw [List.mem_singleton.mp h]; exact ho
            · rcases List.mem_cons.mp h with rfl | h
              · exact ho
              · exact w.lo o h
            · have hx':x ∈ ω.way ++ ω.ks.map fun c=>(true,c.1,(⟨p,row.length,g,m⟩ : O)):=hx
              rcases List.mem_append.mp hx' with hx' | hx'
              · exact ⟨sub _ (w.wy x hx').1,(w.wy x hx').2⟩
              · obtain ⟨c,hc,rfl⟩:=List.mem_map.mp hx'
                exact ⟨List.mem_cons_self,List.mem_map_of_mem hc⟩
            · show (ω.way ++ ω.ks.map fun c=>(true,c.1,(⟨p,row.length,g,m⟩ : O))).length ≤ 1000 * (T + 1)
              rw [List.length_append,List.length_map]
              have:=w.wl
              have:=w.ok.k1
              omega
            · rcases List.mem_or_eq_of_mem_set (show r ∈ ω.asked.set p.toNat (row ++ [⟨p,row.length,g,m⟩]) from hr) with hr | rfl
              · exact Nat.le_succ_of_le (w.al r hr)
              · rw [List.length_append]
                show row.length + 1 ≤ T + 1
                omega
  | cheat o=>
    obtain ⟨ho,oc,h0⟩:=can
    have sub : ∀ u ∈ L,u ∈ o :: L:=fun u h=>List.mem_cons_of_mem _ h
    refine ⟨o :: L,⟨w.ok.n8,w.ok.al,w.ok.ao,w.ok.ks,w.ok.nd,w.ok.k0,w.ok.k1⟩,by rw [List.length_cons]; have:=w.l; omega,fun u h=>?_,fun c hc=>up c hc sub,bup sub,fun x hx=>?_,?_,fun row hr=>Nat.le_succ_of_le (w.al row hr)⟩
    · rcases List.mem_cons.mp h with rfl | h
      · exact ho
      · exact w.lo u h
    · have hx':x ∈ ω.way ++ [(true,0,o)]:=hx
      rcases List.mem_append.mp hx' with hx' | hx'
      · exact ⟨sub _ (w.wy x hx').1,(w.wy x hx').2⟩
      · rw [List.mem_singleton.mp hx']
        exact ⟨List.mem_cons_self,h0⟩
    · show (ω.way ++ [(true,0,o)]).length ≤ 1000 * (T + 1)
      rw [List.length_append]
      have:=w.wl
      show ω.way.length + 1 ≤ 1000 * (T + 1)
      omega
  | come i=>
    have can':i < ω.way.length:=can
    obtain ⟨l,el⟩ : ∃ l,ω.way[i]? = some l:=⟨_,List.getElem?_eq_getElem can'⟩
    obtain ⟨lL,lh⟩:=w.wy l (List.mem_of_getElem? el)
    obtain ⟨κ,ek,km⟩:=keep_of lh
    rw [does_come el ek]
    have kk:KIn L T ω.n κ:=w.ks _ km
    obtain ⟨k1,k2,k3⟩:=kk.take l.1 lL (w.lo _ lL)
    have ekeys:(setK ω.ks l.2.1 (κ.take l.1 l.2.2).1).map (·.1) = ω.ks.map (·.1):=by
      unfold setK
      rw [List.map_map]
      refine List.map_congr_left fun c _=>?_
      show (if c.1 = l.2.1 then (l.2.1,(κ.take l.1 l.2.2).1) else c).1 = c.1
      split
      · rename_i z
        exact z.symm
      · rfl
    obtain ⟨b3,y3,lk3,l3⟩:=votes_in (L:=L) (hs:=ω.ks.map (·.1)) lh (os:=(κ.take l.1 l.2.2).2) (ω:={ ω with way:=ω.way.eraseIdx i,ks:=setK ω.ks l.2.1 (κ.take l.1 l.2.2).1 }) ekeys.symm k2 w.bd (fun x hx=>w.wy x (List.mem_of_mem_eraseIdx hx))
    have ks3 : ∀ c ∈ setK ω.ks l.2.1 (κ.take l.1 l.2.2).1,KIn L (T + 1) ω.n c.2:=fun c hc=>by
      obtain ⟨c',hc',rfl⟩:=List.mem_map.mp hc
      split
      · exact k1
      · exact up c' hc' fun _ h=>h
    refine ⟨L,⟨by show (Wd.zb _ _ _).n ≤ 8; rw [lk3.n]; exact w.ok.n8,by show (Wd.zb _ _ _).asked.length = (Wd.zb _ _ _).n; rw [lk3.a,lk3.n]; exact w.ok.al,by show ∀ row ∈ (Wd.zb _ _ _).asked,_; rw [lk3.a]; intro row hr o ho; show isOrd (Wd.zb _ _ _).n o = true; rw [lk3.n]; exact w.ok.ao row hr o ho,by show ∀ c ∈ (Wd.zb _ _ _).ks,_; rw [lk3.k]; intro c hc; show c.2.Ok (Wd.zb _ _ _).n; rw [lk3.n]; exact (ks3 c hc).ok,by show ((Wd.zb _ _ _).ks.map _).Nodup; rw [lk3.k]; show ((setK ω.ks l.2.1 _).map _).Nodup; rw [ekeys]; exact w.ok.nd,by show 0 < (Wd.zb _ _ _).ks.length; rw [lk3.k]; show 0 < (setK _ _ _).length; rw [setK_len]; exact w.ok.k0,by show (Wd.zb _ _ _).ks.length ≤ 16; rw [lk3.k]; show (setK _ _ _).length ≤ 16; rw [setK_len]; exact w.ok.k1⟩,Nat.le_succ_of_le w.l,?_,?_,?_,?_,?_,?_⟩
    · show ∀ o ∈ L,isOrd (Wd.zb _ _ _).n o = true
      rw [lk3.n]
      exact w.lo
    · show ∀ c ∈ (Wd.zb _ _ _).ks,KIn L (T + 1) (Wd.zb _ _ _).n c.2
      rw [lk3.k,lk3.n]
      exact ks3
    · show BIn L ((Wd.zb _ _ _).ks.map (·.1)) (Wd.zb _ _ _).bd
      rw [lk3.k]
      show BIn L ((setK ω.ks l.2.1 _).map (·.1)) _
      rw [ekeys]
      exact b3
    · show ∀ x ∈ (Wd.zb _ _ _).way,x.2.2 ∈ L ∧ x.2.1 ∈ (Wd.zb _ _ _).ks.map (·.1)
      rw [lk3.k]
      show ∀ x ∈ (Wd.zb _ _ _).way,x.2.2 ∈ L ∧ x.2.1 ∈ (setK ω.ks l.2.1 _).map (·.1)
      rw [ekeys]
      exact y3
    · show (Wd.zb _ _ _).way.length ≤ 1000 * (T + 1)
      refine Nat.le_trans l3 ?_
      show (ω.way.eraseIdx i).length + (setK ω.ks l.2.1 _).length * _ ≤ _
      rw [setK_len]
      have h1:=List.length_eraseIdx_le ω.way i
      have h2:=w.wl
      have h3 : ω.ks.length * (κ.take l.1 l.2.2).2.length ≤ 16 * 61:=Nat.mul_le_mul w.ok.k1 (by omega)
      omega
    · show ∀ row ∈ (Wd.zb _ _ _).asked,row.length ≤ T + 1
      rw [lk3.a]
      exact fun row hr=>Nat.le_succ_of_le (w.al row hr)
def TupU (K:W.Frag) (H:Hp) (ρ : Rho) (a:Addr) (xs:List V) : Prop:=(Rd H a (.tup xs) ∧ ρ a = none) ∨
  ∃ (o:Obj) (its:Array Value) (n:Nat),K.lookup a = some o ∧ o.cls = .type "tuple" ∧ o.data = .seq its n ∧ its.size ≤ sizeLine ∧ Vals xs its.toList
theorem TupU.sq {K:W.Frag} {H:Hp} {ρ : Rho} {a:Addr} {xs:List V} (h:TupU K H ρ a xs) : SqT K H a xs:=h.imp (fun q=>q.1) (fun q=>q)
theorem TupU.of {K:W.Frag} {H:Hp} {ρ : Rho} {a:Addr} {xs:List V} (kr:OkR ρ H) (h:SqT K H a xs) : TupU K H ρ a xs:=by
  rcases h with h | h
  · refine .inl ⟨h,?_⟩
    rcases h with h | ⟨o,h⟩
    · exact kr.tup h
    · exact kr.tupF h
  · exact .inr h
theorem TupU.fr {K:W.Frag} {P:Role → Prop} {H H':Hp} {ρ ρ':Rho} {a:Addr} {xs:List V} (f:Fr P ρ H ρ' H') (h:TupU K H ρ a xs) : TupU K H' ρ' a xs:=by
  rcases h with ⟨h | ⟨o,h⟩,n⟩ | h
  · obtain ⟨a1,a2⟩:=fr_un f h n
    exact .inl ⟨.inl a1,a2⟩
  · obtain ⟨a1,a2⟩:=fr_un f h n
    exact .inl ⟨.inr ⟨o,a1⟩,a2⟩
  · exact .inr h
mutual
def HasU (K:W.Frag) (H:Hp) (ρ : Rho) : Dt → V → Prop
  | .non,v=>v = .non
  | .bl b,v=>v = .bl b
  | .int i,v=>v = .int i
  | .str x,v=>v = .str x
  | .tup ds,v=>∃ a xs,v = .ref a ∧ TupU K H ρ a xs ∧ j6 K H ρ ds xs
  | .lst ds,v=>∃ a xs,v = .ref a ∧ H a = some (.lst xs) ∧ ρ a = none ∧ j6 K H ρ ds xs
def j6 (K:W.Frag) (H:Hp) (ρ : Rho) : List Dt → List V → Prop
  | [],xs=>xs = []
  | d :: ds,xs=>∃ x r,xs = x :: r ∧ HasU K H ρ d x ∧ j6 K H ρ ds r
end
section
variable {K:W.Frag} {P:Role → Prop} {H H':Hp} {ρ ρ':Rho}
mutual
theorem HasU.hasD : ∀ {d:Dt} {x:V},HasU K H ρ d x → qp K H d x
  | .non,_,h=>by rw [HasU] at h; rw [qp]; exact h
  | .bl _,_,h=>by rw [HasU] at h; rw [qp]; exact h
  | .int _,_,h=>by rw [HasU] at h; rw [qp]; exact h
  | .str _,_,h=>by rw [HasU] at h; rw [qp]; exact h
  | .tup ds,x,h=>by
    rw [HasU] at h
    rw [qp]
    obtain ⟨a,xs,e,q,r⟩:=h
    exact ⟨a,xs,e,q.sq,j6.hasDs r⟩
  | .lst ds,x,h=>by
    rw [HasU] at h
    rw [qp]
    obtain ⟨a,xs,e,q,_,r⟩:=h
    exact ⟨a,xs,e,SqL.of q,j6.hasDs r⟩
theorem j6.hasDs : ∀ {ds:List Dt} {xs:List V},j6 K H ρ ds xs → HasDs K H ds xs
  | [],_,h=>by rw [j6] at h; rw [HasDs]; exact h
  | d :: ds,xs,h=>by
    rw [j6] at h
    rw [HasDs]
    obtain ⟨x,r,e,a,b⟩:=h
    exact ⟨x,r,e,HasU.hasD a,j6.hasDs b⟩
end
mutual
theorem HasU.fr (f:Fr P ρ H ρ' H') : ∀ {d:Dt} {x:V},HasU K H ρ d x → HasU K H' ρ' d x
  | .non,_,h=>by rw [HasU] at h ⊢; exact h
  | .bl _,_,h=>by rw [HasU] at h ⊢; exact h
  | .int _,_,h=>by rw [HasU] at h ⊢; exact h
  | .str _,_,h=>by rw [HasU] at h ⊢; exact h
  | .tup ds,x,h=>by
    rw [HasU] at h ⊢
    obtain ⟨a,xs,e,q,r⟩:=h
    exact ⟨a,xs,e,q.fr f,j6.fr f r⟩
  | .lst ds,x,h=>by
    rw [HasU] at h ⊢
    obtain ⟨a,xs,e,q,n,r⟩:=h
    obtain ⟨q',n'⟩:=fr_un f q n
    exact ⟨a,xs,e,q',n',j6.fr f r⟩
theorem j6.fr (f:Fr P ρ H ρ' H') : ∀ {ds:List Dt} {xs:List V},j6 K H ρ ds xs → j6 K H' ρ' ds xs
  | [],_,h=>by rw [j6] at h ⊢; exact h
  | d :: ds,xs,h=>by
    rw [j6] at h ⊢
    obtain ⟨x,r,e,a,b⟩:=h
    exact ⟨x,r,e,HasU.fr f a,j6.fr f b⟩
end
theorem j6.pair {F : α → Dt} {R:V → α → Prop} (h : ∀ x a,R x a → HasU K H ρ (F a) x) : ∀ {xs:List V} {as:List α},Paired R xs as → j6 K H ρ (as.map F) xs
  | _,_,.nil=>by rw [List.map_nil,j6]
  | _,_,.cons a t=>by
    rw [List.map_cons,j6]
    exact ⟨_,_,rfl,h _ _ a,j6.pair h t⟩
theorem j6.snoc : ∀ {ds:List Dt} {xs:List V} {d:Dt} {x:V},j6 K H ρ ds xs → HasU K H ρ d x → j6 K H ρ (ds ++ [d]) (xs ++ [x])
  | [],xs,d,x,h,q=>by
    rw [j6] at h
    subst h
    rw [List.nil_append,List.nil_append,j6]
    exact ⟨_,_,rfl,q,by rw [j6]⟩
  | e :: ds,xs,d,x,h,q=>by
    rw [j6] at h
    obtain ⟨y,r,rfl,a,b⟩:=h
    rw [List.cons_append,List.cons_append,j6]
    exact ⟨_,_,rfl,a,j6.snoc b q⟩
end
def tupD (ts:List Int) : Dt:=.tup (ts.map Dt.int)
def ordD (o:O) : Dt:=tupD (ordI o)
def letD (l:Bool × Int × O) : Dt:=.tup [.str (if l.1 = true then "order" else "paper"),.int l.2.1,ordD l.2.2]
theorem hasUs_ints {K:W.Frag} {H:Hp} {ρ : Rho} : ∀ ns:List Int,j6 K H ρ (ns.map Dt.int) (ns.map V.int)
  | []=>by rw [List.map_nil,List.map_nil,j6]
  | n :: ns=>by
    rw [List.map_cons,List.map_cons,j6]
    exact ⟨_,_,rfl,by rw [HasU],hasUs_ints ns⟩
theorem hasU_tup {K:W.Frag} {H:Hp} {ρ : Rho} {a:Addr} {ts:List Int} (h:TupU K H ρ a (ts.map V.int)) : HasU K H ρ (tupD ts) (.ref a):=by
  unfold tupD
  rw [HasU]
  exact ⟨a,_,rfl,h,hasUs_ints ts⟩
theorem xj.has {K:W.Frag} {H:Hp} {ρ : Rho} {x:V} {o:O} (h:xj H ρ x o) : HasU K H ρ (ordD o) x:=by
  obtain ⟨a,rfl,n,q⟩:=h
  exact hasU_tup (.inl ⟨.inl q,n⟩)
theorem LetU.has {K:W.Frag} {H:Hp} {ρ : Rho} {x:V} {l:Bool × Int × O} (h:LetU H ρ x l) : HasU K H ρ (letD l) x:=by
  obtain ⟨a,q,rfl,n,h1,h2⟩:=h
  unfold letD
  rw [HasU]
  refine ⟨a,_,rfl,.inl ⟨.inl h1,n⟩,?_⟩
  rw [j6]
  refine ⟨_,_,rfl,by rw [HasU]; rfl,?_⟩
  rw [j6]
  refine ⟨_,_,rfl,by rw [HasU],?_⟩
  rw [j6]
  exact ⟨_,_,rfl,h2.has,by rw [j6]⟩
theorem tupsAt_has {K:W.Frag} {H:Hp} {ρ : Rho} (kr:OkR ρ H) : ∀ {vs:List V} {ts:List (List Int)},TupsAt K H vs ts → j6 K H ρ (ts.map tupD) vs
  | _,_,.nil=>by rw [List.map_nil,j6]
  | _,_,.cons ⟨a,e,q⟩ t=>by
    rw [List.map_cons,j6]
    subst e
    exact ⟨_,_,rfl,hasU_tup (TupU.of kr q),tupsAt_has kr t⟩
theorem sorted_one {a b c:List (List Int)} (h1:a.Perm c) (h2:a.Pairwise fun x y=>HT.lexLt x y = true) (h3:b.Perm c) (h4:b.Pairwise fun x y=>HT.lexLt x y = true) : a = b:=
  List.Perm.eq_of_pairwise (fun x y _ _ p q=>by rw [lex_asy p] at q; cases q) h2 h4 (h1.trans h3.symm)
open Classical in
noncomputable def srt (l:List (List Int)) : List (List Int):=if h : ∃ ts:List (List Int),ts.Perm l ∧ ts.Pairwise (fun x y=>HT.lexLt x y = true) then h.choose else l
theorem srt_is {l ts:List (List Int)} (h1:ts.Perm l) (h2:ts.Pairwise fun x y=>HT.lexLt x y = true) : ts = srt l:=by
  unfold srt
  have h : ∃ ts:List (List Int),ts.Perm l ∧ ts.Pairwise (fun x y=>HT.lexLt x y = true):=⟨ts,h1,h2⟩
  rw [dif_pos h]
  exact sorted_one h1 h2 h.choose_spec.1 h.choose_spec.2
noncomputable def rowsD (ω : Wd) : List Dt:=[.lst (ω.way.map letD),.lst ((srt (carriedI ω.bd ω.en)).map tupD)] ++ (ω.ks.map fun c=>[Dt.lst (c.2.held.map Dt.int),.lst (c.2.done.map ordD),.lst ((srt (c.2.wait.map ordI)).map tupD)]).flatten
def toldD:Told → Dt
  | .none=>.non
  | .ord o=>ordD o
  | .word z=>.str z
  | .letter l=>letD l
noncomputable def seenD (r:Wd × Told) : Dt:=.lst (toldD r.2 :: rowsD r.1)
def sp_town (K:W.Frag) : Sp:=fun vs H Q _=>∃ (a:Addr) (ns:List Int),vs = [.ref a] ∧ SqL K H a (ns.map V.int) ∧ ∀ T R H',H T = none → H R = none → Same H H' → Town T R H' → Q (.ref T) H'
def sp_draw:Sp:=fun vs H Q _=>∃ (T R:Addr) (m:Int),vs = [.ref T,.int m] ∧ Town T R H ∧ 1 ≤ m ∧ m < 1073741824 ∧ ∀ d H',0 ≤ d → d < m → Town T R H' → KeepT T R H H' → Q (.int d) H'
theorem ok__law_town (T:Txt K mg t) : FnOk P w K mg base CX0 1 t.f__law_town t.d__law_town ["_law_script"] (sp_town K):=by
  refine T.F__law_town.ok sc__law_town (fun vs H Q E h=>?_) (fun cdv A outer s H vs Q E hr h=>?_)
  · obtain ⟨a,ns,rfl,_⟩:=h
    rfl
  · obtain ⟨a,ns,rfl,ha,k⟩:=h
    refine ⟨_,(@jf _ _ _ (j4 (@qd _ _ _ _ (@pa_2 _ _ _ _ _ (pe_ifExp (qr (op_neD hr.units) (pv 0) (@qd _ _ _ _ jg) (zv _)) (pe_callTy ye rfl T.n_list boot_list (jd (pv 0) jg)) (@qd _ _ _ _ (jd jj jg))) jj rfl rfl)))),?_⟩
    refine ⟨_,rfl,zs0,fun p hp=>?_⟩
    have s1:=ji (o:=.lst []) hp
    refine ⟨.lst (ns.map Dt.int),.lst (([] : List Int).map Dt.int),hasD_listI (s1.seq ha),hasD_listI (SqL.of ja),dep_listI _,_,rfl,?_⟩
    rw [eqD_listI]
    refine ite2 (fun h1=>?_) (fun h1=>?_)
    · have ne:=nd h1
      refine ⟨_,rfl,a,_,rfl,.inl (s1.seq ha),fun R hR=>?_⟩
      refine ⟨zs2,fun T' hT=>?_⟩
      have s2:=s1.trans (ji (o:=.lst (ns.map V.int)) hR)
      have nRT:R ≠ T':=jh ja hT
      refine k T' R _ (s2.free hT) (s1.free hR) (s2.trans (ji hT)) ⟨ns,0,ja,by rw [je nRT,ja],?_⟩
      cases ns with
      | nil=>exact absurd rfl ne
      | cons x r=>exact Nat.succ_pos _
    · refine ⟨zs1,fun R hR=>?_⟩
      refine ⟨zs2,fun T' hT=>?_⟩
      have s2:=s1.trans (ji (o:=.lst [.int 0]) hR)
      have nRT:R ≠ T':=jh ja hT
      exact k T' R _ (s2.free hT) (s1.free hR) (s2.trans (ji hT)) ⟨[0],0,ja,by rw [je nRT,ja]; rfl,Nat.one_pos⟩
theorem ok__law_draw (T:Txt K mg t) : FnOk P w K mg base CX0 1 t.f__law_draw t.d__law_draw ["_law_town_here","_law_many"] sp_draw:=by
  refine T.yo.ok sc__law_draw (fun vs H Q E h=>?_) (fun cdv A outer s H vs Q E hr h=>?_)
  · obtain ⟨a,R,m,rfl,_⟩:=h
    rfl
  · obtain ⟨To,R,m,rfl,hT,m1,m2,k⟩:=h
    have nTR:=hT.ne
    obtain ⟨row,c,h1,h2,h3⟩:=hT
    refine ⟨_,(@jc _ _ _ _ _ (j7 (i:=2) sc__law_draw.nd rfl (Or.inl rfl) (yq zk (pv 0) jj (fun _ _=>rfl)))
      (@jc _ _ _ _ _ (ps_asg (pe_op op_add (yq zk (pv 0) jj (fun _ _=>rfl)) jj) (pg_sub (pv 0) jj set_list))
      (@jc _ _ _ _ _ (j7 (i:=3) sc__law_draw.nd rfl (Or.inl rfl) (pe_op op_mod (yq zk (pv 0) jj (fun _ _=>rfl)) (ju j8 rfl T.n_len boot_len (jd (pv 2) jg))))
      (@jc _ _ _ _ _ (j7 (i:=4) sc__law_draw.nd rfl (Or.inl rfl) (yq zk (pv 2) (pv 3) (fun _ _=>rfl)))
      (@jc _ _ _ _ _ (yc (qr op_ge (pv 4) jj (zv _)) (@jc _ _ _ _ _ (ps_asg (pe_op op_fdiv (pv 4) (pv 1)) (pg_sub (pv 2) (pv 3) set_list))
      (@jf _ _ _ (j4 (pe_op op_mod (pv 4) (pv 1))))) qe)
      (@jc _ _ _ _ _ (j7 (i:=5) sc__law_draw.nd rfl (Or.inl rfl) (pe_op op_mod (pe_op op_add (pv 4) (pe_op op_mul jj (yq zk (pv 0) jj (fun _ _=>rfl)))) jj))
      (@jc _ _ _ _ _ (j7 (i:=5) sc__law_draw.nd rfl (Or.inl rfl) (pe_op op_mod (pe_op op_pow (pv 5) jj) jj))
      (@jf _ _ _ (j4 (pe_op op_mod (pe_op op_fdiv (pe_op op_mod (pe_op op_add (pe_op op_mul (pe_op op_fdiv (pv 5) jj) jj) (pv 5)) jj) jj) (pv 1))))))))))),?_⟩
    refine ⟨_,rfl,To,_,0,.ref R,rfl,rfl,SqL.of h1,rfl,?_⟩
    refine ⟨_,rfl,To,_,1,.int c,rfl,rfl,SqL.of h1,rfl,_,_,rfl,rfl,?_⟩
    refine ⟨_,rfl,To,_,1,1,rfl,rfl,h1,rfl,?_⟩
    have g1:(upd H To (.lst ([V.ref R,V.int c].set 1 (V.int (c + 1))))) To = some (.lst [.ref R,.int (c + 1)]):=ja
    have g2:(upd H To (.lst ([V.ref R,V.int c].set 1 (V.int (c + 1))))) R = some (.lst (row.map V.int)):=by rw [je nTR.symm]; exact h2
    have kp:KeepT To R H (upd H To (.lst ([V.ref R,V.int c].set 1 (V.int (c + 1))))):=fun b o e n1 _=>by rw [je n1]; exact e
    generalize upd H To (.lst ([V.ref R,V.int c].set 1 (V.int (c + 1)))) = H1 at g1 g2 kp
    have hl:(0:Int) < ((row.map V.int).length:Int):=by rw [List.length_map]; omega
    refine ⟨_,rfl,To,_,1,.int (c + 1),rfl,rfl,SqL.of g1,rfl,_,rfl,R,_,rfl,.inl (SqL.of g2),_,_,rfl,rfl,hl,?_⟩
    rw [List.length_map] at hl ⊢
    have b0 : 0 ≤ (c + 1) % (row.length:Int):=Int.emod_nonneg _ (by omega)
    have b1:(c + 1) % (row.length:Int) < (row.length:Int):=Int.emod_lt_of_pos _ hl
    have b2:((c + 1) % (row.length:Int)).toNat < row.length:=by omega
    refine ⟨_,rfl,_,rfl,R,_,((c + 1) % (row.length:Int)),_,rfl,rfl,SqL.of g2,atI_of b0 (get_map b2),?_⟩
    refine ⟨_,rfl,_,_,rfl,rfl,_,rfl,?_⟩
    refine ite2 (fun h5=>?_) (fun h5=>?_)
    · refine ⟨_,rfl,_,rfl,_,_,rfl,rfl,⟨by omega,m2⟩,?_⟩
      refine ⟨_,rfl,_,rfl,R,_,((c + 1) % (row.length:Int)),_,rfl,rfl,g2,ixN_of b0 (by rw [List.length_map]; exact b2),?_⟩
      rw [set_map]
      refine ⟨_,rfl,_,rfl,_,_,rfl,rfl,(by show (0:Int) < m; omega),?_⟩
      refine k _ _ (Int.emod_nonneg _ (by omega)) (Int.emod_lt_of_pos _ (by omega)) ⟨_,c + 1,by rw [je nTR]; exact g1,ja,by rw [List.length_set]; exact h3⟩ fun b o e n1 n2=>?_
      rw [je n2]
      exact kp b o e n1 n2
    · have big : ∀ z:Int,(z % 4294967291).natAbs < 2 ^ 64:=fun z=>by
        have u1:=Int.emod_nonneg z (show (4294967291:Int) ≠ 0 by decide)
        have u2:=Int.emod_lt_of_pos z (show (0:Int) < 4294967291 by decide)
        omega
      refine ⟨_,rfl,_,rfl,To,_,1,.int (c + 1),rfl,rfl,SqL.of g1,rfl,_,_,rfl,rfl,.inl ⟨by decide,by decide⟩,_,_,rfl,rfl,_,_,rfl,rfl,(by show (0:Int) < 4294967291; decide),?_⟩
      refine ⟨_,rfl,_,_,rfl,rfl,⟨by decide,by decide,big _⟩,_,_,rfl,rfl,(by show (0:Int) < 4294967279; decide),?_⟩
      refine ⟨_,rfl,_,_,rfl,rfl,⟨by decide,by decide⟩,_,_,rfl,rfl,.inr ⟨by decide,by decide⟩,_,rfl,_,_,rfl,rfl,_,_,rfl,rfl,(by show (0:Int) < 4294967231; decide),_,_,rfl,rfl,⟨by decide,by decide⟩,_,rfl,_,_,rfl,rfl,(by show (0:Int) < m; omega),?_⟩
      exact k _ _ (Int.emod_nonneg _ (by omega)) (Int.emod_lt_of_pos _ (by omega)) ⟨row,c + 1,g1,g2,h3⟩ kp
theorem kinds13 {C a0 a1 a2 a3 a4 a5 a6 a7 a8 a9 a10 a11 a12:Value} {b0 b1 b2 b3 b4 b5 b6 b7 b8 b9 b10 b11 b12:Bool} (h:kinds K C [a0,a1,a2,a3,a4,a5,a6,a7,a8,a9,a10,a11,a12] = [some b0,some b1,some b2,some b3,some b4,some b5,some b6,some b7,some b8,some b9,some b10,some b11,some b12]) :
    W.kitOne K C a0 = some b0 ∧ W.kitOne K C a1 = some b1 ∧ W.kitOne K C a2 = some b2 ∧ W.kitOne K C a3 = some b3 ∧ W.kitOne K C a4 = some b4 ∧ W.kitOne K C a5 = some b5 ∧ W.kitOne K C a6 = some b6 ∧ W.kitOne K C a7 = some b7 ∧
    W.kitOne K C a8 = some b8 ∧ W.kitOne K C a9 = some b9 ∧ W.kitOne K C a10 = some b10 ∧ W.kitOne K C a11 = some b11 ∧ W.kitOne K C a12 = some b12:=by
  unfold kinds at h
  simpa only [List.map_cons,List.map_nil,List.cons.injEq,and_true] using h
def words:List V:=[.str "number",.str "order",.str "houses",.str "house",.str "purse",.str "letter",.str "now",.str "much",.str "paper",.str "cut",.str "text"]
def sp_refusal (K:W.Frag) (t:Ad) : Sp:=fun vs H Q _=>∃ (ea C:Addr) (b0 b1 b2 b3 b4 b5 b6 b7 b8 b9 b10:Bool) (x:V),vs = [.ref ea] ∧ H ea = some (IsExc ea (.ref C)) ∧ XIs K C ∧
  kinds K (.ref C) (asked t) = [some b0,some b1,some b2,some b3,some b4,some b5,some b6,some b7,some b8,some b9,some b10,some true,some true] ∧ [b0,b1,b2,b3,b4,b5,b6,b7,b8,b9,b10].count true = 1 ∧
  words[[b0,b1,b2,b3,b4,b5,b6,b7,b8,b9,b10].idxOf true]? = some x ∧ ∀ H',Same H H' → Q x H'
set_option maxHeartbeats 0 in
theorem ok__law_refusal (T:Txt K mg t) : FnOk P w K mg base CX0 1 t.f__law_refusal t.d__law_refusal ["_law_caught"] (sp_refusal K t):=by
  refine T.F__law_refusal.ok xx (fun vs H Q E h=>?_) (fun cdv A outer s H vs Q E hr h=>?_)
  · obtain ⟨ea,C,b0,b1,b2,b3,b4,b5,b6,b7,b8,b9,b10,x,rfl,_⟩:=h
    rfl
  · obtain ⟨ea,C,b0,b1,b2,b3,b4,b5,b6,b7,b8,b9,b10,x,rfl,he,hX,hk,hc,hw,k⟩:=h
    obtain ⟨k0,k1,k2,k3,k4,k5,k6,k7,k8,k9,k10,k11,k12⟩:=kinds13 hk
    refine ⟨_,(@jc _ _ _ _ _ (@j7 _ _ 1 _ _ _ _ xx.nd rfl (Or.inl rfl) (@qd _ _ _ _ (@pa_3 _ _ _ _ _ _ _ (ju zx rfl T.jy boot_isinstance (@pa_2 _ _ _ _ _ (pv 0) (zq (v:=.ref t.a_BadNumber) rfl T.m_BadNumber rfl) rfl rfl)) (ju zx rfl T.jy boot_isinstance (@pa_2 _ _ _ _ _ (pv 0) (zq (v:=.ref t.a_BadOrder) rfl T.m_BadOrder rfl) rfl rfl)) (ju zx rfl T.jy boot_isinstance (@pa_2 _ _ _ _ _ (pv 0) (zq (v:=.ref t.a_BadHouses) rfl T.m_BadHouses rfl) rfl rfl)) rfl rfl rfl)) (by rfl) (by first | exact .inl rfl | exact .inr rfl))
      (@jc _ _ _ _ _ (j7 (i:=1) xx.nd rfl (Or.inl rfl) (pe_op op_cat (pv 1) (@qd _ _ _ _ (@pa_3 _ _ _ _ _ _ _ (ju zx rfl T.jy boot_isinstance (@pa_2 _ _ _ _ _ (pv 0) (zq (v:=.ref t.a_NoHouse) rfl T.m_NoHouse rfl) rfl rfl)) (ju zx rfl T.jy boot_isinstance (@pa_2 _ _ _ _ _ (pv 0) (zq (v:=.ref t.a_NoPurse) rfl T.m_NoPurse rfl) rfl rfl)) (ju zx rfl T.jy boot_isinstance (@pa_2 _ _ _ _ _ (pv 0) (zq (v:=.ref t.a_NoLetter) rfl T.m_NoLetter rfl) rfl rfl)) rfl rfl rfl))))
      (@jc _ _ _ _ _ (j7 (i:=1) xx.nd rfl (Or.inl rfl) (pe_op op_cat (pv 1) (@qd _ _ _ _ (@pa_3 _ _ _ _ _ _ _ (ju zx rfl T.jy boot_isinstance (@pa_2 _ _ _ _ _ (pv 0) (zq (v:=.ref t.a_NotNow) rfl T.m_NotNow rfl) rfl rfl)) (ju zx rfl T.jy boot_isinstance (@pa_2 _ _ _ _ _ (pv 0) (zq (v:=.ref t.a_TooMuch) rfl T.m_TooMuch rfl) rfl rfl)) (ju zx rfl T.jy boot_isinstance (@pa_2 _ _ _ _ _ (pv 0) (zq (v:=.ref t.a_BadPaper) rfl T.m_BadPaper rfl) rfl rfl)) rfl rfl rfl))))
      (@jc _ _ _ _ _ (j7 (i:=1) xx.nd rfl (Or.inl rfl) (pe_op op_cat (pv 1) (@qd _ _ _ _ (@pa_2 _ _ _ _ _ (ju zx rfl T.jy boot_isinstance (@pa_2 _ _ _ _ _ (pv 0) (zq (v:=.ref t.a_BadCut) rfl T.m_BadCut rfl) rfl rfl)) (ju zx rfl T.jy boot_isinstance (@pa_2 _ _ _ _ _ (pv 0) (zq (v:=.ref t.a_BadText) rfl T.m_BadText rfl) rfl rfl)) rfl rfl))))
      (@jc _ _ _ _ _ (yc (PW.pt (pw_or (qr op_ne (pe_bm PySem.F.plainAttrs_list PySem.F.slot_list_count PySem.F.type_list_count mt_countB (pv 1) (jd pe_bl jg)) jj (zv _)) (pw_or (pt_not (xu (ju zx rfl T.jy boot_isinstance (@pa_2 _ _ _ _ _ (pv 0) (zq (v:=.ref t.a_PurseError) rfl T.m_PurseError rfl) rfl rfl)))) (pw_or1 (pt_not (xu (ju zx rfl T.jy boot_isinstance (@pa_2 _ _ _ _ _ (pv 0) (pe_bltn (v:=.ty "ValueError") rfl T.n_ValueError boot_ValueError rfl) rfl rfl)))))))) (@jf _ _ _ (j4 pe_str)) qe)
      (@jc _ _ _ _ _ (@j7 _ _ 2 _ _ _ _ xx.nd rfl (Or.inl rfl) (@qd _ _ _ _ (@pa_lits _ _ [.c (.str "number"),.c (.str "order"),.c (.str "houses"),.c (.str "house"),.c (.str "purse"),.c (.str "letter"),.c (.str "now"),.c (.str "much"),.c (.str "paper"),.c (.str "cut"),.c (.str "text")] rfl)) (by rfl) (by first | exact .inl rfl | exact .inr rfl))
      (@jf _ _ _ (j4 (yq zk (pv 2) (pe_bm PySem.F.plainAttrs_list PySem.F.slot_list_index PySem.F.type_list_index mt_indexB (pv 1) (jd pe_bl jg)) (fun _ _=>rfl)))))))))),?_⟩
    refine ⟨_,rfl,ea,C,_,_,b0,rfl,he,hX,rfl,k0,_,rfl,ea,C,_,_,b1,rfl,he,hX,rfl,k1,_,rfl,ea,C,_,_,b2,rfl,he,hX,rfl,k2,zs3,fun p1 h1=>?_⟩
    have s1:=ji (o:=.lst [.bl b0,.bl b1,.bl b2]) h1
    have he1:=s1 _ _ he
    refine ⟨_,rfl,_,rfl,ea,C,_,_,b3,rfl,he1,hX,rfl,k3,_,rfl,ea,C,_,_,b4,rfl,he1,hX,rfl,k4,_,rfl,ea,C,_,_,b5,rfl,he1,hX,rfl,k5,zs3,fun p2 h2=>?_⟩
    refine ⟨p1,p2,[.bl b0,.bl b1,.bl b2],[.bl b3,.bl b4,.bl b5],rfl,rfl,(by rw [je (jh ja h2)]; exact ja),ja,zs6,fun p3 h3=>?_⟩
    have s3:=(s1.trans (ji (o:=.lst [.bl b3,.bl b4,.bl b5]) h2)).trans (ji (o:=.lst ([.bl b0,.bl b1,.bl b2] ++ [.bl b3,.bl b4,.bl b5])) h3)
    have g3:(upd (upd (upd H p1 (.lst [.bl b0,.bl b1,.bl b2])) p2 (.lst [.bl b3,.bl b4,.bl b5])) p3 (.lst ([.bl b0,.bl b1,.bl b2] ++ [.bl b3,.bl b4,.bl b5]))) p3 = some (.lst [.bl b0,.bl b1,.bl b2,.bl b3,.bl b4,.bl b5]):=ja
    generalize upd (upd (upd H p1 (.lst [.bl b0,.bl b1,.bl b2])) p2 (.lst [.bl b3,.bl b4,.bl b5])) p3 (.lst ([.bl b0,.bl b1,.bl b2] ++ [.bl b3,.bl b4,.bl b5])) = H3 at s3 g3
    have he3:=s3 _ _ he
    refine ⟨_,rfl,_,rfl,ea,C,_,_,b6,rfl,he3,hX,rfl,k6,_,rfl,ea,C,_,_,b7,rfl,he3,hX,rfl,k7,_,rfl,ea,C,_,_,b8,rfl,he3,hX,rfl,k8,zs3,fun p4 h4=>?_⟩
    refine ⟨p3,p4,[.bl b0,.bl b1,.bl b2,.bl b3,.bl b4,.bl b5],[.bl b6,.bl b7,.bl b8],rfl,rfl,(by rw [je (jh g3 h4)]; exact g3),ja,zs9,fun p5 h5=>?_⟩
    have s5:=(s3.trans (ji (o:=.lst [.bl b6,.bl b7,.bl b8]) h4)).trans (ji (o:=.lst ([.bl b0,.bl b1,.bl b2,.bl b3,.bl b4,.bl b5] ++ [.bl b6,.bl b7,.bl b8])) h5)
    have g5:(upd (upd H3 p4 (.lst [.bl b6,.bl b7,.bl b8])) p5 (.lst ([.bl b0,.bl b1,.bl b2,.bl b3,.bl b4,.bl b5] ++ [.bl b6,.bl b7,.bl b8]))) p5 = some (.lst [.bl b0,.bl b1,.bl b2,.bl b3,.bl b4,.bl b5,.bl b6,.bl b7,.bl b8]):=ja
    generalize upd (upd H3 p4 (.lst [.bl b6,.bl b7,.bl b8])) p5 (.lst ([.bl b0,.bl b1,.bl b2,.bl b3,.bl b4,.bl b5] ++ [.bl b6,.bl b7,.bl b8])) = H5 at s5 g5
    have he5:=s5 _ _ he
    refine ⟨_,rfl,_,rfl,ea,C,_,_,b9,rfl,he5,hX,rfl,k9,_,rfl,ea,C,_,_,b10,rfl,he5,hX,rfl,k10,zs2,fun p6 h6=>?_⟩
    refine ⟨p5,p6,[.bl b0,.bl b1,.bl b2,.bl b3,.bl b4,.bl b5,.bl b6,.bl b7,.bl b8],[.bl b9,.bl b10],rfl,rfl,(by rw [je (jh g5 h6)]; exact g5),ja,zs11,fun p7 h7=>?_⟩
    have s7:=(s5.trans (ji (o:=.lst [.bl b9,.bl b10]) h6)).trans (ji (o:=.lst ([.bl b0,.bl b1,.bl b2,.bl b3,.bl b4,.bl b5,.bl b6,.bl b7,.bl b8] ++ [.bl b9,.bl b10])) h7)
    have g7:(upd (upd H5 p6 (.lst [.bl b9,.bl b10])) p7 (.lst ([.bl b0,.bl b1,.bl b2,.bl b3,.bl b4,.bl b5,.bl b6,.bl b7,.bl b8] ++ [.bl b9,.bl b10]))) p7 = some (.lst ([b0,b1,b2,b3,b4,b5,b6,b7,b8,b9,b10].map V.bl)):=ja
    generalize upd (upd H5 p6 (.lst [.bl b9,.bl b10])) p7 (.lst ([.bl b0,.bl b1,.bl b2,.bl b3,.bl b4,.bl b5,.bl b6,.bl b7,.bl b8] ++ [.bl b9,.bl b10])) = H7 at s7 g7
    have he7:=s7 _ _ he
    have hmem:true ∈ [b0,b1,b2,b3,b4,b5,b6,b7,b8,b9,b10]:=List.count_pos_iff.mp (by rw [hc]; decide)
    generalize [b0,b1,b2,b3,b4,b5,b6,b7,b8,b9,b10] = bs at hc hw g7 hmem
    refine ⟨_,rfl,.inl ⟨rfl,_,SqL.of g7⟩,p7,bs,true,rfl,rfl,SqL.of g7,rfl,_,rfl,?_⟩
    refine ite2 (fun z=>?_) (fun _=>?_)
    · exfalso
      rw [hc] at z
      exact absurd z (by decide)
    refine ⟨_,rfl,ea,C,_,_,true,rfl,he7,hX,rfl,k11,_,rfl,iteF ?_⟩
    refine ⟨_,rfl,ea,C,_,_,true,rfl,he7,hX,rfl,k12,_,rfl,iteF ?_⟩
    refine ⟨zs11,fun p8 h8=>?_⟩
    have s8:=s7.trans (ji (o:=.lst words) h8)
    have g8:=(ji (o:=.lst words) h8) _ _ g7
    refine ⟨_,rfl,_,rfl,.inl ⟨rfl,_,SqL.of g8⟩,p7,bs,true,rfl,rfl,SqL.of g8,hmem,?_⟩
    exact ⟨p8,words,_,x,rfl,rfl,SqL.of ja,atI_of (by omega) (by rw [Int.toNat_natCast]; exact hw),k _ s8⟩
theorem okRow_iff {ω : Wd} {row:List O} : okRow ω row = true ↔ ∀ o,row.getLast? = some o → ω.carried o = true:=by
  unfold okRow
  cases e:row.getLast? with
  | none=>simp
  | some o=>simp
theorem Wd.In.row {ω : Wd} {T:Nat} {L:List O} (w : ω.In T L) {p:Int} (h0 : 0 ≤ p) (h1:p < (ω.n:Int)) : ∃ row,ω.asked[p.toNat]? = some row:=⟨_,List.getElem?_eq_getElem (by rw [w.ok.al]; omega)⟩
theorem Wd.In.top {ω : Wd} {T:Nat} {L:List O} (w : ω.In T L) (p:Int) (row:List O) : ∃ M,(ω.ks.map fun c=>c.2.leftOf p row).max? = some M:=by
  cases e:(ω.ks.map fun c=>c.2.leftOf p row).max? with
  | some M=>exact ⟨M,rfl⟩
  | none=>
    have h0:=w.ok.k0
    have:(ω.ks.map fun c=>c.2.leftOf p row) = []:=List.max?_eq_none_iff.mp e
    rw [List.map_eq_nil_iff] at this
    rw [this] at h0
    cases h0
theorem jz.same {t:Ad} {H H':Hp} {ρ : Rho} {id:Nat} {W:WA} {w:Wd} (s:Same H H') (O:jz t H ρ id W w) : jz t H' ρ id W w:=O.fr (P:=fun _=>False) (fun _ z=>z) (Fr.same s)
def Done (K:PySem.W.Frag) (t:Ad) (H:Hp) (ρ : Rho) (id:Nat) (W:WA) (r:Wd × Told) (Q:VK) : Prop:=∀ ρ' H' x,jz t H' ρ' id W r.1 → Fr (allI id) ρ H ρ' H' → OkR ρ' H' → HasU K H' ρ' (toldD r.2) x → Q x H'
def sp_told (K:PySem.W.Frag) (t:Ad) : Sp:=fun vs H Q _=>∃ ρ id W ω T L,jz t H ρ id W ω ∧ OkR ρ H ∧ ω.In T L ∧ T ≤ 60 ∧
  ((∃ p g m,vs = [.str "ask",.ref W.x,.int p,.int g,.int m] ∧ Deed.Can ω (.ask p g m) ∧ Done K t H ρ id W (ω.does (.ask p g m)) Q) ∨
   (∃ q o,vs = [.str "cheat",.ref W.x,.ref q,.int 0,.int 0] ∧ xj H ρ (.ref q) o ∧ Deed.Can ω (.cheat o) ∧ Done K t H ρ id W (ω.does (.cheat o)) Q))
theorem ok__law_told (T:Txt K mg t) : FnOk P w K mg base CX0 8 t.f__law_told t.d__law_told ["_law_kind","_law_world","_law_one","_law_two","_law_three"] (sp_told K t):=by
  refine T.F__law_told.ok qm (fun vs H Q E h=>?_) (fun cdv A outer s H vs Q E hr h=>?_)
  · obtain ⟨ρ,id,W,ω,T',L,_,_,_,_,⟨p,g,m,rfl,_⟩ | ⟨q,o,rfl,_⟩⟩:=h
    · rfl
    · rfl
  · obtain ⟨ρ,id,W,ω,T',L,O,kr,hin,hT,hc⟩:=h
    have hno : ∀ {m:Str},(¬ m = "on_way" ∧ ¬ m = "asked" ∧ ¬ m = "board" ∧ ¬ m = "keepers" ∧ ¬ m = "cheating" ∧ ¬ m = "lying" ∧ ¬ m = "total" ∧ ¬ m = "purses") → (W.fs ω.n).lookup m = none:=fun h=>wof_no _ _ _ _ _ _ _ _ h
    rcases hc with ⟨p,g,m,rfl,⟨hp,hg,nc,ng,hm⟩,k⟩ | ⟨q,o,rfl,uq,⟨ho,oc,h0⟩,k⟩
    · refine ⟨_,(@jc _ _ _ _ _ (j7 (i:=5) qm.nd rfl (Or.inl rfl) pe_non)
      (@jc _ _ _ _ _ (j7 (i:=6) qm.nd rfl (Or.inl rfl) pe_non)
      (@jc _ _ _ _ _ (ps_try (i:=7) rfl rfl rfl rfl T.m_PurseError T.be_PurseError qm.nd rfl rfl (fun _ _=>(@jf _ _ _ (yc (qr op_eq (pv 0) pe_str (zv _)) (@jf _ _ _ (j7 (i:=5) qm.nd rfl (Or.inl rfl) (pe_methT (pv 1) T.jn T.mt_World_ask (ok_World_ask T) (hr.mono (by decide)) T.b_World_ask .nil (@pa_3 _ _ _ _ _ _ _ (pv 2) (pv 3) (pv 4) rfl rfl rfl)))) (@jf _ _ _ (yc (qr op_eq (pv 0) pe_str (zv _)) (@jf _ _ _ (j7 (i:=5) qm.nd rfl (Or.inl rfl) (qq (pv 1) T.jn T.mt_World_cheat (ok_World_cheat T) (hr.mono (by decide)) T.b_World_cheat .nil jx (@pa_2 _ _ _ _ _ (pv 2) (pv 3) rfl rfl)))) (@jf _ _ _ (yc (qr op_eq (pv 0) pe_str (zv _)) zu zu))))))) (fun _=>(@jf _ _ _ (j7 (i:=6) qm.nd rfl (Or.inl rfl) (pv 7)))))
      (@jf _ _ _ (j4 (pe_ifExp (qr op_isN (pv 6) pe_non (zv _)) (pv 5) (j5 (ok__law_refusal T) (hr.mono (by decide)) rfl T.m__law_refusal T.F__law_refusal.kp T.b__law_refusal .nil jx (jd (pv 6) jg)))))))),?_⟩
      obtain ⟨row,erow⟩:=hin.row hp.1 hp.2
      obtain ⟨M,eM⟩:=hin.top p row
      have lrow:=hin.al row (List.mem_of_getElem? erow)
      have lway:=hin.wl
      refine ⟨fun σ' cls H'=>σ' = [some (.str "ask"),some (.ref W.x),some (.int p),some (.int g),some (.int m),some .non,some .non,none] ∧ Same H H' ∧ ((cls = .ref t.a_NotNow ∧ ω.does (.ask p g m) = (ω,.word "now")) ∨ (cls = .ref t.a_TooMuch ∧ ω.does (.ask p g m) = (ω,.word "much"))),?_,?_⟩
      · refine ⟨_,rfl,rfl,_,rfl,iteT ?_⟩
        refine ⟨_,rfl,W.x,W.dx,_,rfl,O.ob.1,hno (by decide +kernel),_,rfl,_,rfl,_,rfl,ρ,id,W,ω,p,g,m,row,rfl,O,kr,hin.ok,hp,hg,nc,ng,hm,erow,by omega,by omega,fun o eo ec H' s'=>⟨rfl,s',.inl ⟨rfl,does_now erow ?_⟩⟩,fun hcar M' eM'=>?_⟩
        · cases h:okRow ω row with
          | false=>rfl
          | true=>rw [okRow_iff.mp h o eo] at ec; cases ec
        · have hk:=okRow_iff.mpr hcar
          refine ⟨fun lt H' s'=>⟨rfl,s',.inr ⟨rfl,does_much erow hk eM' lt⟩⟩,fun le H' q O' f' kr' uq=>?_⟩
          have ed:=does_told (g:=g) erow hk eM' (show ¬ M' < m by omega)
          refine ⟨_,rfl,rfl,_,rfl,iteT ⟨_,rfl,?_⟩⟩
          unfold Done at k
          rw [ed] at k
          exact k ρ H' _ O' f' kr' uq.has
      · rintro σ' cls H' ea ⟨rfl,sm,hw⟩ hea
        have sx : ∀ {u:HO},Same H (upd H' ea u):=fun {u}=>sm.trans (ji hea)
        unfold Done at k
        rcases hw with ⟨rfl,ed⟩ | ⟨rfl,ed⟩
        · refine ⟨⟨_,rfl,T.xc_NotNow_PurseError⟩,?_⟩
          refine ⟨_,rfl,_,rfl,rfl,_,rfl,iteF ?_⟩
          rw [ed] at k
          exact ⟨_,rfl,ea,t.a_NotNow,false,false,false,false,false,false,true,false,false,false,false,.str "now",rfl,ja,T.xi_NotNow,T.xk_NotNow,by decide,rfl,fun H'' s''=>k ρ H'' _ (O.same (sx.trans s'')) (Fr.same (sx.trans s'')) (kr.same (sx.trans s'')) (by show HasU K H'' ρ (.str "now") _; rw [HasU])⟩
        · refine ⟨⟨_,rfl,T.xc_TooMuch_PurseError⟩,?_⟩
          refine ⟨_,rfl,_,rfl,rfl,_,rfl,iteF ?_⟩
          rw [ed] at k
          exact ⟨_,rfl,ea,t.a_TooMuch,false,false,false,false,false,false,false,true,false,false,false,.str "much",rfl,ja,T.xi_TooMuch,T.xk_TooMuch,by decide,rfl,fun H'' s''=>k ρ H'' _ (O.same (sx.trans s'')) (Fr.same (sx.trans s'')) (kr.same (sx.trans s'')) (by show HasU K H'' ρ (.str "much") _; rw [HasU])⟩
    · refine ⟨_,(@jc _ _ _ _ _ (j7 (i:=5) qm.nd rfl (Or.inl rfl) pe_non)
      (@jc _ _ _ _ _ (j7 (i:=6) qm.nd rfl (Or.inl rfl) pe_non)
      (@jc _ _ _ _ _ (ps_try (i:=7) rfl rfl rfl rfl T.m_PurseError T.be_PurseError qm.nd rfl rfl (fun _ _=>(@jf _ _ _ (yc (qr op_eq (pv 0) pe_str (zv _)) (@jf _ _ _ (j7 (i:=5) qm.nd rfl (Or.inl rfl) (pe_methT (pv 1) T.jn T.mt_World_ask (ok_World_ask T) (hr.mono (by decide)) T.b_World_ask .nil (@pa_3 _ _ _ _ _ _ _ (pv 2) (pv 3) (pv 4) rfl rfl rfl)))) (@jf _ _ _ (yc (qr op_eq (pv 0) pe_str (zv _)) (@jf _ _ _ (j7 (i:=5) qm.nd rfl (Or.inl rfl) (qq (pv 1) T.jn T.mt_World_cheat (ok_World_cheat T) (hr.mono (by decide)) T.b_World_cheat .nil jx (@pa_2 _ _ _ _ _ (pv 2) (pv 3) rfl rfl)))) (@jf _ _ _ (yc (qr op_eq (pv 0) pe_str (zv _)) zu zu))))))) (fun _=>(@jf _ _ _ (j7 (i:=6) qm.nd rfl (Or.inl rfl) (pv 7)))))
      (@jf _ _ _ (j4 (pe_ifExp (qr op_isN (pv 6) pe_non (zv _)) (pv 5) (j5 (ok__law_refusal T) (hr.mono (by decide)) rfl T.m__law_refusal T.F__law_refusal.kp T.b__law_refusal .nil jx (jd (pv 6) jg)))))))),?_⟩
      refine ⟨fun _ _ _=>False,?_,fun _ _ _ _ z=>z.elim⟩
      refine ⟨_,rfl,rfl,_,rfl,iteF ?_⟩
      refine ⟨_,rfl,rfl,_,rfl,iteT ?_⟩
      obtain ⟨κ,ek,_⟩:=keep_of h0
      refine ⟨_,rfl,W.x,W.dx,_,rfl,O.ob.1,hno (by decide +kernel),_,rfl,_,rfl,ρ,id,W,ω,q,o,0,κ,rfl,O,kr,uq,ho,oc,ek,by have:=hin.wl; omega,fun H' O' f' kr'=>?_⟩
      exact ⟨_,rfl,rfl,_,rfl,iteT ⟨_,rfl,k ρ H' _ O' (f'.mono fun r hr=>by rw [hr]; rfl) kr' (by show HasU K H' ρ .non _; rw [HasU])⟩⟩
def DeedU (H:Hp) (ρ : Rho) (x:V) : Deed → Prop
  | .ask p g m=>∃ a,x = .ref a ∧ ρ a = none ∧ H a = some (.tup [.str "ask",.int p,.int g,.int m])
  | .cheat o=>∃ a q,x = .ref a ∧ ρ a = none ∧ H a = some (.tup [.str "cheat",.ref q,.int 0,.int 0]) ∧ xj H ρ (.ref q) o
  | .come i=>∃ a,x = .ref a ∧ ρ a = none ∧ H a = some (.tup [.str "come",.int (i:Nat),.int 0,.int 0])
theorem DeedU.fr {P:Role → Prop} {ρ ρ':Rho} {H H':Hp} {x:V} (f:Fr P ρ H ρ' H') : ∀ {d:Deed},DeedU H ρ x d → DeedU H' ρ' x d
  | .ask _ _ _,⟨a,e,n,h⟩=>let ⟨h',n'⟩:=fr_un f h n; ⟨a,e,n',h'⟩
  | .cheat _,⟨a,q,e,n,h,u⟩=>let ⟨h',n'⟩:=fr_un f h n; ⟨a,q,e,n',h',u.fr f⟩
  | .come _,⟨a,e,n,h⟩=>let ⟨h',n'⟩:=fr_un f h n; ⟨a,e,n',h'⟩
def TownR (ρ : Rho) (To R:Addr) : Prop:=ρ To = some (9,.own 0) ∧ ρ R = some (9,.own 1)
def isTn:Role → Prop:=fun r=>r = (9,.own 0) ∨ r = (9,.own 1)
theorem draw_fr {ρ : Rho} {H H':Hp} {To R:Addr} (tr:TownR ρ To R) (k:KeepT To R H H') : Fr (isTn) ρ H ρ H':=fun a u e n=>⟨k a u e (fun z=>n (9,.own 0) (z ▸ tr.1) (.inl rfl)) (fun z=>n (9,.own 1) (z ▸ tr.2) (.inr rfl)),rfl⟩
theorem draw_kr {ρ : Rho} {H H':Hp} {To R:Addr} (kr:OkR ρ H) (hT:Town To R H') (k:KeepT To R H H') : OkR ρ H':=fun a r e=>by
  obtain ⟨row,c,t1,t2,_⟩:=hT
  by_cases z:a = To
  · subst z
    exact ⟨_,t1,True.intro⟩
  · by_cases y:a = R
    · subst y
      exact ⟨_,t2,True.intro⟩
    · obtain ⟨u,hu,nu⟩:=kr a r e
      exact ⟨u,k a u hu z y,nu⟩
theorem depDs_let : ∀ ls:List (Bool × Int × O),depDs (ls.map letD) ≤ 10
  | []=>by rw [List.map_nil]; simp [depDs]
  | l :: ls=>by
    have:=depDs_let ls
    rw [List.map_cons,depDs]
    have q:depD (letD l) ≤ 10:=by
      unfold letD ordD tupD ordI
      simp [depD,depDs]
    omega
theorem eqDs_nil (ls:List (Bool × Int × O)) : eqD (.lst (ls.map letD)) (.lst []) = decide (ls = []):=by
  cases ls with
  | nil=>simp [eqD,eqDs]
  | cons l ls=>simp [eqD,eqDs]
theorem goal_of {p n:Int} (h0 : 0 ≤ p) (h1:p < n) (h2 : 2 ≤ n) : 0 ≤ (p + 1) % n ∧ (p + 1) % n < n ∧ (p + 1) % n ≠ p:=by
  refine ⟨Int.emod_nonneg _ (by omega),Int.emod_lt_of_pos _ (by omega),?_⟩
  by_cases z:p + 1 < n
  · rw [Int.emod_eq_of_lt (by omega) z]
    omega
  · have e:p + 1 = n:=by omega
    rw [e,Int.emod_self]
    omega
def Drawn (t:Ad) (H:Hp) (ρ : Rho) (To R:Addr) (ω : Wd) (Q:VK) : Prop:=∀ H' x d,Town To R H' → Fr (isTn) ρ H ρ H' → OkR ρ H' → DeedU H' ρ x d → d.Can ω → Q x H'
def sp_deed (t:Ad) : Sp:=fun vs H Q _=>∃ ρ id W ω T L To R c,vs = [.ref To,.ref W.x,.int ω.n,.int c] ∧ jz t H ρ id W ω ∧ OkR ρ H ∧ ω.In T L ∧ T ≤ 60 ∧ id ≠ 9 ∧ Town To R H ∧ TownR ρ To R ∧ 2 ≤ ω.n ∧ (∀ p,0 ≤ p → p < (ω.n:Int) → (p = c ↔ p ∈ ω.cheats)) ∧ (0:Int) ∈ ω.ks.map (·.1) ∧ Drawn t H ρ To R ω Q
set_option maxHeartbeats 0 in
theorem ok__law_deed (T:Txt K mg t) : FnOk P w K mg base CX0 3 t.f__law_deed t.d__law_deed ["_law_town_here","_law_world","_law_many","_law_cheat"] (sp_deed t):=by
  refine T.F__law_deed.ok sc__law_deed (fun vs H Q E h=>?_) (fun cdv A outer s H vs Q E hr h=>?_)
  · obtain ⟨ρ,id,W,ω,T',L,To,R,c,rfl,_⟩:=h
    rfl
  · obtain ⟨ρ,id,W,ω,T',L,To,R,c,rfl,O,kr,hin,hT',i9,hT,tr,n2,hc,h0,k⟩:=h
    have hno : ∀ {m:Str},(¬ m = "on_way" ∧ ¬ m = "asked" ∧ ¬ m = "board" ∧ ¬ m = "keepers" ∧ ¬ m = "cheating" ∧ ¬ m = "lying" ∧ ¬ m = "total" ∧ ¬ m = "purses") → (W.fs ω.n).lookup m = none:=fun h=>wof_no _ _ _ _ _ _ _ _ h
    have n8:=hin.ok.n8
    have lw:=hin.wl
    refine ⟨_,(@jc _ _ _ _ _ (j7 (i:=4) sc__law_deed.nd rfl (Or.inl rfl) (j5 (ok__law_draw T) (hr.mono (by decide)) rfl T.m__law_draw T.yo.kp T.b__law_draw .nil jx (@pa_2 _ _ _ _ _ (pv 0) jj rfl rfl)))
      (@jc _ _ _ _ _ (yc (PW.pt (pw_or (qr op_eq (pv 4) jj (zv _)) (pw_or1 (qr (op_eqD hr.units) (pe_meth0 (pv 1) T.jn T.mt_World_letters (ok_World_letters T) (hr.mono (by decide)) T.b_World_letters .nil jx) (@qd _ _ _ _ jg) (zv _))))) (@jc _ _ _ _ _ (j7 (i:=5) sc__law_deed.nd rfl (Or.inl rfl) (j5 (ok__law_draw T) (hr.mono (by decide)) rfl T.m__law_draw T.yo.kp T.b__law_draw .nil jx (@pa_2 _ _ _ _ _ (pv 0) (pv 2) rfl rfl)))
      (@jc _ _ _ _ _ (j7 (i:=6) sc__law_deed.nd rfl (Or.inl rfl) (pe_op op_mod (pe_op op_add (pv 5) jj) (pv 2)))
      (@jc _ _ _ _ _ (yc (qr op_eq (pv 5) (pv 3) (zv _)) (@jf _ _ _ (j4 (@pe_tup _ _ _ _ _ (@pa_4 _ _ _ _ _ _ _ _ _ pe_str (@pe_tup _ _ _ _ _ (@pa_4 _ _ _ _ _ _ _ _ _ (pv 5) (j5 (ok__law_draw T) (hr.mono (by decide)) rfl T.m__law_draw T.yo.kp T.b__law_draw .nil jx (@pa_2 _ _ _ _ _ (pv 0) jj rfl rfl)) (pv 6) (pe_op op_add jj (j5 (ok__law_draw T) (hr.mono (by decide)) rfl T.m__law_draw T.yo.kp T.b__law_draw .nil jx (@pa_2 _ _ _ _ _ (pv 0) jj rfl rfl))) rfl rfl rfl rfl)) jj jj rfl rfl rfl rfl)))) qe)
      (@jf _ _ _ (j4 (@pe_tup _ _ _ _ _ (@pa_4 _ _ _ _ _ _ _ _ _ pe_str (pv 5) (pv 6) (pe_op op_add jj (j5 (ok__law_draw T) (hr.mono (by decide)) rfl T.m__law_draw T.yo.kp T.b__law_draw .nil jx (@pa_2 _ _ _ _ _ (pv 0) jj rfl rfl))) rfl rfl rfl rfl))))))) qe)
      (@jf _ _ _ (j4 (@pe_tup _ _ _ _ _ (@pa_4 _ _ _ _ _ _ _ _ _ pe_str (j5 (ok__law_draw T) (hr.mono (by decide)) rfl T.m__law_draw T.yo.kp T.b__law_draw .nil jx (@pa_2 _ _ _ _ _ (pv 0) (ju j8 rfl T.n_len boot_len (jd (pe_meth0 (pv 1) T.jn T.mt_World_letters (ok_World_letters T) (hr.mono (by decide)) T.b_World_letters .nil jx) jg)) rfl rfl)) jj jj rfl rfl rfl rfl)))))),?_⟩
    have step : ∀ {H1 H2:Hp},jz t H1 ρ id W ω → OkR ρ H1 → Town To R H2 → KeepT To R H1 H2 → jz t H2 ρ id W ω ∧ OkR ρ H2:=fun {H1 H2} O1 kr1 hT2 k2=>⟨O1.fr (fun p z=>i9 (by rcases z with z | z <;> exact (Prod.mk.inj z).1)) (draw_fr tr k2),draw_kr kr1 hT2 k2⟩
    refine ⟨_,rfl,To,R,3,rfl,hT,by decide,by decide,fun d0 H1 d00 d01 hT1 k1=>?_⟩
    obtain ⟨O1,kr1⟩:=step O kr hT1 k1
    have f1:=draw_fr tr k1
    refine' (fun key=>_:(∀ HB,Town To R HB → jz t HB ρ id W ω → OkR ρ HB → Fr (isTn) ρ H ρ HB → (_:Hp → Prop) HB) → _) _
    rotate_left
    · refine ⟨_,rfl,rfl,_,rfl,ite2 (fun _=>iteT ?_) (fun _=>?_)⟩
      · exact key H1 hT1 O1 kr1 f1
      · refine ⟨_,rfl,W.x,W.dx,_,rfl,O1.ob.1,hno (by decide +kernel),ρ,id,W,ω,rfl,O1,by omega,fun r xs nr px=>⟨zs0,fun e ne=>?_⟩⟩
        have s1:=ji (o:=.lst xs) nr
        have s2:=ji (o:=.lst []) ne
        have px2:Paired (LetU (upd (upd H1 r (.lst xs)) e (.lst [])) ρ) xs ω.way:=Paired.mapP px fun _ _=>LetU.fr (P:=fun _=>False) (Fr.same (s1.trans s2))
        have hd:qp K (upd (upd H1 r (.lst xs)) e (.lst [])) (.lst (ω.way.map letD)) (.ref r):=by
          rw [qp]
          exact ⟨r,xs,rfl,SqL.of (s2 _ _ ja),j6.hasDs (ρ:=ρ) (j6.pair (fun x a h=>LetU.has h) px2)⟩
        have he:qp K (upd (upd H1 r (.lst xs)) e (.lst [])) (.lst []) (.ref e):=by
          rw [qp]
          exact ⟨e,[],rfl,SqL.of ja,by rw [HasDs]⟩
        have dl:=depDs_let ω.way
        refine ⟨_,_,hd,he,by rw [depD]; omega,_,rfl,?_⟩
        rw [eqDs_nil]
        have O3:=(O1.same s1).same s2
        have kr3:=(kr1.same s1).same s2
        have hT3:=(hT1.same s1).same s2
        have f3:Fr (isTn) ρ H ρ (upd (upd H1 r (.lst xs)) e (.lst [])):=f1.trans (Fr.same (s1.trans s2))
        generalize upd (upd H1 r (.lst xs)) e (.lst []) = H3 at O3 kr3 hT3 f3
        refine ite2 (fun _=>?_) (fun z=>?_)
        · exact key H3 hT3 O3 kr3 f3
        · have nw : ω.way ≠ []:=fun y=>z (decide_eq_true y)
          have pw : 0 < ω.way.length:=List.length_pos_iff.mpr nw
          refine ⟨_,rfl,_,rfl,W.x,W.dx,_,rfl,O3.ob.1,hno (by decide +kernel),ρ,id,W,ω,rfl,O3,by omega,fun r' xs' nr' px'=>?_⟩
          have lx:xs'.length = ω.way.length:=Paired.length px'
          have s4:=ji (o:=.lst xs') nr'
          refine ⟨r',xs',rfl,.inl (SqL.of ja),To,R,(xs'.length:Int),rfl,hT3.same s4,by omega,by omega,fun d5 H5 d50 d51 hT5 k5=>?_⟩
          obtain ⟨O5,kr5⟩:=step (O3.same s4) (kr3.same s4) hT5 k5
          have f5:Fr (isTn) ρ H ρ H5:=(f3.trans (Fr.same s4)).trans (draw_fr tr k5)
          refine ⟨zs4,fun a na=>?_⟩
          have e5:(d5.toNat:Int) = d5:=by omega
          have s6:=ji (o:=.tup [.str "come",.int d5,.int 0,.int 0]) na
          exact k _ _ (.come d5.toNat) (hT5.same s6) (f5.trans (Fr.same s6)) (kr5.same s6) ⟨a,rfl,kr5.none na,by rw [e5]; exact ja⟩ (by show d5.toNat < ω.way.length; omega)
    · rintro HB hTB OB krB fB
      refine ⟨_,rfl,_,rfl,To,R,(ω.n:Int),rfl,hTB,by omega,by omega,fun p H2 p0 p1 hT2 k2=>?_⟩
      obtain ⟨O2,kr2⟩:=step OB krB hT2 k2
      have f2:=fB.trans (draw_fr tr k2)
      obtain ⟨g0,g1,g2⟩:=goal_of p0 p1 (by omega:(2:Int) ≤ ω.n)
      refine ⟨_,rfl,_,_,rfl,rfl,_,rfl,_,_,rfl,rfl,by omega,?_⟩
      refine ⟨_,rfl,_,rfl,rfl,_,rfl,ite2 (fun z=>?_) (fun z=>?_)⟩
      · have ec:p = c:=V.int.inj (of_decide_eq_true z)
        refine ⟨_,rfl,_,rfl,To,R,2,rfl,hT2,by decide,by decide,fun d1 H3 d10 d11 hT3 k3=>?_⟩
        obtain ⟨O3,kr3⟩:=step O2 kr2 hT3 k3
        have f3:=f2.trans (draw_fr tr k3)
        refine ⟨_,rfl,_,rfl,To,R,5,rfl,hT3,by decide,by decide,fun d2 H4 d20 d21 hT4 k4=>?_⟩
        obtain ⟨O4,kr4⟩:=step O3 kr3 hT4 k4
        have f4:=f3.trans (draw_fr tr k4)
        refine ⟨_,_,rfl,rfl,zs4,fun q nq=>⟨zs4,fun a na=>?_⟩⟩
        have s5:=ji (o:=.tup [.int p,.int d1,.int ((p + 1) % (ω.n:Int)),.int (1 + d2)]) nq
        have s6:=ji (o:=.tup [.str "cheat",.ref q,.int 0,.int 0]) na
        have kr6:=(kr4.same s5).same s6
        refine k _ _ (.cheat ⟨p,d1,(p + 1) % (ω.n:Int),1 + d2⟩) ((hT4.same s5).same s6) ((f4.trans (Fr.same s5)).trans (Fr.same s6)) kr6 ⟨a,q,rfl,(kr4.same s5).none na,ja,q,rfl,kr4.none nq,s6 _ _ ja⟩ ⟨isOrd_iff.mpr ⟨p0,by show p ≤ (ω.n:Int) - 1; omega,g0,by show (p + 1) % (ω.n:Int) ≤ (ω.n:Int) - 1; omega,fun y=>g2 y.symm,d10,by show d1 ≤ 99; omega,by show 1 ≤ 1 + d2; omega,by show 1 + d2 ≤ 1000; omega⟩,(hc p p0 p1).mp ec,h0⟩
      · have nc : ¬ p = c:=fun y=>z (by rw [y]; exact decide_eq_true rfl)
        refine ⟨_,rfl,_,rfl,_,rfl,To,R,9,rfl,hT2,by decide,by decide,fun d2 H4 d20 d21 hT4 k4=>?_⟩
        obtain ⟨O4,kr4⟩:=step O2 kr2 hT4 k4
        have f4:=f2.trans (draw_fr tr k4)
        refine ⟨_,_,rfl,rfl,zs4,fun a na=>?_⟩
        have s6:=ji (o:=.tup [.str "ask",.int p,.int ((p + 1) % (ω.n:Int)),.int (1 + d2)]) na
        exact k _ _ (.ask p ((p + 1) % (ω.n:Int)) (1 + d2)) (hT4.same s6) (f4.trans (Fr.same s6)) (kr4.same s6) ⟨a,rfl,kr4.none na,ja⟩ ⟨⟨p0,p1⟩,⟨g0,g1⟩,fun y=>nc ((hc p p0 p1).mpr y),g2,by omega,by omega⟩
def RowS (K:W.Frag) (H:Hp) (ρ : Rho) (id:Nat) (x:V) (ds:List Dt) : Prop:=∃ r xs j,x = .ref r ∧ ρ r = some (id,.own j) ∧ H r = some (.lst xs) ∧ xs.length ≤ 100000 ∧ j6 K H ρ ds xs
theorem RowS.fr {K:W.Frag} {P:Role → Prop} {ρ ρ':Rho} {H H':Hp} {id:Nat} {x:V} {ds:List Dt} (f:Fr P ρ H ρ' H') (n : ∀ j,¬ P (id,.own j)) (h:RowS K H ρ id x ds) : RowS K H' ρ' id x ds:=by
  obtain ⟨r,xs,j,e,er,hr,l,q⟩:=h
  obtain ⟨hr',er'⟩:=zi f hr er (n j)
  exact ⟨r,xs,j,e,er',hr',l,q.fr f⟩
theorem RowS.new {K:W.Frag} {ρ : Rho} {H:Hp} {id j:Nat} {r:Addr} {xs:List V} {ds:List Dt} (n:H r = none) (l:xs.length ≤ 100000) (q:j6 K H ρ ds xs) : RowS K (upd H r (.lst xs)) (zm ρ r (id,.own j)) id (.ref r) ds:=⟨r,xs,j,rfl,j3,ja,l,q.fr (P:=fun _=>False) (Fr.newR n)⟩
noncomputable def houseD (κ : Kp) : List (List Dt):=[κ.held.map Dt.int,κ.done.map ordD,(srt (κ.wait.map ordI)).map tupD]
noncomputable def rowsL (ω : Wd) : List (List Dt):=[ω.way.map letD,(srt (carriedI ω.bd ω.en)).map tupD] ++ (ω.ks.map fun c=>houseD c.2).flatten
theorem rowsD_L (ω : Wd) : rowsD ω = (rowsL ω).map Dt.lst:=by
  unfold rowsD rowsL
  rw [List.map_append,List.map_flatten,List.map_map]
  rfl
structure Sees (K:PySem.W.Frag) (t:Ad) (ρ0:Rho) (H0:Hp) (id:Nat) (W:WA) (ω : Wd) (td:Dt) (x:V) (ρ : Rho) (H:Hp) : Prop where
  o:jz t H ρ id W ω
  fr:Fr (allI id) ρ0 H0 ρ H
  kr:OkR ρ H
  td:HasU K H ρ td x
theorem Sees.step {K:PySem.W.Frag} {t:Ad} {ρ0 ρ ρ':Rho} {H0 H H':Hp} {id:Nat} {W:WA} {ω : Wd} {td:Dt} {x:V} (s:Sees K t ρ0 H0 id W ω td x ρ H) (f:Fr (fun _=>False) ρ H ρ' H') (kr:OkR ρ' H') : Sees K t ρ0 H0 id W ω td x ρ' H':=⟨s.o.fr (fun _ z=>z) f,s.fr.trans (f.mono fun _ z=>z.elim),kr,s.td.fr f⟩
theorem Sees.new {K:PySem.W.Frag} {t:Ad} {ρ0 ρ : Rho} {H0 H:Hp} {id:Nat} {W:WA} {ω : Wd} {td:Dt} {x:V} {r:Addr} {u:HO} {ro:Role} (s:Sees K t ρ0 H0 id W ω td x ρ H) (n:H r = none) (hu:noTup u:=by exact True.intro) : Sees K t ρ0 H0 id W ω td x (zm ρ r ro) (upd H r u):=s.step (Fr.newR n) (s.kr.newR hu)
theorem Sees.tmp {K:PySem.W.Frag} {t:Ad} {ρ0 ρ : Rho} {H0 H H':Hp} {id:Nat} {W:WA} {ω : Wd} {td:Dt} {x:V} (s:Sees K t ρ0 H0 id W ω td x ρ H) (m:Same H H') : Sees K t ρ0 H0 id W ω td x ρ H':=s.step (Fr.same m) (s.kr.same m)
theorem seqJ {a b:TS} {D:Ends} {σ : St} {H:Hp} (F:St → Hp → Prop) (h1 : ∀ N:St → Hp → Prop,(∀ σ' H',F σ' H' → N σ' H') → a { D with nx:=N } σ H) (h2 : ∀ σ' H',F σ' H' → b D σ' H') : tSeq a b D σ H:=h1 _ h2
theorem Sees.grow {K:PySem.W.Frag} {t:Ad} {ρ0 ρ : Rho} {H0 H H':Hp} {id:Nat} {W:WA} {ω : Wd} {td:Dt} {x:V} {r:Addr} {xs:List V} {ro:Role} (s:Sees K t ρ0 H0 id W ω td x ρ H) (m:Same H H') (n:H r = none) (h:H' r = some (.lst xs)) : Sees K t ρ0 H0 id W ω td x (zm ρ r ro) H' ∧ Fr (fun _=>False) ρ H (zm ρ r ro) H':=by
  have f:Fr (fun _=>False) ρ H (zm ρ r ro) H':=fun a u e _=>⟨m _ _ e,qf (jh e n)⟩
  refine ⟨s.step f fun a r' e=>?_,f⟩
  by_cases z:a = r
  · subst z
    exact ⟨_,h,True.intro⟩
  · rw [qf z] at e
    obtain ⟨u,hu,nu⟩:=s.kr a r' e
    exact ⟨u,m _ _ hu,nu⟩
def isO (id:Nat) : Role → Prop:=fun r=>∃ j,r = (id,.own j)
theorem isO_ne {id:Nat} {p:Part} (h : ∀ j,p ≠ .own j) : ¬ isO id (id,p):=fun ⟨j,e⟩=>h j (Prod.mk.inj e).2
theorem jz.own {t:Ad} {H H':Hp} {ρ ρ':Rho} {id:Nat} {W:WA} {w:Wd} (f:Fr (isO id) ρ H ρ' H') (O:jz t H ρ id W w) : jz t H' ρ' id W w:=
  O.but f w (isO_ne fun _ z=>by cases z) rfl rfl (kd_keep f (isO_ne fun _ z=>by cases z) fun _ _=>isO_ne fun _ z=>by cases z) (bd_keep f (isO_ne fun _ z=>by cases z) (isO_ne fun _ z=>by cases z) (isO_ne fun _ z=>by cases z)) (ak_keep f (isO_ne fun _ z=>by cases z) fun _=>isO_ne fun _ z=>by cases z) (wy_keep f (isO_ne fun _ z=>by cases z))
theorem cut1 (x:V) (xs:List V) : cutV (x :: xs) (some 1) none = xs:=by
  unfold cutV HT.sIx
  simp
  try omega
theorem Wd.In.sizes {ω : Wd} {T:Nat} {L:List O} (w : ω.In T L) (hT:T ≤ 60) : Sz ω 60 16 60000:=⟨by have:=w.bd.len.1; have:=w.l; omega,fun x hx=>by have:=w.bd.len.2 x hx; rw [List.length_map] at this; have:=w.ok.k1; omega,by have:=w.wl; omega,w.ok.k1⟩
theorem Wd.In.bdne {ω : Wd} {T:Nat} {L:List O} (w : ω.In T L) : ∀ x ∈ ω.bd,x.1 ≠ []:=fun x hx z=>by
  obtain ⟨o,_,e⟩:=w.bd.ks x hx
  rw [e] at z
  cases z
theorem len_flat {κs:List (Int × Kp)} {i:Nat} {c:Int × Kp} (e : κs[i]? = some c) : ((κs.take (i + 1)).map fun c=>houseD c.2).flatten = ((κs.take i).map fun c=>houseD c.2).flatten ++ houseD c.2:=by
  rw [take_snoc e,List.map_append,List.flatten_append]
  simp
def sp_does (K:PySem.W.Frag) (t:Ad) : Sp:=fun vs H Q _=>∃ ρ id W ω T L x d b,vs = [.ref W.x,x,.bl b] ∧ jz t H ρ id W ω ∧ OkR ρ H ∧ ω.In T L ∧ T ≤ 50 ∧ DeedU H ρ x d ∧ d.Can ω ∧
  ∀ ρ' H' y,jz t H' ρ' id W (ω.does d).1 → Fr (allI id) ρ H ρ' H' → OkR ρ' H' → HasU K H' ρ' (seenD (ω.does d)) y → Q y H'
set_option maxHeartbeats 0 in
theorem ok__law_does (T:Txt K mg t) : FnOk P w K mg base CX0 9 t.f__law_does t.d__law_does ["_law_world","_law_deed_here","_law_spoil"] (sp_does K t):=by
  refine T.F__law_does.ok yf (fun vs H Q E h=>?_) (fun cdv A outer s H vs Q E hr h=>?_)
  · obtain ⟨ρ,id,W,ω,T',L,x,d,b,rfl,_⟩:=h
    rfl
  · obtain ⟨ρ,id,W,ω,T',L,x,d,b,rfl,O,kr,hin,hT,ud,can,k⟩:=h
    refine ⟨_,(@jc _ _ _ _ _ (yc (qr op_eq (yq ix_tup (pv 1) jj (fun _ _=>rfl)) pe_str (zv _)) (@jf _ _ _ (j7 (i:=3) yf.nd rfl (Or.inl rfl) (qq (pv 0) T.jn T.mt_World_come (ok_World_come T) (hr.mono (by decide)) T.b_World_come .nil jx (jd (yq ix_tup (pv 1) jj (fun _ _=>rfl)) jg)))) (@jf _ _ _ (j7 (i:=3) yf.nd rfl (Or.inl rfl) (j5 (ok__law_told T) (hr.mono (by decide)) rfl T.m__law_told T.F__law_told.kp T.b__law_told .nil jx (@pa_5 _ _ _ _ _ _ _ _ _ _ _ (yq ix_tup (pv 1) jj (fun _ _=>rfl)) (pv 0) (yq ix_tup (pv 1) jj (fun _ _=>rfl)) (yq ix_tup (pv 1) jj (fun _ _=>rfl)) (yq ix_tup (pv 1) jj (fun _ _=>rfl)) rfl rfl rfl rfl rfl)))))
      (@jc _ _ _ _ _ (@j7 _ _ 4 _ _ _ _ yf.nd rfl (Or.inl rfl) (@qd _ _ _ _ (@pa_3 _ _ _ _ _ _ _ (pv 3) (pe_meth0 (pv 0) T.jn T.mt_World_letters (ok_World_letters T) (hr.mono (by decide)) T.b_World_letters .nil jx) (pe_meth0 (pv 0) T.jn T.mt_World_papers (ok_World_papers T) (hr.mono (by decide)) T.b_World_papers .nil jx) rfl rfl rfl)) (by rfl) (by first | exact .inl rfl | exact .inr rfl))
      (@jc _ _ _ _ _ (ps_for PassesOwn.never rfl (@pi_list _ _ _ _ (pe_meth0 (pv 0) T.jn T.mt_World_honest (ok_World_honest T) (hr.mono (by decide)) T.b_World_honest .nil jx)) (qc (i:=5) yf.nd rfl (Or.inl rfl)) (@jf _ _ _ (j7 (i:=4) yf.nd rfl (Or.inl rfl) (pe_op op_cat (pv 4) (@qd _ _ _ _ (@pa_3 _ _ _ _ _ _ _ (qq (pv 0) T.jn T.mt_World_sums (ok_World_sums T) (hr.mono (by decide)) T.b_World_sums .nil jx (jd (pv 5) jg)) (qq (pv 0) T.jn T.mt_World_settled (ok_World_settled T) (hr.mono (by decide)) T.b_World_settled .nil jx (jd (pv 5) jg)) (qq (pv 0) T.jn T.mt_World_waits (ok_World_waits T) (hr.mono (by decide)) T.b_World_waits .nil jx (jd (pv 5) jg)) rfl rfl rfl))))))
      (@jc _ _ _ _ _ (j7 (i:=6) yf.nd rfl (Or.inl rfl) (pe_op op_cat (@qd _ _ _ _ (jd (pv 3) jg)) (pe_lcomp (N':=["_law_row"]) (ix:=[none]) (compOk_is (by kernel_rfl)) rfl (@pi_list _ _ _ _ (pe_slice sl_list (pv 4) (po_some jj) po_none)) (fun _ _ _ _=>(qc (i:=0) nd_6 rfl (Or.inl rfl) (.inr rfl))) (fun _ _ _ _=>pif_nil) (fun _ _ _ _=>(pe_callTy (call_list_ofK rfl) rfl T.n_list boot_list (jd (pv 0) jg))))))
      (@jc _ _ _ _ _ (ps_for PassesOwn.never rfl (@pi_list _ _ _ _ (pe_slice sl_list (pv 4) (po_some jj) po_none)) (qc (i:=7) yf.nd rfl (Or.inl rfl)) (@jf _ _ _ (yc (xu (pv 2)) (@jf _ _ _ (zd (pe_bm PySem.F.plainAttrs_list PySem.F.slot_list_append PySem.F.type_list_append ya (pv 7) (jd pe_str jg)))) qe)))
      (@jf _ _ _ (j4 (pv 6)))))))),?_⟩
    obtain ⟨L',hin'⟩:=hin.does (by omega) can
    have hno : ∀ {m:Str} {n:Nat},(¬ m = "on_way" ∧ ¬ m = "asked" ∧ ¬ m = "board" ∧ ¬ m = "keepers" ∧ ¬ m = "cheating" ∧ ¬ m = "lying" ∧ ¬ m = "total" ∧ ¬ m = "purses") → (W.fs n).lookup m = none:=fun h=>wof_no _ _ _ _ _ _ _ _ h
    refine seqJ (fun σ' H'=>∃ ρ1 v,σ' = [some (.ref W.x),some x,some (.bl b),some v,none,none,none,none] ∧ Sees K t ρ H id W (ω.does d).1 (toldD (ω.does d).2) v ρ1 H') (fun N hN=>?_) (fun σ' H1 hF=>?_)
    · cases d with
      | come i=>
        obtain ⟨a,rfl,na,ha⟩:=ud
        refine ⟨_,rfl,a,_,0,.str "come",rfl,rfl,SqT.of ha,rfl,rfl,_,rfl,iteT ?_⟩
        obtain ⟨l,el⟩ : ∃ l,ω.way[i]? = some l:=⟨_,List.getElem?_eq_getElem can⟩
        obtain ⟨lL,lh⟩:=hin.wy l (List.mem_of_getElem? el)
        obtain ⟨κ,ek,km⟩:=keep_of lh
        have kk:KIn L T' ω.n κ:=hin.ks _ km
        have ll:=(kk.take l.1 lL (hin.lo _ lL)).2.2
        have e1:=kk.sz.hd
        have e2:=kk.sz.uc
        have e3:=kk.sz.dw
        refine ⟨_,rfl,W.x,W.dx,_,rfl,O.ob.1,hno (by decide +kernel),_,rfl,a,_,1,.int (i:Nat),rfl,rfl,SqT.of ha,rfl,ρ,id,W,ω,i,l,κ,60,16,60000,rfl,O,kr,el,ek,hin.ok.nd,kk.ok,hin.ok.n8,hin.lo _ lL,⟨by omega,by omega,by omega⟩,hin.sizes (by omega),by omega,by omega,by omega,fun ρ' H' y O' f' kr' uy=>hN _ _ ⟨ρ',y,rfl,?_⟩⟩
        rw [does_come el ek]
        exact ⟨O',f',kr',uy.has⟩
      | ask p g m=>
        obtain ⟨a,rfl,na,ha⟩:=ud
        refine ⟨_,rfl,a,_,0,.str "ask",rfl,rfl,SqT.of ha,rfl,rfl,_,rfl,iteF ?_⟩
        refine ⟨_,rfl,a,_,0,.str "ask",rfl,rfl,SqT.of ha,rfl,_,rfl,_,rfl,a,_,1,.int p,rfl,rfl,SqT.of ha,rfl,_,rfl,a,_,2,.int g,rfl,rfl,SqT.of ha,rfl,_,rfl,a,_,3,.int m,rfl,rfl,SqT.of ha,rfl,ρ,id,W,ω,T',L,O,kr,hin,by omega,.inl ⟨p,g,m,rfl,can,fun ρ' H' y O' f' kr' uy=>hN _ _ ⟨ρ',y,rfl,O',f',kr',uy⟩⟩⟩
      | cheat o=>
        obtain ⟨a,q,rfl,na,ha,uq⟩:=ud
        refine ⟨_,rfl,a,_,0,.str "cheat",rfl,rfl,SqT.of ha,rfl,rfl,_,rfl,iteF ?_⟩
        refine ⟨_,rfl,a,_,0,.str "cheat",rfl,rfl,SqT.of ha,rfl,_,rfl,_,rfl,a,_,1,.ref q,rfl,rfl,SqT.of ha,rfl,_,rfl,a,_,2,.int 0,rfl,rfl,SqT.of ha,rfl,_,rfl,a,_,3,.int 0,rfl,rfl,SqT.of ha,rfl,ρ,id,W,ω,T',L,O,kr,hin,by omega,.inr ⟨q,o,rfl,uq,can,fun ρ' H' y O' f' kr' uy=>hN _ _ ⟨ρ',y,rfl,O',f',kr',uy⟩⟩⟩
    · obtain ⟨ρ1,v,rfl,S1⟩:=hF
      have k' : ∀ ρ' H' y,Sees K t ρ H id W (ω.does d).1 (toldD (ω.does d).2) v ρ' H' → HasU K H' ρ' (.lst (toldD (ω.does d).2 :: (rowsL (ω.does d).1).map Dt.lst)) y → Q y H':=fun ρ' H' y S q=>k ρ' H' y S.o S.fr S.kr (by unfold seenD; rw [rowsD_L]; exact q)
      clear k O kr can ud
      generalize toldD (ω.does d).2 = td at S1 k'
      generalize (ω.does d).1 = ω' at S1 k' hin'
      have z':=hin'.sizes (by omega)
      have wl:=z'.wy
      refine ⟨_,rfl,_,rfl,W.x,W.dx,_,rfl,S1.o.ob.1,hno (by decide +kernel),ρ1,id,W,ω',rfl,S1.o,by omega,fun r1 xs1 n1 p1=>?_⟩
      have lx1:xs1.length = ω'.way.length:=Paired.length p1
      have h1:j6 K H1 ρ1 (ω'.way.map letD) xs1:=j6.pair (fun x a h=>LetU.has h) p1
      have S2:=S1.new (r:=r1) (u:=.lst xs1) (ro:=(id,.own 0)) n1
      have R1:RowS K (upd H1 r1 (.lst xs1)) (zm ρ1 r1 (id,.own 0)) id (.ref r1) (ω'.way.map letD):=RowS.new n1 (by omega) h1
      generalize upd H1 r1 (.lst xs1) = H2 at S2 R1
      generalize zm ρ1 r1 (id,.own 0) = ρ2 at S2 R1
      refine ⟨_,rfl,W.x,W.dx,_,rfl,S2.o.ob.1,hno (by decide +kernel),ρ2,id,W,ω',rfl,S2.o,by have:=z'.bd; omega,hin'.bd.nd,hin'.bdne,fun r2 vs2 ts2 H3 n2 s3 q1 q2 q3 h3=>?_⟩
      obtain ⟨S3,f3⟩:=S2.grow (ro:=(id,.own 1)) s3 n2 h3
      have R1':=R1.fr f3 fun _ z=>z
      have lv2:vs2.length ≤ 100000:=by
        rw [Paired.length q3,q1.length_eq,carriedI,List.length_map]
        have:=List.length_filter_le (fun p:List Int × List Int=>decide (ω'.en ≤ (p.2.length:Int))) ω'.bd
        have:=z'.bd
        omega
      have R2:RowS K H3 (zm ρ2 r2 (id,.own 1)) id (.ref r2) ((srt (carriedI ω'.bd ω'.en)).map tupD):=⟨r2,vs2,1,rfl,j3,h3,lv2,by rw [← srt_is q1 q2]; exact tupsAt_has S3.kr q3⟩
      generalize zm ρ2 r2 (id,.own 1) = ρ3 at S3 R1' R2 f3
      refine ⟨zs3,fun Ls nLs=>?_⟩
      have s4:=ji (o:=.lst [v,.ref r1,.ref r2]) nLs
      have S4:=S3.tmp s4
      have R1'':=R1'.fr (P:=fun _=>False) (Fr.same s4) fun _ z=>z
      have R2'':=R2.fr (P:=fun _=>False) (Fr.same s4) fun _ z=>z
      have hLs:upd H3 Ls (.lst [v,.ref r1,.ref r2]) Ls = some (.lst (v :: [.ref r1,.ref r2])) ∧ ρ3 Ls = none:=⟨ja,S3.kr.none nLs⟩
      dsimp only
      generalize upd H3 Ls (.lst [v,.ref r1,.ref r2]) = H4 at S4 R1'' R2'' hLs
      refine ⟨_,rfl,W.x,W.dx,_,rfl,S4.o.ob.1,hno (by decide +kernel),ρ3,id,W,ω',rfl,S4.o,fun Lh nLh=>?_⟩
      have s5:=ji (o:=.lst ((ω'.ks.map (·.1)).map V.int)) nLh
      have S5:=S4.tmp s5
      have hLh:upd H4 Lh (.lst ((ω'.ks.map (·.1)).map V.int)) Lh = some (.lst ((ω'.ks.map (·.1)).map V.int)) ∧ ρ3 Lh = none:=⟨ja,S4.kr.none nLh⟩
      have hLs5:=fr_un (P:=fun _=>False) (Fr.same s5) hLs.1 hLs.2
      have R15:=R1''.fr (P:=fun _=>False) (Fr.same s5) fun _ z=>z
      have R25:=R2''.fr (P:=fun _=>False) (Fr.same s5) fun _ z=>z
      generalize upd H4 Lh (.lst ((ω'.ks.map (·.1)).map V.int)) = H5 at S5 hLh hLs5 R15 R25
      clear S4 R1'' R2'' hLs s4 s5 S3 S2 S1 R1 R1' R2 h3 q3 h1 p1 n1 n2 nLs nLh s3 f3
      refine ⟨Lh,rfl,⟨_,SqL.of hLh.1⟩,for_list (K:=K) (a:=Lh) (xs:=(ω'.ks.map (·.1)).map V.int) (fun i σ H'=>∃ v5 Ls ρ' rows,σ = [some (.ref W.x),some x,some (.bl b),some v,some (.ref Ls),v5,none,none] ∧ Sees K t ρ H id W ω' td v ρ' H' ∧ (H' Lh = some (.lst ((ω'.ks.map (·.1)).map V.int)) ∧ ρ' Lh = none) ∧ (H' Ls = some (.lst (v :: rows)) ∧ ρ' Ls = none) ∧ Paired (RowS K H' ρ' id) rows ([ω'.way.map letD,(srt (carriedI ω'.bd ω'.en)).map tupD] ++ ((ω'.ks.take i).map fun c=>houseD c.2).flatten) ∧ rows.length = 2 + 3 * i) ⟨none,Ls,ρ3,_,rfl,S5,hLh,hLs5,.cons R15 (.cons R25 .nil),rfl⟩ (fun i σ H' _ ⟨_,_,_,_,_,_,h,_⟩=>SqL.of h.1) ?_ ?_⟩
      · rintro i y σ H6 ey ⟨v5,Ls,ρ4,rows,rfl,S6,hLh6,hLs6,pr,lr⟩
        rw [List.getElem?_map,List.getElem?_map] at ey
        obtain ⟨c,ec,rfl⟩ : ∃ c,ω'.ks[i]? = some c ∧ y = .int c.1:=by
          cases e : ω'.ks[i]? with
          | none=>rw [e] at ey; cases ey
          | some c=>rw [e] at ey; exact ⟨c,rfl,(Option.some.inj ey).symm⟩
        have cm:c ∈ ω'.ks:=List.mem_of_getElem? ec
        obtain ⟨κ,ek,km⟩:=keep_of (List.mem_map_of_mem cm:c.1 ∈ ω'.ks.map (·.1))
        have eκ : κ = c.2:=by
          obtain ⟨j1,hj1,e1⟩:=List.mem_iff_getElem.mp km
          obtain ⟨j2,hj2,e2⟩:=List.mem_iff_getElem.mp cm
          have nd:=hin'.ok.nd
          have:j1 = j2:=by
            have h1:(ω'.ks.map (·.1))[j1]? = some c.1:=by rw [List.getElem?_map,List.getElem?_eq_getElem hj1,e1]; rfl
            have h2:(ω'.ks.map (·.1))[j2]? = some c.1:=by rw [List.getElem?_map,List.getElem?_eq_getElem hj2,e2]; rfl
            exact (List.getElem?_inj (List.getElem?_eq_some_iff.mp h1).1 nd).mp (h1.trans h2.symm)
          subst this
          rw [e1] at e2
          rw [← e2]
        subst eκ
        have kk:KIn L' (T' + 1) ω'.n c.2:=hin'.ks _ km
        have kd:=kk.sz.dw
        refine ⟨_,rfl,_,rfl,W.x,W.dx,_,rfl,S6.o.ob.1,hno (by decide +kernel),_,rfl,ρ4,id,W,ω',c.1,c.2,rfl,S6.o,ek,by rw [kk.ok.h]; have:=hin'.ok.n8; omega,fun a1 na1=>?_⟩
        have A1:RowS K (upd H6 a1 (.lst (c.2.held.map V.int))) (zm ρ4 a1 (id,.own 2)) id (.ref a1) (c.2.held.map Dt.int):=RowS.new na1 (by rw [List.length_map,kk.ok.h]; have:=hin'.ok.n8; omega) (hasUs_ints _)
        have f7:Fr (fun _=>False) ρ4 H6 (zm ρ4 a1 (id,.own 2)) (upd H6 a1 (.lst (c.2.held.map V.int))):=Fr.newR na1
        have S7:=S6.new (r:=a1) (u:=.lst (c.2.held.map V.int)) (ro:=(id,.own 2)) na1
        generalize upd H6 a1 (.lst (c.2.held.map V.int)) = H7 at A1 f7 S7
        generalize zm ρ4 a1 (id,.own 2) = ρ5 at A1 f7 S7
        refine ⟨_,rfl,W.x,W.dx,_,rfl,S7.o.ob.1,hno (by decide +kernel),_,rfl,ρ5,id,W,ω',c.1,c.2,rfl,S7.o,ek,by omega,fun a2 xs2 na2 px2=>?_⟩
        have A2:RowS K (upd H7 a2 (.lst xs2)) (zm ρ5 a2 (id,.own 3)) id (.ref a2) (c.2.done.map ordD):=RowS.new na2 (by rw [Paired.length px2]; omega) (j6.pair (fun x a h=>xj.has h) px2)
        have f8:Fr (fun _=>False) ρ5 H7 (zm ρ5 a2 (id,.own 3)) (upd H7 a2 (.lst xs2)):=Fr.newR na2
        have S8:=S7.new (r:=a2) (u:=.lst xs2) (ro:=(id,.own 3)) na2
        generalize upd H7 a2 (.lst xs2) = H8 at A2 f8 S8
        generalize zm ρ5 a2 (id,.own 3) = ρ6 at A2 f8 S8
        refine ⟨_,rfl,W.x,W.dx,_,rfl,S8.o.ob.1,hno (by decide +kernel),_,rfl,ρ6,id,W,ω',c.1,c.2,rfl,S8.o,ek,by omega,kk.ok.nd,fun a3 vs3 ts3 na3 q1 q2 q3=>?_⟩
        have lv3:vs3.length ≤ 100000:=by
          rw [Paired.length q3,q1.length_eq,List.length_map]
          omega
        have A3:RowS K (upd H8 a3 (.lst vs3)) (zm ρ6 a3 (id,.own 4)) id (.ref a3) ((srt (c.2.wait.map ordI)).map tupD):=RowS.new na3 lv3 (by rw [← srt_is q1 q2]; exact tupsAt_has S8.kr q3)
        have f9:Fr (fun _=>False) ρ6 H8 (zm ρ6 a3 (id,.own 4)) (upd H8 a3 (.lst vs3)):=Fr.newR na3
        have S9:=S8.new (r:=a3) (u:=.lst vs3) (ro:=(id,.own 4)) na3
        generalize upd H8 a3 (.lst vs3) = H9 at A3 f9 S9
        generalize zm ρ6 a3 (id,.own 4) = ρ7 at A3 f9 S9
        refine ⟨zs3,fun Lt nLt=>?_⟩
        have s10:=ji (o:=.lst [.ref a1,.ref a2,.ref a3]) nLt
        have f10:Fr (fun _=>False) ρ4 H6 ρ7 (upd H9 Lt (.lst [.ref a1,.ref a2,.ref a3])):=((f7.trans f8).trans f9).trans (Fr.same s10)
        have hLs10:=fr_un f10 hLs6.1 hLs6.2
        refine ⟨Ls,Lt,v :: rows,[.ref a1,.ref a2,.ref a3],rfl,rfl,hLs10.1,ja,bigL (by rw [List.length_cons,lr]; have:=z'.ks; have:=(List.getElem?_eq_some_iff.mp ec).1; show 2 + 3 * i + 1 + 3 ≤ 1000000; omega),fun Ln nLn=>?_⟩
        have s11:=ji (o:=.lst (v :: rows ++ [.ref a1,.ref a2,.ref a3])) nLn
        have S11:=(S9.tmp s10).tmp s11
        have f11:Fr (fun _=>False) ρ4 H6 ρ7 _:=f10.trans (Fr.same s11)
        have nLn' : ρ7 Ln = none:=(S9.tmp s10).kr.none nLn
        refine ⟨_,Ln,ρ7,rows ++ [.ref a1,.ref a2,.ref a3],rfl,S11,fr_un f11 hLh6.1 hLh6.2,⟨ja,nLn'⟩,?_,by rw [List.length_append,lr]; show 2 + 3 * i + 3 = 2 + 3 * (i + 1); omega⟩
        rw [len_flat ec,← List.append_assoc]
        refine paired_cat (Paired.mapP pr fun _ _ h=>h.fr f11 fun _ z=>z) (.cons ?_ (.cons ?_ (.cons ?_ .nil)))
        · exact A1.fr (((f8.trans f9).trans (Fr.same s10)).trans (Fr.same s11)) fun _ z=>z
        · exact A2.fr ((f9.trans (Fr.same s10)).trans (Fr.same s11)) fun _ z=>z
        · exact A3.fr (P:=fun _=>False) (Fr.same (s10.trans s11)) fun _ z=>z
      rintro σ H6 ⟨v5,Ls,ρ4,rows,rfl,S6,hLh6,hLs6,pr,lr⟩
      rw [List.length_map,List.length_map,List.take_length] at pr
      rw [List.length_map,List.length_map] at lr
      have pr':Paired (RowS K H6 ρ4 id) rows (rowsL ω'):=pr
      clear pr
      have lrows:rows.length ≤ 100:=by rw [lr]; have:=z'.ks; omega
      clear S5 hLh hLs5 R15 R25 hLh6
      refine ⟨_,rfl,zs1,fun F1 nF1=>?_⟩
      have s7:=ji (o:=.lst [v]) nF1
      have S7:=S6.tmp s7
      have hF1:upd H6 F1 (.lst [v]) F1 = some (.lst [v]) ∧ ρ4 F1 = none:=⟨ja,S6.kr.none nF1⟩
      have hLs7:=fr_un (P:=fun _=>False) (Fr.same s7) hLs6.1 hLs6.2
      have pr7:Paired (RowS K (upd H6 F1 (.lst [v])) ρ4 id) rows (rowsL ω'):=Paired.mapP pr' fun _ _ h=>h.fr (P:=fun _=>False) (Fr.same s7) fun _ z=>z
      generalize upd H6 F1 (.lst [v]) = H7 at S7 hF1 hLs7 pr7
      refine ⟨_,rfl,1,rfl,Ls,v :: rows,rfl,SqL.of hLs7.1,fun C1 nC1=>?_⟩
      rw [cut1]
      have s8:=ji (o:=.lst rows) nC1
      have S8:=S7.tmp s8
      have hC1:upd H7 C1 (.lst rows) C1 = some (.lst rows) ∧ ρ4 C1 = none:=⟨ja,S7.kr.none nC1⟩
      have hF8:=fr_un (P:=fun _=>False) (Fr.same s8) hF1.1 hF1.2
      have hLs8:=fr_un (P:=fun _=>False) (Fr.same s8) hLs7.1 hLs7.2
      have pr8:Paired (RowS K (upd H7 C1 (.lst rows)) ρ4 id) rows (rowsL ω'):=Paired.mapP pr7 fun _ _ h=>h.fr (P:=fun _=>False) (Fr.same s8) fun _ z=>z
      generalize upd H7 C1 (.lst rows) = H8 at S8 hC1 hF8 hLs8 pr8
      clear S6 S7 hF1 hLs7 pr7 hLs6 pr' s7 s8 nF1 nC1
      refine ⟨C1,rfl,⟨_,SqL.of hC1.1⟩,lc_list (K:=K) (a:=C1) (xs:=rows) (fun i ys σ H'=>∃ v0,σ = [v0] ∧ Same H8 H' ∧ j6 K H' ρ4 (((rowsL ω').take i).map Dt.lst) ys ∧ ys.length = i) ⟨none,rfl,Same.refl _,by rw [List.take_zero,List.map_nil,j6],rfl⟩ ?_ ?_ ?_⟩
      · rintro i ys σ H' hi ⟨v0,rfl,sm,hs,ly⟩
        exact ⟨SqL.of (sm _ _ hC1.1),bigL (by omega)⟩
      · rintro i y ys σ H' ey ⟨v0,rfl,sm,hs,ly⟩
        obtain ⟨ds,ed,r,xs,j,rfl,er,hr',lx,hq⟩:=ql pr8 ey
        dsimp only [gName,tYes]
        rw [if_pos rfl]
        refine ⟨_,rfl,r,xs,rfl,.inl (SqL.of (sm _ _ hr')),fun l nl=>⟨_,rfl,sm.trans (ji nl),?_,by rw [List.length_append,ly]; rfl⟩⟩
        have kr':=S8.kr.same sm
        have f':Fr (fun _=>False) ρ4 H' ρ4 (upd H' l (.lst xs)):=Fr.same (ji nl)
        rw [take_snoc ed,List.map_append]
        refine j6.snoc (hs.fr f') ?_
        rw [HasU]
        exact ⟨l,xs,rfl,ja,kr'.none nl,(hq.fr (P:=fun _=>False) (Fr.same sm)).fr f'⟩
      rintro ys σ H9 ⟨v0,rfl,sm,hs,ly⟩ p np
      have lp:rows.length = (rowsL ω').length:=Paired.length pr8
      rw [lp,List.take_length] at hs
      have s10:=ji (o:=.lst ys) np
      have S10:=(S8.tmp sm).tmp s10
      have f10:Fr (fun _=>False) ρ4 H8 ρ4 (upd H9 p (.lst ys)):=Fr.same (sm.trans s10)
      have hs10:j6 K (upd H9 p (.lst ys)) ρ4 ((rowsL ω').map Dt.lst) ys:=hs.fr (P:=fun _=>False) (Fr.same s10)
      have hF10:=fr_un f10 hF8.1 hF8.2
      have hLs10:=fr_un f10 hLs8.1 hLs8.2
      have pr10:Paired (RowS K (upd H9 p (.lst ys)) ρ4 id) rows (rowsL ω'):=Paired.mapP pr8 fun _ _ h=>h.fr f10 fun _ z=>z
      have hp10:upd H9 p (.lst ys) p = some (.lst ys):=ja
      generalize upd H9 p (.lst ys) = H10 at S10 f10 hs10 hF10 hLs10 pr10 hp10
      refine ⟨F1,p,[v],ys,rfl,rfl,hF10.1,hp10,bigL (by show 1 + ys.length ≤ 1000000; omega),fun Fd nFd=>?_⟩
      have s11:=ji (o:=.lst ([v] ++ ys)) nFd
      have S11:=S10.tmp s11
      have hFd:HasU K (upd H10 Fd (.lst ([v] ++ ys))) ρ4 (.lst (td :: (rowsL ω').map Dt.lst)) (.ref Fd):=by
        rw [HasU]
        refine ⟨Fd,_,rfl,ja,S10.kr.none nFd,?_⟩
        rw [j6]
        exact ⟨_,_,rfl,S11.td,hs10.fr (P:=fun _=>False) (Fr.same s11)⟩
      have hLs11:=fr_un (P:=fun _=>False) (Fr.same s11) hLs10.1 hLs10.2
      have pr11:Paired (RowS K (upd H10 Fd (.lst ([v] ++ ys))) ρ4 id) rows (rowsL ω'):=Paired.mapP pr10 fun _ _ h=>h.fr (P:=fun _=>False) (Fr.same s11) fun _ z=>z
      dsimp only
      generalize upd H10 Fd (.lst ([v] ++ ys)) = H11 at S11 hFd hLs11 pr11
      clear S8 S10 hC1 hF8 hLs8 pr8 hF10 hLs10 pr10 hs hs10 hp10 sm s10 s11 f10
      refine ⟨_,rfl,1,rfl,Ls,v :: rows,rfl,SqL.of hLs11.1,fun C2 nC2=>?_⟩
      rw [cut1]
      have s12:=ji (o:=.lst rows) nC2
      have S12:=S11.tmp s12
      have hC2:upd H11 C2 (.lst rows) C2 = some (.lst rows) ∧ ρ4 C2 = none:=⟨ja,S11.kr.none nC2⟩
      have hFd12:=hFd.fr (P:=fun _=>False) (Fr.same s12:Fr (fun _=>False) ρ4 H11 ρ4 _)
      have pr12 : ∀ y ∈ rows,∃ r xs j,y = .ref r ∧ ρ4 r = some (id,.own j) ∧ upd H11 C2 (.lst rows) r = some (.lst xs) ∧ xs.length ≤ 100000 + 0:=fun y hy=>by
        obtain ⟨j0,hj0,e0⟩:=List.mem_iff_getElem.mp hy
        obtain ⟨ds,_,r,xs,j,e,er,hr',lx,_⟩:=ql pr11 (by rw [List.getElem?_eq_getElem hj0,e0])
        exact ⟨r,xs,j,e,er,s12 _ _ hr',lx⟩
      generalize upd H11 C2 (.lst rows) = H12 at S12 hC2 hFd12 pr12
      refine ⟨C2,rfl,⟨_,SqL.of hC2.1⟩,for_list (K:=K) (a:=C2) (xs:=rows) (fun i σ H'=>∃ v7,σ = [some (.ref W.x),some x,some (.bl b),some v,some (.ref Ls),v5,some (.ref Fd),v7] ∧ Sees K t ρ H id W ω' td v ρ4 H' ∧ (H' C2 = some (.lst rows) ∧ ρ4 C2 = none) ∧ HasU K H' ρ4 (.lst (td :: (rowsL ω').map Dt.lst)) (.ref Fd) ∧ ∀ y ∈ rows,∃ r xs j,y = .ref r ∧ ρ4 r = some (id,.own j) ∧ H' r = some (.lst xs) ∧ xs.length ≤ 100000 + i) ⟨none,rfl,S12,hC2,hFd12,pr12⟩ (fun i σ H' _ ⟨_,_,_,h,_⟩=>SqL.of h.1) ?_ ?_⟩
      · rintro i y σ H' ey ⟨v7,rfl,S',hC',hF',pr'⟩
        have ym:y ∈ rows:=List.mem_of_getElem? ey
        have hi:=(List.getElem?_eq_some_iff.mp ey).1
        cases b with
        | false=>exact ⟨_,rfl,_,rfl,iteF ⟨_,rfl,S',hC',hF',fun y hy=>let ⟨r,xs,j,e,er,hr',lx⟩:=pr' y hy; ⟨r,xs,j,e,er,hr',by omega⟩⟩⟩
        | true=>
          obtain ⟨r,xs,j,rfl,er,hr',lx⟩:=pr' y ym
          refine ⟨_,rfl,_,rfl,iteT ?_⟩
          refine ⟨_,rfl,.inl ⟨rfl,_,SqL.of hr'⟩,r,xs,.str "late",rfl,rfl,hr',big (by omega),?_⟩
          have f':Fr (isO id) ρ4 H' ρ4 (upd H' r (.lst (xs ++ [.str "late"]))):=Fr.put er ⟨j,rfl⟩
          refine ⟨_,rfl,⟨S'.o.own f',S'.fr.trans (f'.mono fun r ⟨j,e⟩=>by rw [e]; rfl),S'.kr.put,S'.td.fr f'⟩,fr_un f' hC'.1 hC'.2,hF'.fr f',fun y2 hy2=>?_⟩
          obtain ⟨r2,xs2,j2,e2,er2,hr2,lx2⟩:=pr' y2 hy2
          by_cases z:r2 = r
          · subst z
            rw [hr'] at hr2
            cases hr2
            exact ⟨r2,_,j2,e2,er2,ja,by rw [List.length_append]; show xs.length + 1 ≤ 100000 + (i + 1); omega⟩
          · exact ⟨r2,xs2,j2,e2,er2,by rw [je z]; exact hr2,by omega⟩
      rintro σ H' ⟨v7,rfl,S',hC',hF',pr'⟩
      exact ⟨_,rfl,k' ρ4 H' _ S' hF'⟩
def run (ω : Wd) (ds:List Deed) : Wd:=ds.foldl (fun ω d=>(ω.does d).1) ω
theorem run_snoc (ω : Wd) (ds:List Deed) (d:Deed) : run ω (ds ++ [d]) = ((run ω ds).does d).1:=by
  unfold run
  rw [List.foldl_append]
  rfl
noncomputable def tellsOf (ω : Wd) (ds:List Deed) : List Dt:=(List.range ds.length).map fun i=>match ds[i]? with
  | some d=>seenD ((run ω (ds.take i)).does d)
  | none=>.non
theorem tells_snoc (ω : Wd) (ds:List Deed) (d:Deed) : tellsOf ω (ds ++ [d]) = tellsOf ω ds ++ [seenD ((run ω ds).does d)]:=by
  unfold tellsOf
  rw [List.length_append,List.length_singleton,List.range_succ,List.map_append]
  congr 1
  · refine List.map_congr_left fun i hi=>?_
    have lt:=List.mem_range.mp hi
    rw [List.getElem?_append_left lt,List.take_append_of_le_length (by omega)]
  · rw [List.map_singleton,List.getElem?_append_right (Nat.le_refl _),Nat.sub_self,List.take_left' rfl]
    rfl
theorem tells_at (ω : Wd) {ds:List Deed} {i:Nat} {d:Deed} (e:ds[i]? = some d) : tellsOf ω (ds.take (i + 1)) = tellsOf ω (ds.take i) ++ [seenD ((run ω (ds.take i)).does d)]:=by
  rw [take_snoc e]
  exact tells_snoc ω _ d
def CanAll (ω : Wd) (ds:List Deed) : Prop:=∀ (i:Nat) (d:Deed),ds[i]? = some d → d.Can (run ω (ds.take i))
theorem CanAll.snoc {ω : Wd} {ds:List Deed} {d:Deed} (h:CanAll ω ds) (c:d.Can (run ω ds)) : CanAll ω (ds ++ [d]):=fun i d' e=>by
  by_cases z:i < ds.length
  · rw [List.getElem?_append_left z] at e
    rw [List.take_append_of_le_length (by omega)]
    exact h i d' e
  · rw [List.getElem?_append_right (by omega)] at e
    have j0:i = ds.length:=by
      have:=(List.getElem?_eq_some_iff.mp e).1
      simp at this
      omega
    subst j0
    rw [Nat.sub_self] at e
    cases e
    rw [List.take_left' rfl]
    exact c
theorem setK_keys (ks:List (Int × Kp)) (h:Int) (κ : Kp) : (setK ks h κ).map (·.1) = ks.map (·.1):=by
  unfold setK
  rw [List.map_map]
  refine List.map_congr_left fun c _=>?_
  show (if c.1 = h then (h,κ) else c).1 = c.1
  split
  · rename_i z
    exact z.symm
  · rfl
theorem votes_like (h:Int) : ∀ (os:List O) (ω : Wd),ω.Like (ω.zb h os)
  | [],ω=>⟨rfl,rfl,rfl,rfl,rfl⟩
  | o :: os,ω=>(vote_like ω h o).trans (votes_like h os (ω.vote h o))
theorem does_fix (ω : Wd) (d:Deed) : (ω.does d).1.n = ω.n ∧ (ω.does d).1.cheats = ω.cheats ∧ (ω.does d).1.ks.map (·.1) = ω.ks.map (·.1):=by
  cases d with
  | ask p g m=>
    cases er : ω.asked[p.toNat]? with
    | none=>rw [does_no er]; exact ⟨rfl,rfl,rfl⟩
    | some row=>
      cases ho:okRow ω row with
      | false=>rw [does_now er ho]; exact ⟨rfl,rfl,rfl⟩
      | true=>
        cases em:(ω.ks.map fun c=>c.2.leftOf p row).max? with
        | none=>rw [does_none er ho em]; exact ⟨rfl,rfl,rfl⟩
        | some M=>
          by_cases lt:M < m
          · rw [does_much er ho em lt]; exact ⟨rfl,rfl,rfl⟩
          · rw [does_told er ho em lt]; exact ⟨rfl,rfl,rfl⟩
  | cheat o=>exact ⟨rfl,rfl,rfl⟩
  | come i=>
    cases el : ω.way[i]? with
    | none=>simp [Wd.does,el]
    | some l=>
      cases ek : ω.keep l.2.1 with
      | none=>simp [Wd.does,el,ek]
      | some κ=>
        rw [does_come el ek]
        have lk:=votes_like l.2.1 (κ.take l.1 l.2.2).2 { ω with way:=ω.way.eraseIdx i,ks:=setK ω.ks l.2.1 (κ.take l.1 l.2.2).1 }
        refine ⟨lk.n,lk.c,?_⟩
        show (Wd.zb _ _ _).ks.map (·.1) = _
        rw [lk.k]
        exact setK_keys _ _ _
theorem run_fix (ω : Wd) : ∀ ds:List Deed,(run ω ds).n = ω.n ∧ (run ω ds).cheats = ω.cheats ∧ (run ω ds).ks.map (·.1) = ω.ks.map (·.1):=fun ds=>by
  have gen : ∀ (n:Nat),n ≤ ds.length → (run ω (ds.take n)).n = ω.n ∧ (run ω (ds.take n)).cheats = ω.cheats ∧ (run ω (ds.take n)).ks.map (·.1) = ω.ks.map (·.1):=fun n=>by
    induction n with
    | zero=>exact fun _=>⟨rfl,rfl,rfl⟩
    | succ n ih=>
      intro hn
      obtain ⟨a,b,c⟩:=ih (by omega)
      have e:ds[n]? = some ds[n]:=List.getElem?_eq_getElem (by omega)
      rw [take_snoc e,run_snoc]
      obtain ⟨a',b',c'⟩:=does_fix (run ω (ds.take n)) ds[n]
      exact ⟨a'.trans a,b'.trans b,c'.trans c⟩
  have:=gen ds.length (Nat.le_refl _)
  rwa [List.take_length] at this
structure Side (K:PySem.W.Frag) (t:Ad) (H:Hp) (ρ : Rho) (id:Nat) (W:WA) (ω : Wd) (ds:List Deed) (D E:Addr) : Prop where
  o:jz t H ρ id W (run ω ds)
  i : ∃ L,(run ω ds).In ds.length L
  can:CanAll ω ds
  d : ρ D = some (9,.own (2 + id)) ∧ ∃ xs,H D = some (.lst xs) ∧ Paired (DeedU H ρ) xs ds
  e : ρ E = some (9,.own (4 + id)) ∧ ∃ ys,H E = some (.lst ys) ∧ j6 K H ρ (tellsOf ω ds) ys ∧ ys.length = ds.length
theorem Side.fr {K:PySem.W.Frag} {t:Ad} {H H':Hp} {ρ ρ':Rho} {id:Nat} {W:WA} {ω : Wd} {ds:List Deed} {D E:Addr} {P:Role → Prop} (f:Fr P ρ H ρ' H') (n1 : ∀ p,¬ P (id,p)) (n2 : ¬ P (9,.own (2 + id))) (n3 : ¬ P (9,.own (4 + id))) (s:Side K t H ρ id W ω ds D E) : Side K t H' ρ' id W ω ds D E:=by
  obtain ⟨rD,xs,hD,pD⟩:=s.d
  obtain ⟨rE,ys,hE,pE,lE⟩:=s.e
  obtain ⟨hD',rD'⟩:=zi f hD rD n2
  obtain ⟨hE',rE'⟩:=zi f hE rE n3
  exact ⟨s.o.fr n1 f,s.i,s.can,⟨rD',xs,hD',Paired.mapP pD fun _ _=>DeedU.fr f⟩,⟨rE',ys,hE',pE.fr f,lE⟩⟩
theorem Side.same {K:PySem.W.Frag} {t:Ad} {H H':Hp} {ρ : Rho} {id:Nat} {W:WA} {ω : Wd} {ds:List Deed} {D E:Addr} (m:Same H H') (s:Side K t H ρ id W ω ds D E) : Side K t H' ρ id W ω ds D E:=s.fr (P:=fun _=>False) (Fr.same m) (fun _ z=>z) (fun z=>z) (fun z=>z)
theorem w0_in {h f:Int} {ns cs:List Int} (h1 : 1 ≤ h ∧ h ≤ 16) (l2 : 2 ≤ ns.length) (l8:ns.length ≤ 8) : (w0 h f ns cs).In 0 []:=by
  have kin:KIn [] 0 ns.length (kp0 ns):=⟨⟨rfl,by show (List.replicate _ _).length = _; rw [List.length_replicate],fun _ z=>(by cases z),fun _ z=>(by cases z),List.nodup_nil⟩,⟨Nat.le_refl _,Nat.le_refl _,Nat.le_refl _⟩,fun _ z=>(by cases z),fun _ z=>(by cases z)⟩
  have ek:(w0 h f ns cs).ks.map (·.1) = (List.range h.toNat).map fun (i:Nat)=>(i:Int):=by
    show ((List.range h.toNat).map fun (i:Nat)=>((i:Int),kp0 ns)).map (·.1) = _
    rw [List.map_map]
    rfl
  have kall : ∀ c ∈ (w0 h f ns cs).ks,c.2 = kp0 ns:=fun c hc=>by
    obtain ⟨i,_,rfl⟩:=List.mem_map.mp (show c ∈ (List.range h.toNat).map fun (i:Nat)=>((i:Int),kp0 ns) from hc)
    rfl
  have lk:(w0 h f ns cs).ks.length = h.toNat:=by
    show ((List.range h.toNat).map _).length = _
    rw [List.length_map,List.length_range]
  refine ⟨⟨l8,by show (List.replicate _ _).length = _; rw [List.length_replicate]; rfl,fun row hr o ho=>?_,fun c hc=>by rw [kall c hc]; exact kin.ok,?_,by rw [lk]; omega,by rw [lk]; omega⟩,Nat.le_refl _,fun _ z=>(by cases z),fun c hc=>by rw [kall c hc]; exact kin,⟨List.nodup_nil,fun _ z=>(by cases z),fun _ z=>(by cases z)⟩,fun _ z=>(by cases z),Nat.zero_le _,fun row hr=>?_⟩
  · have:row = []:=List.eq_of_mem_replicate hr
    subst this
    cases ho
  · rw [ek]
    exact List.Pairwise.map _ (fun a b hab z=>hab (Int.ofNat.inj z)) List.nodup_range
  · have:row = []:=List.eq_of_mem_replicate hr
    subst this
    exact Nat.le_refl _
theorem OkR.zm {ρ : Rho} {H:Hp} {a:Addr} {r:Role} {u:HO} (k:OkR ρ H) (h:H a = some u) (n:noTup u) : OkR (zm ρ a r) H:=fun b r' e=>by
  by_cases z:b = a
  · subst z
    exact ⟨u,h,n⟩
  · rw [qf z] at e
    exact k b r' e
def Un (H:Hp) (ρ : Rho) (a:Addr) (xs:List V) : Prop:=H a = some (.lst xs) ∧ ρ a = none
theorem Un.fr {P:Role → Prop} {ρ ρ':Rho} {H H':Hp} {a:Addr} {xs:List V} (f:Fr P ρ H ρ' H') (h:Un H ρ a xs) : Un H' ρ' a xs:=fr_un f h.1 h.2
structure Ls where
  To:Addr
  R:Addr
  Bg:Addr
  b0:Addr
  b1:Addr
  Tw:Addr
  De:Addr
  Te:Addr
  D0:Addr
  D1:Addr
  E0:Addr
  E1:Addr
  x0:Addr
  x1:Addr
structure Bs (H:Hp) (ρ : Rho) (l:Ls) : Prop where
  kr:OkR ρ H
  tn:Town l.To l.R H
  tr:TownR ρ l.To l.R
  bg:Un H ρ l.Bg [.ref l.b0,.ref l.b1]
  b0:Un H ρ l.b0 ([10,5].map V.int)
  b1:Un H ρ l.b1 ([20,0,7].map V.int)
  tw:Un H ρ l.Tw [.ref l.x0,.ref l.x1]
  de:Un H ρ l.De [.ref l.D0,.ref l.D1]
  te:Un H ρ l.Te [.ref l.E0,.ref l.E1]
theorem town_fr {P:Role → Prop} {ρ ρ':Rho} {H H':Hp} {To R:Addr} (f:Fr P ρ H ρ' H') (n0 : ¬ P (9,.own 0)) (n1 : ¬ P (9,.own 1)) (h:Town To R H) (tr:TownR ρ To R) : Town To R H' ∧ TownR ρ' To R:=by
  obtain ⟨row,c,t1,t2,t3⟩:=h
  obtain ⟨a1,a2⟩:=zi f t1 tr.1 n0
  obtain ⟨a3,a4⟩:=zi f t2 tr.2 n1
  exact ⟨⟨row,c,a1,a3,t3⟩,a2,a4⟩
theorem Bs.fr {P:Role → Prop} {ρ ρ':Rho} {H H':Hp} {l:Ls} (f:Fr P ρ H ρ' H') (kr:OkR ρ' H') (n0 : ¬ P (9,.own 0)) (n1 : ¬ P (9,.own 1)) (b:Bs H ρ l) : Bs H' ρ' l:=by
  obtain ⟨h1,h2⟩:=town_fr f n0 n1 b.tn b.tr
  exact ⟨kr,h1,h2,b.bg.fr f,b.b0.fr f,b.b1.fr f,b.tw.fr f,b.de.fr f,b.te.fr f⟩
theorem Bs.same {ρ : Rho} {H H':Hp} {l:Ls} (m:Same H H') (b:Bs H ρ l) : Bs H' ρ l:=b.fr (P:=fun _=>False) (Fr.same m) (b.kr.same m) (fun z=>z) (fun z=>z)
theorem Bs.draw {ρ : Rho} {H H':Hp} {l:Ls} (f:Fr isTn ρ H ρ H') (kr:OkR ρ H') (tn:Town l.To l.R H') (b:Bs H ρ l) : Bs H' ρ l:=⟨kr,tn,b.tr,b.bg.fr f,b.b0.fr f,b.b1.fr f,b.tw.fr f,b.de.fr f,b.te.fr f⟩
theorem tn_no {id:Nat} (h:id ≠ 9) (p:Part) : ¬ isTn (id,p):=fun z=>h (by rcases z with z | z <;> exact (Prod.mk.inj z).1)
theorem tn_own {j:Nat} (h : 2 ≤ j) : ¬ isTn (9,.own j):=fun z=>by
  rcases z with z | z
  · have:=Part.own.inj (Prod.mk.inj z).2
    omega
  · have:=Part.own.inj (Prod.mk.inj z).2
    omega
abbrev W0:Wd:=w0 4 1 [10,5] [1]
abbrev W1:Wd:=w0 1 0 [20,0,7] []
theorem empty_tup {K:W.Frag} {H:Hp} {ρ : Rho} {id:Nat} {a:Addr} (h : ∃ o n,K.lookup a = some o ∧ o.cls = .type "tuple" ∧ o.data = .seq #[] n) : CheatsU K H ρ id a []:=by
  obtain ⟨o,n,h1,h2,h3⟩:=h
  exact .inr ⟨rfl,o,#[],n,h1,h2,h3,Nat.zero_le _,.nil⟩
theorem mk_same {H:Hp} {x dx:Addr} {C:Addr} (nx:H x = none) (ndx:H dx = none) (ne:dx ≠ x) {ρ : Rho} {r:Role} (kr:OkR ρ H) : Fr (fun _=>False) ρ H (zm ρ x r) (upd (upd H dx (.own x)) x (.ins C dx [])) ∧ OkR (zm ρ x r) (upd (upd H dx (.own x)) x (.ins C dx [])):=by
  have nx1:upd H dx (.own x) x = none:=by rw [je ne.symm]; exact nx
  exact ⟨(Fr.same (ji ndx)).trans (Fr.newR nx1),(kr.same (ji ndx)).newR⟩
theorem cheat0 : ∀ p,0 ≤ p → p < ((W0.n:Nat) : Int) → (p = 1 ↔ p ∈ W0.cheats):=fun p _ _=>by
  show p = 1 ↔ p ∈ [1]
  simp
theorem cheat1 : ∀ p,0 ≤ p → p < ((W1.n:Nat) : Int) → (p = 9 ↔ p ∈ W1.cheats):=fun p h0 h1=>by
  show p = 9 ↔ p ∈ ([] : List Int)
  have h1':p < 3:=h1
  simp
  omega
structure Pr (t:Ad) (H:Hp) (ρ : Rho) (To R Bg b0 b1 Tw x0 x1:Addr) (A0 A1:WA) : Prop where
  kr:OkR ρ H
  tn:Town To R H
  tr:TownR ρ To R
  bg:Un H ρ Bg [.ref b0,.ref b1]
  b0:Un H ρ b0 ([10,5].map V.int)
  b1:Un H ρ b1 ([20,0,7].map V.int)
  tw:Un H ρ Tw [.ref x0,.ref x1]
  p0:jz t H ρ 0 A0 W0
  p1:jz t H ρ 1 A1 W1
theorem Pr.fr {t:Ad} {P:Role → Prop} {ρ ρ':Rho} {H H':Hp} {To R Bg b0 b1 Tw x0 x1:Addr} {A0 A1:WA} (f:Fr P ρ H ρ' H') (kr:OkR ρ' H') (n0 : ¬ P (9,.own 0)) (n1 : ¬ P (9,.own 1)) (n2 : ∀ q,¬ P (0,q)) (n3 : ∀ q,¬ P (1,q)) (b:Pr t H ρ To R Bg b0 b1 Tw x0 x1 A0 A1) : Pr t H' ρ' To R Bg b0 b1 Tw x0 x1 A0 A1:=by
  obtain ⟨h1,h2⟩:=town_fr f n0 n1 b.tn b.tr
  exact ⟨kr,h1,h2,b.bg.fr f,b.b0.fr f,b.b1.fr f,b.tw.fr f,b.p0.fr n2 f,b.p1.fr n3 f⟩
mutual
theorem eqD_refl : ∀ d:Dt,eqD d d = true
  | .non=>by simp [eqD]
  | .bl _=>by simp [eqD]
  | .int _=>by simp [eqD]
  | .str _=>by simp [eqD]
  | .tup ds=>by rw [eqD]; exact eqDs_refl ds
  | .lst ds=>by rw [eqD]; exact eqDs_refl ds
theorem eqDs_refl : ∀ ds:List Dt,eqDs ds ds = true
  | []=>by rw [eqDs]
  | d :: ds=>by rw [eqDs,eqD_refl d,eqDs_refl ds]; rfl
end
theorem depDs_le {n:Nat} : ∀ {ds:List Dt},(∀ d ∈ ds,depD d ≤ n) → depDs ds ≤ n + 1
  | [],_=>by simp [depDs]
  | d :: ds,h=>by
    have h1:=h d List.mem_cons_self
    have h2:=depDs_le (ds:=ds) fun e he=>h e (List.mem_cons_of_mem _ he)
    rw [depDs]
    omega
theorem dep_tupD (ts:List Int) : depD (tupD ts) ≤ 8:=by
  unfold tupD
  rw [depD]
  have:=depDs_le (n:=3) (ds:=ts.map Dt.int) fun d hd=>by
    obtain ⟨i,_,rfl⟩:=List.mem_map.mp hd
    simp [depD]
  omega
theorem dep_letD (l:Bool × Int × O) : depD (letD l) ≤ 12:=by
  unfold letD
  rw [depD]
  have:=depDs_le (n:=8) (ds:=[.str (if l.1 = true then "order" else "paper"),.int l.2.1,ordD l.2.2]) fun d hd=>by
    simp only [List.mem_cons,List.not_mem_nil,or_false] at hd
    rcases hd with rfl | rfl | rfl
    · simp [depD]
    · simp [depD]
    · exact dep_tupD _
  omega
theorem dep_seen (r:Wd × Told) : depD (seenD r) ≤ 30:=by
  have rows : ∀ d ∈ rowsD r.1,depD d ≤ 18:=fun d hd=>by
    rw [rowsD_L] at hd
    obtain ⟨ds,hds,rfl⟩:=List.mem_map.mp hd
    rw [depD]
    have all : ∀ d ∈ ds,depD d ≤ 12:=by
      unfold rowsL at hds
      rcases List.mem_append.mp hds with h | h
      · simp only [List.mem_cons,List.not_mem_nil,or_false] at h
        rcases h with rfl | rfl
        · intro d hd
          obtain ⟨l,_,rfl⟩:=List.mem_map.mp hd
          exact dep_letD l
        · intro d hd
          obtain ⟨l,_,rfl⟩:=List.mem_map.mp hd
          have:=dep_tupD l
          omega
      · obtain ⟨xs,hxs,hx⟩:=List.mem_flatten.mp h
        obtain ⟨c,_,rfl⟩:=List.mem_map.mp hxs
        unfold houseD at hx
        simp only [List.mem_cons,List.not_mem_nil,or_false] at hx
        rcases hx with rfl | rfl | rfl
        · intro d hd
          obtain ⟨l,_,rfl⟩:=List.mem_map.mp hd
          simp [depD]
        · intro d hd
          obtain ⟨l,_,rfl⟩:=List.mem_map.mp hd
          have:=dep_tupD (ordI l)
          show depD (tupD (ordI l)) ≤ 12
          omega
        · intro d hd
          obtain ⟨l,_,rfl⟩:=List.mem_map.mp hd
          have:=dep_tupD l
          omega
    have:=depDs_le all
    omega
  have tol:depD (toldD r.2) ≤ 18:=by
    cases r.2 with
    | none=>simp [toldD,depD]
    | ord o=>have:=dep_tupD (ordI o); show depD (tupD (ordI o)) ≤ 18; omega
    | word z=>simp [toldD,depD]
    | letter l=>have:=dep_letD l; show depD (letD l) ≤ 18; omega
  unfold seenD
  rw [depD]
  have:=depDs_le (n:=18) (ds:=toldD r.2 :: rowsD r.1) fun d hd=>by
    rcases List.mem_cons.mp hd with rfl | hd
    · exact tol
    · exact rows d hd
  omega
theorem dep_tells (ω : Wd) (ds:List Deed) : depD (.lst (tellsOf ω ds)) ≤ 60:=by
  rw [depD]
  have:=depDs_le (n:=30) (ds:=tellsOf ω ds) fun d hd=>by
    unfold tellsOf at hd
    obtain ⟨i,hi,rfl⟩:=List.mem_map.mp hd
    have lt:=List.mem_range.mp hi
    rw [List.getElem?_eq_getElem lt]
    exact dep_seen _
  omega
def sp_law (K:W.Frag) : Sp:=fun vs H Q _=>∃ (a:Addr) (ns:List Int),vs = [.ref a] ∧ SqL K H a (ns.map V.int) ∧ ns.length ≤ 63 ∧ ∀ H',Q (.bl true) H'
set_option maxHeartbeats 0 in
theorem ok_law (T:Txt K mg t) : FnOk P w K mg base CX0 12 t.f_law t.d_law ["_law_script"] (sp_law K):=by
  refine (T.F_law.ok (k:=11) sc_law (fun vs H Q E h=>?_) (fun cdv A outer s H vs Q E hr h=>?_))
  · obtain ⟨a,ns,rfl,_⟩:=h
    rfl
  · obtain ⟨a,ns,rfl,hS,hn,k⟩:=h
    refine ⟨_,(@jc _ _ _ _ _ (j7 (i:=1) sc_law.nd rfl (Or.inl rfl) (j5 (ok__law_town T) (hr.mono (by decide)) rfl T.m__law_town T.F__law_town.kp T.b__law_town .nil jx (jd (pv 0) jg)))
      (@jc _ _ _ _ _ (@j7 _ _ 2 _ _ _ _ sc_law.nd rfl (Or.inl rfl) (@qd _ _ _ _ (@pa_2 _ _ _ _ _ (@qd _ _ _ _ (@pa_2 _ _ _ _ _ jj jj rfl rfl)) (@qd _ _ _ _ (@pa_3 _ _ _ _ _ _ _ jj jj jj rfl rfl rfl)) rfl rfl)) (by rfl) (by first | exact .inl rfl | exact .inr rfl))
      (@jc _ _ _ _ _ (@j7 _ _ 3 _ _ _ _ sc_law.nd rfl (Or.inl rfl) (@qd _ _ _ _ (@pa_2 _ _ _ _ _ (@qd _ _ _ _ (@pa_2 _ _ _ _ _ jj jj rfl rfl)) (@qd _ _ _ _ (@pa_3 _ _ _ _ _ _ _ jj jj jj rfl rfl rfl)) rfl rfl)) (by rfl) (by first | exact .inl rfl | exact .inr rfl))
      (@jc _ _ _ _ _ (@j7 _ _ 4 _ _ _ _ sc_law.nd rfl (Or.inl rfl) (@qd _ _ _ _ (@pa_2 _ _ _ _ _ (pe_makeK T.mk_World (ok_World___init__ T) (hr.mono (by decide)) rfl T.m_World T.bk0_World___init__.choose_spec.1 jx (jd jj jg) (pk_cons jj (pk_cons (yq zk (pv 3) jj (fun _ _=>rfl)) (pk_cons (@qd _ _ _ _ (jd jj jg)) pk_nil)))) (pe_makeK T.mk_World (ok_World___init__ T) (hr.mono (by decide)) rfl T.m_World T.bk1_World___init__.choose_spec.choose_spec.1 jx (jd jj jg) (pk_cons jj (pk_cons (yq zk (pv 3) jj (fun _ _=>rfl)) pk_nil))) rfl rfl)) (by rfl) (by first | exact .inl rfl | exact .inr rfl))
      (@jc _ _ _ _ _ (ps_asg jj (pg_sub (yq zk (pv 3) jj (fun _ _=>rfl)) jj set_list))
      (@jc _ _ _ _ _ (zd (pe_bm PySem.F.plainAttrs_list PySem.F.slot_list_append PySem.F.type_list_append ya (yq zk (pv 3) jj (fun _ _=>rfl)) (jd jj jg)))
      (@jc _ _ _ _ _ (@j7 _ _ 5 _ _ _ _ sc_law.nd rfl (Or.inl rfl) (@qd _ _ _ _ (@pa_2 _ _ _ _ _ (@qd _ _ _ _ jg) (@qd _ _ _ _ jg) rfl rfl)) (by rfl) (by first | exact .inl rfl | exact .inr rfl))
      (@jc _ _ _ _ _ (@j7 _ _ 6 _ _ _ _ sc_law.nd rfl (Or.inl rfl) (@qd _ _ _ _ (@pa_2 _ _ _ _ _ (@qd _ _ _ _ jg) (@qd _ _ _ _ jg) rfl rfl)) (by rfl) (by first | exact .inl rfl | exact .inr rfl))
      (@jc _ _ _ _ _ (ps_for PassesOwn.never rfl (pi_range1 rfl T.n_range (jd jj jg)) (qc (i:=7) sc_law.nd rfl (Or.inl rfl)) (@jc _ _ _ _ _ (j7 (i:=8) sc_law.nd rfl (Or.inr rfl) (j5 (ok__law_draw T) (hr.mono (by decide)) rfl T.m__law_draw T.yo.kp T.b__law_draw .nil jx (@pa_2 _ _ _ _ _ (pv 1) jj rfl rfl)))
      (@jc _ _ _ _ _ (j7 (i:=9) sc_law.nd rfl (Or.inl rfl) (j5 (ok__law_deed T) (hr.mono (by decide)) rfl T.m__law_deed T.F__law_deed.kp T.b__law_deed .nil jx (@pa_4 _ _ _ _ _ _ _ _ _ (pv 1) (yq zk (pv 4) (pv 8) (fun _ _=>rfl)) (ju j8 rfl T.n_len boot_len (jd (yq zk (pv 2) (pv 8) (fun _ _=>rfl)) jg)) (pe_ifExp (qr op_eq (pv 8) jj (zv _)) jj jj) rfl rfl rfl rfl)))
      (@jc _ _ _ _ _ (zd (pe_bm PySem.F.plainAttrs_list PySem.F.slot_list_append PySem.F.type_list_append ya (yq zk (pv 5) (pv 8) (fun _ _=>rfl)) (jd (pv 9) jg)))
      (@jf _ _ _ (zd (pe_bm PySem.F.plainAttrs_list PySem.F.slot_list_append PySem.F.type_list_append ya (yq zk (pv 6) (pv 8) (fun _ _=>rfl)) (jd (j5 (ok__law_does T) (hr.mono (by decide)) rfl T.m__law_does T.F__law_does.kp T.b__law_does .nil jx (@pa_3 _ _ _ _ _ _ _ (yq zk (pv 4) (pv 8) (fun _ _=>rfl)) (pv 9) pe_bl rfl rfl rfl)) jg))))))))
      (@jc _ _ _ _ _ (@j7 _ _ 10 _ _ _ _ sc_law.nd rfl (Or.inr rfl) (@qd _ _ _ _ (@pa_2 _ _ _ _ _ (pe_makeK T.mk_World (ok_World___init__ T) (hr.mono (by decide)) rfl T.m_World T.bk0_World___init__.choose_spec.1 jx (jd jj jg) (pk_cons jj (pk_cons (yq zk (pv 2) jj (fun _ _=>rfl)) (pk_cons (@qd _ _ _ _ (jd jj jg)) pk_nil)))) (pe_makeK T.mk_World (ok_World___init__ T) (hr.mono (by decide)) rfl T.m_World T.bk1_World___init__.choose_spec.choose_spec.1 jx (jd jj jg) (pk_cons jj (pk_cons (yq zk (pv 2) jj (fun _ _=>rfl)) pk_nil))) rfl rfl)) (by rfl) (by first | exact .inl rfl | exact .inr rfl))
      (@jc _ _ _ _ _ (ps_for PassesOwn.never rfl (pi_range1 rfl T.n_range (jd jj jg)) (qc (i:=8) sc_law.nd rfl (Or.inr rfl)) (@jf _ _ _ (yc (qr (op_neD hr.units) (pe_lcomp (N':=["_law_deed_here","_law_alone","_law_k"]) (ix:=[none,some 10,some 8]) (compOk_is (by kernel_rfl)) rfl (@pi_list _ _ _ _ (yq zk (pv 5) (pv 8) (fun _ _=>rfl))) (fun _ _ _ _=>(qc (i:=0) nd_7 rfl (Or.inl rfl) (.inr rfl))) (fun _ _ _ _=>pif_nil) (fun _ _ _ _=>(j5 (ok__law_does T) (hr.mono (by decide)) rfl T.m__law_does T.F__law_does.kp T.b__law_does .nil jx (@pa_3 _ _ _ _ _ _ _ (yq (ix_listK (K:=K) rfl) (pv 1) (pv 2) (fun _ _=>rfl)) (pv 0) pe_bl rfl rfl rfl)))) (yq zk (pv 6) (pv 8) (fun _ _=>rfl)) (zv _)) (@jf _ _ _ (j4 pe_bl)) qe)))
      (@jf _ _ _ (j4 pe_bl))))))))))))),?_⟩
    refine ⟨_,rfl,a,ns,rfl,hS,fun To R H1 nT nR s1 hT=>?_⟩
    refine ⟨zs2,fun b0 nb0=>⟨zs3,fun b1 nb1=>⟨zs2,fun Bg nBg=>?_⟩⟩⟩
    have u1:=ji (o:=.lst [.int 10,.int 5]) nb0
    have u2:=ji (o:=.lst [.int 20,.int 0,.int 7]) nb1
    have u3:=ji (o:=.lst [.ref b0,.ref b1]) nBg
    have hb0:=u3 _ _ (u2 _ _ (ja (H:=H1) (a:=b0) (o:=.lst [.int 10,.int 5])))
    have hb1:=u3 _ _ (ja (H:=upd H1 b0 (.lst [.int 10,.int 5])) (a:=b1) (o:=.lst [.int 20,.int 0,.int 7]))
    have hBg:=ja (H:=upd (upd H1 b0 (.lst [.int 10,.int 5])) b1 (.lst [.int 20,.int 0,.int 7])) (a:=Bg) (o:=.lst [.ref b0,.ref b1])
    have hT2:=((hT.same u1).same u2).same u3
    show tSeq _ _ _ _ (upd (upd (upd H1 b0 (.lst [.int 10,.int 5])) b1 (.lst [.int 20,.int 0,.int 7])) Bg (.lst [.ref b0,.ref b1]))
    have fb0:=hT.fresh nb0
    have fb1:=(hT.same u1).fresh nb1
    have fBg:=((hT.same u1).same u2).fresh nBg
    generalize upd (upd (upd H1 b0 (.lst [.int 10,.int 5])) b1 (.lst [.int 20,.int 0,.int 7])) Bg (.lst [.ref b0,.ref b1]) = H2 at hb0 hb1 hBg hT2
    refine ⟨zs2,fun m0 nm0=>⟨zs3,fun m1 nm1=>⟨zs2,fun Md nMd=>?_⟩⟩⟩
    have v1:=ji (o:=.lst [.int 10,.int 5]) nm0
    have v2:=ji (o:=.lst [.int 20,.int 0,.int 7]) nm1
    have v3:=ji (o:=.lst [.ref m0,.ref m1]) nMd
    have vv:=(v1.trans v2).trans v3
    have hm0:=v3 _ _ (v2 _ _ (ja (H:=H2) (a:=m0) (o:=.lst [.int 10,.int 5])))
    have hm1:=v3 _ _ (ja (H:=upd H2 m0 (.lst [.int 10,.int 5])) (a:=m1) (o:=.lst [.int 20,.int 0,.int 7]))
    have hMd:=ja (H:=upd (upd H2 m0 (.lst [.int 10,.int 5])) m1 (.lst [.int 20,.int 0,.int 7])) (a:=Md) (o:=.lst [.ref m0,.ref m1])
    have hT3:=hT2.same vv
    have hb0':=vv _ _ hb0
    have hb1':=vv _ _ hb1
    have hBg':=vv _ _ hBg
    have fm0:=hT2.fresh nm0
    have fm1:=(hT2.same v1).fresh nm1
    have fMd:=((hT2.same v1).same v2).fresh nMd
    have b0m:b0 ≠ m0 ∧ b0 ≠ m1:=⟨jh hb0 nm0,jh (v1 _ _ hb0) nm1⟩
    have b1m:b1 ≠ m0 ∧ b1 ≠ m1:=⟨jh hb1 nm0,jh (v1 _ _ hb1) nm1⟩
    have Bgm:Bg ≠ m0 ∧ Bg ≠ m1:=⟨jh hBg nm0,jh (v1 _ _ hBg) nm1⟩
    have m01:m0 ≠ m1:=jh ja nm1
    have Mdm:Md ≠ m0 ∧ Md ≠ m1:=⟨(jh (v2 _ _ ja) nMd).symm,(jh ja nMd).symm⟩
    show tSeq _ _ _ _ (upd (upd (upd H2 m0 (.lst [.int 10,.int 5])) m1 (.lst [.int 20,.int 0,.int 7])) Md (.lst [.ref m0,.ref m1]))
    generalize upd (upd (upd H2 m0 (.lst [.int 10,.int 5])) m1 (.lst [.int 20,.int 0,.int 7])) Md (.lst [.ref m0,.ref m1]) = H3 at hm0 hm1 hMd hT3 hb0' hb1' hBg'
    have hTR:To ≠ R:=hT3.ne
    obtain ⟨ρ0,hρ0⟩ : ∃ ρ0:Rho,ρ0 = zm (zm (zm (zm (fun _=>none) m1 (9,.own 7)) m0 (9,.own 6)) R (9,.own 1)) To (9,.own 0):=⟨_,rfl⟩
    have kr3:OkR ρ0 H3:=by
      obtain ⟨row,c,t1,t2,_⟩:=hT3
      rw [hρ0]
      exact OkR.zm (OkR.zm (OkR.zm (OkR.zm (fun _ _ z=>by cases z) hm1 True.intro) hm0 True.intro) t2 True.intro) t1 True.intro
    have tr3:TownR ρ0 To R:=by rw [hρ0]; exact ⟨j3,by rw [qf hTR.symm,j3]⟩
    have rm0 : ρ0 m0 = some (9,.own 6):=by rw [hρ0,qf fm0.1,qf fm0.2,j3]
    have rm1 : ρ0 m1 = some (9,.own 7):=by rw [hρ0,qf fm1.1,qf fm1.2,qf m01.symm,j3]
    have un3 : ∀ {q:Addr},q ≠ To → q ≠ R → q ≠ m0 → q ≠ m1 → ρ0 q = none:=fun h1 h2 h3 h4=>by rw [hρ0,qf h1,qf h2,qf h3,qf h4]
    have Ub0:Un H3 ρ0 b0 ([10,5].map V.int):=⟨hb0',un3 fb0.1 fb0.2 b0m.1 b0m.2⟩
    have Ub1:Un H3 ρ0 b1 ([20,0,7].map V.int):=⟨hb1',un3 fb1.1 fb1.2 b1m.1 b1m.2⟩
    have UBg:Un H3 ρ0 Bg [.ref b0,.ref b1]:=⟨hBg',un3 fBg.1 fBg.2 Bgm.1 Bgm.2⟩
    have UMd:Un H3 ρ0 Md [.ref m0,.ref m1]:=⟨hMd,un3 fMd.1 fMd.2 Mdm.1 Mdm.2⟩
    have no9 : ∀ {i:Nat} {q:Part},i ≠ 9 → ∀ r,some ((9,q) : Role) = some r → ¬ r.1 = i:=fun hi r e z=>by
      cases e
      exact hi z.symm
    clear hρ0 un3 hBg' hb0' hb1' hMd fb0 fb1 fBg fm0 fm1 fMd b0m b1m Bgm m01 Mdm hTR u1 u2 u3 v1 v2 v3 vv hT hT2 hb0 hb1 hBg nm0 nm1 nMd nb0 nb1 nBg s1 nT nR
    have tup0:=T.bk0_World___init__.choose_spec.2
    have tup1:=T.bk1_World___init__.choose_spec.choose_spec.2
    refine ⟨_,rfl,Md,_,0,.ref m0,rfl,rfl,SqL.of UMd.1,rfl,zs1,fun Ct nCt=>fun x0 dx0 nx0 ndx0 ne0=>?_⟩
    have w1:=ji (o:=.lst [.int 1]) nCt
    have rCt:=kr3.none nCt
    obtain ⟨g1,kr5⟩:=mk_same (C:=t.jv) (r:=(0,.x)) nx0 ndx0 ne0 (kr3.same w1)
    have g0:Fr (fun _=>False) ρ0 H3 (zm ρ0 x0 (0,.x)) _:=(Fr.same w1).trans g1
    obtain ⟨hm0a,rm0a⟩:=zi g0 hm0 rm0 (fun z=>z)
    obtain ⟨hCta,rCta⟩:=fr_un g1 (ja (H:=H3) (a:=Ct) (o:=.lst [.int 1])) rCt
    refine ⟨zm ρ0 x0 (0,.x),0,x0,dx0,4,1,m0,[10,5],_,Ct,[1],rfl,ja,j3,kr5,by decide,by decide,by decide,hm0a,(by rw [rm0a]; exact no9 (by decide)),by decide,by decide,by decide,empty_tup tup0,.inl ⟨hCta,by rw [rCta]; intro r z; cases z⟩,by decide,by decide,fun ρ1 H6 A0 eA0 O6 f6 kr6=>⟨rfl,?_⟩⟩
    have F6:Fr (allI 0) ρ0 H3 ρ1 H6:=(g0.mono fun _ z=>z.elim).trans f6
    have n0 : ∀ {i:Nat} {q:Part},i ≠ 0 → ¬ allI 0 (i,q):=fun hi z=>hi z
    obtain ⟨hT6,tr6⟩:=town_fr F6 (n0 (by decide)) (n0 (by decide)) hT3 tr3
    obtain ⟨hm06,rm06⟩:=zi F6 hm0 rm0 (n0 (by decide))
    obtain ⟨hm16,rm16⟩:=zi F6 hm1 rm1 (n0 (by decide))
    have Ub06:=Ub0.fr F6
    have Ub16:=Ub1.fr F6
    have UBg6:=UBg.fr F6
    have UMd6:=UMd.fr F6
    clear hT3 tr3 hm0 hm1 rm0 rm1 Ub0 Ub1 UBg UMd g0 g1 kr5 kr3 F6 f6 hm0a rm0a hCta rCta rCt nCt nx0 ndx0 ne0 w1
    refine ⟨_,rfl,Md,_,1,.ref m1,rfl,rfl,SqL.of UMd6.1,rfl,fun x1 dx1 nx1 ndx1 ne1=>?_⟩
    obtain ⟨g1,kr7⟩:=mk_same (C:=t.jv) (r:=(1,.x)) nx1 ndx1 ne1 kr6
    obtain ⟨hm1a,rm1a⟩:=zi g1 hm16 rm16 (fun z=>z)
    refine ⟨zm ρ1 x1 (1,.x),1,x1,dx1,1,0,m1,[20,0,7],_,_,[],rfl,ja,j3,kr7,by decide,by decide,by decide,hm1a,(by rw [rm1a]; exact no9 (by decide)),by decide,by decide,by decide,empty_tup tup1.1,empty_tup tup1.2,.nil,(fun _ z=>by cases z),fun ρ2 H8 A1 eA1 O8 f8 kr8=>⟨rfl,?_⟩⟩
    have F8:Fr (allI 1) ρ1 H6 ρ2 H8:=(g1.mono fun _ z=>z.elim).trans f8
    have n1 : ∀ {i:Nat} {q:Part},i ≠ 1 → ¬ allI 1 (i,q):=fun hi z=>hi z
    obtain ⟨hT8,tr8⟩:=town_fr F8 (n1 (by decide)) (n1 (by decide)) hT6 tr6
    obtain ⟨hm08,rm08⟩:=zi F8 hm06 rm06 (n1 (by decide))
    obtain ⟨hm18,rm18⟩:=zi F8 hm16 rm16 (n1 (by decide))
    have Ub08:=Ub06.fr F8
    have Ub18:=Ub16.fr F8
    have UBg8:=UBg6.fr F8
    have UMd8:=UMd6.fr F8
    have P08:=O6.fr (fun q=>n1 (by decide)) F8
    clear hT6 tr6 hm06 rm06 hm16 rm16 Ub06 Ub16 UBg6 UMd6 g1 kr7 kr6 F8 f8 O6 hm1a rm1a nx1 ndx1 ne1
    refine ⟨zs2,fun Tw nTw=>?_⟩
    have w2:=ji (o:=.lst [.ref x0,.ref x1]) nTw
    have F9:Fr (fun _=>False) ρ2 H8 ρ2 (upd H8 Tw (.lst [.ref x0,.ref x1])):=Fr.same w2
    have UTw:Un (upd H8 Tw (.lst [.ref x0,.ref x1])) ρ2 Tw [.ref x0,.ref x1]:=⟨ja,kr8.none nTw⟩
    have kr9:=kr8.same w2
    obtain ⟨hT9,tr9⟩:=town_fr F9 (fun z=>z) (fun z=>z) hT8 tr8
    obtain ⟨hm09,rm09⟩:=zi F9 hm08 rm08 (fun z=>z)
    obtain ⟨hm19,rm19⟩:=zi F9 hm18 rm18 (fun z=>z)
    have Ub09:=Ub08.fr F9
    have Ub19:=Ub18.fr F9
    have UBg9:=UBg8.fr F9
    have UMd9:=UMd8.fr F9
    have P09:=P08.fr (fun _ z=>z) F9
    have P19:=O8.fr (fun _ z=>z) F9
    dsimp only
    generalize upd H8 Tw (.lst [.ref x0,.ref x1]) = H9 at UTw kr9 hT9 tr9 hm09 rm09 hm19 rm19 Ub09 Ub19 UBg9 UMd9 P09 P19
    clear F9 hT8 tr8 hm08 rm08 hm18 rm18 Ub08 Ub18 UBg8 UMd8 P08 O8 kr8 w2 nTw
    refine ⟨_,rfl,Md,_,0,.ref m0,rfl,rfl,SqL.of UMd9.1,rfl,m0,_,0,0,rfl,rfl,hm09,rfl,?_⟩
    have q1:Fr (isP 9 (.own 6)) ρ2 H9 ρ2 (upd H9 m0 (.lst [.int 999,.int 5])):=Fr.put rm09 rfl
    have n9 : ∀ {j i:Nat} {q:Part},i ≠ 9 → ¬ isP 9 (.own j) (i,q):=fun hi z=>hi (Prod.mk.inj z).1
    have pr9:Pr t H9 ρ2 To R Bg b0 b1 Tw x0 x1 A0 A1:=⟨kr9,hT9,tr9,UBg9,Ub09,Ub19,UTw,P09,P19⟩
    have prA:=pr9.fr q1 kr9.put (jo (by intro z; cases z)) (jo (by intro z; cases z)) (fun q=>n9 (by decide)) (fun q=>n9 (by decide))
    have UMdA:=UMd9.fr q1
    obtain ⟨hm1A,rm1A⟩:=zi q1 hm19 rm19 (jo (by intro z; cases z))
    show tSeq _ _ _ _ (upd H9 m0 (.lst [.int 999,.int 5]))
    generalize upd H9 m0 (.lst [.int 999,.int 5]) = HA at prA UMdA hm1A
    clear q1 pr9 kr9 hT9 tr9 UBg9 Ub09 Ub19 UTw P09 P19 UMd9 hm09 rm09 hm19 rm19
    refine ⟨_,rfl,Md,_,1,.ref m1,rfl,rfl,SqL.of UMdA.1,rfl,.inl ⟨rfl,_,SqL.of hm1A⟩,m1,_,.int 5,rfl,rfl,hm1A,(by show 3 < sizeLine; decide),?_⟩
    have q2:Fr (isP 9 (.own 7)) ρ2 HA ρ2 (upd HA m1 (.lst ([.int 20,.int 0,.int 7] ++ [.int 5]))):=Fr.put rm1A rfl
    have prB:=prA.fr q2 prA.kr.put (jo (by intro z; cases z)) (jo (by intro z; cases z)) (fun q=>n9 (by decide)) (fun q=>n9 (by decide))
    show tSeq _ _ _ _ (upd HA m1 (.lst ([.int 20,.int 0,.int 7] ++ [.int 5])))
    generalize upd HA m1 (.lst ([.int 20,.int 0,.int 7] ++ [.int 5])) = HB at prB
    clear q2 prA UMdA hm1A rm1A
    refine ⟨zs0,fun D0 nD0=>⟨zs0,fun D1 nD1=>⟨zs2,fun De nDe=>?_⟩⟩⟩
    have c1:Fr (fun _=>False) ρ2 HB (zm ρ2 D0 (9,.own 2)) (upd HB D0 (.lst [])):=Fr.newR nD0
    have k1:OkR (zm ρ2 D0 (9,.own 2)) (upd HB D0 (.lst [])):=prB.kr.newR
    have c2:Fr (fun _=>False) (zm ρ2 D0 (9,.own 2)) (upd HB D0 (.lst [])) (zm (zm ρ2 D0 (9,.own 2)) D1 (9,.own 3)) (upd (upd HB D0 (.lst [])) D1 (.lst [])):=Fr.newR nD1
    have k2:OkR (zm (zm ρ2 D0 (9,.own 2)) D1 (9,.own 3)) (upd (upd HB D0 (.lst [])) D1 (.lst [])):=k1.newR
    have d0:=zi c2 (ja (H:=HB) (a:=D0) (o:=.lst [])) j3 (fun z=>z)
    have d1:upd (upd HB D0 (.lst [])) D1 (.lst []) D1 = some (.lst []) ∧ zm (zm ρ2 D0 (9,.own 2)) D1 (9,.own 3) D1 = some (9,.own 3):=⟨ja,j3⟩
    have c12:=c1.trans c2
    have prC:=prB.fr c12 k2 (fun z=>z) (fun z=>z) (fun _ z=>z) (fun _ z=>z)
    generalize zm (zm ρ2 D0 (9,.own 2)) D1 (9,.own 3) = ρ3 at k2 d0 d1 prC c12 c2
    have s3:=ji (o:=.lst [.ref D0,.ref D1]) nDe
    have c3:Fr (fun _=>False) ρ3 (upd (upd HB D0 (.lst [])) D1 (.lst [])) ρ3 (upd (upd (upd HB D0 (.lst [])) D1 (.lst [])) De (.lst [.ref D0,.ref D1])):=Fr.same s3
    have UDe:Un (upd (upd (upd HB D0 (.lst [])) D1 (.lst [])) De (.lst [.ref D0,.ref D1])) ρ3 De [.ref D0,.ref D1]:=⟨ja,k2.none nDe⟩
    have d0':=zi c3 d0.1 d0.2 (fun z=>z)
    have d1':=zi c3 d1.1 d1.2 (fun z=>z)
    have prD:=prC.fr c3 (k2.same s3) (fun z=>z) (fun z=>z) (fun _ z=>z) (fun _ z=>z)
    show tSeq _ _ _ _ (upd (upd (upd HB D0 (.lst [])) D1 (.lst [])) De (.lst [.ref D0,.ref D1]))
    generalize upd (upd (upd HB D0 (.lst [])) D1 (.lst [])) De (.lst [.ref D0,.ref D1]) = HC at UDe d0' d1' prD
    clear c1 k1 c2 k2 d0 d1 c12 prC c3 s3 prB nD0 nD1 nDe
    refine ⟨zs0,fun E0' nE0=>⟨zs0,fun E1' nE1=>⟨zs2,fun Te nTe=>?_⟩⟩⟩
    have c1:Fr (fun _=>False) ρ3 HC (zm ρ3 E0' (9,.own 4)) (upd HC E0' (.lst [])):=Fr.newR nE0
    have k1:OkR (zm ρ3 E0' (9,.own 4)) (upd HC E0' (.lst [])):=prD.kr.newR
    have c2:Fr (fun _=>False) (zm ρ3 E0' (9,.own 4)) (upd HC E0' (.lst [])) (zm (zm ρ3 E0' (9,.own 4)) E1' (9,.own 5)) (upd (upd HC E0' (.lst [])) E1' (.lst [])):=Fr.newR nE1
    have k2:OkR (zm (zm ρ3 E0' (9,.own 4)) E1' (9,.own 5)) (upd (upd HC E0' (.lst [])) E1' (.lst [])):=k1.newR
    have e0:=zi c2 (ja (H:=HC) (a:=E0') (o:=.lst [])) j3 (fun z=>z)
    have e1:upd (upd HC E0' (.lst [])) E1' (.lst []) E1' = some (.lst []) ∧ zm (zm ρ3 E0' (9,.own 4)) E1' (9,.own 5) E1' = some (9,.own 5):=⟨ja,j3⟩
    have c12:=c1.trans c2
    have prE:=prD.fr c12 k2 (fun z=>z) (fun z=>z) (fun _ z=>z) (fun _ z=>z)
    have UDe':=UDe.fr c12
    have d0'':=zi c12 d0'.1 d0'.2 (fun z=>z)
    have d1'':=zi c12 d1'.1 d1'.2 (fun z=>z)
    generalize zm (zm ρ3 E0' (9,.own 4)) E1' (9,.own 5) = ρ4 at k2 e0 e1 prE UDe' d0'' d1'' c12 c2
    have s3:=ji (o:=.lst [.ref E0',.ref E1']) nTe
    have c3:Fr (fun _=>False) ρ4 (upd (upd HC E0' (.lst [])) E1' (.lst [])) ρ4 (upd (upd (upd HC E0' (.lst [])) E1' (.lst [])) Te (.lst [.ref E0',.ref E1'])):=Fr.same s3
    have UTe:Un (upd (upd (upd HC E0' (.lst [])) E1' (.lst [])) Te (.lst [.ref E0',.ref E1'])) ρ4 Te [.ref E0',.ref E1']:=⟨ja,k2.none nTe⟩
    have e0':=zi c3 e0.1 e0.2 (fun z=>z)
    have e1':=zi c3 e1.1 e1.2 (fun z=>z)
    have D0f:=zi c3 d0''.1 d0''.2 (fun z=>z)
    have D1f:=zi c3 d1''.1 d1''.2 (fun z=>z)
    have UDf:=UDe'.fr c3
    have prF:=prE.fr c3 (k2.same s3) (fun z=>z) (fun z=>z) (fun _ z=>z) (fun _ z=>z)
    show tSeq _ _ _ _ (upd (upd (upd HC E0' (.lst [])) E1' (.lst [])) Te (.lst [.ref E0',.ref E1']))
    generalize upd (upd (upd HC E0' (.lst [])) E1' (.lst [])) Te (.lst [.ref E0',.ref E1']) = HD at UTe e0' e1' D0f D1f UDf prF
    clear c1 k1 c2 k2 e0 e1 c12 prE c3 s3 prD nE0 nE1 nTe UDe UDe' d0' d1' d0'' d1''
    obtain ⟨l,hl⟩ : ∃ l:Ls,l = ⟨To,R,Bg,b0,b1,Tw,De,Te,D0,D1,E0',E1',x0,x1⟩:=⟨_,rfl⟩
    have B0:Bs HD ρ4 l:=by rw [hl]; exact ⟨prF.kr,prF.tn,prF.tr,prF.bg,prF.b0,prF.b1,prF.tw,UDf,UTe⟩
    have S00:Side K t HD ρ4 0 A0 W0 [] l.D0 l.E0:=by rw [hl]; exact ⟨prF.p0,⟨[],w0_in (by decide) (by decide) (by decide)⟩,(fun _ _ z=>by cases z),⟨D0f.2,[],D0f.1,.nil⟩,⟨e0'.2,[],e0'.1,by show j6 K HD ρ4 [] []; rw [j6],rfl⟩⟩
    have S10:Side K t HD ρ4 1 A1 W1 [] l.D1 l.E1:=by rw [hl]; exact ⟨prF.p1,⟨[],w0_in (by decide) (by decide) (by decide)⟩,(fun _ _ z=>by cases z),⟨D1f.2,[],D1f.1,.nil⟩,⟨e1'.2,[],e1'.1,by show j6 K HD ρ4 [] []; rw [j6],rfl⟩⟩
    have eA0':A0.x = l.x0:=by rw [hl]; exact eA0
    have eA1':A1.x = l.x1:=by rw [hl]; exact eA1
    have hσ : ([some (V.ref a),some (.ref To),some (.ref Bg),some (.ref Md),some (.ref Tw),some (.ref De),some (.ref Te),none,none,none,none] : St) = [some (.ref a),some (.ref l.To),some (.ref l.Bg),some (.ref Md),some (.ref l.Tw),some (.ref l.De),some (.ref l.Te),none,none,none,none]:=by rw [hl]
    clear prF UTe UDf D0f D1f e0' e1' eA0 eA1
    have eA0:=eA0'
    have eA1:=eA1'
    refine ⟨40,rfl,by decide,by decide,for_range (lo:=0) (n:=(40:Int).toNat) (fun i σ H'=>∃ v7 v8 v9 ρ ds0 ds1,σ = [some (.ref a),some (.ref l.To),some (.ref l.Bg),some (.ref Md),some (.ref l.Tw),some (.ref l.De),some (.ref l.Te),v7,v8,v9,none] ∧ Bs H' ρ l ∧ Side K t H' ρ 0 A0 W0 ds0 l.D0 l.E0 ∧ Side K t H' ρ 1 A1 W1 ds1 l.D1 l.E1 ∧ ds0.length + ds1.length ≤ i) ⟨none,none,none,ρ4,[],[],hσ,B0,S00,S10,Nat.le_refl _⟩ ?_ ?_⟩
    · rintro i σ HE hi ⟨v7,v8,v9,ρ,ds0,ds1,rfl,B,S0,S1,lds⟩
      have hi':i < 40:=hi
      refine ⟨_,rfl,l.To,l.R,2,rfl,B.tn,by decide,by decide,fun kk H1' kk0 kk1 hT1 kt1=>?_⟩
      have f1:=draw_fr B.tr kt1
      have kr1:=draw_kr B.kr hT1 kt1
      have B1:=B.draw f1 kr1 hT1
      have S0':=S0.fr f1 (tn_no (by decide)) (tn_own (by decide)) (tn_own (by decide))
      have S1':=S1.fr f1 (tn_no (by decide)) (tn_own (by decide)) (tn_own (by decide))
      clear S0 S1 B
      have S0:=S0'
      have S1:=S1'
      clear S0' S1'
      rcases (by omega:kk = 0 ∨ kk = 1) with rfl | rfl
      · obtain ⟨L0,in0⟩:=S0.i
        obtain ⟨fx1,fx2,fx3⟩:=run_fix W0 ds0
        refine ⟨_,rfl,_,rfl,_,rfl,l.Tw,_,0,.ref l.x0,rfl,rfl,SqL.of B1.tw.1,rfl,_,rfl,_,rfl,l.Bg,_,0,.ref l.b0,rfl,rfl,SqL.of B1.bg.1,rfl,l.b0,_,rfl,.inl (SqL.of B1.b0.1),_,rfl,rfl,_,rfl,iteT ?_⟩
        refine ⟨ρ,0,A0,run W0 ds0,ds0.length,L0,l.To,l.R,1,by rw [fx1,eA0]; rfl,S0.o,B1.kr,in0,by omega,by decide,B1.tn,B1.tr,by rw [fx1]; decide,by rw [fx1,fx2]; exact cheat0,by rw [fx3]; decide,fun H2 x d hT2 f2 kr2 ud can=>?_⟩
        have B2:=B1.draw f2 kr2 hT2
        have T0:=S1.fr f2 (tn_no (by decide)) (tn_own (by decide)) (tn_own (by decide))
        have T1:=S0.fr f2 (tn_no (by decide)) (tn_own (by decide)) (tn_own (by decide))
        obtain ⟨rD,xs,hD,pD⟩:=T1.d
        have lD:xs.length = ds0.length:=Paired.length pD
        refine ⟨_,rfl,_,rfl,l.De,_,0,.ref l.D0,rfl,rfl,SqL.of B2.de.1,rfl,.inl ⟨rfl,_,SqL.of hD⟩,_,rfl,l.D0,xs,x,rfl,rfl,hD,big (by omega),?_⟩
        have f3:Fr (isP 9 (.own 2)) ρ H2 ρ (upd H2 l.D0 (.lst (xs ++ [x]))):=Fr.put rD rfl
        have kr3:=B2.kr.put (a:=l.D0) (o:=.lst (xs ++ [x]))
        have B3:=B2.fr f3 kr3 (jo (by intro z; cases z)) (jo (by intro z; cases z))
        have n3 : ∀ (i:Nat) (q:Part),i ≠ 9 → ¬ isP 9 (.own 2) (i,q):=fun i q hi z=>hi (Prod.mk.inj z).1
        have T03:=T0.fr f3 (fun q=>n3 1 q (by decide)) (jo (by intro z; cases z)) (jo (by intro z; cases z))
        have O3:=T1.o.fr (fun q=>n3 0 q (by decide)) f3
        obtain ⟨rE,ys,hE,pE,lE⟩:=T1.e
        obtain ⟨hE3,rE3⟩:=zi f3 hE rE (jo (by intro z; cases z))
        have pE3:=pE.fr f3
        have ud3:=ud.fr f3
        have D3 : ρ l.D0 = some (9,.own 2) ∧ ∃ zs,upd H2 l.D0 (.lst (xs ++ [x])) l.D0 = some (.lst zs) ∧ Paired (DeedU (upd H2 l.D0 (.lst (xs ++ [x]))) ρ) zs (ds0 ++ [d]):=⟨rD,_,ja,qx (Paired.mapP pD fun _ _=>DeedU.fr f3) ud3⟩
        dsimp only
        generalize upd H2 l.D0 (.lst (xs ++ [x])) = H3 at f3 kr3 B3 T03 O3 hE3 pE3 ud3 D3
        obtain ⟨L'0,in'0⟩:=in0.does (by omega) can
        refine ⟨_,rfl,_,rfl,l.Te,_,0,.ref l.E0,rfl,rfl,SqL.of B3.te.1,rfl,.inl ⟨rfl,_,SqL.of hE3⟩,_,rfl,_,rfl,l.Tw,_,0,.ref l.x0,rfl,rfl,SqL.of B3.tw.1,rfl,_,rfl,ρ,0,A0,run W0 ds0,ds0.length,L0,x,d,true,by rw [eA0]; rfl,O3,B3.kr,in0,by omega,ud3,can,fun ρ4 H4 y O4 f4 kr4 hy=>?_⟩
        have n4 : ∀ (i:Nat) (q:Part),i ≠ 0 → ¬ allI 0 (i,q):=fun i q hi z=>hi z
        have B4:=B3.fr f4 kr4 (n4 9 _ (by decide)) (n4 9 _ (by decide))
        have T04:=T03.fr f4 (fun q=>n4 1 q (by decide)) (n4 9 _ (by decide)) (n4 9 _ (by decide))
        obtain ⟨hE4,rE4⟩:=zi f4 hE3 rE3 (n4 9 _ (by decide))
        have pE4:=pE3.fr f4
        obtain ⟨rD3,xs3,hD3,pD3⟩:=D3
        obtain ⟨hD4,rD4⟩:=zi f4 hD3 rD3 (n4 9 _ (by decide))
        have pD4:Paired (DeedU H4 ρ4) xs3 (ds0 ++ [d]):=Paired.mapP pD3 fun _ _=>DeedU.fr f4
        refine ⟨l.E0,ys,y,rfl,rfl,hE4,big (by omega),?_⟩
        have f5:Fr (isP 9 (.own 4)) ρ4 H4 ρ4 (upd H4 l.E0 (.lst (ys ++ [y]))):=Fr.put rE4 rfl
        have kr5:=kr4.put (a:=l.E0) (o:=.lst (ys ++ [y]))
        have n5 : ∀ (i:Nat) (q:Part),i ≠ 9 → ¬ isP 9 (.own 4) (i,q):=fun i q hi z=>hi (Prod.mk.inj z).1
        have B5:=B4.fr f5 kr5 (jo (by intro z; cases z)) (jo (by intro z; cases z))
        have T05:=T04.fr f5 (fun q=>n5 1 q (by decide)) (jo (by intro z; cases z)) (jo (by intro z; cases z))
        obtain ⟨hD5,rD5⟩:=zi f5 hD4 rD4 (jo (by intro z; cases z))
        have T15:Side K t (upd H4 l.E0 (.lst (ys ++ [y]))) ρ4 0 A0 W0 (ds0 ++ [d]) l.D0 l.E0:=by
          refine ⟨?_,⟨L'0,?_⟩,S0.can.snoc can,⟨rD5,xs3,hD5,Paired.mapP pD4 fun _ _=>DeedU.fr f5⟩,⟨rE4,_,ja,?_,?_⟩⟩
          · rw [run_snoc]
            exact O4.fr (fun q=>n5 0 q (by decide)) f5
          · rw [run_snoc,List.length_append]
            exact in'0
          · rw [tells_snoc]
            exact j6.snoc (pE4.fr f5) (hy.fr f5)
          · rw [List.length_append,List.length_append,lE]
            rfl
        exact ⟨_,_,_,ρ4,ds0 ++ [d],ds1,rfl,B5,T15,T05,by rw [List.length_append]; show ds0.length + 1 + ds1.length ≤ i + 1; omega⟩
      · obtain ⟨L1,in1⟩:=S1.i
        obtain ⟨fx1,fx2,fx3⟩:=run_fix W1 ds1
        refine ⟨_,rfl,_,rfl,_,rfl,l.Tw,_,1,.ref l.x1,rfl,rfl,SqL.of B1.tw.1,rfl,_,rfl,_,rfl,l.Bg,_,1,.ref l.b1,rfl,rfl,SqL.of B1.bg.1,rfl,l.b1,_,rfl,.inl (SqL.of B1.b1.1),_,rfl,rfl,_,rfl,iteF ?_⟩
        refine ⟨ρ,1,A1,run W1 ds1,ds1.length,L1,l.To,l.R,9,by rw [fx1,eA1]; rfl,S1.o,B1.kr,in1,by omega,by decide,B1.tn,B1.tr,by rw [fx1]; decide,by rw [fx1,fx2]; exact cheat1,by rw [fx3]; decide,fun H2 x d hT2 f2 kr2 ud can=>?_⟩
        have B2:=B1.draw f2 kr2 hT2
        have T0:=S0.fr f2 (tn_no (by decide)) (tn_own (by decide)) (tn_own (by decide))
        have T1:=S1.fr f2 (tn_no (by decide)) (tn_own (by decide)) (tn_own (by decide))
        obtain ⟨rD,xs,hD,pD⟩:=T1.d
        have lD:xs.length = ds1.length:=Paired.length pD
        refine ⟨_,rfl,_,rfl,l.De,_,1,.ref l.D1,rfl,rfl,SqL.of B2.de.1,rfl,.inl ⟨rfl,_,SqL.of hD⟩,_,rfl,l.D1,xs,x,rfl,rfl,hD,big (by omega),?_⟩
        have f3:Fr (isP 9 (.own 3)) ρ H2 ρ (upd H2 l.D1 (.lst (xs ++ [x]))):=Fr.put rD rfl
        have kr3:=B2.kr.put (a:=l.D1) (o:=.lst (xs ++ [x]))
        have B3:=B2.fr f3 kr3 (jo (by intro z; cases z)) (jo (by intro z; cases z))
        have n3 : ∀ (i:Nat) (q:Part),i ≠ 9 → ¬ isP 9 (.own 3) (i,q):=fun i q hi z=>hi (Prod.mk.inj z).1
        have T03:=T0.fr f3 (fun q=>n3 0 q (by decide)) (jo (by intro z; cases z)) (jo (by intro z; cases z))
        have O3:=T1.o.fr (fun q=>n3 1 q (by decide)) f3
        obtain ⟨rE,ys,hE,pE,lE⟩:=T1.e
        obtain ⟨hE3,rE3⟩:=zi f3 hE rE (jo (by intro z; cases z))
        have pE3:=pE.fr f3
        have ud3:=ud.fr f3
        have D3 : ρ l.D1 = some (9,.own 3) ∧ ∃ zs,upd H2 l.D1 (.lst (xs ++ [x])) l.D1 = some (.lst zs) ∧ Paired (DeedU (upd H2 l.D1 (.lst (xs ++ [x]))) ρ) zs (ds1 ++ [d]):=⟨rD,_,ja,qx (Paired.mapP pD fun _ _=>DeedU.fr f3) ud3⟩
        dsimp only
        generalize upd H2 l.D1 (.lst (xs ++ [x])) = H3 at f3 kr3 B3 T03 O3 hE3 pE3 ud3 D3
        obtain ⟨L'1,in'1⟩:=in1.does (by omega) can
        refine ⟨_,rfl,_,rfl,l.Te,_,1,.ref l.E1,rfl,rfl,SqL.of B3.te.1,rfl,.inl ⟨rfl,_,SqL.of hE3⟩,_,rfl,_,rfl,l.Tw,_,1,.ref l.x1,rfl,rfl,SqL.of B3.tw.1,rfl,_,rfl,ρ,1,A1,run W1 ds1,ds1.length,L1,x,d,true,by rw [eA1]; rfl,O3,B3.kr,in1,by omega,ud3,can,fun ρ4 H4 y O4 f4 kr4 hy=>?_⟩
        have n4 : ∀ (i:Nat) (q:Part),i ≠ 1 → ¬ allI 1 (i,q):=fun i q hi z=>hi z
        have B4:=B3.fr f4 kr4 (n4 9 _ (by decide)) (n4 9 _ (by decide))
        have T04:=T03.fr f4 (fun q=>n4 0 q (by decide)) (n4 9 _ (by decide)) (n4 9 _ (by decide))
        obtain ⟨hE4,rE4⟩:=zi f4 hE3 rE3 (n4 9 _ (by decide))
        have pE4:=pE3.fr f4
        obtain ⟨rD3,xs3,hD3,pD3⟩:=D3
        obtain ⟨hD4,rD4⟩:=zi f4 hD3 rD3 (n4 9 _ (by decide))
        have pD4:Paired (DeedU H4 ρ4) xs3 (ds1 ++ [d]):=Paired.mapP pD3 fun _ _=>DeedU.fr f4
        refine ⟨l.E1,ys,y,rfl,rfl,hE4,big (by omega),?_⟩
        have f5:Fr (isP 9 (.own 5)) ρ4 H4 ρ4 (upd H4 l.E1 (.lst (ys ++ [y]))):=Fr.put rE4 rfl
        have kr5:=kr4.put (a:=l.E1) (o:=.lst (ys ++ [y]))
        have n5 : ∀ (i:Nat) (q:Part),i ≠ 9 → ¬ isP 9 (.own 5) (i,q):=fun i q hi z=>hi (Prod.mk.inj z).1
        have B5:=B4.fr f5 kr5 (jo (by intro z; cases z)) (jo (by intro z; cases z))
        have T05:=T04.fr f5 (fun q=>n5 0 q (by decide)) (jo (by intro z; cases z)) (jo (by intro z; cases z))
        obtain ⟨hD5,rD5⟩:=zi f5 hD4 rD4 (jo (by intro z; cases z))
        have T15:Side K t (upd H4 l.E1 (.lst (ys ++ [y]))) ρ4 1 A1 W1 (ds1 ++ [d]) l.D1 l.E1:=by
          refine ⟨?_,⟨L'1,?_⟩,S1.can.snoc can,⟨rD5,xs3,hD5,Paired.mapP pD4 fun _ _=>DeedU.fr f5⟩,⟨rE4,_,ja,?_,?_⟩⟩
          · rw [run_snoc]
            exact O4.fr (fun q=>n5 1 q (by decide)) f5
          · rw [run_snoc,List.length_append]
            exact in'1
          · rw [tells_snoc]
            exact j6.snoc (pE4.fr f5) (hy.fr f5)
          · rw [List.length_append,List.length_append,lE]
            rfl
        exact ⟨_,_,_,ρ4,ds0,ds1 ++ [d],rfl,B5,T05,T15,by rw [List.length_append]; show ds0.length + (ds1.length + 1) ≤ i + 1; omega⟩
    · rintro σ HE ⟨v7,v8,v9,ρ,ds0,ds1,rfl,B,S0,S1,lds⟩
      have lds':ds0.length + ds1.length ≤ 40:=lds
      refine ⟨_,rfl,l.Bg,_,0,.ref l.b0,rfl,rfl,SqL.of B.bg.1,rfl,zs1,fun Ct nCt=>fun x2 dx2 nx2 ndx2 ne2=>?_⟩
      have w1:=ji (o:=.lst [.int 1]) nCt
      have rCt:=B.kr.none nCt
      obtain ⟨g1,kr5⟩:=mk_same (C:=t.jv) (r:=(2,.x)) nx2 ndx2 ne2 (B.kr.same w1)
      have g0:Fr (fun _=>False) ρ HE (zm ρ x2 (2,.x)) _:=(Fr.same w1).trans g1
      have hb0a:=B.b0.fr g0
      obtain ⟨hCta,rCta⟩:=fr_un g1 (ja (H:=HE) (a:=Ct) (o:=.lst [.int 1])) rCt
      refine ⟨zm ρ x2 (2,.x),2,x2,dx2,4,1,l.b0,[10,5],_,Ct,[1],rfl,ja,j3,kr5,by decide,by decide,by decide,hb0a.1,(by rw [hb0a.2]; intro r z; cases z),by decide,by decide,by decide,empty_tup tup0,.inl ⟨hCta,by rw [rCta]; intro r z; cases z⟩,by decide,by decide,fun ρa Ha A2 eA2 Oa fa kra=>⟨rfl,?_⟩⟩
      have Fa:Fr (allI 2) ρ HE ρa Ha:=(g0.mono fun _ z=>z.elim).trans fa
      have n2 : ∀ {i:Nat} {q:Part},i ≠ 2 → ¬ allI 2 (i,q):=fun hi z=>hi z
      have Ba:=B.fr Fa kra (n2 (by decide)) (n2 (by decide))
      have S0a:=S0.fr Fa (fun q=>n2 (by decide)) (n2 (by decide)) (n2 (by decide))
      have S1a:=S1.fr Fa (fun q=>n2 (by decide)) (n2 (by decide)) (n2 (by decide))
      clear B S0 S1 g0 g1 kr5 hb0a hCta rCta rCt w1 fa Fa nCt nx2 ndx2 ne2
      refine ⟨_,rfl,l.Bg,_,1,.ref l.b1,rfl,rfl,SqL.of Ba.bg.1,rfl,fun x3 dx3 nx3 ndx3 ne3=>?_⟩
      obtain ⟨g1,kr7⟩:=mk_same (C:=t.jv) (r:=(3,.x)) nx3 ndx3 ne3 Ba.kr
      have hb1a:=Ba.b1.fr g1
      refine ⟨zm ρa x3 (3,.x),3,x3,dx3,1,0,l.b1,[20,0,7],_,_,[],rfl,ja,j3,kr7,by decide,by decide,by decide,hb1a.1,(by rw [hb1a.2]; intro r z; cases z),by decide,by decide,by decide,empty_tup tup1.1,empty_tup tup1.2,.nil,(fun _ z=>by cases z),fun ρb Hb A3 eA3 Ob fb krb=>⟨rfl,?_⟩⟩
      have Fb:Fr (allI 3) ρa Ha ρb Hb:=(g1.mono fun _ z=>z.elim).trans fb
      have n3 : ∀ {i:Nat} {q:Part},i ≠ 3 → ¬ allI 3 (i,q):=fun hi z=>hi z
      have Bb:=Ba.fr Fb krb (n3 (by decide)) (n3 (by decide))
      have S0b:=S0a.fr Fb (fun q=>n3 (by decide)) (n3 (by decide)) (n3 (by decide))
      have S1b:=S1a.fr Fb (fun q=>n3 (by decide)) (n3 (by decide)) (n3 (by decide))
      have O2b:=Oa.fr (fun q=>n3 (by decide)) Fb
      clear Ba S0a S1a Oa g1 kr7 hb1a fb Fb nx3 ndx3 ne3
      refine ⟨zs2,fun Al nAl=>?_⟩
      have w2:=ji (o:=.lst [.ref x2,.ref x3]) nAl
      have UAl0:Un (upd Hb Al (.lst [.ref x2,.ref x3])) ρb Al [.ref x2,.ref x3]:=⟨ja,krb.none nAl⟩
      have Bc:=Bb.same w2
      have S0c:=S0b.same w2
      have S1c:=S1b.same w2
      have O2c:=O2b.same w2
      have O3c:=Ob.same w2
      show tSeq _ _ _ _ (upd Hb Al (.lst [.ref x2,.ref x3]))
      generalize upd Hb Al (.lst [.ref x2,.ref x3]) = Hc at UAl0 Bc S0c S1c O2c O3c
      refine ⟨2,rfl,by decide,by decide,for_range (lo:=0) (n:=(2:Int).toNat) (fun i σ H'=>∃ v7 v8 v9 ρ ds0 ds1,σ = [some (.ref a),some (.ref l.To),some (.ref l.Bg),some (.ref Md),some (.ref l.Tw),some (.ref l.De),some (.ref l.Te),v7,v8,v9,some (.ref Al)] ∧ Bs H' ρ l ∧ Side K t H' ρ 0 A0 W0 ds0 l.D0 l.E0 ∧ Side K t H' ρ 1 A1 W1 ds1 l.D1 l.E1 ∧ Un H' ρ Al [.ref x2,.ref x3] ∧ (i = 0 → jz t H' ρ 2 A2 W0) ∧ (i ≤ 1 → jz t H' ρ 3 A3 W1) ∧ ds0.length + ds1.length ≤ 40) ⟨v7,v8,v9,ρb,ds0,ds1,rfl,Bc,S0c,S1c,UAl0,fun _=>O2c,fun _=>O3c,lds'⟩ ?_ ?_⟩
      · rintro i σ HF hi ⟨v7,v8,v9,ρ,ds0,ds1,rfl,B,S0,S1,UAl,hw0,hw1,lds⟩
        have hi':i < 2:=hi
        rcases (by omega:i = 0 ∨ i = 1) with rfl | rfl
        · have O1:=hw0 (by decide)
          obtain ⟨rD,xs,hD,pD⟩:=S0.d
          obtain ⟨rE,ys,hE,pE,lE⟩:=S0.e
          have lx:xs.length = ds0.length:=Paired.length pD
          refine ⟨_,rfl,_,rfl,l.De,_,0,.ref l.D0,rfl,rfl,SqL.of B.de.1,rfl,l.D0,rfl,⟨_,SqL.of hD⟩,lc_list (K:=K) (a:=l.D0) (xs:=xs) (fun i' zs σ H'=>∃ v0 ρ',σ = [v0,some (.ref Al),some (.int 0)] ∧ Fr (allI 2) ρ HF ρ' H' ∧ OkR ρ' H' ∧ jz t H' ρ' 2 A2 (run W0 (ds0.take i')) ∧ (∃ L,(run W0 (ds0.take i')).In i' L) ∧ j6 K H' ρ' (tellsOf W0 (ds0.take i')) zs ∧ zs.length = i') ⟨none,ρ,rfl,Fr.refl,B.kr,O1,⟨[],w0_in (by decide) (by decide) (by decide)⟩,by show j6 K _ _ [] []; rw [j6],rfl⟩ ?_ ?_ ?_⟩
          · rintro i' zs σ H' hi' ⟨v0,ρ',rfl,f',kr',O',in',hz,lz⟩
            obtain ⟨hD',_⟩:=zi f' hD rD (fun z=>by cases z)
            exact ⟨SqL.of hD',bigL (by omega)⟩
          · rintro i' x zs σ H' ex ⟨v0,ρ',rfl,f',kr',O',⟨L',in'⟩,hz,lz⟩
            obtain ⟨d,ed,ud⟩:=ql pD ex
            have can:=S0.can i' d ed
            have lt:=(List.getElem?_eq_some_iff.mp ed).1
            have UAl':=UAl.fr f'
            dsimp only [gName,tYes]
            rw [if_pos rfl]
            refine ⟨_,rfl,_,rfl,Al,_,0,.ref x2,rfl,rfl,SqL.of UAl'.1,rfl,_,rfl,ρ',2,A2,run W0 (ds0.take i'),i',L',x,d,false,by rw [eA2]; rfl,O',kr',in',by omega,ud.fr f',can,fun ρ2 H2 y O2 f2 kr2 hy=>?_⟩
            obtain ⟨L2,in2⟩:=in'.does (by omega) can
            refine ⟨_,ρ2,rfl,f'.trans f2,kr2,?_,⟨L2,?_⟩,?_,by rw [List.length_append,lz]; rfl⟩
            · rw [take_snoc ed,run_snoc]
              exact O2
            · rw [take_snoc ed,run_snoc]
              exact in2
            · rw [tells_at W0 ed]
              exact j6.snoc (hz.fr f2) hy
          rintro zs σ H' ⟨v0,ρ',rfl,f',kr',O',in',hz,lz⟩ Lz nLz
          rw [lx,List.take_length] at hz
          have sz':=ji (o:=.lst zs) nLz
          have fz:Fr (allI 2) ρ HF ρ' (upd H' Lz (.lst zs)):=f'.trans (Fr.same sz')
          have krz:=kr'.same sz'
          have nz : ∀ {i:Nat} {q:Part},i ≠ 2 → ¬ allI 2 (i,q):=fun hi z=>hi z
          have Bz:=B.fr fz krz (nz (by decide)) (nz (by decide))
          have S0z:=S0.fr fz (fun q=>nz (by decide)) (nz (by decide)) (nz (by decide))
          have S1z:=S1.fr fz (fun q=>nz (by decide)) (nz (by decide)) (nz (by decide))
          have UAlz:=UAl.fr fz
          obtain ⟨hEz,rEz⟩:=zi fz hE rE (nz (by decide))
          refine ⟨_,rfl,_,rfl,l.Te,_,0,.ref l.E0,rfl,rfl,SqL.of Bz.te.1,rfl,.lst (tellsOf W0 ds0),.lst (tellsOf W0 ds0),?_,?_,dep_tells _ _,_,rfl,?_⟩
          · rw [qp]
            exact ⟨Lz,zs,rfl,SqL.of ja,j6.hasDs (ρ:=ρ') (hz.fr (P:=fun _=>False) (Fr.same sz'))⟩
          · rw [qp]
            exact ⟨l.E0,ys,rfl,SqL.of hEz,j6.hasDs (ρ:=ρ') (pE.fr fz)⟩
          rw [eqD_refl]
          exact iteF ⟨_,_,_,ρ',ds0,ds1,rfl,Bz,S0z,S1z,UAlz,(fun z=>by cases z),fun _=>(hw1 (by decide)).fr (fun q=>nz (by decide)) fz,by omega⟩
        · have O1:=hw1 (by decide)
          obtain ⟨rD,xs,hD,pD⟩:=S1.d
          obtain ⟨rE,ys,hE,pE,lE⟩:=S1.e
          have lx:xs.length = ds1.length:=Paired.length pD
          refine ⟨_,rfl,_,rfl,l.De,_,1,.ref l.D1,rfl,rfl,SqL.of B.de.1,rfl,l.D1,rfl,⟨_,SqL.of hD⟩,lc_list (K:=K) (a:=l.D1) (xs:=xs) (fun i' zs σ H'=>∃ v0 ρ',σ = [v0,some (.ref Al),some (.int 1)] ∧ Fr (allI 3) ρ HF ρ' H' ∧ OkR ρ' H' ∧ jz t H' ρ' 3 A3 (run W1 (ds1.take i')) ∧ (∃ L,(run W1 (ds1.take i')).In i' L) ∧ j6 K H' ρ' (tellsOf W1 (ds1.take i')) zs ∧ zs.length = i') ⟨none,ρ,rfl,Fr.refl,B.kr,O1,⟨[],w0_in (by decide) (by decide) (by decide)⟩,by show j6 K _ _ [] []; rw [j6],rfl⟩ ?_ ?_ ?_⟩
          · rintro i' zs σ H' hi' ⟨v0,ρ',rfl,f',kr',O',in',hz,lz⟩
            obtain ⟨hD',_⟩:=zi f' hD rD (fun z=>by cases z)
            exact ⟨SqL.of hD',bigL (by omega)⟩
          · rintro i' x zs σ H' ex ⟨v0,ρ',rfl,f',kr',O',⟨L',in'⟩,hz,lz⟩
            obtain ⟨d,ed,ud⟩:=ql pD ex
            have can:=S1.can i' d ed
            have lt:=(List.getElem?_eq_some_iff.mp ed).1
            have UAl':=UAl.fr f'
            dsimp only [gName,tYes]
            rw [if_pos rfl]
            refine ⟨_,rfl,_,rfl,Al,_,1,.ref x3,rfl,rfl,SqL.of UAl'.1,rfl,_,rfl,ρ',3,A3,run W1 (ds1.take i'),i',L',x,d,false,by rw [eA3]; rfl,O',kr',in',by omega,ud.fr f',can,fun ρ2 H2 y O2 f2 kr2 hy=>?_⟩
            obtain ⟨L2,in2⟩:=in'.does (by omega) can
            refine ⟨_,ρ2,rfl,f'.trans f2,kr2,?_,⟨L2,?_⟩,?_,by rw [List.length_append,lz]; rfl⟩
            · rw [take_snoc ed,run_snoc]
              exact O2
            · rw [take_snoc ed,run_snoc]
              exact in2
            · rw [tells_at W1 ed]
              exact j6.snoc (hz.fr f2) hy
          rintro zs σ H' ⟨v0,ρ',rfl,f',kr',O',in',hz,lz⟩ Lz nLz
          rw [lx,List.take_length] at hz
          have sz':=ji (o:=.lst zs) nLz
          have fz:Fr (allI 3) ρ HF ρ' (upd H' Lz (.lst zs)):=f'.trans (Fr.same sz')
          have krz:=kr'.same sz'
          have nz : ∀ {i:Nat} {q:Part},i ≠ 3 → ¬ allI 3 (i,q):=fun hi z=>hi z
          have Bz:=B.fr fz krz (nz (by decide)) (nz (by decide))
          have S0z:=S0.fr fz (fun q=>nz (by decide)) (nz (by decide)) (nz (by decide))
          have S1z:=S1.fr fz (fun q=>nz (by decide)) (nz (by decide)) (nz (by decide))
          have UAlz:=UAl.fr fz
          obtain ⟨hEz,rEz⟩:=zi fz hE rE (nz (by decide))
          refine ⟨_,rfl,_,rfl,l.Te,_,1,.ref l.E1,rfl,rfl,SqL.of Bz.te.1,rfl,.lst (tellsOf W1 ds1),.lst (tellsOf W1 ds1),?_,?_,dep_tells _ _,_,rfl,?_⟩
          · rw [qp]
            exact ⟨Lz,zs,rfl,SqL.of ja,j6.hasDs (ρ:=ρ') (hz.fr (P:=fun _=>False) (Fr.same sz'))⟩
          · rw [qp]
            exact ⟨l.E1,ys,rfl,SqL.of hEz,j6.hasDs (ρ:=ρ') (pE.fr fz)⟩
          rw [eqD_refl]
          exact iteF ⟨_,_,_,ρ',ds0,ds1,rfl,Bz,S0z,S1z,UAlz,(fun z=>by cases z),fun z=>absurd z (by decide),by omega⟩
      · rintro σ HF _
        exact k _
end
set_option maxHeartbeats 4000000 in
theorem all_mk {l:W.OpenLaw} {w:World} {K:W.Frag} {h:Heap} {mg:Str → Option Value} {fa:Addr} (X:K.In h) (G:h.Ns mainGlobals mg) (hfa:mg "law" = some (.ref fa))
 {ca0 ca1 ca2 ca3 xa0 xa1 xa2 xa3 xa4 xa5 xa6 xa7 xa8 xa9 xa10 xa11 f0 f1 f2 kd2 f3 f4 f5 f6 f7 f8 f9 f10 f11 f12 f13 f14 f15 f16 f17 f18 f19 f20 f21 f22 f23 f24 f25 f26 f27 f28 f29 kd29 kt29 ku29 f30 f31 f32 f33 f34 f35 f36 f37 f38 f39 f40 f41 f42 f43 f44 f45 f46 f47 f48 f49 f50 f51:Addr}
 {oc0 kV0 dc0 pm0 cd0 ct0 oc1 kV1 dc1 pm1 cd1 ct1 oc2 dc2 pm2 cd2 ct2 oc3 kV3 dc3 pm3 cd3 ct3 oc4 kV4 dc4 pm4 cd4 ct4 oc5 kV5 dc5 pm5 cd5 ct5 oc6 kV6 dc6 pm6 cd6 ct6 oc7 kV7 dc7 pm7 cd7 ct7 oc8 kV8 dc8 pm8 cd8 ct8 oc9 kV9 dc9 pm9 cd9 ct9 oc10 kV10 dc10 pm10 cd10 ct10 oc11 kV11 dc11 pm11 cd11 ct11 oc12 kV12 dc12 pm12 cd12 ct12 oc13 kV13 dc13 pm13 cd13 ct13 oc14 kV14 dc14 pm14 cd14 ct14 oc15 kV15 dc15 pm15 cd15 ct15 oc16 kV16 dc16 pm16 cd16 ct16 oc17 kV17 dc17 pm17 cd17 ct17 oc18 kV18 dc18 pm18 cd18 ct18 oc19 kV19 dc19 pm19 cd19 ct19 oc20 kV20 dc20 pm20 cd20 ct20 oc21 kV21 dc21 pm21 cd21 ct21 oc22 kV22 dc22 pm22 cd22 ct22 oc23 kV23 dc23 pm23 cd23 ct23 oc24 kV24 dc24 pm24 cd24 ct24 oc25 kV25 dc25 pm25 cd25 ct25 oc26 kV26 dc26 pm26 cd26 ct26 oc27 kV27 dc27 pm27 cd27 ct27 oc28 kV28 dc28 pm28 cd28 ct28 oc29 dc29 pm29 cd29 ct29 oc30 kV30 dc30 pm30 cd30 ct30 oc31 kV31 dc31 pm31 cd31 ct31 oc32 kV32 dc32 pm32 cd32 ct32 oc33 kV33 dc33 pm33 cd33 ct33 oc34 kV34 dc34 pm34 cd34 ct34 oc35 kV35 dc35 pm35 cd35 ct35 oc36 kV36 dc36 pm36 cd36 ct36 oc37 kV37 dc37 pm37 cd37 ct37 oc38 kV38 dc38 pm38 cd38 ct38 oc39 kV39 dc39 pm39 cd39 ct39 oc40 kV40 dc40 pm40 cd40 ct40 oc41 kV41 dc41 pm41 cd41 ct41 oc42 kV42 dc42 pm42 cd42 ct42 oc43 kV43 dc43 pm43 cd43 ct43 oc44 kV44 dc44 pm44 cd44 ct44 oc45 kV45 dc45 pm45 cd45 ct45 oc46 kV46 dc46 pm46 cd46 ct46 oc47 kV47 dc47 pm47 cd47 ct47 oc48 kV48 dc48 pm48 cd48 ct48 oc49 kV49 dc49 pm49 cd49 ct49 oc50 kV50 dc50 pm50 cd50 ct50 oc51 kV51 dc51 pm51 cd51 ct51:Value}
 {od0 an0 od1 an1 od2 an2 od3 an3 od4 an4 od5 an5 od6 an6 od7 an7 od8 an8 od9 an9 od10 an10 od11 an11 od12 an12 od13 an13 od14 an14 od15 an15 od16 an16 od17 an17 od18 an18 od19 an19 od20 an20 od21 an21 od22 an22 od23 an23 od24 an24 od25 an25 od26 an26 od27 an27 od28 an28 od29 an29 td29 ud29 od30 an30 od31 an31 od32 an32 od33 an33 od34 an34 od35 an35 od36 an36 od37 an37 od38 an38 od39 an39 od40 an40 od41 an41 od42 an42 od43 an43 od44 an44 od45 an45 od46 an46 od47 an47 od48 an48 od49 an49 od50 an50 od51 an51:Option Addr}
 {sl0 sl1 sl2 sl3 sl4 sl5 sl6 sl7 sl8 sl9 sl10 sl11 sl12 sl13 sl14 sl15 sl16 sl17 sl18 sl19 sl20 sl21 sl22 sl23 sl24 sl25 sl26 sl27 sl28 sl29 ts29 us29 sl30 sl31 sl32 sl33 sl34 sl35 sl36 sl37 sl38 sl39 sl40 sl41 sl42 sl43 sl44 sl45 sl46 sl47 sl48 sl49 sl50 sl51:Array (Option Value)}
 {kt2 gt0 gt1 gt2 gt3 gt4 gt5 gt6 gt7 gt8:Tok}
 {tn29 un29:Nat}
 (cm0:W.nsIn K mainGlobals "Board" = some (some (.ref ca0)))
 (cg0:W.plainGet K ca0 Str.empty = true) (ch0:W.hasDictIn K ca0 = true) (co0:W.plainOver K ca0 = true) (cs0:W.findIn K (.ref ca0) "__setattr__" = some (some (.builtin "object.__setattr__")))
 (cn0_0:W.findIn K (.ref ca0) "enough" = some none)
 (cn0_1:W.findIn K (.ref ca0) "signers" = some none)
 (cm1:W.nsIn K mainGlobals "Keeper" = some (some (.ref ca1)))
 (cg1:W.plainGet K ca1 Str.empty = true) (ch1:W.hasDictIn K ca1 = true) (co1:W.plainOver K ca1 = true) (cs1:W.findIn K (.ref ca1) "__setattr__" = some (some (.builtin "object.__setattr__")))
 (cn1_0:W.findIn K (.ref ca1) "held" = some none)
 (cn1_1:W.findIn K (.ref ca1) "next_numbers" = some none)
 (cn1_2:W.findIn K (.ref ca1) "done" = some none)
 (cn1_3:W.findIn K (.ref ca1) "heard" = some none)
 (cn1_4:W.findIn K (.ref ca1) "unvoted" = some none)
 (cn1_5:W.findIn K (.ref ca1) "choices" = some none)
 (cn1_6:W.findIn K (.ref ca1) "waiting" = some none)
 (cm2:W.nsIn K mainGlobals "World" = some (some (.ref ca2)))
 (cg2:W.plainGet K ca2 Str.empty = true) (ch2:W.hasDictIn K ca2 = true) (co2:W.plainOver K ca2 = true) (cs2:W.findIn K (.ref ca2) "__setattr__" = some (some (.builtin "object.__setattr__")))
 (cn2_0:W.findIn K (.ref ca2) "purses" = some none)
 (cn2_1:W.findIn K (.ref ca2) "total" = some none)
 (cn2_2:W.findIn K (.ref ca2) "lying" = some none)
 (cn2_3:W.findIn K (.ref ca2) "cheating" = some none)
 (cn2_4:W.findIn K (.ref ca2) "keepers" = some none)
 (cn2_5:W.findIn K (.ref ca2) "board" = some none)
 (cn2_6:W.findIn K (.ref ca2) "asked" = some none)
 (cn2_7:W.findIn K (.ref ca2) "on_way" = some none)
 (cm3:W.nsIn K mainGlobals "Book" = some (some (.ref ca3)))
 (cg3:W.plainGet K ca3 Str.empty = true) (ch3:W.hasDictIn K ca3 = true) (co3:W.plainOver K ca3 = true) (cs3:W.findIn K (.ref ca3) "__setattr__" = some (some (.builtin "object.__setattr__")))
 (cn3_0:W.findIn K (.ref ca3) "held" = some none)
 (cn3_1:W.findIn K (.ref ca3) "next_numbers" = some none)
 (cn3_2:W.findIn K (.ref ca3) "done" = some none)
 (xm0:W.nsIn K mainGlobals "TooMuch" = some (some (.ref xa0)))
 (xm1:W.nsIn K mainGlobals "NotNow" = some (some (.ref xa1)))
 (xm2:W.nsIn K mainGlobals "PurseError" = some (some (.ref xa2)))
 (xm3:W.nsIn K mainGlobals "BadCut" = some (some (.ref xa3)))
 (xm4:W.nsIn K mainGlobals "BadText" = some (some (.ref xa4)))
 (xm5:W.nsIn K mainGlobals "BadPaper" = some (some (.ref xa5)))
 (xm6:W.nsIn K mainGlobals "NoHouse" = some (some (.ref xa6)))
 (xm7:W.nsIn K mainGlobals "NoPurse" = some (some (.ref xa7)))
 (xm8:W.nsIn K mainGlobals "NoLetter" = some (some (.ref xa8)))
 (xm9:W.nsIn K mainGlobals "BadNumber" = some (some (.ref xa9)))
 (xm10:W.nsIn K mainGlobals "BadOrder" = some (some (.ref xa10)))
 (xm11:W.nsIn K mainGlobals "BadHouses" = some (some (.ref xa11)))
 (a0:W.nsIn K mainGlobals "is_whole" = some (some (.ref f0)))
 (l0:K.lookup f0 = some ⟨oc0,od0,.func (W.fnOf "is_whole" "is_whole" (jr s_is_whole) (jq s_is_whole) (jb s_is_whole) .none kV0 dc0 pm0 an0 cd0 ct0),sl0⟩)
 (c0:W.codeIn K cd0 "is_whole" = true) (k0:W.keepIn K (.ref f0) = true)
 (a1:W.nsIn K mainGlobals "is_between" = some (some (.ref f1)))
 (l1:K.lookup f1 = some ⟨oc1,od1,.func (W.fnOf "is_between" "is_between" (jr s_is_between) (jq s_is_between) (jb s_is_between) .none kV1 dc1 pm1 an1 cd1 ct1),sl1⟩)
 (c1:W.codeIn K cd1 "is_between" = true) (k1:W.keepIn K (.ref f1) = true)
 (a2:W.nsIn K mainGlobals "is_order" = some (some (.ref f2)))
 (l2:K.lookup f2 = some ⟨oc2,od2,.func (W.fnOf "is_order" "is_order" (jr s_is_order) (jq s_is_order) (jb s_is_order) .none (.ref kd2) dc2 pm2 an2 cd2 ct2),sl2⟩)
 (c2:W.codeIn K cd2 "is_order" = true) (k2:W.keepIn K (.ref f2) = true)
 (e2:W.nsIn K kd2 "purses" = some (some (.int 8 kt2)))
 (a3:W.nsIn K mainGlobals "place_of" = some (some (.ref f3)))
 (l3:K.lookup f3 = some ⟨oc3,od3,.func (W.fnOf "place_of" "place_of" (jr s_place_of) (jq s_place_of) (jb s_place_of) .none kV3 dc3 pm3 an3 cd3 ct3),sl3⟩)
 (c3:W.codeIn K cd3 "place_of" = true) (k3:W.keepIn K (.ref f3) = true)
 (a4:W.nsIn K mainGlobals "are_rising" = some (some (.ref f4)))
 (l4:K.lookup f4 = some ⟨oc4,od4,.func (W.fnOf "are_rising" "are_rising" (jr s_are_rising) (jq s_are_rising) (jb s_are_rising) .none kV4 dc4 pm4 an4 cd4 ct4),sl4⟩)
 (c4:W.codeIn K cd4 "are_rising" = true) (k4:W.keepIn K (.ref f4) = true)
 (a5:W.nsIn K mainGlobals "is_rising_row" = some (some (.ref f5)))
 (l5:K.lookup f5 = some ⟨oc5,od5,.func (W.fnOf "is_rising_row" "is_rising_row" (jr xb) (jq xb) (jb xb) .none kV5 dc5 pm5 an5 cd5 ct5),sl5⟩)
 (c5:W.codeIn K cd5 "is_rising_row" = true) (k5:W.keepIn K (.ref f5) = true)
 (a6:W.nsIn K mainGlobals "is_house_count" = some (some (.ref f6)))
 (l6:K.lookup f6 = some ⟨oc6,od6,.func (W.fnOf "is_house_count" "is_house_count" (jr zl) (jq zl) (jb zl) .none kV6 dc6 pm6 an6 cd6 ct6),sl6⟩)
 (c6:W.codeIn K cd6 "is_house_count" = true) (k6:W.keepIn K (.ref f6) = true)
 (a7:W.nsIn K mainGlobals "is_few" = some (some (.ref f7)))
 (l7:K.lookup f7 = some ⟨oc7,od7,.func (W.fnOf "is_few" "is_few" (jr s_is_few) (jq s_is_few) (jb s_is_few) .none kV7 dc7 pm7 an7 cd7 ct7),sl7⟩)
 (c7:W.codeIn K cd7 "is_few" = true) (k7:W.keepIn K (.ref f7) = true)
 (a8:W.nsIn K mainGlobals "outnumber" = some (some (.ref f8)))
 (l8:K.lookup f8 = some ⟨oc8,od8,.func (W.fnOf "outnumber" "outnumber" (jr s_outnumber) (jq s_outnumber) (jb s_outnumber) .none kV8 dc8 pm8 an8 cd8 ct8),sl8⟩)
 (c8:W.codeIn K cd8 "outnumber" = true) (k8:W.keepIn K (.ref f8) = true)
 (a9:W.nsIn K mainGlobals "enough_of" = some (some (.ref f9)))
 (l9:K.lookup f9 = some ⟨oc9,od9,.func (W.fnOf "enough_of" "enough_of" (jr s_enough_of) (jq s_enough_of) (jb s_enough_of) .none kV9 dc9 pm9 an9 cd9 ct9),sl9⟩)
 (c9:W.codeIn K cd9 "enough_of" = true) (k9:W.keepIn K (.ref f9) = true)
 (a10:W.nsIn K mainGlobals "are_sums" = some (some (.ref f10)))
 (l10:K.lookup f10 = some ⟨oc10,od10,.func (W.fnOf "are_sums" "are_sums" (jr s_are_sums) (jq s_are_sums) (jb s_are_sums) .none kV10 dc10 pm10 an10 cd10 ct10),sl10⟩)
 (c10:W.codeIn K cd10 "are_sums" = true) (k10:W.keepIn K (.ref f10) = true)
 (a11:W.nsIn K mainGlobals "are_first_sums" = some (some (.ref f11)))
 (l11:K.lookup f11 = some ⟨oc11,od11,.func (W.fnOf "are_first_sums" "are_first_sums" (jr zo) (jq zo) (jb zo) .none kV11 dc11 pm11 an11 cd11 ct11),sl11⟩)
 (c11:W.codeIn K cd11 "are_first_sums" = true) (k11:W.keepIn K (.ref f11) = true)
 (a12:W.nsIn K mainGlobals "check_houses" = some (some (.ref f12)))
 (l12:K.lookup f12 = some ⟨oc12,od12,.func (W.fnOf "check_houses" "check_houses" (jr s_check_houses) (jq s_check_houses) (jb s_check_houses) .none kV12 dc12 pm12 an12 cd12 ct12),sl12⟩)
 (c12:W.codeIn K cd12 "check_houses" = true) (k12:W.keepIn K (.ref f12) = true)
 (a13:W.nsIn K mainGlobals "check_purses" = some (some (.ref f13)))
 (l13:K.lookup f13 = some ⟨oc13,od13,.func (W.fnOf "check_purses" "check_purses" (jr s_check_purses) (jq s_check_purses) (jb s_check_purses) .none kV13 dc13 pm13 an13 cd13 ct13),sl13⟩)
 (c13:W.codeIn K cd13 "check_purses" = true) (k13:W.keepIn K (.ref f13) = true)
 (a14:W.findIn K (.ref ca0) "__init__" = some (some (.ref f14))) (n14:W.isFn K (.ref f14) = true)
 (mk14:W.makesIn K ca0 = true) (mq14:W.keepIn K (.ref ca0) = true)
 (l14:K.lookup f14 = some ⟨oc14,od14,.func (W.fnOf "__init__" "Board.__init__" (jr zt) (jq zt) (jb zt) .none kV14 dc14 pm14 an14 cd14 ct14),sl14⟩)
 (c14:W.codeIn K cd14 "Board.__init__" = true) (k14:W.keepIn K (.ref f14) = true)
 (a15:W.findIn K (.ref ca0) "is_carried" = some (some (.ref f15))) (n15:W.isFn K (.ref f15) = true)
 (l15:K.lookup f15 = some ⟨oc15,od15,.func (W.fnOf "is_carried" "Board.is_carried" (jr qw) (jq qw) (jb qw) .none kV15 dc15 pm15 an15 cd15 ct15),sl15⟩)
 (c15:W.codeIn K cd15 "Board.is_carried" = true) (k15:W.keepIn K (.ref f15) = true)
 (a16:W.findIn K (.ref ca0) "put" = some (some (.ref f16))) (n16:W.isFn K (.ref f16) = true)
 (l16:K.lookup f16 = some ⟨oc16,od16,.func (W.fnOf "put" "Board.put" (jr s_Board_put) (jq s_Board_put) (jb s_Board_put) .none kV16 dc16 pm16 an16 cd16 ct16),sl16⟩)
 (c16:W.codeIn K cd16 "Board.put" = true) (k16:W.keepIn K (.ref f16) = true)
 (a17:W.findIn K (.ref ca0) "carried" = some (some (.ref f17))) (n17:W.isFn K (.ref f17) = true)
 (l17:K.lookup f17 = some ⟨oc17,od17,.func (W.fnOf "carried" "Board.carried" (jr xc) (jq xc) (jb xc) .none kV17 dc17 pm17 an17 cd17 ct17),sl17⟩)
 (c17:W.codeIn K cd17 "Board.carried" = true) (k17:W.keepIn K (.ref f17) = true)
 (a18:W.findIn K (.ref ca3) "__init__" = some (some (.ref f18))) (n18:W.isFn K (.ref f18) = true)
 (mk18:W.makesIn K ca3 = true) (mq18:W.keepIn K (.ref ca3) = true)
 (l18:K.lookup f18 = some ⟨oc18,od18,.func (W.fnOf "__init__" "Book.__init__" (jr xh) (jq xh) (jb xh) .none kV18 dc18 pm18 an18 cd18 ct18),sl18⟩)
 (c18:W.codeIn K cd18 "Book.__init__" = true) (k18:W.keepIn K (.ref f18) = true)
 (a19:W.findIn K (.ref ca3) "is_past" = some (some (.ref f19))) (n19:W.isFn K (.ref f19) = true)
 (l19:K.lookup f19 = some ⟨oc19,od19,.func (W.fnOf "is_past" "Book.is_past" (jr xr) (jq xr) (jb xr) .none kV19 dc19 pm19 an19 cd19 ct19),sl19⟩)
 (c19:W.codeIn K cd19 "Book.is_past" = true) (k19:W.keepIn K (.ref f19) = true)
 (a20:W.findIn K (.ref ca3) "is_due" = some (some (.ref f20))) (n20:W.isFn K (.ref f20) = true)
 (l20:K.lookup f20 = some ⟨oc20,od20,.func (W.fnOf "is_due" "Book.is_due" (jr yl) (jq yl) (jb yl) .none kV20 dc20 pm20 an20 cd20 ct20),sl20⟩)
 (c20:W.codeIn K cd20 "Book.is_due" = true) (k20:W.keepIn K (.ref f20) = true)
 (a21:W.findIn K (.ref ca3) "settle" = some (some (.ref f21))) (n21:W.isFn K (.ref f21) = true)
 (l21:K.lookup f21 = some ⟨oc21,od21,.func (W.fnOf "settle" "Book.settle" (jr yp) (jq yp) (jb yp) .none kV21 dc21 pm21 an21 cd21 ct21),sl21⟩)
 (c21:W.codeIn K cd21 "Book.settle" = true) (k21:W.keepIn K (.ref f21) = true)
 (a22:W.findIn K (.ref ca1) "__init__" = some (some (.ref f22))) (n22:W.isFn K (.ref f22) = true)
 (mk22:W.makesIn K ca1 = true) (mq22:W.keepIn K (.ref ca1) = true)
 (l22:K.lookup f22 = some ⟨oc22,od22,.func (W.fnOf "__init__" "Keeper.__init__" (jr zf) (jq zf) (jb zf) .none kV22 dc22 pm22 an22 cd22 ct22),sl22⟩)
 (c22:W.codeIn K cd22 "Keeper.__init__" = true) (k22:W.keepIn K (.ref f22) = true)
 (a23:W.findIn K (.ref ca1) "left_of" = some (some (.ref f23))) (n23:W.isFn K (.ref f23) = true)
 (l23:K.lookup f23 = some ⟨oc23,od23,.func (W.fnOf "left_of" "Keeper.left_of" (jr zr) (jq zr) (jb zr) .none kV23 dc23 pm23 an23 cd23 ct23),sl23⟩)
 (c23:W.codeIn K cd23 "Keeper.left_of" = true) (k23:W.keepIn K (.ref f23) = true)
 (a24:W.findIn K (.ref ca1) "give_votes" = some (some (.ref f24))) (n24:W.isFn K (.ref f24) = true)
 (l24:K.lookup f24 = some ⟨oc24,od24,.func (W.fnOf "give_votes" "Keeper.give_votes" (jr qi) (jq qi) (jb qi) .none kV24 dc24 pm24 an24 cd24 ct24),sl24⟩)
 (c24:W.codeIn K cd24 "Keeper.give_votes" = true) (k24:W.keepIn K (.ref f24) = true)
 (a25:W.findIn K (.ref ca1) "first_due" = some (some (.ref f25))) (n25:W.isFn K (.ref f25) = true)
 (l25:K.lookup f25 = some ⟨oc25,od25,.func (W.fnOf "first_due" "Keeper.first_due" (jr qv) (jq qv) (jb qv) .none kV25 dc25 pm25 an25 cd25 ct25),sl25⟩)
 (c25:W.codeIn K cd25 "Keeper.first_due" = true) (k25:W.keepIn K (.ref f25) = true)
 (a26:W.findIn K (.ref ca1) "go_on" = some (some (.ref f26))) (n26:W.isFn K (.ref f26) = true)
 (l26:K.lookup f26 = some ⟨oc26,od26,.func (W.fnOf "go_on" "Keeper.go_on" (jr xt) (jq xt) (jb xt) .none kV26 dc26 pm26 an26 cd26 ct26),sl26⟩)
 (c26:W.codeIn K cd26 "Keeper.go_on" = true) (k26:W.keepIn K (.ref f26) = true)
 (a27:W.findIn K (.ref ca1) "hear" = some (some (.ref f27))) (n27:W.isFn K (.ref f27) = true)
 (l27:K.lookup f27 = some ⟨oc27,od27,.func (W.fnOf "hear" "Keeper.hear" (jr yn) (jq yn) (jb yn) .none kV27 dc27 pm27 an27 cd27 ct27),sl27⟩)
 (c27:W.codeIn K cd27 "Keeper.hear" = true) (k27:W.keepIn K (.ref f27) = true)
 (a28:W.findIn K (.ref ca1) "take_paper" = some (some (.ref f28))) (n28:W.isFn K (.ref f28) = true)
 (l28:K.lookup f28 = some ⟨oc28,od28,.func (W.fnOf "take_paper" "Keeper.take_paper" (jr qj) (jq qj) (jb qj) .none kV28 dc28 pm28 an28 cd28 ct28),sl28⟩)
 (c28:W.codeIn K cd28 "Keeper.take_paper" = true) (k28:W.keepIn K (.ref f28) = true)
 (a29:W.findIn K (.ref ca2) "__init__" = some (some (.ref f29))) (n29:W.isFn K (.ref f29) = true)
 (mk29:W.makesIn K ca2 = true) (mq29:W.keepIn K (.ref ca2) = true)
 (l29:K.lookup f29 = some ⟨oc29,od29,.func (W.fnOf "__init__" "World.__init__" (jr xk) (jq xk) (jb xk) .none (.ref kd29) dc29 pm29 an29 cd29 ct29),sl29⟩)
 (c29:W.codeIn K cd29 "World.__init__" = true) (k29:W.keepIn K (.ref f29) = true)
 (e29:W.nsIn K kd29 "liars" = some (some (.ref kt29))) (ef29:K.lookup kt29 = some ⟨.type "tuple",td29,.seq #[] tn29,ts29⟩)
 (eg29:W.nsIn K kd29 "cheats" = some (some (.ref ku29))) (eh29:K.lookup ku29 = some ⟨.type "tuple",ud29,.seq #[] un29,us29⟩)
 (a30:W.findIn K (.ref ca2) "letters" = some (some (.ref f30))) (n30:W.isFn K (.ref f30) = true)
 (l30:K.lookup f30 = some ⟨oc30,od30,.func (W.fnOf "letters" "World.letters" (jr xf) (jq xf) (jb xf) .none kV30 dc30 pm30 an30 cd30 ct30),sl30⟩)
 (c30:W.codeIn K cd30 "World.letters" = true) (k30:W.keepIn K (.ref f30) = true)
 (a31:W.findIn K (.ref ca2) "honest" = some (some (.ref f31))) (n31:W.isFn K (.ref f31) = true)
 (l31:K.lookup f31 = some ⟨oc31,od31,.func (W.fnOf "honest" "World.honest" (jr xp) (jq xp) (jb xp) .none kV31 dc31 pm31 an31 cd31 ct31),sl31⟩)
 (c31:W.codeIn K cd31 "World.honest" = true) (k31:W.keepIn K (.ref f31) = true)
 (a32:W.findIn K (.ref ca2) "papers" = some (some (.ref f32))) (n32:W.isFn K (.ref f32) = true)
 (l32:K.lookup f32 = some ⟨oc32,od32,.func (W.fnOf "papers" "World.papers" (jr xn) (jq xn) (jb xn) .none kV32 dc32 pm32 an32 cd32 ct32),sl32⟩)
 (c32:W.codeIn K cd32 "World.papers" = true) (k32:W.keepIn K (.ref f32) = true)
 (a33:W.findIn K (.ref ca2) "keeper_of" = some (some (.ref f33))) (n33:W.isFn K (.ref f33) = true)
 (l33:K.lookup f33 = some ⟨oc33,od33,.func (W.fnOf "keeper_of" "World.keeper_of" (jr zg) (jq zg) (jb zg) .none kV33 dc33 pm33 an33 cd33 ct33),sl33⟩)
 (c33:W.codeIn K cd33 "World.keeper_of" = true) (k33:W.keepIn K (.ref f33) = true)
 (a34:W.findIn K (.ref ca2) "sums" = some (some (.ref f34))) (n34:W.isFn K (.ref f34) = true)
 (l34:K.lookup f34 = some ⟨oc34,od34,.func (W.fnOf "sums" "World.sums" (jr s_World_sums) (jq s_World_sums) (jb s_World_sums) .none kV34 dc34 pm34 an34 cd34 ct34),sl34⟩)
 (c34:W.codeIn K cd34 "World.sums" = true) (k34:W.keepIn K (.ref f34) = true)
 (a35:W.findIn K (.ref ca2) "settled" = some (some (.ref f35))) (n35:W.isFn K (.ref f35) = true)
 (l35:K.lookup f35 = some ⟨oc35,od35,.func (W.fnOf "settled" "World.settled" (jr xg) (jq xg) (jb xg) .none kV35 dc35 pm35 an35 cd35 ct35),sl35⟩)
 (c35:W.codeIn K cd35 "World.settled" = true) (k35:W.keepIn K (.ref f35) = true)
 (a36:W.findIn K (.ref ca2) "waits" = some (some (.ref f36))) (n36:W.isFn K (.ref f36) = true)
 (l36:K.lookup f36 = some ⟨oc36,od36,.func (W.fnOf "waits" "World.waits" (jr yk) (jq yk) (jb yk) .none kV36 dc36 pm36 an36 cd36 ct36),sl36⟩)
 (c36:W.codeIn K cd36 "World.waits" = true) (k36:W.keepIn K (.ref f36) = true)
 (a37:W.findIn K (.ref ca2) "check_purse" = some (some (.ref f37))) (n37:W.isFn K (.ref f37) = true)
 (l37:K.lookup f37 = some ⟨oc37,od37,.func (W.fnOf "check_purse" "World.check_purse" (jr qh) (jq qh) (jb qh) .none kV37 dc37 pm37 an37 cd37 ct37),sl37⟩)
 (c37:W.codeIn K cd37 "World.check_purse" = true) (k37:W.keepIn K (.ref f37) = true)
 (a38:W.findIn K (.ref ca2) "check_asker" = some (some (.ref f38))) (n38:W.isFn K (.ref f38) = true)
 (l38:K.lookup f38 = some ⟨oc38,od38,.func (W.fnOf "check_asker" "World.check_asker" (jr qk) (jq qk) (jb qk) .none kV38 dc38 pm38 an38 cd38 ct38),sl38⟩)
 (c38:W.codeIn K cd38 "World.check_asker" = true) (k38:W.keepIn K (.ref f38) = true)
 (a39:W.findIn K (.ref ca2) "check_order" = some (some (.ref f39))) (n39:W.isFn K (.ref f39) = true)
 (l39:K.lookup f39 = some ⟨oc39,od39,.func (W.fnOf "check_order" "World.check_order" (jr qg) (jq qg) (jb qg) .none kV39 dc39 pm39 an39 cd39 ct39),sl39⟩)
 (c39:W.codeIn K cd39 "World.check_order" = true) (k39:W.keepIn K (.ref f39) = true)
 (a40:W.findIn K (.ref ca2) "write_to_all" = some (some (.ref f40))) (n40:W.isFn K (.ref f40) = true)
 (l40:K.lookup f40 = some ⟨oc40,od40,.func (W.fnOf "write_to_all" "World.write_to_all" (jr qb) (jq qb) (jb qb) .none kV40 dc40 pm40 an40 cd40 ct40),sl40⟩)
 (c40:W.codeIn K cd40 "World.write_to_all" = true) (k40:W.keepIn K (.ref f40) = true)
 (a41:W.findIn K (.ref ca2) "put_votes" = some (some (.ref f41))) (n41:W.isFn K (.ref f41) = true)
 (l41:K.lookup f41 = some ⟨oc41,od41,.func (W.fnOf "put_votes" "World.put_votes" (jr ze) (jq ze) (jb ze) .none kV41 dc41 pm41 an41 cd41 ct41),sl41⟩)
 (c41:W.codeIn K cd41 "World.put_votes" = true) (k41:W.keepIn K (.ref f41) = true)
 (a42:W.findIn K (.ref ca2) "ask" = some (some (.ref f42))) (n42:W.isFn K (.ref f42) = true)
 (l42:K.lookup f42 = some ⟨oc42,od42,.func (W.fnOf "ask" "World.ask" (jr s_World_ask) (jq s_World_ask) (jb s_World_ask) .none kV42 dc42 pm42 an42 cd42 ct42),sl42⟩)
 (c42:W.codeIn K cd42 "World.ask" = true) (k42:W.keepIn K (.ref f42) = true)
 (a43:W.findIn K (.ref ca2) "cheat" = some (some (.ref f43))) (n43:W.isFn K (.ref f43) = true)
 (l43:K.lookup f43 = some ⟨oc43,od43,.func (W.fnOf "cheat" "World.cheat" (jr yi) (jq yi) (jb yi) .none kV43 dc43 pm43 an43 cd43 ct43),sl43⟩)
 (c43:W.codeIn K cd43 "World.cheat" = true) (k43:W.keepIn K (.ref f43) = true)
 (a44:W.findIn K (.ref ca2) "come" = some (some (.ref f44))) (n44:W.isFn K (.ref f44) = true)
 (l44:K.lookup f44 = some ⟨oc44,od44,.func (W.fnOf "come" "World.come" (jr s_World_come) (jq s_World_come) (jb s_World_come) .none kV44 dc44 pm44 an44 cd44 ct44),sl44⟩)
 (c44:W.codeIn K cd44 "World.come" = true) (k44:W.keepIn K (.ref f44) = true)
 (a45:W.nsIn K mainGlobals "_law_town" = some (some (.ref f45)))
 (l45:K.lookup f45 = some ⟨oc45,od45,.func (W.fnOf "_law_town" "_law_town" (jr s__law_town) (jq s__law_town) (jb s__law_town) .none kV45 dc45 pm45 an45 cd45 ct45),sl45⟩)
 (c45:W.codeIn K cd45 "_law_town" = true) (k45:W.keepIn K (.ref f45) = true)
 (a46:W.nsIn K mainGlobals "_law_draw" = some (some (.ref f46)))
 (l46:K.lookup f46 = some ⟨oc46,od46,.func (W.fnOf "_law_draw" "_law_draw" (jr s__law_draw) (jq s__law_draw) (jb s__law_draw) .none kV46 dc46 pm46 an46 cd46 ct46),sl46⟩)
 (c46:W.codeIn K cd46 "_law_draw" = true) (k46:W.keepIn K (.ref f46) = true)
 (a47:W.nsIn K mainGlobals "_law_refusal" = some (some (.ref f47)))
 (l47:K.lookup f47 = some ⟨oc47,od47,.func (W.fnOf "_law_refusal" "_law_refusal" (jr xo) (jq xo) (jb xo) .none kV47 dc47 pm47 an47 cd47 ct47),sl47⟩)
 (c47:W.codeIn K cd47 "_law_refusal" = true) (k47:W.keepIn K (.ref f47) = true)
 (a48:W.nsIn K mainGlobals "_law_told" = some (some (.ref f48)))
 (l48:K.lookup f48 = some ⟨oc48,od48,.func (W.fnOf "_law_told" "_law_told" (jr s__law_told) (jq s__law_told) (jb s__law_told) .none kV48 dc48 pm48 an48 cd48 ct48),sl48⟩)
 (c48:W.codeIn K cd48 "_law_told" = true) (k48:W.keepIn K (.ref f48) = true)
 (a49:W.nsIn K mainGlobals "_law_deed" = some (some (.ref f49)))
 (l49:K.lookup f49 = some ⟨oc49,od49,.func (W.fnOf "_law_deed" "_law_deed" (jr s__law_deed) (jq s__law_deed) (jb s__law_deed) .none kV49 dc49 pm49 an49 cd49 ct49),sl49⟩)
 (c49:W.codeIn K cd49 "_law_deed" = true) (k49:W.keepIn K (.ref f49) = true)
 (a50:W.nsIn K mainGlobals "_law_does" = some (some (.ref f50)))
 (l50:K.lookup f50 = some ⟨oc50,od50,.func (W.fnOf "_law_does" "_law_does" (jr s__law_does) (jq s__law_does) (jb s__law_does) .none kV50 dc50 pm50 an50 cd50 ct50),sl50⟩)
 (c50:W.codeIn K cd50 "_law_does" = true) (k50:W.keepIn K (.ref f50) = true)
 (a51:W.nsIn K mainGlobals "law" = some (some (.ref f51)))
 (l51:K.lookup f51 = some ⟨oc51,od51,.func (W.fnOf "law" "law" (jr s_law) (jq s_law) (jb s_law) .none kV51 dc51 pm51 an51 cd51 ct51),sl51⟩)
 (c51:W.codeIn K cd51 "law" = true) (k51:W.keepIn K (.ref f51) = true)
 (ih0:W.findIn K (.ref ca1) "is_due" = some (some (.ref f20)))
 (ih1:W.findIn K (.ref ca1) "is_past" = some (some (.ref f19)))
 (ih2:W.findIn K (.ref ca1) "settle" = some (some (.ref f21)))
 (yp0:W.specialIn K (.ref ca3) "__getattribute__" = some (some (.builtin "type.__getattribute__"))) (yr0:W.readsIn K ca3 (.type "type") = true) (yf0:W.findCls K (.ref ca3) (.type "type") "__init__" = some (.val (.ref f18)))
 (hgc0:W.nsIn K mainGlobals "MOST_MUCH" = some (some (.int 1000 gt0)))
 (hgc1:W.nsIn K mainGlobals "LAST_NUMBER" = some (some (.int 99 gt1)))
 (hgc2:W.nsIn K mainGlobals "PAPER_LETTER" = some (some (.str "paper" gt2)))
 (hgc3:W.nsIn K mainGlobals "ORDER_LETTER" = some (some (.str "order" gt3)))
 (hgc4:W.nsIn K mainGlobals "MOST_HOUSES" = some (some (.int 16 gt4)))
 (hgc5:W.nsIn K mainGlobals "MOST_FEW" = some (some (.int 5 gt5)))
 (hgc6:W.nsIn K mainGlobals "MOST_FIRST_SUM" = some (some (.int 1000 gt6)))
 (hgc7:W.nsIn K mainGlobals "LEAST_PURSES" = some (some (.int 2 gt7)))
 (hgc8:W.nsIn K mainGlobals "MOST_PURSES" = some (some (.int 8 gt8)))
 (xr0:W.excIn K xa0 vErr "ValueError.__new__" = true)
 (xg0:W.findIn K (.ref xa0) "__getattribute__" = some (some (.builtin "BaseException.__getattribute__"))) (xh0:W.findIn K (.ref xa0) "__getattr__" = some none) (xj0:W.findIn K (.ref xa0) "__class__" = some (some (.builtin "object.__class__")))
 (xp0:W.mroIn K xa0 (.type "BaseException") = some true) (xo0:W.mroIn K xa0 (.type "object") = some true) (xs0:(W.clsIn K xa0).isSome = true)
 (xk0:kinds K (.ref xa0) [.ref xa9,.ref xa10,.ref xa11,.ref xa6,.ref xa7,.ref xa8,.ref xa1,.ref xa0,.ref xa5,.ref xa3,.ref xa4,.ref xa2,.type "ValueError"] = [some false,some false,some false,some false,some false,some false,some false,some true,some false,some false,some false,some true,some true])
 (xc0_0:W.kitCls K (.ref xa0) (.ref xa2) = some true)
 (xr1:W.excIn K xa1 vErr "ValueError.__new__" = true)
 (xg1:W.findIn K (.ref xa1) "__getattribute__" = some (some (.builtin "BaseException.__getattribute__"))) (xh1:W.findIn K (.ref xa1) "__getattr__" = some none) (xj1:W.findIn K (.ref xa1) "__class__" = some (some (.builtin "object.__class__")))
 (xp1:W.mroIn K xa1 (.type "BaseException") = some true) (xo1:W.mroIn K xa1 (.type "object") = some true) (xs1:(W.clsIn K xa1).isSome = true)
 (xk1:kinds K (.ref xa1) [.ref xa9,.ref xa10,.ref xa11,.ref xa6,.ref xa7,.ref xa8,.ref xa1,.ref xa0,.ref xa5,.ref xa3,.ref xa4,.ref xa2,.type "ValueError"] = [some false,some false,some false,some false,some false,some false,some true,some false,some false,some false,some false,some true,some true])
 (xc1_0:W.kitCls K (.ref xa1) (.ref xa2) = some true)
 (xb0:W.mroIn K xa2 (.type "BaseException") = some true)
 (z0:W.nsIn K mainGlobals "isinstance" = some none)
 (z1:W.nsIn K mainGlobals "bool" = some none)
 (z2:W.nsIn K mainGlobals "int" = some none)
 (z3:W.nsIn K mainGlobals "len" = some none)
 (z4:W.nsIn K mainGlobals "tuple" = some none)
 (z5:W.nsIn K mainGlobals "sorted" = some none)
 (z6:W.nsIn K mainGlobals "list" = some none)
 (z7:W.nsIn K mainGlobals "sum" = some none)
 (z8:W.nsIn K mainGlobals "max" = some none)
 (z9:W.nsIn K mainGlobals "all" = some none)
 (z10:W.nsIn K mainGlobals "range" = some none)
 (z11:W.nsIn K mainGlobals "ValueError" = some none) :
 ∃ fd:FuncData,(∀ (s:Shared) (v:Value),BindsTo s fd ⟨[v],[]⟩ [("_law_script",v)]) ∧ ∀ base:Heap,K.In base → base.Ns mainGlobals mg → FnOk l.prog w K mg base CX0 12 fa fd ["_law_script"] (sp_law K):=by
 have T:Txt K mg ⟨f0,_,f1,_,f2,_,f3,_,f4,_,f5,_,f6,_,f7,_,f8,_,f9,_,f10,_,f11,_,f12,_,f13,_,f14,_,f15,_,f16,_,f17,_,f18,_,f19,_,f20,_,f21,_,f22,_,f23,_,f24,_,f25,_,f26,_,f27,_,f28,_,f29,_,f30,_,f31,_,f32,_,f33,_,f34,_,f35,_,f36,_,f37,_,f38,_,f39,_,f40,_,f41,_,f42,_,f43,_,f44,_,f45,_,f46,_,f47,_,f48,_,f49,_,f50,_,f51,_,ca0,ca1,ca2,ca3,xa0,xa1,xa2,xa3,xa4,xa5,xa6,xa7,xa8,xa9,xa10,xa11⟩:={
  F_is_whole:=jk (st:=s_is_whole) l0 c0 k0
  m_is_whole:=W.mg_of X G a0
  b_is_whole:=bn1 (jk (st:=s_is_whole) l0 c0 k0) fun _ _ _ _ _ _ _=>rfl
  qo:=jk (st:=s_is_between) l1 c1 k1
  qy:=W.mg_of X G a1
  za:=bn3 (jk (st:=s_is_between) l1 c1 k1) fun _ _ _ _ _ _ _ _ _=>rfl
  F_is_order:=jk (st:=s_is_order) l2 c2 k2
  m_is_order:=W.mg_of X G a2
  bk0_is_order:=kbm11 fun _ _ _=>.of_eq rfl
  bd0_is_order:=⟨_,bd_kw1 e2 rfl rfl rfl rfl rfl rfl rfl (by decide +kernel)⟩
  F_place_of:=jk (st:=s_place_of) l3 c3 k3
  m_place_of:=W.mg_of X G a3
  b_place_of:=bn1 (jk (st:=s_place_of) l3 c3 k3) fun _ _ _ _ _ _ _=>rfl
  F_are_rising:=jk (st:=s_are_rising) l4 c4 k4
  m_are_rising:=W.mg_of X G a4
  b_are_rising:=bn2 (jk (st:=s_are_rising) l4 c4 k4) fun _ _ _ _ _ _ _ _=>rfl
  F_is_rising_row:=jk (st:=xb) l5 c5 k5
  m_is_rising_row:=W.mg_of X G a5
  b_is_rising_row:=bn2 (jk (st:=xb) l5 c5 k5) fun _ _ _ _ _ _ _ _=>rfl
  F_is_house_count:=jk (st:=zl) l6 c6 k6
  m_is_house_count:=W.mg_of X G a6
  b_is_house_count:=bn1 (jk (st:=zl) l6 c6 k6) fun _ _ _ _ _ _ _=>rfl
  F_is_few:=jk (st:=s_is_few) l7 c7 k7
  m_is_few:=W.mg_of X G a7
  b_is_few:=bn1 (jk (st:=s_is_few) l7 c7 k7) fun _ _ _ _ _ _ _=>rfl
  F_outnumber:=jk (st:=s_outnumber) l8 c8 k8
  m_outnumber:=W.mg_of X G a8
  bk0_outnumber:=kbm11 fun _ _ _=>.of_eq rfl
  F_enough_of:=jk (st:=s_enough_of) l9 c9 k9
  m_enough_of:=W.mg_of X G a9
  bk0_enough_of:=kbm11 fun _ _ _=>.of_eq rfl
  F_are_sums:=jk (st:=s_are_sums) l10 c10 k10
  m_are_sums:=W.mg_of X G a10
  b_are_sums:=bn1 (jk (st:=s_are_sums) l10 c10 k10) fun _ _ _ _ _ _ _=>rfl
  F_are_first_sums:=jk (st:=zo) l11 c11 k11
  m_are_first_sums:=W.mg_of X G a11
  b_are_first_sums:=bn1 (jk (st:=zo) l11 c11 k11) fun _ _ _ _ _ _ _=>rfl
  F_check_houses:=jk (st:=s_check_houses) l12 c12 k12
  m_check_houses:=W.mg_of X G a12
  bk0_check_houses:=kbm12 fun _ _ _ _=>.of_eq rfl
  F_check_purses:=jk (st:=s_check_purses) l13 c13 k13
  m_check_purses:=W.mg_of X G a13
  bk0_check_purses:=kbm11 fun _ _ _=>.of_eq rfl
  F_Board___init__:=jk (st:=zt) l14 c14 k14
  mt_Board___init__:=⟨a14,n14,k14⟩
  mk_Board:=⟨mk14,a14,n14,mq14⟩
  b_Board___init__:=bn2 (jk (st:=zt) l14 c14 k14) fun _ _ _ _ _ _ _ _=>rfl
  F_Board_is_carried:=jk (st:=qw) l15 c15 k15
  mt_Board_is_carried:=⟨a15,n15,k15⟩
  b_Board_is_carried:=bn2 (jk (st:=qw) l15 c15 k15) fun _ _ _ _ _ _ _ _=>rfl
  F_Board_put:=jk (st:=s_Board_put) l16 c16 k16
  mt_Board_put:=⟨a16,n16,k16⟩
  b_Board_put:=bn3 (jk (st:=s_Board_put) l16 c16 k16) fun _ _ _ _ _ _ _ _ _=>rfl
  F_Board_carried:=jk (st:=xc) l17 c17 k17
  mt_Board_carried:=⟨a17,n17,k17⟩
  b_Board_carried:=bn1 (jk (st:=xc) l17 c17 k17) fun _ _ _ _ _ _ _=>rfl
  F_Book___init__:=jk (st:=xh) l18 c18 k18
  mt_Book___init__:=⟨a18,n18,k18⟩
  mk_Book:=⟨mk18,a18,n18,mq18⟩
  b_Book___init__:=bn2 (jk (st:=xh) l18 c18 k18) fun _ _ _ _ _ _ _ _=>rfl
  F_Book_is_past:=jk (st:=xr) l19 c19 k19
  mt_Book_is_past:=⟨a19,n19,k19⟩
  b_Book_is_past:=bn2 (jk (st:=xr) l19 c19 k19) fun _ _ _ _ _ _ _ _=>rfl
  F_Book_is_due:=jk (st:=yl) l20 c20 k20
  mt_Book_is_due:=⟨a20,n20,k20⟩
  b_Book_is_due:=bn2 (jk (st:=yl) l20 c20 k20) fun _ _ _ _ _ _ _ _=>rfl
  F_Book_settle:=jk (st:=yp) l21 c21 k21
  mt_Book_settle:=⟨a21,n21,k21⟩
  b_Book_settle:=bn2 (jk (st:=yp) l21 c21 k21) fun _ _ _ _ _ _ _ _=>rfl
  F_Keeper___init__:=jk (st:=zf) l22 c22 k22
  mt_Keeper___init__:=⟨a22,n22,k22⟩
  mk_Keeper:=⟨mk22,a22,n22,mq22⟩
  b_Keeper___init__:=bn2 (jk (st:=zf) l22 c22 k22) fun _ _ _ _ _ _ _ _=>rfl
  F_Keeper_left_of:=jk (st:=zr) l23 c23 k23
  mt_Keeper_left_of:=⟨a23,n23,k23⟩
  b_Keeper_left_of:=bn3 (jk (st:=zr) l23 c23 k23) fun _ _ _ _ _ _ _ _ _=>rfl
  F_Keeper_give_votes:=jk (st:=qi) l24 c24 k24
  mt_Keeper_give_votes:=⟨a24,n24,k24⟩
  b_Keeper_give_votes:=bn1 (jk (st:=qi) l24 c24 k24) fun _ _ _ _ _ _ _=>rfl
  F_Keeper_first_due:=jk (st:=qv) l25 c25 k25
  mt_Keeper_first_due:=⟨a25,n25,k25⟩
  b_Keeper_first_due:=bn1 (jk (st:=qv) l25 c25 k25) fun _ _ _ _ _ _ _=>rfl
  F_Keeper_go_on:=jk (st:=xt) l26 c26 k26
  mt_Keeper_go_on:=⟨a26,n26,k26⟩
  b_Keeper_go_on:=bn1 (jk (st:=xt) l26 c26 k26) fun _ _ _ _ _ _ _=>rfl
  F_Keeper_hear:=jk (st:=yn) l27 c27 k27
  mt_Keeper_hear:=⟨a27,n27,k27⟩
  b_Keeper_hear:=bn2 (jk (st:=yn) l27 c27 k27) fun _ _ _ _ _ _ _ _=>rfl
  F_Keeper_take_paper:=jk (st:=qj) l28 c28 k28
  mt_Keeper_take_paper:=⟨a28,n28,k28⟩
  b_Keeper_take_paper:=bn2 (jk (st:=qj) l28 c28 k28) fun _ _ _ _ _ _ _ _=>rfl
  F_World___init__:=jk (st:=xk) l29 c29 k29
  mt_World___init__:=⟨a29,n29,k29⟩
  mk_World:=⟨mk29,a29,n29,mq29⟩
  bk0_World___init__:=⟨_,bd_kb23m rfl e29 rfl rfl rfl rfl rfl rfl rfl (by decide +kernel),_,_,ef29,rfl,rfl⟩
  bk1_World___init__:=⟨_,_,bd_kb22dd rfl rfl e29 eg29 rfl rfl rfl rfl rfl rfl rfl (by decide +kernel),⟨_,_,ef29,rfl,rfl⟩,_,_,eh29,rfl,rfl⟩
  F_World_letters:=jk (st:=xf) l30 c30 k30
  mt_World_letters:=⟨a30,n30,k30⟩
  b_World_letters:=bn1 (jk (st:=xf) l30 c30 k30) fun _ _ _ _ _ _ _=>rfl
  F_World_honest:=jk (st:=xp) l31 c31 k31
  mt_World_honest:=⟨a31,n31,k31⟩
  b_World_honest:=bn1 (jk (st:=xp) l31 c31 k31) fun _ _ _ _ _ _ _=>rfl
  F_World_papers:=jk (st:=xn) l32 c32 k32
  mt_World_papers:=⟨a32,n32,k32⟩
  b_World_papers:=bn1 (jk (st:=xn) l32 c32 k32) fun _ _ _ _ _ _ _=>rfl
  F_World_keeper_of:=jk (st:=zg) l33 c33 k33
  xl:=⟨a33,n33,k33⟩
  x8:=bn2 (jk (st:=zg) l33 c33 k33) fun _ _ _ _ _ _ _ _=>rfl
  F_World_sums:=jk (st:=s_World_sums) l34 c34 k34
  mt_World_sums:=⟨a34,n34,k34⟩
  b_World_sums:=bn2 (jk (st:=s_World_sums) l34 c34 k34) fun _ _ _ _ _ _ _ _=>rfl
  F_World_settled:=jk (st:=xg) l35 c35 k35
  mt_World_settled:=⟨a35,n35,k35⟩
  b_World_settled:=bn2 (jk (st:=xg) l35 c35 k35) fun _ _ _ _ _ _ _ _=>rfl
  F_World_waits:=jk (st:=yk) l36 c36 k36
  mt_World_waits:=⟨a36,n36,k36⟩
  b_World_waits:=bn2 (jk (st:=yk) l36 c36 k36) fun _ _ _ _ _ _ _ _=>rfl
  F_World_check_purse:=jk (st:=qh) l37 c37 k37
  mt_World_check_purse:=⟨a37,n37,k37⟩
  b_World_check_purse:=bn2 (jk (st:=qh) l37 c37 k37) fun _ _ _ _ _ _ _ _=>rfl
  F_World_check_asker:=jk (st:=qk) l38 c38 k38
  mt_World_check_asker:=⟨a38,n38,k38⟩
  b_World_check_asker:=bn3 (jk (st:=qk) l38 c38 k38) fun _ _ _ _ _ _ _ _ _=>rfl
  F_World_check_order:=jk (st:=qg) l39 c39 k39
  mt_World_check_order:=⟨a39,n39,k39⟩
  b_World_check_order:=bn2 (jk (st:=qg) l39 c39 k39) fun _ _ _ _ _ _ _ _=>rfl
  F_World_write_to_all:=jk (st:=qb) l40 c40 k40
  mt_World_write_to_all:=⟨a40,n40,k40⟩
  b_World_write_to_all:=bn3 (jk (st:=qb) l40 c40 k40) fun _ _ _ _ _ _ _ _ _=>rfl
  F_World_put_votes:=jk (st:=ze) l41 c41 k41
  mt_World_put_votes:=⟨a41,n41,k41⟩
  b_World_put_votes:=bn3 (jk (st:=ze) l41 c41 k41) fun _ _ _ _ _ _ _ _ _=>rfl
  F_World_ask:=jk (st:=s_World_ask) l42 c42 k42
  mt_World_ask:=⟨a42,n42,k42⟩
  b_World_ask:=bn4 (jk (st:=s_World_ask) l42 c42 k42) fun _ _ _ _ _ _ _ _ _ _=>rfl
  F_World_cheat:=jk (st:=yi) l43 c43 k43
  mt_World_cheat:=⟨a43,n43,k43⟩
  b_World_cheat:=bn3 (jk (st:=yi) l43 c43 k43) fun _ _ _ _ _ _ _ _ _=>rfl
  F_World_come:=jk (st:=s_World_come) l44 c44 k44
  mt_World_come:=⟨a44,n44,k44⟩
  b_World_come:=bn2 (jk (st:=s_World_come) l44 c44 k44) fun _ _ _ _ _ _ _ _=>rfl
  F__law_town:=jk (st:=s__law_town) l45 c45 k45
  m__law_town:=W.mg_of X G a45
  b__law_town:=bn1 (jk (st:=s__law_town) l45 c45 k45) fun _ _ _ _ _ _ _=>rfl
  yo:=jk (st:=s__law_draw) l46 c46 k46
  m__law_draw:=W.mg_of X G a46
  b__law_draw:=bn2 (jk (st:=s__law_draw) l46 c46 k46) fun _ _ _ _ _ _ _ _=>rfl
  F__law_refusal:=jk (st:=xo) l47 c47 k47
  m__law_refusal:=W.mg_of X G a47
  b__law_refusal:=bn1 (jk (st:=xo) l47 c47 k47) fun _ _ _ _ _ _ _=>rfl
  F__law_told:=jk (st:=s__law_told) l48 c48 k48
  m__law_told:=W.mg_of X G a48
  b__law_told:=bn5 (jk (st:=s__law_told) l48 c48 k48) fun _ _ _ _ _ _ _ _ _ _ _=>rfl
  F__law_deed:=jk (st:=s__law_deed) l49 c49 k49
  m__law_deed:=W.mg_of X G a49
  b__law_deed:=bn4 (jk (st:=s__law_deed) l49 c49 k49) fun _ _ _ _ _ _ _ _ _ _=>rfl
  F__law_does:=jk (st:=s__law_does) l50 c50 k50
  m__law_does:=W.mg_of X G a50
  b__law_does:=bn3 (jk (st:=s__law_does) l50 c50 k50) fun _ _ _ _ _ _ _ _ _=>rfl
  F_law:=jk (st:=s_law) l51 c51 k51
  m_law:=W.mg_of X G a51
  b_law:=bn1 (jk (st:=s_law) l51 c51 k51) fun _ _ _ _ _ _ _=>rfl
  c_MOST_MUCH:=⟨_,W.mg_of X G hgc0⟩
  c_LAST_NUMBER:=⟨_,W.mg_of X G hgc1⟩
  c_PAPER_LETTER:=⟨_,W.mg_of X G hgc2⟩
  c_ORDER_LETTER:=⟨_,W.mg_of X G hgc3⟩
  c_MOST_HOUSES:=⟨_,W.mg_of X G hgc4⟩
  c_MOST_FEW:=⟨_,W.mg_of X G hgc5⟩
  c_MOST_FIRST_SUM:=⟨_,W.mg_of X G hgc6⟩
  c_LEAST_PURSES:=⟨_,W.mg_of X G hgc7⟩
  c_MOST_PURSES:=⟨_,W.mg_of X G hgc8⟩
  m_Board:=W.mg_of X G cm0
  cl_Board:=⟨cg0,ch0,co0,cs0⟩
  yb:=cn0_0
  na_Board_signers:=cn0_1
  m_Keeper:=W.mg_of X G cm1
  jm:=⟨cg1,ch1,co1,cs1⟩
  xq:=cn1_0
  zc:=cn1_1
  na_Keeper_done:=cn1_2
  na_Keeper_heard:=cn1_3
  x9:=cn1_4
  zy:=cn1_5
  zj:=cn1_6
  m_World:=W.mg_of X G cm2
  jn:=⟨cg2,ch2,co2,cs2⟩
  na_World_purses:=cn2_0
  na_World_total:=cn2_1
  na_World_lying:=cn2_2
  na_World_cheating:=cn2_3
  qz:=cn2_4
  na_World_board:=cn2_5
  na_World_asked:=cn2_6
  xa:=cn2_7
  m_Book:=W.mg_of X G cm3
  cl_Book:=⟨cg3,ch3,co3,cs3⟩
  na_Book_held:=cn3_0
  na_Book_next_numbers:=cn3_1
  na_Book_done:=cn3_2
  mt_Keeper_is_due:=⟨ih0,n20,k20⟩
  mt_Keeper_is_past:=⟨ih1,n19,k19⟩
  mt_Keeper_settle:=⟨ih2,n21,k21⟩
  cm_Book___init__:=⟨yp0,yr0,yf0,k18⟩
  m_TooMuch:=W.mg_of X G xm0
  m_NotNow:=W.mg_of X G xm1
  m_PurseError:=W.mg_of X G xm2
  m_BadCut:=W.mg_of X G xm3
  m_BadText:=W.mg_of X G xm4
  m_BadPaper:=W.mg_of X G xm5
  m_NoHouse:=W.mg_of X G xm6
  m_NoPurse:=W.mg_of X G xm7
  m_NoLetter:=W.mg_of X G xm8
  m_BadNumber:=W.mg_of X G xm9
  m_BadOrder:=W.mg_of X G xm10
  m_BadHouses:=W.mg_of X G xm11
  x_TooMuch:=xr0
  xi_TooMuch:=⟨xg0,xh0,xj0,xp0,xo0,xs0⟩
  xk_TooMuch:=xk0
  xc_TooMuch_PurseError:=xc0_0
  x_NotNow:=xr1
  xi_NotNow:=⟨xg1,xh1,xj1,xp1,xo1,xs1⟩
  xk_NotNow:=xk1
  xc_NotNow_PurseError:=xc1_0
  be_PurseError:=xb0
  jy:=W.mg_none_of X G z0
  n_bool:=W.mg_none_of X G z1
  n_int:=W.mg_none_of X G z2
  n_len:=W.mg_none_of X G z3
  n_tuple:=W.mg_none_of X G z4
  n_sorted:=W.mg_none_of X G z5
  n_list:=W.mg_none_of X G z6
  n_sum:=W.mg_none_of X G z7
  n_max:=W.mg_none_of X G z8
  n_all:=W.mg_none_of X G z9
  n_range:=W.mg_none_of X G z10
  n_ValueError:=W.mg_none_of X G z11 }
 have e:=hfa.symm.trans T.m_law
 cases e
 exact ⟨_,fun s v=>.of_eq rfl,fun base _ _=>ok_law T⟩
end M
/-! The hand-in's compiled file may not be greater than 64 MB. The head makes, beside the heaps and trees that it writes out, second ones that this proof doesn't use, and proofs that grow with the square of their objects; these names, taken ahead, keep it from that. -/
def PySem.W.Fast.tw10322435643371276609 : Unit := ()
def PySem.W.Fast.tw1559042315431204017 : Unit := ()
def PySem.W.Fast.tw3056820373001022715 : Unit := ()
def PySem.W.Fast.tw5729588518408750451 : Unit := ()
def PySem.W.Fast.tw15267383468552042590 : Unit := ()
def PySem.W.Fast.tw2428053208697037091 : Unit := ()
def PySem.W.Fast.tw18021425602365774600 : Unit := ()
def PySem.W.Fast.tw4645572314300059120 : Unit := ()
def PySem.W.Fast.tw12919931713247436492 : Unit := ()
def PySem.W.Fast.tw13760383161152576197 : Unit := ()
def PySem.W.Fast.tw9732141107695271956 : Unit := ()
def PySem.W.Fast.tw15653757578967738994 : Unit := ()
def PySem.W.Fast.tw5008781340306377360 : Unit := ()
def PySem.W.Fast.tw3754536187949921592 : Unit := ()
def PySem.W.Fast.tw5762604987681214561 : Unit := ()
def PySem.W.Fast.tw11140275889399952026 : Unit := ()
def PySem.W.Fast.tw5106276462543261435 : Unit := ()
def PySem.W.Fast.tw6539358782214458069 : Unit := ()
def PySem.W.Fast.tw6395629384127156809 : Unit := ()
def PySem.W.Fast.tw5383332514246964112 : Unit := ()
def PySem.W.Fast.tw2772488832446987586 : Unit := ()
def PySem.W.Fast.tw16350707539969071807 : Unit := ()
def PySem.W.Fast.tw9779071465521307593 : Unit := ()
def PySem.W.Fast.tw8716331838932724961 : Unit := ()
def PySem.W.Fast.tw12960935425392168012 : Unit := ()
def PySem.W.Fast.tw3622996542329262213 : Unit := ()
def PySem.W.Fast.tw8644591778437568661 : Unit := ()
def PySem.W.Fast.tw15050808414085359290 : Unit := ()
def PySem.W.Fast.tw4530192334275228047 : Unit := ()
def PySem.W.Fast.tw12880566193741853011 : Unit := ()
def PySem.W.Fast.tw14676678966264682484 : Unit := ()
def PySem.W.Fast.tw2828209401175701873 : Unit := ()
def PySem.W.Fast.tw790122362922290907 : Unit := ()
def PySem.W.Fast.tw3551813301239849868 : Unit := ()
def PySem.W.Fast.tw8418007751843483864 : Unit := ()
def PySem.W.Fast.tw5241117973068699849 : Unit := ()
def PySem.W.Fast.tw8411949239031658012 : Unit := ()
def PySem.W.Fast.tw14288136594149485412 : Unit := ()
def PySem.W.Fast.tw16695856271389006725 : Unit := ()
def PySem.W.Fast.tw1503081303903381288 : Unit := ()
def PySem.W.Fast.tw15123049737649634877 : Unit := ()
def PySem.W.Fast.tw11138884928848982984 : Unit := ()
def PySem.W.Fast.tw3283063648609223351 : Unit := ()
def PySem.W.Fast.tw6159242136102698935 : Unit := ()
def PySem.W.Fast.tw2825930205281286547 : Unit := ()
def PySem.W.Fast.tw9728460344334722438 : Unit := ()
def PySem.W.Fast.tw13954924067586407133 : Unit := ()
def PySem.W.Fast.tw15624955892534001802 : Unit := ()
def PySem.W.Fast.tw2864168588877188808 : Unit := ()
def PySem.W.Fast.tw16117150797279723196 : Unit := ()
def PySem.W.Fast.tw14603841774214798229 : Unit := ()
def PySem.W.Fast.tw10887491712865015028 : Unit := ()
def PySem.W.Fast.tw4522746996876208315 : Unit := ()
def PySem.W.Fast.tw18120983820627826454 : Unit := ()
def PySem.W.Fast.tw3962100364347911367 : Unit := ()
def PySem.W.Fast.tw5050695632322889638 : Unit := ()
def PySem.W.Fast.tw8917171373989038405 : Unit := ()
def PySem.W.Fast.tw12187586196958335178 : Unit := ()
def PySem.W.Fast.tw1067121942917216481 : Unit := ()
def PySem.W.Fast.tw9539429157925489459 : Unit := ()
def PySem.W.Fast.tw10782035148622702990 : Unit := ()
def PySem.W.Fast.tw5330575048479376131 : Unit := ()
def PySem.W.Fast.tw11173932979946221436 : Unit := ()
def PySem.W.Fast.tw8421927030549467786 : Unit := ()
def PySem.W.Fast.tw374161668085680039 : Unit := ()
def PySem.W.Fast.tw7705403656073399599 : Unit := ()
def PySem.W.Fast.tw1812957775036818589 : Unit := ()
def PySem.W.Fast.tw4518839676608549234 : Unit := ()
def PySem.W.Fast.tw10754475634565987571 : Unit := ()
def PySem.W.Fast.tw7607335109163516550 : Unit := ()
def PySem.W.Fast.tw529069782182180444 : Unit := ()
def PySem.W.Fast.tw11883818219809684772 : Unit := ()
def PySem.W.Fast.tw13109756658527917206 : Unit := ()
def PySem.W.Fast.tw5854693899421478874 : Unit := ()
def PySem.W.Fast.tw16520252166933643021 : Unit := ()
def PySem.W.Fast.tw2181477603013018226 : Unit := ()
def PySem.W.Fast.tw3030214826226214172 : Unit := ()
open PySem PySem.W PyProof.Rows
set_option maxRecDepth 100000 in
set_option maxHeartbeats 0 in
theorem PySem.Challenge.cw_manypurses_k18_whole_two_worlds_holds : PySem.Challenge.rw_manypurses_k18_whole_two_worlds.Holds := by
  w_on; o_law; k_head; (case hw=>w_witness2)
  k_fill
  refine L2.walk_ofK (l:=PySem.Challenge.rw_manypurses_k18_whole_two_worlds) (n:=63) (k:=12) (x := "_law_script") (CX:=L2.CX0) (sp:=M.sp_law) rfl (by decide) rfl ⟨rfl,by decide,by decide⟩ (fun w h Y=>PySem.W.kIn_of Y) ?F ?S ?C
  case F=>
    intro w mg fa h KX G hmg
    refine' M.all_mk KX G hmg ?cm0 ?cg0 ?ch0 ?co0 ?cs0 ?cn0_0 ?cn0_1 ?cm1 ?cg1 ?ch1 ?co1 ?cs1 ?cn1_0 ?cn1_1 ?cn1_2 ?cn1_3 ?cn1_4 ?cn1_5 ?cn1_6 ?cm2 ?cg2 ?ch2 ?co2 ?cs2 ?cn2_0 ?cn2_1 ?cn2_2 ?cn2_3 ?cn2_4 ?cn2_5 ?cn2_6 ?cn2_7 ?cm3 ?cg3 ?ch3 ?co3 ?cs3 ?cn3_0 ?cn3_1 ?cn3_2 ?xm0 ?xm1 ?xm2 ?xm3 ?xm4 ?xm5 ?xm6 ?xm7 ?xm8 ?xm9 ?xm10 ?xm11 ?a0 ?l0 ?c0 ?k0 ?a1 ?l1 ?c1 ?k1 ?a2 ?l2 ?c2 ?k2 ?e2 ?a3 ?l3 ?c3 ?k3 ?a4 ?l4 ?c4 ?k4 ?a5 ?l5 ?c5 ?k5 ?a6 ?l6 ?c6 ?k6 ?a7 ?l7 ?c7 ?k7 ?a8 ?l8 ?c8 ?k8 ?a9 ?l9 ?c9 ?k9 ?a10 ?l10 ?c10 ?k10 ?a11 ?l11 ?c11 ?k11 ?a12 ?l12 ?c12 ?k12 ?a13 ?l13 ?c13 ?k13 ?a14 ?n14 ?mk14 ?mq14 ?l14 ?c14 ?k14 ?a15 ?n15 ?l15 ?c15 ?k15 ?a16 ?n16 ?l16 ?c16 ?k16 ?a17 ?n17 ?l17 ?c17 ?k17 ?a18 ?n18 ?mk18 ?mq18 ?l18 ?c18 ?k18 ?a19 ?n19 ?l19 ?c19 ?k19 ?a20 ?n20 ?l20 ?c20 ?k20 ?a21 ?n21 ?l21 ?c21 ?k21 ?a22 ?n22 ?mk22 ?mq22 ?l22 ?c22 ?k22 ?a23 ?n23 ?l23 ?c23 ?k23 ?a24 ?n24 ?l24 ?c24 ?k24 ?a25 ?n25 ?l25 ?c25 ?k25 ?a26 ?n26 ?l26 ?c26 ?k26 ?a27 ?n27 ?l27 ?c27 ?k27 ?a28 ?n28 ?l28 ?c28 ?k28 ?a29 ?n29 ?mk29 ?mq29 ?l29 ?c29 ?k29 ?e29 ?ef29 ?eg29 ?eh29 ?a30 ?n30 ?l30 ?c30 ?k30 ?a31 ?n31 ?l31 ?c31 ?k31 ?a32 ?n32 ?l32 ?c32 ?k32 ?a33 ?n33 ?l33 ?c33 ?k33 ?a34 ?n34 ?l34 ?c34 ?k34 ?a35 ?n35 ?l35 ?c35 ?k35 ?a36 ?n36 ?l36 ?c36 ?k36 ?a37 ?n37 ?l37 ?c37 ?k37 ?a38 ?n38 ?l38 ?c38 ?k38 ?a39 ?n39 ?l39 ?c39 ?k39 ?a40 ?n40 ?l40 ?c40 ?k40 ?a41 ?n41 ?l41 ?c41 ?k41 ?a42 ?n42 ?l42 ?c42 ?k42 ?a43 ?n43 ?l43 ?c43 ?k43 ?a44 ?n44 ?l44 ?c44 ?k44 ?a45 ?l45 ?c45 ?k45 ?a46 ?l46 ?c46 ?k46 ?a47 ?l47 ?c47 ?k47 ?a48 ?l48 ?c48 ?k48 ?a49 ?l49 ?c49 ?k49 ?a50 ?l50 ?c50 ?k50 ?a51 ?l51 ?c51 ?k51 ?ih0 ?ih1 ?ih2 ?yp0 ?yr0 ?yf0 ?hgc0 ?hgc1 ?hgc2 ?hgc3 ?hgc4 ?hgc5 ?hgc6 ?hgc7 ?hgc8 ?xr0 ?xg0 ?xh0 ?xj0 ?xp0 ?xo0 ?xs0 ?xk0 ?xc0_0 ?xr1 ?xg1 ?xh1 ?xj1 ?xp1 ?xo1 ?xs1 ?xk1 ?xc1_0 ?xb0 ?z0 ?z1 ?z2 ?z3 ?z4 ?z5 ?z6 ?z7 ?z8 ?z9 ?z10 ?z11
    (case cm0 | cg0 | ch0 | co0 | cs0 | cn0_0 | cn0_1 | cm1 | cg1 | ch1 | co1 | cs1 | cn1_0 | cn1_1 | cn1_2 | cn1_3 | cn1_4 | cn1_5 | cn1_6 | cm2 | cg2 | ch2 | co2 | cs2 | cn2_0 | cn2_1 | cn2_2 | cn2_3 | cn2_4 | cn2_5 | cn2_6 | cn2_7 | cm3 | cg3 | ch3 | co3 | cs3 | cn3_0 | cn3_1 | cn3_2=>k_is)
    (case xm0 | xm1 | xm2 | xm3 | xm4 | xm5 | xm6 | xm7 | xm8 | xm9 | xm10 | xm11 | a0 | l0 | c0 | k0 | a1 | l1 | c1 | k1 | a2 | l2 | c2 | k2 | e2 | a3 | l3 | c3 | k3 | a4 | l4 | c4 | k4 | a5 | l5 | c5 | k5 | a6 | l6 | c6=>k_is)
    (case k6 | a7 | l7 | c7 | k7 | a8 | l8 | c8 | k8 | a9 | l9 | c9 | k9 | a10 | l10 | c10 | k10 | a11 | l11 | c11 | k11 | a12 | l12 | c12 | k12 | a13 | l13 | c13 | k13 | a14 | n14 | mk14 | mq14 | l14 | c14 | k14 | a15 | n15 | l15 | c15=>k_is)
    (case k15 | a16 | n16 | l16 | c16 | k16 | a17 | n17 | l17 | c17 | k17 | a18 | n18 | mk18 | mq18 | l18 | c18 | k18 | a19 | n19 | l19 | c19 | k19 | a20 | n20 | l20 | c20 | k20 | a21 | n21 | l21 | c21 | k21 | a22 | n22 | mk22 | mq22 | l22 | c22 | k22=>k_is)
    (case a23 | n23 | l23 | c23 | k23 | a24 | n24 | l24 | c24 | k24 | a25 | n25 | l25 | c25 | k25 | a26 | n26 | l26 | c26 | k26 | a27 | n27 | l27 | c27 | k27 | a28 | n28 | l28 | c28 | k28 | a29 | n29 | mk29 | mq29 | l29 | c29 | k29 | e29 | ef29 | eg29=>k_is)
    (case eh29 | a30 | n30 | l30 | c30 | k30 | a31 | n31 | l31 | c31 | k31 | a32 | n32 | l32 | c32 | k32 | a33 | n33 | l33 | c33 | k33 | a34 | n34 | l34 | c34 | k34 | a35 | n35 | l35 | c35 | k35 | a36 | n36 | l36 | c36 | k36 | a37 | n37 | l37 | c37=>k_is)
    (case k37 | a38 | n38 | l38 | c38 | k38 | a39 | n39 | l39 | c39 | k39 | a40 | n40 | l40 | c40 | k40 | a41 | n41 | l41 | c41 | k41 | a42 | n42 | l42 | c42 | k42 | a43 | n43 | l43 | c43 | k43 | a44 | n44 | l44 | c44 | k44 | a45 | l45 | c45 | k45=>k_is)
    (case a46 | l46 | c46 | k46 | a47 | l47 | c47 | k47 | a48 | l48 | c48 | k48 | a49 | l49 | c49 | k49 | a50 | l50 | c50 | k50 | a51 | l51 | c51 | k51 | ih0 | ih1 | ih2=>k_is)
    (case yp0 | yr0 | yf0=>kernel_rfl)
    (case hgc0 | hgc1 | hgc2 | hgc3 | hgc4 | hgc5 | hgc6 | hgc7 | hgc8=>k_is)
    (case xr0=>kernel_rfl)
    (case xg0 | xh0 | xj0 | xp0 | xo0=>k_is)
    (case xs0 | xk0 | xc0_0 | xr1=>kernel_rfl)
    (case xg1 | xh1 | xj1 | xp1 | xo1=>k_is)
    (case xs1 | xk1 | xc1_0=>kernel_rfl)
    (case xb0 | z0 | z1 | z2 | z3 | z4 | z5 | z6 | z7 | z8 | z9 | z10 | z11=>k_is)
  case S=>exact fun K H a ns hl _ hS=>⟨a,ns,rfl,hS,hl,fun _=>rfl⟩
  case C=>exact fun _ _ _ _ z=>z
