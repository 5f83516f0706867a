import PyProof.Rows.All
import Wide.All
import OpenK.AllK
import Wide.FinOn
import Lean
import PyProof.EqAt
import PyProof.EqKinds
import PyProof.TupleCall
import PyProof.NeKinds
import PySem.Challenge.RW_manypurses_k06_whole_honest_get
open List (mem_filter mem_range filterMap_cons mem_cons_self mem_cons_of_mem mem_cons mem_append mem_append_left getElem?_set_self getElem?_set_ne mem_filterMap mem_append_right size_toArray length_cons map_cons length_map append_nil nodup_cons length_take getElem?_map mem_of_getElem? length_append length_replicate map_nil length_set any_cons replicate_succ flatten_cons foldl_cons find?_cons nodup_nil mem_map lookup_cons all_eq_true mem_singleton getElem?_eq_getElem map_append getD_eq_getElem?_getD mem_iff_getElem length_eraseIdx_le length_eq_one_iff length_range nodup_range map_set mem_map_of_mem map_map nodup_append length_filter_le filter_append take_length mem_of_mem_erase length_erase_of_mem length_pos_of_mem eq_of_mem_replicate sum_cons mem_or_eq_of_mem_set filter_cons_of_pos filter_cons_of_neg not_mem_nil length_pos_iff)
open Nat (lt_of_lt_of_le lt_irrefl ne_of_lt le_trans le_of_lt le_refl zero_le lt_succ_self le_succ lt_of_le_of_lt le_succ_of_le mul_le_mul_left mul_add)
set_option Elab.async false
set_option genSizeOf false
set_option genInjectivity false
set_option linter.all false
set_option maxRecDepth 100000
theorem aP (a:True:=by rfl) (b:True:=by decide) (c:True:=by intro _; rfl) (d:True:=by decide +kernel) (e:True:=by first | exact .inl rfl | exact .inr rfl | assumption) (f:True:=by intro vs H Q E h; repeat (first | (obtain ⟨rfl,_⟩:=h; rfl) | (obtain ⟨_,h⟩:=h))) (g:True:=by exact True.intro) (h:True:=by exact fsc) : True:=a
def aP1:=aP._auto_1
def aP2:=aP._auto_2
def aP3:=aP._auto_3
def aP4:=aP._auto_4
def aP5:=aP._auto_5
def aP6:=aP._auto_6
def aP7:=aP._auto_7
def aP8:=aP._auto_8
namespace L2
open PySem PySem.Spec PyProof.Rows
abbrev Key:=Sum Int Str
def jt0:Key -> Value -> Bool
 | .inl k,v=>Value.isInt k v
 | .inr x,v=>Value.isStrOf x v
def j8y (w:World) : Key -> Int
 | .inl k=>hashInt k
 | .inr x=>hashStr w x
theorem xm : ∀ {k:Key} {v:Value},jt0 k v = true -> (∃ i t,k = Sum.inl i /\ v = Value.int i t) \/ (∃ x t,k = Sum.inr x /\ v = Value.str x t)
 | .inl i,v,h=>by
  obtain ⟨t,e⟩:=Value.isInt_shape (k:=i) (v:=v) h
  exact .inl ⟨i,t,rfl,e⟩
 | .inr x,v,h=>by
  obtain ⟨t,e⟩:=Value.isStrOf_shape (x:=x) (v:=v) h
  exact .inr ⟨x,t,rfl,e⟩
theorem jxi (i:Int) (t:Tok) : jt0 (.inl i) (.int i t) = true:=by simp [jt0,Value.isInt]
theorem jww (x:Str) (t:Tok) : jt0 (.inr x) (.str x t) = true:=by simp [jt0,Value.isStrOf]
theorem j4i (a b:Int) : decide ((Sum.inl a:Key) = Sum.inl b) = (a == b):=by
 by_cases e:a = b
 .subst e; simp
 .have h : ¬ (Sum.inl a:Key) = Sum.inl b:=λq=>e (Sum.inl.inj q)
  rw [decide_eq_false h]
  exact (beq_eq_false_iff_ne.mpr e).symm
theorem j33 (a b:Str) : decide ((Sum.inr a:Key) = Sum.inr b) = decide (a = b):=by
 by_cases e:a = b
 .subst e; simp
 .have h : ¬ (Sum.inr a:Key) = Sum.inr b:=λq=>e (Sum.inr.inj q)
  rw [decide_eq_false h,decide_eq_false e]
theorem j4a (a:Int) (b:Str) : decide ((Sum.inl a:Key) = Sum.inr b) = false:=decide_eq_false (λq=>nomatch q)
theorem j4x (a:Str) (b:Int) : decide ((Sum.inr a:Key) = Sum.inl b) = false:=decide_eq_false (λq=>nomatch q)
def zf (prog:Program) (w:World) : PySem.KeyKind prog w Key where
 is:=jt0
 hash:=j8y w
 inj := λv a b ha hb=>by
  rcases xm ha with ⟨i,t,rfl,rfl⟩ | ⟨x,t,rfl,rfl⟩
  .rcases xm hb with ⟨j,u,rfl,e⟩ | ⟨y,u,rfl,e⟩
   .injection e with e1 _; rw [e1]
   .exact nomatch e
  .rcases xm hb with ⟨j,u,rfl,e⟩ | ⟨y,u,rfl,e⟩
   .exact nomatch e
   .injection e with e1 _; rw [e1]
 byValue:=λk v h=>by
  rcases xm h with ⟨i,t,rfl,rfl⟩ | ⟨x,t,rfl,rfl⟩ <;> rfl
 pyHash:=λhv h=>by
  rcases xm hv with ⟨i,t,rfl,rfl⟩ | ⟨x,t,rfl,rfl⟩
  .exact wpAny_pyHash_int h
  .exact wpAny_pyHash_str h
 eqBool:=λhu hv h=>by
  rcases xm hu with ⟨i,t,rfl,rfl⟩ | ⟨x,t,rfl,rfl⟩
  .rcases xm hv with ⟨j,u,rfl,rfl⟩ | ⟨y,u,rfl,rfl⟩
   .rw [j4i] at h; exact wpAny_eqBool_int h
   .rw [j4a] at h; exact SeqAt.EqAt.int_str i t y u _ _ _ _ h
  .rcases xm hv with ⟨j,u,rfl,rfl⟩ | ⟨y,u,rfl,rfl⟩
   .rw [j4x] at h; exact SeqAt.EqAt.str_int x t j u _ _ _ _ h
   .rw [j33] at h; exact wpAny_eqBool_str h
 «strs» := λk x t v h=>by
  rcases xm h with ⟨i,u,rfl,e⟩ | ⟨y,u,rfl,e⟩
  .exact nomatch e
  .injection e with e1 _
   subst e1
   cases v <;> rfl
theorem jt5 (prog:Program) (w:World) (i:Int) (t:Tok) : (zf prog w).is (.inl i) (.int i t) = true:=jxi i t
theorem jt7 (prog:Program) (w:World) (x:Str) (t:Tok) : (zf prog w).is (.inr x) (.str x t) = true:=jww x t
end L2
namespace L2
open PySem PySem.Spec PyProof.Rows
set_option genInjectivity true in
inductive V where
 | non | bl (b:Bool) | int (i:Int) | str (x:Str) | byt (b:Array UInt8) | flt (b:UInt64) | ref (a:Addr) | ty (n:String)
 deriving DecidableEq
def RelV:V -> Value -> Prop
 | .non,u=>u = Value.none
 | .bl b,u=>u = Value.bool b
 | .int i,u=>∃ t,u = Value.int i t
 | .str x,u=>∃ t,u = Value.str x t
 | .byt b,u=>∃ t,u = Value.bytes b t
 | .flt b,u=>∃ t,u = Value.float b t
 | .ref a,u=>u = Value.ref a
 | .ty n,u=>u = Value.type n
abbrev Vals:List V -> List Value -> Prop:=Paired RelV
theorem Vals.length {xs:List V} {us:List Value} (r:Vals xs us) : xs.length = us.length:=Paired.length r
theorem Vals.get : ∀ {xs:List V} {us:List Value} {i:Nat} {x:V},Vals xs us -> xs[i]? = some x -> ∃ u,us[i]? = some u /\ RelV x u
 | _,_,_,_,.nil,e=>by simp at e
 | _,_,0,_,.cons r _,e=>by simp at e; subst e; exact ⟨_,rfl,r⟩
 | _,_,i + 1,x,.cons _ t,e=>by
  obtain ⟨u,h1,h2⟩:=Vals.get (i:=i) (x:=x) t (by simpa using e)
  exact ⟨u,by simpa using h1,h2⟩
theorem Vals.set {x:V} {u:Value} (r:RelV x u) : ∀ {xs:List V} {us:List Value} (i:Nat),Vals xs us -> Vals (xs.set i x) (us.set i u)
 | _,_,_,.nil=>.nil
 | _,_,0,.cons _ t=>.cons r t
 | _,_,i + 1,.cons q t=>.cons q (Vals.set r i t)
theorem Vals.append : ∀ {xs ys:List V} {us ws:List Value},Vals xs us -> Vals ys ws -> Vals (xs ++ ys) (us ++ ws)
 | _,_,_,_,.nil,s=>s
 | _,_,_,_,.cons r t,s=>.cons r (Vals.append t s)
theorem Vals.take : ∀ {xs:List V} {us:List Value} (n:Nat),Vals xs us -> Vals (xs.take n) (us.take n)
 | _,_,0,_=>.nil
 | _,_,_ + 1,.nil=>.nil
 | _,_,n + 1,.cons r t=>.cons r (Vals.take n t)
theorem Vals.drop : ∀ {xs:List V} {us:List Value} (n:Nat),Vals xs us -> Vals (xs.drop n) (us.drop n)
 | _,_,0,r=>r
 | _,_,_ + 1,.nil=>.nil
 | _,_,n + 1,.cons _ t=>Vals.drop n t
def jrs:Option V -> Option Value -> Prop
 | some v,some u=>RelV v u
 | none,none=>True
 | _,_=>False
def KV {B : Type} : List (B × V) -> List (B × Value) -> Prop:=Paired λ(p : B × V) (q : B × Value)=>p.1 = q.1 /\ RelV p.2 q.2
def kV:Key -> V
 | .inl i=>.int i
 | .inr x=>.str x
set_option genInjectivity true in
inductive HO where
  | lst (xs:List V)
  | tup (xs:List V)
  | dK (kvs:List (Key × V)) | dT (kvs:List (List Key × V))
  | set (S:Int -> Bool) (n:Nat)
  | ins (C dx:Addr) (fs:List (Str × V))
  | own (x:Addr)
  | xd (fs:List (Str × V))
  | met (f x:Addr)
  | rng (lo hi:Int)
  | frz (o:Obj) (u:HO)
  | tbl (ps:Array Value)
  | ext (φ : Heap -> Prop)
abbrev Hp:=Addr -> Option HO
def upd (H:Hp) (a:Addr) (o:HO) : Hp:=λb=>if b = a then some o else H b
theorem ja {H:Hp} {a:Addr} {o:HO} : upd H a o a = some o:=by unfold upd; rw [if_pos rfl]
theorem je {H:Hp} {a b:Addr} {o:HO} (h:b ≠ a) : upd H a o b = H b:=by unfold upd; rw [if_neg h]
theorem jtl {H:Hp} {a:Addr} {o u:HO} : upd (upd H a o) a u = upd H a u:=by
 funext b; unfold upd; split <;> rfl
theorem jly {H:Hp} {a b:Addr} {o u:HO} (h:H a = some o) (h':H b = some u) (d:o ≠ u) : a ≠ b:=by
 intro e; subst e; rw [h] at h'; exact d (Option.some.inj h')
theorem jj {H:Hp} {a b:Addr} {o:HO} (h:H a = some o) (h':H b = none) : a ≠ b:=by
 intro e; subst e; rw [h] at h'; cases h'
section
variable (P:Program) (w:World)
def wo (H:Hp) (h:Heap) (a:Addr) : HO -> Prop
 | .lst xs=>xs.length <= sizeLine /\ ∃ (its:List Value) (n:Nat),Vals xs its /\ h.get? a = some { cls:=.type "list",data:=.seq its.toArray n }
 | .tup xs=>xs.length <= sizeLine /\ ∃ its:List Value,Vals xs its /\ IsTup h a its.toArray
 | .dK kvs=>kvs.length <= sizeLine /\ (a == sysModules) = false /\ ∃ vs,KV kvs vs /\ h.DictOf (zf P w) a vs
 | .dT kvs=>kvs.length <= sizeLine /\ (a == sysModules) = false /\ ∃ xs:List (List Key × Addr × Value),
   Paired (λ(p:List Key × V) (q:List Key × Addr × Value)=>p.1 = q.1 /\ H q.2.1 = some (.tup (p.1.map kV)) /\ RelV p.2 q.2.2) kvs xs /\
   ∃ o es ep,h.get? a = some o /\ o.ExactDict /\ o.data = .dict es ep /\ es.toList = xs.map (entryOfKey (tupleKind (zf P w))) /\ (xs.map (·.1)).Nodup
 | .set S n=>h.SetOf (intKind P w) a S n
 | .ins C dx fs=>H dx = some (.own a) /\ fs.length <= 1000 /\ dx ≠ a /\ h.get? a = some (PySem.W.instObj C dx) /\
   ∃ mA,h.Ns1 dx mA /\ (∀ f,jrs (fs.lookup f) (mA f)) /\ PySem.Within mA (fs.map (·.1))
 | .own _=>∃ o,h.get? a = some o
 | .xd fs=>∃ mA,h.Ns1 a mA /\ ∀ f,jrs (fs.lookup f) (mA f)
 | .rng lo hi=>∃ t u v,h.get? a = some { cls:=.type "range",data:=.fields #[.int lo t,.int hi u,.int 1 v] }
 | .frz o u=>h.get? a = some o /\ wo H h a u
 | .tbl ps=>h.get? a = some { cls:=.none,data:=.fields ps }
 | .met f x=>h.get? a = some (PySem.W.methodObj (.ref f) (.ref x))
 | .ext φ=>φ h /\ (∃ o,h.get? a = some o) /\ ∀ h1 h2:Heap,φ h1 -> (∀ o,h1.get? a = some o -> h2.get? a = some o) -> φ h2
def HOk (H:Hp) (h:Heap) : Prop:=∀ a o,H a = some o -> wo P w H h a o
end
section
variable {P:Program} {w:World} {H H':Hp} {h h':Heap} {a:Addr} {o:HO}
theorem wo.lt (x:wo P w H h a o) : a < h.objs.size:=by
 cases o with
 | lst xs=>obtain ⟨_,_,_,_,e⟩:=x; exact Heap.lt_size e
 | tup xs=>obtain ⟨_,_,_,p⟩:=x; exact p.lt
 | dK kvs=>obtain ⟨_,_,_,_,o,_,_,e,_⟩:=x; exact Heap.lt_size e
 | dT kvs=>obtain ⟨_,_,_,_,o,_,_,e,_⟩:=x; exact Heap.lt_size e
 | set S n=>obtain ⟨o,_,_,_,e,_⟩:=x; exact Heap.lt_size e
 | ins C dx fs=>obtain ⟨_,_,_,e,_⟩:=x; exact Heap.lt_size e
 | own y=>obtain ⟨_,e⟩:=x; exact Heap.lt_size e
 | xd fs=>obtain ⟨_,⟨_,_,_,e,_⟩,_⟩:=x; exact Heap.lt_size e
 | rng lo hi=>obtain ⟨_,_,_,e⟩:=x; exact Heap.lt_size e
 | frz ob u=>obtain ⟨e,_⟩:=x; exact Heap.lt_size e
 | tbl ps=>exact Heap.lt_size (show h.get? a = some _ from x)
 | met f y=>exact Heap.lt_size (show h.get? a = some _ from x)
 | ext φ=>obtain ⟨_,⟨_,e⟩,_⟩:=x; exact Heap.lt_size e
theorem Paired.vb {α β : Type} {F G : α -> β -> Prop} : ∀ {l₁:List α} {l₂:List β},Paired F l₁ l₂ -> (∀ a b,F a b -> G a b) -> Paired G l₁ l₂
 | _,_,.nil,_=>.nil
 | _,_,.cons r t,f=>.cons (f _ _ r) (Paired.vb t f)
theorem wo.jpk (x:wo P w H h a o) (k : ∀ b u,(b = a \/ H b = some (.own a)) -> h.get? b = some u -> h'.get? b = some u)
  (ho : ∀ b,H b = some (.own a) -> H' b = some (.own a)) (ht : ∀ b xs,H b = some (.tup xs) -> H' b = some (.tup xs)) : wo P w H' h' a o:=by
 induction o with
 | lst xs=>obtain ⟨z,its,n,r,e⟩:=x; exact ⟨z,its,n,r,k _ _ (.inl rfl) e⟩
 | tup xs=>obtain ⟨z,its,r,ob,e,c⟩:=x; exact ⟨z,its,r,ob,k _ _ (.inl rfl) e,c⟩
 | dK kvs=>obtain ⟨z,y,vs,r,ob,es,ep,e,c⟩:=x; exact ⟨z,y,vs,r,ob,es,ep,k _ _ (.inl rfl) e,c⟩
 | dT kvs=>
  obtain ⟨z,y,xs,r,ob,es,ep,e,c⟩:=x
  exact ⟨z,y,xs,Paired.vb r λp q z=>⟨z.1,ht _ _ z.2.1,z.2.2⟩,ob,es,ep,k _ _ (.inl rfl) e,c⟩
 | set S n=>obtain ⟨ob,es,ep,t,e,c⟩:=x; exact ⟨ob,es,ep,t,k _ _ (.inl rfl) e,c⟩
 | ins C dx fs=>
  obtain ⟨d,z,ne,e,mA,⟨od,es,ep,e2,c⟩,r⟩:=x
  exact ⟨ho _ d,z,ne,k _ _ (.inl rfl) e,mA,⟨od,es,ep,k _ _ (.inr d) e2,c⟩,r⟩
 | own y=>obtain ⟨ob,e⟩:=x; exact ⟨ob,k _ _ (.inl rfl) e⟩
 | xd fs=>obtain ⟨mA,⟨od,es,ep,e,c⟩,r⟩:=x; exact ⟨mA,⟨od,es,ep,k _ _ (.inl rfl) e,c⟩,r⟩
 | rng lo hi=>obtain ⟨t,u,v,e⟩:=x; exact ⟨t,u,v,k _ _ (.inl rfl) e⟩
 | frz ob u ih=>obtain ⟨e,q⟩:=x; exact ⟨k _ _ (.inl rfl) e,ih q⟩
 | tbl ps=>
  have e:h.get? a = some { cls:=.none,data:=.fields ps }:=x
  show h'.get? a = some { cls:=.none,data:=.fields ps }
  exact k a _ (.inl rfl) e
 | met f y=>
  have e:h.get? a = some (PySem.W.methodObj (.ref f) (.ref y)):=x
  show h'.get? a = some (PySem.W.methodObj (.ref f) (.ref y))
  exact k a _ (.inl rfl) e
 | ext φ=>obtain ⟨p,⟨o,e⟩,st⟩:=x; exact ⟨st _ _ p λo q=>k _ _ (.inl rfl) q,⟨o,k _ _ (.inl rfl) e⟩,st⟩
theorem HOk.lt (x:HOk P w H h) (e:H a = some o) : a < h.objs.size:=(x a o e).lt
theorem HOk.fresh (x:HOk P w H h) (e:h.objs.size <= a) : H a = none:=by
 cases q:H a with
 | none=>rfl
 | some u=>exact absurd (lt_of_lt_of_le (x.lt q) e) (lt_irrefl _)
theorem HOk.kept (x:HOk P w H h) (k : ∀ b u,h.get? b = some u -> h'.get? b = some u) : HOk P w H h':=λa o e=>
 (x a o e).jpk (λb u _ q=>k b u q) (λ_ q=>q) λ_ _ q=>q
theorem HOk.laid (x:HOk P w H h) (k : ∀ b u,h.get? b = some u -> h'.get? b = some u) (hp:h.objs.size <= a) (new:wo P w (upd H a o) h' a o) : HOk P w (upd H a o) h':=λb u e=>by
 have hn:=x.fresh hp
 by_cases hb:b = a
 .subst hb; rw [ja] at e; cases e; exact new
 .rw [je hb] at e
  exact (x b u e).jpk (λc v _ q=>k c v q) (λc q=>by rw [je (jj q hn)]; exact q) λc xs q=>by rw [je (jj q hn)]; exact q
end
def Rd (H:Hp) (a:Addr) (u:HO) : Prop:=H a = some u \/ ∃ o,H a = some (.frz o u)
theorem Rd.ok {P:Program} {w:World} {H:Hp} {h:Heap} {a:Addr} {u:HO} (r:Rd H a u) (x:HOk P w H h) : wo P w H h a u:=by
 rcases r with r | ⟨o,r⟩
 .exact x a u r
 .obtain ⟨_,q⟩:=x a _ r
  exact q
def Mut:Option HO -> Prop
 | some (.lst _)=>True
 | some (.dK _)=>True
 | some (.dT _)=>True
 | some (.set _ _)=>True
 | some (.ins _ _ _)=>True
 | some (.ext _)=>True
 | _=>False
section
variable {P:Program} {w:World} {H:Hp} {h h':Heap} {x e:Addr} {o':HO}
theorem HOk.write (ok:HOk P w H h) (mu:Mut (H x)) (he:e = x \/ H e = some (.own x)) (k : ∀ b u,b ≠ e -> h.get? b = some u -> h'.get? b = some u) (heo : ∃ u,h'.get? e = some u)
  (new:wo P w (upd H x o') h' x o') : HOk P w (upd H x o') h':=λb u q=>by
 have nown : ∀ c y,H c = some (.own y) -> c ≠ x:=λc y r z=>by subst z; rw [r] at mu; exact mu
 have ntup : ∀ c xs,H c = some (.tup xs) -> c ≠ x:=λc xs r z=>by subst z; rw [r] at mu; exact mu
 by_cases hb:b = x
 .subst hb; rw [ja] at q; cases q; exact new
 .rw [je hb] at q
  by_cases hbe:b = e
  .have q':H b = some (.own x):=by
    rcases he with z | z
    .exact absurd (hbe.trans z) hb
    .rw [hbe]; exact z
   rw [q] at q'; cases q'
   obtain ⟨v,hv⟩:=heo
   exact ⟨v,by rw [hbe]; exact hv⟩
  .refine (ok b u q).jpk (λc v hc r=>k c v ?_ r) (λc r=>by rw [je (nown c b r)]; exact r) λc xs r=>by rw [je (ntup c xs r)]; exact r
   rcases hc with rfl | hc
   .exact hbe
   .rintro rfl
    rcases he with z | z
    .exact nown c b hc z
    .rw [hc] at z; cases z; exact hb rfl
end
structure Un (fs ex:List Addr) (H H':Hp) (h h':Heap) : Prop where
 keep : ∀ b o,h.get? b = some o -> H b = none -> b ∉ fs -> b ∉ ex -> h'.get? b = some o
 slot : ∀ b o,h.get? b = some o -> H b = none -> b ∈ fs -> b ∉ ex -> ∃ sl,h'.get? b = some { o with slots:=sl }
 free : ∀ b o,h.get? b = some o -> H b = none -> b ∉ ex -> H' b = none
 there : ∀ b o,h.get? b = some o -> b ∉ ex -> ∃ o',h'.get? b = some o'
 jrr : ∀ b xs,H b = some (.tup xs) -> H' b = some (.tup xs)
 jrc : ∀ b o u,H b = some (.frz o u) -> H' b = some (.frz o u)
 jsc : ∀ b ps,H b = some (.tbl ps) -> ∃ more,H' b = some (.tbl (ps ++ more))
section
variable {fs fs' ex ex':List Addr} {H H1 H2:Hp} {h h1 h2 h':Heap} {a x e:Addr} {o:HO}
theorem Un.any (u:Un fs ex H H1 h h1) {b:Addr} {ob:Obj} (q:h.get? b = some ob) (n:H b = none) (hx:b ∉ ex) : ∃ sl,h1.get? b = some { ob with slots:=sl }:=by
 by_cases hb:b ∈ fs
 .exact u.slot b ob q n hb hx
 .exact ⟨ob.slots,u.keep b ob q n hb hx⟩
theorem Un.kept (k : ∀ b u,h.get? b = some u -> h'.get? b = some u) : Un fs ex H H h h':=
 ⟨λb ob q _ _ _=>k b ob q,λb ob q _ _ _=>⟨ob.slots,k b ob q⟩,λ_ _ _ n _=>n,λb ob q _=>⟨ob,k b ob q⟩,λ_ _ q=>q,λ_ _ _ q=>q,λ_ ps q=>⟨#[],by rw [q]; simp⟩⟩
theorem Un.refl:Un fs ex H H h h:=Un.kept λ_ _ q=>q
theorem Un.laid (k : ∀ b u,h.get? b = some u -> h'.get? b = some u) (hp:h.objs.size <= a) (hn:H a = none) : Un fs ex H (upd H a o) h h' where
 keep:=λb u q _ _ _=>k b u q
 slot:=λb u q _ _ _=>⟨u.slots,k b u q⟩
 free:=λb u q n _=>by rw [je (ne_of_lt (lt_of_lt_of_le (Heap.lt_size q) hp))]; exact n
 there:=λb u q _=>⟨u,k b u q⟩
 jrr:=λb xs q=>by rw [je (jj q hn)]; exact q
 jrc:=λb u xs q=>by rw [je (jj q hn)]; exact q
 jsc:=λb ps q=>⟨#[],by rw [je (jj q hn),q]; simp⟩
theorem Un.write (mu:Mut (H x)) (he:e = x \/ H e = some (.own x)) (k : ∀ b u,b ≠ e -> h.get? b = some u -> h'.get? b = some u) (heo : ∃ u,h'.get? e = some u) : Un fs ex H (upd H x o) h h':=by
 have hx : ∀ b,H b = none -> b ≠ x:=λb n z=>by subst z; rw [n] at mu; exact mu
 have hb : ∀ b,H b = none -> b ≠ e:=λb n z=>by
  subst z
  rcases he with r | r
  .exact hx b n r
  .rw [n] at r; cases r
 have hm : ∀ b u,H b = some u -> ¬ Mut (some u) -> b ≠ x:=λb u q nm z=>by subst z; rw [q] at mu; exact nm mu
 refine ⟨λb u q n _ _=>k b u (hb b n) q,λb u q n _ _=>⟨u.slots,k b u (hb b n) q⟩,λb u q n _=>by rw [je (hx b n)]; exact n,λb u q _=>?_,
  λb xs q=>by rw [je (hm b _ q λz=>z)]; exact q,λb u xs q=>by rw [je (hm b _ q λz=>z)]; exact q,λb ps q=>⟨#[],by rw [je (hm b _ q λz=>z),q]; simp⟩⟩
 by_cases hbe:b = e
 .subst hbe; exact heo
 .exact ⟨u,k b u hbe q⟩
end
def trk (h:Heap) (H:Hp) : List Addr:=(List.range h.objs.size).filter λa=>(H a).isSome
def jy5 (h:Heap) (H:Hp) : Heap:=PySem.W.hideAll h (trk h H)
theorem jw9 (h:Heap) (H:Hp) : (jy5 h H).objs.size = h.objs.size:=PySem.W.hideAll_size _ _
theorem jzj {h:Heap} {H:Hp} {b:Addr} {o:Obj} (e:h.get? b = some o) (n:H b = none) : (jy5 h H).get? b = some o:=
 PySem.W.hideAll_get _ e λhm=>by
  have q:(H b).isSome = true:=(mem_filter.mp hm).2
  rw [n] at q; simp at q
theorem j1i {h:Heap} {H:Hp} {b:Addr} {o:Obj} (e:(jy5 h H).get? b = some o) : h.get? b = some o /\ H b = none:=by
 have e':h.get? b = some o:=PySem.W.of_hideAll (trk h H) e
 refine ⟨e',?_⟩
 cases q:H b with
 | none=>rfl
 | some x=>
  have hm:b ∈ trk h H:=mem_filter.mpr ⟨mem_range.mpr (Heap.lt_size e'),by simp [q]⟩
  have z:(jy5 h H).get? b = none:=PySem.W.hideAll_none (trk h H) hm
  rw [z] at e; cases e
end L2
namespace L2
open PySem PySem.Spec PyProof.Rows
structure Mod (K:PySem.W.Frag) (mg:Str -> Option Value) (base:Heap) : Prop where
 kin:K.In base
 glob:base.Ns mainGlobals mg
 blt : ∃ mb,base.Ns builtinsNs mb /\ ∀ x:Str,x ≠ "__name__" -> mb x = bootBuiltins x
 nolimit:base.NoLimit
structure Cx where
 prog:Program
 w:World
 K:PySem.W.Frag
 mg:Str -> Option Value
 base:Heap
 A:Around
 N:List Str
 s₀:Shared
 H₀:Hp
 env:Env
 outer:List Env
 stack:List Env
 ex:List Addr
 fn:Str -> Bool
 calm:Bool
 pn:List (Addr × Obj)
 xe:Value -> Shared -> Prop
def frs (l:List Env) : List Addr:=l.filterMap (·.frame)
abbrev Cx.fs (X:Cx) : List Addr:=frs X.outer
def Vis (sc:Scope) (x:Str) : Prop:=sc.names.lookup x = some .local \/ sc.names.lookup x = some .cell \/ sc.names.lookup x = some .free
def Loc (sc:Scope) (x:Str) : Prop:=sc.names.lookup x = some .local \/ sc.names.lookup x = some .cell
def Look (env:Env) (h:Heap) (m:Str -> Option Value) (x:Str) (u:Value) : Prop:=
 (env.kindOf x = some .local /\ m x = some u) \/ ((env.kindOf x = some .cell \/ env.kindOf x = some .free) /\ ∃ c,env.cells.lookup x = some c /\ h.IsCell c (some u))
structure Cx.Ok (X:Cx) : Prop where
 mod:Mod X.K X.mg X.base
 kind:X.env.scope.kind = .function
 glob:X.env.globals = mainGlobals
 blt:X.env.builtins = builtinsNs
 above:X.s₀.heap.objs.size <= X.env.locals
 inj : ∀ x y c,X.env.cells.lookup x = some c -> X.env.cells.lookup y = some c -> x = y
 has : ∀ x,(X.env.kindOf x = some .cell \/ X.env.kindOf x = some .free) -> ∃ c,X.env.cells.lookup x = some c
 cab : ∀ x c,X.fn x = true -> X.env.cells.lookup x = some c -> X.s₀.heap.objs.size <= c
 hd:X.calm = true -> X.A.handled = none
 frames:X.A.frames = some X.stack
 stk:X.stack = X.outer \/ (X.stack = X.env :: X.outer /\ X.env.frame = some X.env.locals)
 exf : ∀ b ∈ X.ex,b ≠ X.env.locals /\ ∀ x c,X.env.cells.lookup x = some c -> c ≠ b
 bs : ∀ b o,X.base.get? b = some o -> X.s₀.heap.get? b = some o /\ X.H₀ b = none
 bsz:X.base.objs.size <= X.s₀.heap.objs.size
 j12 : ∀ b o,X.base.get? b = some o -> b ∉ X.ex
 j3f : ∀ b ∈ X.ex,b ∉ X.fs
 jte:X.s₀.heap.FunFrames X.base X.outer
 frf : ∀ b ∈ X.fs,X.H₀ b = none
structure Inv (X:Cx) (pins:List (Addr × Obj)) (U : List (Option V)) (H:Hp) (s:Shared) : Prop where
 ok:X.Ok
 os:s.os = X.s₀.os
 bare:AllBare s.gens
 base:Un X.fs X.ex X.H₀ H X.s₀.heap s.heap
 loc : ∃ m,s.heap.Ns X.env.locals m /\ ∀ (i:Nat) (x:Str) (v:V),X.N[i]? = some x -> U[i]? = some (some v) -> Vis X.env.scope x -> ∃ u,RelV v u /\ Look X.env s.heap m x u
 cell : ∀ x c,X.env.cells.lookup x = some c -> ∃ v,s.heap.IsCell c v
 free:H X.env.locals = none
 jfs : ∀ x c,X.env.cells.lookup x = some c -> H c = none
 pin : ∀ p ∈ X.pn ++ pins,s.heap.get? p.1 = some p.2 /\ H p.1 = none /\ p.1 ≠ X.env.locals /\ p.1 ∉ X.fs /\ ∀ v,p.2.data ≠ .cell v
 hok:HOk X.prog X.w H s.heap
 len : U.length = X.N.length
section
variable {X:Cx} {pins:List (Addr × Obj)} {U : List (Option V)} {H H':Hp} {s:Shared} {h':Heap}
theorem Cx.Ok.j8v (ok:X.Ok) {b:Addr} {o:Obj} (e:X.base.get? b = some o) : b ∉ X.fs:=λhb=>by
 have:=(ok.jte.mem hb).1
 rw [e] at this; cases this
theorem Inv.bs (I:Inv X pins U H s) : ∀ b o,X.base.get? b = some o -> s.heap.get? b = some o /\ H b = none:=λb o e=>
 ⟨I.base.keep b o (I.ok.bs b o e).1 (I.ok.bs b o e).2 (I.ok.j8v e) (I.ok.j12 b o e),I.base.free b o (I.ok.bs b o e).1 (I.ok.bs b o e).2 (I.ok.j12 b o e)⟩
theorem Inv.bk (I:Inv X pins U H s) : ∀ b o,X.base.get? b = some o -> s.heap.get? b = some o:=λb o e=>(I.bs b o e).1
theorem Inv.mod (I:Inv X pins U H s) : Mod X.K X.mg X.base:=I.ok.mod
theorem Inv.kIn (I:Inv X pins U H s) : X.K.In s.heap:=I.ok.mod.kin.keeps I.bk
theorem Inv.lt (I:Inv X pins U H s) : X.env.locals < s.heap.objs.size:=let ⟨_,hn,_⟩:=I.loc; hn.lt
theorem Inv.sz (I:Inv X pins U H s) : X.s₀.heap.objs.size <= s.heap.objs.size:=le_trans I.ok.above (le_of_lt I.lt)
theorem Inv.j7m (I:Inv X pins U H s) {a:Addr} (h:s.heap.objs.size <= a) : a ∉ X.fs:=λhb=>by
 obtain ⟨_,o,ho,_⟩:=I.ok.jte.mem hb
 exact absurd (lt_of_lt_of_le (Heap.lt_size ho) (le_trans I.sz h)) (lt_irrefl _)
theorem Inv.cne (I:Inv X pins U H s) : ∀ x c,X.env.cells.lookup x = some c -> c ≠ X.env.locals:=λx c e z=>by
 obtain ⟨v,o,ho,hd⟩:=I.cell x c e
 obtain ⟨m,⟨o',es,ep,ho',hd',_⟩,_⟩:=I.loc
 rw [z,ho'] at ho; cases ho; rw [hd'] at hd; cases hd
theorem Inv.jte (I:Inv X pins U H s) : s.heap.FunFrames X.base X.outer:=by
 have all : ∀ (l:List Env),(∀ b ∈ frs l,b ∈ X.fs) -> X.s₀.heap.FunFrames X.base l -> s.heap.FunFrames X.base l:=by
  intro l
  induction l with
  | nil=>intro _ _; trivial
  | cons env r ih=>
   intro hs hl
   obtain ⟨hk,⟨L,o,hf,hn,ho,hd⟩,hr⟩:=hl
   have hL:L ∈ X.fs:=hs L (by unfold frs; rw [filterMap_cons,hf]; exact mem_cons_self)
   obtain ⟨sl,e⟩:=I.base.slot L o ho (I.ok.frf L hL) hL λz=>I.ok.j3f L z hL
   exact ⟨hk,⟨L,_,hf,hn,e,hd⟩,ih (λb hb=>hs b (by unfold frs; rw [filterMap_cons,hf]; exact mem_cons_of_mem _ hb)) hr⟩
 exact all X.outer (λ_ hb=>hb) I.ok.jte
theorem Inv.stack (I:Inv X pins U H s) : s.heap.FunFrames X.base X.stack:=by
 rcases I.ok.stk with e | ⟨e,hf⟩
 .rw [e]; exact I.jte
 .rw [e]
  obtain ⟨m,hn,_⟩:=I.loc
  refine .cons (by rw [I.ok.kind]; decide) hf hn ?_ I.jte
  exact Heap.get?_none_of_le (le_trans I.ok.bsz I.ok.above)
theorem Inv.jn0 (I:Inv X pins U H s) : ∀ b ∈ frs X.stack,b ∈ X.env.locals :: X.fs:=λb hb=>by
 rcases I.ok.stk with e | ⟨e,hf⟩
 .rw [e] at hb; exact mem_cons_of_mem _ hb
 .rw [e] at hb
  unfold frs at hb
  rw [filterMap_cons,hf] at hb
  exact hb
theorem Inv.jqy (I:Inv X pins U H s) : ∀ b ∈ frs X.stack,H b = none:=λb hb=>by
 rcases mem_cons.mp (I.jn0 b hb) with e | hb
 .rw [e]; exact I.free
 .obtain ⟨_,o,ho,_⟩:=I.ok.jte.mem hb
  exact I.base.free b o ho (I.ok.frf b hb) λz=>I.ok.j3f b z hb
theorem Inv.step {g':Array GenState} {t':Nat} {d':Drawn} {ch:List Addr} (I:Inv X pins U H s)
  (hch : ∀ b ∈ ch,(b ∈ X.ex \/ X.s₀.heap.objs.size <= b) /\ b ≠ X.env.locals /\ (∀ x c,X.env.cells.lookup x = some c -> c ≠ b) /\ ∀ p ∈ X.pn ++ pins,p.1 ≠ b)
  (keep : ∀ b o,b ≠ X.env.locals -> b ∉ X.fs -> b ∉ ch -> s.heap.get? b = some o -> H b = none -> h'.get? b = some o)
  (slot : ∀ b o,b ≠ X.env.locals -> b ∈ X.fs -> b ∉ ch -> s.heap.get? b = some o -> H b = none -> ∃ sl,h'.get? b = some { o with slots:=sl }) (free : ∀ b o,b ∉ ch -> s.heap.get? b = some o -> H b = none -> H' b = none)
  (there : ∀ b o,b ∉ ch -> s.heap.get? b = some o -> ∃ o',h'.get? b = some o')
  (jrr : ∀ b xs,H b = some (.tup xs) -> H' b = some (.tup xs)) (jrc : ∀ b o u,H b = some (.frz o u) -> H' b = some (.frz o u)) (jsc : ∀ b ps,H b = some (.tbl ps) -> ∃ more,H' b = some (.tbl (ps ++ more)))
  (ns : ∀ m,s.heap.Ns X.env.locals m -> h'.Ns X.env.locals m) (hok:HOk X.prog X.w H' h') (hg:AllBare g') :
  Inv X pins U H' { s with heap:=h',gens:=g',drawn:=d',toks:=t' }:=by
 have neL : ∀ b o,X.s₀.heap.get? b = some o -> b ≠ X.env.locals:=λb o e=>ne_of_lt (lt_of_lt_of_le (Heap.lt_size e) I.ok.above)
 have neC : ∀ b o,X.s₀.heap.get? b = some o -> b ∉ X.ex -> b ∉ ch:=λb o e hx hb=>by
  rcases (hch b hb).1 with z | z
  .exact hx z
  .exact absurd (lt_of_lt_of_le (Heap.lt_size e) z) (lt_irrefl _)
 have cellK : ∀ x c,X.env.cells.lookup x = some c -> ∀ v,s.heap.IsCell c v -> h'.IsCell c v:=λx c e v ⟨o,ho,hd⟩=>by
  have nch:c ∉ ch:=λz=>(hch c z).2.2.1 x c e rfl
  by_cases hc:c ∈ X.fs
  .obtain ⟨sl,q⟩:=slot c o (I.cne x c e) hc nch ho (I.jfs x c e)
   exact ⟨_,q,hd⟩
  .exact ⟨o,keep c o (I.cne x c e) hc nch ho (I.jfs x c e),hd⟩
 refine ⟨I.ok,I.os,hg,⟨λb o e n hb hx=>?_,λb o e n hb hx=>?_,λb o e n hx=>?_,λb o e hx=>?_,λb xs e=>jrr b xs (I.base.jrr b xs e),λb o xs e=>jrc b o xs (I.base.jrc b o xs e),λb ps e=>?_⟩,?_,λx c e=>?_,?_,λx c e=>?_,λp hp=>?_,hok,I.len⟩
 .exact keep b o (neL b o e) hb (neC b o e hx) (I.base.keep b o e n hb hx) (I.base.free b o e n hx)
 .obtain ⟨sl,e1⟩:=I.base.slot b o e n hb hx
  obtain ⟨sl',e2⟩:=slot b _ (neL b o e) hb (neC b o e hx) e1 (I.base.free b o e n hx)
  exact ⟨sl',e2⟩
 .obtain ⟨o',e1⟩:=I.base.there b o e hx
  exact free b o' (neC b o e hx) e1 (I.base.free b o e n hx)
 .obtain ⟨o',e1⟩:=I.base.there b o e hx
  exact there b o' (neC b o e hx) e1
 .obtain ⟨m1,e1⟩:=I.base.jsc b ps e
  obtain ⟨m2,e2⟩:=jsc b _ e1
  exact ⟨m1 ++ m2,by rw [e2,Array.append_assoc]⟩
 .obtain ⟨m,hn,hl⟩:=I.loc
  refine ⟨m,ns m hn,λi x v e1 e2 e3=>?_⟩
  obtain ⟨u,r,l⟩:=hl i x v e1 e2 e3
  refine ⟨u,r,?_⟩
  rcases l with l | ⟨k,c,e,z⟩
  .exact .inl l
  .exact .inr ⟨k,c,e,cellK x c e _ z⟩
 .obtain ⟨v,z⟩:=I.cell x c e
  exact ⟨v,cellK x c e v z⟩
 .obtain ⟨m,⟨o,_,_,ho,_⟩,_⟩:=I.loc
  exact free _ o (λz=>(hch _ z).2.1 rfl) ho I.free
 .obtain ⟨v,o,ho,hd⟩:=I.cell x c e
  exact free c o (λz=>(hch c z).2.2.1 x c e rfl) ho (I.jfs x c e)
 .obtain ⟨e,n,ne,nf,d⟩:=I.pin p hp
  have nch:p.1 ∉ ch:=λz=>(hch p.1 z).2.2.2 p hp rfl
  exact ⟨keep p.1 p.2 ne nf nch e n,free p.1 p.2 nch e n,ne,nf,d⟩
theorem Inv.un {t':Nat} (I:Inv X pins U H s) (u:Un X.fs [] H H' s.heap h') (hok:HOk X.prog X.w H' h') : Inv X pins U H' { s with heap:=h',toks:=t' }:=by
 obtain ⟨m,⟨o,es,ep,ho,r⟩,_⟩:=id I.loc
 obtain ⟨sl,hL⟩:=u.any ho I.free (by simp)
 exact I.step (g':=s.gens) (d':=s.drawn) (ch:=[]) (λ_ z=>nomatch z) (λb o _ hb _ e n=>u.keep b o e n hb (by simp)) (λb o _ hb _ e n=>u.slot b o e n hb (by simp)) (λb o _ e n=>u.free b o e n (by simp)) (λb o _ e=>u.there b o e (by simp)) u.jrr u.jrc u.jsc (λm' hm=>by
  obtain ⟨o',es',ep',ho',r'⟩:=hm
  rw [ho] at ho'; cases ho'
  exact ⟨_,es',ep',hL,r'⟩) hok I.bare
theorem Inv.call {g':Array GenState} {t':Nat} {d':Drawn} {ch:List Addr} (I:Inv X pins U H s) (u:Un (frs X.stack) ch H H' s.heap h') (hok:HOk X.prog X.w H' h') (hg:AllBare g')
  (hch : ∀ b ∈ ch,(b ∈ X.ex \/ X.s₀.heap.objs.size <= b) /\ b ≠ X.env.locals /\ (∀ x c,X.env.cells.lookup x = some c -> c ≠ b) /\ ∀ p ∈ X.pn ++ pins,p.1 ≠ b) :
  Inv X pins U H' { s with heap:=h',gens:=g',drawn:=d',toks:=t' }:=by
 obtain ⟨m,⟨o,es,ep,ho,r⟩,_⟩:=id I.loc
 obtain ⟨sl,hL⟩:=u.any ho I.free λz=>(hch _ z).2.1 rfl
 exact I.step (ch:=ch) hch (λb o hL hb hc e n=>u.keep b o e n (λz=>(mem_cons.mp (I.jn0 b z)).elim hL hb) hc) (λb o _ _ hc e n=>u.any e n hc) (λb o hc e n=>u.free b o e n hc) (λb o hc e=>u.there b o e hc) u.jrr u.jrc u.jsc (λm' hm=>by
  obtain ⟨o',es',ep',ho',r'⟩:=hm
  rw [ho] at ho'; cases ho'
  exact ⟨_,es',ep',hL,r'⟩) hok hg
theorem Inv.turned {t':Nat} {it:Addr} (I:Inv X pins U H s) (k : ∀ b o,b ≠ it -> s.heap.get? b = some o -> h'.get? b = some o) (hn:H it = none) (hL:it ≠ X.env.locals)
  (h1:it ∈ X.ex \/ X.s₀.heap.objs.size <= it) (h2 : ∀ x c,X.env.cells.lookup x = some c -> c ≠ it) (h3 : ∀ p ∈ X.pn ++ pins,p.1 ≠ it) : Inv X pins U H { s with heap:=h',toks:=t' }:=by
 have nit : ∀ b u,H b = some u -> b ≠ it:=λb u e z=>by rw [z,hn] at e; cases e
 refine I.step (g':=s.gens) (d':=s.drawn) (ch:=[it]) (λb hb=>?_) (λb o _ _ hc e _=>k b o (λz=>hc (by simp [z])) e) (λb o _ _ hc e _=>⟨o.slots,k b o (λz=>hc (by simp [z])) e⟩) (λ_ _ _ _ n=>n)
  (λb o hc e=>⟨o,k b o (λz=>hc (by simp [z])) e⟩) (λ_ _ e=>e) (λ_ _ _ e=>e) (λb ps e=>⟨#[],by rw [e]; simp⟩) (λm hm=>?_) (λb u e=>?_) I.bare
 .have e:b = it:=by simpa using hb
  subst e
  exact ⟨h1,hL,h2,h3⟩
 .obtain ⟨o,es,ep,ho,r⟩:=hm
  exact ⟨o,es,ep,k _ o (Ne.symm hL) ho,r⟩
 .refine (I.hok b u e).jpk (λc v hc q=>k c v ?_ q) (λ_ q=>q) λ_ _ q=>q
  rcases hc with z | z
  .rw [z]; exact nit b u e
  .exact nit c _ z
theorem Inv.tok (I:Inv X pins U H s) (t:Nat) : Inv X pins U H { s with toks:=t }:=I.un (h':=s.heap) (t':=t) Un.refl I.hok
theorem Inv.kept {t':Nat} (I:Inv X pins U H s) (k : ∀ b u,s.heap.get? b = some u -> h'.get? b = some u) : Inv X pins U H { s with heap:=h',toks:=t' }:=I.un (Un.kept k) (I.hok.kept k)
theorem Inv.laid {a:Addr} {o:HO} {t':Nat} (I:Inv X pins U H s) (k : ∀ b u,s.heap.get? b = some u -> h'.get? b = some u) (hp:s.heap.objs.size <= a) (new:wo X.prog X.w (upd H a o) h' a o) :
  Inv X pins U (upd H a o) { s with heap:=h',toks:=t' }:=I.un (Un.laid k hp (I.hok.fresh hp)) (I.hok.laid k hp new)
theorem Inv.write {x e:Addr} {o:HO} {t':Nat} (I:Inv X pins U H s) (mu:Mut (H x)) (he:e = x \/ H e = some (.own x)) (k : ∀ b u,b ≠ e -> s.heap.get? b = some u -> h'.get? b = some u) (heo : ∃ u,h'.get? e = some u)
  (new:wo X.prog X.w (upd H x o) h' x o) : Inv X pins U (upd H x o) { s with heap:=h',toks:=t' }:=I.un (Un.write mu he k heo) (I.hok.write mu he k heo new)
theorem Inv.jrl {pins':List (Addr × Obj)} (I:Inv X pins U H s) (h : ∀ p ∈ pins',s.heap.get? p.1 = some p.2 /\ H p.1 = none /\ p.1 ≠ X.env.locals /\ p.1 ∉ X.fs /\ ∀ v,p.2.data ≠ .cell v) : Inv X pins' U H s:=
 ⟨I.ok,I.os,I.bare,I.base,I.loc,I.cell,I.free,I.jfs,λp hp=>(mem_append.mp hp).elim (λz=>I.pin p (mem_append_left _ z)) (h p),I.hok,I.len⟩
theorem jq1 {N:List Str} (hN:N.Nodup) {i j:Nat} {x:Str} (a:N[i]? = some x) (b:N[j]? = some x) : i = j:=by
 obtain ⟨h1,e1⟩:=List.getElem?_eq_some_iff.mp a
 obtain ⟨h2,e2⟩:=List.getElem?_eq_some_iff.mp b
 exact (List.getElem_inj hN).mp (e1.trans e2.symm)
theorem jsa {M:Model} {A:Around} {E:Value -> Shared -> Prop} {i:Nat} {x:Str} {v:V} {u:Value} {Q:Unit -> Shared -> Prop} (I:Inv X pins U H s) (hN:X.N.Nodup) (hi:X.N[i]? = some x) (hx:Loc X.env.scope x) (r:RelV v u)
  (h : ∀ s',Inv X pins (U.set i (some v)) H s' -> (∃ a,Heap.SameBut a s.heap s'.heap /\ (a = X.env.locals \/ X.env.cells.lookup x = some a)) -> Q () s') (hf:autoParam (X.fn x = true \/ X.env.scope.names.lookup x = some .local) aP5) : wpAny M A (storeName X.env x u) Q E s:=by
 obtain ⟨m,hn,hl⟩:=id I.loc
 have hcls:(X.env.scope.kind == .class || (X.env.scope.kind == .module && X.env.locals != X.env.globals)) = false:=by rw [I.ok.kind]; rfl
 have hiU : i < U.length:=by rw [I.len]; exact (List.getElem?_eq_some_iff.mp hi).1
 have cne:=I.cne
 have tracked : ∀ {a:Addr} {h':Heap},(∃ o,s.heap.get? a = some o /\ H a = none) -> Heap.SameBut a s.heap h' -> HOk X.prog X.w H h':=λ{a h'} ha hs b ob e=>by
  obtain ⟨_,_,hfree⟩:=ha
  refine (I.hok b ob e).jpk (λc w' hc q=>(hs.2 c ?_).trans q) (λ_ q=>q) λ_ _ q=>q
  rintro rfl
  rcases hc with rfl | hc
  .rw [hfree] at e; cases e
  .rw [hfree] at hc; cases hc
 rcases hx with hk | hk
 .refine wpAny_storeName_local hk hn (λh' hn' hs=>?_) hcls
  obtain ⟨oL,_,_,hoL,_⟩:=id hn
  refine h _ ⟨I.ok,I.os,I.bare,⟨λb o e n hb hx=>?_,λb o e n hb hx=>?_,I.base.free,λb o e hx=>?_,I.base.jrr,I.base.jrc,I.base.jsc⟩,⟨_,hn',λj y v' e1 e2 e3=>?_⟩,λy c e=>?_,I.free,I.jfs,λp hp=>?_,tracked ⟨oL,hoL,I.free⟩ hs,by simpa using I.len⟩ ⟨_,hs,.inl rfl⟩
  .exact (hs.2 b (ne_of_lt (lt_of_lt_of_le (Heap.lt_size e) I.ok.above))).trans (I.base.keep b o e n hb hx)
  .obtain ⟨sl,e1⟩:=I.base.slot b o e n hb hx
   exact ⟨sl,(hs.2 b (ne_of_lt (lt_of_lt_of_le (Heap.lt_size e) I.ok.above))).trans e1⟩
  .obtain ⟨o',e1⟩:=I.base.there b o e hx
   exact ⟨o',(hs.2 b (ne_of_lt (lt_of_lt_of_le (Heap.lt_size e) I.ok.above))).trans e1⟩
  .by_cases hj:j = i
   .subst hj
    rw [hi] at e1; cases e1
    rw [getElem?_set_self hiU] at e2
    cases e2
    exact ⟨u,r,.inl ⟨hk,by simp⟩⟩
   .rw [getElem?_set_ne (Ne.symm hj)] at e2
    obtain ⟨u',r',q⟩:=hl j y v' e1 e2 e3
    refine ⟨u',r',?_⟩
    rcases q with ⟨k,e⟩ | ⟨k,c,e,z⟩
    .refine .inl ⟨k,?_⟩
     have:y ≠ x:=λe=>hj (jq1 hN e1 (e ▸ hi))
     simp [this,e]
    .exact .inr ⟨k,c,e,z.sameBut hs (cne y c e)⟩
  .obtain ⟨w',z⟩:=I.cell y c e
   exact ⟨w',z.sameBut hs (cne y c e)⟩
  .obtain ⟨e,n,ne,nf,d⟩:=I.pin p hp
   exact ⟨(hs.2 p.1 ne).trans e,n,ne,nf,d⟩
 .have hfn:X.fn x = true:=by
   rcases hf with z | z
   .exact z
   .rw [z] at hk; cases hk
  obtain ⟨c,hc⟩:=I.ok.has x (.inl hk)
  obtain ⟨w',z⟩:=I.cell x c hc
  refine wpAny_storeName_cell I.ok.kind hk hc z (λh' hc' hs=>?_)
  obtain ⟨oc,hoc,hocd⟩:=id z
  refine h { s with heap:=h' } ⟨I.ok,I.os,I.bare,⟨λb o e n hb hx=>?_,λb o e n hb hx=>?_,I.base.free,λb o e hx=>?_,I.base.jrr,I.base.jrc,I.base.jsc⟩,⟨m,hn.sameBut hs (Ne.symm (cne x c hc)),λj y v' e1 e2 e3=>?_⟩,λy c' e=>?_,I.free,I.jfs,λp hp=>?_,tracked ⟨oc,hoc,I.jfs x c hc⟩ hs,by simpa using I.len⟩ ⟨c,hs,.inr hc⟩
  .exact (hs.2 b (ne_of_lt (lt_of_lt_of_le (Heap.lt_size e) (I.ok.cab x c hfn hc)))).trans (I.base.keep b o e n hb hx)
  .obtain ⟨sl,e1⟩:=I.base.slot b o e n hb hx
   exact ⟨sl,(hs.2 b (ne_of_lt (lt_of_lt_of_le (Heap.lt_size e) (I.ok.cab x c hfn hc)))).trans e1⟩
  .obtain ⟨o',e1⟩:=I.base.there b o e hx
   exact ⟨o',(hs.2 b (ne_of_lt (lt_of_lt_of_le (Heap.lt_size e) (I.ok.cab x c hfn hc)))).trans e1⟩
  .by_cases hj:j = i
   .subst hj
    rw [hi] at e1; cases e1
    rw [getElem?_set_self hiU] at e2
    cases e2
    exact ⟨u,r,.inr ⟨.inl hk,c,hc,hc'⟩⟩
   .rw [getElem?_set_ne (Ne.symm hj)] at e2
    obtain ⟨u',r',q⟩:=hl j y v' e1 e2 e3
    refine ⟨u',r',?_⟩
    rcases q with q | ⟨k,c',e,z'⟩
    .exact .inl q
    .refine .inr ⟨k,c',e,z'.sameBut hs ?_⟩
     rintro rfl
     exact hj (jq1 hN e1 (I.ok.inj _ _ _ e hc ▸ hi))
  .by_cases hcc:c' = c
   .subst hcc; exact ⟨_,hc'⟩
   .obtain ⟨w2,z2⟩:=I.cell y c' e
    exact ⟨w2,z2.sameBut hs hcc⟩
  .obtain ⟨e,n,ne,nf,d⟩:=I.pin p hp
   refine ⟨(hs.2 p.1 ?_).trans e,n,ne,nf,d⟩
   intro q
   rw [q,hoc] at e
   have q':oc = p.2:=Option.some.inj e
   exact d w' (by rw [<- q']; exact hocd)
theorem jnl {M:Model} {A:Around} {E:Value -> Shared -> Prop} {i:Nat} {x:Str} {v:V} {u:Value} {Q:Unit -> Shared -> Prop} (I:Inv X pins U H s) (hN:X.N.Nodup) (hi:X.N[i]? = some x) (hx:Loc X.env.scope x) (r:RelV v u)
  (h : ∀ s',Inv X pins (U.set i (some v)) H s' -> Q () s') (hf:autoParam (X.fn x = true \/ X.env.scope.names.lookup x = some .local) aP5) : wpAny M A (storeName X.env x u) Q E s:=
 jsa I hN hi hx r (λs' I' _=>h s' I') hf
theorem Inv.j1y {s':Shared} {ch:List Addr} (I:Inv X pins U H s) (ho:s'.os = s.os) (u:Un (frs X.stack) ch H H' s.heap s'.heap) (hok:HOk X.prog X.w H' s'.heap) (hg:AllBare s'.gens)
  (hch : ∀ b ∈ ch,(b ∈ X.ex \/ X.s₀.heap.objs.size <= b) /\ b ≠ X.env.locals /\ (∀ x c,X.env.cells.lookup x = some c -> c ≠ b) /\ ∀ p ∈ X.pn ++ pins,p.1 ≠ b) : Inv X pins U H' s':=by
 obtain ⟨h',g',d',t',o'⟩:=s'
 have e:o' = s.os:=ho
 subst e
 exact I.call (g':=g') (t':=t') (d':=d') u hok hg hch
end
abbrev XK:=Value -> Option Addr -> Hp -> Prop
abbrev St:=List (Option V)
abbrev VK:=V -> Hp -> Prop
abbrev TE:=St -> Hp -> VK -> Prop
abbrev TT:=St -> Hp -> (Bool -> Hp -> Prop) -> Prop
abbrev TA:=St -> Hp -> (List V -> Hp -> Prop) -> Prop
structure Ends where
 nx:St -> Hp -> Prop
 rt:VK
 bk:St -> Hp -> Prop:=λ_ _=>False
 ct:St -> Hp -> Prop:=λ_ _=>False
abbrev TS:=Ends -> St -> Hp -> Prop
def EP (X:Cx) (pins:List (Addr × Obj)) (U : St) (Q:VK) (u:Value) (s':Shared) : Prop:=∃ v H',Inv X pins U H' s' /\ RelV v u /\ Q v H'
def TP (X:Cx) (pins:List (Addr × Obj)) (U : St) (Q:Bool -> Hp -> Prop) (b:Bool) (s':Shared) : Prop:=∃ H',Inv X pins U H' s' /\ Q b H'
def AP (X:Cx) (pins:List (Addr × Obj)) (U : St) (Q:List V -> Hp -> Prop) (us:List Value) (s':Shared) : Prop:=∃ vs H',Inv X pins U H' s' /\ Vals vs us /\ Q vs H'
def SP (X:Cx) (pins:List (Addr × Obj)) (D:Ends) (f:Flow) (s':Shared) : Prop:=
 match f with
 | .next=>∃ U' H',Inv X pins U' H' s' /\ D.nx U' H'
 | .brk=>∃ U' H',Inv X pins U' H' s' /\ D.bk U' H'
 | .cont=>∃ U' H',Inv X pins U' H' s' /\ D.ct U' H'
 | .ret u=>∃ v U' H',Inv X pins U' H' s' /\ RelV v u /\ D.rt v H'
def PE (X:Cx) (e:Expr) (t:TE) : Prop:=
 ∀ (pins:List (Addr × Obj)) (s:Shared) (U : St) (H:Hp) (Q:VK),Inv X pins U H s -> t U H Q -> wpAny (model X.prog X.w) X.A (eval e X.env) (EP X pins U Q) X.xe s
def PT (X:Cx) (e:Expr) (t:TT) : Prop:=
 ∀ (pins:List (Addr × Obj)) (s:Shared) (U : St) (H:Hp) (Q:Bool -> Hp -> Prop),Inv X pins U H s -> t U H Q -> wpAny (model X.prog X.w) X.A (isTrue e X.env (eval e X.env)) (TP X pins U Q) X.xe s
def PW (X:Cx) (e:Expr) (t:TT) : Prop:=
 ∀ (whole:Sem Value) (pins:List (Addr × Obj)) (s:Shared) (U : St) (H:Hp) (Q:Bool -> Hp -> Prop),Inv X pins U H s -> t U H Q -> wpAny (model X.prog X.w) X.A (isTrue e X.env whole) (TP X pins U Q) X.xe s
theorem PW.pt {X:Cx} {e:Expr} {t:TT} (h:PW X e t) : PT X e t:=h _
def PA (X:Cx) (es:List Expr) (t:TA) : Prop:=
 ∀ (pos:Pos) (pins:List (Addr × Obj)) (s:Shared) (U : St) (H:Hp) (Q:List V -> Hp -> Prop),Inv X pins U H s -> t U H Q -> wpAny (model X.prog X.w) X.A (spliced (backTo pos (starEach es X.env))) (AP X pins U Q) X.xe s
def PS (X:Cx) (st:Stmt) (t:TS) : Prop:=
 ∀ (pins:List (Addr × Obj)) (s:Shared) (U : St) (H:Hp) (D:Ends),Inv X pins U H s -> t D U H -> wpAny (model X.prog X.w) X.A (exec st X.env) (SP X pins D) X.xe s
def PSs (X:Cx) (st:List Stmt) (t:TS) : Prop:=
 ∀ (pins:List (Addr × Obj)) (s:Shared) (U : St) (H:Hp) (D:Ends),Inv X pins U H s -> t D U H -> wpAny (model X.prog X.w) X.A (execs st X.env) (SP X pins D) X.xe s
theorem thn {α : Type} {t:Sem α} {Q Q' : α -> Shared -> Prop} {M:Model} {A:Around} {E:Value -> Shared -> Prop} {s:Shared} (h:wpAny M A t Q E s) (hQ : ∀ a s,Q a s -> Q' a s) : wpAny M A t Q' E s:=wpAny_mono h hQ λ_ _ x=>x
end L2
namespace L2
open PySem PySem.Spec PyProof.Rows
section
variable {X:Cx}
theorem bin {a b:Expr} {ta tb:TE} (ha:PE X a ta) (hb:PE X b tb) {pins:List (Addr × Obj)} {s:Shared} {U : St} {H:Hp} {R:V -> V -> Hp -> Prop} (I:Inv X pins U H s) (h:ta U H λx H1=>tb U H1 λy H2=>R x y H2)
  {α : Type} {Q : α -> Shared -> Prop} {f:Value -> Value -> Sem α}
  (hf : ∀ v u s2 x y H2,Inv X pins U H2 s2 -> RelV x v -> RelV y u -> R x y H2 -> wpAny (model X.prog X.w) X.A (f v u) Q X.xe s2) :
  wpAny (model X.prog X.w) X.A (eval a X.env) (λv s₁=>wpAny (model X.prog X.w) X.A (eval b X.env) (λu s₂=>wpAny (model X.prog X.w) X.A (f v u) Q X.xe s₂) X.xe s₁) X.xe s:=by
 refine thn (ha pins s U H _ I h) λv s1 ⟨x,H1,I1,r1,q1⟩=>?_
 refine thn (hb pins s1 U H1 _ I1 q1) λu s2 ⟨y,H2,I2,r2,q2⟩=>?_
 exact hf v u s2 x y H2 I2 r1 r2 q2
def j7c (i:Nat) : TE:=λU H Q=>∃ v,U[i]? = some (some v) /\ Q v H
def tC (v:V) : TE:=λ_ H Q=>Q v H
theorem j4u {i:Nat} {x:Str} {pos:Pos} (hN:X.N[i]? = some x) (hv:Vis X.env.scope x) (hd:autoParam ((x == ("__debug__" : Str)) = false) aP2) (hcd:autoParam ((x == ("__classdict__" : Str)) = false) aP2) : PE X (.Name x pos) (j7c i):=by
 intro pins s U H Q I h
 obtain ⟨v,e,h⟩:=h
 obtain ⟨m,hn,hl⟩:=I.loc
 obtain ⟨u,r,l⟩:=hl i x v hN e hv
 have fin:EP X pins U Q u s:=⟨v,H,I,r,h⟩
 rcases l with ⟨hk,hm⟩ | ⟨hk,c,hc,hcell⟩
 .exact wpAny_Name (wpAny_loadName_local I.ok.kind hk hn hm fin) hd
 .rcases hk with hk | hk
  .exact wpAny_Name (wpAny_loadName_cell I.ok.kind hk hc hcell fin) hd
  .exact wpAny_Name (wpAny_loadName_free I.ok.kind hk hc hcell fin hcd) hd
theorem jl {i j pos} : PE X (.Constant (.int i) j pos) (tC (.int i)):=λ_ _ _ H _ I h=>wpAny_Constant_int ⟨.int i,H,I.tok _,⟨_,rfl⟩,h⟩
theorem jih {b j pos} : PE X (.Constant (.bool b) j pos) (tC (.bl b)):=λ_ _ _ H _ I h=>Constant_bool ⟨.bl b,H,I,rfl,h⟩
theorem jon {j pos} : PE X (.Constant .none j pos) (tC .non):=λ_ _ _ H _ I h=>Constant_none ⟨.non,H,I,rfl,h⟩
theorem y7 {x j pos} : PE X (.Constant (.str x) j pos) (tC (.str x)):=λ_ _ _ H _ I h=>Calls.Constant_str ⟨.str x,H,I.tok _,⟨_,rfl⟩,h⟩
def Gl (X:Cx) (x:Str) : Prop:=X.env.kindOf x = some .globalImplicit
theorem jg1 {E:Value -> Shared -> Prop} {pins:List (Addr × Obj)} {s:Shared} {U : St} {H:Hp} {x:Str} {u:Value} {pos:Pos} {Q:Value -> Shared -> Prop} (I:Inv X pins U H s) (hg:Gl X x) (hm:X.mg x = some u) (h:Q u s)
  (hd:autoParam ((x == ("__debug__" : Str)) = false) aP2) : wpAny (model X.prog X.w) X.A (eval (.Name x pos) X.env) Q E s:=
 Calls.Name_function_global I.ok.kind hg (Calls.loadGlobal_global (by rw [I.ok.glob]; exact I.mod.glob.keeps I.bk) hm h) hd
theorem juy {E:Value -> Shared -> Prop} {pins:List (Addr × Obj)} {s:Shared} {U : St} {H:Hp} {x:Str} {u:Value} {pos:Pos} {Q:Value -> Shared -> Prop} (I:Inv X pins U H s) (hg:Gl X x) (hm:X.mg x = none) (hv:bootBuiltins x = some u) (h:Q u s)
  (hn:autoParam (x ≠ "__name__") aP2) (hd:autoParam ((x == ("__debug__" : Str)) = false) aP2) : wpAny (model X.prog X.w) X.A (eval (.Name x pos) X.env) Q E s:=by
 obtain ⟨mb,h1,h2⟩:=I.mod.blt
 exact Calls.Name_function_global I.ok.kind hg (Calls.loadGlobal_builtin (by rw [I.ok.glob]; exact I.mod.glob.keeps I.bk) hm (by rw [I.ok.blt]; exact h1.keeps I.bk) ((h2 x hn).trans hv) h) hd
theorem zb {x:Str} {v:V} {u:Value} {pos:Pos} (hg:Gl X x) (hm:X.mg x = some u) (r:RelV v u) (hd:autoParam ((x == ("__debug__" : Str)) = false) aP2) : PE X (.Name x pos) (tC v):=
 λ_ _ _ H _ I h=>jg1 I hg hm ⟨v,H,I,r,h⟩ hd
theorem jg0 {x:Str} {v:V} {u:Value} {pos:Pos} (hg:Gl X x) (hm:X.mg x = none) (hv:bootBuiltins x = some u) (r:RelV v u) (hn:autoParam (x ≠ "__name__") aP2) (hd:autoParam ((x == ("__debug__" : Str)) = false) aP2) : PE X (.Name x pos) (tC v):=
 λ_ _ _ H _ I h=>juy I hg hm hv ⟨v,H,I,r,h⟩ hn hd
variable {a b:Expr} {ta tb:TE} {pos:Pos}
def PC (X:Cx) (op:CmpOp) (a b:Expr) (t:TE) : Prop:=
 ∀ (pins:List (Addr × Obj)) (s:Shared) (U : St) (H:Hp) (Q:VK),Inv X pins U H s -> t U H Q ->
  wpAny (model X.prog X.w) X.A (eval a X.env) (λv s₁=>wpAny (model X.prog X.w) X.A (eval b X.env) (λu s₂=>wpAny (model X.prog X.w) X.A (compareOp op v u) (EP X pins U Q) X.xe s₂) X.xe s₁) X.xe s
def tB (t:TE) : TT:=λU H Q=>t U H λx H1=>∃ c,x = .bl c /\ Q c H1
theorem ju7 {op:CmpOp} {t:TE} (h:PC X op a b t) (h1:behindInMarks op b = false:=by first | exact nobehind _ (by decide) (by decide) | rfl) : PT X (.Compare a [op] [b] pos) (tB t):=by
 intro pins s U H Q I hw
 refine wpAny_isTrue_Compare1 (thn (h pins s U H _ I hw) λv s1 h1=>thn h1 λu s2 h2=>thn h2 λc s3 ⟨x,H1,I1,r1,q1⟩=>?_) h1
 obtain ⟨d,rfl,q⟩:=q1
 cases r1
 exact wpAny_truthy_bool ⟨H1,I1,q⟩
theorem zo {e:Expr} {t:TE} (h:PE X e t) (he:autoParam (∀ whole,isTrue e X.env whole = (do let v <- whole; standAt e.pos; holding [v] (truthy v))) aP3) : PT X e (tB t):=by
 intro pins s U H Q I hw
 refine isTrue_plain (thn (h pins s U H _ I hw) λv s1 ⟨x,H1,I1,r1,q1⟩=>?_) (he _)
 obtain ⟨d,rfl,q⟩:=q1
 cases r1
 exact wpAny_truthy_bool ⟨H1,I1,q⟩
variable {tA tB':TT} {rest:List Expr}
def j8j (t u:TT) : TT:=λU H Q=>t U H λc H1=>if c = true then u U H1 Q else Q false H1
def tOr (t u:TT) : TT:=λU H Q=>t U H λc H1=>if c = true then Q true H1 else u U H1 Q
def j82 (t:TT) : TT:=λU H Q=>t U H λc H1=>Q (!c) H1
theorem jg5 (ha:PT X a tA) : PW X (.BoolOp .And [a] pos) tA:=by
 intro wh pins s U H Q I h
 refine isTrue_and (thn (ha pins s U H Q I h) λc s1 e=>?_)
 cases c with
 | true=>exact isTrue_and_nil e
 | false=>exact e
theorem jd7 (ha:PT X a tA) : PW X (.BoolOp .Or [a] pos) tA:=by
 intro wh pins s U H Q I h
 refine isTrue_or (thn (ha pins s U H Q I h) λc s1 e=>?_)
 cases c with
 | false=>exact isTrue_or_nil e
 | true=>exact e
theorem jkt (ha:PT X a tA) (hb:PW X (.BoolOp .And (b :: rest) pos) tB') : PW X (.BoolOp .And (a :: b :: rest) pos) (j8j tA tB'):=by
 intro wh pins s U H Q I h
 refine isTrue_and (thn (ha pins s U H _ I h) λc s1 ⟨H1,I1,q1⟩=>?_)
 cases c with
 | true=>exact hb wh pins s1 U H1 Q I1 q1
 | false=>exact ⟨H1,I1,q1⟩
theorem jif (ha:PT X a tA) (hb:PW X (.BoolOp .Or (b :: rest) pos) tB') : PW X (.BoolOp .Or (a :: b :: rest) pos) (tOr tA tB'):=by
 intro wh pins s U H Q I h
 refine isTrue_or (thn (ha pins s U H _ I h) λc s1 ⟨H1,I1,q1⟩=>?_)
 cases c with
 | true=>exact ⟨H1,I1,q1⟩
 | false=>exact hb wh pins s1 U H1 Q I1 q1
theorem ye (ha:PT X a tA) : PT X (.UnaryOp .Not a pos) (j82 tA):=by
 intro pins s U H Q I h
 exact isTrue_not (ha pins s U H (λc H1=>Q (!c) H1) I h)
def j57 (ta tb:TE) : TE:=λU H Q=>ta U H λx H1=>∃ c,x = .bl c /\ if c = true then tb U H1 Q else Q (.bl false) H1
def j6c (ta:TE) : TE:=λU H Q=>ta U H λx H1=>∃ c,x = .bl c /\ Q (.bl (!c)) H1
theorem jop {op} {t:TE} (h:PE X a t) : PE X (.BoolOp op [a] pos) t:=λpins s U H Q I hw=>BoolOp_one (h pins s U H Q I hw)
theorem jmu (ha:PE X a ta) (hb:PE X (.BoolOp .And (b :: rest) pos) tb) : PE X (.BoolOp .And (a :: b :: rest) pos) (j57 ta tb):=by
 intro pins s U H Q I h
 refine BoolOp_and (thn (ha pins s U H _ I h) λv s1 ⟨x,H1,I1,r1,q1⟩=>?_)
 obtain ⟨c,rfl,q1⟩:=q1
 cases r1
 refine wpAny_truthy_bool ?_
 cases c with
 | true=>exact hb pins s1 U H1 Q I1 q1
 | false=>exact ⟨.bl false,H1,I1,rfl,q1⟩
theorem j4p (ha:PE X a ta) : PE X (.UnaryOp .Not a pos) (j6c ta):=by
 intro pins s U H Q I h
 refine UnaryOp_ (thn (ha pins s U H _ I h) λv s1 ⟨x,H1,I1,r1,q1⟩=>?_)
 obtain ⟨c,rfl,q1⟩:=q1
 cases r1
 exact not_of (wpAny_truthy_bool ⟨.bl (!c),H1,I1,rfl,q1⟩)
def tIf (t:TT) (ta tb:TE) : TE:=λU H Q=>t U H λc H1=>if c = true then ta U H1 Q else tb U H1 Q
theorem jq7 {c:Expr} (hc:PT X c tA) (ha:PE X a ta) (hb:PE X b tb) : PE X (.IfExp c a b pos) (tIf tA ta tb):=by
 intro pins s U H Q I h
 refine wpAny_IfExp (thn (hc pins s U H _ I h) λd s1 ⟨H1,I1,q1⟩=>?_)
 cases d with
 | true=>exact ha pins s1 U H1 Q I1 q1
 | false=>exact hb pins s1 U H1 Q I1 q1
end
end L2
namespace L2
open PySem PySem.Spec PyProof.Rows
def SqL (K:PySem.W.Frag) (H:Hp) (a:Addr) (xs:List V) : Prop:=
 Rd H a (.lst xs) \/
  ∃ (o:Obj) (its:Array Value) (n:Nat),K.lookup a = some o /\ o.cls = .type "list" /\ o.dict = none /\ o.data = .seq its n /\ its.size <= sizeLine /\ Vals xs its.toList
def SqT (K:PySem.W.Frag) (H:Hp) (a:Addr) (xs:List V) : Prop:=
 Rd H a (.tup xs) \/
  ∃ (o:Obj) (its:Array Value) (n:Nat),K.lookup a = some o /\ o.cls = .type "tuple" /\ o.data = .seq its n /\ its.size <= sizeLine /\ Vals xs its.toList
def j8o:Value -> Option V
 | .none=>some .non
 | .bool b=>some (.bl b)
 | .int i _=>some (.int i)
 | .str x _=>some (.str x)
 | .bytes b _=>some (.byt b)
 | .float b _=>some (.flt b)
 | .ref a=>some (.ref a)
 | .type n=>some (.ty n)
 | _=>none
theorem RelV.abs {x:V} {u:Value} (r:RelV x u) : j8o u = some x:=by
 cases x with
 | non=>cases r; rfl
 | bl _=>cases r; rfl
 | int _=>obtain ⟨t,rfl⟩:=r; rfl
 | str _=>obtain ⟨t,rfl⟩:=r; rfl
 | byt _=>obtain ⟨t,rfl⟩:=r; rfl
 | flt _=>obtain ⟨t,rfl⟩:=r; rfl
 | ref _=>cases r; rfl
 | ty _=>cases r; rfl
theorem RelV.inj {x y:V} {u:Value} (r:RelV x u) (q:RelV y u) : x = y:=Option.some.inj (r.abs.symm.trans q.abs)
theorem Vals.inj : ∀ {xs ys:List V} {us:List Value},Vals xs us -> Vals ys us -> xs = ys
 | _,_,_,.nil,.nil=>rfl
 | _,_,_,.cons r t,.cons r' t'=>by rw [r.inj r',Vals.inj t t']
section
variable {X:Cx} {pins:List (Addr × Obj)} {U : St} {H:Hp} {s:Shared} {a:Addr} {xs ys:List V}
theorem SqL.of {K:PySem.W.Frag} (h:H a = some (.lst xs)) : SqL K H a xs:=.inl (.inl h)
theorem SqT.of {K:PySem.W.Frag} (h:H a = some (.tup xs)) : SqT K H a xs:=.inl (.inl h)
theorem Inv.list (I:Inv X pins U H s) (h:SqL X.K H a xs) : ∃ its:List Value,Vals xs its /\ PlainL s.heap a its.toArray /\ xs.length <= sizeLine:=by
 rcases h with h | ⟨o,its,n,hk,hc,hd,hs,hz,r⟩
 .obtain ⟨z,its,n,r,e⟩:=h.ok I.hok
  exact ⟨its,r,⟨_,n,e,rfl,rfl,rfl⟩,z⟩
 .refine ⟨its.toList,r,⟨o,n,I.kIn a o hk,hc,hd,by simpa using hs⟩,?_⟩
  have e:=r.length
  simp only [Array.length_toList] at e
  omega
theorem Inv.tuple (I:Inv X pins U H s) (h:SqT X.K H a xs) : ∃ its:List Value,Vals xs its /\ IsTup s.heap a its.toArray /\ xs.length <= sizeLine:=by
 rcases h with h | ⟨o,its,n,hk,hc,hs,hz,r⟩
 .obtain ⟨z,its,r,p⟩:=h.ok I.hok
  exact ⟨its,r,p,z⟩
 .refine ⟨its.toList,r,⟨o,I.kIn a o hk,hc,n,by simpa using hs⟩,?_⟩
  have e:=r.length
  simp only [Array.length_toList] at e
  omega
theorem Inv.jux (I:Inv X pins U H s) (h:SqL X.K H a xs) (h':SqL X.K H a ys) : xs = ys:=by
 obtain ⟨its,r,⟨o,n,e,_,_,d⟩,_⟩:=I.list h
 obtain ⟨its',r',⟨o',n',e',_,_,d'⟩,_⟩:=I.list h'
 rw [e] at e'; cases e'
 rw [d] at d'
 injection d' with d1 _
 have:its = its':=by simpa using congrArg Array.toList d1
 subst this
 exact r.inj r'
theorem Inv.jnv (I:Inv X pins U H s) (h:SqT X.K H a xs) (h':SqT X.K H a ys) : xs = ys:=by
 obtain ⟨its,r,⟨o,e,_,n,d⟩,_⟩:=I.tuple h
 obtain ⟨its',r',⟨o',e',_,n',d'⟩,_⟩:=I.tuple h'
 rw [e] at e'; cases e'
 rw [d] at d'
 injection d' with d1 _
 have:its = its':=by simpa using congrArg Array.toList d1
 subst this
 exact r.inj r'
end
abbrev Cx.jyq (X:Cx) (E:Value -> Shared -> Prop) : Cx:={ X with xe:=E }
abbrev Cx.nox (X:Cx) : Cx:=X.jyq λ_ _=>False
theorem Cx.Ok.jyq {X:Cx} (ok:X.Ok) (E:Value -> Shared -> Prop) : (X.jyq E).Ok:=
 ⟨ok.mod,ok.kind,ok.glob,ok.blt,ok.above,ok.inj,ok.has,ok.cab,ok.hd,ok.frames,ok.stk,ok.exf,ok.bs,ok.bsz,ok.j12,ok.j3f,ok.jte,ok.frf⟩
theorem Cx.Ok.jm8 {X:Cx} {E:Value -> Shared -> Prop} (ok:(X.jyq E).Ok) : X.Ok:=
 ⟨ok.mod,ok.kind,ok.glob,ok.blt,ok.above,ok.inj,ok.has,ok.cab,ok.hd,ok.frames,ok.stk,ok.exf,ok.bs,ok.bsz,ok.j12,ok.j3f,ok.jte,ok.frf⟩
section
variable {X:Cx} {pins:List (Addr × Obj)} {U : St} {H:Hp} {s:Shared} {E:Value -> Shared -> Prop}
theorem Inv.jyq (I:Inv X pins U H s) (E:Value -> Shared -> Prop) : Inv (X.jyq E) pins U H s:=⟨I.ok.jyq E,I.os,I.bare,I.base,I.loc,I.cell,I.free,I.jfs,I.pin,I.hok,I.len⟩
theorem Inv.jm8 (I:Inv (X.jyq E) pins U H s) : Inv X pins U H s:=⟨I.ok.jm8,I.os,I.bare,I.base,I.loc,I.cell,I.free,I.jfs,I.pin,I.hok,I.len⟩
theorem SP.jm8 {D:Ends} {f:Flow} {s':Shared} (h:SP (X.jyq E) pins D f s') : SP X pins D f s':=by
 cases f with
 | next=>obtain ⟨U',H',I,q⟩:=h; exact ⟨U',H',I.jm8,q⟩
 | brk=>obtain ⟨U',H',I,q⟩:=h; exact ⟨U',H',I.jm8,q⟩
 | cont=>obtain ⟨U',H',I,q⟩:=h; exact ⟨U',H',I.jm8,q⟩
 | ret u=>obtain ⟨v,U',H',I,r,q⟩:=h; exact ⟨v,U',H',I.jm8,r,q⟩
theorem PSs.nox {st:List Stmt} {t:TS} (h:PSs X.nox st t) : PSs X st t:=λpins s U H D I hw=>
 wpAny_mono (h pins s U H D (I.jyq _) hw) (λ_ _ q=>q.jm8) λ_ _ z=>False.elim z
end
section
variable {X:Cx} {st:Stmt} {rest:List Stmt} {t u:TS} {e:Expr} {te:TE} {pos:Pos}
def j5o:TS:=λD U H=>D.nx U H
def j7r (t u:TS) : TS:=λD U H=>t { D with nx:=u D } U H
theorem qc:PSs X [] j5o:=λ_ _ U H _ I h=>wpAny_execs_nil ⟨U,H,I,h⟩
theorem jb (h1:PS X st t) (h2:PSs X rest u) : PSs X (st :: rest) (j7r t u):=by
 intro pins s U H D I h
 refine wpAny_execs_cons (thn (h1 pins s U H { D with nx:=u D } I h) λf s1 q=>?_)
 cases f with
 | next=>
  obtain ⟨U',H',I',q⟩:=q
  exact h2 pins s1 U' H' D I' q
 | ret v=>exact q
 | brk=>exact q
 | cont=>exact q
theorem jd (h1:PS X st t) : PSs X [st] t:=by
 intro pins s U H D I h
 refine wpAny_execs_cons (thn (h1 pins s U H D I h) λf s1 q=>?_)
 cases f with
 | next=>exact wpAny_execs_nil q
 | ret v=>exact q
 | brk=>exact q
 | cont=>exact q
theorem Inv.quiet {pins:List (Addr × Obj)} {U : St} {H:Hp} {s:Shared} (I:Inv X pins U H s) : interactive X.env = false:=by simp [interactive,I.ok.kind]
def j5n (te:TE) : TS:=λD U H=>te U H λ_ H1=>D.nx U H1
theorem qa (he:PE X e te) (hs:autoParam (swapsWith e none pos.line X.env = pure false) aP1) : PS X (.Expr e pos) (j5n te):=by
 intro pins s U H D I h
 exact wpAny_Expr_any (thn (he pins s U H _ I h) λv s1 ⟨x,H1,I1,r1,q1⟩=>⟨U,H1,I1,q1⟩) I.quiet hs
def j8l (te:TE) : TS:=λD U H=>te U H D.rt
theorem j6 (he:PE X e te) : PS X (.Return (some e) pos) (j8l te):=by
 intro pins s U H D I h
 exact wpAny_Return_some (thn (he pins s U H _ I h) λv s1 ⟨x,H1,I1,r1,q1⟩=>⟨x,U,H1,I1,r1,q1⟩)
def j7b (c:TT) (t u:TS) : TS:=λD U H=>c U H λb H1=>if b = true then t D U H1 else u D U H1
theorem zl {c:Expr} {a b:List Stmt} {tc:TT} (hc:PT X c tc) (ha:PSs X a t) (hb:PSs X b u) : PS X (.If c a b pos) (j7b tc t u):=by
 intro pins s U H D I h
 refine wpAny_If (thn (hc pins s U H _ I h) λd s1 ⟨H1,I1,q1⟩=>?_)
 cases d with
 | true=>exact ha pins s1 U H1 D I1 q1
 | false=>exact hb pins s1 U H1 D I1 q1
def j0o:TS:=λ_ _ _=>False
theorem jyu:PS X st j0o:=λ_ _ _ _ _ _ h=>h.elim
theorem zk {sts:List Stmt} : PSs X sts j0o:=λ_ _ _ _ _ _ h=>h.elim
end
abbrev TG:=V -> St -> Hp -> (St -> Hp -> Prop) -> Prop
abbrev TGs:=List V -> St -> Hp -> (St -> Hp -> Prop) -> Prop
def PG (X:Cx) (target:Expr) (t:TG) : Prop:=
 ∀ (pins:List (Addr × Obj)) (s:Shared) (U : St) (H:Hp) (v:V) (u:Value) (Q:St -> Hp -> Prop),Inv X pins U H s -> RelV v u -> t v U H Q ->
  wpAny (model X.prog X.w) X.A (assign target X.env u) (λ_ s'=>∃ U' H',Inv X pins U' H' s' /\ Q U' H') X.xe s
def PGs (X:Cx) (ts:List Expr) (t:TGs) : Prop:=
 ∀ (pins:List (Addr × Obj)) (s:Shared) (U : St) (H:Hp) (vs:List V) (us:List Value) (Q:St -> Hp -> Prop),Inv X pins U H s -> Vals vs us -> t vs U H Q ->
  wpAny (model X.prog X.w) X.A (assignInOrder ((assignEach ts X.env).map (·.2)) us) (λ_ s'=>∃ U' H',Inv X pins U' H' s' /\ Q U' H') X.xe s
abbrev j49:=V -> V -> V -> Hp -> (Hp -> Prop) -> Prop
def j5k (X:Cx) (t:j49) : Prop:=
 ∀ (pins:List (Addr × Obj)) (s:Shared) (U : St) (H:Hp) (o i v:V) (ov iv u:Value) (Q:Hp -> Prop),Inv X pins U H s -> RelV o ov -> RelV i iv -> RelV v u -> t o i v H Q ->
  wpAny (model X.prog X.w) X.A (setItem ov iv u) (λ_ s'=>∃ H',Inv X pins U H' s' /\ Q H') X.xe s
abbrev TIp:=V -> V -> Hp -> VK -> Prop
def PIp (X:Cx) (op:Operator) (t:TIp) : Prop:=
 ∀ (pins:List (Addr × Obj)) (s:Shared) (U : St) (H:Hp) (x y:V) (v u:Value) (Q:VK),Inv X pins U H s -> RelV x v -> RelV y u -> t x y H Q ->
  wpAny (model X.prog X.w) X.A (inplaceOp op v u) (EP X pins U Q) X.xe s
section
variable {X:Cx} {pos:Pos}
def jlu (i:Nat) : TG:=λv U H Q=>Q (U.set i (some v)) H
theorem jv {i:Nat} {x:Str} (hN:X.N.Nodup) (hi:X.N[i]? = some x) (hx:Loc X.env.scope x) (hf:autoParam (X.fn x = true \/ X.env.scope.names.lookup x = some .local) aP5) : PG X (.Name x pos) (jlu i):=by
 intro pins s U H v u Q I r h
 exact wpAny_assign_Name (jnl I hN hi hx r (λs' I'=>⟨_,H,I',h⟩) hf)
def j8g:TGs:=λvs U H Q=>vs = [] /\ Q U H
def j6t (t:TG) (u:TGs) : TGs:=λvs U H Q=>∃ v r,vs = v :: r /\ t v U H λU' H'=>u r U' H' Q
theorem jlm:PGs X [] j8g:=by
 intro pins s U H vs us Q I r h
 obtain ⟨e,h⟩:=h
 subst e
 cases r
 exact assignInOrder_nil ⟨U,H,I,h⟩
theorem qe {e:Expr} {es:List Expr} {t:TG} {u:TGs} (h1:PG X e t) (h2:PGs X es u)
  (hs:autoParam ((assignEach (e :: es) X.env).map (·.2) = assign e X.env :: (assignEach es X.env).map (·.2)) aP1) : PGs X (e :: es) (j6t t u):=by
 intro pins s U H vs us Q I r h
 obtain ⟨v,vr,e1,h⟩:=h
 subst e1
 cases r with
 | cons r rr=>
  rw [hs]
  refine assignInOrder_cons (thn (h1 pins s U H _ _ _ I r h) λ_ s1 ⟨U1,H1,I1,q1⟩=>?_)
  exact h2 pins s1 U1 H1 _ _ Q I1 rr q1
def j8w (K:PySem.W.Frag) (n:Nat) (t:TGs) : TG:=λv U H Q=>∃ a xs,v = .ref a /\ SqT K H a xs /\ xs.length = n /\ t xs U H Q
theorem jqd {es:List Expr} {k:Nat} {t:TGs} {n:Nat} (hc:X.calm = true) (h:PGs X es t)
  (hn:autoParam ((assignEach es X.env).length = n) aP1) (hst:autoParam ((assignEach es X.env).findIdx? (·.1) = none) aP1) : PG X (.Tuple es k pos) (j8w X.K n t):=by
 intro pins s U H v u Q I r hw
 obtain ⟨a,xs,e1,hq,hl,hw⟩:=hw
 subst e1
 cases r
 obtain ⟨its,rv,ht,hz⟩:=I.tuple hq
 refine assign_Tuple_tuple (I.ok.hd hc) ht (by simp [hn,<- hl,rv.length]) hst λh' hx=>?_
 have I1:Inv X pins U H { s with heap:=h' }:=I.kept (t':=s.toks) λb o e=>hx b o (ne_of_lt (Heap.lt_size e)) e
 exact h pins _ U H xs _ Q I1 (by simpa using rv) hw
def j78 (to ti:TE) (t:j49) : TG:=λv U H Q=>to U H λo H1=>ti U H1 λi H2=>t o i v H2 λH3=>Q U H3
theorem j0p {o i:Expr} {to ti:TE} {t:j49} (ho:PE X o to) (hi:PE X i ti) (hs:j5k X t)
  (ha:autoParam (∀ v,assign (.Subscript o i pos) X.env v = (do
   let ov <- holding [v] (eval o X.env)
   let iv <- holding [v,ov] (eval i X.env)
   standAt pos
   holding [v,ov,iv] (setItem ov iv v)
   release [v,ov,iv] [])) aP3) : PG X (.Subscript o i pos) (j78 to ti t):=by
 intro pins s U H v u Q I r h
 rw [ha]
 refine wpAny_bind (wpAny_holding (thn (ho pins s U H _ I h) λov s1 ⟨x,H1,I1,r1,q1⟩=>?_))
 refine wpAny_bind (wpAny_holding (thn (hi pins s1 U H1 _ I1 q1) λiv s2 ⟨y,H2,I2,r2,q2⟩=>?_))
 refine wpAny_bind (wpAny_standAt (wpAny_bind (wpAny_holding (thn (hs pins s2 U H2 x y v ov iv u _ I2 r1 r2 r q2) λ_ s3 ⟨H3,I3,q3⟩=>?_))))
 exact wpAny_release ⟨U,H3,I3,q3⟩
def j6d (te:TE) (g:TG) : TS:=λD U H=>te U H λx H1=>g x U H1 D.nx
theorem jmn {tg e:Expr} {te:TE} {g:TG} (he:PE X e te) (hg:PG X tg g) (hs:autoParam (swapsWithSole [tg] e pos.line X.env = pure false) aP1) (hw:autoParam (swappedStores [tg] e X.env = pure none) aP1)
  (h1:autoParam ((assignEach [tg] X.env).map (·.2) = [assign tg X.env]) aP1) : PS X (.Assign [tg] e pos) (j6d te g):=by
 intro pins s U H D I h
 refine wpAny_Assign_stores (thn (he pins s U H _ I h) λv s1 ⟨x,H1,I1,r1,q1⟩=>?_) hs hw
 rw [h1]
 exact thn (hg pins s1 U H1 x v _ I1 r1 q1) λ_ s2 q=>q
theorem j9 {i:Nat} {x:Str} {e:Expr} {te:TE} {pos':Pos} (hN:X.N.Nodup) (hi:X.N[i]? = some x) (hx:Loc X.env.scope x) (he:PE X e te) (hs:autoParam (swapsWith e (some (.Name x pos')) pos.line X.env = pure false) aP1) (hf:autoParam (X.fn x = true \/ X.env.scope.names.lookup x = some .local) aP5) :
  PS X (.Assign [.Name x pos'] e pos) (j6d te (jlu i)):=by
 intro pins s U H D I h
 refine wpAny_Assign_Name (thn (he pins s U H _ I h) λv s1 ⟨y,H1,I1,r1,q1⟩=>?_) hs
 exact jnl I1 hN hi hx r1 (λs2 I2=>⟨_,H1,I2,q1⟩) hf
def j5x (to ti te:TE) (tget:V -> V -> Hp -> VK -> Prop) (tip:TIp) (tset:j49) : TS:=λD U H=>to U H λo H1=>ti U H1 λi H2=>tget o i H2 λx H3=>te U H3 λy H4=>tip x y H4 λz H5=>tset o i z H5 λH6=>D.nx U H6
def j7o (X:Cx) (t:V -> V -> Hp -> VK -> Prop) : Prop:=
 ∀ (pins:List (Addr × Obj)) (s:Shared) (U : St) (H:Hp) (o i:V) (ov iv:Value) (Q:VK),Inv X pins U H s -> RelV o ov -> RelV i iv -> t o i H Q ->
  wpAny (model X.prog X.w) X.A (getItem ov iv) (EP X pins U Q) X.xe s
theorem jto {o i e:Expr} {to ti te:TE} {tget:V -> V -> Hp -> VK -> Prop} {tip:TIp} {tset:j49} {op:Operator} {tpos:Pos} (ho:PE X o to) (hi:PE X i ti) (hg:j7o X tget) (he:PE X e te) (hp:PIp X op tip) (hs:j5k X tset)
  (ha : ∀ ov iv new,augStore i ov iv new = (do holding [new,ov,iv] (setItem ov iv new); release [new,ov,iv] []; pure .next):=by intros; rfl) : PS X (.AugAssign (.Subscript o i tpos) op e pos) (j5x to ti te tget tip tset):=by
 intro pins s U H D I h
 refine wpAny_AugAssign_SubscriptAny (thn (ho pins s U H _ I h) λov s1 ⟨x1,H1,I1,r1,q1⟩=>?_) ha
 refine thn (hi pins s1 U H1 _ I1 q1) λiv s2 ⟨x2,H2,I2,r2,q2⟩=>?_
 refine thn (hg pins s2 U H2 x1 x2 ov iv _ I2 r1 r2 q2) λold s3 ⟨x3,H3,I3,r3,q3⟩=>?_
 refine thn (he pins s3 U H3 _ I3 q3) λv s4 ⟨x4,H4,I4,r4,q4⟩=>?_
 refine thn (hp pins s4 U H4 x3 x4 old v _ I4 r3 r4 q4) λnew s5 ⟨x5,H5,I5,r5,q5⟩=>?_
 exact thn (hs pins s5 U H5 x1 x2 x5 ov iv new _ I5 r1 r2 r5 q5) λ_ s6 ⟨H6,I6,q6⟩=>⟨U,H6,I6,q6⟩
def ipI (f:Int -> Int -> Int) : TIp:=λx y H Q=>∃ i j,x = .int i /\ y = .int j /\ Q (.int (f i j)) H
theorem j04:PIp X .Add (ipI λi j=>i + j):=by
 intro pins s U H x y v u Q I r1 r2 h
 obtain ⟨i,j,e1,e2,q⟩:=h
 subst e1; subst e2
 obtain ⟨t,rfl⟩:=r1
 obtain ⟨t',rfl⟩:=r2
 exact iadd_int ⟨.int _,H,I.tok _,⟨_,rfl⟩,q⟩
theorem j3m:PIp X .Sub (ipI λi j=>i - j):=by
 intro pins s U H x y v u Q I r1 r2 h
 obtain ⟨i,j,e1,e2,q⟩:=h
 subst e1; subst e2
 obtain ⟨t,rfl⟩:=r1
 obtain ⟨t',rfl⟩:=r2
 exact isub_int ⟨.int _,H,I.tok _,⟨_,rfl⟩,q⟩
end
section
variable {X:Cx} {pos:Pos}
def j1c (c:TT) (tb:TS) : TS:=λD U H=>∃ W:Nat -> St -> Hp -> Prop,(∃ m,W m U H) /\ ∀ m U H,W m U H ->
 c U H λb H1=>if b = true then ∃ N:St -> Hp -> Prop,(∀ U' H',N U' H' -> ∃ m',m' < m /\ W m' U' H') /\ tb { D with nx:=N,ct:=N,bk:=D.nx } U H1 else D.nx U H1
theorem jzc {c:Expr} {body:List Stmt} {tc:TT} {tb:TS} (hp:PassesOwn (model X.prog X.w) X.A X.env X.xe) (hc:PT X c tc) (hb:PSs X body tb) : PS X (.While c body [] pos) (j1c tc tb):=by
 intro pins s U H D I h
 obtain ⟨W,⟨m0,w0⟩,turn⟩:=h
 refine wpAny_While (codeAny_whileLoop (λn s'=>∃ U' H',Inv X pins U' H' s' /\ W n U' H') ?_ m0 ⟨U,H,I,w0⟩)
 rintro n s1 ⟨U1,H1,I1,w1⟩
 refine wpAny_passesOwn hp (thn (hc pins s1 U1 H1 _ I1 (turn n U1 H1 w1)) λb s2 ⟨H2,I2,q2⟩=>?_)
 cases b with
 | true=>
  obtain ⟨N,hN,q2⟩:=q2
  rw [if_pos rfl]
  refine wpAny_passesOwn hp (thn (hb pins s2 U1 H2 _ I2 q2) λf s3 q3=>?_)
  cases f with
  | next=>
   obtain ⟨σ3,H3,I3,n3⟩:=q3
   obtain ⟨m',hm,w3⟩:=hN σ3 H3 n3
   exact ⟨m',hm,σ3,H3,I3,w3⟩
  | cont=>
   obtain ⟨σ3,H3,I3,n3⟩:=q3
   obtain ⟨m',hm,w3⟩:=hN σ3 H3 n3
   exact ⟨m',hm,σ3,H3,I3,w3⟩
  | brk=>exact q3
  | ret v=>exact q3
 | false=>
  rw [if_neg Bool.false_ne_true]
  exact wpAny_execs_nil ⟨U1,H2,I2,q2⟩
end
structure It where
 go:Nat -> Hp -> Prop
 yld:Nat -> Hp -> V -> Hp -> Prop
 stop:Nat -> Hp -> Prop
def jtf (X:Cx) (pins:List (Addr × Obj)) (H:Hp) (b:Addr) : Prop:=
 H b = none /\ b ≠ X.env.locals /\ b ∉ X.fs /\ (b ∈ X.ex \/ X.s₀.heap.objs.size <= b) /\ (∀ x c,X.env.cells.lookup x = some c -> c ≠ b) /\ ∀ p ∈ X.pn ++ pins,p.1 ≠ b
theorem Inv.j3e {X:Cx} {pins:List (Addr × Obj)} {U : St} {H H':Hp} {s:Shared} {b:Addr} (I:Inv X pins U H s) (hb:s.heap.objs.size <= b) (hn:H' b = none) : jtf X pins H' b:=by
 refine ⟨hn,Nat.ne_of_gt (lt_of_lt_of_le I.lt hb),I.j7m hb,.inr (le_trans I.sz hb),λx c e z=>?_,λp hp z=>?_⟩
 .obtain ⟨v,q⟩:=I.cell x c e
  exact absurd (lt_of_lt_of_le q.lt (by rw [z]; exact hb)) (lt_irrefl _)
 .exact absurd (lt_of_lt_of_le (Heap.lt_size (I.pin p hp).1) (by rw [z]; exact hb)) (lt_irrefl _)
structure Turn (P:Program) (w:World) (K:PySem.W.Frag) (tg:Expr) (J:It) (fp:List Addr) (it:Addr) (tn:Nat -> Heap -> Prop) : Prop where
 mem:it ∈ fp
 obj : ∀ i h,tn i h -> ∀ b ∈ fp,∃ o,h.get? b = some o /\ ∀ v,o.data ≠ .cell v
 keep : ∀ i h h',tn i h -> (∀ b ∈ fp,∀ o,h.get? b = some o -> h'.get? b = some o) -> tn i h'
 item : ∀ (X:Cx),X.prog = P -> X.w = w -> X.K = K -> X.calm = true -> ∀ (i:Nat) (pins:List (Addr × Obj)) (s:Shared) (U : St) (H:Hp) (E:Value -> Shared -> Prop),Inv X pins U H s -> (∀ b ∈ fp,jtf X pins H b) -> tn i s.heap -> J.go i H ->
  wpAny (model P w) X.A (pyNext (.ref it)) (λr s1=>∃ u,r = some u /\
   wpAny (model P w) X.A (letOwnedTupleGo tg (.ref it) u) (λ_ s2=>∃ x H',Inv X pins U H' s2 /\ RelV x u /\ J.yld i H x H' /\ tn (i + 1) s2.heap /\ ∀ b ∈ fp,H' b = none) E s1) E s
 done : ∀ (X:Cx),X.prog = P -> X.w = w -> X.K = K -> X.calm = true -> ∀ (i:Nat) (pins:List (Addr × Obj)) (s:Shared) (U : St) (H:Hp) (E:Value -> Shared -> Prop),Inv X pins U H s -> (∀ b ∈ fp,jtf X pins H b) -> tn i s.heap -> J.stop i H ->
  wpAny (model P w) X.A (pyNext (.ref it)) (λr s1=>r = none /\ Inv X pins U H s1) E s
 self : ∀ (A:Around) (i:Nat) (s:Shared) (Q:Value -> Shared -> Prop) (E:Value -> Shared -> Prop),tn i s.heap -> Q (.ref it) s -> wpAny (model P w) A (pyIter (.ref it)) Q E s
abbrev TI:=St -> Hp -> (It -> Hp -> Prop) -> Prop
def PIE (X:Cx) (pins:List (Addr × Obj)) (U : St) (tg:Expr) (R:It -> Hp -> Prop) (itv:Value) (s2:Shared) : Prop:=
 ∃ (it:Addr) (fp:List Addr) (tn:Nat -> Heap -> Prop) (J:It) (H':Hp),itv = .ref it /\ Inv X pins U H' s2 /\ Turn X.prog X.w X.K tg J fp it tn /\ tn 0 s2.heap /\ (∀ b ∈ fp,jtf X pins H' b) /\ R J H'
def PI (X:Cx) (tg iter:Expr) (wi:TI) : Prop:=
 ∀ (pins:List (Addr × Obj)) (s:Shared) (U : St) (H:Hp) (R:It -> Hp -> Prop),Inv X pins U H s -> wi U H R ->
  wpAny (model X.prog X.w) X.A (eval iter X.env) (λv s1=>wpAny (model X.prog X.w) X.A (pyIter v) (PIE X pins U tg R) X.xe s1) X.xe s
theorem jv3 {M:Model} {A:Around} {E:Value -> Shared -> Prop} {s:Shared} {tg:Expr} {it:Addr} {u:Value} {o:Obj} {n:String} {vs:Array Value} {Q:Unit -> Shared -> Prop} (ho:s.heap.get? it = some o) (hc:o.cls = .type n) (hd:o.data = .fields vs)
    (hn : ["enumerate","zip","dict_itemiterator","dict_reverseitemiterator","odict_iterator","itertools.zip_longest","itertools.pairwise"].contains n = false) (hQ:Q () s) : wpAny M A (letOwnedTupleGo tg (.ref it) u) Q E s:=by
  unfold letOwnedTupleGo
  cases tg <;> first
    | exact wpAny_pure hQ
    | (cases u <;> first
        | exact wpAny_pure hQ
        | (refine wpAny_bind (wpAny_load ho ?_)
           rw [hc,hd]
           show wpAny M A (if (["enumerate","zip","dict_itemiterator","dict_reverseitemiterator","odict_iterator","itertools.zip_longest","itertools.pairwise"].contains n && vs[0]? == some (rawInt _)) = true then _ else _) Q E s
           rw [if_neg (by intro h; rw [hn,Bool.false_and] at h; cases h)]
           exact wpAny_pure hQ))
def Itl (K:PySem.W.Frag) (a:Addr) : It:=
 ⟨λi H=>∃ xs x,SqL K H a xs /\ xs[i]? = some x,λi H x H'=>H' = H /\ ∀ xs,SqL K H a xs -> xs[i]? = some x,λi H=>∃ xs,SqL K H a xs /\ xs.length <= i⟩
def Itt (K:PySem.W.Frag) (a:Addr) : It:=
 ⟨λi H=>∃ xs x,SqT K H a xs /\ xs[i]? = some x,λi H x H'=>H' = H /\ ∀ xs,SqT K H a xs -> xs[i]? = some x,λi H=>∃ xs,SqT K H a xs /\ xs.length <= i⟩
def Itr (lo:Int) (n:Nat) : It:=⟨λi _=>i < n,λi H x H'=>H' = H /\ x = .int (lo + i),λi _=>n <= i⟩
theorem jxr {P:Program} {w:World} {K:PySem.W.Frag} {tg:Expr} (a it:Addr) : Turn P w K tg (Itl K a) [it] it (λi h=>h.IsListIter it a i) where
 mem:=by simp
 obj:=λi h st b hb=>by
  have e:b = it:=by simpa using hb
  subst e
  obtain ⟨o,e,c,d⟩:=st
  exact ⟨o,e,λv z=>by rw [d] at z; cases z⟩
 keep:=λi h h' st k=>st.at λo e=>k it (by simp) o e
 item:=by
  intro X hP hw hK hc i pins s U H E I hf st hg
  subst hP hw hK
  obtain ⟨xs,x,hq,hx⟩:=hg
  obtain ⟨its,rv,p,hz⟩:=I.list hq
  obtain ⟨u,hu,ru⟩:=rv.get hx
  obtain ⟨f0,f1,f2,f3,f4,f5⟩:=hf it (by simp)
  refine wpAny_pyNext_list_item st p.isList (x:=u) (by simpa using hu) λh' st' sb=>?_
  have I1:Inv X pins U H { s with heap:=h' }:=I.turned (t':=s.toks) (λb o hb e=>(sb.2 b hb).trans e) f0 f1 f3 f4 f5
  obtain ⟨o,e,c,d⟩:=id st'
  exact ⟨u,rfl,jv3 (s:={ s with heap:=h' }) e c d (by decide) ⟨x,H,I1,ru,⟨rfl,λys hy=>by rw [I.jux hy hq]; exact hx⟩,st',λb hb=>(hf b hb).1⟩⟩
 done:=by
  intro X hP hw hK hc i pins s U H E I hf st hg
  subst hP hw hK
  obtain ⟨xs,hq,hx⟩:=hg
  obtain ⟨its,rv,p,hz⟩:=I.list hq
  obtain ⟨f0,f1,f2,f3,f4,f5⟩:=hf it (by simp)
  have hl:=rv.length
  exact wpAny_pyNext_list_end (I.ok.hd hc) st p.isList (by simp; omega) λh' eb=>⟨rfl,I.turned (t':=s.toks) (λb o hb e=>eb b o hb e) f0 f1 f3 f4 f5⟩
 self:=λ_ _ _ _ _ st h=>wpAny_pyIter_listiter st h
theorem jv6 {P:Program} {w:World} {K:PySem.W.Frag} {tg:Expr} (a it:Addr) : Turn P w K tg (Itt K a) [it] it (λi h=>h.IsTupleIter it a i) where
 mem:=by simp
 obj:=λi h st b hb=>by
  have e:b = it:=by simpa using hb
  subst e
  obtain ⟨o,e,c,d⟩:=st
  exact ⟨o,e,λv z=>by rw [d] at z; cases z⟩
 keep:=λi h h' st k=>st.at λo e=>k it (by simp) o e
 item:=by
  intro X hP hw hK hc i pins s U H E I hf st hg
  subst hP hw hK
  obtain ⟨xs,x,hq,hx⟩:=hg
  obtain ⟨its,rv,p,hz⟩:=I.tuple hq
  obtain ⟨u,hu,ru⟩:=rv.get hx
  obtain ⟨f0,f1,f2,f3,f4,f5⟩:=hf it (by simp)
  refine wpAny_pyNext_tuple_item st (show s.heap.IsTuple a its.toArray from p) (x:=u) (by simpa using hu) λh' st' sb=>?_
  have I1:Inv X pins U H { s with heap:=h' }:=I.turned (t':=s.toks) (λb o hb e=>(sb.2 b hb).trans e) f0 f1 f3 f4 f5
  obtain ⟨o,e,c,d⟩:=id st'
  exact ⟨u,rfl,jv3 (s:={ s with heap:=h' }) e c d (by decide) ⟨x,H,I1,ru,⟨rfl,λys hy=>by rw [I.jnv hy hq]; exact hx⟩,st',λb hb=>(hf b hb).1⟩⟩
 done:=by
  intro X hP hw hK hc i pins s U H E I hf st hg
  subst hP hw hK
  obtain ⟨xs,hq,hx⟩:=hg
  obtain ⟨its,rv,p,hz⟩:=I.tuple hq
  obtain ⟨f0,f1,f2,f3,f4,f5⟩:=hf it (by simp)
  have hl:=rv.length
  exact wpAny_pyNext_tuple_end (I.ok.hd hc) st (show s.heap.IsTuple a its.toArray from p) (by simp; omega) λh' eb=>⟨rfl,I.turned (t':=s.toks) (λb o hb e=>eb b o hb e) f0 f1 f3 f4 f5⟩
 self:=λ_ _ _ _ _ st h=>wpAny_pyIter_tupleiter st h
theorem jvm {P:Program} {w:World} {K:PySem.W.Frag} {tg:Expr} (it:Addr) (lo:Int) (n:Nat) : Turn P w K tg (Itr lo n) [it] it (λi h=>IsRangeIter h it (lo + (i:Nat) * 1) ((n:Int) - (i:Nat)) 1) where
 mem:=by simp
 obj := λi h st b hb=>by
  have e:b = it:=by simpa using hb
  subst e
  exact ⟨_,st,λv z=>by
   have z':Data.fields _ = Data.cell v:=z
   cases z'⟩
 keep:=λi h h' st k=>k it (by simp) _ st
 item:=by
  intro X hP hw hK hc i pins s U H E I hf st hg
  subst hP hw hK
  obtain ⟨f0,f1,f2,f3,f4,f5⟩:=hf it (by simp)
  have W:=Walks.range (prog:=X.prog) (w:=X.w) (I.ok.hd hc) it lo 1 n
  refine W.item i s _ _ hg st λv h' tk hv st' kk=>?_
  obtain ⟨t,rfl⟩:=hv
  have I1:Inv X pins U H { s with heap:=h',toks:=tk }:=I.turned (λb o hb e=>kk b o (by simpa using hb) e) f0 f1 f3 f4 f5
  refine ⟨_,rfl,jv3 (s:={ s with heap:=h',toks:=tk }) (n := "range_iterator") st' rfl rfl (by decide) ⟨.int (lo + i),H,I1,⟨t,?_⟩,⟨rfl,rfl⟩,st',λb hb=>(hf b hb).1⟩⟩
  rw [Int.mul_one]
 done:=by
  intro X hP hw hK hc i pins s U H E I hf st hg
  subst hP hw hK
  obtain ⟨f0,f1,f2,f3,f4,f5⟩:=hf it (by simp)
  exact wpAny_pyNext_range_end (I.ok.hd hc) st (by have:n <= i:=hg; omega) λh' eb=>⟨rfl,I.turned (t':=s.toks) (λb o hb e=>eb b o hb e) f0 f1 f3 f4 f5⟩
 self:=λ_ _ _ _ _ st h=>wpAny_pyIter_rangeiter st h
end L2
namespace L2
open PySem PySem.Spec PyProof.Rows
section
variable {X:Cx} {tg:Expr}
def j3t (K:PySem.W.Frag) (tl:TE) : TI:=λU H R=>tl U H λx H1=>∃ a,x = .ref a /\ (∃ xs,SqL K H1 a xs) /\ R (Itl K a) H1
def j7g (K:PySem.W.Frag) (tl:TE) : TI:=λU H R=>tl U H λx H1=>∃ a,x = .ref a /\ (∃ xs,SqT K H1 a xs) /\ R (Itt K a) H1
theorem jav {l:Expr} {tl:TE} (hl:PE X l tl) : PI X tg l (j3t X.K tl):=by
 intro pins s U H R I h
 refine thn (hl pins s U H _ I h) λv s1 ⟨x,H1,I1,r1,q1⟩=>?_
 obtain ⟨a,e,⟨xs,hq⟩,q⟩:=q1
 subst e
 cases r1
 obtain ⟨its,rv,p,hz⟩:=I1.list hq
 refine wpAny_pyIter_list p.isList ?_
 refine ⟨s1.heap.objs.size,[s1.heap.objs.size],_,_,H1,rfl,I1.kept (t':=s1.toks) λb o e=>Heap.get?_push_of_some _ e,jxr a _,⟨_,Heap.get?_push_size _ rfl,rfl,rfl⟩,λb hb=>?_,q⟩
 have e:b = s1.heap.objs.size:=by simpa using hb
 subst e
 exact I1.j3e (le_refl _) (I1.hok.fresh (le_refl _))
theorem j4k {l:Expr} {tl:TE} (hl:PE X l tl) : PI X tg l (j7g X.K tl):=by
 intro pins s U H R I h
 refine thn (hl pins s U H _ I h) λv s1 ⟨x,H1,I1,r1,q1⟩=>?_
 obtain ⟨a,e,⟨xs,hq⟩,q⟩:=q1
 subst e
 cases r1
 obtain ⟨its,rv,p,hz⟩:=I1.tuple hq
 refine wpAny_pyIter_tuple (show s1.heap.IsTuple a its.toArray from p) ?_
 refine ⟨s1.heap.objs.size,[s1.heap.objs.size],_,_,H1,rfl,I1.kept (t':=s1.toks) λb o e=>Heap.get?_push_of_some _ e,jv6 a _,⟨_,Heap.get?_push_size _ rfl,rfl,rfl⟩,λb hb=>?_,q⟩
 have e:b = s1.heap.objs.size:=by simpa using hb
 subst e
 exact I1.j3e (le_refl _) (I1.hok.fresh (le_refl _))
theorem jyt {pins:List (Addr × Obj)} {U : St} {H:Hp} {s:Shared} {R:It -> Hp -> Prop} {E:Value -> Shared -> Prop} {lo hi:Int} {t u v:Tok} {tk:Nat} (I:Inv X pins U H s) (h1 : -(2 ^ 62) <= lo) (h2:lo < 2 ^ 62) (h3 : -(2 ^ 62) <= hi) (h4:hi < 2 ^ 62)
  (q:R (Itr lo (hi - lo).toNat) H) : wpAny (model X.prog X.w) X.A (pyIter (.ref s.heap.objs.size)) (PIE X pins U tg R) E { s with heap:=s.heap.push { cls:=.type "range",data:=.fields #[.int lo t,.int hi u,.int 1 v] },toks:=tk }:=by
 refine wpAny_pyIter_range (IsRange.new ..) (small_one h1 h2 h3 h4) ?_
 have I1:Inv X pins U H { s with heap:=s.heap.push { cls:=.type "range",data:=.fields #[.int lo t,.int hi u,.int 1 v] },toks:=tk }:=I.kept λb o e=>Heap.get?_push_of_some _ e
 refine ⟨(s.heap.push { cls:=.type "range",data:=.fields #[.int lo t,.int hi u,.int 1 v] }).objs.size,[(s.heap.push { cls:=.type "range",data:=.fields #[.int lo t,.int hi u,.int 1 v] }).objs.size],_,_,H,rfl,
  I1.kept (t':=tk) λb o e=>Heap.get?_push_of_some _ e,jvm _ lo (hi - lo).toNat,?_,λb hb=>?_,q⟩
 .have e1:lo + ((0:Nat) : Int) * 1 = lo:=by simp
  have e2:(((hi - lo).toNat:Nat) : Int) - ((0:Nat) : Int) = Builtin.Range.rangeSize lo hi 1:=by rw [rangeSize_one]; split <;> omega
  show IsRangeIter _ _ (lo + ((0:Nat) : Int) * 1) ((((hi - lo).toNat:Nat) : Int) - ((0:Nat) : Int)) 1
  rw [e1,e2]
  exact Heap.get?_push_size _ rfl
 .have e:b = (s.heap.push { cls:=.type "range",data:=.fields #[.int lo t,.int hi u,.int 1 v] }).objs.size:=by simpa using hb
  subst e
  exact I1.j3e (le_refl _) (I1.hok.fresh (le_refl _))
def j52 (ta:TA) : TI:=λU H R=>ta U H λvs H1=>∃ j:Int,vs = [.int j] /\ -(2 ^ 62) <= j /\ j < 2 ^ 62 /\ R (Itr 0 j.toNat) H1
theorem je3 {a:Expr} {ta:TA} {p pos:Pos} (hg:Gl X "range") (hm:X.mg "range" = none) (ha:PA X [a] ta) (hs:autoParam (starEach [a] X.env = [(false,eval a X.env)]) aP1) : PI X tg (.Call (.Name "range" p) [a] [] pos) (j52 ta):=by
 intro pins s U H R I h
 refine Call_ (juy I hg hm boot_range (PyProof.Rows.callWith_type1 (thn (ha pos pins s U H _ I h) λus s1 ⟨vs,H1,I1,r1,q1⟩=>?_) hs rfl))
 obtain ⟨j,e,q1,q2,q⟩:=q1
 subst e
 cases r1 with
 | cons r rr=>
  cases rr
  obtain ⟨t,rfl⟩:=r
  exact call_range_1 (jyt I1 (by omega) (by omega) q1 q2 (by simpa using q))
def j7z (wi:TI) (g:TG) (tb:TS) : TS:=λD U H=>wi U H λJ H1=>∃ W:Nat -> Nat -> St -> Hp -> Prop,(∃ m,W 0 m U H1) /\ ∀ i m U H,W i m U H ->
 (J.stop i H /\ D.nx U H) \/ (J.go i H /\ ∃ N:St -> Hp -> Prop,(∀ U' H',N U' H' -> ∃ m',m' < m /\ W (i + 1) m' U' H') /\ ∀ x H',J.yld i H x H' -> g x U H' λU2 H2=>tb { D with nx:=N,ct:=N,bk:=D.nx } U2 H2)
def jkj (fp:List Addr) (h:Heap) : List (Addr × Obj):=fp.filterMap λb=>(h.get? b).map λo=>(b,o)
theorem jib {fp:List Addr} {h:Heap} {b:Addr} {o:Obj} (hb:b ∈ fp) (e:h.get? b = some o) : (b,o) ∈ jkj fp h:=mem_filterMap.mpr ⟨b,hb,by rw [e]; rfl⟩
theorem jr6 {fp:List Addr} {h:Heap} {p:Addr × Obj} (hp:p ∈ jkj fp h) : p.1 ∈ fp /\ h.get? p.1 = some p.2:=by
 obtain ⟨b,hb,e⟩:=mem_filterMap.mp hp
 cases q:h.get? b with
 | none=>rw [q] at e; cases e
 | some o=>
  rw [q] at e
  have e':(b,o) = p:=Option.some.inj e
  subst e'
  exact ⟨hb,q⟩
theorem Inv.pinned {pins:List (Addr × Obj)} {U : St} {H:Hp} {s:Shared} {fp:List Addr} (I:Inv X pins U H s) (hf : ∀ b ∈ fp,jtf X pins H b) (ho : ∀ b ∈ fp,∃ o,s.heap.get? b = some o /\ ∀ v,o.data ≠ .cell v) : Inv X (pins ++ jkj fp s.heap) U H s:=
 I.jrl λp hp=>(mem_append.mp hp).elim (λz=>I.pin p (mem_append_right _ z)) λz=>by
  obtain ⟨hb,e⟩:=jr6 z
  obtain ⟨f0,f1,f2,_⟩:=hf p.1 hb
  obtain ⟨o,e',d⟩:=ho p.1 hb
  rw [e] at e'; cases e'
  exact ⟨e,f0,f1,f2,d⟩
theorem Inv.jkg {pins pl:List (Addr × Obj)} {U : St} {H:Hp} {s:Shared} (I:Inv X (pins ++ pl) U H s) : Inv X pins U H s:=I.jrl λp hp=>I.pin p (mem_append_right _ (mem_append_left _ hp))
theorem jk0 {iter:Expr} {body:List Stmt} {wi:TI} {g:TG} {tb:TS} {pos:Pos} (hp:PassesOwn (model X.prog X.w) X.A X.env X.xe) (hc:X.calm = true) (hi:PI X tg iter wi) (hg:PG X tg g) (hb:PSs X body tb)
  (hs:autoParam (∀ x,foldedSetIterable iter X.env x = pure x) aP3) : PS X (.For tg iter body [] pos) (j7z wi g tb):=by
 intro pins s U H D I h
 refine wpAny_For (thn (hi pins s U H _ I h) λv s1 h1=>thn h1 λitv s2 h2=>?_) hs
 obtain ⟨it,fp,tn,J,H2,e,I2,T,st2,f2,W,⟨m0,w0⟩,turn⟩:=h2
 subst e
 have stat : ∀ {H':Hp},(∀ b ∈ fp,H' b = none) -> ∀ b ∈ fp,jtf X pins H' b:=λhn b hb=>⟨hn b hb,(f2 b hb).2⟩
 refine codeAny_forLoop_any (λn s'=>∃ i U' H',Inv X pins U' H' s' /\ tn i s'.heap /\ (∀ b ∈ fp,H' b = none) /\ W i n U' H') ?_ m0 ⟨0,U,H2,I2,st2,λb hb=>(f2 b hb).1,w0⟩
 rintro n s3 ⟨i,σ3,H3,I3,st3,fr3,w3⟩
 rcases turn i n σ3 H3 w3 with ⟨stop,qn⟩ | ⟨go,N,hN,step⟩
 .refine wpAny_passesOwn hp (thn (T.done X rfl rfl rfl hc i pins s3 σ3 H3 X.xe I3 (stat fr3) st3 stop) λr s4 ⟨hr,I4⟩=>?_)
  subst hr
  exact wpAny_execs_nil ⟨σ3,H3,I4,qn⟩
 .refine wpAny_passesOwn hp (thn (T.item X rfl rfl rfl hc i pins s3 σ3 H3 X.xe I3 (stat fr3) st3 go) λr s4 ⟨u,hr,h4⟩=>?_)
  subst hr
  refine wpAny_passesOwn hp (thn h4 λ_ s5 ⟨x,H5,I5,r5,y5,st5,fr5⟩=>?_)
  have I5':=I5.pinned (stat fr5) (T.obj _ _ st5)
  refine wpAny_passesOwn hp (thn (hg _ s5 σ3 H5 x u _ I5' r5 (step x H5 y5)) λ_ s6 ⟨U6,H6,I6,q6⟩=>?_)
  refine wpAny_passesOwn hp (thn (hb _ s6 U6 H6 _ I6 q6) λf s7 q7=>?_)
  have again : ∀ {U7:St} {H7:Hp},Inv X (pins ++ jkj fp s5.heap) U7 H7 s7 -> N U7 H7 -> ∃ m,m < n /\ ∃ i U' H',Inv X pins U' H' s7 /\ tn i s7.heap /\ (∀ b ∈ fp,H' b = none) /\ W i m U' H':=λ{U7 H7} I7 n7=>by
   obtain ⟨m',hm,w7⟩:=hN U7 H7 n7
   refine ⟨m',hm,i + 1,U7,H7,I7.jkg,T.keep _ _ _ st5 λb hb o e=>(I7.pin (b,o) (mem_append_right _ (mem_append_right _ (jib hb e)))).1,λb hb=>?_,w7⟩
   obtain ⟨o,e,d⟩:=T.obj _ _ st5 b hb
   exact (I7.pin (b,o) (mem_append_right _ (mem_append_right _ (jib hb e)))).2.1
  cases f with
  | next=>obtain ⟨U7,H7,I7,n7⟩:=q7; exact again I7 n7
  | cont=>obtain ⟨U7,H7,I7,n7⟩:=q7; exact again I7 n7
  | brk=>obtain ⟨U7,H7,I7,q7⟩:=q7; exact ⟨U7,H7,I7.jkg,q7⟩
  | ret v=>obtain ⟨x7,U7,H7,I7,r7,q7⟩:=q7; exact ⟨x7,U7,H7,I7.jkg,r7,q7⟩
end
theorem jk5 {K:PySem.W.Frag} {a:Addr} {xs:List V} {g:TG} {tb:TS} {D:Ends} {U : St} {H:Hp} (Pv:Nat -> St -> Hp -> Prop) (h0:Pv 0 U H) (hl : ∀ i U H,i <= xs.length -> Pv i U H -> SqL K H a xs)
  (hs : ∀ i x U H,xs[i]? = some x -> Pv i U H -> g x U H λU2 H2=>tb { D with nx:=Pv (i + 1),ct:=Pv (i + 1),bk:=D.nx } U2 H2) (hd : ∀ U H,Pv xs.length U H -> D.nx U H) :
  ∃ W:Nat -> Nat -> St -> Hp -> Prop,(∃ m,W 0 m U H) /\ ∀ i m U H,W i m U H ->
   ((Itl K a).stop i H /\ D.nx U H) \/ ((Itl K a).go i H /\ ∃ N:St -> Hp -> Prop,(∀ U' H',N U' H' -> ∃ m',m' < m /\ W (i + 1) m' U' H') /\ ∀ x H',(Itl K a).yld i H x H' -> g x U H' λU2 H2=>tb { D with nx:=N,ct:=N,bk:=D.nx } U2 H2):=by
 refine ⟨λi m U H=>m = xs.length - i /\ i <= xs.length /\ Pv i U H,⟨xs.length,by simp,zero_le _,h0⟩,?_⟩
 rintro i m U H ⟨rfl,hi,p⟩
 have q:=hl i U H hi p
 by_cases hlt:i < xs.length
 .refine .inr ⟨⟨xs,xs[i],q,by simp [hlt]⟩,Pv (i + 1),λU' H' p'=>⟨xs.length - (i + 1),by omega,rfl,hlt,p'⟩,λx H' y=>?_⟩
  obtain ⟨e,y⟩:=y
  subst e
  exact hs i x U _ (y xs q) p
 .have e:i = xs.length:=by omega
  subst e
  exact .inl ⟨⟨xs,q,le_refl _⟩,hd U H p⟩
theorem j1l {K:PySem.W.Frag} {a:Addr} {xs:List V} {g:TG} {tb:TS} {D:Ends} {U : St} {H:Hp} (Pv:Nat -> St -> Hp -> Prop) (h0:Pv 0 U H) (hl : ∀ i U H,i <= xs.length -> Pv i U H -> SqT K H a xs)
  (hs : ∀ i x U H,xs[i]? = some x -> Pv i U H -> g x U H λU2 H2=>tb { D with nx:=Pv (i + 1),ct:=Pv (i + 1),bk:=D.nx } U2 H2) (hd : ∀ U H,Pv xs.length U H -> D.nx U H) :
  ∃ W:Nat -> Nat -> St -> Hp -> Prop,(∃ m,W 0 m U H) /\ ∀ i m U H,W i m U H ->
   ((Itt K a).stop i H /\ D.nx U H) \/ ((Itt K a).go i H /\ ∃ N:St -> Hp -> Prop,(∀ U' H',N U' H' -> ∃ m',m' < m /\ W (i + 1) m' U' H') /\ ∀ x H',(Itt K a).yld i H x H' -> g x U H' λU2 H2=>tb { D with nx:=N,ct:=N,bk:=D.nx } U2 H2):=by
 refine ⟨λi m U H=>m = xs.length - i /\ i <= xs.length /\ Pv i U H,⟨xs.length,by simp,zero_le _,h0⟩,?_⟩
 rintro i m U H ⟨rfl,hi,p⟩
 have q:=hl i U H hi p
 by_cases hlt:i < xs.length
 .refine .inr ⟨⟨xs,xs[i],q,by simp [hlt]⟩,Pv (i + 1),λU' H' p'=>⟨xs.length - (i + 1),by omega,rfl,hlt,p'⟩,λx H' y=>?_⟩
  obtain ⟨e,y⟩:=y
  subst e
  exact hs i x U _ (y xs q) p
 .have e:i = xs.length:=by omega
  subst e
  exact .inl ⟨⟨xs,q,le_refl _⟩,hd U H p⟩
theorem jpe {lo:Int} {n:Nat} {g:TG} {tb:TS} {D:Ends} {U : St} {H:Hp} (Pv:Nat -> St -> Hp -> Prop) (h0:Pv 0 U H)
  (hs : ∀ i U H,i < n -> Pv i U H -> g (.int (lo + i)) U H λU2 H2=>tb { D with nx:=Pv (i + 1),ct:=Pv (i + 1),bk:=D.nx } U2 H2) (hd : ∀ U H,Pv n U H -> D.nx U H) :
  ∃ W:Nat -> Nat -> St -> Hp -> Prop,(∃ m,W 0 m U H) /\ ∀ i m U H,W i m U H ->
   ((Itr lo n).stop i H /\ D.nx U H) \/ ((Itr lo n).go i H /\ ∃ N:St -> Hp -> Prop,(∀ U' H',N U' H' -> ∃ m',m' < m /\ W (i + 1) m' U' H') /\ ∀ x H',(Itr lo n).yld i H x H' -> g x U H' λU2 H2=>tb { D with nx:=N,ct:=N,bk:=D.nx } U2 H2):=by
 refine ⟨λi m U H=>m = n - i /\ i <= n /\ Pv i U H,⟨n,by simp,zero_le _,h0⟩,?_⟩
 rintro i m U H ⟨rfl,hi,p⟩
 by_cases hlt:i < n
 .refine .inr ⟨hlt,Pv (i + 1),λU' H' p'=>⟨n - (i + 1),by omega,rfl,hlt,p'⟩,λx H' y=>?_⟩
  obtain ⟨e,y⟩:=y
  subst e y
  exact hs i U _ hlt p
 .have e:i = n:=by omega
  subst e
  exact .inl ⟨le_refl _,hd U H p⟩
theorem jzr {c:TT} {tb:TS} {D:Ends} {U : St} {H:Hp} (Pv:St -> Hp -> Prop) (μ : St -> Hp -> Nat) (h0:Pv U H)
  (hs : ∀ U H,Pv U H -> c U H λb H1=>if b = true then tb { D with nx:=λU' H'=>Pv U' H' /\ μ U' H' < μ U H,ct:=λU' H'=>Pv U' H' /\ μ U' H' < μ U H,bk:=D.nx } U H1 else D.nx U H1)
  (mono : ∀ U H Q Q',(∀ b H1,Q b H1 -> Q' b H1) -> c U H Q -> c U H Q') : j1c c tb D U H:=by
 refine ⟨λm U H=>m = μ U H /\ Pv U H,⟨_,rfl,h0⟩,?_⟩
 rintro m U H ⟨rfl,p⟩
 refine mono U H _ _ (λb H1 q=>?_) (hs U H p)
 cases b with
 | true=>exact ⟨_,λU' H' ⟨p',l⟩=>⟨_,l,rfl,p'⟩,q⟩
 | false=>exact q
end L2
namespace L2
open PySem PySem.Spec PyProof.Rows
abbrev R2:=V -> V -> Hp -> VK -> Prop
def OpR (X:Cx) (f:Value -> Value -> Sem Value) (r:R2) : Prop:=
 ∀ (pins:List (Addr × Obj)) (s:Shared) (U : St) (H:Hp) (x y:V) (v u:Value) (Q:VK),Inv X pins U H s -> RelV x v -> RelV y u -> r x y H Q ->
  wpAny (model X.prog X.w) X.A (f v u) (EP X pins U Q) X.xe s
def UnR (X:Cx) (f:Value -> Sem Value) (r:V -> Hp -> VK -> Prop) : Prop:=
 ∀ (pins:List (Addr × Obj)) (s:Shared) (U : St) (H:Hp) (x:V) (v:Value) (Q:VK),Inv X pins U H s -> RelV x v -> r x H Q ->
  wpAny (model X.prog X.w) X.A (f v) (EP X pins U Q) X.xe s
def jow (X:Cx) (f:Value) (r:List V -> Hp -> VK -> Prop) : Prop:=
 ∀ (pins:List (Addr × Obj)) (s:Shared) (U : St) (H:Hp) (xs:List V) (us:List Value) (Q:VK),Inv X pins U H s -> Vals xs us -> r xs H Q ->
  wpAny (model X.prog X.w) X.A (call f us) (EP X pins U Q) X.xe s
def j8e (X:Cx) (r:V -> Hp -> (Bool -> Hp -> Prop) -> Prop) : Prop:=
 ∀ (pins:List (Addr × Obj)) (s:Shared) (U : St) (H:Hp) (x:V) (v:Value) (Q:Bool -> Hp -> Prop),Inv X pins U H s -> RelV x v -> r x H Q ->
  wpAny (model X.prog X.w) X.A (truthy v) (TP X pins U Q) X.xe s
def tOp (r:R2) (ta tb:TE) : TE:=λU H Q=>ta U H λx H1=>tb U H1 λy H2=>r x y H2 Q
def tUn (r:V -> Hp -> VK -> Prop) (ta:TE) : TE:=λU H Q=>ta U H λx H1=>r x H1 Q
def rI (C:Int -> Int -> Prop) (g:Int -> Int -> V) : R2:=λx y H Q=>∃ i j,x = .int i /\ y = .int j /\ C i j /\ Q (g i j) H
def rI0 (g:Int -> Int -> V) : R2:=λx y H Q=>∃ i j,x = .int i /\ y = .int j /\ Q (g i j) H
def rU (g:Int -> V) : V -> Hp -> VK -> Prop:=λx H Q=>∃ i,x = .int i /\ Q (g i) H
section
variable {X:Cx} {a b c:Expr} {ta tb tc:TE} {pos:Pos}
theorem j63 (ha:PE X a ta) (hb:PE X b tb) {pins:List (Addr × Obj)} {s:Shared} {U : St} {H:Hp} {R:V -> V -> Hp -> Prop} (I:Inv X pins U H s)
  (h:ta U H λx H1=>tb U H1 λy H2=>R x y H2) {Q:Value -> Shared -> Prop} {f:Value -> Value -> Sem Value}
  (hf : ∀ v u s2 x y H2,Inv X pins U H2 s2 -> RelV x v -> RelV y u -> R x y H2 -> wpAny (model X.prog X.w) X.A (f v u) Q X.xe s2) :
  wpAny (model X.prog X.w) X.A (eval a X.env) (λv s₁=>wpAny (model X.prog X.w) X.A (eval b X.env) (λu s₂=>wpAny (model X.prog X.w) X.A (f v u) Q X.xe s₂) X.xe s₁) X.xe s:=by
 refine thn (ha pins s U H _ I h) λv s1 ⟨x,H1,I1,r1,q1⟩=>?_
 refine thn (hb pins s1 U H1 _ I1 q1) λu s2 ⟨y,H2,I2,r2,q2⟩=>?_
 exact hf v u s2 x y H2 I2 r1 r2 q2
theorem zw {op:Operator} {r:R2} (ho:OpR X (binaryOp op) r) (ha:PE X a ta) (hb:PE X b tb) : PE X (.BinOp a op b pos) (tOp r ta tb):=by
 intro pins s U H Q I h
 exact wpAny_BinOp (j63 ha hb I h λv u s2 x y H2 I2 rx ry q=>ho pins s2 U H2 x y v u Q I2 rx ry q)
theorem j66 {op:UnaryOp} {r:V -> Hp -> VK -> Prop} (ho:UnR X (unaryOp op) r) (ha:PE X a ta) : PE X (.UnaryOp op a pos) (tUn r ta):=by
 intro pins s U H Q I h
 exact UnaryOp_ (thn (ha pins s U H _ I h) λv s1 ⟨x,H1,I1,r1,q1⟩=>ho pins s1 U H1 x v Q I1 r1 q1)
theorem opI {f:Value -> Value -> Sem Value} {C:Int -> Int -> Prop} {g:Int -> Int -> Int}
  (rule : ∀ (i j:Int) (t u:Tok) (s:Shared) (Q:Value -> Shared -> Prop) (E:Value -> Shared -> Prop),C i j -> Q (.int (g i j) s.toks) { s with toks:=s.toks + 1 } -> wpAny (model X.prog X.w) X.A (f (.int i t) (.int j u)) Q E s) :
  OpR X f (rI C λi j=>.int (g i j)):=by
 intro pins s U H x y v u Q I rx ry h
 obtain ⟨i,j,rfl,rfl,hc,q⟩:=h
 obtain ⟨t,rfl⟩:=rx
 obtain ⟨t',rfl⟩:=ry
 exact rule i j t t' s _ _ hc ⟨.int (g i j),H,I.tok _,⟨_,rfl⟩,q⟩
theorem j7p {f:Value -> Value -> Sem Value} {g:Int -> Int -> Int}
  (rule : ∀ (i j:Int) (t u:Tok) (s:Shared) (Q:Value -> Shared -> Prop) (E:Value -> Shared -> Prop),Q (.int (g i j) s.toks) { s with toks:=s.toks + 1 } -> wpAny (model X.prog X.w) X.A (f (.int i t) (.int j u)) Q E s) :
  OpR X f (rI0 λi j=>.int (g i j)):=by
 intro pins s U H x y v u Q I rx ry h
 obtain ⟨i,j,rfl,rfl,q⟩:=h
 obtain ⟨t,rfl⟩:=rx
 obtain ⟨t',rfl⟩:=ry
 exact rule i j t t' s _ _ ⟨.int (g i j),H,I.tok _,⟨_,rfl⟩,q⟩
theorem j5c {f:Value -> Value -> Sem Value} {g:Int -> Int -> Bool}
  (rule : ∀ (i j:Int) (t u:Tok) (s:Shared) (Q:Value -> Shared -> Prop) (E:Value -> Shared -> Prop),Q (.bool (g i j)) s -> wpAny (model X.prog X.w) X.A (f (.int i t) (.int j u)) Q E s) :
  OpR X f (rI0 λi j=>.bl (g i j)):=by
 intro pins s U H x y v u Q I rx ry h
 obtain ⟨i,j,rfl,rfl,q⟩:=h
 obtain ⟨t,rfl⟩:=rx
 obtain ⟨t',rfl⟩:=ry
 exact rule i j t t' s _ _ ⟨.bl (g i j),H,I,rfl,q⟩
def j73 (i j:Int) : Prop:=0 < j /\ j < 1073741824
def j8a (i j:Int) : Prop:=0 <= j /\ j <= 1000000 /\ i.natAbs < 2 ^ 64
def j6b (i j:Int) : Prop:=(-(2 ^ 64) < i /\ i < 2 ^ 64) \/ (-(2 ^ 64) < j /\ j < 2 ^ 64)
theorem j6b.ok {i j:Int} (h:j6b i j) : IntMulOk i j:=by
 rcases h with ⟨h1,h2⟩ | ⟨h1,h2⟩
 .exact .of_left (intBits_le_64 h1 h2)
 .exact .of_right (intBits_le_64 h1 h2)
theorem jb8:OpR X (binaryOp .Add) (rI0 λi j=>.int (i + j)):=j7p λ_ _ _ _ _ _ _ q=>add_int q
theorem ji0:OpR X (binaryOp .Sub) (rI0 λi j=>.int (i - j)):=j7p λ_ _ _ _ _ _ _ q=>sub_int q
theorem juq:OpR X (binaryOp .Mult) (rI j6b λi j=>.int (i * j)):=opI λ_ _ _ _ _ _ _ hc q=>mul_int q hc.ok
theorem jtp:OpR X (binaryOp .FloorDiv) (rI j73 λi j=>.int (i / j)):=opI λi j _ _ _ _ _ hc q=>by
 have h1:(0:Int) < j:=hc.1
 have h2:j < 1073741824:=hc.2
 exact floordiv_int (by omega) (by rw [Int.fdiv_eq_ediv_of_nonneg i (by omega)]; exact q) (.inl (PyProof.noPylong_small (by omega)))
theorem ji4:OpR X (binaryOp .Mod) (rI (λ_ j=>0 < j) λi j=>.int (i % j)):=opI λi j _ _ _ _ _ hc q=>by
 have h1:(0:Int) < j:=hc
 exact mod_int' (by omega) (by rw [Int.fmod_eq_emod_of_nonneg i (by omega)]; exact q)
theorem j3y:OpR X (binaryOp .Pow) (rI j8a λi j=>.int (i ^ j.toNat)):=opI λ_ _ _ _ _ _ _ hc q=>pow_int_small hc.1 hc.2.1 hc.2.2 q
theorem unI {f:Value -> Sem Value} {g:Int -> Int}
  (rule : ∀ (i:Int) (t:Tok) (s:Shared) (Q:Value -> Shared -> Prop) (E:Value -> Shared -> Prop),Q (.int (g i) s.toks) { s with toks:=s.toks + 1 } -> wpAny (model X.prog X.w) X.A (f (.int i t)) Q E s) :
  UnR X f (rU λi=>.int (g i)):=by
 intro pins s U H x v Q I rx h
 obtain ⟨i,rfl,q⟩:=h
 obtain ⟨t,rfl⟩:=rx
 exact rule i t s _ _ ⟨.int (g i),H,I.tok _,⟨_,rfl⟩,q⟩
theorem j30:UnR X (unaryOp .USub) (rU λi=>.int (-i)):=unI λ_ _ _ _ _ q=>neg_int q
end
def j7k:V -> V -> Bool
 | .non,.non=>true | .non,.int _=>true | .int _,.non=>true | .non,.bl _=>true | .bl _,.non=>true | .non,.str _=>true | .str _,.non=>true
 | .int _,.int _=>true | .bl _,.bl _=>true | .str _,.str _=>true | .byt _,.byt _=>true
 | .int _,.str _=>true | .str _,.int _=>true | .bl _,.str _=>true | .str _,.bl _=>true
 | _,_=>false
def rEq:R2:=λx y H Q=>j7k x y = true /\ Q (.bl (decide (x = y))) H
def rNe:R2:=λx y H Q=>j7k x y = true /\ Q (.bl (!decide (x = y))) H
theorem jxu {i j:Int} : decide (V.int i = V.int j) = (i == j):=by
 rw [Bool.eq_iff_iff]
 simp
theorem j0w {i j:Bool} : decide (V.bl i = V.bl j) = (i == j):=by
 rw [Bool.eq_iff_iff]
 simp
theorem jw6 {i j:Str} : decide (V.str i = V.str j) = (i == j):=by
 rw [Bool.eq_iff_iff]
 simp
theorem jwy {i j:Array UInt8} : decide (V.byt i = V.byt j) = (i.toList == j.toList):=by
 rw [Bool.eq_iff_iff]
 cases i
 cases j
 simp
section
variable {X:Cx} {a b c:Expr} {ta tb tc:TE} {pos:Pos}
theorem zq {pins:List (Addr × Obj)} {U : St} {H:Hp} {s:Shared} {Q:VK} {k k':Bool} (I:Inv X pins U H s) (q:Q (.bl k) H) (e:k = k') : EP X pins U Q (.bool k') s:=by
 subst e
 exact ⟨.bl k,H,I,rfl,q⟩
theorem jnf:OpR X (compareOp .Eq) rEq:=by
 intro pins s U H x y v u Q I rx ry h
 obtain ⟨hs,q⟩:=h
 cases x with
 | non=>
  cases rx
  cases y with
  | non=>cases ry; exact PySem.EqNone.eq_none_none (zq I q (by simp))
  | bl j=>cases ry; exact PySem.EqNone.eq_none_bool (zq I q (by simp))
  | int j=>obtain ⟨t',rfl⟩:=ry; exact PySem.EqNone.eq_none_int (zq I q (by simp))
  | str j=>obtain ⟨t',rfl⟩:=ry; exact PySem.EqNone.eq_none_str (zq I q (by simp))
  | _=>exact absurd (show false = true from hs) Bool.false_ne_true
 | bl i=>
  cases rx
  cases y with
  | non=>cases ry; exact PySem.EqNone.eq_bool_none (zq I q (by simp))
  | bl j=>cases ry; exact eq_bool (zq I q j0w)
  | str j=>obtain ⟨t',rfl⟩:=ry; exact PySem.EqMixed.eq_bool_str (zq I q (by simp))
  | _=>exact absurd (show false = true from hs) Bool.false_ne_true
 | int i=>
  obtain ⟨t,rfl⟩:=rx
  cases y with
  | non=>cases ry; exact PySem.EqNone.eq_int_none (zq I q (by simp))
  | int j=>obtain ⟨t',rfl⟩:=ry; exact eq_int (zq I q jxu)
  | str j=>obtain ⟨t',rfl⟩:=ry; exact PySem.EqMixed.eq_int_str (zq I q (by simp))
  | _=>exact absurd (show false = true from hs) Bool.false_ne_true
 | str i=>
  obtain ⟨t,rfl⟩:=rx
  cases y with
  | non=>cases ry; exact PySem.EqNone.eq_str_none (zq I q (by simp))
  | bl j=>cases ry; exact PySem.EqMixed.eq_str_bool (zq I q (by simp))
  | int j=>obtain ⟨t',rfl⟩:=ry; exact PySem.EqMixed.eq_str_int (zq I q (by simp))
  | str j=>obtain ⟨t',rfl⟩:=ry; exact eq_str (zq I q jw6)
  | _=>exact absurd (show false = true from hs) Bool.false_ne_true
 | byt i=>
  obtain ⟨t,rfl⟩:=rx
  cases y with
  | byt j=>obtain ⟨t',rfl⟩:=ry; exact PySem.W.eq_bytes (zq I q jwy)
  | _=>exact absurd (show false = true from hs) Bool.false_ne_true
 | _=>cases y <;> exact absurd (show false = true from hs) Bool.false_ne_true
theorem jvh:OpR X (compareOp .NotEq) rNe:=by
 intro pins s U H x y v u Q I rx ry h
 obtain ⟨hs,q⟩:=h
 cases x with
 | non=>
  cases rx
  cases y with
  | non=>cases ry; exact PySem.EqNone.ne_none_none (zq I q (by simp))
  | bl j=>cases ry; exact PySem.EqNone.ne_none_bool (zq I q (by simp))
  | int j=>obtain ⟨t',rfl⟩:=ry; exact PySem.EqNone.ne_none_int (zq I q (by simp))
  | str j=>obtain ⟨t',rfl⟩:=ry; exact PySem.EqNone.ne_none_str (zq I q (by simp))
  | _=>exact absurd (show false = true from hs) Bool.false_ne_true
 | bl i=>
  cases rx
  cases y with
  | non=>cases ry; exact PySem.EqNone.ne_bool_none (zq I q (by simp))
  | bl j=>cases ry; exact ne_bool (zq I q (congrArg not j0w))
  | str j=>obtain ⟨t',rfl⟩:=ry; exact PySem.EqMixed.ne_bool_str (zq I q (by simp))
  | _=>exact absurd (show false = true from hs) Bool.false_ne_true
 | int i=>
  obtain ⟨t,rfl⟩:=rx
  cases y with
  | non=>cases ry; exact PySem.EqNone.ne_int_none (zq I q (by simp))
  | int j=>obtain ⟨t',rfl⟩:=ry; exact ne_int (zq I q (congrArg not jxu))
  | str j=>obtain ⟨t',rfl⟩:=ry; exact PySem.EqMixed.ne_int_str (zq I q (by simp))
  | _=>exact absurd (show false = true from hs) Bool.false_ne_true
 | str i=>
  obtain ⟨t,rfl⟩:=rx
  cases y with
  | non=>cases ry; exact PySem.EqNone.ne_str_none (zq I q (by simp))
  | bl j=>cases ry; exact PySem.EqMixed.ne_str_bool (zq I q (by simp))
  | int j=>obtain ⟨t',rfl⟩:=ry; exact PySem.EqMixed.ne_str_int (zq I q (by simp))
  | str j=>obtain ⟨t',rfl⟩:=ry; exact ne_str (zq I q (congrArg not jw6))
  | _=>exact absurd (show false = true from hs) Bool.false_ne_true
 | byt i=>
  obtain ⟨t,rfl⟩:=rx
  cases y with
  | byt j=>obtain ⟨t',rfl⟩:=ry; exact PySem.W.ne_bytes (zq I q (congrArg not jwy))
  | _=>exact absurd (show false = true from hs) Bool.false_ne_true
 | _=>cases y <;> exact absurd (show false = true from hs) Bool.false_ne_true
theorem jyz:OpR X (compareOp .Lt) (rI0 λi j=>.bl (decide (i < j))):=j5c λ_ _ _ _ _ _ _ q=>lt_int q
theorem jzy:OpR X (compareOp .LtE) (rI0 λi j=>.bl (decide (i <= j))):=j5c λ_ _ _ _ _ _ _ q=>le_int q
theorem jye:OpR X (compareOp .Gt) (rI0 λi j=>.bl (decide (j < i))):=j5c λ_ _ _ _ _ _ _ q=>gt_int q
theorem j5a:OpR X (compareOp .GtE) (rI0 λi j=>.bl (decide (j <= i))):=j5c λ_ _ _ _ _ _ _ q=>ge_int q
theorem j0n:OpR X (compareOp .Is) (λx y H Q=>y = .non /\ Q (.bl (decide (x = .non))) H):=by
 intro pins s U H x y v u Q I rx ry h
 obtain ⟨rfl,q⟩:=h
 cases ry
 refine is_none_gen (zq I q ?_)
 cases x <;> first
  | (cases rx; rfl)
  | (obtain ⟨t,rfl⟩:=rx; rfl)
theorem j18:OpR X (compareOp .IsNot) (λx y H Q=>y = .non /\ Q (.bl (!decide (x = .non))) H):=by
 intro pins s U H x y v u Q I rx ry h
 obtain ⟨rfl,q⟩:=h
 cases ry
 refine isnot_none_gen (zq I q ?_)
 cases x <;> first
  | (cases rx; rfl)
  | (obtain ⟨t,rfl⟩:=rx; rfl)
theorem qf (b:Expr) {op:CmpOp} (h:autoParam (op ≠ .In) aP2) (h2:autoParam (op ≠ .NotIn) aP2) : behindInMarks op b = false:=by
 have e:(op == CmpOp.In || op == CmpOp.NotIn) = false:=by cases op <;> first | rfl | exact absurd rfl h | exact absurd rfl h2
 cases b <;> first | rfl | (show (_ && _ && _) = false; rw [e,Bool.and_false]; rfl)
theorem jcw {op:CmpOp} {r:R2} (ho:OpR X (compareOp op) r) (ha:PE X a ta) (hb:PE X b tb) (hm:behindInMarks op b = false) : PE X (.Compare a [op] [b] pos) (tOp r ta tb):=by
 intro pins s U H Q I h
 exact wpAny_Compare1 (j63 ha hb I h λv u s2 x y H2 I2 rx ry q=>ho pins s2 U H2 x y v u Q I2 rx ry q) hm
def j65 (t:TE) : TT:=λU H Q=>t U H λx H'=>∃ k,x = .bl k /\ Q k H'
theorem jx {op:CmpOp} {r:R2} (ho:OpR X (compareOp op) r) (ha:PE X a ta) (hb:PE X b tb) (hm:behindInMarks op b = false) : PT X (.Compare a [op] [b] pos) (j65 (tOp r ta tb)):=by
 intro pins s U H Q I h
 refine wpAny_isTrue_Compare1 (thn (ha pins s U H _ I h) λv s1 ⟨x,H1,I1,r1,q1⟩=>thn (hb pins s1 U H1 _ I1 q1) λu s2 ⟨y,H2,I2,r2,q2⟩=>
  thn (ho pins s2 U H2 x y v u _ I2 r1 r2 q2) λc s3 ⟨z,H3,I3,r3,k,e,q3⟩=>?_) hm
 subst e
 cases r3
 exact wpAny_truthy_bool ⟨H3,I3,q3⟩
def j4v (r r':R2) (ta tb tc:TE) : TE:=λU H Q=>ta U H λx H1=>tb U H1 λy H2=>r x y H2 λz H3=>∃ k,z = .bl k /\
 (if k = true then tc U H3 λw' H4=>r' y w' H4 Q else Q (.bl false) H3)
theorem jzx {op op':CmpOp} {r r':R2} (ho:OpR X (compareOp op) r) (ho':OpR X (compareOp op') r') (ha:PE X a ta) (hb:PE X b tb) (hc:PE X c tc)
  (hm:lastMarks [op,op'] [b,c] = false:=by with_unfolding_all rfl) : PE X (.Compare a [op,op'] [b,c] pos) (j4v r r' ta tb tc):=by
 intro pins s U H Q I h
 refine Compare_chain (thn (ha pins s U H _ I h) λv s1 ⟨x,H1,I1,r1,q1⟩=>chain_link (thn (hb pins s1 U H1 _ I1 q1) λu s2 ⟨y,H2,I2,r2,q2⟩=>
  thn (ho pins s2 U H2 x y v u _ I2 r1 r2 q2) λd s3 ⟨z,H3,I3,r3,k,e,q3⟩=>?_)) hm
 subst e
 cases r3
 refine wpAny_truthy_bool ?_
 cases k with
 | false=>exact ite_ff ⟨.bl false,H3,I3,rfl,q3⟩
 | true=>exact ite_tt (chain_last (thn (hc pins s3 U H3 _ I3 q3) λw' s4 ⟨z',H4,I4,r4,q4⟩=>ho' pins s4 U H4 y z' u w' Q I4 r2 r4 q4))
def j6i (K:PySem.W.Frag) (x:V) (H:Hp) (k:Bool) : Prop:=
 match x with
 | .non=>k = false
 | .bl b=>k = b
 | .int i=>k = (i != 0)
 | .str y=>y.length <= sizeLine /\ k = ((y.length:Int) != 0)
 | .byt y=>y.size <= sizeLine /\ k = ((y.size:Int) != 0)
 | .ref p=>(∃ xs,SqL K H p xs /\ k = !xs.isEmpty) \/ (∃ xs,SqT K H p xs /\ k = !xs.isEmpty) \/ ∃ kvs,H p = some (.dK kvs) /\ k = !kvs.isEmpty
 | _=>False
theorem jvr {B : Type} {kvs:List (B × V)} {vs:List (B × Value)} (r:KV kvs vs) : (!vs.isEmpty) = !kvs.isEmpty:=by
 cases r <;> rfl
theorem jqk {xs:List V} {its:List Value} (r:Vals xs its) : (!its.toArray.isEmpty) = !xs.isEmpty:=by
 cases r <;> simp
theorem jnu:(sizeLine:Nat) < 2 ^ 63:=by rw [sizeLine_eq]; decide
theorem j1a:j8e X (λx H Q=>∃ k,j6i X.K x H k /\ Q k H):=by
 intro pins s U H x v Q I rx h
 obtain ⟨k,e,q⟩:=h
 have hl:=jnu
 have hs:sizeLine = 16777216:=sizeLine_eq
 cases x with
 | non=>
  cases rx
  have e':k = false:=e
  subst e'
  exact truthy_none ⟨H,I,q⟩
 | bl b=>
  cases rx
  have e':k = b:=e
  subst e'
  exact wpAny_truthy_bool ⟨H,I,q⟩
 | int i=>
  obtain ⟨t,rfl⟩:=rx
  have e':k = (i != 0):=e
  subst e'
  exact PySem.P.truthy_int ⟨H,I,q⟩
 | str y=>
  obtain ⟨t,rfl⟩:=rx
  obtain ⟨hy,e'⟩ : y.length <= sizeLine /\ k = ((y.length:Int) != 0):=e
  subst e'
  exact PySem.P.truthy_str (by omega) ⟨H,I.tok _,q⟩
 | byt y=>
  obtain ⟨t,rfl⟩:=rx
  obtain ⟨hy,e'⟩ : y.size <= sizeLine /\ k = ((y.size:Int) != 0):=e
  subst e'
  exact PySem.W.truthy_bytes (by omega) ⟨H,I.tok _,q⟩
 | ref p=>
  cases rx
  have e':(∃ xs,SqL X.K H p xs /\ k = !xs.isEmpty) \/ (∃ xs,SqT X.K H p xs /\ k = !xs.isEmpty) \/ ∃ kvs,H p = some (.dK kvs) /\ k = !kvs.isEmpty:=e
  rcases e' with ⟨xs,hx,e'⟩ | ⟨xs,hx,e'⟩ | ⟨kvs,hx,e'⟩
  .subst e'
   obtain ⟨its,r,pl,hz⟩:=I.list hx
   have hlen:=r.length
   exact wpAny_truthy_list pl.isList (by simp only [size_toArray]; omega) ⟨H,I.tok _,by rw [jqk r]; exact q⟩
  .subst e'
   obtain ⟨its,r,pl,hz⟩:=I.tuple hx
   have hlen:=r.length
   exact truthy_tuple pl (by simp only [size_toArray]; omega) ⟨H,I.tok _,by rw [jqk r]; exact q⟩
  .subst e'
   obtain ⟨hz,hS,vs,r,m⟩ : kvs.length <= sizeLine /\ (p == sysModules) = false /\ ∃ vs,KV kvs vs /\ s.heap.DictOf (zf X.prog X.w) p vs:=I.hok p _ hx
   have hlen:kvs.length = vs.length:=Paired.length r
   exact wpAny_truthy_dict hS m (by omega) ⟨H,I.tok _,by rw [jvr r]; exact q⟩
 | _=>exact (show False from e).elim
theorem jy8 (ha:PE X a ta) (he : ∀ whole,isTrue a X.env whole = (do let v <- whole; standAt a.pos; holding [v] (truthy v))) :
  PT X a (λU H Q=>ta U H λx H'=>∃ k,j6i X.K x H' k /\ Q k H'):=by
 intro pins s U H Q I h
 exact isTrue_plain (thn (ha pins s U H _ I h) λv s1 ⟨x,H1,I1,r1,q1⟩=>j1a pins s1 U H1 x v Q I1 r1 q1) (he _)
theorem vals1 {x:V} {us:List Value} (r:Vals [x] us) : ∃ u,us = [u] /\ RelV x u:=by
 cases r with
 | cons r1 r2=>cases r2; exact ⟨_,rfl,r1⟩
theorem vals2 {x y:V} {us:List Value} (r:Vals [x,y] us) : ∃ u w',us = [u,w'] /\ RelV x u /\ RelV y w':=by
 cases r with
 | cons r1 r2=>
  cases r2 with
  | cons r3 r4=>cases r4; exact ⟨_,_,rfl,r1,r3⟩
end
end L2
namespace L2
open PySem PySem.Spec PyProof.Rows
structure j1m (h:Heap) (x dx C:Addr) (mA:Str -> Option Value) : Prop where
 obj:h.get? x = some (PySem.W.instObj C dx)
 ns:h.Ns1 dx mA
 ne:dx ≠ x
theorem jxy {h:Heap} {dx:Addr} {mA:Str -> Option Value} (n:h.Ns1 dx mA) : ∃ od,h.get? dx = some od /\ ∀ name,PySem.W.lookIn name od = some (mA name):=by
 obtain ⟨o,es,ep,ho,hd,hk,_,hm⟩:=n
 refine ⟨o,ho,λname=>?_⟩
 have e:=hm name
 unfold nsFind findBy at e
 rw [<- Array.find?_toList] at e
 unfold PySem.W.lookIn
 rw [hd]
 dsimp only
 split
 .rename_i y q
  rw [q] at e
  exact congrArg some e
 .rename_i q
  rw [q] at e
  have a:es.toList.any (·.refKey) = false:=by
   rw [List.any_eq_false]
   intro y hy
   obtain ⟨z,t,hkey⟩:=hk y (Array.mem_toList_iff.mp hy)
   simp [DictEntry.refKey,hkey]
  have a' : ¬ es.toList.any (·.refKey) = true:=by rw [a]; exact Bool.false_ne_true
  rw [if_neg a']
  exact congrArg some e
theorem j1m.look {h:Heap} {x dx C:Addr} {mA:Str -> Option Value} (I:j1m h x dx C mA) : ∃ od,PySem.W.InstAt h x (PySem.W.instObj C dx) C (some od) /\ ∀ name,PySem.W.lookIn name od = some (mA name):=
 let ⟨od,ho,hl⟩:=jxy I.ns
 ⟨od,⟨I.obj,rfl,rfl,ho⟩,hl⟩
section
variable {prog:Program} {w:World} {A:Around} {E:Value -> Shared -> Prop} {s:Shared} {K:PySem.W.Frag} {x dx C f:Addr} {mA:Str -> Option Value} {name:Str} {v:Value}
theorem get_map {expr:Bool} {Q:Value -> Shared -> Prop} (X:K.In s.heap) (I:j1m s.heap x dx C mA) (hg:PySem.W.plainGet K C name = true) (hh:PySem.W.hasDictIn K C = true)
  (ha:PySem.W.findIn K (.ref C) name = some none) (hv:mA name = some v) (hv':PySem.W.handedIn v = true) (h:Q v { s with toks:=s.toks + 1 }) :
  wpAny (model prog w) A (getAttr (.ref x) name expr) Q E s:=by
 obtain ⟨od,J,hl⟩:=I.look
 exact PySem.W.get_value X J (PySem.W.plainGet_of hg).1 (PySem.W.findObj_own hh ha rfl (by rw [hl,hv])) hv' h
theorem jyw {pl:Sem Bool} {Q:Value × List Value -> Shared -> Prop} (X:K.In s.heap) (I:j1m s.heap x dx C mA) (hg:PySem.W.plainGet K C name = true)
  (hf:PySem.W.findIn K (.ref C) name = some (some (.ref f))) (ht:PySem.W.isFn K (.ref f) = true) (hv:mA name = none) (h:Q (.ref f,[.ref x]) s) :
  wpAny (model prog w) A (getMethod (.ref x) name pl) Q E s:=by
 obtain ⟨od,J,hl⟩:=I.look
 exact PySem.W.method_fn X J (PySem.W.plainGet_of hg).1 (PySem.W.plainGet_of hg).2 hf (beq_iff_eq.mp ht) (by show (PySem.W.lookIn name od).map (·.isSome) = some false; rw [hl,hv]; rfl) h
theorem jtk {ns:List Str} {Q:Unit -> Shared -> Prop} (X:K.In s.heap) (I:j1m s.heap x dx C mA)
  (hs:PySem.W.findIn K (.ref C) "__setattr__" = some (some (.builtin "object.__setattr__"))) (hp:PySem.W.plainOver K C = true) (ht:PySem.W.takerIn K C name = some none) (hh:PySem.W.hasDictIn K C = true)
  (hw:PySem.Within mA ns) (hsz:ns.length <= sizeLine)
  (h : ∀ h',j1m h' x dx C (λy=>if y = name then some v else mA y) -> Heap.SameBut dx s.heap h' -> Q () { s with heap:=h',toks:=s.toks + 2 }) :
  wpAny (model prog w) A (setAttr (.ref x) name v) Q E s:=by
 obtain ⟨od,J,hl⟩:=I.look
 refine PySem.W.set_plain X J hs (PySem.W.osa_open (s:={ s with toks:=s.toks + 1 }) (r:=none) X J hp ht λb=>?_)
 obtain ⟨cd,hc,hd'⟩:=PySem.W.any_some hh
 have hx:s.heap.get? x = some ⟨.ref C,some dx,.plain,#[]⟩:=I.obj
 refine wpAny_bind (wpAny_pure (wpAny_bind (wpAny_bind (wpAny_loadPart hx (wpAny_bind (PySem.W.Looks.here (s:={ s with toks:=s.toks + 1 }) (PySem.W.looks_clsIn X hc) ?_))))))
 rw [hd']
 refine wpAny_pure (a:=some dx) (wpAny_bind (wpAny_pure (wpAny_bind ?_)))
 refine wpAny_nsSet1 (s:={ s with toks:=s.toks + 1 }) I.ns λh' hn2 hs2=>?_
 obtain ⟨oD,esD,epD,hoD,hdD,hcD⟩:=hn2.count (PySem.Within.cons name v hw)
 refine wpAny_bind (wpAny_lookBehind hoD (by rw [hdD]; exact pastItsLine_dict (le_trans hcD (by rw [length_cons]; omega))) ?_)
 exact wpAny_pure (h _ ⟨(hs2.2 _ (Ne.symm I.ne)).trans I.obj,hn2,I.ne⟩ hs2)
theorem ju9 {R:Result -> Shared -> Prop} {vs:List Value} {kw:List (Str × Value)} (X:K.In s.heap) (hm:PySem.W.makesIn K C = true)
  (hi:PySem.W.findIn K (.ref C) "__init__" = some (some (.ref f))) (hf:PySem.W.typeIn K (.ref f) = some (.type "function"))
  (h:codeAny (model prog w) (A.under (.builtin "type.__call__" ⟨.ref C :: vs,kw⟩)) (.call (.ref f) ⟨.ref (s.heap.objs.size + 1) :: vs,kw⟩) (PySem.W.InitBack (s.heap.objs.size + 1) R)
   { s with heap:=(s.heap.push PySem.W.emptyDict).push (PySem.W.instObj C s.heap.objs.size) }) :
  codeAny (model prog w) A (.call (.ref C) ⟨vs,kw⟩) R s:=by
 obtain ⟨hh,g,d,t,os⟩:=s
 exact PySem.W.make_core (PySem.W.makes_of X hm) (PySem.W.looks_findIn X hi) (λself=>PySem.W.bind_fn X self hf) (.inl rfl) h
end
def uh (f:Str) (v:V) : List (Str × V) -> List (Str × V)
 | []=>[(f,v)]
 | (g,x) :: r=>if g = f then (g,v) :: r else (g,x) :: uh f v r
theorem jk (f g:Str) (v:V) : ∀ fs:List (Str × V),(uh f v fs).lookup g = if g = f then some v else fs.lookup g
 | []=>by
  show List.lookup g [(f,v)] = _
  by_cases h:g = f
  .have hb:(g == f) = true:=beq_iff_eq.mpr h
   simp only [List.lookup,hb,if_pos h]
  .have hb:(g == f) = false:=beq_eq_false_iff_ne.mpr h
   simp only [List.lookup,hb,if_neg h]
 | (k, x) :: r=>by
  have ih:=jk f g v r
  rw [show uh f v ((k,x) :: r) = (if k = f then (k,v) :: r else (k,x) :: uh f v r) from rfl]
  by_cases hk:k = f
  .rw [if_pos hk]
   by_cases h:g = k
   .have hb:(g == k) = true:=beq_iff_eq.mpr h
    simp only [List.lookup,hb,if_pos (h.trans hk)]
   .have hb:(g == k) = false:=beq_eq_false_iff_ne.mpr h
    simp only [List.lookup,hb,if_neg (λe:g = f=>h (e.trans hk.symm))]
  .rw [if_neg hk]
   by_cases h:g = k
   .have hb:(g == k) = true:=beq_iff_eq.mpr h
    simp only [List.lookup,hb,if_neg (λe:g = f=>hk (h.symm.trans e))]
   .have hb:(g == k) = false:=beq_eq_false_iff_ne.mpr h
    simp only [List.lookup,hb]
    exact ih
theorem jns (f:Str) (v:V) : ∀ fs:List (Str × V),f ∈ (uh f v fs).map (·.1) /\ ∀ g,g ∈ fs.map (·.1) -> g ∈ (uh f v fs).map (·.1)
 | []=>⟨by simp [uh],λg h=>by simp at h⟩
 | (k, x) :: r=>by
  obtain ⟨i1,i2⟩:=jns f v r
  rw [show uh f v ((k,x) :: r) = (if k = f then (k,v) :: r else (k,x) :: uh f v r) from rfl]
  by_cases hk:k = f
  .rw [if_pos hk]
   subst hk
   exact ⟨by simp,λg h=>by simpa using h⟩
  .rw [if_neg hk]
   refine ⟨?_,λg h=>?_⟩
   .rw [map_cons]
    exact mem_cons_of_mem _ i1
   .rw [map_cons] at h ⊢
    rcases mem_cons.mp h with e | e
    .exact mem_cons.mpr (.inl e)
    .exact mem_cons_of_mem _ (i2 g e)
theorem jol (f:Str) (v:V) : ∀ fs:List (Str × V),(uh f v fs).length <= fs.length + 1
 | []=>by simp [uh]
 | (k,x) :: r=>by
  have ih:=jol f v r
  rw [show uh f v ((k,x) :: r) = (if k = f then (k,v) :: r else (k,x) :: uh f v r) from rfl]
  by_cases hk:k = f
  .rw [if_pos hk,length_cons,length_cons]; omega
  .rw [if_neg hk,length_cons,length_cons]; omega
theorem jrs.some_of {v:V} {o:Option Value} (r:jrs (some v) o) : ∃ u,o = some u /\ RelV v u:=by
 cases o with
 | none=>exact (show False from r).elim
 | some u=>exact ⟨u,rfl,r⟩
theorem jrs.none_of {o:Option Value} (r:jrs none o) : o = none:=by
 cases o with
 | none=>rfl
 | some u=>exact (show False from r).elim
theorem jxe {v:V} {u:Value} (r:RelV v u) : PySem.W.handedIn u = true:=by
 cases v with
 | non=>cases (show u = Value.none from r); rfl
 | bl b=>cases (show u = Value.bool b from r); rfl
 | int i=>obtain ⟨t,e⟩:=(show ∃ t,u = Value.int i t from r); cases e; rfl
 | str x=>obtain ⟨t,e⟩:=(show ∃ t,u = Value.str x t from r); cases e; rfl
 | byt b=>obtain ⟨t,e⟩:=(show ∃ t,u = Value.bytes b t from r); cases e; rfl
 | flt b=>obtain ⟨t,e⟩:=(show ∃ t,u = Value.float b t from r); cases e; rfl
 | ref a=>cases (show u = Value.ref a from r); rfl
 | ty n=>cases (show u = Value.type n from r); rfl
section
variable {P:Program} {w:World} {H H':Hp} {h h':Heap} {a C dx:Addr} {fs fs':List (Str × V)}
theorem jq2 (hok:HOk P w H h) (e:H a = some (.ins C dx fs)) : ∃ mA,j1m h a dx C mA /\ (∀ f,jrs (fs.lookup f) (mA f)) /\ PySem.Within mA (fs.map (·.1)) /\ fs.length <= 1000 /\ H dx = some (.own a):=by
 obtain ⟨d,z,ne,ob,mA,n,r,q⟩:=(show wo P w H h a (.ins C dx fs) from hok a _ e)
 exact ⟨mA,⟨ob,n,ne⟩,r,q,z,d⟩
end
structure Cls (K:PySem.W.Frag) (C:Addr) : Prop where
 pg:PySem.W.plainGet K C Str.empty = true
 hd:PySem.W.hasDictIn K C = true
 po:PySem.W.plainOver K C = true
 sa:PySem.W.findIn K (.ref C) "__setattr__" = some (some (.builtin "object.__setattr__"))
theorem Cls.get {K:PySem.W.Frag} {C:Addr} (c:Cls K C) (f:Str) : PySem.W.plainGet K C f = true:=c.pg
def yf (K:PySem.W.Frag) (C:Addr) (f:Str) : Prop:=PySem.W.findIn K (.ref C) f = some none
theorem yf.j61 {K:PySem.W.Frag} {C:Addr} {f:Str} (n:yf K C f) : PySem.W.takerIn K C f = some none:=by
 unfold PySem.W.takerIn
 rw [show PySem.W.findIn K (.ref C) f = some none from n]
 rfl
structure Meth (K:PySem.W.Frag) (C:Addr) (m:Str) (f:Addr) : Prop where
 at_:PySem.W.findIn K (.ref C) m = some (some (.ref f))
 fn:PySem.W.isFn K (.ref f) = true
 kp:PySem.W.keepIn K (.ref f) = true
section
variable {X:Cx} {pins:List (Addr × Obj)} {U : St} {H:Hp} {s:Shared} {a C dx:Addr} {fs:List (Str × V)} {f:Str} {v:V} {A:Around} {E:Value -> Shared -> Prop}
theorem jwd {b:Bool} {Q:Value -> Shared -> Prop} (I:Inv X pins U H s) (e:H a = some (.ins C dx fs)) (c:Cls X.K C) (n:yf X.K C f) (l:fs.lookup f = some v)
  (h : ∀ u s',Inv X pins U H s' -> RelV v u -> Q u s') : wpAny (model X.prog X.w) A (getAttr (.ref a) f b) Q E s:=by
 obtain ⟨mA,O,r,_,_,_⟩:=jq2 I.hok e
 obtain ⟨u,hu,ru⟩:=jrs.some_of (v:=v) (o:=mA f) (by rw [<- l]; exact r f)
 exact get_map I.kIn O (c.get f) c.hd n hu (jxe ru) (h u _ (I.tok _) ru)
theorem jh4 {m:Str} {g:Addr} {pl:Sem Bool} {Q:Value × List Value -> Shared -> Prop} (I:Inv X pins U H s) (e:H a = some (.ins C dx fs)) (c:Cls X.K C) (k:Meth X.K C m g) (l:fs.lookup m = none)
  (h:Q (.ref g,[.ref a]) s) : wpAny (model X.prog X.w) A (getMethod (.ref a) m pl) Q E s:=by
 obtain ⟨mA,O,r,_,_,_⟩:=jq2 I.hok e
 have hn:mA m = none:=jrs.none_of (by rw [<- l]; exact r m)
 exact jyw I.kIn O (c.get m) k.at_ k.fn hn h
theorem jwb {y:V} {u:Value} {Q:Unit -> Shared -> Prop} (I:Inv X pins U H s) (e:H a = some (.ins C dx fs)) (c:Cls X.K C) (n:yf X.K C f) (hl:fs.length < 1000) (ry:RelV y u)
  (h : ∀ s',Inv X pins U (upd H a (.ins C dx (uh f y fs))) s' -> Q () s') : wpAny (model X.prog X.w) A (setAttr (.ref a) f u) Q E s:=by
 obtain ⟨mA,O,r,wi,_,ho⟩:=jq2 I.hok e
 have hz:(fs.map (·.1)).length <= sizeLine:=by rw [length_map,sizeLine_eq]; omega
 refine jtk I.kIn O c.sa c.po n.j61 c.hd wi hz λh' O' sb=>h _ ?_
 have hd : ∃ o,h'.get? dx = some o:=let ⟨o,_,_,e',_⟩:=O'.ns; ⟨o,e'⟩
 refine I.write (x:=a) (e:=dx) (by rw [e]; exact True.intro) (.inr ho) (λb q hb z=>(sb.2 b hb).trans z) hd ?_
 refine ⟨by rw [je O.ne]; exact ho,?_,O.ne,O'.obj,_,O'.ns,λg=>?_,λg hg=>?_⟩
 .have:=jol f y fs; omega
 .show jrs ((uh f y fs).lookup g) (if g = f then some u else mA g)
  rw [jk]
  by_cases q:g = f
  .rw [if_pos q,if_pos q]; exact ry
  .rw [if_neg q,if_neg q]; exact r g
 .by_cases q:g = f
  .rw [q]; exact (jns f y fs).1
  .refine (jns f y fs).2 g (wi g λz=>hg ?_)
   show (if g = f then some u else mA g) = none
   rw [if_neg q]; exact z
theorem Inv.made (I:Inv X pins U H s) : Inv X pins U (upd (upd H s.heap.objs.size (.own (s.heap.objs.size + 1))) (s.heap.objs.size + 1) (.ins C s.heap.objs.size []))
  { s with heap:=(s.heap.push PySem.W.emptyDict).push (PySem.W.instObj C s.heap.objs.size) }:=by
 have e1:(s.heap.push PySem.W.emptyDict).get? s.heap.objs.size = some PySem.W.emptyDict:=Heap.get?_push_size s.heap rfl
 have e2:((s.heap.push PySem.W.emptyDict).push (PySem.W.instObj C s.heap.objs.size)).get? (s.heap.objs.size + 1) = some (PySem.W.instObj C s.heap.objs.size):=by
  have:=Heap.get?_push_size (s.heap.push PySem.W.emptyDict) (o:=PySem.W.instObj C s.heap.objs.size) rfl
  rwa [Heap.size_push] at this
 have e3:(s.heap.push PySem.W.emptyDict).Ns s.heap.objs.size (λ_=>none):=⟨PySem.W.emptyDict,#[],_,e1,rfl,(λe he=>absurd he (by simp)),λ_=>rfl⟩
 have I1:=I.laid (a:=s.heap.objs.size) (o:=.own (s.heap.objs.size + 1)) (h':=s.heap.push PySem.W.emptyDict) (t':=s.toks) (λb u q=>Heap.get?_push_of_some _ q) (le_refl _) ⟨_,e1⟩
 refine I1.laid (a:=s.heap.objs.size + 1) (o:=.ins C s.heap.objs.size []) (t':=s.toks) (λb u q=>Heap.get?_push_of_some _ q) (Nat.le_of_eq (Heap.size_push _ _)) ?_
 have ne:s.heap.objs.size ≠ s.heap.objs.size + 1:=ne_of_lt (lt_succ_self _)
 refine ⟨by rw [je ne,ja],zero_le _,ne,e2,λ_=>none,(Heap.Ns1.of_empty e3).at λo q=>Heap.get?_push_of_some _ q,λ_=>True.intro,λy hy=>absurd rfl hy⟩
theorem j25 {prog:Program} {w:World} {env:Env} {e:Expr} {f:Str} {pos:Pos} {s:Shared} {Q:Value -> Shared -> Prop} (hb:attributeBase e f env (eval e env) = eval e env)
  (h:wpAny (model prog w) A (eval e env) (λo s₁=>wpAny (model prog w) A (getAttr o f true) Q E s₁) E s) : wpAny (model prog w) A (eval (.Attribute e f pos) env) Q E s:=
 Attribute_any_ h (by rw [arm_eval_Attribute,hb])
end
def j7v (K:PySem.W.Frag) (ta:TE) (f:Str) : TE:=λU H Q=>ta U H λx H1=>∃ a C dx fs v,x = .ref a /\ H1 a = some (.ins C dx fs) /\ Cls K C /\ yf K C f /\ fs.lookup f = some v /\ Q v H1
def j74 (K:PySem.W.Frag) (ta tv:TE) (f:Str) : TS:=λD U H=>tv U H λy H1=>ta U H1 λx H2=>∃ a C dx fs,x = .ref a /\ H2 a = some (.ins C dx fs) /\ Cls K C /\ yf K C f /\ fs.length < 1000 /\
 D.nx U (upd H2 a (.ins C dx (uh f y fs)))
section
variable {X:Cx} {o e value:Expr} {f:Str} {pos pos' tpos:Pos} {ta tv:TE}
theorem qb (he:PE X e ta) (hb:attributeBase e f X.env (eval e X.env) = eval e X.env) : PE X (.Attribute e f pos) (j7v X.K ta f):=by
 intro pins s U H Q I h
 refine j25 hb (thn (he pins s U H _ I h) λu s1 ⟨x,H1,I1,rx,a,C,dx,fs,v,ex,ea,c,n,l,q⟩=>?_)
 subst ex
 obtain rfl:u = Value.ref a:=rx
 exact jwd I1 ea c n l λu' s2 I2 ru=>⟨v,H1,I2,ru,q⟩
theorem jas (ha:PE X o ta) (hv:PE X value tv) (hs:swapsWith value (some (.Attribute o f pos')) pos.line X.env = pure false) : PS X (.Assign [.Attribute o f pos'] value pos) (j74 X.K ta tv f):=by
 intro pins s U H D I h
 refine plainObj_wpAny_Assign_Attribute (thn (hv pins s U H _ I h) λu s1 ⟨y,H1,I1,ry,q⟩=>thn (ha pins s1 U H1 _ I1 q) λov s2 ⟨x,H2,I2,rx,a,C,dx,fs,ex,ea,c,n,l,q2⟩=>?_) hs
 subst ex
 obtain rfl:ov = Value.ref a:=rx
 exact jwb I2 ea c n l ry λs3 I3=>⟨U,_,I3,q2⟩
theorem j21 {pl:Sem Bool} {m:Str} {apos:Pos} {args:List Expr} {pins:List (Addr × Obj)} {s:Shared} {U : St} {H:Hp} {Q:Value -> Shared -> Prop} {te:TE} (he:PE X e te) (I:Inv X pins U H s)
  (h:te U H λx H1=>∃ a C dx fs g,x = .ref a /\ H1 a = some (.ins C dx fs) /\ Cls X.K C /\ Meth X.K C m g /\ fs.lookup m = none /\
   ∀ s1,Inv X pins U H1 s1 -> wpAny (model X.prog X.w) X.A (callWith pos (.ref g) [.ref a] (backTo pos (starEach args X.env)) (backToKw pos (keywordEach [] X.env))) Q X.xe s1)
  (ht:eval (.Call (.Attribute e m apos) args [] pos) X.env = (do
   let ov <- eval e X.env
   standAt apos.atName
   let (f,first) <- holding [ov] (getMethod ov m pl)
   callWith pos f first (backTo pos (starEach args X.env)) (backToKw pos (keywordEach [] X.env)))) :
  wpAny (model X.prog X.w) X.A (eval (.Call (.Attribute e m apos) args [] pos) X.env) Q X.xe s:=by
 refine PySem.W.methodCall_KW (pl:=pl) (thn (he pins s U H _ I h) λu s1 ⟨x,H1,I1,rx,a,C,dx,fs,g,ex,ea,c,k,l,q⟩=>?_) ht
 subst ex
 obtain rfl:u = Value.ref a:=rx
 exact jh4 I1 ea c k l (q s1 I1)
end
section
variable {X:Cx} {pins:List (Addr × Obj)} {U : St} {H:Hp} {s:Shared} {A:Around} {E:Value -> Shared -> Prop} {Q:Value -> Shared -> Prop} {c:Value} {b:Bool}
inductive jvi (K:PySem.W.Frag) (H:Hp) : V -> Value -> Prop where
 | non:jvi K H .non (.type "NoneType")
 | bl (x:Bool) : jvi K H (.bl x) (.type "bool")
 | int (i:Int) : jvi K H (.int i) (.type "int")
 | str (x:Str) : jvi K H (.str x) (.type "str")
 | flt (x:UInt64) : jvi K H (.flt x) (.type "float")
 | lst {a:Addr} {xs:List V} (e:H a = some (.lst xs)) : jvi K H (.ref a) (.type "list")
 | frz {a:Addr} {o:Obj} {xs:List V} (e:H a = some (.frz o (.lst xs))) : jvi K H (.ref a) (.type "list")
 | tup {a:Addr} {xs:List V} (e:H a = some (.tup xs)) : jvi K H (.ref a) (.type "tuple")
 | dK {a:Addr} {kvs:List (Key × V)} (e:H a = some (.dK kvs)) : jvi K H (.ref a) (.type "dict")
 | dT {a:Addr} {kvs:List (List Key × V)} (e:H a = some (.dT kvs)) : jvi K H (.ref a) (.type "dict")
 | ins {a C dx:Addr} {fs:List (Str × V)} (e:H a = some (.ins C dx fs)) (cl:Cls K C) (ha:PySem.W.findIn K (.ref C) "__class__" = some (some (.builtin "object.__class__")))
   (hn:PySem.W.specialIn K (.builtin "object.__class__") "__get__" = some (some (.builtin "getset_descriptor.__get__"))) (htk:PySem.W.takesIn K (.builtin "object.__class__") = some true)
   (hm:PySem.W.mroIn K C (.type "object") = some true) : jvi K H (.ref a) (.ref C)
theorem jwt {x:V} {u t:Value} (I:Inv X pins U H s) (rx:RelV x u) (ty:jvi X.K H x t) (e:PySem.W.kitOne X.K t c = some b) (h : ∀ tk,Q (.bool b) { s with toks:=tk }) :
  wpAny (model X.prog X.w) A (call (.builtin "isinstance") [u,c]) Q E s:=by
 cases ty with
 | non=>cases (show u = Value.none from rx); exact PySem.W.kia_one PySem.W.kitx_none I.kIn True.intro e (λz=>nomatch z) h
 | bl y=>cases (show u = Value.bool y from rx); exact PySem.W.kia_one PySem.W.kitx_bool I.kIn True.intro e (λz=>nomatch z) h
 | int i=>obtain ⟨t,q⟩:=(show ∃ t,u = Value.int i t from rx); cases q; exact PySem.W.kia_one PySem.W.kitx_int I.kIn True.intro e (λz=>nomatch z) h
 | str y=>obtain ⟨t,q⟩:=(show ∃ t,u = Value.str y t from rx); cases q; exact PySem.W.kia_one PySem.W.kitx_str I.kIn True.intro e (λz=>nomatch z) h
 | flt y=>obtain ⟨t,q⟩:=(show ∃ t,u = Value.float y t from rx); cases q; exact PySem.W.kia_one PySem.W.kitx_float I.kIn True.intro e (λz=>nomatch z) h
 | @lst a xs ea=>
  cases (show u = Value.ref a from rx)
  obtain ⟨_,_,n,_,h1⟩:=(show wo X.prog X.w H s.heap a (.lst xs) from I.hok a _ ea)
  exact PySem.W.kia_one PySem.W.kitx_list I.kIn ⟨_,h1,rfl⟩ e (λz=>nomatch z) h
 | @frz a ob xs ea=>
  cases (show u = Value.ref a from rx)
  obtain ⟨_,_,_,n,_,h1⟩:=(show wo X.prog X.w H s.heap a (.frz ob (.lst xs)) from I.hok a _ ea)
  exact PySem.W.kia_one PySem.W.kitx_list I.kIn ⟨_,h1,rfl⟩ e (λz=>nomatch z) h
 | @tup a xs ea=>
  cases (show u = Value.ref a from rx)
  obtain ⟨_,_,_,p⟩:=(show wo X.prog X.w H s.heap a (.tup xs) from I.hok a _ ea)
  obtain ⟨o,h1,h2,_⟩:=p
  exact PySem.W.kia_one PySem.W.kitx_tuple I.kIn ⟨o,h1,h2⟩ e (λz=>nomatch z) h
 | @dK a kvs ea=>
  cases (show u = Value.ref a from rx)
  obtain ⟨_,_,vs,_,p⟩:=(show wo X.prog X.w H s.heap a (.dK kvs) from I.hok a _ ea)
  obtain ⟨o,es,ep,h1,h2,_⟩:=p
  exact PySem.W.kia_one PySem.W.kitx_dict I.kIn ⟨o,h1,h2.1⟩ e (λz=>nomatch z) h
 | @dT a kvs ea=>
  cases (show u = Value.ref a from rx)
  obtain ⟨_,_,xs,_,o,es,ep,h1,h2,_⟩:=(show wo X.prog X.w H s.heap a (.dT kvs) from I.hok a _ ea)
  exact PySem.W.kia_one PySem.W.kitx_dict I.kIn ⟨o,h1,h2.1⟩ e (λz=>nomatch z) h
 | @ins a C dx fs ea cl ha hn htk hm=>
  cases (show u = Value.ref a from rx)
  obtain ⟨mA,O,_⟩:=jq2 I.hok ea
  obtain ⟨od,J,_⟩:=O.look
  exact PySem.W.kia_one (PySem.W.kitx_own (cl.get _) cl.hd ha hn htk hm) I.kIn J e (λz=>nomatch z) h
end
end L2
namespace L2
open PySem PySem.Spec PyProof.Rows
structure jeo (k:Nat) (A:Around) : Prop where
 hd:A.handled = none
 dp:A.depth + 3 * k + 5 < recursionLimit
 un:A.units + 16 * k + 200 < cLine
theorem jeo.mono {j k:Nat} {A:Around} (r:jeo k A) (h:j <= k) : jeo j A:=⟨r.hd,by have:=r.dp; omega,by have:=r.un; omega⟩
theorem jeo.dn {j k:Nat} {A:Around} (r:jeo k A) (h:autoParam (j <= k) aP2) : jeo j A:=r.mono h
theorem jeo.deeper {k:Nat} {A:Around} (r:jeo (k + 1) A) (env:Env) : jeo k (A.deeper env):=
 ⟨r.hd,by have:=r.dp; show A.depth + 1 + 3 * k + 5 < _; omega,by have:=r.un; show A.units + 3 + 16 * k + 200 < _; omega⟩
theorem jvk {A:Around} {C:Addr} {us:List Value} {kw:List (Str × Value)} : (A.under (.builtin "type.__call__" ⟨.ref C :: us,kw⟩)).depth = A.depth + 1:=by
 first | rfl | simp [Around.under,Code.weight,Code.isCreation,Code.isGuard,Code.isCaller,Code.frames,Code.isFrame,guardIds]
theorem jv1 {A:Around} {C:Addr} {us:List Value} {kw:List (Str × Value)} : (A.under (.builtin "type.__call__" ⟨.ref C :: us,kw⟩)).units = A.units + 1:=by
 first | rfl | simp [Around.under,Code.cUnits,Code.frames,Code.isFrame]
theorem jeo.make {k:Nat} {A:Around} (r:jeo (k + 1) A) (C:Addr) (us:List Value) (kw:List (Str × Value)) : jeo k (A.under (.builtin "type.__call__" ⟨.ref C :: us,kw⟩)):=
 ⟨r.hd,by have:=r.dp; rw [jvk]; omega,by have:=r.un; rw [jv1]; omega⟩
theorem jeo.depth {k:Nat} {A:Around} (r:jeo k A) : A.depth < recursionLimit:=by have:=r.dp; omega
theorem jeo.units {k:Nat} {A:Around} (r:jeo k A) : A.units + 64 < cLine:=by have:=r.un; omega
def jys:TA:=λ_ H Q=>Q [] H
def vk (ta:TE) (tr:TA) : TA:=λU H Q=>ta U H λx H1=>tr U H1 λxs H2=>Q (x :: xs) H2
section
variable {X:Cx} {e:Expr} {es:List Expr} {te:TE} {t:TA} {pos:Pos}
theorem jg:PA X [] jys:=λ_ _ _ _ H Q I h=>Calls.spliced_nil ⟨[],H,I,.nil,h⟩
theorem j2y (ha:PE X e te) (hr:PA X es t) (hs:autoParam (starEach (e :: es) X.env = (false,eval e X.env) :: starEach es X.env) aP1) : PA X (e :: es) (vk te t):=by
 intro pos pins s U H Q I h
 rw [hs]
 show wpAny _ _ (spliced ((false,eval e X.env) :: backTo pos (starEach es X.env))) _ _ s
 refine Calls.spliced_cons (thn (ha pins s U H _ I h) λu s1 ⟨x,H1,I1,r1,q1⟩=>?_)
 exact thn (hr pos pins s1 U H1 _ I1 q1) λus s2 ⟨xs,H2,I2,r2,q2⟩=>⟨x :: xs,H2,I2,.cons r1 r2,q2⟩
def j7u (t:TA) : TE:=λU H Q=>t U H λxs H1=>xs.length <= sizeLine /\ ∀ p,H1 p = none -> Q (.ref p) (upd H1 p (.tup xs))
def j8p (t:TA) : TE:=λU H Q=>t U H λxs H1=>xs.length <= sizeLine /\ ∀ p,H1 p = none -> Q (.ref p) (upd H1 p (.lst xs))
theorem jhm {x1} (h:PA X es t) : PE X (.Tuple es x1 pos) (j7u t):=by
 intro pins s U H Q I hq
 refine wpAny_Tuple_spliced (thn (h pos pins s U H _ I hq) λus s1 ⟨xs,H1,I1,r,z,q⟩=>⟨by rw [<- r.length]; exact z,?_⟩)
 have hf:H1 s1.heap.objs.size = none:=I1.hok.fresh (le_refl _)
 refine ⟨.ref s1.heap.objs.size,upd H1 s1.heap.objs.size (.tup xs),I1.laid (t':=s1.toks) (λb u e=>Heap.get?_push_of_some _ e) (le_refl _) ?_,rfl,q _ hf⟩
 exact ⟨z,us,r,⟨_,Heap.get?_push_size _ rfl,rfl,_,rfl⟩⟩
theorem zd (h:PA X es t) : PE X (.List es pos) (j8p t):=by
 intro pins s U H Q I hq
 refine wpAny_List_spliced (thn (h pos pins s U H _ I hq) λus s1 ⟨xs,H1,I1,r,z,q⟩=>⟨by rw [<- r.length]; exact z,?_⟩)
 have hf:H1 s1.heap.objs.size = none:=I1.hok.fresh (le_refl _)
 refine ⟨.ref s1.heap.objs.size,upd H1 s1.heap.objs.size (.lst xs),I1.laid (t':=s1.toks) (λb u e=>Heap.get?_push_of_some _ e) (le_refl _) ?_,rfl,q _ hf⟩
 exact ⟨z,us,0,r,Heap.get?_push_size _ rfl⟩
end
abbrev Sp:=List V -> Hp -> VK -> XK -> Prop
abbrev CXT:=List Env -> Hp -> Shared -> XK -> Value -> Shared -> Prop
structure j2w (P:Program) (w:World) (K:PySem.W.Frag) (mg:Str -> Option Value) (base:Heap) (A:Around) (outer:List Env) (s:Shared) (H:Hp) : Prop where
 frames:A.frames = some outer
 mod:Mod K mg base
 bs : ∀ b o,base.get? b = some o -> s.heap.get? b = some o /\ H b = none
 bsz:base.objs.size <= s.heap.objs.size
 jte:s.heap.FunFrames base outer
 frf : ∀ b ∈ frs outer,H b = none
 hok:HOk P w H s.heap
 bare:AllBare s.gens
def CE (outer:List Env) (P:Program) (w:World) (H:Hp) (s:Shared) (Q:VK) (u:Value) (s':Shared) : Prop:=
 ∃ v H',s'.os = s.os /\ AllBare s'.gens /\ Un (frs outer) [] H H' s.heap s'.heap /\ HOk P w H' s'.heap /\ RelV v u /\ Q v H'
def CR (CX:CXT) (outer:List Env) (P:Program) (w:World) (H:Hp) (s:Shared) (Q:VK) (E:XK) (r:Result) (s':Shared) : Prop:=
 match r with
 | .ok (.ret u)=>CE outer P w H s Q u s'
 | .ok _=>False
 | .error e=>CX outer H s E e s'
structure xo (P:Program) (w:World) (K:PySem.W.Frag) (mg:Str -> Option Value) (base:Heap) (CX:CXT) (k:Nat) (f:Addr) (fd:FuncData) (ps:List Str) (sp:Sp) : Prop where
 len : ∀ vs H Q E,sp vs H Q E -> vs.length = ps.length
 run : ∀ (A:Around) (outer:List Env) (s:Shared) (H:Hp) (args:Args) (us:List Value) (vs:List V) (Q:VK) (E:XK),jeo k A -> j2w P w K mg base A outer s H -> BindsTo s fd args (ps.zip us) -> Vals vs us -> sp vs H Q E ->
  codeAny (model P w) A (.call (.ref f) args) (CR CX outer P w H s Q E) s
theorem j2w.make {P:Program} {w:World} {K:PySem.W.Frag} {mg:Str -> Option Value} {base:Heap} {A:Around} {outer:List Env} {s:Shared} {H:Hp} (e:j2w P w K mg base A outer s H) (C:Addr) (us:List Value) (kw:List (Str × Value)) :
  j2w P w K mg base (A.under (.builtin "type.__call__" ⟨.ref C :: us,kw⟩)) outer s H:=⟨by first | exact e.frames | (simpa [Around.under,Code.envs,Code.isFrame,pushEnvs] using e.frames),e.mod,e.bs,e.bsz,e.jte,e.frf,e.hok,e.bare⟩
section
variable {X:Cx} {pins:List (Addr × Obj)} {U : St} {H:Hp} {s s':Shared}
theorem Inv.j3b (I:Inv X pins U H s) : j2w X.prog X.w X.K X.mg X.base X.A X.stack s H:=
 ⟨I.ok.frames,I.ok.mod,I.bs,le_trans I.ok.bsz I.sz,I.stack,I.jqy,I.hok,I.bare⟩
theorem Inv.after {Q:VK} {u:Value} (I:Inv X pins U H s) (h:CE X.stack X.prog X.w H s Q u s') : EP X pins U Q u s':=by
 obtain ⟨v,H',os,bare,un,hok,r,q⟩:=h
 obtain ⟨hh,g,d,t,os'⟩:=s'
 obtain rfl:os' = s.os:=os
 exact ⟨v,H',I.call (h':=hh) (g':=g) (d':=d) (t':=t) (ch:=[]) un hok bare (λb z=>absurd z (by simp)),r,q⟩
end
def j40 (sp:Sp) (dvs:List V) (E:XK) (t:TA) : TE:=λU H Q=>t U H λvs H1=>sp (vs ++ dvs) H1 Q E
def j4q (C:Addr) (m:Str) (sp:Sp) (dvs:List V) (E:XK) (ta:TE) (t:TA) : TE:=λU H Q=>ta U H λx H1=>∃ a dx fs,x = .ref a /\ H1 a = some (.ins C dx fs) /\ fs.lookup m = none /\
 t U H1 λvs H2=>sp (x :: (vs ++ dvs)) H2 Q E
def j53 (C:Addr) (sp:Sp) (dvs:List V) (E:XK) (t:TA) : TE:=λU H Q=>t U H λvs H1=>∀ x dx,H1 x = none -> H1 dx = none -> dx ≠ x ->
 sp (.ref x :: (vs ++ dvs)) (upd (upd H1 dx (.own x)) x (.ins C dx [])) (λv H2=>v = .non /\ Q (.ref x) H2) E
def Binds (K:PySem.W.Frag) (fd:FuncData) (ps:List Str) (ds:List Value) : Prop:=
 ∀ (s:Shared) (us:List Value),K.In s.heap -> (us ++ ds).length = ps.length -> BindsTo s fd ⟨us,[]⟩ (ps.zip (us ++ ds))
theorem Binds.all {K:PySem.W.Frag} {fd:FuncData} {ps:List Str} (h : ∀ us:List Value,us.length = ps.length -> bindArgs fd ⟨us,[]⟩ = pure (ps.zip us)) : Binds K fd ps []:=λs us _ hl=>by
 rw [append_nil] at hl ⊢
 exact .of_eq (h us hl)
def Passes (CX:CXT) (X:Cx) (E:XK) : Prop:=∀ (pins:List (Addr × Obj)) (U : St) (H:Hp) (s:Shared) (e:Value) (s':Shared),Inv X pins U H s -> CX X.stack H s E e s' -> X.xe e s'
section
variable {X:Cx} {CX:CXT} {k:Nat} {f C:Addr} {fd:FuncData} {ps:List Str} {sp:Sp} {dvs:List V} {ds:List Value} {E:XK} {x m:Str} {p pos apos:Pos} {e o:Expr} {es:List Expr} {ta:TE} {t:TA}
theorem jui {pins:List (Addr × Obj)} {U : St} {H:Hp} {s:Shared} {Q:VK} {us:List Value} {vs:List V} (F:xo X.prog X.w X.K X.mg X.base CX k f fd ps sp) (hr:jeo k X.A) (hb:Binds X.K fd ps ds) (hd:Vals dvs ds) (hx:Passes CX X E)
  (I:Inv X pins U H s) (r:Vals vs us) (h:sp (vs ++ dvs) H Q E) : wpAny (model X.prog X.w) X.A (call (.ref f) us) (EP X pins U Q) X.xe s:=by
 have r2:Vals (vs ++ dvs) (us ++ ds):=r.append hd
 have hl:(us ++ ds).length = ps.length:=by rw [<- r2.length]; exact F.len _ _ _ _ h
 refine wpAny_call (codeAny_mono (F.run X.A X.stack s H ⟨us,[]⟩ (us ++ ds) (vs ++ dvs) Q E hr I.j3b (hb s us I.kIn hl) r2 h) λr s' hq=>?_)
 cases r with
 | error e=>exact hx pins U H s e s' I hq
 | ok fl=>
  cases fl with
  | ret u=>exact I.after hq
  | next=>exact False.elim hq
  | brk=>exact False.elim hq
  | cont=>exact False.elim hq
theorem jm (F:xo X.prog X.w X.K X.mg X.base CX k f fd ps sp) (hr:jeo k X.A) (hg:Gl X x) (hm:X.mg x = some (.ref f)) (hk:PySem.W.keepIn X.K (.ref f) = true) (hb:Binds X.K fd ps ds) (hd:Vals dvs ds) (hx:Passes CX X E)
  (ha:PA X (e :: es) t) (hdb:autoParam ((x == ("__debug__" : Str)) = false) aP2) (he:autoParam (starEach (e :: es) X.env = (false,eval e X.env) :: starEach es X.env) aP1) (hpl:autoParam ((backTo pos (starEach es X.env)).any (·.1) = false) aP1) :
  PE X (.Call (.Name x p) (e :: es) [] pos) (j40 sp dvs E t):=by
 intro pins s U H Q I h
 refine wpAny_Call_Name_kw (jg1 I hg hm ?_ hdb)
 refine PySem.W.callWith_K (h₀:=X.base) I.ok.mod.kin hk (thn (ha pos pins s U H _ I h) λus s1 ⟨vs,H1,I1,r,q⟩=>⟨I1.kIn,?_⟩) he hpl
 exact jui F hr hb hd hx I1 r q
theorem qd {pl:Sem Bool} (he:PE X o ta) (c:Cls X.K C) (hm:Meth X.K C m f) (F:xo X.prog X.w X.K X.mg X.base CX k f fd ps sp) (hr:jeo k X.A) (hb:Binds X.K fd ps ds) (hd:Vals dvs ds) (hx:Passes CX X E) (ha:PA X (e :: es) t)
  (hst:autoParam (starEach (e :: es) X.env = (false,eval e X.env) :: starEach es X.env) aP1) (hpl:autoParam ((backTo pos (starEach es X.env)).any (·.1) = false) aP1)
  (ht:autoParam (eval (.Call (.Attribute o m apos) (e :: es) [] pos) X.env = (do
   let ov <- eval o X.env
   standAt apos.atName
   let (f,first) <- holding [ov] (getMethod ov m pl)
   callWith pos f first (backTo pos (starEach (e :: es) X.env)) (backToKw pos (keywordEach [] X.env)))) aP1) :
  PE X (.Call (.Attribute o m apos) (e :: es) [] pos) (j4q C m sp dvs E ta t):=by
 intro pins s U H Q I h
 refine PySem.W.methodCall_KW (pl:=pl) (thn (he pins s U H _ I h) λu s1 ⟨x,H1,I1,rx,a,dx,fs,ex,ea,l,q⟩=>?_) ht
 subst ex
 obtain rfl:u = Value.ref a:=rx
 refine jh4 I1 ea c hm l ?_
 refine PySem.W.callWith_K (first:=[.ref a]) (h₀:=X.base) I.ok.mod.kin hm.kp (thn (ha pos pins s1 U H1 _ I1 q) λus s2 ⟨vs,H2,I2,r,q2⟩=>⟨I2.kIn,?_⟩) hst hpl
 exact jui (us:=.ref a :: us) (vs:=.ref a :: vs) F hr hb hd hx I2 (.cons rfl r) q2
theorem xu {pl:Sem Bool} (he:PE X o ta) (c:Cls X.K C) (hm:Meth X.K C m f) (F:xo X.prog X.w X.K X.mg X.base CX k f fd ps sp) (hr:jeo k X.A) (hb:Binds X.K fd ps ds) (hd:Vals dvs ds) (hx:Passes CX X E)
  (ht:autoParam (eval (.Call (.Attribute o m apos) [] [] pos) X.env = (do
   let ov <- eval o X.env
   standAt apos.atName
   let (f,first) <- holding [ov] (getMethod ov m pl)
   callWith pos f first (backTo pos (starEach [] X.env)) (backToKw pos (keywordEach [] X.env)))) aP1) :
  PE X (.Call (.Attribute o m apos) [] [] pos) (j4q C m sp dvs E ta jys):=by
 intro pins s U H Q I h
 refine PySem.W.methodCall_KW (pl:=pl) (thn (he pins s U H _ I h) λu s1 ⟨x,H1,I1,rx,a,dx,fs,ex,ea,l,q⟩=>?_) ht
 subst ex
 obtain rfl:u = Value.ref a:=rx
 refine jh4 I1 ea c hm l ?_
 exact PySem.W.callWith_K0 (first:=[.ref a]) I1.kIn hm.kp (jui (us:=[.ref a]) (vs:=[.ref a]) F hr hb hd hx I1 (.cons rfl .nil) q)
structure Mk (K:PySem.W.Frag) (C f:Addr) : Prop where
 makes:PySem.W.makesIn K C = true
 init:PySem.W.findIn K (.ref C) "__init__" = some (some (.ref f))
 fn:PySem.W.isFn K (.ref f) = true
 kp:PySem.W.keepIn K (.ref C) = true
theorem j0b {pins:List (Addr × Obj)} {U : St} {H:Hp} {s:Shared} {Q:VK} {us:List Value} {vs:List V} (M:Mk X.K C f) (F:xo X.prog X.w X.K X.mg X.base CX k f fd ps sp) (hr:jeo (k + 1) X.A) (hb:Binds X.K fd ps ds) (hd:Vals dvs ds)
  (hx:Passes CX X E) (I:Inv X pins U H s) (r:Vals vs us)
  (h : ∀ x dx,H x = none -> H dx = none -> dx ≠ x -> sp (.ref x :: (vs ++ dvs)) (upd (upd H dx (.own x)) x (.ins C dx [])) (λv H2=>v = .non /\ Q (.ref x) H2) E) :
  wpAny (model X.prog X.w) X.A (call (.ref C) us) (EP X pins U Q) X.xe s:=by
 have hq:=h (s.heap.objs.size + 1) s.heap.objs.size (I.hok.fresh (le_succ _)) (I.hok.fresh (le_refl _)) (ne_of_lt (lt_succ_self _))
 have I2:=Inv.made (C:=C) I
 have r2:Vals (V.ref (s.heap.objs.size + 1) :: (vs ++ dvs)) (Value.ref (s.heap.objs.size + 1) :: (us ++ ds)):=.cons rfl (r.append hd)
 have hl:(Value.ref (s.heap.objs.size + 1) :: us ++ ds).length = ps.length:=by
  have e:=r2.length
  rw [F.len _ _ _ _ hq] at e
  exact e.symm
 refine wpAny_call (ju9 (f:=f) I.kIn M.makes M.init (beq_iff_eq.mp M.fn) (codeAny_mono (F.run _ X.stack _ _ ⟨Value.ref (s.heap.objs.size + 1) :: us,[]⟩ (Value.ref (s.heap.objs.size + 1) :: (us ++ ds)) _ _ E (hr.make C us [])
  (I2.j3b.make C us []) (hb _ (Value.ref (s.heap.objs.size + 1) :: us) I2.kIn hl) r2 hq) λr s' hq'=>?_))
 cases r with
 | error e=>exact hx pins U _ _ e s' I2 hq'
 | ok fl=>
  cases fl with
  | ret u=>
   obtain ⟨v,H',I3,rv,ev,q3⟩:=I2.after hq'
   subst ev
   exact ⟨rv,⟨V.ref (s.heap.objs.size + 1),H',I3,rfl,q3⟩⟩
  | next=>exact False.elim hq'
  | brk=>exact False.elim hq'
  | cont=>exact False.elim hq'
theorem jxg (M:Mk X.K C f) (F:xo X.prog X.w X.K X.mg X.base CX k f fd ps sp) (hr:jeo (k + 1) X.A) (hg:Gl X x) (hm:X.mg x = some (.ref C)) (hb:Binds X.K fd ps ds) (hd:Vals dvs ds) (hx:Passes CX X E)
  (ha:PA X (e :: es) t) (hdb:autoParam ((x == ("__debug__" : Str)) = false) aP2) (he:autoParam (starEach (e :: es) X.env = (false,eval e X.env) :: starEach es X.env) aP1) (hpl:autoParam ((backTo pos (starEach es X.env)).any (·.1) = false) aP1) :
  PE X (.Call (.Name x p) (e :: es) [] pos) (j53 C sp dvs E t):=by
 intro pins s U H Q I h
 refine wpAny_Call_Name_kw (jg1 I hg hm ?_ hdb)
 refine PySem.W.callWith_K (h₀:=X.base) I.ok.mod.kin M.kp (thn (ha pos pins s U H _ I h) λus s1 ⟨vs,H1,I1,r,q⟩=>⟨I1.kIn,?_⟩) he hpl
 exact j0b M F hr hb hd hx I1 r q
end
def PK (X:Cx) (kws:List Keyword) (t:TA) : Prop:=
 ∀ (pos:Pos) (pins:List (Addr × Obj)) (s:Shared) (U : St) (H:Hp) (Q:List V -> Hp -> Prop),Inv X pins U H s -> t U H Q -> wpAny (model X.prog X.w) X.A (evalAll ((backToKw pos (keywordEach kws X.env)).map (·.2))) (AP X pins U Q) X.xe s
section
variable {X:Cx} {CX:CXT} {k:Nat} {f C:Addr} {fd:FuncData} {ps ks:List Str} {sp:Sp} {E:XK} {x m:Str} {p pos apos kpos:Pos} {e o:Expr} {es:List Expr} {kws:List Keyword} {te ta:TE} {t tk:TA} {nm:Option Str}
theorem jo5:PK X [] jys:=λ_ _ _ _ H Q I h=>wpAny_evalAll_nil ⟨[],H,I,.nil,h⟩
theorem jdu (ha:PE X e te) (hr:PK X kws t) : PK X (⟨nm,e,kpos⟩ :: kws) (vk te t):=by
 intro pos pins s U H Q I h
 show wpAny _ _ (evalAll ((do let v <- eval e X.env; standAt pos; pure v) :: (backToKw pos (keywordEach kws X.env)).map (·.2))) _ _ s
 refine wpAny_evalAll_cons (wpAny_bind (thn (ha pins s U H _ I h) λu s1 ⟨x,H1,I1,r1,q1⟩=>wpAny_bind (wpAny_standAt (wpAny_pure ?_))))
 exact thn (hr pos pins s1 U H1 _ I1 q1) λus s2 ⟨xs,H2,I2,r2,q2⟩=>⟨x :: xs,H2,I2,.cons r1 r2,q2⟩
structure jf3 (K:PySem.W.Frag) (fd:FuncData) (ps ks:List Str) (g:List Value -> List Value -> List Value) (gV:List V -> List V -> List V) : Prop where
 to : ∀ (s:Shared) (us ws:List Value),K.In s.heap -> (g us ws).length = ps.length -> BindsTo s fd ⟨us,ks.zip ws⟩ (ps.zip (g us ws))
 rel : ∀ {vs:List V} {us:List Value} {zs:List V} {ws:List Value},Vals vs us -> Vals zs ws -> Vals (gV vs zs) (g us ws)
def j3l (sp:Sp) (gV:List V -> List V -> List V) (E:XK) (t tk:TA) : TE:=λU H Q=>t U H λvs H1=>tk U H1 λzs H2=>sp (gV vs zs) H2 Q E
variable {g:List Value -> List Value -> List Value} {gV:List V -> List V -> List V}
theorem j2z {pins:List (Addr × Obj)} {U : St} {H:Hp} {s:Shared} {Q:VK} {us ws:List Value} {vs zs:List V} (F:xo X.prog X.w X.K X.mg X.base CX k f fd ps sp) (hr:jeo k X.A) (hb:jf3 X.K fd ps ks g gV) (hx:Passes CX X E)
  (I:Inv X pins U H s) (r:Vals vs us) (rz:Vals zs ws) (h:sp (gV vs zs) H Q E) : wpAny (model X.prog X.w) X.A (call (.ref f) us (ks.zip ws)) (EP X pins U Q) X.xe s:=by
 have r2:=hb.rel r rz
 have hl:(g us ws).length = ps.length:=by rw [<- r2.length]; exact F.len _ _ _ _ h
 refine wpAny_call (codeAny_mono (F.run X.A X.stack s H ⟨us,ks.zip ws⟩ (g us ws) (gV vs zs) Q E hr I.j3b (hb.to s us ws I.kIn hl) r2 h) λr s' hq=>?_)
 cases r with
 | error e=>exact hx pins U H s e s' I hq
 | ok fl=>
  cases fl with
  | ret u=>exact I.after hq
  | next=>exact False.elim hq
  | brk=>exact False.elim hq
  | cont=>exact False.elim hq
theorem jid (F:xo X.prog X.w X.K X.mg X.base CX k f fd ps sp) (hr:jeo k X.A) (hg:Gl X x) (hm:X.mg x = some (.ref f)) (hk:PySem.W.keepIn X.K (.ref f) = true) (hb:jf3 X.K fd ps ks g gV) (hx:Passes CX X E)
  (ha:PA X (e :: es) t) (hkw:PK X kws tk) (hall:autoParam ((backToKw pos (keywordEach kws X.env)).all (·.1.isSome) = true) aP1) (hks:autoParam ((backToKw pos (keywordEach kws X.env)).filterMap (·.1) = ks) aP1)
  (hdb:autoParam ((x == ("__debug__" : Str)) = false) aP2) (he:autoParam (starEach (e :: es) X.env = (false,eval e X.env) :: starEach es X.env) aP1)
  (hpl:autoParam (((backTo pos (starEach (e :: es) X.env)).any (·.1) || (backToKw pos (keywordEach kws X.env)).any (·.1.isNone)) = false) aP1) :
  PE X (.Call (.Name x p) (e :: es) kws pos) (j3l sp gV E t tk):=by
 intro pins s U H Q I h
 refine wpAny_Call_Name_kw (jg1 I hg hm ?_ hdb)
 refine PySem.W.callWith_KW (h₀:=X.base) I.ok.mod.kin hk hall (thn (ha pos pins s U H _ I h) λus s1 ⟨vs,H1,I1,r,q⟩=>?_) hpl he
 refine thn (hkw pos pins s1 U H1 _ I1 q) λws s2 ⟨zs,H2,I2,rz,q2⟩=>⟨I2.kIn,?_⟩
 rw [hks]
 exact j2z F hr hb hx I2 r rz q2
end
structure qj (N P:List Str) (sc:Scope) : Prop where
 kind:sc.kind = .function
 co:sc.isCoroutine = false
 gen:sc.isGenerator = false
 nd:N.Nodup
 pre:N.take P.length = P
 par : ∀ x ∈ P,sc.names.lookup x = some .local \/ sc.names.lookup x = some .cell
 j34 : ∀ y ∈ sc.names,y.2 ≠ .free
theorem fsc {N P:List Str} {sc:Scope} (a:autoParam (sc.kind = .function) aP1) (b:autoParam (sc.isCoroutine = false) aP1) (c:autoParam (sc.isGenerator = false) aP1) (d:autoParam (N.Nodup) aP4) (e:autoParam (N.take P.length = P) aP1) (f:autoParam (∀ x ∈ P,sc.names.lookup x = some .local \/ sc.names.lookup x = some .cell) aP4) (g:autoParam (∀ y ∈ sc.names,y.2 ≠ .free) aP4) : qj N P sc:=⟨a,b,c,d,e,f,g⟩
theorem jry {kindOf:Str -> Option NameKind} {x:Str} : ∀ {binds:List (Str × Value)} {m:Str -> Option Value},(∀ v,(x,v) ∉ binds) -> bindL kindOf binds m x = m x
 | [],_,_=>rfl
 | (n,v) :: r,m,h=>by
  unfold bindL
  rw [jry λw hw=>h w (mem_cons_of_mem _ hw)]
  split
  .have:x ≠ n:=by rintro rfl; exact h v mem_cons_self
   simp [this]
  .rfl
theorem js7 {kindOf:Str -> Option NameKind} {x:Str} : ∀ {binds:List (Str × Value)} {m:Str -> Option Value},(∀ v,(x,v) ∉ binds) -> bindC kindOf binds m x = m x
 | [],_,_=>rfl
 | (n,v) :: r,m,h=>by
  unfold bindC
  rw [js7 λw hw=>h w (mem_cons_of_mem _ hw)]
  split
  .rfl
  .have:x ≠ n:=by rintro rfl; exact h v mem_cons_self
   simp [this]
theorem jsl {kindOf:Str -> Option NameKind} {x:Str} {v:Value} : ∀ {P:List Str} {vs:List Value} {i:Nat} {m:Str -> Option Value},P.Nodup -> P[i]? = some x -> vs[i]? = some v -> kindOf x = some .local ->
  bindL kindOf (P.zip vs) m x = some v
 | [],_,_,_,_,h,_,_=>by simp at h
 | _ :: _,[],_,_,_,_,h,_=>by simp at h
 | p :: P,w :: vs,0,m,nd,h1,h2,hk=>by
  simp at h1 h2; subst h1; subst h2
  show bindL kindOf ((p,w) :: P.zip vs) m p = _
  unfold bindL
  rw [jry λv hv=>(nodup_cons.mp nd).1 (List.of_mem_zip hv).1,if_pos hk]
  simp
 | p :: P,w :: vs,i + 1,m,nd,h1,h2,hk=>by
  show bindL kindOf ((p,w) :: P.zip vs) m x = _
  unfold bindL
  exact jsl (i:=i) (nodup_cons.mp nd).2 (by simpa using h1) (by simpa using h2) hk
theorem jsv {kindOf:Str -> Option NameKind} {x:Str} {v:Value} : ∀ {P:List Str} {vs:List Value} {i:Nat} {m:Str -> Option Value},P.Nodup -> P[i]? = some x -> vs[i]? = some v -> kindOf x ≠ some .local ->
  bindC kindOf (P.zip vs) m x = some v
 | [],_,_,_,_,h,_,_=>by simp at h
 | _ :: _,[],_,_,_,_,h,_=>by simp at h
 | p :: P,w :: vs,0,m,nd,h1,h2,hk=>by
  simp at h1 h2; subst h1; subst h2
  show bindC kindOf ((p,w) :: P.zip vs) m p = _
  unfold bindC
  rw [js7 λv hv=>(nodup_cons.mp nd).1 (List.of_mem_zip hv).1,if_neg hk]
  simp
 | p :: P,w :: vs,i + 1,m,nd,h1,h2,hk=>by
  show bindC kindOf ((p,w) :: P.zip vs) m x = _
  unfold bindC
  exact jsv (i:=i) (nodup_cons.mp nd).2 (by simpa using h1) (by simpa using h2) hk
def start (N:List Str) (vs:List V) : St:=vs.map some ++ List.replicate (N.length - vs.length) none
def jpv (CX:CXT) (P:Program) (w:World) (K:PySem.W.Frag) (mg:Str -> Option Value) (base:Heap) (N:List Str) (qual:Str) (scope:Scope) (f:Addr) (cd:Value) (A:Around) (outer:List Env) (s:Shared) (H:Hp) (E:XK) : Cx where
 prog:=P
 w:=w
 K:=K
 mg:=mg
 base:=base
 A:=A.deeper (envOfC qual scope s.heap.objs.size f cd)
 N:=N
 s₀:=s
 H₀:=H
 env:=envOfC qual scope s.heap.objs.size f cd
 outer:=outer
 stack:=envOfC qual scope s.heap.objs.size f cd :: outer
 ex:=[]
 calm:=true
 fn:=λ_=>true
 pn:=[]
 xe:=λe s'=>wpAny (model P w) (A.deeper (envOfC qual scope s.heap.objs.size f cd)) (leaving (envOfC qual scope s.heap.objs.size f cd) e) (λ_ s''=>CX outer H s E e s'') (λe' s''=>CX outer H s E e' s'') s'
theorem ju6 {sc:Scope} {n:Nat} {x:Str} (h:sc.names.lookup x = some .cell) : ∃ c,(cellsFrom n sc.names []).lookup x = some c:=by
 have q:=PySem.W.cellsFrom_some sc.names n [] (.inl h)
 exact Option.isSome_iff_exists.mp q
theorem jxc {CX:CXT} {P:Program} {w:World} {K:PySem.W.Frag} {mg:Str -> Option Value} {base:Heap} {N ps:List Str} {qual:Str} {scope:Scope} {f:Addr} {cd:Value} {A:Around} {outer:List Env} {s s1:Shared} {H:Hp} {E:XK} {us:List Value} {vs:List V}
  (S:qj N ps scope) (hd:A.handled = none) (e0:j2w P w K mg base A outer s H) (hl:vs.length = ps.length) (r:Vals vs us)
  (x:InCallC s s.heap.objs.size (bindL (envOfC qual scope s.heap.objs.size f cd).kindOf (ps.zip us) λ_=>none) (cellsFrom (s.heap.objs.size + 1) scope.names []) (bindC (envOfC qual scope s.heap.objs.size f cd).kindOf (ps.zip us) λ_=>none) s1) :
  Inv (jpv CX P w K mg base N qual scope f cd A outer s H E) [] (start N vs) H s1:=by
 have hpl:ps.length <= N.length:=by have:=congrArg List.length S.pre; rw [length_take] at this; omega
 obtain ⟨h1,tk,rfl,hk⟩:=x.done
 have noA : ∀ b:Addr,b ∉ (jpv CX P w K mg base N qual scope f cd A outer s H E).ex:=λb z=>absurd (show b ∈ ([] : List Addr) from z) (by simp)
 refine ⟨⟨e0.mod,S.kind,rfl,rfl,le_refl _,λy z c h1 h2=>?_,λy hy=>?_,λy c _ h=>?_,λ_=>hd,Around.frames_deeper e0.frames,.inr ⟨rfl,rfl⟩,λb z=>absurd z (noA b),e0.bs,e0.bsz,λb _ _=>noA b,λb z=>absurd z (noA b),e0.jte,e0.frf⟩,
  rfl,e0.bare,Un.kept hk,⟨_,x.toInCall.ns,λi y v h1 h2 h3=>?_⟩,λy c h=>⟨_,x.cell y c h⟩,e0.hok.fresh (le_refl _),λy c h=>?_,λp hp=>absurd (show p ∈ ([] : List (Addr × Obj)) from hp) (by simp),e0.hok.kept hk,?_⟩
 .exact name_of_addr x.apart (PySem.mem_of_lookup h1) (PySem.mem_of_lookup h2)
 .have hy:scope.names.lookup y = some .cell \/ scope.names.lookup y = some .free:=hy
  rcases hy with hy | hy
  .exact ju6 hy
  .exact absurd rfl (S.j34 _ (PySem.mem_of_lookup hy))
 .exact le_of_lt (x.above y c (PySem.mem_of_lookup h))
 .have hi:i < vs.length:=by
   unfold start at h2
   by_cases hi:i < vs.length
   .exact hi
   .rw [List.getElem?_append_right (by simpa using hi)] at h2
    rw [List.getElem?_replicate] at h2
    split at h2 <;> cases h2
  have ha:vs[i]? = some v:=by
   unfold start at h2
   rw [List.getElem?_append_left (by simpa using hi),getElem?_map] at h2
   cases e:vs[i]? with
   | none=>rw [e] at h2; cases h2
   | some a=>rw [e] at h2; cases h2; rfl
  obtain ⟨u,hu,rv⟩:=r.get ha
  have hp:ps[i]? = some y:=by
   rw [<- S.pre,List.getElem?_take_of_lt (by omega)]; exact h1
  have ndP:ps.Nodup:=by rw [<- S.pre]; exact S.nd.sublist (List.take_sublist _ _)
  refine ⟨u,rv,?_⟩
  rcases S.par y (mem_of_getElem? hp) with k | k
  .exact .inl ⟨k,jsl ndP hp hu k⟩
  .obtain ⟨c,e⟩:=ju6 (n:=s.heap.objs.size + 1) k
   refine .inr ⟨.inl k,c,e,?_⟩
   have q:=x.cell y c e
   rw [jsv ndP hp hu (by show scope.names.lookup y ≠ _; rw [k]; decide)] at q
   exact q
 .exact e0.hok.fresh (le_of_lt (x.above y c (PySem.mem_of_lookup h)))
 .unfold start
  show _ = N.length
  rw [length_append,length_map,length_replicate]
  omega
theorem j47 {CX:CXT} {P:Program} {w:World} {K:PySem.W.Frag} {mg:Str -> Option Value} {base:Heap} {k:Nat} {f:Addr} {name qual:Str} {params:Arguments} {body:List Stmt} {scope:Scope} {dV kV doc pm cdv ct oc:Value} {an od:Option Addr}
  {osl:Array (Option Value)} {N ps:List Str} {sp:Sp} (lk:K.lookup f = some ⟨oc,od,.func (PySem.W.fnOf name qual params body scope dV kV doc pm an cdv ct),osl⟩) (hcd:PySem.W.codeIn K cdv qual = true) (S:qj N ps scope)
  (len : ∀ vs H Q E,sp vs H Q E -> vs.length = ps.length)
  (hbody : ∀ (A:Around) (outer:List Env) (s:Shared) (H:Hp) (vs:List V) (Q:VK) (E:XK),jeo k (A.deeper (envOfC qual scope s.heap.objs.size f cdv)) -> sp vs H Q E ->
   ∃ t,PSs (jpv CX P w K mg base N qual scope f cdv A outer s H E) body t /\ t { nx:=λ_ H'=>Q .non H',rt:=Q } (start N vs) H) :
  xo P w K mg base CX (k + 1) f (PySem.W.fnOf name qual params body scope dV kV doc pm an cdv ct) ps sp:=by
 refine ⟨len,λA outer s H args us vs Q E hr e0 hb r hsp=>?_⟩
 have hl:=len _ _ _ _ hsp
 have KX:K.In s.heap:=e0.mod.kin.keeps λb o e=>(e0.bs b o e).1
 have lim:s.heap.NoLimit:=e0.mod.nolimit.keeps λb o e=>(e0.bs b o e).1
 have hkind : ∀ y ∈ ps.zip us,scope.names.lookup y.1 = some .local \/ (scope.names.lookup y.1 = some .cell /\ ((cellsFrom (s.heap.objs.size + 1) scope.names []).lookup y.1).isSome = true):=λ⟨n,v⟩ hy=>by
  rcases S.par n (List.of_mem_zip hy).1 with q | q
  .exact .inl q
  .exact .inr ⟨q,PySem.W.cellsFrom_some _ _ _ (.inl q)⟩
 refine codeAny_call_function hr.depth (KX _ _ lk) rfl S.co S.gen rfl (PySem.W.codeRec_of KX hcd) (hb _ _ _ _ ?_)
 refine wpAny_newFunctionEnv_cells S.kind hkind λenv he s1 x=>?_
 subst he
 refine ⟨lim.keeps x.toInCall.keep,codeAny_func ?_⟩
 obtain ⟨t,ht,hq⟩:=hbody A outer s H vs Q E (hr.deeper _) hsp
 have I:Inv (jpv CX P w K mg base N qual scope f cdv A outer s H E) [] (start N vs) H s1:=jxc S hr.hd e0 hl r x
 refine wpAny_mono (ht [] s1 (start N vs) H _ I hq) (λfl s' hs=>?_) λe s' hs=>hs
 have fin : ∀ {U':St} {H':Hp} {v:V} {u:Value},Inv (jpv CX P w K mg base N qual scope f cdv A outer s H E) [] U' H' s' -> RelV v u -> Q v H' -> CE outer P w H s Q u s':=
  λ{U' H' v u} J rv q=>⟨v,H',J.os,J.bare,J.base,J.hok,rv,q⟩
 cases fl with
 | ret u=>
  obtain ⟨v,U',H',J,rv,q⟩:=hs
  exact fin J rv q
 | next=>
  obtain ⟨U',H',J,q⟩:=hs
  exact fin (v:=V.non) (u:=Value.none) J rfl q
 | brk=>
  obtain ⟨_,_,_,q⟩:=hs
  exact False.elim q
 | cont=>
  obtain ⟨_,_,_,q⟩:=hs
  exact False.elim q
end L2
namespace L2
open PySem PySem.Spec PyProof.Rows
section
variable {X:Cx} {x:Str} {p pos:Pos} {e:Expr} {es:List Expr} {t:TA} {id T:String} {r:List V -> Hp -> VK -> Prop}
def tCB (r:List V -> Hp -> VK -> Prop) (t:TA) : TE:=λU H Q=>t U H λvs H1=>r vs H1 Q
theorem jq (hc:jow X (.builtin id) r) (hg:Gl X x) (hm:X.mg x = none) (hv:bootBuiltins x = some (.builtin id)) (ha:PA X (e :: es) t) (hn:autoParam (x ≠ "__name__") aP2) (hdb:autoParam ((x == ("__debug__" : Str)) = false) aP2)
  (he:autoParam (starEach (e :: es) X.env = (false,eval e X.env) :: starEach es X.env) aP1) (hpl:autoParam ((backTo pos (starEach es X.env)).any (·.1) = false) aP1) : PE X (.Call (.Name x p) (e :: es) [] pos) (tCB r t):=by
 intro pins s U H Q I h
 refine wpAny_Call_Name_kw (juy I hg hm hv ?_ hn hdb)
 exact PyProof.Rows.callWith_builtin1 (thn (ha pos pins s U H _ I h) λus s1 ⟨vs,H1,I1,r1,q1⟩=>hc pins s1 U H1 vs us Q I1 r1 q1) he hpl
theorem je2 (hc:jow X (.type T) r) (hg:Gl X x) (hm:X.mg x = none) (hv:bootBuiltins x = some (.type T)) (ha:PA X (e :: es) t) (hn:autoParam (x ≠ "__name__") aP2) (hdb:autoParam ((x == ("__debug__" : Str)) = false) aP2)
  (he:autoParam (starEach (e :: es) X.env = (false,eval e X.env) :: starEach es X.env) aP1) (hpl:autoParam ((backTo pos (starEach es X.env)).any (·.1) = false) aP1) : PE X (.Call (.Name x p) (e :: es) [] pos) (tCB r t):=by
 intro pins s U H Q I h
 refine wpAny_Call_Name_kw (juy I hg hm hv ?_ hn hdb)
 exact PyProof.Rows.callWith_type1 (thn (ha pos pins s U H _ I h) λus s1 ⟨vs,H1,I1,r1,q1⟩=>hc pins s1 U H1 vs us Q I1 r1 q1) he hpl
end
end L2
namespace HT
open PySem PyProof.Rows
def lexLt:List Int -> List Int -> Bool
 | [],[]=>false
 | [],_ :: _=>true
 | _ :: _,[]=>false
 | x :: xs,y :: ys=>if x = y then lexLt xs ys else decide (x < y)
theorem jl3 (x y:Int) (xs ys:List Int) : lexLt (x :: xs) (y :: ys) = if x = y then lexLt xs ys else decide (x < y):=rfl
section
open PySem.SeqAt
open PySem.AutoSeq1 (wpAny_loadPart')
open PySem.MeetsSeq PySem.MeetsSeq2 PySem.MeetsSeq3
end
section
variable {prog:Program} {w:World} {A:Around} {E:Value -> Shared -> Prop} {s:Shared}
def sIx (n d:Nat) : Option Int -> Nat
 | none=>d
 | some v=>if v < 0 then (v + (n:Int)).toNat else min v.toNat n
theorem jzt (n d:Nat) : sIx n d none = d:=rfl
theorem j1o (n d k:Nat) : sIx n d (some (k:Int)) = min k n:=by
 show (if (k:Int) < 0 then ((k:Int) + (n:Int)).toNat else min (k:Int).toNat n) = min k n
 rw [if_neg (by omega),Int.toNat_natCast]
end
end HT
namespace L2
open PySem PySem.Spec PyProof.Rows
abbrev TO:=St -> Hp -> (Option Int -> Hp -> Prop) -> Prop
def PO (X:Cx) (e:Option Expr) (t:TO) : Prop:=
 ∀ (pins:List (Addr × Obj)) (s:Shared) (U : St) (H:Hp) (Q:Option Int -> Hp -> Prop),Inv X pins U H s -> t U H Q ->
  wpAny (model X.prog X.w) X.A (evalPart e X.env) (λu s'=>∃ o H',Inv X pins U H' s' /\ IsPart u o /\ Q o H') X.xe s
def j11:TO:=λ_ H Q=>Q none H
def j6o (t:TE) : TO:=λU H Q=>t U H λx H1=>∃ i,x = .int i /\ Q (some i) H1
theorem intsAre_of {ns:List Int} : ∀ {us:List Value},Vals (ns.map V.int) us -> IntsAre us ns:=by
 induction ns with
 | nil=>intro us r; rw [map_nil] at r; cases r; exact .nil
 | cons n ns ih=>
  intro us r
  rw [map_cons] at r
  cases r with
  | cons r1 r2=>
   obtain ⟨t,e⟩:=r1
   subst e
   exact .cons n t (ih r2)
section
variable {X:Cx} {e:Expr} {te:TE} {lo hi:Option Expr} {tl th:TO} {pos p2:Pos}
theorem j1x:PO X none j11:=by
 intro pins s U H Q I h
 rw [evalPart_none]
 exact wpAny_pure ⟨none,H,I,.none,h⟩
theorem j2f (h:PE X e te) : PO X (some e) (j6o te):=by
 intro pins s U H Q I hw
 rw [evalPart_some]
 refine thn (h pins s U H _ I hw) λu s1 ⟨x,H1,I1,r1,q1⟩=>?_
 obtain ⟨i,rfl,q⟩:=q1
 obtain ⟨t,rfl⟩:=r1
 exact ⟨some i,H1,I1,.int i t,q⟩
def SlR (X:Cx) (r:V -> Option Int -> Option Int -> Hp -> VK -> Prop) : Prop:=
 ∀ (pins:List (Addr × Obj)) (s:Shared) (U : St) (H:Hp) (x:V) (v vl vu:Value) (lo hi:Option Int) (sl:Addr) (Q:VK),Inv X pins U H s -> RelV x v -> s.heap.IsSliceOf sl vl vu .none -> IsPart vl lo -> IsPart vu hi -> r x lo hi H Q ->
  ∃ T id,typeLookup (.type T) "__getitem__" = pure (some (.builtin id)) /\ s.TypeIs v T /\ wpAny (model X.prog X.w) X.A (getItem v (.ref sl)) (EP X pins U Q) X.xe s
def tSl (r:V -> Option Int -> Option Int -> Hp -> VK -> Prop) (te:TE) (tl th:TO) : TE:=λU H Q=>te U H λx H1=>tl U H1 λl H2=>th U H2 λu H3=>r x l u H3 Q
theorem jy4 {r:V -> Option Int -> Option Int -> Hp -> VK -> Prop} (hr:SlR X r) (he:PE X e te) (hl:PO X lo tl) (hu:PO X hi th) : PE X (.Subscript e (.Slice lo hi none p2) pos) (tSl r te tl th):=by
 intro pins s U H Q I h
 refine Subscript_ (thn (he pins s U H _ I h) λv s1 ⟨x,H1,I1,r1,q1⟩=>?_)
 refine wpAny_Slice (thn (hl pins s1 U H1 _ I1 q1) λvl s2 ⟨l,H2,I2,pl,q2⟩=>thn (hu pins s2 U H2 _ I2 q2) λvu s3 ⟨u,H3,I3,pu,q3⟩=>?_)
 rw [evalPart_none]
 refine wpAny_pure ?_
 have I4:Inv X pins U H3 { s3 with heap:=s3.heap.push { cls:=.type "slice",data:=.fields #[vl,vu,.none] } }:=I3.kept (t':=s3.toks) λb ob q=>Heap.get?_push_of_some _ q
 obtain ⟨T,id,hT,ht,hg⟩:=hr pins { s3 with heap:=s3.heap.push { cls:=.type "slice",data:=.fields #[vl,vu,.none] } } U H3 x v vl vu l u s3.heap.objs.size Q I4 r1 (Heap.IsSliceOf.new ..) pl pu q3
 show wpAny (model X.prog X.w) X.A (subscriptTail e (.Slice lo hi none p2) v (.ref s3.heap.objs.size)) (EP X pins U Q) X.xe { s3 with heap:=s3.heap.push { cls:=.type "slice",data:=.fields #[vl,vu,.none] } }
 exact tail_any (ops:=[.ref s3.heap.objs.size,v]) ht hT hg (by with_unfolding_all rfl)
def j3d (xs:List V) (lo hi:Option Int) : List V:=(xs.drop (HT.sIx xs.length 0 lo)).take (HT.sIx xs.length xs.length hi - HT.sIx xs.length 0 lo)
theorem jt9 (xs:List V) (lo hi:Option Int) : (j3d xs lo hi).length <= xs.length:=by
 unfold j3d
 rw [length_take,List.length_drop]
 omega
end
end L2
namespace L2
open PySem PySem.Spec PyProof.Rows
def ixN (n:Nat) (i:Int) : Option Nat:=if 0 <= i then (if i < n then some i.toNat else none) else if -(n:Int) <= i then some (i + n).toNat else none
def atI {α : Type} (xs:List α) (i:Int) : Option α:=(ixN xs.length i).bind λj=>xs[j]?
theorem jxa {n:Nat} {i:Int} {j:Nat} (h:ixN n i = some j) : seqIndex? i n = some j /\ j < n /\ -(n:Int) <= i /\ i < n:=by
 unfold ixN at h
 by_cases h0 : 0 <= i
 .rw [if_pos h0] at h
  by_cases h1:i < n
  .rw [if_pos h1] at h
   have e:i.toNat = j:=Option.some.inj h
   exact ⟨by rw [seqIndex_of h0 h1,e],by omega,by omega,h1⟩
  .rw [if_neg h1] at h; cases h
 .rw [if_neg h0] at h
  by_cases h1 : -(n:Int) <= i
  .rw [if_pos h1] at h
   have e:(i + n).toNat = j:=Option.some.inj h
   exact ⟨by rw [seqIndex_neg (by omega) h1,e],by omega,h1,by omega⟩
  .rw [if_neg h1] at h; cases h
theorem jwp {α : Type} {xs:List α} {i:Int} {v : α} (h:atI xs i = some v) : ∃ j,seqIndex? i xs.length = some j /\ xs[j]? = some v /\ j < xs.length /\ -(xs.length:Int) <= i /\ i < xs.length:=by
 unfold atI at h
 cases e:ixN xs.length i with
 | none=>rw [e] at h; cases h
 | some j=>
  rw [e] at h
  obtain ⟨h1,h2,h3,h4⟩:=jxa e
  exact ⟨j,h1,h,h2,h3,h4⟩
def j1e (b:Expr) : Prop:=∀ o i,subscripted b false o i = operate [o,i] (getItem o i)
def IxR (X:Cx) (r:R2) : Prop:=
 ∀ (value slice:Expr) (pins:List (Addr × Obj)) (s:Shared) (U : St) (H:Hp) (x y:V) (v u:Value) (Q:VK),Inv X pins U H s -> RelV x v -> RelV y u -> r x y H Q ->
  subscripted slice false v u = operate [v,u] (getItem v u) -> wpAny (model X.prog X.w) X.A (subscriptTail value slice v u) (EP X pins U Q) X.xe s
def MtR (X:Cx) (id:String) (r:V -> List V -> Hp -> VK -> Prop) : Prop:=
 ∀ (pins:List (Addr × Obj)) (s:Shared) (U : St) (H:Hp) (x:V) (xs:List V) (v:Value) (us:List Value) (Q:VK),Inv X pins U H s -> RelV x v -> Vals xs us -> r x xs H Q ->
  wpAny (model X.prog X.w) X.A (call (.builtin id) (v :: us)) (EP X pins U Q) X.xe s
section
variable {X:Cx} {a b:Expr} {ta tb:TE} {pos:Pos}
theorem jbn {r:R2} (hr:IxR X r) (ha:PE X a ta) (hb:PE X b tb) (hs:j1e b) : PE X (.Subscript a b pos) (tOp r ta tb):=by
 intro pins s U H Q I h
 exact Subscript_ (j63 ha hb I h λv u s2 x y H2 I2 rx ry q=>hr a b pins s2 U H2 x y v u Q I2 rx ry q (hs _ _))
def j81 (K:PySem.W.Frag) : R2:=λx y H Q=>∃ p xs i v,x = .ref p /\ y = .int i /\ SqL K H p xs /\ atI xs i = some v /\ Q v H
def j7s (K:PySem.W.Frag) : R2:=λx y H Q=>∃ p xs i v,x = .ref p /\ y = .int i /\ SqT K H p xs /\ atI xs i = some v /\ Q v H
theorem pf:IxR X (j81 X.K):=by
 intro value slice pins s U H x y v u Q I rx ry h hs
 obtain ⟨p,xs,i,z,rfl,rfl,hq,he,q⟩:=h
 cases rx
 obtain ⟨t,rfl⟩:=ry
 obtain ⟨its,r,pl,hz⟩:=I.list hq
 obtain ⟨j,h1,h2,h3,h4,h5⟩:=jwp he
 obtain ⟨w,ew,rw'⟩:=r.get h2
 have hl:=r.length
 have hn:=jnu
 have fin:EP X pins U Q w s:=⟨z,H,I,rw',q⟩
 by_cases h0 : 0 <= i
 .have hj:i.toNat = j:=by
   rw [seqIndex_of h0 h5] at h1
   exact Option.some.inj h1
  exact item_listR pl.isList h0 (by omega) (by rw [hj]; simpa using ew) fin hs
 .have hj:(i + (its.toArray.size:Int)).toNat = j:=by
   rw [seqIndex_neg (by omega) h4] at h1
   rw [size_toArray,<- hl]
   exact Option.some.inj h1
  exact subscriptTail_builtinR (x:=w) pl.isList.typeIs slot_list_getitem.lookup
   (wpAny_getItem_list_neg (Q:=λr s'=>r = w /\ EP X pins U Q r s') pl.isList (by omega) (by rw [size_toArray] <;> omega) (by omega) (by rw [hj]; simpa using ew) ⟨rfl,fin⟩) hs
theorem jip:IxR X (j7s X.K):=by
 intro value slice pins s U H x y v u Q I rx ry h hs
 obtain ⟨p,xs,i,z,rfl,rfl,hq,he,q⟩:=h
 cases rx
 obtain ⟨t,rfl⟩:=ry
 obtain ⟨its,r,pl,hz⟩:=I.tuple hq
 obtain ⟨j,h1,h2,h3,h4,h5⟩:=jwp he
 obtain ⟨w,ew,rw'⟩:=r.get h2
 have hl:=r.length
 have hn:=jnu
 have fin:EP X pins U Q w s:=⟨z,H,I,rw',q⟩
 exact subscriptTail_builtinR (x:=w) pl.typeIs slot_tuple_getitem.lookup
  (getItem_tuple (j:=j) (Q:=λr s'=>r = w /\ EP X pins U Q r s') pl (by omega) (by omega) (by rw [size_toArray,<- hl]; exact h1) (by simpa using ew) ⟨rfl,fin⟩) hs
theorem jvz (its:List Value) (n j:Nat) (u:Value) : Obj.mapSeq (·.setIfInBounds j u) { cls:=.type "list",data:=.seq its.toArray n } = { cls:=.type "list",data:=.seq (its.set j u).toArray n }:=by
 simp [Obj.mapSeq]
theorem Inv.lst {pins:List (Addr × Obj)} {U : St} {H:Hp} {s:Shared} {p:Addr} {xs:List V} (I:Inv X pins U H s) (h:H p = some (.lst xs)) :
  ∃ (its:List Value) (n:Nat),Vals xs its /\ s.heap.get? p = some { cls:=.type "list",data:=.seq its.toArray n } /\ xs.length <= sizeLine:=by
 obtain ⟨z,its,n,r,e⟩:=I.hok p _ h
 exact ⟨its,n,r,e,z⟩
theorem Inv.j4t {pins:List (Addr × Obj)} {U : St} {H:Hp} {s:Shared} {p:Addr} {xs ys:List V} {its its':List Value} {n n':Nat} {f:Obj -> Obj} (I:Inv X pins U H s) (h:H p = some (.lst xs))
  (ho:s.heap.get? p = some { cls:=.type "list",data:=.seq its.toArray n }) (hf:f { cls:=.type "list",data:=.seq its.toArray n } = { cls:=.type "list",data:=.seq its'.toArray n' }) (r:Vals ys its') (hz:ys.length <= sizeLine) (t:Nat) :
  Inv X pins U (upd H p (.lst ys)) { s with heap:=s.heap.update p f,toks:=t }:=by
 have e:(s.heap.update p f).get? p = some { cls:=.type "list",data:=.seq its'.toArray n' }:=by
  rw [Heap.get?_update_self f ho (by rw [hf] <;> rfl),hf]
 refine I.write (x:=p) (e:=p) (by rw [h]; trivial) (.inl rfl) (λb u hb q=>(Heap.get?_update_other _ _ (Ne.symm hb)).trans q) ⟨_,e⟩ ?_
 exact ⟨hz,its',n',r,e⟩
def j59:V -> V -> V -> Hp -> (Hp -> Prop) -> Prop:=λo i v H Q=>∃ p xs k j,o = .ref p /\ i = .int k /\ H p = some (.lst xs) /\ ixN xs.length k = some j /\ Q (upd H p (.lst (xs.set j v)))
theorem set_list:j5k X j59:=by
 intro pins s U H o i v ov iv u Q I ro ri rv h
 obtain ⟨p,xs,k,j,rfl,rfl,hp,hj,q⟩:=h
 cases ro
 obtain ⟨t,rfl⟩:=ri
 obtain ⟨its,n,r,ho,hz⟩:=I.lst hp
 obtain ⟨h1,h2,h3,h4⟩:=jxa hj
 have hl:=r.length
 have hn:=jnu
 have I':Inv X pins U (upd H p (.lst (xs.set j v))) { s with heap:=s.heap.update p (Obj.mapSeq (·.setIfInBounds j u)) }:=
  I.j4t hp ho (jvz its n j u) (r.set rv j) (by rw [length_set]; exact hz) s.toks
 by_cases h0 : 0 <= k
 .have hk:k.toNat = j:=by
   rw [seqIndex_of h0 h4] at h1
   exact Option.some.inj h1
  exact PySem.W.ki_setAt ho h0 (by omega) (by rw [size_toArray,<- hl]; exact h4) (by rw [hk]; exact ⟨_,I',q⟩)
 .have hk:(k + (its.toArray.size:Int)).toNat = j:=by
   rw [seqIndex_neg (by omega) h3] at h1
   rw [size_toArray,<- hl]
   exact Option.some.inj h1
  exact PySem.W.ki_setBack ho (by omega) (by rw [size_toArray,<- hl]; exact h3) (by omega) (by rw [hk]; exact ⟨_,I',q⟩)
theorem jse (lo hi:Option Int) (n:Nat) : (sliceBounds lo hi none n).1 = ((HT.sIx n 0 lo:Nat) : Int) /\ (sliceBounds lo hi none n).2.1 = ((HT.sIx n n hi:Nat) : Int) /\ (sliceBounds lo hi none n).2.2 = 1:=by
 refine ⟨?_,?_,rfl⟩
 .cases lo with
  | none=>simp [sliceBounds,HT.sIx]
  | some i=>
   simp only [sliceBounds,HT.sIx,Option.getD_none,show (1:Int) > 0 by decide,if_true]
   by_cases h:i < 0
   .simp only [h,if_true] <;> omega
   .simp only [h,if_false] <;> omega
 .cases hi with
  | none=>simp [sliceBounds,HT.sIx]
  | some i=>
   simp only [sliceBounds,HT.sIx,Option.getD_none,show (1:Int) > 0 by decide,if_true]
   by_cases h:i < 0
   .simp only [h,if_true] <;> omega
   .simp only [h,if_false] <;> omega
theorem jrd (its:List Value) (lo hi:Option Int) : slicePick its.toArray lo hi none = ((its.drop (HT.sIx its.length 0 lo)).take (HT.sIx its.length its.length hi - HT.sIx its.length 0 lo)).toArray:=by
 obtain ⟨h1,h2,h3⟩:=jse lo hi its.toArray.size
 unfold slicePick
 rw [h1,h2,h3]
 simp only [sliceRange_one,pick_run,size_toArray] <;> rfl
def j7y (K:PySem.W.Frag) : V -> Option Int -> Option Int -> Hp -> VK -> Prop:=λx lo hi H Q=>∃ a xs,x = .ref a /\ SqL K H a xs /\ ∀ p,H p = none -> Q (.ref p) (upd H p (.lst (j3d xs lo hi)))
theorem j19:SlR X (j7y X.K):=by
 intro pins s U H x v vl vu lo hi sl Q I rx hs pl pu h
 obtain ⟨a,xs,rfl,hx,q⟩:=h
 cases rx
 obtain ⟨its,r,ht,hz⟩:=I.list hx
 have hlen:=r.length
 refine ⟨"list",_,slot_list_getitem.lookup,ht.isList.typeIs,?_⟩
 refine wpAny_getItem_list_slice ht.isList hs pl pu .none (by simp) ?_ (by rw [size_toArray] <;> omega)
 rw [jrd,<- hlen]
 refine ⟨.ref s.heap.objs.size,_,I.laid (t':=s.toks) (o:=.lst (j3d xs lo hi)) (λb ob q=>Heap.get?_push_of_some _ q) (le_refl _) ?_,rfl,q _ (I.hok.fresh (le_refl _))⟩
 exact ⟨le_trans (jt9 xs lo hi) hz,_,0,(r.drop (HT.sIx xs.length 0 lo)).take (HT.sIx xs.length xs.length hi - HT.sIx xs.length 0 lo),Heap.get?_push_size _ rfl⟩
def jp2:V -> Bool
 | .non=>true
 | .bl _=>true
 | .int _=>true
 | .str _=>true
 | _=>false
def eqV:V -> V -> Bool
 | .non,.non=>true
 | .bl a,.bl b=>a == b
 | .bl a,.int b=>(if a then 1 else 0) == b
 | .int a,.bl b=>a == (if b then 1 else 0)
 | .int a,.int b=>a == b
 | .str a,.str b=>a == b
 | _,_=>false
theorem j3z {A:Around} {s:Shared} {y x:V} {u v:Value} (ry:RelV y u) (rx:RelV x v) (fy:jp2 y = true) (fx:jp2 x = true) : SeqAt.EqAt A s u v (eqV y x):=by
 cases y with
 | non=>
  cases ry
  cases x with
  | non=>cases rx; exact SeqAt.EqAt.same _
  | bl b=>cases rx; exact SeqAt.EqAt.none_bool b
  | int b=>obtain ⟨t,rfl⟩:=rx; exact SeqAt.EqAt.none_int b t
  | str b=>obtain ⟨t,rfl⟩:=rx; exact SeqAt.EqAt.none_str b t
  | _=>exact absurd (show false = true from fx) Bool.false_ne_true
 | bl a=>
  cases ry
  cases x with
  | non=>cases rx; exact SeqAt.EqAt.bool_none a
  | bl b=>cases rx; exact SeqAt.EqAt.bool_bool a b
  | int b=>obtain ⟨t,rfl⟩:=rx; exact SeqAt.EqAt.bool_int a b t
  | str b=>obtain ⟨t,rfl⟩:=rx; exact SeqAt.EqAt.bool_str a b t
  | _=>exact absurd (show false = true from fx) Bool.false_ne_true
 | int a=>
  obtain ⟨t',rfl⟩:=ry
  cases x with
  | non=>cases rx; exact SeqAt.EqAt.int_none a t'
  | bl b=>cases rx; exact SeqAt.EqAt.int_bool a t' b
  | int b=>obtain ⟨t,rfl⟩:=rx; exact SeqAt.EqAt.int_int a t' b t
  | str b=>obtain ⟨t,rfl⟩:=rx; exact SeqAt.EqAt.int_str a t' b t
  | _=>exact absurd (show false = true from fx) Bool.false_ne_true
 | str a=>
  obtain ⟨t',rfl⟩:=ry
  cases x with
  | non=>cases rx; exact SeqAt.EqAt.str_none a t'
  | bl b=>cases rx; exact SeqAt.EqAt.str_bool a t' b
  | int b=>obtain ⟨t,rfl⟩:=rx; exact SeqAt.EqAt.str_int a t' b t
  | str b=>obtain ⟨t,rfl⟩:=rx; exact SeqAt.EqAt.str_str a t' b t
  | _=>exact absurd (show false = true from fx) Bool.false_ne_true
 | _=>exact absurd (show false = true from fy) Bool.false_ne_true
def eqU (x:V) (u:Value) : Bool:=match u with
 | .none=>eqV .non x
 | .bool b=>eqV (.bl b) x
 | .int i _=>eqV (.int i) x
 | .str z _=>eqV (.str z) x
 | _=>false
theorem j07 {x y:V} {u:Value} (r:RelV y u) (f:jp2 y = true) : eqU x u = eqV y x:=by
 cases y with
 | non=>cases r; rfl
 | bl b=>cases r; rfl
 | int i=>obtain ⟨t,rfl⟩:=r; rfl
 | str z=>obtain ⟨t,rfl⟩:=r; rfl
 | _=>exact absurd (show false = true from f) Bool.false_ne_true
theorem jo8 {x:V} : ∀ {xs:List V} {us:List Value},Vals xs us -> xs.all jp2 = true -> us.any (eqU x) = xs.any λy=>eqV y x
 | _,_,.nil,_=>rfl
 | y :: xs,u :: us,.cons r t,f=>by
  rw [List.all_cons,Bool.and_eq_true] at f
  rw [any_cons,any_cons,j07 r f.1,jo8 t f.2]
theorem jlc {A:Around} {s:Shared} {x:V} {v:Value} (rx:RelV x v) (fx:jp2 x = true) : ∀ {xs:List V} {us:List Value},Vals xs us -> xs.all jp2 = true -> ∀ u ∈ us,SeqAt.EqAt A s u v (eqU x u)
 | _,_,.nil,_=>λu hu=>by cases hu
 | y :: xs,u :: us,.cons r t,f=>λu' hu=>by
  rw [List.all_cons,Bool.and_eq_true] at f
  rcases mem_cons.mp hu with rfl | hu
  .rw [j07 r f.1]; exact j3z r rx f.1 fx
  .exact jlc rx fx t f.2 u' hu
def inV (x:V) (xs:List V) : Bool:=xs.any λy=>eqV y x
def rIn (K:PySem.W.Frag) (neg:Bool) : R2:=λx y H Q=>∃ p xs,y = .ref p /\ (SqL K H p xs \/ SqT K H p xs) /\ jp2 x = true /\ xs.all jp2 = true /\ Q (.bl (if neg then !inV x xs else inV x xs)) H
theorem jk9:OpR X (compareOp .In) (rIn X.K false):=by
 intro pins s U H x y v u Q I rx ry h
 obtain ⟨p,xs,rfl,hq,fx,fs,q⟩:=h
 cases ry
 rcases hq with hq | hq
 .obtain ⟨its,r,pl,hz⟩:=I.list hq
  refine SeqAt.in_listAt (eqU x) pl.isList (λw hw=>jlc rx fx r fs w (by simpa using hw)) ⟨.bl _,H,I,rfl,?_⟩
  rw [show its.toArray.any (eqU x) = its.any (eqU x) by simp,jo8 r fs]
  exact q
 .obtain ⟨its,r,pl,hz⟩:=I.tuple hq
  refine SeqAt.in_tupleAt (eqU x) pl (λw hw=>jlc rx fx r fs w (by simpa using hw)) ⟨.bl _,H,I,rfl,?_⟩
  rw [show its.toArray.any (eqU x) = its.any (eqU x) by simp,jo8 r fs]
  exact q
theorem jd0:OpR X (compareOp .NotIn) (rIn X.K true):=by
 intro pins s U H x y v u Q I rx ry h
 obtain ⟨p,xs,rfl,hq,fx,fs,q⟩:=h
 cases ry
 rcases hq with hq | hq
 .obtain ⟨its,r,pl,hz⟩:=I.list hq
  refine SeqAt.notIn_listAt (eqU x) pl.isList (λw hw=>jlc rx fx r fs w (by simpa using hw)) ⟨.bl _,H,I,rfl,?_⟩
  rw [show its.toArray.any (eqU x) = its.any (eqU x) by simp,jo8 r fs]
  exact q
 .obtain ⟨its,r,pl,hz⟩:=I.tuple hq
  refine SeqAt.notIn_tupleAt (eqU x) pl (λw hw=>jlc rx fx r fs w (by simpa using hw)) ⟨.bl _,H,I,rfl,?_⟩
  rw [show its.toArray.any (eqU x) = its.any (eqU x) by simp,jo8 r fs]
  exact q
theorem ju:jow X (.builtin "len") (λxs H Q=>∃ p ys,xs = [.ref p] /\ (SqL X.K H p ys \/ SqT X.K H p ys) /\ Q (.int ys.length) H):=by
 intro pins s U H xs us Q I r h
 obtain ⟨p,ys,rfl,hq,q⟩:=h
 obtain ⟨u,rfl,rx⟩:=vals1 r
 cases rx
 have hn:=jnu
 rcases hq with hq | hq
 .obtain ⟨its,r',pl,hz⟩:=I.list hq
  have hlen:=r'.length
  exact Calls.call_len_list pl.isList (by simp only [size_toArray] <;> omega) ⟨.int ys.length,H,I.tok _,⟨s.toks + 1,by rw [size_toArray,hlen]⟩,q⟩
 .obtain ⟨its,r',pl,hz⟩:=I.tuple hq
  have hlen:=r'.length
  exact len_tuple pl (by simp only [size_toArray] <;> omega) ⟨.int ys.length,H,I.tok _,⟨s.toks + 1,by rw [size_toArray,hlen]⟩,q⟩
theorem uj:jow X (.type "list") (λxs H Q=>∃ p ys,xs = [.ref p] /\ (SqL X.K H p ys \/ SqT X.K H p ys) /\ ∀ l,H l = none -> Q (.ref l) (upd H l (.lst ys))):=by
 intro pins s U H xs us Q I r h
 obtain ⟨p,ys,rfl,hq,q⟩:=h
 obtain ⟨u,rfl,rx⟩:=vals1 r
 cases rx
 have fin : ∀ (its:List Value),Vals ys its -> ys.length <= sizeLine -> ∀ (h':Heap) (c':Nat),(∀ b o',s.heap.get? b = some o' -> h'.get? b = some o') ->
   h'.get? s.heap.objs.size = some { cls:=.type "list",dict:=none,data:=.seq its.toArray c',slots:=#[] } -> EP X pins U Q (.ref s.heap.objs.size) { s with heap:=h' }:=λits r' hz h' c' kp e=>
  ⟨.ref s.heap.objs.size,_,I.laid (t':=s.toks) kp (le_refl _) (show wo X.prog X.w _ h' _ (.lst ys) from ⟨hz,its,c',r',e⟩),rfl,q _ (I.hok.fresh (le_refl _))⟩
 rcases hq with hq | hq
 .obtain ⟨its,r',pl,hz⟩:=I.list hq
  have hlen:=r'.length
  obtain ⟨o,ho,hc,n,hd⟩:=pl.isList
  exact call_list_seq p (.inl rfl) ho hc hd (λh' c' kp e=>fin its r' hz h' c' kp e) (by simp only [size_toArray] <;> omega)
 .obtain ⟨its,r',pl,hz⟩:=I.tuple hq
  have hlen:=r'.length
  obtain ⟨o,ho,hc,n,hd⟩:=pl
  exact call_list_seq p (.inr rfl) ho hc hd (λh' c' kp e=>fin its r' hz h' c' kp e) (by simp only [size_toArray] <;> omega)
def tyV (K:PySem.W.Frag) (T:String) (x:V) (H:Hp) : Prop:=match x with
 | .str _=>T = "str"
 | .int _=>T = "int"
 | .ref p=>(T = "list" /\ ∃ xs,SqL K H p xs) \/ (T = "tuple" /\ ∃ o,K.lookup p = some o /\ o.cls = .type "tuple" /\ o.dict = none) \/
   (T = "dict" /\ ((∃ kvs,H p = some (.dK kvs)) \/ ∃ kvs,H p = some (.dT kvs))) \/ (T = "set" /\ ∃ S n,H p = some (.set S n))
 | _=>False
theorem j0q {pins:List (Addr × Obj)} {U : St} {H:Hp} {s:Shared} {T:String} {x:V} {v:Value} (I:Inv X pins U H s) (r:RelV x v) (ty:tyV X.K T x H) :
  s.TypeIs v T /\ ∀ a,v = .ref a -> ∃ ob,s.heap.get? a = some ob /\ ob.dict = none:=by
 cases x with
 | str z=>
  obtain ⟨t,rfl⟩:=r
  cases (show T = "str" from ty)
  exact ⟨typeIs_str s z t,λ_ e=>nomatch e⟩
 | int i=>
  obtain ⟨t,rfl⟩:=r
  cases (show T = "int" from ty)
  exact ⟨typeIs_int s i t,λ_ e=>nomatch e⟩
 | ref p =>
  cases r
  rcases ty with ⟨rfl,xs,hq⟩ | ⟨rfl,o,hk,hc,hd⟩ | ⟨rfl,hk⟩ | ⟨rfl,S,n,hk⟩
  .obtain ⟨its,_,pl,_⟩:=I.list hq
   refine ⟨pl.isList.typeIs,λa e=>?_⟩
   cases e
   obtain ⟨o,n,e,c,hd,_⟩:=pl
   exact ⟨o,e,hd⟩
  .refine ⟨⟨o,I.kIn p o hk,hc⟩,λa e=>?_⟩
   cases e
   exact ⟨o,I.kIn _ o hk,hd⟩
  .have z : ∃ o,s.heap.get? p = some o /\ o.ExactDict:=by
    rcases hk with ⟨kvs,hk⟩ | ⟨kvs,hk⟩
    .obtain ⟨_,_,_,_,o,_,_,e,ex,_⟩:=I.hok p _ hk
     exact ⟨o,e,ex⟩
    .obtain ⟨_,_,_,_,o,_,_,e,ex,_⟩:=I.hok p _ hk
     exact ⟨o,e,ex⟩
   obtain ⟨o,e,ex⟩:=z
   refine ⟨⟨o,e,ex.1⟩,λa e2=>?_⟩
   cases e2
   exact ⟨o,e,ex.2.1⟩
  .obtain ⟨o,_,_,_,e,ex,_⟩:=I.hok p _ hk
   refine ⟨⟨o,e,ex.1⟩,λa e2=>?_⟩
   cases e2
   exact ⟨o,e,ex.2.1⟩
 | _=>exact False.elim ty
def j75 (K:PySem.W.Frag) (T:String) (r:V -> List V -> Hp -> VK -> Prop) (to:TE) : TE:=λU H Q=>to U H λx H1=>tyV K T x H1 /\ r x [] H1 Q
def tBM (K:PySem.W.Frag) (T:String) (r:V -> List V -> Hp -> VK -> Prop) (to:TE) (t:TA) : TE:=λU H Q=>to U H λx H1=>tyV K T x H1 /\ t U H1 λxs H2=>r x xs H2 Q
variable {o e:Expr} {es:List Expr} {to:TE} {t:TA} {name:Str} {apos cpos:Pos} {T id:String} {r:V -> List V -> Hp -> VK -> Prop}
theorem j46 (pa:PlainAttrs T) (slot:Slot T name id) (hty:typeOf (.builtin id) = pure (.type "method_descriptor")) (hm:MtR X id r) (ho:PE X o to)
  (hbase:autoParam (attributeBase o name X.env (eval o X.env) = eval o X.env) aP1) (hline:autoParam ((apos.endLine == cpos.line) = true) aP1) : PE X (.Call (.Attribute o name apos) [] [] cpos) (j75 X.K T r to):=by
 intro pins s U H Q I h
 refine wpAny_Call_method0_late hbase hline (thn (ho pins s U H _ I h) λv s1 ⟨x,H1,I1,r1,ty,q1⟩=>?_)
 obtain ⟨h1,h2⟩:=j0q I1 r1 ty
 exact ⟨T,id,pa,slot,hty,h1,h2,Calls.callWith_builtin rfl (PySem.evalArgs_none (hm pins s1 U H1 x [] v [] Q I1 r1 .nil q1))⟩
theorem jij (pa:PlainAttrs T) (slot:Slot T name id) (hty:typeOf (.builtin id) = pure (.type "method_descriptor")) (hm:MtR X id r) (ho:PE X o to) (ha:PA X (e :: es) t)
  (hbase:autoParam (attributeBase o name X.env (eval o X.env) = eval o X.env) aP1)
  (hfew:autoParam (((backTo cpos (starEach (e :: es) X.env)).all (λx=>!x.1) && (backToKw cpos (keywordEach [] X.env)).all (λx=>x.1.isSome)
   && decide ((e :: es).length + ([] : List Keyword).length + (if ([] : List Keyword).isEmpty then 0 else 1) < 30)) = true) aP1)
  (hline:autoParam ((apos.endLine == cpos.line) = true) aP1) (hs:autoParam (starEach (e :: es) X.env = (false,eval e X.env) :: starEach es X.env) aP1) (hplain:autoParam ((backTo cpos (starEach es X.env)).any (·.1) = false) aP1) :
  PE X (.Call (.Attribute o name apos) (e :: es) [] cpos) (tBM X.K T r to t):=by
 intro pins s U H Q I h
 refine wpAny_Call_method_late hbase hfew hline rfl (thn (ho pins s U H _ I h) λv s1 ⟨x,H1,I1,r1,ty,q1⟩=>?_)
 obtain ⟨h1,h2⟩:=j0q I1 r1 ty
 refine ⟨T,id,pa,slot,hty,h1,h2,?_⟩
 have hA:=ha cpos pins s1 U H1 _ I1 q1
 rw [hs] at hA ⊢
 refine Calls.callWith_builtin (by show (false || (backTo cpos (starEach es X.env)).any (·.1)) = false; rw [hplain] <;> rfl) (Calls.evalArgs_plain ?_)
 exact thn hA λus s2 ⟨vs,H2,I2,r2,q2⟩=>hm pins s2 U H2 x vs v us Q I2 r1 r2 q2
end
end L2
namespace L2
open PySem PySem.Spec PyProof.Rows
def MtM (X:Cx) (id:String) (r:V -> List V -> Hp -> VK -> Prop) : Prop:=
 ∀ (pins:List (Addr × Obj)) (s:Shared) (U : St) (H:Hp) (x:V) (xs:List V) (v:Value) (us:List Value) (Q:VK),Inv X pins U H s -> RelV x v -> Vals xs us -> r x xs H Q ->
  wpAny (model X.prog X.w) X.A (call (.builtin id) (v :: us)) (EP X pins U Q) X.xe s
theorem Vals.one : ∀ {x:V} {us:List Value},Vals [x] us -> ∃ u,us = [u] /\ RelV x u
 | _,_,.cons r .nil=>⟨_,rfl,r⟩
theorem Vals.eraseIdx : ∀ {xs:List V} {us:List Value} (i:Nat),Vals xs us -> Vals (xs.eraseIdx i) (us.eraseIdx i)
 | _,_,_,.nil=>.nil
 | _,_,0,.cons _ t=>t
 | _,_,i + 1,.cons r t=>.cons r (Vals.eraseIdx i t)
theorem Vals.rep {xs:List V} {us:List Value} (h:Vals xs us) : ∀ k:Nat,Vals (List.replicate k xs).flatten (List.replicate k us).flatten
 | 0=>.nil
 | k + 1=>by
  rw [replicate_succ,replicate_succ,flatten_cons,flatten_cons]
  exact Vals.append h (Vals.rep h k)
theorem jrv {α : Type} : ∀ (l:List α) (i:Nat),(l.eraseIdx i).length <= l.length
 | [],_=>le_refl _
 | _ :: _,0=>le_succ _
 | _ :: r,i + 1=>Nat.succ_le_succ (jrv r i)
theorem foldl_rep (its:List Value) : ∀ (k:Nat) (acc:List Value),
  List.foldl (λx1 x2=>x1 ++ x2) acc.toArray (List.replicate k its.toArray) = (acc ++ (List.replicate k its).flatten).toArray
 | 0,acc=>by simp
 | k + 1,acc=>by
  have e:acc.toArray ++ its.toArray = (acc ++ its).toArray:=by simp
  have e2:(acc ++ its) ++ (List.replicate k its).flatten = acc ++ (List.replicate (k + 1) its).flatten:=by
   rw [replicate_succ,flatten_cons,List.append_assoc]
  rw [<- e2,<- foldl_rep its k (acc ++ its),<- e,replicate_succ,foldl_cons]
section
variable {X:Cx} {pins:List (Addr × Obj)} {U : St} {H:Hp} {s:Shared} {l b:Addr} {xs ys zs:List V}
theorem Inv.j6a {its its':List Value} {n:Nat} {f:Array Value -> Array Value} {t':Nat} (I:Inv X pins U H s) (hH:H l = some (.lst xs))
  (e:s.heap.get? l = some { cls:=.type "list",data:=.seq its.toArray n }) (hf:f its.toArray = its'.toArray) (hv:Vals ys its') (hz:ys.length <= sizeLine) :
  Inv X pins U (upd H l (.lst ys)) { s with heap:=s.heap.update l (Obj.mapSeq f),toks:=t' }:=by
 have q:=PySem.IsL.update e f
 rw [hf] at q
 refine I.write (x:=l) (e:=l) (by rw [hH]; exact trivial) (.inl rfl) (λb' u hb hu=>(Heap.get?_update_other s.heap (Obj.mapSeq f) (Ne.symm hb)).trans hu) ⟨_,q⟩ ?_
 exact ⟨hz,its',_,hv,q⟩
theorem Inv.j7l {its:List Value} {t':Nat} (I:Inv X pins U H s) (hv:Vals ys its) (hz:ys.length <= sizeLine) :
  Inv X pins U (upd H s.heap.objs.size (.lst ys)) { s with heap:=s.heap.push { cls:=.type "list",data:=.seq its.toArray },toks:=t' }:=
 I.laid (λ_ _ q=>Heap.get?_push_of_some _ q) (le_refl _) ⟨hz,its,0,hv,Heap.get?_push_size _ rfl⟩
theorem Inv.fresh (I:Inv X pins U H s) : H s.heap.objs.size = none:=I.hok.fresh (le_refl _)
theorem Inv.j3g (I:Inv X pins U H s) (hH:H l = some (.lst xs)) : xs.length <= sizeLine /\ ∃ (its:List Value) (n:Nat),Vals xs its /\ xs.length = its.length /\ s.heap.get? l = some { cls:=.type "list",data:=.seq its.toArray n }:=by
 obtain ⟨z,its,n,r,e⟩:=I.hok l _ hH
 exact ⟨z,its,n,r,r.length,e⟩
theorem jy9 {n:Nat} (h:n <= sizeLine) : Builtin.List.listTooLong n = false:=by
 unfold Builtin.List.listTooLong
 exact decide_eq_false (by omega)
end
section
variable {X:Cx}
def j3a:V -> List V -> Hp -> VK -> Prop:=λx vs H Q=>∃ l xs y,x = .ref l /\ vs = [y] /\ H l = some (.lst xs) /\ xs.length < sizeLine /\ Q .non (upd H l (.lst (xs ++ [y])))
theorem yr:MtM X "list.append" j3a:=by
 intro pins s U H x vs v us Q I rx rv h
 obtain ⟨l,xs,y,rfl,rfl,hH,hz,q⟩:=h
 cases rx
 obtain ⟨u,rfl,ru⟩:=rv.one
 obtain ⟨z,its,n,r,hl,e⟩:=I.j3g hH
 refine call_meets F.slot_list_append ⟨_,e,rfl⟩ F.entry_list_append (F.args_list_append_2 _ _) (PySem.list_append l its.toArray n u (by rw [size_toArray]; omega)) ⟨e,?_⟩
 refine ⟨.non,_,I.j6a (its':=its ++ [u]) hH e (by simp) (r.append (.cons ru .nil)) ?_,rfl,q⟩
 rw [length_append,List.length_singleton]
 omega
def j3i:V -> List V -> Hp -> VK -> Prop:=λx vs H Q=>∃ l xs i k y,x = .ref l /\ vs = [.int i] /\ H l = some (.lst xs) /\ -(2 ^ 63) <= i /\ i < 2 ^ 63 /\ seqIndex? i xs.length = some k /\ xs[k]? = some y /\ Q y (upd H l (.lst (xs.eraseIdx k)))
theorem jze:MtM X "list.pop" j3i:=by
 intro pins s U H x vs v us Q I rx rv h
 obtain ⟨l,xs,i,k,y,rfl,rfl,hH,h1,h2,hk,hy,q⟩:=h
 cases rx
 obtain ⟨u,rfl,ru⟩:=rv.one
 obtain ⟨t,rfl⟩:=ru
 obtain ⟨z,its,n,r,hl,e⟩:=I.j3g hH
 obtain ⟨w,hw,rw'⟩:=r.get hy
 refine call_meets F.slot_list_pop ⟨_,e,rfl⟩ F.entry_list_pop (F.args_list_pop_2 _ _)
  (MeetsSeq.list_pop_at l its.toArray n i t k w (fitsIndex_both h1 h2) (by rw [size_toArray,<- hl]; exact hk) (by rw [<- Array.getElem?_toList]; exact hw) (by rw [size_toArray]; omega)) ⟨e,?_⟩
 refine ⟨y,_,I.j6a (its':=its.eraseIdx k) hH e ?_ (r.eraseIdx k) ?_,rw',q⟩
 .show its.toArray.eraseIdxIfInBounds k = (its.eraseIdx k).toArray
  rw [List.eraseIdxIfInBounds_toArray]
 .have:=jrv xs k
  omega
def j8c:R2:=λx y H Q=>∃ l b xs zs,x = .ref l /\ y = .ref b /\ H l = some (.lst xs) /\ H b = some (.lst zs) /\ xs.length + zs.length <= sizeLine /\ ∀ p,H p = none -> Q (.ref p) (upd H p (.lst (xs ++ zs)))
theorem jxn:OpR X (binaryOp .Add) j8c:=by
 intro pins s U H x y v u Q I rx ry h
 obtain ⟨l,b,xs,zs,rfl,rfl,hH,hB,hz,q⟩:=h
 cases rx
 cases ry
 obtain ⟨z,its,n,r,hl,e⟩:=I.j3g hH
 obtain ⟨z2,its2,n2,r2,hl2,e2⟩:=I.j3g hB
 refine PySem.P.add_list e e2 ?_ (by rw [size_toArray,size_toArray]; omega)
 have ea:its.toArray ++ its2.toArray = (its ++ its2).toArray:=by simp
 rw [ea]
 exact ⟨.ref _,_,I.j7l (t':=s.toks) (r.append r2) (by rw [length_append]; omega),rfl,q _ I.fresh⟩
def j76:R2:=λx y H Q=>∃ l k xs,x = .ref l /\ y = .int k /\ H l = some (.lst xs) /\ -(2 ^ 63) <= k /\ k < 2 ^ 63 /\ xs.length * k.toNat <= sizeLine /\
 ∀ p,H p = none -> Q (.ref p) (upd H p (.lst (List.replicate k.toNat xs).flatten))
theorem len_rep {α : Type} (xs:List α) (k:Nat) : (List.replicate k xs).flatten.length = k * xs.length:=by
 induction k with
 | zero=>simp
 | succ k ih=>rw [replicate_succ,flatten_cons,length_append,ih,Nat.succ_mul,Nat.add_comm]
theorem j4b:OpR X (binaryOp .Mult) j76:=by
 intro pins s U H x y v u Q I rx ry h
 obtain ⟨l,k,xs,rfl,rfl,hH,h1,h2,hz,q⟩:=h
 cases rx
 obtain ⟨t,rfl⟩:=ry
 obtain ⟨z,its,n,r,hl,e⟩:=I.j3g hH
 have hlen:its.toArray.size * k.toNat <= sizeLine:=by rw [size_toArray,<- hl]; exact hz
 have hcap : ¬ its.toArray.size * k.toNat > (2 ^ 63 - 1) / 8:=by
  have:(sizeLine:Nat) <= (2 ^ 63 - 1) / 8:=by decide
  omega
 have hfit : ¬ (!Builtin.List.listFitsIndex k) = true:=by
  rw [fitsIndex_both h1 h2]
  exact Bool.false_ne_true
 have hlong : ¬ Builtin.List.listTooLong (its.toArray.size * k.toNat) = true:=by
  rw [jy9 hlen]
  exact Bool.false_ne_true
 have hnew:List.foldl (λx1 x2=>x1 ++ x2) #[] (List.replicate (if its.toArray.isEmpty = true then 0 else k.toNat) its.toArray) = (List.replicate k.toNat its).flatten.toArray:=by
  have f0 : ∀ m:Nat,List.foldl (λx1 x2=>x1 ++ x2) #[] (List.replicate m its.toArray) = (List.replicate m its).flatten.toArray:=λm=>by
   have:=foldl_rep its m []
   rw [List.nil_append] at this
   exact this
  rw [f0]
  cases its with
  | nil=>simp
  | cons a r'=>rw [if_neg (by simp)]
 refine wpAny_binaryOp_repeat_ref (T := "list") (U := "int") (by decide) ⟨_,e,rfl⟩ (λs'=>typeIs_int s' k t) noFill_list_mul F.fills_int_mul F.slot_int_rmul repeat_list F.slot_int_index.lookup
  (call_meets F.slot_int_rmul (typeIs_int s k t) F.entry_int_rmul (F.args_int_rmul_2 _ _) (int___rmul___int_list k t l its.toArray n)
   ⟨e,rfl,⟨_,e,rfl⟩,call_meets F.slot_list_mul ⟨_,e,rfl⟩ F.entry_list_mul (F.args_list_mul_2 _ _) (AutoListH.list___mul___list_int_3 l its.toArray n k t hfit hcap hlong) ⟨e,?_⟩⟩)
 rw [hnew]
 exact ⟨.ref _,_,I.j7l (t':=s.toks) (r.rep k.toNat) (by rw [len_rep,Nat.mul_comm]; exact hz),rfl,q _ I.fresh⟩
end
section
variable {prog:Program} {w:World} {A:Around} {E:Value -> Shared -> Prop} {s:Shared}
end
section
variable {X:Cx}
end
end L2
namespace Att
open PySem PySem.W PySem.Calls PyProof.Rows
theorem joz {P:Params} {h:Heap} : ∀ (ns:List Int) (vs:List Value),WellAll P h vs (ns.map WData.int) -> IntsAre vs ns:=by
 intro ns
 induction ns with
 | nil=>
  intro vs w
  rw [map_nil] at w
  cases w
  exact .nil
 | cons n ns ih=>
  intro vs w
  rw [map_cons] at w
  cases w with
  | cons a b=>
   cases a
   exact .cons _ _ (ih _ b)
theorem jx8 {l:OpenLaw} {n:Nat} (hn:l.most = some n) {P:Params} {h:Heap} {args:List WData} {vals:List Value}
  (hpre:l.row.toRowW.claim.pre args = true) (hwl:WellAll P h vals args) :
  ∃ a vs ns,vals = [Value.ref a] /\ args = [WData.list (ns.map WData.int)] /\ h.get? a = some { cls:=.type "list",data:=.seq vs.toArray } /\ IntsAre vs ns /\ ns.length <= n:=by
 have hsh:WShape.hasAll [] args [.list .int] = true:=(pre_splitW hpre).1
 have hc:l.pre.holds [] { args:=args } = true:=(pre_splitW hpre).2
 obtain ⟨d,r,rfl,h1,h2⟩:=hasAllW_cons hsh
 obtain rfl:=hasAllW_nil h2
 obtain ⟨xs,rfl,h3⟩:=hasW_list h1
 obtain ⟨ns,rfl⟩:=items_int h3
 have hlen:ns.length <= n:=by
  unfold OpenLaw.pre at hc
  have h4:(WTm.not (.lt (.lit (.int (n:Int))) (.len (.arg 0)))).holds [] { args:=[.list (ns.map .int)] } = true:=by
   have h4:=(holds_andW hc).1
   rw [hn] at h4
   exact h4
  have h5:=condW_of h4 (w_not (w_lt w_lit (w_len_list (w_arg rfl))))
  rw [length_map] at h5
  refine Nat.le_of_not_lt λq=>?_
  have q':(n:Int) < ((ns.length:Nat) : Int):=by omega
  first
   | (rw [decide_eq_true q'] at h5; exact absurd h5 (by decide))
   | (simp at h5; omega)
 cases hwl with
 | cons w1 w2=>
  cases w2
  cases w1 with
  | list ho hall=>exact ⟨_,_,ns,rfl,rfl,ho,joz ns _ hall,hlen⟩
theorem jx7 (l:OpenLaw) (args:List WData) : l.row.toRowW.claim.post args (.bool true) args = true:=
 postW_of (r:=l.row.toRowW) (X:=(true == true))
  (show WShape.has [] (.bool true) .bool = true by first | rfl | decide | simp [WShape.has,WShape.arms,WShape.armsAll])
  (show (WTm.eq .res (.lit (.bool true))).value [] { args:=args,res:=some (.bool true),after:=args } = some (.bool (true == true)) from w_eq_bool (w_res rfl) w_lit) rfl
theorem jty {l:OpenLaw} {n:Nat} {q:Program} {loose:List Str} {XP:(Str -> Option Value) -> Heap -> Prop} {YP:World -> Heap -> Prop} {d:DefRec}
  (hn:l.most = some n) (hdf:d.params.defaults = [])
  (call : ∀ (w:World) (s₀ s₁:Shared) (mg mb:Str -> Option Value) (fa:Addr) (o:Obj) (pm cd doc:Value) (a:Addr) (vs:List Value) (ns:List Int),
   Ground q loose [] XP w s₀ mg mb s₁.heap -> YP w s₁.heap ->
   s₁.heap.get? fa = some o -> o.data = .func (docDef d.name d.params d.body d.scope pm cd doc) -> s₁.heap.CodeRec cd d.name -> mg d.name = some (.ref fa) ->
   s₁.heap.get? a = some { cls:=.type "list",data:=.seq vs.toArray } -> IntsAre vs ns -> ns.length <= n -> s₁.gens = #[] ->
   codeAny (model l.prog w) callerA (.call (.ref fa) ⟨[.ref a],[]⟩) (λr s'=>r = .ok (.ret (.bool true)) /\ OldK s₁.heap s'.heap /\ s'.os = s₁.os /\ AllBare s'.gens) s₁) :
  WalkO q loose XP YP l.row.toRowW d [] (λf vs=>PySem.call f vs):=by
 intro w s₀ s₁ mg mb G Yq fa o pm cd doc dV kV ho hd hcd hD hmg hg args vals as hpre hlay hrd hwl hlo
 obtain rfl:dV = .none:=Dflts.none hD hdf
 obtain rfl:kV = .none:=Dflts.noKw hD
 obtain ⟨a,vs,ns,rfl,rfl,hobj,hints,hlen⟩:=jx8 hn hpre hwl
 refine enter_call (codeAny_mono (call w s₀ s₁ mg mb fa o pm cd doc a vs ns G Yq ho (fd_plain hd) hcd hmg hobj hints hlen hg) λr s' hq=>?_)
 obtain ⟨rfl,h2,h3,h4⟩:=hq
 exact ⟨.inl ⟨.bool true,.bool true,[],rfl,λ_=>rfl,.bool true,jx7 l _,λ_=>⟨List.Pairwise.nil,λ_ hm=>(nomatch hm)⟩⟩,h2,h3,h4⟩
section
variable {prog:Program} {w:World} {A:Around} {E:Value -> Shared -> Prop} {s:Shared} {K:Frag}
end
end Att
namespace L2
open PySem PySem.Spec PyProof.Rows
theorem jtb : ∀ {vs:List Value} {ns:List Int},IntsAre vs ns -> Vals (ns.map V.int) vs
 | _,_,.nil=>.nil
 | _,_,.cons n t h=>.cons ⟨t,rfl⟩ (jtb h)
def j5d (H:Hp) : Prop:=∀ b,H b = none \/ ∃ o xs,H b = some (.frz o (.lst xs))
theorem j0i {P:Program} {w:World} {K:PySem.W.Frag} {mg mb:Str -> Option Value} {CX:CXT} {k:Nat} {fa a:Addr} {fd:FuncData} {x:Str} {sp:Sp} {s₁:Shared} {vs:List Value} {ns:List Int}
  (KX:K.In s₁.heap) (hns:s₁.heap.Ns mainGlobals mg) (hb:s₁.heap.Ns builtinsNs mb) (hbb : ∀ x:Str,x ≠ "__name__" -> mb x = bootBuiltins x) (hlim:s₁.heap.NoLimit) (hg:s₁.gens = #[])
  (ha:s₁.heap.get? a = some { cls:=.type "list",data:=.seq vs.toArray }) (hi:IntsAre vs ns) (hl:ns.length <= sizeLine) (hr:jeo k callerA)
  (F : ∀ base:Heap,K.In base -> base.Ns mainGlobals mg -> xo P w K mg base CX k fa fd [x] sp) (hbind : ∀ (s:Shared) (u:Value),BindsTo s fd ⟨[u],[]⟩ [(x,u)])
  (hsp : ∀ H:Hp,j5d H -> SqL K H a (ns.map V.int) -> sp [.ref a] H (λv _=>v = .bl true) λ_ _ _=>False)
  (hCX : ∀ H e s',CX [] H s₁ (λ_ _ _=>False) e s' -> False) :
  codeAny (model P w) callerA (.call (.ref fa) ⟨[.ref a],[]⟩) (λr s'=>r = .ok (.ret (.bool true)) /\ OldK s₁.heap s'.heap /\ s'.os = s₁.os /\ AllBare s'.gens) s₁:=by
 have rv:=jtb hi
 have lenV:=hi.length
 have core : ∀ H:Hp,j5d H -> SqL K H a (ns.map V.int) -> HOk P w H s₁.heap -> (∀ b,H b ≠ none -> b = a) -> (H a ≠ none -> K.lookup a = none) ->
   codeAny (model P w) callerA (.call (.ref fa) ⟨[.ref a],[]⟩) (λr s'=>r = .ok (.ret (.bool true)) /\ OldK s₁.heap s'.heap /\ s'.os = s₁.os /\ AllBare s'.gens) s₁:=by
  intro H hO hS hok hA hK
  have base_of : ∀ {b:Addr} {o:Obj},s₁.heap.get? b = some o -> H b = none -> (jy5 s₁.heap H).get? b = some o:=λe n=>jzj e n
  have noA : ∀ {b:Addr} {o:Obj} {es:Array DictEntry} {ep:Nat},s₁.heap.get? b = some o -> o.data = .dict es ep -> H b = none:=λ{b o es ep} e d=>by
   cases q:H b with
   | none=>rfl
   | some u=>
    have e':b = a:=hA b (by rw [q]; simp)
    subst e'
    rw [ha] at e; cases e
    have d':Data.seq vs.toArray _ = Data.dict es ep:=d
    cases d'
  have nsK : ∀ {b:Addr} {m:Str -> Option Value},s₁.heap.Ns b m -> (jy5 s₁.heap H).Ns b m:=λ{b m} ⟨o,es,ep,e,d,r⟩=>⟨o,es,ep,base_of e (noA e d),d,r⟩
  have hKb:K.In (jy5 s₁.heap H):=λb o e=>base_of (KX b o e) (by
   cases q:H b with
   | none=>rfl
   | some u=>
    have e':b = a:=hA b (by rw [q]; simp)
    subst e'
    rw [hK (by rw [q]; simp)] at e; cases e)
  have hM:Mod K mg (jy5 s₁.heap H):=⟨hKb,nsK hns,⟨mb,nsK hb,hbb⟩,let ⟨mc,h1,h2⟩:=hlim; ⟨mc,nsK h1,h2⟩⟩
  have e0:j2w P w K mg (jy5 s₁.heap H) callerA [] s₁ H:=⟨rfl,hM,λb o e=>j1i e,Nat.le_of_eq (jw9 _ _),trivial,λb hb=>absurd (show b ∈ ([] : List Addr) from hb) (by simp),hok,.of_eq hg⟩
  refine codeAny_mono ((F _ hKb (nsK hns)).run callerA [] s₁ H ⟨[.ref a],[]⟩ [.ref a] [.ref a] _ _ hr e0 (hbind s₁ (.ref a)) (.cons rfl .nil) (hsp H hO hS)) λr s' h=>?_
  cases r with
  | error e=>exact (hCX H e s' h).elim
  | ok fl =>
   cases fl with
   | next=>exact False.elim h
   | brk=>exact False.elim h
   | cont=>exact False.elim h
   | ret u=>
    obtain ⟨v,H',os,bare,un,hok',r',q⟩:=h
    have q':v = .bl true:=q
    subst q'
    obtain rfl:u = Value.bool true:=r'
    refine ⟨rfl,OldK.of_keep λb o e=>?_,os,bare⟩
    cases q:H b with
    | none=>exact un.keep b o e q (by intro z; exact absurd (show b ∈ ([] : List Addr) from z) (by simp)) (by simp)
    | some u=>
     rcases hO b with z | ⟨ob,xs,z⟩
     .rw [q] at z; cases z
     .have z2:=un.jrc b ob _ z
      obtain ⟨e1,_⟩:=hok b _ z
      obtain ⟨e2,_⟩:=hok' b _ z2
      rw [e] at e1; cases e1
      exact e2
 cases hk:K.lookup a with
 | some o=>
  have e:=KX a o hk
  rw [ha] at e
  cases e
  refine core (λ_=>none) (λ_=>.inl rfl) (.inr ⟨_,vs.toArray,_,hk,rfl,rfl,rfl,by rw [size_toArray,lenV]; exact hl,by simpa using rv⟩) (λb u z=>by have z':(none:Option HO) = some u:=z; cases z') (λb z=>absurd rfl z) λz=>absurd rfl z
 | none=>
  refine core (λb=>if b = a then some (.frz { cls:=.type "list",data:=.seq vs.toArray } (.lst (ns.map V.int))) else none) (λb=>?_) (.inl (.inr ⟨{ cls:=.type "list",data:=.seq vs.toArray },if_pos rfl⟩)) (λb u z=>?_) (λb z=>?_) λ_=>hk
  .by_cases hb:b = a
   .exact .inr ⟨_,_,if_pos hb⟩
   .exact .inl (if_neg hb)
  .by_cases hb:b = a
   .have z':=(if_pos hb).symm.trans z
    cases z'
    subst hb
    exact ⟨ha,by rw [length_map]; exact hl,vs,_,rv,ha⟩
   .have z':=(if_neg hb).symm.trans z
    cases z'
  .by_cases hb:b = a
   .exact hb
   .exact absurd (if_neg hb) z
end L2
namespace L2
open PySem PySem.Spec PyProof.Rows
theorem j1q {l:PySem.W.OpenLaw} {n k:Nat} {q:Program} {loose:List Str} {XP:(Str -> Option Value) -> Heap -> Prop} {YP:World -> Heap -> Prop} {d:DefRec} {K:Params -> PySem.W.Frag} {CX:World -> CXT} {sp:World -> Sp} {x:Str}
  (hn:l.most = some n) (hn2:n <= sizeLine) (hdf:d.params.defaults = []) (hr:jeo k callerA)
  (hY : ∀ (w:World) (h:Heap),YP w h -> (K w.params).In h)
  (F : ∀ (w:World) (mg:Str -> Option Value) (fa:Addr) (h:Heap),(K w.params).In h -> h.Ns mainGlobals mg -> mg d.name = some (.ref fa) ->
   ∃ fd:FuncData,(∀ (s:Shared) (u:Value),BindsTo s fd ⟨[u],[]⟩ [(x,u)]) /\
    ∀ base:Heap,(K w.params).In base -> base.Ns mainGlobals mg -> xo l.prog w (K w.params) mg base (CX w) k fa fd [x] (sp w))
  (hsp : ∀ (w:World) (H:Hp) (a:Addr) (ns:List Int),ns.length <= n -> j5d H -> SqL (K w.params) H a (ns.map V.int) -> sp w [.ref a] H (λv _=>v = .bl true) λ_ _ _=>False)
  (hCX : ∀ (w:World) (H:Hp) (s:Shared) (e:Value) (s':Shared),CX w [] H s (λ_ _ _=>False) e s' -> False) :
  PySem.W.WalkO q loose XP YP l.row.toRowW d [] (λf vs=>PySem.call f vs):=by
 refine Att.jty hn hdf λw s₀ s₁ mg mb fa o pm cd doc a vs ns G Yq ho hd hcd hmg hobj hints hlen hg=>?_
 have KX:=hY w _ Yq
 obtain ⟨fd,hb,hF⟩:=F w mg fa _ KX G.T.g hmg
 exact j0i KX G.T.g G.T.b G.T.builtins G.T.nolimit hg hobj hints (le_trans hlen hn2) hr hF hb (λH hO hS=>hsp w H a ns hlen hO hS) λH e s'=>hCX w H s₁ e s'
theorem j0j {l:PySem.W.OpenLaw} {n k:Nat} {q:Program} {loose:List Str} {XP:(Str -> Option Value) -> Heap -> Prop} {YP:World -> Heap -> Prop} {d:DefRec} {K:Params -> PySem.W.Frag} {CX:CXT} {sp:PySem.W.Frag -> Sp} {x:Str}
  (hn:l.most = some n) (hn2:n <= sizeLine) (hdf:d.params.defaults = []) (hr:jeo k callerA)
  (hY : ∀ (w:World) (h:Heap),YP w h -> (K w.params).In h)
  (F : ∀ (w:World) (mg:Str -> Option Value) (fa:Addr) (h:Heap),(K w.params).In h -> h.Ns mainGlobals mg -> mg d.name = some (.ref fa) ->
   ∃ fd:FuncData,(∀ (s:Shared) (u:Value),BindsTo s fd ⟨[u],[]⟩ [(x,u)]) /\
    ∀ base:Heap,(K w.params).In base -> base.Ns mainGlobals mg -> xo l.prog w (K w.params) mg base CX k fa fd [x] (sp (K w.params)))
  (hsp : ∀ (K:PySem.W.Frag) (H:Hp) (a:Addr) (ns:List Int),ns.length <= n -> j5d H -> SqL K H a (ns.map V.int) -> sp K [.ref a] H (λv _=>v = .bl true) λ_ _ _=>False)
  (hCX : ∀ (H:Hp) (s:Shared) (e:Value) (s':Shared),CX [] H s (λ_ _ _=>False) e s' -> False) :
  PySem.W.WalkO q loose XP YP l.row.toRowW d [] (λf vs=>PySem.call f vs):=
 j1q (K:=K) (CX:=λ_=>CX) (sp:=λw=>sp (K w.params)) hn hn2 hdf hr hY F (λw H a ns h1 h2 h3=>hsp (K w.params) H a ns h1 h2 h3) λ_ H s e s'=>hCX H s e s'
end L2
namespace L2
open PySem PySem.Spec PyProof.Rows
def inClass (s:Stmt) (j:Nat) : Stmt:=match s with
 | .ClassDef _ _ _ body _ _ _ _ _ _ _=>body.getD j (.Pass ⟨0,0,0,0⟩)
 | _=>.Pass ⟨0,0,0,0⟩
def jme (s:Stmt) : Arguments:=match s with
 | .FunctionDef _ a _ _ _ _ _ _ _ _=>a
 | _=>{ posonlyargs:=[],args:=[],vararg:=none,kwonlyargs:=[],kw_defaults:=[],kwarg:=none,defaults:=[] }
def jbq (s:Stmt) : List Stmt:=match s with
 | .FunctionDef _ _ b _ _ _ _ _ _ _=>b
 | _=>[]
def jt (s:Stmt) : Scope:=match s with
 | .FunctionDef _ _ _ _ _ _ sc _ _ _=>sc
 | _=>{ kind:=.function,names:=[],isGenerator:=false,isCoroutine:=false }
abbrev CX0:CXT:=λ_ _ _ _ _ _=>False
abbrev E0:XK:=λ_ _ _=>False
theorem jo {X:Cx} : Passes CX0 X E0:=λ_ _ _ _ _ _ _ h=>h.elim
structure Fun (K:PySem.W.Frag) (x qual:Str) (st:Stmt) (f:Addr) (fd:FuncData) : Prop where
 ex : ∃ (oc:Value) (od:Option Addr) (kV doc pm:Value) (an:Option Addr) (cdv ct:Value) (osl:Array (Option Value)),
  fd = PySem.W.fnOf x qual (jme st) (jbq st) (jt st) .none kV doc pm an cdv ct /\ K.lookup f = some ⟨oc,od,.func fd,osl⟩ /\ PySem.W.codeIn K cdv qual = true
 kp:PySem.W.keepIn K (.ref f) = true
section
variable {P:Program} {w:World} {K:PySem.W.Frag} {mg:Str -> Option Value} {base:Heap}
theorem Fun.ok {x qual:Str} {st:Stmt} {f:Addr} {fd:FuncData} {N ps:List Str} {k:Nat} {sp:Sp} (F:Fun K x qual st f fd) (S:qj N ps (jt st)) (len : ∀ vs H Q E,sp vs H Q E -> vs.length = ps.length)
  (hbody : ∀ (cdv:Value) (A:Around) (outer:List Env) (s:Shared) (H:Hp) (vs:List V) (Q:VK) (E:XK),jeo k (A.deeper (envOfC qual (jt st) s.heap.objs.size f cdv)) -> sp vs H Q E ->
   ∃ t,PSs (jpv CX0 P w K mg base N qual (jt st) f cdv A outer s H E).nox (jbq st) t /\ t { nx:=λ_ H'=>Q .non H',rt:=Q } (start N vs) H) : xo P w K mg base CX0 (k + 1) f fd ps sp:=by
 obtain ⟨oc,od,kV,doc,pm,an,cdv,ct,osl,rfl,lk,hcd⟩:=F.ex
 refine j47 lk hcd S len λA outer s H vs Q E hr hsp=>?_
 obtain ⟨t,h,q⟩:=hbody cdv A outer s H vs Q E hr hsp
 exact ⟨t,h.nox,q⟩
theorem Fun.okA {x qual:Str} {st:Stmt} {f:Addr} {fd:FuncData} {N ps:List Str} {k:Nat} {sp:Sp} (F:Fun K x qual st f fd) (S:qj N ps (jt st)) (hbody : ∀ (cdv:Value) (A:Around) (outer:List Env) (s:Shared) (H:Hp) (vs:List V) (Q:VK) (E:XK),jeo k (A.deeper (envOfC qual (jt st) s.heap.objs.size f cdv)) -> sp vs H Q E ->
   ∃ t,PSs (jpv CX0 P w K mg base N qual (jt st) f cdv A outer s H E).nox (jbq st) t /\ t { nx:=λ_ H'=>Q .non H',rt:=Q } (start N vs) H) (len:autoParam (∀ vs H Q E,sp vs H Q E -> vs.length = ps.length) aP6) : xo P w K mg base CX0 (k + 1) f fd ps sp:=F.ok S len hbody
theorem Fun.okB {x qual:Str} {st:Stmt} {f:Addr} {fd:FuncData} {N ps:List Str} {k:Nat} {sp:Sp} (F:Fun K x qual st f fd) (hbody : ∀ (cdv:Value) (A:Around) (outer:List Env) (s:Shared) (H:Hp) (vs:List V) (Q:VK) (E:XK),jeo k (A.deeper (envOfC qual (jt st) s.heap.objs.size f cdv)) -> sp vs H Q E ->
   ∃ t,PSs (jpv CX0 P w K mg base N qual (jt st) f cdv A outer s H E).nox (jbq st) t /\ t { nx:=λ_ H'=>Q .non H',rt:=Q } (start N vs) H) (S:autoParam (qj N ps (jt st)) aP8) (len:autoParam (∀ vs H Q E,sp vs H Q E -> vs.length = ps.length) aP6) : xo P w K mg base CX0 (k + 1) f fd ps sp:=F.ok S len hbody
theorem Fun.binds {x qual:Str} {st:Stmt} {f:Addr} {fd:FuncData} {ps:List Str} (F:Fun K x qual st f fd)
  (h : ∀ (kV doc pm:Value) (an:Option Addr) (cdv ct:Value) (us:List Value),us.length = ps.length -> bindArgs (PySem.W.fnOf x qual (jme st) (jbq st) (jt st) .none kV doc pm an cdv ct) ⟨us,[]⟩ = pure (ps.zip us)) : Binds K fd ps []:=by
 obtain ⟨oc,od,kV,doc,pm,an,cdv,ct,osl,rfl,lk,hcd⟩:=F.ex
 exact .all (h kV doc pm an cdv ct)
theorem jh {x qual:Str} {st:Stmt} {f:Addr} {oc:Value} {od an:Option Addr} {osl:Array (Option Value)} {kV doc pm cdv ct:Value} (l:K.lookup f = some ⟨oc,od,.func (PySem.W.fnOf x qual (jme st) (jbq st) (jt st) .none kV doc pm an cdv ct),osl⟩)
  (c:PySem.W.codeIn K cdv qual = true) (k:PySem.W.keepIn K (.ref f) = true) : Fun K x qual st f (PySem.W.fnOf x qual (jme st) (jbq st) (jt st) .none kV doc pm an cdv ct):=⟨⟨oc,od,kV,doc,pm,an,cdv,ct,osl,rfl,l,c⟩,k⟩
end
theorem jn3 {A:Around} {k:Nat} (hr:jeo k A) : A.units + 1 < cLine:=lt_of_le_of_lt (Nat.add_le_add_left (by decide : 1 <= 64) _) hr.units
theorem xa {n:Nat} (h:n <= 1000) : n < sizeLine:=lt_of_le_of_lt h (by decide)
section
variable {X:Cx}
theorem pv (i:Nat) {x:Str} {pos:Pos} (hN:autoParam (X.N[i]? = some x) aP1) (hv:Vis X.env.scope x:=by first | exact Or.inl rfl | exact Or.inr (Or.inl rfl) | exact Or.inr (Or.inr rfl)) (hd:autoParam ((x == ("__debug__" : Str)) = false) aP2)
  (hcd:autoParam ((x == ("__classdict__" : Str)) = false) aP2) : PE X (.Name x pos) (j7c i):=j4u hN hv hd hcd
end
theorem gq {A Bq:Prop} (h:Bq) : if false = true then A else Bq:=by
 rw [if_neg Bool.false_ne_true]
 exact h
theorem jlq {A Bq:Prop} (h:A) : if true = true then A else Bq:=by
 rw [if_pos rfl]
 exact h
theorem jhq {c A Bq:Prop} [Decidable c] (h1:c -> A) (h2 : ¬ c -> Bq) : if c then A else Bq:=by
 by_cases h:c
 .rw [if_pos h]
  exact h1 h
 .rw [if_neg h]
  exact h2 h
def gh (H H':Hp) : Prop:=∀ b o,H b = some o -> H' b = some o
theorem gh.refl (H:Hp) : gh H H:=λ_ _ h=>h
theorem gh.trans {H H1 H2:Hp} (a:gh H H1) (b:gh H1 H2) : gh H H2:=λc o h=>b c o (a c o h)
theorem gh.free {H H':Hp} (e:gh H H') {l:Addr} (h:H' l = Option.none) : H l = Option.none:=by
 cases q:H l with
 | none=>rfl
 | some o=>
  rw [e l o q] at h
  cases h
theorem gh.seq {K:PySem.W.Frag} {H H':Hp} {a:Addr} {xs:List V} (e:gh H H') (h:SqL K H a xs) : SqL K H' a xs:=by
 rcases h with (h | ⟨o,h⟩) | h
 .exact .inl (.inl (e _ _ h))
 .exact .inl (.inr ⟨o,e _ _ h⟩)
 .exact .inr h
end L2
namespace L2
open PySem PySem.Spec PyProof.Rows
section
variable {B : Type} [DecidableEq B]
def jgi (kvs:List (B × V)) (k : B) : Option V:=(kvs.find? λkv=>decide (kv.1 = k)).map (·.2)
def putK (kvs:List (B × V)) (k : B) (v:V) : List (B × V):=
 if (kvs.any λkv=>decide (kv.1 = k)) = true then kvs.map (λkv=>if kv.1 = k then (kv.1,v) else kv) else kvs ++ [(k,v)]
theorem jcf {p : B × V} {r:List (B × V)} {k : B} (e:p.1 = k) : jgi (p :: r) k = some p.2:=by simp [jgi,find?_cons,e]
theorem jci {p : B × V} {r:List (B × V)} {k : B} (e : ¬ p.1 = k) : jgi (p :: r) k = jgi r k:=by simp [jgi,find?_cons,e]
theorem jno (k : B) : ∀ kvs:List (B × V),(kvs.any λkv=>decide (kv.1 = k)) = (jgi kvs k).isSome
 | []=>rfl
 | p :: r=>by
  rw [any_cons]
  by_cases e:p.1 = k
  .simp only [jcf e,decide_eq_true e,Bool.true_or,Option.isSome_some]
  .rw [jci e,decide_eq_false e,Bool.false_or]; exact jno k r
theorem jdb (kvs:List (B × V)) (k : B) (v:V) : (putK kvs k v).length <= kvs.length + 1:=by
 unfold putK
 split
 .rw [length_map]; omega
 .rw [length_append,length_cons,List.length_nil]; omega
theorem jnj {kvs:List (B × V)} {k : B} (v:V) (h:jgi kvs k = none) : putK kvs k v = kvs ++ [(k,v)]:=by
 unfold putK
 rw [jno,h]
 exact if_neg (by decide)
theorem jrs.jho {o:Option V} {u:Option Value} (r:jrs o u) : o.isSome = u.isSome:=by
 cases o with
 | none=>cases u with
  | none=>rfl
  | some _=>exact (show False from r).elim
 | some _=>cases u with
  | none=>exact (show False from r).elim
  | some _=>rfl
theorem jrs.getD {o:Option V} {u:Option Value} {d:V} {d':Value} (r:jrs o u) (rd:RelV d d') : RelV (o.getD d) (u.getD d'):=by
 cases o with
 | none=>cases u with
  | none=>exact rd
  | some _=>exact (show False from r).elim
 | some _=>cases u with
  | none=>exact (show False from r).elim
  | some _=>exact r
theorem KV.val {kvs:List (B × V)} {vs:List (B × Value)} (r:KV kvs vs) (k : B) : jrs (jgi kvs k) (valueAt vs k):=by
 unfold KV at r
 induction r with
 | nil=>exact True.intro
 | @cons p q ps qs h t ih=>
  obtain ⟨h1,h2⟩:=h
  by_cases e:p.1 = k
  .have e':q.1 = k:=h1.symm.trans e
   have b:valueAt (q :: qs) k = some q.2:=by simp [valueAt,find?_cons,e']
   rw [jcf e,b]; exact h2
  .have e' : ¬ q.1 = k:=λz=>e (h1.trans z)
   have b:valueAt (q :: qs) k = valueAt qs k:=by simp [valueAt,find?_cons,e']
   rw [jci e,b]; exact ih
theorem KV.any {kvs:List (B × V)} {vs:List (B × Value)} (r:KV kvs vs) (k : B) : (kvs.any λkv=>decide (kv.1 = k)) = vs.any λkv=>decide (kv.1 = k):=by
 unfold KV at r
 induction r with
 | nil=>rfl
 | cons h t ih=>rw [any_cons,any_cons,ih,h.1]
theorem KV.j64 {kvs:List (B × V)} {vs:List (B × Value)} (r:KV kvs vs) (k : B) {y:V} {u:Value} (ry:RelV y u) :
  KV (kvs.map λkv=>if kv.1 = k then (kv.1,y) else kv) (vs.map λkv=>if kv.1 = k then (kv.1,u) else kv):=by
 unfold KV at r ⊢
 induction r with
 | nil=>exact .nil
 | @cons p q ps qs h t ih=>
  rw [map_cons,map_cons]
  refine .cons ?_ ih
  obtain ⟨h1,h2⟩:=h
  by_cases e:p.1 = k
  .rw [if_pos e,if_pos (h1.symm.trans e)]; exact ⟨h1,ry⟩
  .rw [if_neg e,if_neg (λz=>e (h1.trans z))]; exact ⟨h1,h2⟩
theorem KV.put {kvs:List (B × V)} {vs:List (B × Value)} (r:KV kvs vs) (k : B) {y:V} {u:Value} (ry:RelV y u) : KV (putK kvs k y) (stored vs k u):=by
 unfold putK stored
 rw [r.any k]
 by_cases e:(vs.any λkv=>decide (kv.1 = k)) = true
 .rw [if_pos e,if_pos e]; exact r.j64 k ry
 .rw [if_neg e,if_neg e]; exact Paired.snoc r ⟨rfl,ry⟩
theorem KV.length {kvs:List (B × V)} {vs:List (B × Value)} (r:KV kvs vs) : kvs.length = vs.length:=Paired.length r
end
theorem jub {P:Program} {w:World} {k:Key} {u:Value} (r:RelV (kV k) u) : (zf P w).is k u = true:=by
 cases k with
 | inl i=>obtain ⟨t,e⟩:=(show ∃ t,u = Value.int i t from r); subst e; exact jt5 P w i t
 | inr x=>obtain ⟨t,e⟩:=(show ∃ t,u = Value.str x t from r); subst e; exact jt7 P w x t
theorem jr4 {P:Program} {w:World} : ∀ {ks:List Key} {us:List Value},Vals (ks.map kV) us -> ItemsAre (zf P w) ks us
 | [],_,r=>by rw [map_nil] at r; cases r; exact .nil
 | k :: ks,_,r=>by
  rw [map_cons] at r
  cases r with
  | cons h t=>exact .cons (jub h) (jr4 t)
abbrev KT (H:Hp) : List (List Key × V) -> List (List Key × Addr × Value) -> Prop:=Paired λp q=>p.1 = q.1 /\ H q.2.1 = some (.tup (p.1.map kV)) /\ RelV p.2 q.2.2
theorem KT.val {H:Hp} {kvs:List (List Key × V)} {xs:List (List Key × Addr × Value)} (r:KT H kvs xs) (k:List Key) : jrs (jgi kvs k) ((atKey xs k).map (·.2)):=by
 induction r with
 | nil=>exact True.intro
 | @cons p q ps qs h t ih=>
  obtain ⟨h1,_,h2⟩:=h
  by_cases e:p.1 = k
  .have e':q.1 = k:=h1.symm.trans e
   have b:atKey (q :: qs) k = some q.2:=by simp [atKey,find?_cons,e']
   rw [jcf e,b]; exact h2
  .have e' : ¬ q.1 = k:=λz=>e (h1.trans z)
   have b:atKey (q :: qs) k = atKey qs k:=by simp [atKey,find?_cons,e']
   rw [jci e,b]; exact ih
theorem KT.j64 {H:Hp} {kvs:List (List Key × V)} {xs:List (List Key × Addr × Value)} (r:KT H kvs xs) (k:List Key) {y:V} {u:Value} (ry:RelV y u) :
  KT H (kvs.map λkv=>if kv.1 = k then (kv.1,y) else kv) (xs.map (putAt k u)):=by
 induction r with
 | nil=>exact .nil
 | @cons p q ps qs h t ih=>
  rw [map_cons,map_cons]
  refine .cons ?_ ih
  obtain ⟨h1,h2,h3⟩:=h
  unfold putAt
  by_cases e:p.1 = k
  .rw [if_pos e,if_pos (h1.symm.trans e)]; exact ⟨h1,h2,ry⟩
  .rw [if_neg e,if_neg (λz=>e (h1.trans z))]; exact ⟨h1,h2,h3⟩
theorem KT.put {H:Hp} {kvs:List (List Key × V)} {xs:List (List Key × Addr × Value)} (r:KT H kvs xs) (k:List Key) {b:Addr} {y:V} {u:Value} (hb:H b = some (.tup (k.map kV))) (ry:RelV y u) :
  KT H (putK kvs k y) (storedH xs k b u):=by
 have e:(kvs.any λkv=>decide (kv.1 = k)) = (atKey xs k).isSome:=by
  rw [jno,(r.val k).jho,Option.isSome_map]
 unfold putK storedH
 rw [e]
 by_cases q:(atKey xs k).isSome = true
 .rw [if_pos q,if_pos q]; exact r.j64 k ry
 .rw [if_neg q,if_neg q]; exact Paired.snoc r ⟨rfl,hb,ry⟩
theorem KT.keeps {H H':Hp} {kvs:List (List Key × V)} {xs:List (List Key × Addr × Value)} (r:KT H kvs xs) (ht : ∀ b ys,H b = some (.tup ys) -> H' b = some (.tup ys)) : KT H' kvs xs:=
 Paired.vb r λ_ _ z=>⟨z.1,ht _ _ z.2.1,z.2.2⟩
section
variable {P:Program} {w:World} {H:Hp} {h:Heap} {a:Addr}
theorem j3s {u:HO} (ok:HOk P w H h) (e:Rd H a u) : wo P w H h a u:=e.ok ok
theorem jtz {kvs:List (Key × V)} (ok:HOk P w H h) (e:Rd H a (.dK kvs)) : kvs.length <= sizeLine /\ (a == sysModules) = false /\ ∃ vs,KV kvs vs /\ h.DictOf (zf P w) a vs:=
 show wo P w H h a (.dK kvs) from j3s ok e
theorem j39 {kvs:List (Key × V)} (ok:HOk P w H h) (e:H a = some (.dK kvs)) : kvs.length <= sizeLine /\ (a == sysModules) = false /\ ∃ vs,KV kvs vs /\ h.DictOf (zf P w) a vs:=jtz ok (.inl e)
theorem jms {ks:List Key} (ok:HOk P w H h) (e:H a = some (.tup (ks.map kV))) : (tupleKind (zf P w)).is h ks a:=by
 obtain ⟨_,its,r,o,h1,h2,n,h3⟩:=(show wo P w H h a (.tup (ks.map kV)) from ok a _ e)
 exact ⟨o,its.toArray,n,h1,h2,h3,by simpa using jr4 r⟩
theorem jtr {kvs:List (List Key × V)} (ok:HOk P w H h) (e:Rd H a (.dT kvs)) : kvs.length <= sizeLine /\ (a == sysModules) = false /\
  ∃ xs,KT H kvs xs /\ h.DictOfH (tupleKind (zf P w)) a xs:=by
 obtain ⟨z,y,xs,r,o,es,ep,h1,h2,h3,h4,h5⟩:=(show wo P w H h a (.dT kvs) from j3s ok e)
 refine ⟨z,y,xs,r,o,es,ep,h1,h2,h3,h4,λx hx=>?_,h5⟩
 have all : ∀ {l:List (List Key × V)} {m:List (List Key × Addr × Value)},KT H l m -> ∀ x ∈ m,(tupleKind (zf P w)).is h x.1 x.2.1:=by
  intro l m q
  induction q with
  | nil=>intro x hx; exact nomatch hx
  | @cons p q ps qs hq t ih=>
   intro x hx
   rcases mem_cons.mp hx with e | hx
   .subst e
    exact jms ok (by rw [<- hq.1]; exact hq.2.1)
   .exact ih x hx
 exact all r x hx
theorem j2l {kvs:List (List Key × V)} (ok:HOk P w H h) (e:H a = some (.dT kvs)) : kvs.length <= sizeLine /\ (a == sysModules) = false /\
  ∃ xs,KT H kvs xs /\ h.DictOfH (tupleKind (zf P w)) a xs:=jtr ok (.inl e)
end
def jz2 (H:Hp) (a:Addr) (y:V) (r:Option V) : Prop:=
 (∃ kvs k,Rd H a (.dK kvs) /\ y = kV k /\ r = jgi kvs k) \/ ∃ kvs k b,Rd H a (.dT kvs) /\ y = .ref b /\ H b = some (.tup (k.map kV)) /\ r = jgi kvs k
def jwf (H:Hp) (a:Addr) (y v:V) (H':Hp) : Prop:=
 (∃ kvs k,H a = some (.dK kvs) /\ y = kV k /\ kvs.length < sizeLine /\ H' = upd H a (.dK (putK kvs k v))) \/
 ∃ kvs k b,H a = some (.dT kvs) /\ y = .ref b /\ H b = some (.tup (k.map kV)) /\ kvs.length < sizeLine /\ H' = upd H a (.dT (putK kvs k v))
theorem jwf.k {H:Hp} {a:Addr} {kvs:List (Key × V)} {k:Key} {v:V} (e:H a = some (.dK kvs)) (hl:kvs.length < sizeLine) : jwf H a (kV k) v (upd H a (.dK (putK kvs k v))):=.inl ⟨kvs,k,e,rfl,hl,rfl⟩
theorem jwf.t {H:Hp} {a b:Addr} {kvs:List (List Key × V)} {k:List Key} {v:V} (e:H a = some (.dT kvs)) (eb:H b = some (.tup (k.map kV))) (hl:kvs.length < sizeLine) :
  jwf H a (.ref b) v (upd H a (.dT (putK kvs k v))):=.inr ⟨kvs,k,b,e,rfl,eb,hl,rfl⟩
section
variable {X:Cx} {pins:List (Addr × Obj)} {U : St} {H:Hp} {s:Shared} {a:Addr} {y v:V} {u r:Value} {o:Option V} {A:Around} {E:Value -> Shared -> Prop}
theorem Inv.big (I:Inv X pins U H s) : sysModules < s.heap.objs.size:=by
 have h:mainGlobals < s.heap.objs.size:=(I.mod.glob.keeps I.bk).lt
 exact Nat.lt_trans (by decide) h
theorem jwx {Q:Value -> Shared -> Prop} (hu:A.units + 1 < cLine) (I:Inv X pins U H s) (g:jz2 H a y (some v)) (ry:RelV y u) (h : ∀ w' s',Inv X pins U H s' -> RelV v w' -> Q w' s') :
  wpAny (model X.prog X.w) A (getItem (.ref a) u) Q E s:=by
 rcases g with ⟨kvs,k,e,ey,l⟩ | ⟨kvs,k,b,e,ey,eb,l⟩
 .subst ey
  obtain ⟨z,hd,vs,rel,dd⟩:=jtz I.hok e
  obtain ⟨w',hw,rw'⟩:=jrs.some_of (v:=v) (o:=valueAt vs k) (by rw [l]; exact rel.val k)
  exact wpAny_getItem_of (jub ry) dd.mapOf hw (h w' _ (I.tok _) rw')
 .subst ey
  cases (show u = Value.ref b from ry)
  obtain ⟨z,hd,xs,rel,dd⟩:=jtr I.hok e
  obtain ⟨w',hw,rw'⟩:=jrs.some_of (v:=v) (o:=(atKey xs k).map (·.2)) (by rw [l]; exact rel.val k)
  obtain ⟨p,hp,hp2⟩:=Option.map_eq_some_iff.mp hw
  refine wpAny_getItem_heap (tupleKind_room_in1 hu) (jms I.hok eb) dd hp ?_
  rw [hp2]
  exact h w' _ (I.tok _) rw'
theorem j7x {Q:Value -> Shared -> Prop} (hu:A.units + 1 < cLine) (I:Inv X pins U H s) (g:jz2 H a y o) (ry:RelV y u) (h : ∀ s',Inv X pins U H s' -> Q (.bool o.isSome) s') :
  wpAny (model X.prog X.w) A (compareOp .In u (.ref a)) Q E s:=by
 rcases g with ⟨kvs,k,e,ey,l⟩ | ⟨kvs,k,b,e,ey,eb,l⟩
 .subst ey
  obtain ⟨z,hd,vs,rel,dd⟩:=jtz I.hok e
  refine wpAny_in_of (jub ry) hd dd.mapOf ?_
  rw [<- (rel.val k).jho,<- l]
  exact h _ (I.tok _)
 .subst ey
  cases (show u = Value.ref b from ry)
  obtain ⟨z,hd,xs,rel,dd⟩:=jtr I.hok e
  refine wpAny_in_heap (tupleKind_room_in1 hu) (jms I.hok eb) hd dd ?_
  have q:=(rel.val k).jho
  rw [Option.isSome_map] at q
  rw [<- q,<- l]
  exact h _ (I.tok _)
theorem j2x {Q:Value -> Shared -> Prop} (hu:A.units + 1 < cLine) (I:Inv X pins U H s) (g:jz2 H a y o) (ry:RelV y u) (h : ∀ s',Inv X pins U H s' -> Q (.bool (!o.isSome)) s') :
  wpAny (model X.prog X.w) A (compareOp .NotIn u (.ref a)) Q E s:=by
 rcases g with ⟨kvs,k,e,ey,l⟩ | ⟨kvs,k,b,e,ey,eb,l⟩
 .subst ey
  obtain ⟨z,hd,vs,rel,dd⟩:=jtz I.hok e
  refine wpAny_notIn_of (jub ry) hd dd.mapOf ?_
  rw [<- (rel.val k).jho,<- l]
  exact h _ (I.tok _)
 .subst ey
  cases (show u = Value.ref b from ry)
  obtain ⟨z,hd,xs,rel,dd⟩:=jtr I.hok e
  refine wpAny_notIn_heap (tupleKind_room_in1 hu) (jms I.hok eb) hd dd ?_
  have q:=(rel.val k).jho
  rw [Option.isSome_map] at q
  rw [<- q,<- l]
  exact h _ (I.tok _)
theorem joo {h':Heap} {t':Nat} {ob:HO} (I:Inv X pins U H s) (mu:Mut (H a)) (hs:Heap.SameBut a s.heap h') (he : ∃ q,h'.get? a = some q) (new:wo X.prog X.w (upd H a ob) h' a ob) :
  Inv X pins U (upd H a ob) { s with heap:=h',toks:=t' }:=
 I.write (x:=a) (e:=a) mu (.inl rfl) (λb q hb z=>(hs.2 b hb).trans z) he new
theorem j05 {P:Program} {w:World} {H':Hp} {h':Heap} {kvs:List (Key × V)} {vs:List (Key × Value)} (z:kvs.length <= sizeLine) (hd:(a == sysModules) = false) (rel:KV kvs vs) (dd:h'.DictOf (zf P w) a vs) :
  wo P w H' h' a (.dK kvs):=⟨z,hd,vs,rel,dd⟩
theorem jyl {H':Hp} {Q:Unit -> Shared -> Prop} (hu:A.units + 1 < cLine) (I:Inv X pins U H s) (g:jwf H a y v H') (ry:RelV y u) (rv:RelV v r) (h : ∀ s',Inv X pins U H' s' -> Q () s') :
  wpAny (model X.prog X.w) A (setItem (.ref a) u r) Q E s:=by
 rcases g with ⟨kvs,k,e,ey,l,eH⟩ | ⟨kvs,k,b,e,ey,eb,l,eH⟩
 .subst ey eH
  obtain ⟨z,hd,vs,rel,dd⟩:=j39 I.hok e
  have hz:vs.length <= sizeLine:=by rw [<- rel.length]; exact z
  have hl:(putK kvs k v).length <= sizeLine:=by have:=jdb kvs k v; omega
  refine wpAny_setItem_pairs (hsz:=hz) (jub ry) dd λh' dd' hs=>h _ ?_
  have he : ∃ q,h'.get? a = some q:=let ⟨q,_,_,hq,_⟩:=dd'; ⟨q,hq⟩
  exact joo I (by rw [e]; exact True.intro) hs he (j05 hl hd (rel.put k rv) dd')
 .subst ey eH
  cases (show u = Value.ref b from ry)
  obtain ⟨z,hd,xs,rel,dd⟩:=j2l I.hok e
  have hz:xs.length <= sizeLine:=by rw [<- Paired.length rel]; exact z
  have hl:(putK kvs k v).length <= sizeLine:=by have:=jdb kvs k v; omega
  refine wpAny_setItem_heap (hsz:=hz) (tupleKind_room_in1 hu) (jms I.hok eb) dd λh' dd' hs=>h _ ?_
  obtain ⟨q,es,ep,hq,h2,h3,h4,_,h5⟩:=dd'
  refine joo I (by rw [e]; exact True.intro) hs ⟨q,hq⟩ ⟨hl,hd,_,(rel.put k eb rv).keeps λc ys ec=>?_,q,es,ep,hq,h2,h3,h4,h5⟩
  rw [je (jly ec e (λz=>nomatch z))]
  exact ec
end
section
variable {X:Cx} {pins:List (Addr × Obj)} {U : St} {H:Hp} {s:Shared} {a:Addr} {kvs:List (Key × V)} {k:Key} {u:Value} {A:Around} {E:Value -> Shared -> Prop}
end
def j7h (i:Expr) : Prop:=∀ ov iv,subscripted i false ov iv = operate [ov,iv] (getItem ov iv)
theorem j1u {prog:Program} {w:World} {A:Around} {E:Value -> Shared -> Prop} {s:Shared} {env:Env} {value slice:Expr} {pos:Pos} {T id:String} {Q:Value -> Shared -> Prop}
  (hl:typeLookup (.type T) "__getitem__" = pure (some (.builtin id))) (hs:j7h slice)
  (h:wpAny (model prog w) A (eval value env) (λo s₁=>wpAny (model prog w) A (eval slice env) (λi s₂=>s₂.TypeIs o T /\ wpAny (model prog w) A (getItem o i) Q E s₂) E s₁) E s) :
  wpAny (model prog w) A (eval (.Subscript value slice pos) env) Q E s:=by
 refine Subscript_ (wpAny_mono h (λo s₁ h₁=>wpAny_mono h₁ (λi s₂ h₂=>?_) λ_ _ x=>x) λ_ _ x=>x)
 obtain ⟨hT,h₂⟩:=h₂
 unfold subscriptTail
 refine wpAny_bind ?_
 rw [getitemInPython_of_ne hT.not_modules]
 refine wpAny_bind (wpAny_specialOf hT hl ?_)
 have fin:wpAny (model prog w) A (subscripted slice false o i) (λr s₃=>wpAny (model prog w) A (letTemporaryGo value o r >>= λ_=>pure r) Q E s₃) E s₂:=by
  rw [hs o i]
  exact wpAny_operating (wpAny_mono h₂ (λr s₃ h₃=>wpAny_bind (wpAny_letTemporaryGo (wpAny_pure h₃))) λ_ _ x=>x)
 first
  | exact wpAny_pure (wpAny_bind fin)
  | exact wpAny_bind (wpAny_pure (wpAny_bind fin))
  | exact wpAny_bind fin
theorem jtx {X:Cx} {pins:List (Addr × Obj)} {U : St} {H:Hp} {s:Shared} {a:Addr} {y:V} {o:Option V} (I:Inv X pins U H s) (g:jz2 H a y o) : s.TypeIs (.ref a) "dict" := by
 rcases g with ⟨kvs,k,e,_,_⟩ | ⟨kvs,k,b,e,_,_,_⟩
 .obtain ⟨_,_,vs,_,dd⟩:=jtz I.hok e
  exact dd.typeIs
 .obtain ⟨_,_,xs,_,dd⟩:=jtr I.hok e
  exact dd.typeIs
def j5t (td ty:TE) : TE:=λU H Q=>td U H λx H1=>ty U H1 λy H2=>∃ a v,x = .ref a /\ jz2 H2 a y (some v) /\ Q v H2
def j8k (ty td:TE) : TE:=λU H Q=>ty U H λy H1=>td U H1 λx H2=>∃ a o,x = .ref a /\ jz2 H2 a y o /\ Q (.bl o.isSome) H2
def j22 (ty td:TE) : TE:=λU H Q=>ty U H λy H1=>td U H1 λx H2=>∃ a o,x = .ref a /\ jz2 H2 a y o /\ Q (.bl (!o.isSome)) H2
def j6y (td ty tv:TE) : TS:=λD U H=>tv U H λv H1=>td U H1 λx H2=>ty U H2 λy H3=>∃ a H4,x = .ref a /\ jwf H3 a y v H4 /\ D.nx U H4
section
variable {X:Cx} {o i e value:Expr} {pos pos' tpos:Pos} {td ty tv:TE}
theorem jwv (hu:X.A.units + 1 < cLine) (ho:PE X o td) (hi:PE X i ty) (hs:j7h i) : PE X (.Subscript o i pos) (j5t td ty):=by
 intro pins s U H Q I h
 refine j1u PySem.F.slot_dict_getitem.lookup hs (thn (ho pins s U H _ I h) λu s1 ⟨x,H1,I1,rx,q1⟩=>thn (hi pins s1 U H1 _ I1 q1) λiv s2 ⟨y,H2,I2,ry,a,v,ex,g,q2⟩=>?_)
 subst ex
 obtain rfl:u = Value.ref a:=rx
 exact ⟨jtx I2 g,jwx hu I2 g ry λw' s3 I3 rw'=>⟨v,H2,I3,rw',q2⟩⟩
theorem j3k (hu:X.A.units + 1 < cLine) (hi:PE X i ty) (ho:PE X o td) : PC X .In i o (j8k ty td):=by
 intro pins s U H Q I h
 refine thn (hi pins s U H _ I h) λiv s1 ⟨y,H1,I1,ry,q1⟩=>thn (ho pins s1 U H1 _ I1 q1) λu s2 ⟨x,H2,I2,rx,a,ov,ex,g,q2⟩=>?_
 subst ex
 obtain rfl:u = Value.ref a:=rx
 exact j7x hu I2 g ry λs3 I3=>⟨.bl ov.isSome,H2,I3,rfl,q2⟩
theorem jph (hu:X.A.units + 1 < cLine) (hi:PE X i ty) (ho:PE X o td) : PC X .NotIn i o (j22 ty td):=by
 intro pins s U H Q I h
 refine thn (hi pins s U H _ I h) λiv s1 ⟨y,H1,I1,ry,q1⟩=>thn (ho pins s1 U H1 _ I1 q1) λu s2 ⟨x,H2,I2,rx,a,ov,ex,g,q2⟩=>?_
 subst ex
 obtain rfl:u = Value.ref a:=rx
 exact j2x hu I2 g ry λs3 I3=>⟨.bl (!ov.isSome),H2,I3,rfl,q2⟩
theorem jxp (hu:X.A.units + 1 < cLine) (ho:PE X o td) (hi:PE X i ty) (hv:PE X value tv) (hs:swapsWith value (some (.Subscript o i pos')) pos.line X.env = pure false) :
  PS X (.Assign [.Subscript o i pos'] value pos) (j6y td ty tv):=by
 intro pins s U H D I h
 refine wpAny_Assign_Subscript (thn (hv pins s U H _ I h) λr s1 ⟨v,H1,I1,rv,q1⟩=>thn (ho pins s1 U H1 _ I1 q1) λu s2 ⟨x,H2,I2,rx,q2⟩=>thn (hi pins s2 U H2 _ I2 q2) λiv s3 ⟨y,H3,I3,ry,a,H4,ex,g,q3⟩=>?_) hs
 subst ex
 obtain rfl:u = Value.ref a:=rx
 exact jyl hu I3 g ry rv λs4 I4=>⟨U,H4,I4,q3⟩
end
theorem jza {P:Program} {w:World} {H:Hp} (h:Heap) (hb:sysModules < h.objs.size) : wo P w H (h.push { cls:=.type "dict",data:=.dict #[] }) h.objs.size (.dK []):=
 ⟨zero_le _,beq_eq_false_iff_ne.mpr (Ne.symm (ne_of_lt hb)),[],.nil,Heap.DictOf.new h⟩
theorem juo {P:Program} {w:World} {H:Hp} (h:Heap) (hb:sysModules < h.objs.size) : wo P w H (h.push { cls:=.type "dict",data:=.dict #[] }) h.objs.size (.dT []):=
 ⟨zero_le _,beq_eq_false_iff_ne.mpr (Ne.symm (ne_of_lt hb)),[],.nil,_,#[],0,Heap.get?_push_size _ rfl,⟨rfl,rfl,rfl⟩,rfl,rfl,nodup_nil⟩
def j4g:TE:=λ_ H Q=>∀ p,H p = none -> Q (.ref p) (upd H p (.dT []))
section
variable {X:Cx} {pos:Pos}
theorem jrb:PE X (.Dict [] [] pos) j4g:=λpins s U H Q I h=>
 wpAny_Dict_empty ⟨.ref s.heap.objs.size,_,I.laid (a:=s.heap.objs.size) (o:=.dT []) (t':=s.toks) (λ_ _ q=>Heap.get?_push_of_some _ q) (le_refl _) (juo s.heap I.big),rfl,h _ (I.hok.fresh (le_refl _))⟩
end
structure M2 (X:Cx) (o:Expr) (m:Str) (apos:Pos) (e f:Expr) (cpos:Pos) : Prop where
 base:attributeBase o m X.env (eval o X.env) = eval o X.env
 few:((backTo cpos (starEach [e,f] X.env)).all (λx=>!x.1) && (backToKw cpos (keywordEach [] X.env)).all (λx=>x.1.isSome)
  && decide (([e,f] : List Expr).length + ([] : List Keyword).length + (if ([] : List Keyword).isEmpty then 0 else 1) < 30)) = true
 line:(apos.endLine == cpos.line) = true
 trees:backTo cpos (starEach [e,f] X.env) = [(false,eval e X.env),(false,eval f X.env)]
def IsD (H:Hp) (a:Addr) : Prop:=(∃ kvs,Rd H a (.dK kvs)) \/ ∃ kvs,Rd H a (.dT kvs)
theorem j0t {X:Cx} {pins:List (Addr × Obj)} {U : St} {H:Hp} {s:Shared} {a:Addr} (I:Inv X pins U H s) (d:IsD H a) :
  s.TypeIs (.ref a) "dict" /\ (∀ b,Value.ref a = .ref b -> ∃ ob,s.heap.get? b = some ob /\ ob.dict = none) /\ (a == sysModules) = false:=by
 rcases d with ⟨kvs,e⟩ | ⟨kvs,e⟩
 .obtain ⟨_,hd,vs,_,dd⟩:=jtz I.hok e
  refine ⟨dd.typeIs,λb q=>?_,hd⟩
  cases q
  obtain ⟨ob,_,_,h1,h2,_⟩:=dd
  exact ⟨ob,h1,h2.2.1⟩
 .obtain ⟨_,hd,xs,_,dd⟩:=jtr I.hok e
  refine ⟨dd.typeIs,λb q=>?_,hd⟩
  cases q
  obtain ⟨ob,_,_,h1,h2,_⟩:=dd
  exact ⟨ob,h1,h2.2.1⟩
section
variable {X:Cx} {pins:List (Addr × Obj)} {U : St} {H:Hp} {s:Shared} {a:Addr} {y d:V} {u r:Value} {o:Option V} {A:Around} {E:Value -> Shared -> Prop}
theorem j4d {Q:Value -> Shared -> Prop} (hu:A.units + 1 < cLine) (I:Inv X pins U H s) (g:jz2 H a y o) (ry:RelV y u) (rd:RelV d r) (h : ∀ w' s',Inv X pins U H s' -> RelV (o.getD d) w' -> Q w' s') :
  wpAny (model X.prog X.w) A (call (.builtin "dict.get") [.ref a,u,r]) Q E s:=by
 rcases g with ⟨kvs,k,e,ey,l⟩ | ⟨kvs,k,b,e,ey,eb,l⟩
 .subst ey
  obtain ⟨z,hd,vs,rel,dd⟩:=jtz I.hok e
  refine call_meetsIn PySem.F.slot_dict_get dd.typeIs PySem.F.entry_dict_get (PySem.F.args_dict_get_3 _ _ _) (meets_dict_get_default (zf X.prog X.w) a (jub ry) hd r) ⟨_,dd.mapOf,h _ _ (I.tok _) ?_⟩
  rw [l]
  exact (rel.val k).getD rd
 .subst ey
  cases (show u = Value.ref b from ry)
  obtain ⟨z,hd,xs,rel,dd⟩:=jtr I.hok e
  refine call_meetsIn PySem.F.slot_dict_get dd.typeIs PySem.F.entry_dict_get (PySem.F.args_dict_get_3 _ _ _) (meetsH_dict_get_default (tupleKind (zf X.prog X.w)) a b hd r) ⟨tupleKind_room_in1 hu,k,xs,jms I.hok eb,dd,h _ _ (I.tok _) ?_⟩
  rw [l]
  exact (rel.val k).getD rd
end
def j4j (td ty tx:TE) : TE:=λU H Q=>td U H λx H1=>∃ a,x = .ref a /\ IsD H1 a /\ ty U H1 λy H2=>tx U H2 λz H3=>∃ o,jz2 H3 a y o /\ Q (o.getD z) H3
section
variable {X:Cx} {o e f:Expr} {apos cpos:Pos} {td ty tx:TE}
theorem jy6 (hu:X.A.units + 1 < cLine) (ho:PE X o td) (he:PE X e ty) (hf:PE X f tx) (m:M2 X o "get" apos e f cpos) : PE X (.Call (.Attribute o "get" apos) [e,f] [] cpos) (j4j td ty tx):=by
 intro pins s U H Q I h
 refine wpAny_Call_method m.base m.few m.line PySem.F.plainAttrs_dict PySem.F.slot_dict_get PySem.F.type_dict_get (thn (ho pins s U H _ I h) λu s1 ⟨x,H1,I1,rx,a,ex,d,q1⟩=>?_)
 subst ex
 obtain rfl:u = Value.ref a:=rx
 obtain ⟨t1,t2,_⟩:=j0t I1 d
 refine ⟨t1,t2,?_⟩
 rw [m.trees]
 refine Calls.callWith_builtin rfl (Calls.evalArgs_plain (Calls.spliced_cons (thn (he pins s1 U H1 _ I1 q1) λiv s2 ⟨y,H2,I2,ry,q2⟩=>
  Calls.spliced_cons (thn (hf pins s2 U H2 _ I2 q2) λfv s3 ⟨z,H3,I3,rz,ov,g,q3⟩=>Calls.spliced_nil ?_))))
 exact j4d hu I3 g ry rz λw' s4 I4 rw'=>⟨_,H3,I4,rw',q3⟩
end
section
variable {X:Cx} {pins:List (Addr × Obj)} {U : St} {H:Hp} {s:Shared} {a:Addr} {kvs:List (Key × V)} {A:Around} {E:Value -> Shared -> Prop}
end
section
variable {X:Cx} {pins:List (Addr × Obj)} {U : St} {H:Hp} {s:Shared} {a:Addr} {y:V} {u:Value} {A:Around} {E:Value -> Shared -> Prop}
end
end L2
namespace Att
open PySem PySem.W PySem.Calls PyProof.Rows
section
variable {prog:Program} {w:World} {A:Around} {E:Value -> Shared -> Prop} {s:Shared} {K:Frag}
end
end Att
namespace L2
open PySem PySem.Spec PyProof.Rows
end L2
namespace L2
open PySem PySem.Spec PyProof.Rows
end L2
namespace L2
open PySem PySem.Spec PyProof.Rows
section
variable {P:Program} {w:World} {K:PySem.W.Frag} {mg:Str -> Option Value} {base:Heap}
end
section
variable {X:Cx}
end
section
variable {B : Type} [DecidableEq B]
theorem j1p {kvs:List (B × V)} {k : B} {v:V} (h:jgi kvs k = some v) : k ∈ kvs.map (·.1):=by
 have q:(kvs.any λkv=>decide (kv.1 = k)) = true:=by
  rw [jno,h]
  all_goals rfl
 obtain ⟨p,hp,e⟩:=List.any_eq_true.mp q
 exact mem_map.mpr ⟨p,hp,of_decide_eq_true e⟩
end
end L2
namespace L2
open PySem PySem.Spec PyProof.Rows
def jwa (scope:Scope) (env:Env) : List (Str × Addr):=
 (scope.names.filterMap λp=>if p.2 = NameKind.free then (env.cells.lookup p.1).map λc=>(p.1,c) else none).reverse
theorem jht {α : Type} {x:Str} {c : α} : ∀ {l:List (Str × α)},l.lookup x = some c -> (x,c) ∈ l
 | [],h=>by simp at h
 | (y,d) :: r,h=>by
  rw [lookup_cons] at h
  cases e:x == y with
  | true=>
   rw [e] at h
   have h':d = c:=Option.some.inj h
   rw [h',eq_of_beq e]
   exact mem_cons_self
  | false=>
   rw [e] at h
   exact mem_cons_of_mem _ (jht h)
theorem jmq {α : Type} {x:Str} {c : α} : ∀ {l:List (Str × α)},(x,c) ∈ l -> ∃ d,l.lookup x = some d
 | [],h=>by simp at h
 | (y, d) :: r,h=>by
  rw [lookup_cons]
  cases e:x == y with
  | true=>exact ⟨d,rfl⟩
  | false=>
   rcases mem_cons.mp h with z | z
   .have z1:x = y:=congrArg Prod.fst z
    rw [z1,beq_self_eq_true] at e
    cases e
   .exact jmq z
theorem jug {scope:Scope} {env:Env} {x:Str} {c:Addr} : (x,c) ∈ jwa scope env ↔ (x,NameKind.free) ∈ scope.names /\ env.cells.lookup x = some c:=by
 unfold jwa
 rw [List.mem_reverse,mem_filterMap]
 constructor
 .rintro ⟨⟨y,k⟩,hm,e⟩
  by_cases hk:k = NameKind.free
  .subst hk
   rw [if_pos rfl] at e
   cases q:env.cells.lookup y with
   | none=>rw [q] at e; cases e
   | some d=>
    rw [q] at e
    have e':(y,d) = (x,c):=Option.some.inj e
    cases e'
    exact ⟨hm,q⟩
  .rw [if_neg hk] at e
   cases e
 .rintro ⟨hm,q⟩
  exact ⟨(x,NameKind.free),hm,by rw [if_pos rfl]; rw [q]; rfl⟩
theorem jaa {scope:Scope} {env:Env} {x:Str} {c:Addr} (h:(jwa scope env).lookup x = some c) : env.cells.lookup x = some c:=(jug.mp (jht h)).2
theorem jrk {scope:Scope} {env:Env} {x:Str} {c:Addr} (hm:(x,NameKind.free) ∈ scope.names) (h:env.cells.lookup x = some c) : (jwa scope env).lookup x = some c:=by
 obtain ⟨d,e⟩:=jmq (jug.mpr ⟨hm,h⟩)
 rw [e,<- h]
 exact (jaa e).symm
theorem jlg {env:Env} : ∀ (names:List (Str × NameKind)) (cs:List (Str × Addr)),(∀ p ∈ names,p.2 = .free -> ∃ c,env.cells.lookup p.1 = some c) ->
  (forIn names cs λ(x:Str × NameKind) (cs:List (Str × Addr))=>(match x with
   | (name,kind)=>if (kind == .free) = true then (do let a <- cellOf env name; pure (ForInStep.yield ((name,a) :: cs))) else pure (ForInStep.yield cs) : Sem (ForInStep (List (Str × Addr)))))
   = pure ((names.filterMap λp=>if p.2 = NameKind.free then (env.cells.lookup p.1).map λc=>(p.1,c) else none).reverse ++ cs)
 | [],cs,_=>rfl
 | (n,k) :: r,cs,h=>by
  rw [List.forIn_cons]
  have hr : ∀ p ∈ r,p.2 = .free -> ∃ c,env.cells.lookup p.1 = some c:=λp hp=>h p (mem_cons_of_mem _ hp)
  by_cases hk:k = NameKind.free
  .subst hk
   obtain ⟨c,hc⟩:=h (n,.free) mem_cons_self rfl
   have e1:cellOf env n = pure c:=by unfold cellOf; rw [show env.cells.lookup n = some c from hc]
   show ((do let a <- cellOf env n; pure (ForInStep.yield ((n,a) :: cs)) : Sem (ForInStep (List (Str × Addr)))) >>= _) = _
   rw [e1]
   simp only [pure_bind]
   rw [jlg r ((n,c) :: cs) hr,filterMap_cons,if_pos rfl,show env.cells.lookup n = some c from hc]
   simp
  .have hb:(k == NameKind.free) = false:=by simpa using hk
   show ((if (k == NameKind.free) = true then (do let a <- cellOf env n; pure (ForInStep.yield ((n,a) :: cs))) else pure (ForInStep.yield cs) : Sem (ForInStep (List (Str × Addr)))) >>= _) = _
   rw [hb,if_neg Bool.false_ne_true]
   simp only [pure_bind]
   rw [jlg r cs hr,filterMap_cons,if_neg hk]
theorem jwe {scope:Scope} {env:Env} (h : ∀ p ∈ scope.names,p.2 = .free -> ∃ c,env.cells.lookup p.1 = some c) : closureFor scope env = pure (jwa scope env):=by
 have e:=jlg scope.names [] h
 rw [append_nil] at e
 unfold closureFor jwa
 simp only [bind_pure]
 exact e
theorem gs {env:Env} {x:Str} : ∀ {names:List (Str × NameKind)} {k:NameKind},
  (names.map λ(n,k)=>if (k == NameKind.free && env.scope.kind == .function && env.kindOf n == some .cell) then (n,NameKind.cell) else (n,k)).lookup x = some k ->
   ∃ k',(x,k') ∈ names /\ (k' = k \/ (k' = .free /\ k = .cell))
 | [],_,h=>by simp at h
 | (n, j) :: r,k,h=>by
  by_cases hc:(j == NameKind.free && env.scope.kind == .function && env.kindOf n == some .cell) = true
  .rw [map_cons] at h
   have h':List.lookup x ((if (j == NameKind.free && env.scope.kind == .function && env.kindOf n == some .cell) = true then (n,NameKind.cell) else (n,j)) :: _) = some k:=h
   rw [if_pos hc,lookup_cons] at h'
   cases e:x == n with
   | true=>
    rw [e] at h'
    have h2:NameKind.cell = k:=Option.some.inj h'
    have hj:j = NameKind.free:=by
     have:=hc
     rw [Bool.and_eq_true,Bool.and_eq_true] at this
     exact eq_of_beq this.1.1
    exact ⟨j,by rw [eq_of_beq e]; exact mem_cons_self,.inr ⟨hj,h2.symm⟩⟩
   | false=>
    rw [e] at h'
    obtain ⟨k',hm,q⟩:=gs h'
    exact ⟨k',mem_cons_of_mem _ hm,q⟩
  .rw [map_cons] at h
   have h':List.lookup x ((if (j == NameKind.free && env.scope.kind == .function && env.kindOf n == some .cell) = true then (n,NameKind.cell) else (n,j)) :: _) = some k:=h
   rw [if_neg hc,lookup_cons] at h'
   cases e:x == n with
   | true=>
    rw [e] at h'
    exact ⟨j,by rw [eq_of_beq e]; exact mem_cons_self,.inl (Option.some.inj h')⟩
   | false=>
    rw [e] at h'
    obtain ⟨k',hm,q⟩:=gs h'
    exact ⟨k',mem_cons_of_mem _ hm,q⟩
def j09 (N:List Str) (sc scope:Scope) (N':List Str) (ix:List (Option Nat)) : Bool:=
 scope.kind == .function && scope.names.all (λy=>y.2 != .cell) && scope.names.all (λy=>y.2 != .local || scope.names.lookup y.1 == some .local) &&
 scope.names.all (λy=>y.2 != .free || sc.names.lookup y.1 == some .cell || sc.names.lookup y.1 == some .free) &&
 decide (ix.length = N'.length) && decide N'.Nodup &&
 (N'.zip ix).all λp=>match p.2 with
  | none=>scope.names.all λy=>y.1 != p.1 || y.2 == .local
  | some k=>N[k]? == some p.1 && scope.names.lookup p.1 == some .free && scope.names.all λy=>y.1 != p.1 || y.2 == .free
structure jio (N:List Str) (sc scope:Scope) (N':List Str) (ix:List (Option Nat)) : Prop where
 kind:scope.kind = .function
 jw3 : ∀ y ∈ scope.names,y.2 ≠ .cell
 names : ∀ y ∈ scope.names,y.2 = .local -> scope.names.lookup y.1 = some .local
 frees : ∀ y ∈ scope.names,y.2 = .free -> sc.names.lookup y.1 = some .cell \/ sc.names.lookup y.1 = some .free
 len:ix.length = N'.length
 nd:N'.Nodup
 own : ∀ (i:Nat) (x:Str),N'[i]? = some x -> ix[i]? = some none -> ∀ y ∈ scope.names,y.1 = x -> y.2 = .local
 out : ∀ (i:Nat) (x:Str) (k:Nat),N'[i]? = some x -> ix[i]? = some (some k) -> N[k]? = some x /\ (x,NameKind.free) ∈ scope.names /\ ∀ y ∈ scope.names,y.1 = x -> y.2 = .free
theorem x8 {N:List Str} {sc scope:Scope} {N':List Str} {ix:List (Option Nat)} (h:j09 N sc scope N' ix = true) : jio N sc scope N' ix:=by
 unfold j09 at h
 simp only [Bool.and_eq_true,all_eq_true,Bool.or_eq_true,bne_iff_ne,beq_iff_eq,decide_eq_true_eq,ne_eq] at h
 obtain ⟨⟨⟨⟨⟨⟨h1,h2⟩,h3⟩,h4⟩,h5⟩,h6⟩,h7⟩:=h
 have zipAt : ∀ {i:Nat} {x:Str} {o:Option Nat},N'[i]? = some x -> ix[i]? = some o -> (x,o) ∈ N'.zip ix:=λ{i x o} a b=>by
  refine mem_of_getElem? (i:=i) ?_
  rw [List.getElem?_zip_eq_some]
  exact ⟨a,b⟩
 refine ⟨h1,λy hy=>h2 y hy,λy hy e=>?_,λy hy e=>?_,h5,h6,λi x a b y hy e=>?_,λi x k a b=>?_⟩
 .rcases h3 y hy with z | z
  .exact absurd e z
  .exact z
 .rcases h4 y hy with (z | z) | z
  .exact absurd e z
  .exact .inl z
  .exact .inr z
 .have q:=h7 _ (zipAt a b)
  simp only [all_eq_true,Bool.or_eq_true,bne_iff_ne,beq_iff_eq,ne_eq] at q
  rcases q y hy with z | z
  .exact absurd e z
  .exact z
 .have q:=h7 _ (zipAt a b)
  simp only [Bool.and_eq_true,all_eq_true,Bool.or_eq_true,bne_iff_ne,beq_iff_eq,ne_eq] at q
  obtain ⟨⟨q1,q2⟩,q3⟩:=q
  refine ⟨q1,jht q2,λy hy e=>?_⟩
  rcases q3 y hy with z | z
  .exact absurd e z
  .exact z
def jnc (ix:List (Option Nat)) (U : St) : St:=ix.map λo=>match o with
 | some k=>(U[k]?).join
 | none=>none
def blk (X:Cx) (scope:Scope) (N':List Str) (C:Addr) (fp:List Addr) (s₂:Shared) (H₂:Hp) : Cx:=
 { X with N:=N',s₀:=s₂,H₀:=H₂,env:=compEnvC scope (jwa scope X.env) C X.env,outer:=X.stack,stack:=X.stack,ex:=fp,fn:=λ_=>false,pn:=[],xe:=λ_ _=>False }
abbrev jsb (its:List Value) (n:Nat) : Obj:={ cls:=.type "list",data:=.seq its.toArray n }
section
variable {X:Cx} {scope:Scope} {N':List Str} {ix:List (Option Nat)} {C:Addr} {fp:List Addr} {s₂:Shared} {H₂:Hp} {pins:List (Addr × Obj)} {U : St}
theorem jyc (I:Inv X pins U H₂ s₂) {x:Str} {c:Addr} (h:(jwa scope X.env).lookup x = some c) : c < s₂.heap.objs.size:=by
 obtain ⟨v,q⟩:=I.cell x c (jaa h)
 exact q.lt
theorem j0z (I:Inv X pins U H₂ s₂) (co:jio X.N X.env.scope scope N' ix) (hC : @LE.le Nat _ s₂.heap.objs.size C) (hf : ∀ b ∈ fp,jtf X pins H₂ b) (hlt : ∀ b ∈ fp,b < s₂.heap.objs.size) : (blk X scope N' C fp s₂ H₂).Ok where
 mod:=I.ok.mod
 kind:=co.kind
 glob:=I.ok.glob
 blt:=I.ok.blt
 above:=hC
 inj:=λx y c e1 e2=>I.ok.inj x y c (jaa e1) (jaa e2)
 has := λx h=>by
  have h1 : ∃ k,(relabel scope X.env).names.lookup x = some k /\ (k = .cell \/ k = .free):=by
   rcases h with h | h
   .exact ⟨_,h,.inl rfl⟩
   .exact ⟨_,h,.inr rfl⟩
  obtain ⟨k,h1,h2⟩:=h1
  obtain ⟨k',hm,q⟩:=gs h1
  have hk:k' = .free:=by
   rcases q with q | ⟨q,_⟩
   .rcases h2 with z | z
    .exact absurd (q.trans z) (co.jw3 _ hm)
    .exact q.trans z
   .exact q
  rw [hk] at hm
  obtain ⟨c,hc⟩:=I.ok.has x (co.frees _ hm rfl)
  exact ⟨c,jrk hm hc⟩
 cab:=λx c h=>by
  have h':false = true:=h
  cases h'
 hd:=I.ok.hd
 frames:=I.ok.frames
 stk:=.inl rfl
 exf:=λb hb=>⟨ne_of_lt (lt_of_lt_of_le (hlt b hb) hC),λx c e=>(hf b hb).2.2.2.2.1 x c (jaa e)⟩
 bs:=I.bs
 bsz:=le_trans I.ok.bsz I.sz
 j12:=λb o e hb=>by
  rcases (hf b hb).2.2.2.1 with z | z
  .exact I.ok.j12 b o e z
  .exact absurd (lt_of_lt_of_le (Heap.lt_size (I.ok.bs b o e).1) z) (lt_irrefl _)
 j3f:=λb hb z=>by
  rcases mem_cons.mp (I.jn0 b z) with e | e
  .exact (hf b hb).2.1 e
  .exact (hf b hb).2.2.1 e
 jte:=I.stack
 frf:=I.jqy
theorem jzd (I:Inv X pins U H₂ s₂) {b:Addr} (h:s₂.heap.objs.size <= b) : b ∉ frs X.stack:=λz=>by
 rcases mem_cons.mp (I.jn0 b z) with e | e
 .rw [e] at h; exact absurd (lt_of_lt_of_le I.lt h) (lt_irrefl _)
 .exact I.j7m h e
theorem jxs (I:Inv X pins U H₂ s₂) (co:jio X.N X.env.scope scope N' ix) {D:Addr} {h₁:Heap} {t':Nat} (hD : @Eq Nat D s₂.heap.objs.size) (hC : @Eq Nat C (s₂.heap.objs.size + 1)) (hf : ∀ b ∈ fp,jtf X pins H₂ b) (hlt : ∀ b ∈ fp,b < s₂.heap.objs.size)
  (old : ∀ b o,s₂.heap.get? b = some o -> h₁.get? b = some o) (hacc:h₁.get? D = some (jsb [] 0)) {m:Str -> Option Value} (hns:h₁.Ns C m) :
  Inv (blk X scope N' C fp s₂ H₂) [(D,jsb [] 0)] (jnc ix U) H₂ { s₂ with heap:=h₁,toks:=t' } where
 ok:=j0z I co (by omega) hf hlt
 os:=rfl
 bare:=I.bare
 base:=Un.kept old
 loc := by
  refine ⟨m,hns,λi x v e1 e2 e3=>?_⟩
  unfold jnc at e2
  rw [getElem?_map] at e2
  cases q:ix[i]? with
  | none=>rw [q] at e2; cases e2
  | some o=>
   rw [q] at e2
   cases o with
   | none=>cases e2
   | some k=>
    have e2':(U[k]?).join = some v:=Option.some.inj e2
    have e2'' : U[k]? = some (some v):=by
     cases z : U[k]? with
     | none=>rw [z] at e2'; cases e2'
     | some o=>rw [z] at e2'; exact congrArg some e2'
    obtain ⟨o1,o2,o3⟩:=co.out i x k e1 q
    have hk:X.env.kindOf x = some .cell \/ X.env.kindOf x = some .free:=co.frees _ o2 rfl
    have vis:Vis X.env.scope x:=.inr hk
    obtain ⟨m0,_,hl⟩:=I.loc
    obtain ⟨u,r,l⟩:=hl k x v o1 e2'' vis
    refine ⟨u,r,?_⟩
    rcases l with ⟨l,_⟩ | ⟨_,c,ec,hcell⟩
    .rcases hk with z | z
     .rw [z] at l; cases l
     .rw [z] at l; cases l
    .refine .inr ⟨?_,c,jrk o2 ec,?_⟩
     .rcases e3 with z | z | z
      .obtain ⟨k',hm,q⟩:=gs z
       rcases q with q | ⟨_,q⟩
       .have:=o3 _ hm rfl
        rw [show k' = NameKind.local from q] at this
        cases this
       .cases q
      .exact .inl z
      .exact .inr z
     .obtain ⟨o,ho,hd⟩:=hcell
      exact ⟨o,old _ _ ho,hd⟩
 cell:=λx c e=>by
  obtain ⟨v,o,ho,hd⟩:=I.cell x c (jaa e)
  exact ⟨v,o,old _ _ ho,hd⟩
 free:=I.hok.fresh (by show @LE.le Nat _ s₂.heap.objs.size C; omega)
 jfs:=λx c e=>I.jfs x c (jaa e)
 pin:=λp hp=>by
  have e:p = (D,jsb [] 0):=by simpa [blk] using hp
  subst e
  refine ⟨hacc,I.hok.fresh (by show @LE.le Nat _ s₂.heap.objs.size D; omega),by show ¬ @Eq Nat D C; omega,jzd I (by show @LE.le Nat _ s₂.heap.objs.size D; omega),λv z=>?_⟩
  have z':Data.seq _ _ = Data.cell v:=z
  cases z'
 hok:=I.hok.kept old
 len:=by unfold jnc; rw [length_map]; exact co.len
theorem jxb (I:Inv X pins U H₂ s₂) {D:Addr} (hD : @Eq Nat D s₂.heap.objs.size) (hf : ∀ b ∈ fp,jtf X pins H₂ b) {ys:List V} {its:List Value} {n:Nat} {U':St} {H':Hp} {s':Shared}
  (I':Inv (blk X scope N' C fp s₂ H₂) [(D,jsb its n)] U' H' s') (hv:Vals ys its) (hz:ys.length <= sizeLine) : Inv X pins U (upd H' D (.lst ys)) s':=by
 obtain ⟨dp,dn,_,_,_⟩:=I'.pin (D,jsb its n) (by simp)
 have dp':s'.heap.get? D = some (jsb its n):=dp
 have dn':H' D = none:=dn
 have u:=I'.base
 have ne : ∀ b o,s₂.heap.get? b = some o -> b ≠ D:=λb o e z=>by
  have h1 : @LT.lt Nat _ b s₂.heap.objs.size:=Heap.lt_size e
  have h2 : @Eq Nat b D:=z
  omega
 have neH : ∀ b o,H₂ b = some o -> b ≠ D:=λb o e z=>by
  have h1 : @LT.lt Nat _ b s₂.heap.objs.size:=I.hok.lt e
  have h2 : @Eq Nat b D:=z
  omega
 refine I.j1y (ch:=fp) I'.os ⟨u.keep,u.slot,λb o e q hb=>?_,u.there,λb xs q=>?_,λb o xs q=>?_,λb ps q=>?_⟩ (λb o e=>?_) I'.bare λb hb=>?_
 .rw [je (ne b o e)]
  exact u.free b o e q hb
 .rw [je (neH b _ q)]
  exact u.jrr b xs q
 .rw [je (neH b _ q)]
  exact u.jrc b o xs q
 .rw [je (neH b _ q)]
  exact u.jsc b ps q
 .by_cases hb:b = D
  .subst hb
   rw [ja] at e
   cases e
   exact ⟨hz,its,n,hv,dp'⟩
  .rw [je hb] at e
   exact (I'.hok b o e).jpk (λc v _ q=>q) (λc q=>by rw [je (jj q dn')]; exact q) λc xs q=>by rw [je (jj q dn')]; exact q
 .obtain ⟨_,f1,_,f3,f4,f5⟩:=hf b hb
  exact ⟨f3,f1,f4,f5⟩
end
end L2
namespace L2
open PySem PySem.Spec PyProof.Rows
abbrev NoE:Value -> Shared -> Prop:=λ_ _=>False
section
variable {prog:Program} {w:World} {A:Around} {R:Result -> Shared -> Prop} {s:Shared}
theorem jrt {elt target iter:Expr} {ifs:List Expr} {scope:Scope} {pos:Pos} {it acc:Value} {env:Env} (I:Nat -> Shared -> Prop)
  (turn : ∀ n s,I n s -> wpAny (model prog w) A (pyNext it) (λr s₁=>match r with
   | none=>R (.ok .next) s₁
   | some v=>wpAny (model prog w) A (letOwnedTupleGo target it v) (λ_ s₁=>wpAny (model prog w) A (assign target env v) (λ_ s₂=>
     wpAny (model prog w) A (forIn ifs true λc r=>if r = true then do let ok <- isTrue c env (eval c env); pure (ForInStep.yield ok) else pure (ForInStep.yield r)) (λok s₃=>
      if ok = true then wpAny (model prog w) A (eval elt env) (λx s₄=>
       wpAny (model prog w) A (call (.builtin "list.append") [acc,x]) (λ_ s₅=>∃ m,m < n /\ I m s₅) NoE s₄) NoE s₃
      else ∃ m,m < n /\ I m s₃) NoE s₂) NoE s₁) NoE s₁) NoE s)
  (n:Nat) (h:I n s) : codeAny (model prog w) A (.compLoop (.ListComp elt [⟨target,iter,ifs,0⟩] scope pos) 0 it acc env) R s:=by
 refine codeAny_loop rfl I (λn s hI=>?_) n h
 show wpAny _ A ((compTurn (.ListComp elt [⟨target,iter,ifs,0⟩] scope pos) 0 it acc env).onRaise (λx=>do noteFrame x env; theTreesLotGoes x)) _ _ s
 refine wpAny_noted ?_
 rw [compTurn_list]
 refine wpAny_bind (wpAny_standAt (wpAny_bind (wpAny_mono (turn n s hI) (λr s₁ h₁=>?_) λ_ _ h'=>h'.elim)))
 cases r with
 | none=>exact wpAny_pure h₁
 | some v=>
  refine wpAny_bind (wpAny_mono h₁ (λ_ s₁ h₁=>?_) λ_ _ h'=>h'.elim)
  refine wpAny_bind (wpAny_mono h₁ (λ_ s₂ h₂=>wpAny_bind (wpAny_mono h₂ (λok s₃ h₃=>?_) λ_ _ h'=>h'.elim)) λ_ _ h'=>h'.elim)
  cases ok with
  | false=>exact wpAny_pure ⟨rfl,h₃⟩
  | true=>
   exact wpAny_bind (wpAny_bind (wpAny_mono h₃ (λx s₄ h₄=>wpAny_bind (wpAny_mono h₄ (λ_ s₅ h₅=>wpAny_pure (wpAny_pure ⟨rfl,h₅⟩)) λ_ _ h'=>h'.elim)) λ_ _ h'=>h'.elim))
end
def PIf (X:Cx) (ifs:List Expr) (t:TT) : Prop:=
 ∀ (pins:List (Addr × Obj)) (s:Shared) (U : St) (H:Hp) (Q:Bool -> Hp -> Prop),Inv X pins U H s -> t U H Q ->
  wpAny (model X.prog X.w) X.A (forIn ifs true λc r=>if r = true then do let ok <- isTrue c X.env (eval c X.env); pure (ForInStep.yield ok) else pure (ForInStep.yield r)) (TP X pins U Q) X.xe s
def j2a:TT:=λ_ H Q=>Q true H
theorem jl9 {X:Cx} : PIf X [] j2a:=λ_ _ _ H _ I h=>wpAny_tests_nil ⟨H,I,h⟩
theorem jjh {X:Cx} {c:Expr} {t:TT} (h:PT X c t) : PIf X [c] t:=λpins s U H Q I q=>wpAny_tests_one (h pins s U H Q I q)
def jwo (Q:VK) (ys:List V) (H:Hp) : Prop:=∀ p,H p = none -> Q (.ref p) (upd H p (.lst ys))
def tLc (ix:List (Option Nat)) (wi:TI) (g:TG) (ti:TT) (te:TE) : TE:=λU H Q=>wi U H λJ H1=>∃ W:Nat -> Nat -> List V -> St -> Hp -> Prop,(∃ m,W 0 m [] (jnc ix U) H1) /\ ∀ i m ys U H,W i m ys U H ->
 ys.length <= sizeLine /\ ((J.stop i H /\ jwo Q ys H) \/
  (J.go i H /\ ∃ N:List V -> St -> Hp -> Prop,(∀ ys' U' H',N ys' U' H' -> ∃ m',m' < m /\ W (i + 1) m' ys' U' H') /\
   ∀ x H',J.yld i H x H' -> g x U H' λU2 H2=>ti U2 H2 λb H3=>if b = true then te U2 H3 λy H4=>N (ys ++ [y]) U2 H4 else N ys U2 H3))
structure j2d (X:Cx) (pins:List (Addr × Obj)) (H:Hp) (s:Shared) (C:Addr) : Prop where
 ns : ∃ m,s.heap.Ns C m
 fr:H C = none
 nl:C ≠ X.env.locals
 ab:X.s₀.heap.objs.size <= C
 nc : ∀ x c,X.env.cells.lookup x = some c -> c ≠ C
 np : ∀ p ∈ X.pn ++ pins,p.1 ≠ C
section
variable {X:Cx}
theorem jwz {scope:Scope} {N':List Str} {ix:List (Option Nat)} {pins:List (Addr × Obj)} {U : St} {tg iter elt:Expr} {ifs:List Expr} {pos:Pos} {g:TG} {ti:TT} {te:TE} {E:Value -> Shared -> Prop}
  (co:jio X.N X.env.scope scope N' ix) (hc:X.calm = true)
  (hg : ∀ C fp s₂ H₂,PG (blk X scope N' C fp s₂ H₂) tg g) (hi : ∀ C fp s₂ H₂,PIf (blk X scope N' C fp s₂ H₂) ifs ti) (he : ∀ C fp s₂ H₂,PE (blk X scope N' C fp s₂ H₂) elt te)
  {H₂:Hp} {s₂:Shared} {J:It} {fp:List Addr} {it:Addr} {tn:Nat -> Heap -> Prop} {QF:List V -> Hp -> Prop}
  (I:Inv X pins U H₂ s₂) (T:Turn X.prog X.w X.K tg J fp it tn) (st:tn 0 s₂.heap) (hf : ∀ b ∈ fp,jtf X pins H₂ b)
  {W:Nat -> Nat -> List V -> St -> Hp -> Prop} (w0 : ∃ m,W 0 m [] (jnc ix U) H₂)
  (hW : ∀ i m ys U H,W i m ys U H -> ys.length <= sizeLine /\ ((J.stop i H /\ QF ys H) \/
   (J.go i H /\ ∃ N:List V -> St -> Hp -> Prop,(∀ ys' U' H',N ys' U' H' -> ∃ m',m' < m /\ W (i + 1) m' ys' U' H') /\
    ∀ x H',J.yld i H x H' -> g x U H' λU2 H2=>ti U2 H2 λb H3=>if b = true then te U2 H3 λy H4=>N (ys ++ [y]) U2 H4 else N ys U2 H3)))
  {RR:Value -> Addr -> Result -> Shared -> Prop}
  (hRR : ∀ D C ys H' s',Inv X pins U (upd H' D (.lst ys)) s' -> H' D = none -> QF ys H' -> j2d X pins (upd H' D (.lst ys)) s' C -> RR (.ref D) C (.ok .next) s') :
  wpAny (model X.prog X.w) X.A (newList []) (λacc s₃=>wpAny (model X.prog X.w) X.A (newFunctionEnv scope X.env.globals (jwa scope X.env) [] X.env.qual none .none (some X.env)) (λcenv s₄=>
   codeAny (model X.prog X.w) X.A (.compStart (.ListComp elt [⟨tg,iter,ifs,0⟩] scope pos) 0 (.ref it) acc { cenv with scope:=relabel scope X.env }) (RR acc cenv.locals) s₄) E s₃) E s₂:=by
 have hlt : ∀ b ∈ fp,@LT.lt Nat _ b s₂.heap.objs.size:=λb hb=>by
  obtain ⟨o,e,_⟩:=T.obj _ _ st b hb
  exact Heap.lt_size e
 refine wpAny_newObj_type (wpAny_newFunctionEnv co.jw3 (by intro y hy; simp at hy) (λh₁ hns₁ hsb₁=>?_) co.kind)
 dsimp only at hns₁ hsb₁ ⊢
 generalize hH2:s₂.heap.push { cls:=.type "list",dict:=none,data:=.seq ([] : List Value).toArray } = H2 at hns₁ hsb₁ ⊢
 have hC : @Eq Nat H2.objs.size (s₂.heap.objs.size + 1):=by rw [<- hH2,Heap.size_push]
 have below : ∀ b:Nat,b < s₂.heap.objs.size -> ¬ @Eq Nat b H2.objs.size:=λb hb=>by omega
 have hDC : ¬ @Eq Nat s₂.heap.objs.size H2.objs.size:=by omega
 have old : ∀ b o,s₂.heap.get? b = some o -> h₁.get? b = some o:=λb o e=>hsb₁.extBut b o (below b (Heap.lt_size e)) (Heap.get?_push_of_some _ (hH2 ▸ Heap.get?_push_of_some _ e))
 have hacc:h₁.get? s₂.heap.objs.size = some (jsb [] 0):=hsb₁.extBut _ _ hDC (Heap.get?_push_of_some _ (hH2 ▸ Heap.get?_push_size _ rfl))
 have st₁:tn 0 h₁:=T.keep _ _ _ st λb _ o e=>old b o e
 generalize hCe:H2.objs.size = C at hns₁ hsb₁ hC below hDC ⊢
 generalize hDe:s₂.heap.objs.size = D at hacc hDC ⊢
 have loop : ∀ s₃:Shared,s₃ = { s₂ with heap:=h₁,toks:=s₂.toks + ([] : List (Str × Value)).length } ->
   codeAny (model X.prog X.w) X.A (.compLoop (.ListComp elt [⟨tg,iter,ifs,0⟩] scope pos) 0 (.ref it) (.ref D) (compEnvC scope (jwa scope X.env) C X.env)) (RR (.ref D) C) s₃:=by
  rintro s₃ rfl
  obtain ⟨m0,w0⟩:=w0
  have I3:Inv (blk X scope N' C fp s₂ H₂) [(D,jsb [] 0)] (jnc ix U) H₂ { s₂ with heap:=h₁,toks:=s₂.toks + ([] : List (Str × Value)).length }:=jxs I co hDe.symm hC hf hlt old hacc hns₁
  refine jrt (λk s'=>∃ i ys its n U' H',Inv (blk X scope N' C fp s₂ H₂) [(D,jsb its n)] U' H' s' /\ Vals ys its /\ tn i s'.heap /\ (∀ b ∈ fp,H' b = none) /\ W i k ys U' H') ?_ m0
   ⟨0,[],[],0,_,_,I3,.nil,st₁,λb hb=>(hf b hb).1,w0⟩
  rintro k s' ⟨i,ys,its,n,U',H',I',hv,st',fr',w'⟩
  have fpok : ∀ {H':Hp} {o:Obj},(∀ b ∈ fp,H' b = none) -> ∀ b ∈ fp,jtf (blk X scope N' C fp s₂ H₂) [(D,o)] H' b:=λ{H' o} hn b hb=>by
   refine ⟨hn b hb,below b (hlt b hb),λz=>?_,.inl hb,λx c e=>(hf b hb).2.2.2.2.1 x c (jaa e),λp hp z=>?_⟩
   .rcases mem_cons.mp (I.jn0 b z) with e | e
    .exact (hf b hb).2.1 e
    .exact (hf b hb).2.2.1 e
   .have e:p = (D,o):=by simpa [blk] using hp
    subst e
    have z' : @Eq Nat D b:=z
    have z2:=hlt b hb
    omega
  obtain ⟨hz,hW'⟩:=hW i k ys U' H' w'
  rcases hW' with ⟨stop,q⟩ | ⟨go,N,hN,step⟩
  .refine thn (T.done (blk X scope N' C fp s₂ H₂) rfl rfl rfl hc i _ s' U' H' NoE I' (fpok fr') st' stop) λr s4 ⟨hr,I4⟩=>?_
   subst hr
   obtain ⟨_,dn,_⟩:=I4.pin (D,jsb its n) (by simp)
   have cf:H' C = none:=I4.free
   refine hRR D C ys H' s4 (jxb I hDe.symm hf I4 hv hz) dn q ⟨?_,by rw [je (Ne.symm hDC)]; exact cf,?_,?_,λx c e=>?_,λp hp=>?_⟩
   .obtain ⟨m,hn,_⟩:=I4.loc
    exact ⟨m,hn⟩
   .have z : @LT.lt Nat _ X.env.locals s₂.heap.objs.size:=I.lt
    show ¬ @Eq Nat C X.env.locals
    omega
   .have z : @LE.le Nat _ X.s₀.heap.objs.size s₂.heap.objs.size:=I.sz
    show @LE.le Nat _ X.s₀.heap.objs.size C
    omega
   .obtain ⟨v,z⟩:=I.cell x c e
    have z2 : @LT.lt Nat _ c s₂.heap.objs.size:=z.lt
    show ¬ @Eq Nat c C
    omega
   .have z2 : @LT.lt Nat _ p.1 s₂.heap.objs.size:=Heap.lt_size (I.pin p hp).1
    show ¬ @Eq Nat p.1 C
    omega
  .refine thn (T.item (blk X scope N' C fp s₂ H₂) rfl rfl rfl hc i _ s' U' H' NoE I' (fpok fr') st' go) λr s4 ⟨u,hr,h4⟩=>?_
   subst hr
   refine thn h4 λ_ s5 ⟨x,H5,I5,r5,y5,st5,fr5⟩=>?_
   have I5':=I5.pinned (fpok fr5) (T.obj _ _ st5)
   refine thn (hg C fp s₂ H₂ _ s5 U' H5 x u _ I5' r5 (step x H5 y5)) λ_ s6 ⟨U6,H6,I6,q6⟩=>?_
   refine thn (hi C fp s₂ H₂ _ s6 U6 H6 _ I6 q6) λok s7 ⟨H7,I7,q7⟩=>?_
   have fpin : ∀ {U8:St} {H8:Hp} {s8:Shared},Inv (blk X scope N' C fp s₂ H₂) ([(D,jsb its n)] ++ jkj fp s5.heap) U8 H8 s8 -> ∀ b ∈ fp,∀ o,s5.heap.get? b = some o -> s8.heap.get? b = some o /\ H8 b = none:=λ{U8 H8 s8} I8 b hb o e=>by
    have z:=I8.pin (b,o) (mem_append_right _ (mem_append_right _ (jib hb e)))
    exact ⟨z.1,z.2.1⟩
   cases ok with
   | false=>
    have q7':N ys U6 H7:=by
     have q7':=q7
     rw [if_neg Bool.false_ne_true] at q7'
     exact q7'
    obtain ⟨m',hm,w7⟩:=hN _ _ _ q7'
    refine ⟨m',hm,i + 1,ys,its,n,U6,H7,I7.jkg,hv,T.keep _ _ _ st5 λb hb o e=>(fpin I7 b hb o e).1,λb hb=>?_,w7⟩
    obtain ⟨o,e,_⟩:=T.obj _ _ st5 b hb
    exact (fpin I7 b hb o e).2
   | true=>
    have q7':te U6 H7 λy H4=>N (ys ++ [y]) U6 H4:=by
     have q7':=q7
     rw [if_pos rfl] at q7'
     exact q7'
    show wpAny _ _ _ _ _ _
    refine thn (he C fp s₂ H₂ _ s7 U6 H7 _ I7 q7') λyv s8 ⟨y,H8,I8,r8,q8⟩=>?_
    obtain ⟨m',hm,w8⟩:=hN _ _ _ q8
    obtain ⟨z1,z2,z3,z4,z5⟩:=I8.pin (D,jsb its n) (by simp)
    have zD:s8.heap.get? D = some (jsb its n):=z1
    have lenv:=hv.length
    refine append_at (hsz:=by rw [size_toArray]; omega) zD λh9 hs9 hD9=>?_
    have I8':Inv (blk X scope N' C fp s₂ H₂) (jkj fp s5.heap) U6 H8 s8:=I8.jrl λp hp=>I8.pin p (mem_append_right _ (mem_append_right _ hp))
    have I9:Inv (blk X scope N' C fp s₂ H₂) (jkj fp s5.heap) U6 H8 { s8 with heap:=h9 }:=I8'.turned (it:=D) (t':=s8.toks) (λb o hb e=>(hs9.2 b hb).trans e) z2 z3
     (.inr (by show s₂.heap.objs.size <= D; omega)) (λx c e=>by have z : @LT.lt Nat _ c s₂.heap.objs.size:=jyc (scope:=scope) I e; show ¬ @Eq Nat c D; omega) (λp hp=>by
      have hp':p ∈ jkj fp s5.heap:=by simpa [blk] using hp
      have z:=hlt _ (jr6 hp').1
      show ¬ @Eq Nat p.1 D
      omega)
    have hD9':h9.get? D = some (jsb (its ++ [yv]) (n + 1)):=by
     rw [hD9]
     simp [jsb]
    have I10:Inv (blk X scope N' C fp s₂ H₂) [(D,jsb (its ++ [yv]) (n + 1))] U6 H8 { s8 with heap:=h9 }:=I9.jrl λp hp=>by
     have e:p = (D,jsb (its ++ [yv]) (n + 1)):=by simpa using hp
     subst e
     refine ⟨hD9',z2,z3,z4,λv z=>?_⟩
     have z':Data.seq _ _ = Data.cell v:=z
     cases z'
    refine ⟨m',hm,i + 1,ys ++ [y],its ++ [yv],n + 1,U6,H8,I10,hv.append (.cons r8 .nil),T.keep _ _ _ st5 λb hb o e=>?_,λb hb=>?_,w8⟩
    .have hbD:b ≠ D:=by
      have z:=hlt b hb
      show ¬ @Eq Nat b D
      omega
     exact (hs9.2 b hbD).trans (fpin I8 b hb o e).1
    .obtain ⟨o,e,_⟩:=T.obj _ _ st5 b hb
     exact (fpin I8 b hb o e).2
 exact codeAny_compStart_list (loop _ rfl) (T.self _ 0 _ _ _ st₁ (loop _ rfl))
theorem j2d.go {pins:List (Addr × Obj)} {U : St} {H:Hp} {s:Shared} {C:Addr} {h':Heap} (G:j2d X pins H s C) (I:Inv X pins U H s) (hs:Heap.SameBut C s.heap h') : Inv X pins U H { s with heap:=h' }:=
 I.turned (it:=C) (t':=s.toks) (λb o hb e=>(hs.2 b hb).trans e) G.fr G.nl (.inr G.ab) G.nc G.np
variable {scope:Scope} {N':List Str} {ix:List (Option Nat)} {tg iter elt:Expr} {ifs:List Expr} {pos:Pos} {wi:TI} {g:TG} {ti:TT} {te:TE}
theorem jn9 (co:jio X.N X.env.scope scope N' ix) {pins:List (Addr × Obj)} {U : St} {H:Hp} {s:Shared} (I:Inv X pins U H s) : closureFor scope X.env = pure (jwa scope X.env):=
 jwe λp hp e=>I.ok.has p.1 (co.frees p hp e)
theorem ja3 (co:jio X.N X.env.scope scope N' ix) (hc:X.calm = true) (hit:PI X tg iter wi) (hg : ∀ C fp s₂ H₂,PG (blk X scope N' C fp s₂ H₂) tg g) (hi : ∀ C fp s₂ H₂,PIf (blk X scope N' C fp s₂ H₂) ifs ti)
  (he : ∀ C fp s₂ H₂,PE (blk X scope N' C fp s₂ H₂) elt te) (hs:autoParam (∀ x,foldedSetIterable iter X.env x = pure x) aP3) :
  PE X (.ListComp elt [⟨tg,iter,ifs,0⟩] scope pos) (tLc ix wi g ti te):=by
 intro pins s U H Q I h
 rw [eval_ListComp]
 refine wpAny_comprehension_free (use:=none) rfl hs (jn9 co I) co.kind co.names (thn (hit pins s U H _ I h) λxv s₁ h₁=>thn h₁ λitv s₂ h₂=>?_)
 obtain ⟨it,fp,tn,J,H₂,e,I₂,T,st,hf,W,w0,hW⟩:=h₂
 subst e
 refine jwz co hc hg hi he I₂ T st hf w0 hW (RR:=λacc C=>compPost (model X.prog X.w) X.A X.xe none (EP X pins U Q) acc C) λD C ys H' s' I' dn q G=>?_
 obtain ⟨m,hn⟩:=G.ns
 exact ⟨m,hn,λh' hs'=>⟨.ref D,_,G.go I' hs',rfl,q D dn⟩⟩
theorem ju8 {i:Nat} {y:Str} {py spos:Pos} (hN:X.N.Nodup) (hiy:X.N[i]? = some y) (hy:X.env.scope.names.lookup y = some .local) (co:jio X.N X.env.scope scope N' ix) (hc:X.calm = true) (hit:PI X tg iter wi)
  (hg : ∀ C fp s₂ H₂,PG (blk X scope N' C fp s₂ H₂) tg g) (hi : ∀ C fp s₂ H₂,PIf (blk X scope N' C fp s₂ H₂) ifs ti)
  (he : ∀ C fp s₂ H₂,PE (blk X scope N' C fp s₂ H₂) elt te) (hs:autoParam (∀ x,foldedSetIterable iter X.env x = pure x) aP3)
  (hsw:autoParam (swapsWith (.ListComp elt [⟨tg,iter,ifs,0⟩] scope pos) (some (.Name y py)) spos.line X.env = pure true) aP1) :
  PS X (.Assign [.Name y py] (.ListComp elt [⟨tg,iter,ifs,0⟩] scope pos) spos) (j6d (tLc ix wi g ti te) (jlu i)):=by
 intro pins s U H D I h
 rw [exec_Assign_Name_used _ _ _ _ hsw]
 refine wpAny_bind (wpAny_standAt (wpAny_bind ?_))
 show wpAny _ X.A (do let _ <- comprehension (.ListComp elt [⟨tg,iter,ifs,0⟩] scope pos) scope X.env _ (newList []) false (eval iter X.env) (some (assign (.Name y py) X.env))) _ _ s
 refine wpAny_bind (wpAny_mono (wpAny_comprehension_free (use:=some (assign (.Name y py) X.env)) (Q:=λ_ s'=>SP X pins D .next s') rfl hs (jn9 co I) co.kind co.names
  (thn (hit pins s U H _ I h) λxv s₁ h₁=>thn h₁ λitv s₂ h₂=>?_)) (λ_ s' hq=>wpAny_pure (wpAny_pure hq)) λ_ _ e=>e)
 obtain ⟨it,fp,tn,J,H₂,e,I₂,T,st,hf,W,w0,hW⟩:=h₂
 subst e
 refine jwz co hc hg hi he I₂ T st hf w0 hW (RR:=λacc C=>compPost (model X.prog X.w) X.A X.xe (some (assign (.Name y py) X.env)) (λ_ s'=>SP X pins D .next s') acc C) λDa C ys H' s' I' dn q G=>?_
 show wpAny _ _ (assign (.Name y py) X.env (.ref Da)) _ _ s'
 refine wpAny_assign_Name (jsa (v:=.ref Da) I' hN hiy (.inl hy) rfl (λs'' I'' ⟨a,sb,ha⟩=>?_) (.inr hy))
 have hCa:C ≠ a:=by
  rcases ha with z | z
  .rw [z]; exact G.nl
  .exact Ne.symm (G.nc _ _ z)
 obtain ⟨m,hn⟩:=G.ns
 have hn2:=hn.sameBut sb hCa
 have G2:j2d X pins (upd H' Da (.lst ys)) s'' C:=⟨⟨m,hn2⟩,G.fr,G.nl,G.ab,G.nc,G.np⟩
 exact ⟨m,hn2,λh' hs'=>⟨_,_,G2.go I'' hs',q Da dn⟩⟩
end
theorem jgp {K:PySem.W.Frag} {a:Addr} {xs:List V} {g:TG} {ti:TT} {te:TE} {U0:St} {H0:Hp} {Q:VK} (Pv:Nat -> List V -> St -> Hp -> Prop) (h0:Pv 0 [] U0 H0)
  (hl : ∀ i ys U H,i <= xs.length -> Pv i ys U H -> SqL K H a xs /\ ys.length <= sizeLine)
  (hs : ∀ i x ys U H,xs[i]? = some x -> Pv i ys U H -> g x U H λU2 H2=>ti U2 H2 λb H3=>if b = true then te U2 H3 λy H4=>Pv (i + 1) (ys ++ [y]) U2 H4 else Pv (i + 1) ys U2 H3)
  (hd : ∀ ys U H,Pv xs.length ys U H -> ∀ p,H p = none -> Q (.ref p) (upd H p (.lst ys))) :
  ∃ W : Nat -> Nat -> List V -> St -> Hp -> Prop,(∃ m,W 0 m [] U0 H0) /\ ∀ i m ys U H,W i m ys U H ->
   ys.length <= sizeLine /\ (((Itl K a).stop i H /\ jwo Q ys H) \/
    ((Itl K a).go i H /\ ∃ N:List V -> St -> Hp -> Prop,(∀ ys' U' H',N ys' U' H' -> ∃ m',m' < m /\ W (i + 1) m' ys' U' H') /\
     ∀ x H',(Itl K a).yld i H x H' -> g x U H' λU2 H2=>ti U2 H2 λb H3=>if b = true then te U2 H3 λy H4=>N (ys ++ [y]) U2 H4 else N ys U2 H3)):=by
 refine ⟨λi m ys U H=>m = xs.length - i /\ i <= xs.length /\ Pv i ys U H,⟨xs.length,by simp,zero_le _,h0⟩,?_⟩
 rintro i m ys U H ⟨rfl,hi,p⟩
 obtain ⟨q,hz⟩:=hl i ys U H hi p
 refine ⟨hz,?_⟩
 by_cases hlt:i < xs.length
 .refine .inr ⟨⟨xs,xs[i],q,by simp [hlt]⟩,Pv (i + 1),λys' U' H' p'=>⟨xs.length - (i + 1),by omega,rfl,hlt,p'⟩,λx H' y=>?_⟩
  obtain ⟨e,y⟩:=y
  subst e
  exact hs i x ys U _ (y xs q) p
 .have e:i = xs.length:=by omega
  subst e
  exact .inl ⟨⟨xs,q,le_refl _⟩,hd ys U H p⟩
theorem jul {lo:Int} {n:Nat} {g:TG} {ti:TT} {te:TE} {U0:St} {H0:Hp} {Q:VK} (Pv:Nat -> List V -> St -> Hp -> Prop) (h0:Pv 0 [] U0 H0)
  (hl : ∀ i ys U H,i <= n -> Pv i ys U H -> ys.length <= sizeLine)
  (hs : ∀ i ys U H,i < n -> Pv i ys U H -> g (.int (lo + i)) U H λU2 H2=>ti U2 H2 λb H3=>if b = true then te U2 H3 λy H4=>Pv (i + 1) (ys ++ [y]) U2 H4 else Pv (i + 1) ys U2 H3)
  (hd : ∀ ys U H,Pv n ys U H -> ∀ p,H p = none -> Q (.ref p) (upd H p (.lst ys))) :
  ∃ W : Nat -> Nat -> List V -> St -> Hp -> Prop,(∃ m,W 0 m [] U0 H0) /\ ∀ i m ys U H,W i m ys U H ->
   ys.length <= sizeLine /\ (((Itr lo n).stop i H /\ jwo Q ys H) \/
    ((Itr lo n).go i H /\ ∃ N:List V -> St -> Hp -> Prop,(∀ ys' U' H',N ys' U' H' -> ∃ m',m' < m /\ W (i + 1) m' ys' U' H') /\
     ∀ x H',(Itr lo n).yld i H x H' -> g x U H' λU2 H2=>ti U2 H2 λb H3=>if b = true then te U2 H3 λy H4=>N (ys ++ [y]) U2 H4 else N ys U2 H3)):=by
 refine ⟨λi m ys U H=>m = n - i /\ i <= n /\ Pv i ys U H,⟨n,by simp,zero_le _,h0⟩,?_⟩
 rintro i m ys U H ⟨rfl,hi,p⟩
 refine ⟨hl i ys U H hi p,?_⟩
 by_cases hlt:i < n
 .refine .inr ⟨hlt,Pv (i + 1),λys' U' H' p'=>⟨n - (i + 1),by omega,rfl,hlt,p'⟩,λx H' y=>?_⟩
  obtain ⟨e,y⟩:=y
  subst e y
  exact hs i ys U _ hlt p
 .have e:i = n:=by omega
  subst e
  exact .inl ⟨le_refl _,hd ys U H p⟩
end L2
namespace L2
open PySem PySem.Spec PyProof.Rows
section
variable {X:Cx}
theorem jdf:jow X (.builtin "isinstance") (λxs H Q=>∃ x t T b,xs = [x,.ty T] /\ jvi X.K H x t /\ PySem.W.kitOne X.K t (.type T) = some b /\ Q (.bl b) H):=by
 intro pins s U H xs us Q I r h
 obtain ⟨x,t,T,b,rfl,ty,e,q⟩:=h
 obtain ⟨u,w,rfl,r1,r2⟩:=vals2 r
 obtain rfl:w = Value.type T:=r2
 exact jwt I r1 ty e λtk=>⟨.bl b,H,I.tok tk,rfl,q⟩
theorem jvn {A:Around} {s:Shared} {p:Addr} {its:List Value} (hh:A.handled = none) (hl:s.heap.IsList p its.toArray) :
  ∃ (fp:List Addr),(∀ b ∈ fp,b < s.heap.objs.size + 1) /\ Walks X.prog X.w A s.heap.objs.size fp [s.heap.objs.size] its.toArray.size (λi v=>its.toArray[i]? = some v) (λi h=>h.IsListIter s.heap.objs.size p i /\ h.IsList p its.toArray) /\
   ((s.heap.push { cls:=.type "list_iterator",data:=.fields #[.ref p,.int 0 0] }).IsListIter s.heap.objs.size p 0 /\ (s.heap.push { cls:=.type "list_iterator",data:=.fields #[.ref p,.int 0 0] }).IsList p its.toArray):=by
 have hlt:p < s.heap.objs.size:=by obtain ⟨_,e,_⟩:=hl; exact Heap.lt_size e
 refine ⟨[s.heap.objs.size,p],λb hb=>?_,Walks.list (A:=A) hh _ p (ne_of_lt hlt) its.toArray,⟨_,Heap.get?_push_size _ rfl,rfl,rfl⟩,hl.push _⟩
 rcases mem_cons.mp hb with e | e
 .rw [e]; exact lt_succ_self _
 .rw [mem_singleton.mp e]; exact Nat.lt_succ_of_lt hlt
theorem jvs {s:Shared} {h':Heap} {o:Obj} (hk : ∀ b x,b ∉ [s.heap.objs.size] -> (s.heap.push o).get? b = some x -> h'.get? b = some x) : ∀ b x,s.heap.get? b = some x -> h'.get? b = some x:=
 λb x e=>hk b x (λhm=>by rw [mem_singleton.mp hm] at e; exact lt_irrefl _ (Heap.lt_size e)) (Heap.get?_push_of_some _ e)
theorem jq8 : ∀ {bs:List Bool} {us:List Value},Vals (bs.map V.bl) us -> us = bs.map Value.bool
 | [],us,h=>by
  rw [map_nil] at h
  cases h
  rfl
 | b :: bs,us,h=>by
  rw [map_cons] at h
  cases h with
  | cons r1 r2=>
   cases r1
   rw [jq8 r2,map_cons]
theorem jzh {A:Around} (bs:List Bool) (d:Bool) : ∀ (i:Nat) (v:Value) (s':Shared) (Q':Bool -> Shared -> Prop) (E':Value -> Shared -> Prop),(bs.map Value.bool).toArray[i]? = some v -> Q' ((bs[i]?).getD d) s' -> wpAny (model X.prog X.w) A (truthy v) Q' E' s':=
 λi v s' Q' E' hP hQ=>by
  have e:(bs.map Value.bool)[i]? = some v:=by simpa using hP
  rw [getElem?_map] at e
  cases q:bs[i]? with
  | none=>rw [q] at e; cases e
  | some b=>
   rw [q] at e hQ
   have e':Value.bool b = v:=Option.some.inj e
   subst e'
   exact wpAny_truthy_bool hQ
theorem j0h (hc:X.calm = true) : jow X (.builtin "all") (λxs H Q=>∃ (p:Addr) (bs:List Bool),xs = [.ref p] /\ SqL X.K H p (bs.map V.bl) /\ Q (.bl (bs.all id)) H):=by
 intro pins s U H xs us Q I r h
 obtain ⟨p,bs,rfl,hq,q⟩:=h
 obtain ⟨u,rfl,rx⟩:=vals1 r
 cases rx
 obtain ⟨its,r',pl,hz⟩:=I.list hq
 have ei:=jq8 r'
 subst ei
 obtain ⟨fp,hfp,W,st⟩:=jvn (X:=X) (A:=X.A.in1) (s:=s) (I.ok.hd hc) pl.isList
 refine call_all_walk (wpAny_pyIter_list pl.isList ⟨_,fp,_,_,_,_,λi=>(bs[i]?).getD true,rfl,W,st,jzh bs true,λh' tk hk=>?_⟩)
 have e:((List.range (bs.map Value.bool).toArray.size).all λi=>(bs[i]?).getD true) = bs.all id:=by
  rw [size_toArray,length_map]; exact LSm.range_all bs
 rw [e]
 exact ⟨.bl (bs.all id),H,I.kept (t':=tk) (jvs hk),rfl,q⟩
theorem jvb (hc:X.calm = true) : jow X (.builtin "sum") (λxs H Q=>∃ (p:Addr) (ns:List Int),xs = [.ref p] /\ SqL X.K H p (ns.map V.int) /\ Q (.int ns.sum) H):=by
 intro pins s U H xs us Q I r h
 obtain ⟨p,ns,rfl,hq,q⟩:=h
 obtain ⟨u,rfl,rx⟩:=vals1 r
 cases rx
 obtain ⟨its,r',pl,hz⟩:=I.list hq
 have hi:=intsAre_of r'
 obtain ⟨ms,hx⟩:=hi.allInts.items
 have hl':s.heap.IsList p (intItems ms):=hx ▸ pl.isList
 refine sum_intListG (I.ok.hd hc) hl' λh' tk t' hk=>?_
 have e1:ns = ms.toList.map (·.1):=by
  rw [<- nums_intItems,<- hx]
  exact (show numsOf its.toArray.toList = ns from hi.numsOf).symm
 have e2:preSum (numAt ms) ms.size = ns.sum:=by
  rw [preSum_eq,List.take_of_length_le (by simp),e1]
 rw [e2]
 exact ⟨.int ns.sum,H,I.kept (t':=tk) hk,⟨t',rfl⟩,q⟩
end
end L2
namespace L2
open PySem PySem.Spec PyProof.Rows
inductive Dt where
 | non | bl (b:Bool) | int (i:Int) | str (x:Str) | tup (ds:List Dt) | lst (ds:List Dt)
mutual
def qg (K:PySem.W.Frag) (H:Hp) : Dt -> V -> Prop
 | .non,v=>v = .non
 | .bl b,v=>v = .bl b
 | .int i,v=>v = .int i
 | .str x,v=>v = .str x
 | .tup ds,v=>∃ a xs,v = .ref a /\ SqT K H a xs /\ xk K H ds xs
 | .lst ds,v=>∃ a xs,v = .ref a /\ SqL K H a xs /\ xk K H ds xs
def xk (K:PySem.W.Frag) (H:Hp) : List Dt -> List V -> Prop
 | [],xs=>xs = []
 | d :: ds,xs=>∃ x r,xs = x :: r /\ qg K H d x /\ xk K H ds r
end
mutual
def eqD:Dt -> Dt -> Bool
 | .non,.non=>true
 | .bl a,.bl b=>a == b
 | .bl a,.int b=>(if a then 1 else 0) == b
 | .int a,.bl b=>a == (if b then 1 else 0)
 | .int a,.int b=>a == b
 | .str a,.str b=>a == b
 | .tup as,.tup bs=>jo2 as bs
 | .lst as,.lst bs=>jo2 as bs
 | _,_=>false
def jo2:List Dt -> List Dt -> Bool
 | [],[]=>true
 | a :: as,b :: bs=>eqD a b && jo2 as bs
 | _,_=>false
end
mutual
def jhi:Dt -> Nat
 | .tup ds=>jcl ds + 1
 | .lst ds=>jcl ds + 1
 | _=>0
def jcl:List Dt -> Nat
 | []=>0
 | d :: ds=>max (jhi d) (jcl ds)
end
def jpt (ds es:List Dt) (j:Nat) : Bool:=match ds[j]?,es[j]? with
 | some a,some b=>eqD a b
 | _,_=>true
theorem jck : ∀ (ds es:List Dt),((List.range (min ds.length es.length)).all (jpt ds es) && (ds.length == es.length)) = jo2 ds es
 | [],[]=>by simp [jo2]
 | [],e :: es=>by simp [jo2]
 | d :: ds,[]=>by simp [jo2]
 | d :: ds,e :: es=>by
  have ih:=jck ds es
  have e1:min (d :: ds).length (e :: es).length = min ds.length es.length + 1:=by simp only [length_cons]; omega
  have e2:((d :: ds).length == (e :: es).length) = (ds.length == es.length):=by simp
  have e3:(jpt (d :: ds) (e :: es) ∘ Nat.succ) = jpt ds es:=by funext j; simp [jpt,Function.comp]
  have e4:jpt (d :: ds) (e :: es) 0 = eqD d e:=by simp [jpt]
  rw [e1,e2,List.range_succ_eq_map,List.all_cons,List.all_map,e3,e4,Bool.and_assoc,ih,jo2]
theorem xk.length {K:PySem.W.Frag} {H:Hp} : ∀ {ds:List Dt} {xs:List V},xk K H ds xs -> ds.length = xs.length
 | [],xs,h=>by
  rw [xk] at h
  rw [h]
  rfl
 | d :: ds,xs,h=>by
  rw [xk] at h
  obtain ⟨x,r,rfl,_,h2⟩:=h
  rw [length_cons,length_cons,xk.length h2]
theorem xk.get {K:PySem.W.Frag} {H:Hp} : ∀ {ds:List Dt} {xs:List V} {j:Nat} {x:V},xk K H ds xs -> xs[j]? = some x -> ∃ d,ds[j]? = some d /\ qg K H d x
 | [],xs,j,x,h,e=>by
  rw [xk] at h
  subst h
  simp at e
 | d :: ds,xs,j,x,h,e=>by
  rw [xk] at h
  obtain ⟨y,r,rfl,h1,h2⟩:=h
  cases j with
  | zero=>
   have e':y = x:=by simpa using e
   subst e'
   exact ⟨d,by simp,h1⟩
  | succ j=>
   obtain ⟨d',q1,q2⟩:=xk.get (j:=j) h2 (by simpa using e)
   exact ⟨d',by simpa using q1,q2⟩
theorem jw0 : ∀ {ds:List Dt} {j:Nat} {d:Dt},ds[j]? = some d -> jhi d <= jcl ds
 | [],j,d,e=>by simp at e
 | c :: ds,j,d,e=>by
  rw [jcl]
  cases j with
  | zero=>
   have e':c = d:=by simpa using e
   subst e'
   exact Nat.le_max_left _ _
  | succ j=>exact le_trans (jw0 (j:=j) (by simpa using e)) (Nat.le_max_right _ _)
section
variable {X:Cx} {pins:List (Addr × Obj)} {U : St} {H:Hp} {s:Shared}
theorem ji2 (I:Inv X pins U H s) {a:Addr} {xs ys:List V} (h:SqL X.K H a xs) (h':SqT X.K H a ys) : False:=by
 obtain ⟨_,_,p,_⟩:=I.list h
 obtain ⟨_,_,q,_⟩:=I.tuple h'
 obtain ⟨o,e,c,_⟩:=p.isList
 obtain ⟨o',e',c',_⟩:=q
 rw [e] at e'
 cases e'
 rw [c] at c'
 exact absurd c' (by decide)
mutual
theorem jos (I:Inv X pins U H s) : ∀ (d e:Dt) (x:V),qg X.K H d x -> qg X.K H e x -> eqD d e = true
 | .non,e,x,h,k=>by
  rw [qg] at h
  subst h
  cases e <;> rw [qg] at k <;> first | (obtain ⟨_,_,z,_⟩:=k; cases z) | rfl | cases k
 | .bl b,e,x,h,k=>by
  rw [qg] at h
  subst h
  cases e <;> rw [qg] at k <;> first | (obtain ⟨_,_,z,_⟩:=k; cases z) | (cases k; simp [eqD]; done) | cases k
 | .int b,e,x,h,k=>by
  rw [qg] at h
  subst h
  cases e <;> rw [qg] at k <;> first | (obtain ⟨_,_,z,_⟩:=k; cases z) | (cases k; simp [eqD]; done) | cases k
 | .str b,e,x,h,k=>by
  rw [qg] at h
  subst h
  cases e <;> rw [qg] at k <;> first | (obtain ⟨_,_,z,_⟩:=k; cases z) | (cases k; simp [eqD]; done) | cases k
 | .tup ds,e,x,h,k=>by
  rw [qg] at h
  obtain ⟨a,xs,rfl,h1,h2⟩:=h
  cases e with
  | tup es=>
   rw [qg] at k
   obtain ⟨b,ys,z,k1,k2⟩:=k
   cases z
   have e:=I.jnv k1 h1
   subst e
   rw [eqD]
   exact jmc I ds es _ h2 k2
  | lst es=>
   rw [qg] at k
   obtain ⟨b,ys,z,k1,k2⟩:=k
   cases z
   exact (ji2 I k1 h1).elim
  | non=>rw [qg] at k; cases k
  | bl b=>rw [qg] at k; cases k
  | int b=>rw [qg] at k; cases k
  | str b=>rw [qg] at k; cases k
 | .lst ds,e,x,h,k=>by
  rw [qg] at h
  obtain ⟨a,xs,rfl,h1,h2⟩:=h
  cases e with
  | lst es=>
   rw [qg] at k
   obtain ⟨b,ys,z,k1,k2⟩:=k
   cases z
   have e:=I.jux k1 h1
   subst e
   rw [eqD]
   exact jmc I ds es _ h2 k2
  | tup es=>
   rw [qg] at k
   obtain ⟨b,ys,z,k1,k2⟩:=k
   cases z
   exact (ji2 I h1 k1).elim
  | non=>rw [qg] at k; cases k
  | bl b=>rw [qg] at k; cases k
  | int b=>rw [qg] at k; cases k
  | str b=>rw [qg] at k; cases k
theorem jmc (I:Inv X pins U H s) : ∀ (ds es:List Dt) (xs:List V),xk X.K H ds xs -> xk X.K H es xs -> jo2 ds es = true
 | [],es,xs,h,k=>by
  rw [xk] at h
  subst h
  cases es with
  | nil=>rw [jo2]
  | cons e es=>
   rw [xk] at k
   obtain ⟨_,_,z,_⟩:=k
   cases z
 | d :: ds,es,xs,h,k=>by
  rw [xk] at h
  obtain ⟨x,r,rfl,h1,h2⟩:=h
  cases es with
  | nil=>rw [xk] at k; cases k
  | cons e es=>
   rw [xk] at k
   obtain ⟨y,r',z,k1,k2⟩:=k
   cases z
   rw [jo2,jos I d e _ h1 k1,jmc I ds es _ h2 k2]
   rfl
end
theorem items_eqAt {A:Around} {ds es:List Dt} {xs ys:List V} {is js:List Value} (hd:xk X.K H ds xs) (he:xk X.K H es ys) (vi:Vals xs is) (vj:Vals ys js)
  (rec : ∀ d e x y u v,d ∈ ds -> jhi d <= jcl ds -> qg X.K H d x -> qg X.K H e y -> RelV x u -> RelV y v -> SeqAt.EqAt A s u v (eqD d e)) :
  ∀ j (h1:j < is.toArray.size) (h2:j < js.toArray.size),SeqAt.EqAt A s is.toArray[j] js.toArray[j] (jpt ds es j):=λj h1 h2=>by
 have h1':j < is.length:=by simpa using h1
 have h2':j < js.length:=by simpa using h2
 have lx:j < xs.length:=by rw [vi.length]; exact h1'
 have ly:j < ys.length:=by rw [vj.length]; exact h2'
 obtain ⟨u,eu,ru⟩:=vi.get (i:=j) (x:=xs[j]) (by simp [lx])
 obtain ⟨v,ev,rv⟩:=vj.get (i:=j) (x:=ys[j]) (by simp [ly])
 obtain ⟨d,ed,kd⟩:=hd.get (j:=j) (x:=xs[j]) (by simp [lx])
 obtain ⟨e,ee,ke⟩:=he.get (j:=j) (x:=ys[j]) (by simp [ly])
 have e1:is.toArray[j] = u:=by
  rw [getElem?_eq_getElem h1'] at eu
  simpa using eu
 have e2:js.toArray[j] = v:=by
  rw [getElem?_eq_getElem h2'] at ev
  simpa using ev
 have e3:jpt ds es j = eqD d e:=by simp [jpt,ed,ee]
 rw [e1,e2,e3]
 exact rec d e _ _ u v (mem_of_getElem? ed) (jw0 ed) kd ke ru rv
theorem jh8 {ds es:List Dt} {xs ys:List V} {is js:List Value} (hd:xk X.K H ds xs) (he:xk X.K H es ys) (vi:Vals xs is) (vj:Vals ys js) : ds.length = is.toArray.size /\ es.length = js.toArray.size:=by
 rw [hd.length,he.length,vi.length,vj.length]
 simp
theorem jo6 {ds es:List Dt} (h:ds.length = es.length) : (List.range ds.length).all (jpt ds es) = jo2 ds es:=by
 have q:=jck ds es
 rw [<- h,Nat.min_self,beq_self_eq_true,Bool.and_true] at q
 exact q
theorem jrp {ds es:List Dt} (h:ds.length ≠ es.length) : jo2 ds es = false:=by
 have q:=jck ds es
 rw [show (ds.length == es.length) = false from by simpa using h,Bool.and_false] at q
 exact q.symm
theorem jqi (I:Inv X pins U H s) : ∀ (n:Nat) (d e:Dt) (x y:V) (u v:Value) (A:Around),jhi d <= n -> A.units + n < cLine -> qg X.K H d x -> qg X.K H e y -> RelV x u -> RelV y v -> SeqAt.EqAt A s u v (eqD d e):=by
 intro n
 induction n with
 | zero=>
  intro d e x y u v A hn hu hd he ru rv
  have hu':A.units < cLine:=by omega
  cases d with
  | tup ds=>rw [jhi] at hn; omega
  | lst ds=>rw [jhi] at hn; omega
  | non=>
   rw [qg] at hd; subst hd; cases ru
   cases e <;> rw [qg] at he
   case non=>subst he; cases rv; exact SeqAt.EqAt.same _
   case bl b=>subst he; cases rv; exact SeqAt.EqAt.none_bool b
   case int b=>subst he; obtain ⟨t,rfl⟩:=rv; exact SeqAt.EqAt.none_int b t
   case str b=>subst he; obtain ⟨t,rfl⟩:=rv; exact SeqAt.EqAt.none_str b t
   case tup es=>obtain ⟨b,ys,rfl,k1,k2⟩:=he; cases rv; obtain ⟨js,vj,pj,_⟩:=I.tuple k1; exact SeqAt.EqAt.none_tuple pj hu'
   case lst es=>obtain ⟨b,ys,rfl,k1,k2⟩:=he; cases rv; obtain ⟨js,vj,pj,_⟩:=I.list k1; exact SeqAt.EqAt.none_list pj.isList hu'
  | bl a=>
   rw [qg] at hd; subst hd; cases ru
   cases e <;> rw [qg] at he
   case non=>subst he; cases rv; exact SeqAt.EqAt.bool_none a
   case bl b=>subst he; cases rv; exact SeqAt.EqAt.bool_bool a b
   case int b=>subst he; obtain ⟨t,rfl⟩:=rv; exact SeqAt.EqAt.bool_int a b t
   case str b=>subst he; obtain ⟨t,rfl⟩:=rv; exact SeqAt.EqAt.bool_str a b t
   case tup es=>obtain ⟨b,ys,rfl,k1,k2⟩:=he; cases rv; obtain ⟨js,vj,pj,_⟩:=I.tuple k1; exact SeqAt.EqAt.bool_tuple a pj hu'
   case lst es=>obtain ⟨b,ys,rfl,k1,k2⟩:=he; cases rv; obtain ⟨js,vj,pj,_⟩:=I.list k1; exact SeqAt.EqAt.bool_list a pj.isList hu'
  | int a=>
   rw [qg] at hd; subst hd; obtain ⟨t0,rfl⟩:=ru
   cases e <;> rw [qg] at he
   case non=>subst he; cases rv; exact SeqAt.EqAt.int_none a t0
   case bl b=>subst he; cases rv; exact SeqAt.EqAt.int_bool a t0 b
   case int b=>subst he; obtain ⟨t,rfl⟩:=rv; exact SeqAt.EqAt.int_int a t0 b t
   case str b=>subst he; obtain ⟨t,rfl⟩:=rv; exact SeqAt.EqAt.int_str a t0 b t
   case tup es=>obtain ⟨b,ys,rfl,k1,k2⟩:=he; cases rv; obtain ⟨js,vj,pj,_⟩:=I.tuple k1; exact SeqAt.EqAt.int_tuple a t0 pj hu'
   case lst es=>obtain ⟨b,ys,rfl,k1,k2⟩:=he; cases rv; obtain ⟨js,vj,pj,_⟩:=I.list k1; exact SeqAt.EqAt.int_list a t0 pj.isList hu'
  | str a=>
   rw [qg] at hd; subst hd; obtain ⟨t0,rfl⟩:=ru
   cases e <;> rw [qg] at he
   case non=>subst he; cases rv; exact SeqAt.EqAt.str_none a t0
   case bl b=>subst he; cases rv; exact SeqAt.EqAt.str_bool a t0 b
   case int b=>subst he; obtain ⟨t,rfl⟩:=rv; exact SeqAt.EqAt.str_int a t0 b t
   case str b=>subst he; obtain ⟨t,rfl⟩:=rv; exact SeqAt.EqAt.str_str a t0 b t
   case tup es=>obtain ⟨b,ys,rfl,k1,k2⟩:=he; cases rv; obtain ⟨js,vj,pj,_⟩:=I.tuple k1; exact SeqAt.EqAt.str_tuple a t0 pj hu'
   case lst es=>obtain ⟨b,ys,rfl,k1,k2⟩:=he; cases rv; obtain ⟨js,vj,pj,_⟩:=I.list k1; exact SeqAt.EqAt.str_list a t0 pj.isList hu'
 | succ n ih=>
  intro d e x y u v A hn hu hd he ru rv
  have hu':A.units < cLine:=by omega
  have hu1:A.in1.units + n < cLine:=by rw [units_in1]; omega
  cases d with
  | tup ds=>
   rw [jhi] at hn
   have hd0:=hd
   rw [qg] at hd
   obtain ⟨a,xs,rfl,k1,k2⟩:=hd
   cases ru
   obtain ⟨is,vi,pi,_⟩:=I.tuple k1
   cases e with
   | tup es=>
    have he0:=he
    rw [qg] at he
    obtain ⟨b,ys,rfl,l1,l2⟩:=he
    cases rv
    obtain ⟨js,vj,pj,_⟩:=I.tuple l1
    by_cases hab:a = b
    .subst hab
     rw [jos I _ _ _ hd0 he0]
     exact SeqAt.EqAt.same _
    .have q:=SeqAt.RcAt.tuples (A:=A) pi pj hu' (items_eqAt k2 l2 vi vj λd e x y u v _ hdd=>ih d e x y u v A.in1 (by omega) hu1)
     obtain ⟨z1,z2⟩:=jh8 k2 l2 vi vj
     rw [<- z1,<- z2,jck] at q
     rw [eqD]
     exact SeqAt.EqAt.of_refs hab q
   | lst es=>rw [qg] at he; obtain ⟨b,ys,rfl,l1,l2⟩:=he; cases rv; obtain ⟨js,vj,pj,_⟩:=I.list l1; exact SeqAt.EqAt.tuple_list pi pj.isList hu'
   | non=>rw [qg] at he; subst he; cases rv; exact SeqAt.EqAt.tuple_none pi hu'
   | bl b=>rw [qg] at he; subst he; cases rv; exact SeqAt.EqAt.tuple_bool b pi hu'
   | int b=>rw [qg] at he; subst he; obtain ⟨t,rfl⟩:=rv; exact SeqAt.EqAt.tuple_int b t pi hu'
   | str b=>rw [qg] at he; subst he; obtain ⟨t,rfl⟩:=rv; exact SeqAt.EqAt.tuple_str b t pi hu'
  | lst ds=>
   rw [jhi] at hn
   have hd0:=hd
   rw [qg] at hd
   obtain ⟨a,xs,rfl,k1,k2⟩:=hd
   cases ru
   obtain ⟨is,vi,pi,_⟩:=I.list k1
   cases e with
   | lst es=>
    have he0:=he
    rw [qg] at he
    obtain ⟨b,ys,rfl,l1,l2⟩:=he
    cases rv
    obtain ⟨js,vj,pj,_⟩:=I.list l1
    obtain ⟨z1,z2⟩:=jh8 k2 l2 vi vj
    by_cases hab:a = b
    .subst hab
     rw [jos I _ _ _ hd0 he0]
     exact SeqAt.EqAt.same _
    .rw [eqD]
     by_cases hsz:ds.length = es.length
     .have q:=SeqAt.RcAt.lists (A:=A) pi.isList pj.isList (by omega) hu' (items_eqAt k2 l2 vi vj λd e x y u v _ hdd=>ih d e x y u v A.in1 (by omega) hu1)
      rw [<- z1,jo6 hsz] at q
      exact SeqAt.EqAt.of_refs hab q
     .rw [jrp hsz]
      exact SeqAt.EqAt.of_refs hab (SeqAt.RcAt.lists_lengths pi.isList pj.isList (by rw [<- z1,<- z2]; simpa using hsz) hu')
   | tup es=>rw [qg] at he; obtain ⟨b,ys,rfl,l1,l2⟩:=he; cases rv; obtain ⟨js,vj,pj,_⟩:=I.tuple l1; exact SeqAt.EqAt.list_tuple pi.isList pj hu'
   | non=>rw [qg] at he; subst he; cases rv; exact SeqAt.EqAt.list_none pi.isList hu'
   | bl b=>rw [qg] at he; subst he; cases rv; exact SeqAt.EqAt.list_bool b pi.isList hu'
   | int b=>rw [qg] at he; subst he; obtain ⟨t,rfl⟩:=rv; exact SeqAt.EqAt.list_int b t pi.isList hu'
   | str b=>rw [qg] at he; subst he; obtain ⟨t,rfl⟩:=rv; exact SeqAt.EqAt.list_str b t pi.isList hu'
  | non=>exact ih _ _ _ _ _ _ _ (zero_le n) (by omega) hd he ru rv
  | bl b=>exact ih _ _ _ _ _ _ _ (zero_le n) (by omega) hd he ru rv
  | int b=>exact ih _ _ _ _ _ _ _ (zero_le n) (by omega) hd he ru rv
  | str b=>exact ih _ _ _ _ _ _ _ (zero_le n) (by omega) hd he ru rv
end
end L2
namespace L2
open PySem PySem.Spec PyProof.Rows
section
variable {X:Cx} {pins:List (Addr × Obj)} {U : St} {H:Hp} {s:Shared}
theorem j36 (I:Inv X pins U H s) {n:Nat} {d e:Dt} {x y:V} {u v:Value} {A:Around} (hn:jhi d <= n) (hu:A.units + n < cLine) (hd:qg X.K H d x) (he:qg X.K H e y) (ru:RelV x u) (rv:RelV y v) : SeqAt.RcAt A s u v (eqD d e):=by
 have hu':A.units < cLine:=by omega
 cases d with
 | non=>
  rw [qg] at hd; subst hd; cases ru
  cases e <;> rw [qg] at he
  case non=>subst he; cases rv; exact SeqAt.RcAt.none_none
  case bl b=>subst he; cases rv; exact SeqAt.RcAt.none_bool b
  case int b=>subst he; obtain ⟨t,rfl⟩:=rv; exact SeqAt.RcAt.none_int b t
  case str b=>subst he; obtain ⟨t,rfl⟩:=rv; exact SeqAt.RcAt.none_str b t
  case tup es=>obtain ⟨b,ys,rfl,k1,k2⟩:=he; cases rv; obtain ⟨js,vj,pj,_⟩:=I.tuple k1; exact SeqAt.RcAt.none_tuple pj hu'
  case lst es=>obtain ⟨b,ys,rfl,k1,k2⟩:=he; cases rv; obtain ⟨js,vj,pj,_⟩:=I.list k1; exact SeqAt.RcAt.none_list pj.isList hu'
 | bl a=>
  rw [qg] at hd; subst hd; cases ru
  cases e <;> rw [qg] at he
  case non=>subst he; cases rv; exact SeqAt.RcAt.bool_none a
  case bl b=>subst he; cases rv; exact SeqAt.RcAt.bool_bool a b
  case int b=>subst he; obtain ⟨t,rfl⟩:=rv; exact SeqAt.RcAt.bool_int a b t
  case str b=>subst he; obtain ⟨t,rfl⟩:=rv; exact SeqAt.RcAt.bool_str a b t
  case tup es=>obtain ⟨b,ys,rfl,k1,k2⟩:=he; cases rv; obtain ⟨js,vj,pj,_⟩:=I.tuple k1; exact SeqAt.RcAt.bool_tuple a pj hu'
  case lst es=>obtain ⟨b,ys,rfl,k1,k2⟩:=he; cases rv; obtain ⟨js,vj,pj,_⟩:=I.list k1; exact SeqAt.RcAt.bool_list a pj.isList hu'
 | int a=>
  rw [qg] at hd; subst hd; obtain ⟨t0,rfl⟩:=ru
  cases e <;> rw [qg] at he
  case non=>subst he; cases rv; exact SeqAt.RcAt.int_none a t0
  case bl b=>subst he; cases rv; exact SeqAt.RcAt.int_bool a t0 b
  case int b=>subst he; obtain ⟨t,rfl⟩:=rv; exact SeqAt.RcAt.int_int a t0 b t
  case str b=>subst he; obtain ⟨t,rfl⟩:=rv; exact SeqAt.RcAt.int_str a t0 b t
  case tup es=>obtain ⟨b,ys,rfl,k1,k2⟩:=he; cases rv; obtain ⟨js,vj,pj,_⟩:=I.tuple k1; exact SeqAt.RcAt.int_tuple a t0 pj hu'
  case lst es=>obtain ⟨b,ys,rfl,k1,k2⟩:=he; cases rv; obtain ⟨js,vj,pj,_⟩:=I.list k1; exact SeqAt.RcAt.int_list a t0 pj.isList hu'
 | str a=>
  rw [qg] at hd; subst hd; obtain ⟨t0,rfl⟩:=ru
  cases e <;> rw [qg] at he
  case non=>subst he; cases rv; exact SeqAt.RcAt.str_none a t0
  case bl b=>subst he; cases rv; exact SeqAt.RcAt.str_bool a t0 b
  case int b=>subst he; obtain ⟨t,rfl⟩:=rv; exact SeqAt.RcAt.str_int a t0 b t
  case str b=>subst he; obtain ⟨t,rfl⟩:=rv; exact SeqAt.RcAt.str_str a t0 b t
  case tup es=>obtain ⟨b,ys,rfl,k1,k2⟩:=he; cases rv; obtain ⟨js,vj,pj,_⟩:=I.tuple k1; exact SeqAt.RcAt.str_tuple a t0 pj hu'
  case lst es=>obtain ⟨b,ys,rfl,k1,k2⟩:=he; cases rv; obtain ⟨js,vj,pj,_⟩:=I.list k1; exact SeqAt.RcAt.str_list a t0 pj.isList hu'
 | tup ds=>
  rw [jhi] at hn
  have hu1:A.in1.units + (n - 1) < cLine:=by rw [units_in1]; omega
  rw [qg] at hd
  obtain ⟨a,xs,rfl,k1,k2⟩:=hd
  cases ru
  obtain ⟨is,vi,pi,_⟩:=I.tuple k1
  cases e with
  | tup es=>
   rw [qg] at he
   obtain ⟨b,ys,rfl,l1,l2⟩:=he
   cases rv
   obtain ⟨js,vj,pj,_⟩:=I.tuple l1
   have q:=SeqAt.RcAt.tuples (A:=A) pi pj hu' (items_eqAt k2 l2 vi vj λd e x y u v _ hdd=>jqi I (n - 1) d e x y u v A.in1 (by omega) hu1)
   obtain ⟨z1,z2⟩:=jh8 k2 l2 vi vj
   rw [<- z1,<- z2,jck] at q
   rw [eqD]
   exact q
  | lst es=>rw [qg] at he; obtain ⟨b,ys,rfl,l1,l2⟩:=he; cases rv; obtain ⟨js,vj,pj,_⟩:=I.list l1; exact SeqAt.RcAt.tuple_list pi pj.isList hu'
  | non=>rw [qg] at he; subst he; cases rv; exact SeqAt.RcAt.tuple_none pi hu'
  | bl b=>rw [qg] at he; subst he; cases rv; exact SeqAt.RcAt.tuple_bool b pi hu'
  | int b=>rw [qg] at he; subst he; obtain ⟨t,rfl⟩:=rv; exact SeqAt.RcAt.tuple_int b t pi hu'
  | str b=>rw [qg] at he; subst he; obtain ⟨t,rfl⟩:=rv; exact SeqAt.RcAt.tuple_str b t pi hu'
 | lst ds=>
  rw [jhi] at hn
  have hu1:A.in1.units + (n - 1) < cLine:=by rw [units_in1]; omega
  rw [qg] at hd
  obtain ⟨a,xs,rfl,k1,k2⟩:=hd
  cases ru
  obtain ⟨is,vi,pi,_⟩:=I.list k1
  cases e with
  | lst es=>
   rw [qg] at he
   obtain ⟨b,ys,rfl,l1,l2⟩:=he
   cases rv
   obtain ⟨js,vj,pj,_⟩:=I.list l1
   obtain ⟨z1,z2⟩:=jh8 k2 l2 vi vj
   rw [eqD]
   by_cases hsz:ds.length = es.length
   .have q:=SeqAt.RcAt.lists (A:=A) pi.isList pj.isList (by omega) hu' (items_eqAt k2 l2 vi vj λd e x y u v _ hdd=>jqi I (n - 1) d e x y u v A.in1 (by omega) hu1)
    rw [<- z1,jo6 hsz] at q
    exact q
   .rw [jrp hsz]
    exact SeqAt.RcAt.lists_lengths pi.isList pj.isList (by rw [<- z1,<- z2]; simpa using hsz) hu'
  | tup es=>rw [qg] at he; obtain ⟨b,ys,rfl,l1,l2⟩:=he; cases rv; obtain ⟨js,vj,pj,_⟩:=I.tuple l1; exact SeqAt.RcAt.list_tuple pi.isList pj hu'
  | non=>rw [qg] at he; subst he; cases rv; exact SeqAt.RcAt.list_none pi.isList hu'
  | bl b=>rw [qg] at he; subst he; cases rv; exact SeqAt.RcAt.list_bool b pi.isList hu'
  | int b=>rw [qg] at he; subst he; obtain ⟨t,rfl⟩:=rv; exact SeqAt.RcAt.list_int b t pi.isList hu'
  | str b=>rw [qg] at he; subst he; obtain ⟨t,rfl⟩:=rv; exact SeqAt.RcAt.list_str b t pi.isList hu'
theorem j0c (I:Inv X pins U H s) {n:Nat} {d e:Dt} {x y:V} {u v:Value} {A:Around} (hn:jhi d <= n) (hu:A.units + n < cLine) (hd:qg X.K H d x) (he:qg X.K H e y) (ru:RelV x u) (rv:RelV y v) : SeqAt.RcNeAt A s u v (!(eqD d e)):=by
 have hu':A.units < cLine:=by omega
 cases d with
 | non=>
  rw [qg] at hd; subst hd; cases ru
  cases e <;> rw [qg] at he
  case non=>subst he; cases rv; exact SeqAt.RcNeAt.none_none
  case bl b=>subst he; cases rv; exact SeqAt.RcNeAt.none_bool b
  case int b=>subst he; obtain ⟨t,rfl⟩:=rv; exact SeqAt.RcNeAt.none_int b t
  case str b=>subst he; obtain ⟨t,rfl⟩:=rv; exact SeqAt.RcNeAt.none_str b t
  case tup es=>obtain ⟨b,ys,rfl,k1,k2⟩:=he; cases rv; obtain ⟨js,vj,pj,_⟩:=I.tuple k1; exact SeqAt.RcNeAt.none_tuple pj hu'
  case lst es=>obtain ⟨b,ys,rfl,k1,k2⟩:=he; cases rv; obtain ⟨js,vj,pj,_⟩:=I.list k1; exact SeqAt.RcNeAt.none_list pj.isList hu'
 | bl a=>
  rw [qg] at hd; subst hd; cases ru
  cases e <;> rw [qg] at he
  case non=>subst he; cases rv; exact SeqAt.RcNeAt.bool_none a
  case bl b=>subst he; cases rv; exact SeqAt.RcNeAt.bool_bool a b
  case int b=>subst he; obtain ⟨t,rfl⟩:=rv; exact SeqAt.RcNeAt.bool_int a b t
  case str b=>subst he; obtain ⟨t,rfl⟩:=rv; exact SeqAt.RcNeAt.bool_str a b t
  case tup es=>obtain ⟨b,ys,rfl,k1,k2⟩:=he; cases rv; obtain ⟨js,vj,pj,_⟩:=I.tuple k1; exact SeqAt.RcNeAt.bool_tuple a pj hu'
  case lst es=>obtain ⟨b,ys,rfl,k1,k2⟩:=he; cases rv; obtain ⟨js,vj,pj,_⟩:=I.list k1; exact SeqAt.RcNeAt.bool_list a pj.isList hu'
 | int a=>
  rw [qg] at hd; subst hd; obtain ⟨t0,rfl⟩:=ru
  cases e <;> rw [qg] at he
  case non=>subst he; cases rv; exact SeqAt.RcNeAt.int_none a t0
  case bl b=>subst he; cases rv; exact SeqAt.RcNeAt.int_bool a t0 b
  case int b=>subst he; obtain ⟨t,rfl⟩:=rv; exact SeqAt.RcNeAt.int_int a t0 b t
  case str b=>subst he; obtain ⟨t,rfl⟩:=rv; exact SeqAt.RcNeAt.int_str a t0 b t
  case tup es=>obtain ⟨b,ys,rfl,k1,k2⟩:=he; cases rv; obtain ⟨js,vj,pj,_⟩:=I.tuple k1; exact SeqAt.RcNeAt.int_tuple a t0 pj hu'
  case lst es=>obtain ⟨b,ys,rfl,k1,k2⟩:=he; cases rv; obtain ⟨js,vj,pj,_⟩:=I.list k1; exact SeqAt.RcNeAt.int_list a t0 pj.isList hu'
 | str a=>
  rw [qg] at hd; subst hd; obtain ⟨t0,rfl⟩:=ru
  cases e <;> rw [qg] at he
  case non=>subst he; cases rv; exact SeqAt.RcNeAt.str_none a t0
  case bl b=>subst he; cases rv; exact SeqAt.RcNeAt.str_bool a t0 b
  case int b=>subst he; obtain ⟨t,rfl⟩:=rv; exact SeqAt.RcNeAt.str_int a t0 b t
  case str b=>subst he; obtain ⟨t,rfl⟩:=rv; exact SeqAt.RcNeAt.str_str a t0 b t
  case tup es=>obtain ⟨b,ys,rfl,k1,k2⟩:=he; cases rv; obtain ⟨js,vj,pj,_⟩:=I.tuple k1; exact SeqAt.RcNeAt.str_tuple a t0 pj hu'
  case lst es=>obtain ⟨b,ys,rfl,k1,k2⟩:=he; cases rv; obtain ⟨js,vj,pj,_⟩:=I.list k1; exact SeqAt.RcNeAt.str_list a t0 pj.isList hu'
 | tup ds=>
  rw [jhi] at hn
  have hu1:A.in1.units + (n - 1) < cLine:=by rw [units_in1]; omega
  rw [qg] at hd
  obtain ⟨a,xs,rfl,k1,k2⟩:=hd
  cases ru
  obtain ⟨is,vi,pi,_⟩:=I.tuple k1
  cases e with
  | tup es=>
   rw [qg] at he
   obtain ⟨b,ys,rfl,l1,l2⟩:=he
   cases rv
   obtain ⟨js,vj,pj,_⟩:=I.tuple l1
   have q:=SeqAt.RcNeAt.tuples (A:=A) pi pj hu' (items_eqAt k2 l2 vi vj λd e x y u v _ hdd=>jqi I (n - 1) d e x y u v A.in1 (by omega) hu1)
   obtain ⟨z1,z2⟩:=jh8 k2 l2 vi vj
   rw [<- z1,<- z2,jck] at q
   rw [eqD]
   exact q
  | lst es=>rw [qg] at he; obtain ⟨b,ys,rfl,l1,l2⟩:=he; cases rv; obtain ⟨js,vj,pj,_⟩:=I.list l1; exact SeqAt.RcNeAt.tuple_list pi pj.isList hu'
  | non=>rw [qg] at he; subst he; cases rv; exact SeqAt.RcNeAt.tuple_none pi hu'
  | bl b=>rw [qg] at he; subst he; cases rv; exact SeqAt.RcNeAt.tuple_bool b pi hu'
  | int b=>rw [qg] at he; subst he; obtain ⟨t,rfl⟩:=rv; exact SeqAt.RcNeAt.tuple_int b t pi hu'
  | str b=>rw [qg] at he; subst he; obtain ⟨t,rfl⟩:=rv; exact SeqAt.RcNeAt.tuple_str b t pi hu'
 | lst ds=>
  rw [jhi] at hn
  have hu1:A.in1.units + (n - 1) < cLine:=by rw [units_in1]; omega
  rw [qg] at hd
  obtain ⟨a,xs,rfl,k1,k2⟩:=hd
  cases ru
  obtain ⟨is,vi,pi,_⟩:=I.list k1
  cases e with
  | lst es=>
   rw [qg] at he
   obtain ⟨b,ys,rfl,l1,l2⟩:=he
   cases rv
   obtain ⟨js,vj,pj,_⟩:=I.list l1
   obtain ⟨z1,z2⟩:=jh8 k2 l2 vi vj
   rw [eqD]
   by_cases hsz:ds.length = es.length
   .have q:=SeqAt.RcNeAt.lists (A:=A) pi.isList pj.isList (by omega) hu' (items_eqAt k2 l2 vi vj λd e x y u v _ hdd=>jqi I (n - 1) d e x y u v A.in1 (by omega) hu1)
    rw [<- z1,jo6 hsz] at q
    exact q
   .rw [jrp hsz]
    exact SeqAt.RcNeAt.lists_lengths pi.isList pj.isList (by rw [<- z1,<- z2]; simpa using hsz) hu'
  | tup es=>rw [qg] at he; obtain ⟨b,ys,rfl,l1,l2⟩:=he; cases rv; obtain ⟨js,vj,pj,_⟩:=I.tuple l1; exact SeqAt.RcNeAt.list_tuple pi.isList pj hu'
  | non=>rw [qg] at he; subst he; cases rv; exact SeqAt.RcNeAt.list_none pi.isList hu'
  | bl b=>rw [qg] at he; subst he; cases rv; exact SeqAt.RcNeAt.list_bool b pi.isList hu'
  | int b=>rw [qg] at he; subst he; obtain ⟨t,rfl⟩:=rv; exact SeqAt.RcNeAt.list_int b t pi.isList hu'
  | str b=>rw [qg] at he; subst he; obtain ⟨t,rfl⟩:=rv; exact SeqAt.RcNeAt.list_str b t pi.isList hu'
end
def j8d (K:PySem.W.Frag) : R2:=λx y H Q=>∃ d e,qg K H d x /\ qg K H e y /\ jhi d <= 60 /\ Q (.bl (eqD d e)) H
def j8n (K:PySem.W.Frag) : R2:=λx y H Q=>∃ d e,qg K H d x /\ qg K H e y /\ jhi d <= 60 /\ Q (.bl (!eqD d e)) H
section
variable {X:Cx}
theorem j06 (hu:X.A.units + 64 < cLine) : OpR X (compareOp .Eq) (j8d X.K):=by
 intro pins s U H x y v u Q I rx ry h
 obtain ⟨d,e,hd,he,hn,q⟩:=h
 exact j36 I hn (by omega) hd he rx ry _ _ _ _ ⟨.bl _,H,I,rfl,q⟩
theorem jkq (hu:X.A.units + 64 < cLine) : OpR X (compareOp .NotEq) (j8n X.K):=by
 intro pins s U H x y v u Q I rx ry h
 obtain ⟨d,e,hd,he,hn,q⟩:=h
 exact j0c I hn (by omega) hd he rx ry _ _ _ _ ⟨.bl _,H,I,rfl,q⟩
theorem j4c:OpR X (compareOp .Is) (λx y H Q=>∃ a b,x = .bl a /\ y = .bl b /\ Q (.bl (a == b)) H):=by
 intro pins s U H x y v u Q I rx ry h
 obtain ⟨a,b,rfl,rfl,q⟩:=h
 cases rx
 cases ry
 exact is_bool ⟨.bl _,H,I,rfl,q⟩
end
theorem jli (K:PySem.W.Frag) (H:Hp) : ∀ ns:List Int,xk K H (ns.map Dt.int) (ns.map V.int)
 | []=>by rw [map_nil,map_nil,xk]
 | n :: ns=>by
  rw [map_cons,map_cons,xk]
  exact ⟨_,_,rfl,by rw [qg],jli K H ns⟩
theorem jex {K:PySem.W.Frag} {H:Hp} {a:Addr} {ns:List Int} (h:SqL K H a (ns.map V.int)) : qg K H (.lst (ns.map Dt.int)) (.ref a):=by
 rw [qg]
 exact ⟨a,_,rfl,h,jli K H ns⟩
theorem jsj {K:PySem.W.Frag} {H:Hp} {a:Addr} {ns:List Int} (h:SqT K H a (ns.map V.int)) : qg K H (.tup (ns.map Dt.int)) (.ref a):=by
 rw [qg]
 exact ⟨a,_,rfl,h,jli K H ns⟩
theorem jlv : ∀ ns:List Int,jcl (ns.map Dt.int) = 0
 | []=>by rw [map_nil,jcl]
 | n :: ns=>by
  show max (jhi (Dt.int n)) (jcl (ns.map Dt.int)) = 0
  rw [jlv ns]
  rfl
theorem jn8 : ∀ ms ns:List Int,jo2 (ms.map Dt.int) (ns.map Dt.int) = decide (ms = ns)
 | [],[]=>by simp [jo2]
 | [],n :: ns=>by simp [jo2]
 | m :: ms,[]=>by simp [jo2]
 | m :: ms,n :: ns=>by
  rw [map_cons,map_cons,jo2,jn8 ms ns,eqD]
  by_cases h:m = n
  .subst h; simp
  .simp [h]
theorem jx6 (ms ns:List Int) : eqD (.lst (ms.map Dt.int)) (.lst (ns.map Dt.int)) = decide (ms = ns):=by rw [eqD,jn8]
theorem jy1 (ms ns:List Int) : eqD (.tup (ms.map Dt.int)) (.tup (ns.map Dt.int)) = decide (ms = ns):=by rw [eqD,jn8]
theorem jkn (ns:List Int) : jhi (.lst (ns.map Dt.int)) <= 60:=by rw [jhi,jlv]; decide
theorem j0f (ns:List Int) : jhi (.tup (ns.map Dt.int)) <= 60:=by rw [jhi,jlv]; decide
end L2
namespace L2
open PySem PySem.Spec PyProof.Rows
section
variable {X:Cx}
def j5w (K:PySem.W.Frag) : R2:=λx y H Q=>∃ p xs i v,x = .ref p /\ y = .int i /\ SqL K H p xs /\ 0 <= i /\ xs[i.toNat]? = some v /\ Q v H
theorem jqt:j7o X (j5w X.K):=by
 intro pins s U H o i ov iv Q I ro ri h
 obtain ⟨p,xs,k,z,rfl,rfl,hq,h0,he,q⟩:=h
 cases ro
 obtain ⟨t,rfl⟩:=ri
 obtain ⟨its,r,pl,hz⟩:=I.list hq
 obtain ⟨w,ew,rw'⟩:=r.get he
 have hl:=r.length
 have hn:=jnu
 have hk:k.toNat < its.length:=(List.getElem?_eq_some_iff.mp ew).1
 exact wpAny_getItem_list pl.isList h0 (by omega) (by simpa using ew) ⟨z,H,I,rw',q⟩
end
def jwg {α : Type} : List α -> List α -> List α
 | [u0],[w0]=>[u0,w0]
 | _,_=>[]
theorem j0a {vs:List V} {us:List Value} {zs:List V} {ws:List Value} (r1:Vals vs us) (r2:Vals zs ws) : Vals (jwg vs zs) (jwg us ws):=by
 cases r1 with
 | nil=>exact .nil
 | cons a ra=>
  cases ra with
  | nil=>
   cases r2 with
   | nil=>exact .nil
   | cons b rb=>
    cases rb with
    | nil=>exact .cons a (.cons b .nil)
    | cons _ _=>exact .nil
  | cons _ _=>exact .nil
theorem j44 {K:PySem.W.Frag} {fd:FuncData} {p k:Str} {kd:Addr} {v:Value} (e:PySem.W.nsIn K kd k = some (some v)) (hp:fd.params.posonlyargs = []) (ha:fd.params.args.map (·.arg) = [p]) (hv:fd.params.vararg = none) (hk:fd.params.kwonlyargs.map (·.arg) = [k])
  (hkw:fd.params.kwarg = none) (hd:fd.defaults = .none) (hkd:fd.kwdefaults = .ref kd) (hpk:(k == p) = false) : Binds K fd [p,k] [v]:=by
 intro s us KX hl
 obtain ⟨u,rfl⟩ : ∃ u,us = [u]:=by
  match us,hl with
  | [u],_=>exact ⟨u,rfl⟩
  | _ :: _ :: _,hl=>simp at hl
 intro Mo A E Q hq
 have L:=PySem.W.looks_nsIn (M:=Mo) KX e
 unfold bindArgs
 have hz:seqItems? Value.none = pure none:=rfl
 simp only [hp,ha,hv,hk,hkw,hd,hkd,hz,map_nil,List.nil_append,length_cons,List.length_nil,List.zip_cons_cons,List.zip_nil_right,pure_bind,Option.getD_none,List.forIn_nil]
 simp [lookup_cons,hpk]
 refine wpAny_bind (L A _ E s (λ_ _ h=>h) ?_)
 simp [lookup_cons,hpk]
 exact wpAny_pure hq
end L2
namespace L2
open PySem PySem.Spec PyProof.Rows
theorem wo.there {P:Program} {w:World} {H:Hp} {h:Heap} {a:Addr} {o:HO} (x:wo P w H h a o) : ∃ ob,h.get? a = some ob:=by
 cases o with
 | lst xs=>obtain ⟨_,_,_,_,e⟩:=x; exact ⟨_,e⟩
 | tup xs=>obtain ⟨_,_,_,p⟩:=x; obtain ⟨o,e,_⟩:=p; exact ⟨_,e⟩
 | dK kvs=>obtain ⟨_,_,_,_,o,_,_,e,_⟩:=x; exact ⟨_,e⟩
 | dT kvs=>obtain ⟨_,_,_,_,o,_,_,e,_⟩:=x; exact ⟨_,e⟩
 | set S n=>obtain ⟨o,_,_,_,e,_⟩:=x; exact ⟨_,e⟩
 | ins C dx fs=>obtain ⟨_,_,_,e,_⟩:=x; exact ⟨_,e⟩
 | own y=>obtain ⟨_,e⟩:=x; exact ⟨_,e⟩
 | xd fs=>obtain ⟨_,⟨_,_,_,e,_⟩,_⟩:=x; exact ⟨_,e⟩
 | rng lo hi=>obtain ⟨_,_,_,e⟩:=x; exact ⟨_,e⟩
 | frz ob u=>obtain ⟨e,_⟩:=x; exact ⟨_,e⟩
 | tbl ps=>exact ⟨_,(show h.get? a = some _ from x)⟩
 | met f y=>exact ⟨_,(show h.get? a = some _ from x)⟩
 | ext φ=>obtain ⟨_,⟨_,e⟩,_⟩:=x; exact ⟨_,e⟩
structure Fly (P:Program) (w:World) (l:List Env) (H H':Hp) (s s':Shared) (ea:Addr) (cls:Value) : Prop where
 os:s'.os = s.os
 bare:AllBare s'.gens
 un:Un (frs l) [] H H' s.heap s'.heap
 hok:HOk P w H' s'.heap
 fly : ∃ (Bq:Heap) (t:Addr),Heap.FlyingW Bq l ea cls (.ref t) s'.heap /\ (∀ b o o',s.heap.get? b = some o -> s'.heap.get? b = some o' -> b ∉ frs l -> Bq.get? b = some o') /\ (∀ b u o',H' b = some u -> s'.heap.get? b = some o' -> Bq.get? b = some o')
 new:s.heap.get? ea = none
section
variable {X:Cx} {pins:List (Addr × Obj)} {U : St} {H H':Hp} {s s':Shared} {ea:Addr} {cls:Value}
theorem Inv.jpq (I:Inv X pins U H s) {b:Addr} {o:Obj} (e:X.s₀.heap.get? b = some o) (hb:b ∉ X.fs) : b ∉ frs X.stack:=λz=>by
 rcases mem_cons.mp (I.jn0 b z) with q | q
 .have h1 : @LT.lt Nat _ b X.s₀.heap.objs.size:=Heap.lt_size e
  have h2 : @LE.le Nat _ X.s₀.heap.objs.size X.env.locals:=I.ok.above
  have h3 : @Eq Nat b X.env.locals:=q
  omega
 .exact hb q
theorem Inv.j5q (I:Inv X pins U H s) {b:Addr} (hb:b ∈ X.fs) : b ∈ frs X.stack:=by
 rcases I.ok.stk with e | ⟨e,hf⟩
 .rw [e]; exact hb
 .rw [e]
  unfold frs
  rw [filterMap_cons,hf]
  exact mem_cons_of_mem _ hb
theorem j3o (I:Inv X pins U H s) (hex:X.ex = []) (F:Fly X.prog X.w X.stack H H' s s' ea cls) {h':Heap} {Bq:Heap} {t:Addr} (hf:Heap.FlyingW Bq X.outer ea cls (.ref t) h') (hu:s'.heap.UpToSlots h')
  (k1 : ∀ b o o',s.heap.get? b = some o -> s'.heap.get? b = some o' -> b ∉ frs X.stack -> Bq.get? b = some o') (k2 : ∀ b u o',H' b = some u -> s'.heap.get? b = some o' -> Bq.get? b = some o') :
  Fly X.prog X.w X.outer X.H₀ H' X.s₀ { s' with heap:=h' } ea cls:=by
 have base:=I.base
 rw [hex] at base
 have noE : ∀ b:Addr,b ∉ ([] : List Addr):=λb=>by simp
 have lift : ∀ b o,X.s₀.heap.get? b = some o -> b ∉ X.fs -> ∃ o1 o2,s.heap.get? b = some o1 /\ s'.heap.get? b = some o2 /\ h'.get? b = some o2:=λb o e hb=>by
  obtain ⟨o1,e1⟩:=base.there b o e (noE b)
  obtain ⟨o2,e2⟩:=F.un.there b o1 e1 (noE b)
  exact ⟨o1,o2,e1,e2,hf.1 _ _ (k1 b o1 o2 e1 e2 (I.jpq e hb))⟩
 have slots : ∀ b o,X.s₀.heap.get? b = some o -> X.H₀ b = none -> b ∈ X.fs -> ∃ sl,h'.get? b = some { o with slots:=sl }:=λb o e n hb=>by
  obtain ⟨sl,e1⟩:=base.slot b o e n hb (noE b)
  obtain ⟨sl2,e2⟩:=F.un.slot b _ e1 (base.free b o e n (noE b)) (I.j5q hb) (noE b)
  obtain ⟨_,o3,e3,nf⟩:=I.ok.jte.mem hb
  rw [e] at e3
  cases e3
  obtain ⟨sl3,e4⟩:=hu b _ e2 nf
  exact ⟨sl3,e4⟩
 refine ⟨F.os.trans I.os,F.bare,⟨λb o e n hb _=>?_,λb o e n hb _=>slots b o e n hb,λb o e n _=>?_,λb o e _=>?_,λb xs q=>F.un.jrr b xs (base.jrr b xs q),λb o xs q=>F.un.jrc b o xs (base.jrc b o xs q),λb ps q=>?_⟩,λb u e=>?_,⟨Bq,t,hf,λb o o' e e' hb=>?_,λb u o' q e'=>?_⟩,?_⟩
 .have e1:=base.keep b o e n hb (noE b)
  have e2:=F.un.keep b o e1 (base.free b o e n (noE b)) (I.jpq e hb) (noE b)
  exact hf.1 _ _ (k1 b o o e1 e2 (I.jpq e hb))
 .obtain ⟨o1,e1⟩:=base.there b o e (noE b)
  exact F.un.free b o1 e1 (base.free b o e n (noE b)) (noE b)
 .by_cases hb:b ∈ X.fs
  .obtain ⟨sl,q⟩:=slots b o e (I.ok.frf b hb) hb
   exact ⟨_,q⟩
  .obtain ⟨_,o2,_,_,q⟩:=lift b o e hb
   exact ⟨o2,q⟩
 .obtain ⟨m1,e1⟩:=base.jsc b ps q
  obtain ⟨m2,e2⟩:=F.un.jsc b _ e1
  exact ⟨m1 ++ m2,by rw [e2,Array.append_assoc]⟩
 .refine (F.hok b u e).jpk (λc v hc q=>?_) (λ_ q=>q) λ_ _ q=>q
  rcases hc with z | z
  .subst z
   exact hf.1 _ _ (k2 _ _ _ e q)
  .exact hf.1 _ _ (k2 _ _ _ z q)
 .by_cases hfs:b ∈ X.fs
  .exact absurd hfs hb
  .obtain ⟨o1,o2,e1,e2,q⟩:=lift b o e hfs
   have q':h'.get? b = some o':=e'
   rw [q] at q'
   cases q'
   exact k1 b o1 _ e1 e2 (I.jpq e hfs)
 .obtain ⟨o2,e2⟩:=(F.hok b u q).there
  have z:=k2 b u o2 q e2
  have q':h'.get? b = some o':=e'
  rw [hf.1 _ _ z] at q'
  cases q'
  exact z
 .cases q:X.s₀.heap.get? ea with
  | none=>rfl
  | some o=>
   obtain ⟨o1,e1⟩:=base.there ea o q (noE ea)
   rw [F.new] at e1
   cases e1
end
section
variable {P:Program} {w:World} {K:PySem.W.Frag} {mg:Str -> Option Value} {base:Heap} {N:List Str} {qual:Str} {scope:Scope} {f:Addr} {cd:Value} {A:Around} {outer:List Env} {s:Shared} {H:Hp} {E:XK}
end
end L2
namespace L2
open PySem PySem.Spec PyProof.Rows
def j3r:List Value:=[.type "ValueError",.type "Exception",.type "BaseException",.type "object"]
def j5j (K:PySem.W.Frag) (C:Addr) : Prop:=PySem.W.excIn K C j3r "ValueError.__new__" = true
theorem j2j {K:PySem.W.Frag} {h:Heap} {C:Addr} {bmB:List Value} {newId:String} (X:K.In h) (q:PySem.W.excIn K C bmB newId = true) :
  ∃ bm N nm qn bs hdct sn sub ab col dd k0 k1 k2 k3 k5 mN,h.get? C = some (excClassObj nm qn C N bs bm hdct sn sub ab col dd k0 k1 k2 k3 k5 newId) /\ h.Ns N mN /\ mN "__init__" = none /\ OwnTail h bmB bm:=by
 unfold PySem.W.excIn at q
 split at q
 .rename_i dd cd sl ho
  split at q
  .rename_i C' bm k0 k1 k2 k3 n k5 hm hs
   simp only [Bool.and_eq_true,beq_iff_eq,Bool.not_eq_true'] at q
   obtain ⟨⟨⟨⟨⟨rfl,rfl⟩,hdel⟩,ht⟩,hok⟩,hni⟩:=q
   obtain ⟨nm,bs,mro,ns,qn,hd,sn,sub,ab,col,del⟩:=cd
   dsimp only at hm hdel hok hni
   subst hm hdel
   have hsl:sl = #[k0,k1,k2,k3,some (.builtin n),k5]:=by
    obtain ⟨l⟩:=sl
    simp only at hs
    rw [hs]
   subst hsl
   exact ⟨bm,ns,nm,qn,bs,hd,sn,sub,ab,col,dd,k0,k1,k2,k3,k5,_,X _ _ ho,.of_isNs (PySem.W.isNs_of_in X hok),PySem.W.nsMap_none_of_in X hok hni,PySem.W.tail_of_in X ht⟩
  .cases q
 .cases q
theorem jyb {K:PySem.W.Frag} {M:Model} {h:Heap} {ea C Pc:Addr} {oe:Obj} {b:Bool} (X:K.In h) (he:h.get? ea = some oe) (hc:oe.cls = .ref C) (m:PySem.W.kitCls K (.ref C) (.ref Pc) = some b) (hb:PySem.W.mroIn K Pc (.type "BaseException") = some true) :
  PySem.W.Looks M h (excMatches (.ref ea) (.ref Pc)) b:=by
 obtain ⟨L1,L2,L3⟩:=PySem.W.kit_cls (M:=M) X m
 have L4:=PySem.W.looks_mroIn (M:=M) X hb
 have L5:PySem.W.Looks M h (typeOf (.ref ea)) (.ref C):=hc ▸ (PySem.W.Looks.ld he).andThen .now
 have f:=tc_notTuple
 intro A Q E s k q
 unfold excMatches isInstance isExcClass
 simp only [bind_assoc]
 refine wpAny_bind (L1 A _ E s k ?_)
 rw [f]
 simp only [pure_bind,Bool.false_eq_true,if_false,List.forIn_cons,List.forIn_nil,bind_assoc]
 refine wpAny_bind (L2 A _ E s k ?_)
 simp only [if_true]
 refine wpAny_bind (L4 A _ E s k ?_)
 simp only [Bool.not_true,Bool.false_eq_true,if_false,pure_bind]
 refine wpAny_bind (L5 A _ E s k ?_)
 refine wpAny_bind (L3 A _ E s k ?_)
 cases b
 .exact wpAny_pure q
 .exact wpAny_pure q
def j0m (W:Hp -> Prop) (t:TA) : TS:=λ_ U H=>t U H λvs H1=>vs.length <= sizeLine /\ W H1
section
variable {X:Cx}
theorem jyx {x:Str} {C:Addr} {e:Expr} {es:List Expr} {t:TA} {np cpos pos:Pos} {W:Hp -> Prop} (hc:X.calm = true) (hg:Gl X x) (hm:X.mg x = some (.ref C)) (hC:j5j X.K C) (ha:PA X (e :: es) t)
  (hxe : ∀ {pins:List (Addr × Obj)} {U : St} {H:Hp} {s:Shared} {ea:Addr} {vs:List Value} {h1:Heap},Inv X pins U H s -> Heap.MadeExcOf s.heap h1 ea (.ref C) vs -> W H -> X.xe (.ref ea) { s with heap:=h1 })
  (hdb:autoParam ((x == ("__debug__" : Str)) = false) aP2) (he:autoParam (starEach (e :: es) X.env = (false,eval e X.env) :: starEach es X.env) aP1) (hpl:autoParam ((backTo cpos (starEach es X.env)).any (·.1) = false) aP1) :
  PS X (.Raise (some (.Call (.Name x np) (e :: es) [] cpos)) none pos) (j0m W t):=by
 intro pins s U H D I h
 obtain ⟨bm,N,nm,qn,bs,hdct,sn,sub,ab,col,dd,k0,k1,k2,k3,k5,mN,hC,hN,hni,T⟩:=j2j I.mod.kin hC
 have FB:=F.excBase_ValueError
 refine wpAny_Raise_call_subT (C:=C) (nm:=nm) (q:=qn) (N:=N) (bs:=bs) (bm:=bm) (hdct:=hdct) (sn:=sn) (sub:=sub) (ab:=ab) (col:=col) (dd:=dd) (k0:=k0) (k1:=k1) (k2:=k2) (k3:=k3) (k5:=k5)
  FB (mN:=mN) (T.hasType FB.hasBase) (I.ok.hd hc) (by rw [he]; show (false || (backTo cpos (starEach es X.env)).any (·.1)) = false; rw [hpl]; rfl) hni (jg1 I hg hm ⟨rfl,?_⟩ hdb)
 have hA:=ha cpos pins s U H _ I h
 rw [he] at hA ⊢
 exact Calls.evalArgs_plain (thn hA λus s2 ⟨vs,H2,I2,r2,hz,q2⟩=>⟨rfl,by rw [<- r2.length]; exact hz,I2.bk _ _ hC,hN.keeps I2.bk,T.keeps I2.bk,λh' e hm=>hxe I2 hm q2⟩)
end
def jv2 (X:Cx) (ea:Addr) : Cx:={ X with A:=X.A.mark (some (.ref ea)),calm:=false,xe:=λ_ _=>False }
def jsx (ea:Addr) (cls:Value) : HO:=.ext λh=>∃ o vs,h.get? ea = some o /\ o.cls = cls /\ o.data = .fields vs
section
variable {X:Cx} {pins pn:List (Addr × Obj)} {U : St} {H H':Hp} {s s':Shared}
theorem Inv.jyp {X Yq:Cx} (I:Inv X pins U H s) (ok:Yq.Ok) (hs:Yq.s₀ = X.s₀) (hH:Yq.H₀ = X.H₀) (he:Yq.env = X.env) (ho:Yq.outer = X.outer) (hx:Yq.ex = X.ex) (hN:Yq.N = X.N) (hp:Yq.prog = X.prog) (hw:Yq.w = X.w)
  {pins':List (Addr × Obj)} (hpin : ∀ p ∈ Yq.pn ++ pins',p ∈ X.pn ++ pins) : Inv Yq pins' U H s:=by
 obtain ⟨prog,w,K,mg,base,A,N,s₀,H₀,env,outer,stack,ex,fn,calm,pnX,xe⟩:=X
 obtain ⟨prog',w',K',mg',base',A',N',s₀',H₀',env',outer',stack',ex',fn',calm',pnY,xe'⟩:=Yq
 dsimp only at hs hH he ho hx hN hp hw
 subst hs hH he ho hx hN hp hw
 exact ⟨ok,I.os,I.bare,I.base,I.loc,I.cell,I.free,I.jfs,λp hp=>I.pin p (hpin p hp),I.hok,I.len⟩
theorem Cx.Ok.jyp {X Yq:Cx} (ok:X.Ok) (hm:Yq.K = X.K /\ Yq.mg = X.mg /\ Yq.base = X.base) (he:Yq.env = X.env) (hs:Yq.s₀ = X.s₀) (hH:Yq.H₀ = X.H₀) (ho:Yq.outer = X.outer) (hst:Yq.stack = X.stack) (hx:Yq.ex = X.ex) (hf:Yq.fn = X.fn)
  (hd:Yq.calm = true -> Yq.A.handled = none) (hfr:Yq.A.frames = some Yq.stack) : Yq.Ok:=by
 obtain ⟨prog,w,K,mg,base,A,N,s₀,H₀,env,outer,stack,ex,fn,calm,pnX,xe⟩:=X
 obtain ⟨prog',w',K',mg',base',A',N',s₀',H₀',env',outer',stack',ex',fn',calm',pnY,xe'⟩:=Yq
 obtain ⟨hm1,hm2,hm3⟩:=hm
 dsimp only at hm1 hm2 hm3 he hs hH ho hst hx hf
 subst hm1 hm2 hm3 he hs hH ho hst hx hf
 exact ⟨ok.mod,ok.kind,ok.glob,ok.blt,ok.above,ok.inj,ok.has,ok.cab,hd,hfr,ok.stk,ok.exf,ok.bs,ok.bsz,ok.j12,ok.j3f,ok.jte,ok.frf⟩
theorem Inv.j01 {pins':List (Addr × Obj)} (I:Inv { X with pn:=pn } pins' U H s) (h : ∀ p ∈ X.pn ++ pins,p ∈ pn) : Inv X pins U H s:=
 I.jyp (Yq:=X) (I.ok.jyp (Yq:=X) ⟨rfl,rfl,rfl⟩ rfl rfl rfl rfl rfl rfl rfl I.ok.hd I.ok.frames) rfl rfl rfl rfl rfl rfl rfl rfl λp hp=>mem_append_left _ (h p hp)
theorem Inv.j6v {ea:Addr} (I:Inv X pins U H s) : Inv (jv2 X ea) pins U H s:=
 I.jyp (Yq:=jv2 X ea) (I.ok.jyp (Yq:=jv2 X ea) ⟨rfl,rfl,rfl⟩ rfl rfl rfl rfl rfl rfl rfl (λz=>by have z':false = true:=z; cases z') I.ok.frames) rfl rfl rfl rfl rfl rfl rfl rfl λ_ hp=>hp
theorem Inv.jy2 {ea:Addr} (ok:X.Ok) (I:Inv (jv2 X ea) pins U H s) : Inv X pins U H s:=I.jyp (Yq:=X) ok rfl rfl rfl rfl rfl rfl rfl rfl λ_ hp=>hp
theorem j1j {CX:CXT} {k:Nat} {f:Addr} {fd:FuncData} {ps:List Str} {sp:Sp} {dvs:List V} {ds:List Value} {E:XK} {Q:VK} {us:List Value} {vs:List V} (F:xo X.prog X.w X.K X.mg X.base CX k f fd ps sp) (hr:jeo k X.A) (hb:Binds X.K fd ps ds) (hd:Vals dvs ds)
  (I:Inv X pins U H s) (hx : ∀ e s',CX X.stack H s E e s' -> X.xe e s') (r:Vals vs us) (h:sp (vs ++ dvs) H Q E) : wpAny (model X.prog X.w) X.A (call (.ref f) us) (EP X pins U Q) X.xe s:=by
 have r2:Vals (vs ++ dvs) (us ++ ds):=r.append hd
 have hl:(us ++ ds).length = ps.length:=by rw [<- r2.length]; exact F.len _ _ _ _ h
 refine wpAny_call (codeAny_mono (F.run X.A X.stack s H ⟨us,[]⟩ (us ++ ds) (vs ++ dvs) Q E hr I.j3b (hb s us I.kIn hl) r2 h) λr s' hq=>?_)
 cases r with
 | error e=>exact hx e s' hq
 | ok fl=>
  cases fl with
  | ret u=>exact I.after hq
  | next=>exact False.elim hq
  | brk=>exact False.elim hq
  | cont=>exact False.elim hq
theorem ju0 {ea:Addr} {cls:Value} (I:Inv X pins U H s) (F:Fly X.prog X.w X.stack H H' s s' ea cls) {h':Heap} {Bq:Heap} {t:Addr} (hf:Heap.FlyingW Bq X.stack ea cls (.ref t) h') (hu:s'.heap.UpToSlots h')
  (k1 : ∀ b o o',s.heap.get? b = some o -> s'.heap.get? b = some o' -> b ∉ frs X.stack -> Bq.get? b = some o') (k2 : ∀ b u o',H' b = some u -> s'.heap.get? b = some o' -> Bq.get? b = some o') :
  Inv X pins U H' { s' with heap:=h' }:=by
 have noE : ∀ b:Addr,b ∉ ([] : List Addr):=λb=>by simp
 have slots : ∀ b o,s.heap.get? b = some o -> H b = none -> b ∈ frs X.stack -> ∃ sl,h'.get? b = some { o with slots:=sl }:=λb o e n hb=>by
  obtain ⟨sl2,e2⟩:=F.un.slot b _ e n hb (noE b)
  obtain ⟨_,o3,e3,nf⟩:=I.stack.mem hb
  rw [e] at e3
  cases e3
  obtain ⟨sl3,e4⟩:=hu b _ e2 nf
  exact ⟨sl3,e4⟩
 refine I.j1y (ch:=[]) F.os ⟨λb o e n hb _=>?_,λb o e n hb _=>slots b o e n hb,λb o e n _=>F.un.free b o e n (noE b),λb o e _=>?_,F.un.jrr,F.un.jrc,F.un.jsc⟩ (λb u e=>?_) F.bare λb z=>absurd z (noE b)
 .have e2:=F.un.keep b o e n hb (noE b)
  exact hf.1 _ _ (k1 b o o e e2 hb)
 .by_cases hb:b ∈ frs X.stack
  .obtain ⟨sl,q⟩:=slots b o e (I.jqy b hb) hb
   exact ⟨_,q⟩
  .obtain ⟨o2,e2⟩:=F.un.there b o e (noE b)
   exact ⟨o2,hf.1 _ _ (k1 b o o2 e e2 hb)⟩
 .refine (F.hok b u e).jpk (λc v hc q=>?_) (λ_ q=>q) λ_ _ q=>q
  rcases hc with z | z
  .subst z
   exact hf.1 _ _ (k2 _ _ _ e q)
  .exact hf.1 _ _ (k2 _ _ _ z q)
theorem Inv.j2o {a:Addr} {o:HO} (I:Inv X pins U H s) (hex:X.ex = []) (hn:H a = none) (h0:X.s₀.heap.get? a = none) (hL:a ≠ X.env.locals) (hc : ∀ x c,X.env.cells.lookup x = some c -> c ≠ a) (hp : ∀ p ∈ X.pn ++ pins,p.1 ≠ a)
  (new:wo X.prog X.w (upd H a o) s.heap a o) : Inv X pins U (upd H a o) s:=by
 have ne0 : ∀ b ob,X.s₀.heap.get? b = some ob -> b ≠ a:=λb ob e z=>by rw [z,h0] at e; cases e
 refine ⟨I.ok,I.os,I.bare,⟨I.base.keep,I.base.slot,λb ob e n hx=>?_,I.base.there,λb xs q=>?_,λb ob u q=>?_,λb ps q=>?_⟩,I.loc,I.cell,?_,λx c e=>?_,λp hpp=>?_,λb u e=>?_,I.len⟩
 .rw [je (ne0 b ob e)]; exact I.base.free b ob e n hx
 .rw [je (jj (I.base.jrr b xs q) hn)]; exact I.base.jrr b xs q
 .rw [je (jj (I.base.jrc b ob u q) hn)]; exact I.base.jrc b ob u q
 .obtain ⟨more,z⟩:=I.base.jsc b ps q
  exact ⟨more,by rw [je (jj z hn)]; exact z⟩
 .rw [je (Ne.symm hL)]; exact I.free
 .rw [je (hc x c e)]; exact I.jfs x c e
 .obtain ⟨q1,q2,q3⟩:=I.pin p hpp
  exact ⟨q1,by rw [je (hp p hpp)]; exact q2,q3⟩
 .by_cases hb:b = a
  .subst hb
   rw [ja] at e
   cases e
   exact new
  .rw [je hb] at e
   exact (I.hok b u e).jpk (λ_ _ _ q=>q) (λc q=>by rw [je (jj q hn)]; exact q) λc xs q=>by rw [je (jj q hn)]; exact q
theorem Inv.unset {i:Nat} {n:Str} (I:Inv X pins U H s) (hN:X.N.Nodup) (hi:X.N[i]? = some n) {m:Str -> Option Value} (hm:s.heap.Ns X.env.locals m)
  (hl : ∀ (i:Nat) (x:Str) (v:V),X.N[i]? = some x -> U[i]? = some (some v) -> Vis X.env.scope x -> ∃ u,RelV v u /\ Look X.env s.heap m x u) {h':Heap} {u:Option Value} (hn':h'.Ns X.env.locals (λx=>if x = n then u else m x))
  (hs:Heap.SameBut X.env.locals s.heap h') : Inv X pins (U.set i none) H { s with heap:=h' }:=by
 obtain ⟨oL,_,_,hoL,_⟩:=id hm
 have hiU : i < U.length:=by rw [I.len]; exact (List.getElem?_eq_some_iff.mp hi).1
 have cne:=I.cne
 refine ⟨I.ok,I.os,I.bare,⟨λb o e n hb hx=>?_,λb o e n hb hx=>?_,I.base.free,λb o e hx=>?_,I.base.jrr,I.base.jrc,I.base.jsc⟩,⟨_,hn',λj y v' e1 e2 e3=>?_⟩,λy c e=>?_,I.free,I.jfs,λp hp=>?_,λb ob e=>?_,by simpa using I.len⟩
 .exact (hs.2 b (ne_of_lt (lt_of_lt_of_le (Heap.lt_size e) I.ok.above))).trans (I.base.keep b o e n hb hx)
 .obtain ⟨sl,e1⟩:=I.base.slot b o e n hb hx
  exact ⟨sl,(hs.2 b (ne_of_lt (lt_of_lt_of_le (Heap.lt_size e) I.ok.above))).trans e1⟩
 .obtain ⟨o',e1⟩:=I.base.there b o e hx
  exact ⟨o',(hs.2 b (ne_of_lt (lt_of_lt_of_le (Heap.lt_size e) I.ok.above))).trans e1⟩
 .by_cases hj:j = i
  .subst hj
   rw [getElem?_set_self hiU] at e2
   cases e2
  .rw [getElem?_set_ne (Ne.symm hj)] at e2
   obtain ⟨u',r',q⟩:=hl j y v' e1 e2 e3
   refine ⟨u',r',?_⟩
   rcases q with ⟨k,e⟩ | ⟨k,c,e,z⟩
   .refine .inl ⟨k,?_⟩
    have:y ≠ n:=λe=>hj (jq1 hN e1 (e ▸ hi))
    simp [this,e]
   .exact .inr ⟨k,c,e,z.sameBut hs (cne y c e)⟩
 .obtain ⟨w',z⟩:=I.cell y c e
  exact ⟨w',z.sameBut hs (cne y c e)⟩
 .obtain ⟨e,n,ne,nf,d⟩:=I.pin p hp
  exact ⟨(hs.2 p.1 ne).trans e,n,ne,nf,d⟩
 .refine (I.hok b ob e).jpk (λc w' hc q=>(hs.2 c ?_).trans q) (λ_ q=>q) λ_ _ q=>q
  have fr:=I.free
  rintro rfl
  rcases hc with rfl | hc
  .rw [fr] at e; cases e
  .rw [fr] at hc; cases hc
end
end L2
namespace L2
open PySem PySem.Spec PyProof.Rows
section
variable {X:Cx}
end
end L2
namespace L2
open PySem PySem.Spec PyProof.Rows
structure XIs (K:PySem.W.Frag) (C:Addr) : Prop where
 ga:PySem.W.findIn K (.ref C) "__getattribute__" = some (some (.builtin "BaseException.__getattribute__"))
 gn:PySem.W.findIn K (.ref C) "__getattr__" = some none
 cl:PySem.W.findIn K (.ref C) "__class__" = some (some (.builtin "object.__class__"))
 be:PySem.W.mroIn K C (.type "BaseException") = some true
 ob:PySem.W.mroIn K C (.type "object") = some true
 is:(PySem.W.clsIn K C).isSome = true
section
variable {prog:Program} {w:World} {A:Around} {E:Value -> Shared -> Prop} {K:PySem.W.Frag} {h:Heap} {g:Array GenState} {d:Drawn} {t:Nat} {os:OsState} {a C:Addr} {o:Obj}
theorem j1k {M:Model} (hx:h.get? a = some o) (hc:o.cls = .ref C) : PySem.W.Looks M h (typeOf (.ref a)) (.ref C):=hc ▸ (PySem.W.Looks.ld hx).andThen .now
theorem j3w {R:Result -> Shared -> Prop} {tp:Value} (X:K.In h) (I:XIs K C) (hx:h.get? a = some o) (hc:o.cls = .ref C) (hq:R (.ok (.ret (.ref C))) ⟨h,g,d,t,os⟩) :
  codeAny (model prog w) A (.call (.builtin "getset_descriptor.__get__") ⟨[.builtin "object.__class__",.ref a,tp],[]⟩) R ⟨h,g,d,t,os⟩:=by
 have L1:=PySem.W.looks_mroIn (M:=model prog w) X I.ob
 have hT5:(⟨h,g,d,t,os⟩ : Shared).TypeIs (.builtin "object.__class__") "getset_descriptor" := F.typeOf_object_class
 refine codeAny_call_builtin F.slot_gs_get.plain F.entry_gs_get (F.slot_gs_get.check _ _ _ _ _ _ _ _ hT5 (F.args_gs_get _ _ _) ?_)
 have ow:=F.owner_object_class
 repeat (any_goals (first | assumption | (with_reducible refine wpAny_loadPart_at hx ?_; rw [hc]) | (rw [ow]; with_reducible refine L1.at ?_) | (with_reducible refine L1.at ?_) | wp_step))
 refine ⟨Code.quiet_builtin _ (by decide +kernel),codeAny_builtin F.entry_object_class ?_⟩
 repeat (any_goals (first | assumption | (with_reducible refine wpAny_loadPart_at hx ?_; rw [hc]) | wp_step))
theorem jyy {tk:Tok} {Q:Fin -> Shared -> Prop} (X:K.In h) (I:XIs K C) (hx:h.get? a = some o) (hc:o.cls = .ref C) (hq:Q (.done (.ret (.ref C))) ⟨h,g,d,t,os⟩) :
  wpAny (model prog w) A (Builtin.«object.__getattribute__» ⟨[.ref a,.str "__class__" tk],[]⟩) Q E ⟨h,g,d,t,os⟩:=by
 have hT5:(⟨h,g,d,t,os⟩ : Shared).TypeIs (.builtin "object.__class__") "getset_descriptor" := F.typeOf_object_class
 have f5:=F.typeOf_object_class
 have f6:=F.slot_gs_get.lookup
 have f7:=F.slot_gs_set.lookup
 have L1:=PySem.W.looks_findIn (M:=model prog w) X I.cl
 repeat (any_goals (first | assumption | (with_reducible refine wpAny_loadPart_at hx ?_; rw [hc]) | (with_reducible refine L1.at ?_) | wp_step))
 refine j3w X I hx hc ?_
 repeat (any_goals (first | assumption | wp_step))
theorem jz9 {M:Model} {nameV:Value} {Q:Unit -> Shared -> Prop} (X:K.In h) (I:XIs K C) (hx:h.get? a = some o) (hc:o.cls = .ref C) (hq:Q () ⟨h,g,d,t,os⟩) : wpAny M A (checkBuiltinCall "BaseException.__getattribute__" ⟨[.ref a,nameV],[]⟩) Q E ⟨h,g,d,t,os⟩:=by
 have hk:builtinKind "BaseException.__getattribute__" = some .slot:=by decide +kernel
 have hsplit:splitId "BaseException.__getattribute__" = some ("BaseException","__getattribute__"):=by decide +kernel
 have L1:=PySem.W.looks_mroIn (M:=M) X I.be
 have ha:=F.args_bexc_ga (.ref a) nameV
 simp only [checkBuiltinCall,hk,hsplit]
 refine wpAny_bind ?_
 .unfold isInstance
  repeat (first | (with_reducible refine wpAny_loadPart_at hx ?_; rw [hc]) | (with_reducible refine L1.at ?_) | wp_step)
  exact hq
theorem j2q {tk:Tok} {R:Result -> Shared -> Prop} (X:K.In h) (I:XIs K C) (hx:h.get? a = some o) (hc:o.cls = .ref C) (hq:R (.ok (.ret (.ref C))) ⟨h,g,d,t,os⟩) :
  codeAny (model prog w) A (.call (.builtin "BaseException.__getattribute__") ⟨[.ref a,.str "__class__" tk],[]⟩) R ⟨h,g,d,t,os⟩:=
 codeAny_call_builtin F.attr_ValueError.ga.plain F.entry_bexc_ga (jz9 X I hx hc (jyy X I hx hc hq))
theorem j6h {tk:Tok} {Q:Value -> Shared -> Prop} (X:K.In h) (I:XIs K C) (hx:h.get? a = some o) (hc:o.cls = .ref C) (hq:Q (.ref C) ⟨h,g,d,t,os⟩) :
  wpAny (model prog w) A (getAttrBy (.ref a) (.str "__class__" tk) false) Q E ⟨h,g,d,t,os⟩:=by
 have f3:=F.attr_ValueError.ga.bind (.ref a)
 have L1:=PySem.W.looks_findIn (M:=model prog w) X I.ga
 have L2:=PySem.W.looks_findIn (M:=model prog w) X I.gn
 have hx2:(Value.builtin "BaseException.__getattribute__" == Value.builtin "object.__getattribute__") = false:=by decide +kernel
 have hx1:(onTheHeap (Value.ref C) && Value.builtin "BaseException.__getattribute__" == Value.builtin "object.__getattribute__") = false:=by rw [hx2]; rfl
 repeat (any_goals (first | assumption | (with_reducible refine wpAny_loadPart_at hx ?_; rw [hc]) | (with_reducible refine L1.at ?_) | (with_reducible refine L2.at ?_) | wp_step))
 refine j2q X I hx hc ?_
 repeat (any_goals (first | assumption | wp_step))
theorem j1w {Q:Option Value -> Shared -> Prop} (X:K.In h) (I:XIs K C) (hx:h.get? a = some o) (hc:o.cls = .ref C) (hq:Q (some (.ref C)) ⟨h,g,d,t + 1,os⟩) : wpAny (model prog w) A (getAttr? (.ref a) "__class__") Q E ⟨h,g,d,t,os⟩:=by
 unfold getAttr? getAttrBy?
 repeat (any_goals (first | assumption | with_reducible apply j6h X I hx hc | wp_step))
end
theorem jy3 {K:PySem.W.Frag} {ea C:Addr} (I:XIs K C) : PySem.W.KitX K (.ref ea) (.ref C) (λh=>∃ o vs,h.get? ea = some o /\ o.cls = .ref C /\ o.data = .fields vs) where
 ty:=λ_ _ _ ⟨o,_,h1,h2,_⟩=>j1k h1 h2
 it:=λ_ _ X _=>by
  have hcD:=I.is
  unfold PySem.W.clsIn at hcD
  split at hcD
  .rename_i c' d' cd' sl' ho
   intro A' Q' E' s' k q
   unfold isType loadHead
   exact wpAny_bind (wpAny_loadPart (k _ _ (X _ _ ho)) (wpAny_pure q))
  .cases hcD
 ne:=λh tp dd its n sl X htp=>by
  refine Bool.eq_false_iff.mpr λq=>?_
  have e:C = tp:=Value.ref.inj (beq_iff_eq.mp q)
  subst e
  have hcD:=I.is
  unfold PySem.W.clsIn at hcD
  split at hcD
  .rename_i c' d' cd' sl' ho
   have z:=(X _ _ ho).symm.trans htp
   cases z
  .cases hcD
 ca:=λ{_ _ _ _ _ s} X ⟨o,_,h1,h2,_⟩ k=>by
  obtain ⟨hh,g,d,t,os⟩:=s
  exact j1w X I h1 h2 k
section
variable {X:Cx}
theorem zt:jow X (.builtin "isinstance") (λxs H Q=>∃ ea C y c b,xs = [.ref ea,y] /\ H ea = some (jsx ea (.ref C)) /\ XIs X.K C /\ RelV y c /\ PySem.W.kitOne X.K (.ref C) c = some b /\ Q (.bl b) H):=by
 intro pins s U H xs us Q I r h
 obtain ⟨ea,C,y,c,b,rfl,hH,hX,ry,hk,q⟩:=h
 obtain ⟨u,w,rfl,r1,r2⟩:=vals2 r
 obtain rfl:u = Value.ref ea:=r1
 have hw:w = c:=by
  cases y with
  | ref z=>exact (show w = Value.ref z from r2).trans (show c = Value.ref z from ry).symm
  | ty z=>exact (show w = Value.type z from r2).trans (show c = Value.type z from ry).symm
  | non=>exact (show w = Value.none from r2).trans (show c = Value.none from ry).symm
  | bl z=>exact (show w = Value.bool z from r2).trans (show c = Value.bool z from ry).symm
  | int z=>
   exfalso
   obtain ⟨_,rfl⟩:=ry
   unfold PySem.W.kitOne PySem.W.kitCls at hk
   simp at hk
  | str z=>
   exfalso
   obtain ⟨_,rfl⟩:=ry
   unfold PySem.W.kitOne PySem.W.kitCls at hk
   simp at hk
  | byt z=>
   exfalso
   obtain ⟨_,rfl⟩:=ry
   unfold PySem.W.kitOne PySem.W.kitCls at hk
   simp at hk
  | flt z=>
   exfalso
   obtain ⟨_,rfl⟩:=ry
   unfold PySem.W.kitOne PySem.W.kitCls at hk
   simp at hk
 subst hw
 obtain ⟨p,_,_⟩:=(show wo X.prog X.w H s.heap ea (jsx ea (.ref C)) from I.hok ea _ hH)
 exact PySem.W.kia_one (jy3 hX) I.kIn p hk (λz=>nomatch z) λtk=>⟨.bl b,H,I.tok tk,rfl,q⟩
end
end L2
namespace L2
open PySem PySem.Spec PyProof.Rows
theorem jxk {A:Around} {s:Shared} (k:Bool) (bs:List Bool) : ∀ y,y ∈ (bs.map Value.bool).toArray -> SeqAt.EqAt A s y (.bool k) (isBoolOf k y):=λy hy=>by
 have hy':y ∈ bs.map Value.bool:=by simpa using hy
 obtain ⟨b,_,rfl⟩:=mem_map.mp hy'
 exact SeqAt.EqAt.bool_bool b k
theorem jsp (k:Bool) : ∀ bs:List Bool,(bs.map Value.bool).countP (isBoolOf k) = bs.count k
 | []=>rfl
 | b :: bs=>by
  rw [map_cons,List.countP_cons,List.count_cons,jsp k bs]
  rfl
def j26 (K:PySem.W.Frag) : V -> List V -> Hp -> VK -> Prop:=λx vs H Q=>∃ (l:Addr) (bs:List Bool) (k:Bool),x = .ref l /\ vs = [.bl k] /\ SqL K H l (bs.map V.bl) /\ Q (.int (bs.count k)) H
def j1t (K:PySem.W.Frag) : V -> List V -> Hp -> VK -> Prop:=λx vs H Q=>∃ (l:Addr) (bs:List Bool) (k:Bool),x = .ref l /\ vs = [.bl k] /\ SqL K H l (bs.map V.bl) /\ k ∈ bs /\ Q (.int (bs.idxOf k)) H
section
variable {X:Cx}
theorem jx5:MtR X "list.count" (j26 X.K):=by
 intro pins s U H x vs v us Q I rx rv h
 obtain ⟨l,bs,k,rfl,rfl,hH,q⟩:=h
 cases rx
 obtain ⟨u,rfl,ru⟩:=rv.one
 obtain rfl:u = Value.bool k:=ru
 obtain ⟨its,r,pl,hz⟩:=I.list hH
 have e:=jq8 r
 subst e
 obtain ⟨⟨cls,dd,data,sl⟩,ho,hc,n,hd⟩:=pl.isList
 simp only at hc hd
 subst hc hd
 refine call_meets PySem.F.slot_list_count ⟨_,ho,rfl⟩ PySem.F.entry_list_count (PySem.F.args_list_count_2 _ _) (SeqAt.list_countAt l _ n dd sl (.bool k) (isBoolOf k)) ⟨ho,λy hy=>jxk k bs y hy,?_⟩
 rw [show (bs.map Value.bool).toArray.toList = bs.map Value.bool from rfl,jsp k bs]
 exact ⟨.int (bs.count k),H,I.tok _,⟨_,rfl⟩,q⟩
theorem jwm:MtR X "list.index" (j1t X.K):=by
 intro pins s U H x vs v us Q I rx rv h
 obtain ⟨l,bs,k,rfl,rfl,hH,hk,q⟩:=h
 cases rx
 obtain ⟨u,rfl,ru⟩:=rv.one
 obtain rfl:u = Value.bool k:=ru
 obtain ⟨its,r,pl,hz⟩:=I.list hH
 have e:=jq8 r
 subst e
 obtain ⟨⟨cls,dd,data,sl⟩,ho,hc,n,hd⟩:=pl.isList
 simp only at hc hd
 subst hc hd
 have hj:bs.idxOf k < bs.length:=List.idxOf_lt_length_iff.mpr hk
 have hz':bs.length <= sizeLine:=by rw [length_map] at hz; exact hz
 have hs:(sizeLine:Int) < 2 ^ 63 - 1:=by decide
 refine call_meets PySem.F.slot_list_index ⟨_,ho,rfl⟩ PySem.F.entry_list_index (PySem.F.args_list_index_2 _ _)
  (SeqAt.list_indexAt l _ n dd sl (.bool k) (isBoolOf k) (bs.idxOf k) (by simpa using hj) (by omega) ?_ ?_) ⟨ho,λy hy=>jxk k bs y hy,?_⟩
 .have e:(bs.map Value.bool).toArray[bs.idxOf k]'(by simpa using hj) = Value.bool (bs[bs.idxOf k]):=by simp
  rw [e]
  show (bs[bs.idxOf k] == k) = true
  simpa using List.getElem_idxOf hj
 .intro j hjs hlt
  have hjl:j < bs.length:=by simpa using hjs
  have e:(bs.map Value.bool).toArray[j]'hjs = Value.bool (bs[j]):=by simp
  rw [e]
  show (bs[j] == k) = false
  exact Bool.eq_false_iff.mpr λz=>by simpa [z] using List.not_of_lt_findIdx (p:=(· == k)) (xs:=bs) (i:=j) hlt
 .exact ⟨.int (bs.idxOf k),H,I.tok _,⟨_,rfl⟩,q⟩
end
section
variable {P:Program} {w:World} {K:PySem.W.Frag} {mg:Str -> Option Value} {base:Heap}
end
end L2
namespace L2
open PySem
def kinds (K:PySem.W.Frag) (C:Value) (Ds:List Value) : List (Option Bool):=Ds.map (PySem.W.kitOne K C)
end L2
namespace L2
open PySem PySem.Spec PyProof.Rows
def isStar:Expr -> Bool
 | .Starred _ _=>true
 | _=>false
theorem jt3 {e:Expr} {es:List Expr} {env:Env} (h:isStar e = false) : starEach (e :: es) env = (false,eval e env) :: starEach es env:=by
 cases e <;> first | rfl | cases h
section
variable {X:Cx} {e:Expr} {es:List Expr} {te:TE} {t:TA}
theorem jc (ha:PE X e te) (hr:PA X es t) (h:autoParam (isStar e = false) aP1) : PA X (e :: es) (vk te t):=j2y ha hr (jt3 h)
end
end L2
namespace L2
open PySem PySem.Spec PyProof.Rows
section
variable {prog:Program} {w:World} {A:Around} {E:Value -> Shared -> Prop} {s:Shared}
end
section
variable {X:Cx}
end
def j3h {α : Type} : List α -> List α -> List α
 | [u0],[w0,w1]=>[u0,w0,w1]
 | _,_=>[]
theorem j0l {vs:List V} {us:List Value} {zs:List V} {ws:List Value} (r1:Vals vs us) (r2:Vals zs ws) : Vals (j3h vs zs) (j3h us ws):=by
 rcases r1 with _ | ⟨a,_ | ⟨_,_⟩⟩ <;> rcases r2 with _ | ⟨b,_ | ⟨c,_ | ⟨_,_⟩⟩⟩
 all_goals first | exact .nil | exact .cons a (.cons b (.cons c .nil))
end L2
namespace L2
open PySem PySem.Spec PyProof.Rows
section
open PySem.SeqAt
open PySem.MeetsSeq PySem.MeetsSeq2 PySem.MeetsSeq3
end
end L2
namespace L2
open PySem PySem.Spec PyProof.Rows
section
variable {X:Cx}
end
end L2
namespace HT
open PySem PyProof.Rows
section
variable {prog:Program} {w:World} {A:Around} {E:Value -> Shared -> Prop} {s:Shared}
end
end HT
namespace L2
open PySem PySem.Spec PyProof.Rows
section
variable {X:Cx}
end
end L2
namespace L2
open PySem PySem.Spec PyProof.Rows
section
variable {X:Cx} {e v1 v2:Expr} {es:List Expr} {te:TE} {t:Str -> TE} {pos:Pos}
end
end L2
namespace L2
open PySem PySem.Spec PyProof.Rows
section
variable {X:Cx} {pins:List (Addr × Obj)} {U : St} {H:Hp} {s:Shared} {a:Addr} {o:Obj} {u:HO}
theorem Inv.freeze (I:Inv X pins U H s) (hm:Mut (some u)) (ha:H a = some u) (ho:s.heap.get? a = some o) : Inv X pins U (upd H a (.frz o u)) s:=by
 have new:wo X.prog X.w (upd H a (.frz o u)) s.heap a (.frz o u):=by
  refine ⟨ho,(I.hok a u ha).jpk (λ_ _ _ q=>q) (λc q=>?_) λc xs q=>?_⟩
  .have hc:c ≠ a:=λz=>by
    subst z
    rw [ha] at q
    cases q
    exact hm
   rw [je hc]
   exact q
  .have hc:c ≠ a:=λz=>by
    subst z
    rw [ha] at q
    cases q
    exact hm
   rw [je hc]
   exact q
 exact I.write (t':=s.toks) (x:=a) (e:=a) (o:=.frz o u) (h':=s.heap) (by rw [ha]; exact hm) (.inl rfl) (λb v _ q=>q) ⟨o,ho⟩ new
theorem Inv.j6n (I:Inv X pins U H s) (ha:H a = some (.frz o u)) (h0 : ∀ o' u',X.H₀ a ≠ some (.frz o' u')) (hm:Mut (some u)) : Inv X pins U (upd H a u) s:=by
 have ne : ∀ {b:Addr} {v:HO},H b = some v -> (∀ o' u',v ≠ .frz o' u') -> b ≠ a:=λ{b v} e h z=>by
  subst z
  rw [ha] at e
  exact h _ _ (Option.some.inj e).symm
 have nen : ∀ {b:Addr},H b = none -> b ≠ a:=λ{b} e z=>by
  subst z
  rw [ha] at e
  cases e
 refine ⟨I.ok,I.os,I.bare,⟨I.base.keep,I.base.slot,λb ob e n hx=>?_,I.base.there,λb xs q=>?_,λb ob v q=>?_,λb ps q=>?_⟩,I.loc,I.cell,?_,λx c e=>?_,λp hp=>?_,λb v e=>?_,I.len⟩
 .have q:=I.base.free b ob e n hx
  rw [je (nen q)]
  exact q
 .have q':=I.base.jrr b xs q
  rw [je (ne q' λ_ _ z=>nomatch z)]
  exact q'
 .have hb:b ≠ a:=λz=>by
   subst z
   exact h0 _ _ q
  rw [je hb]
  exact I.base.jrc b ob v q
 .obtain ⟨more,z⟩:=I.base.jsc b ps q
  exact ⟨more,by rw [je (ne z λ_ _ z=>nomatch z)]; exact z⟩
 .rw [je (nen I.free)]
  exact I.free
 .rw [je (nen (I.jfs x c e))]
  exact I.jfs x c e
 .obtain ⟨q1,q2,q3⟩:=I.pin p hp
  exact ⟨q1,by rw [je (nen q2)]; exact q2,q3⟩
 .have own : ∀ (c y:Addr),H c = some (.own y) -> upd H a u c = some (.own y):=λc y q=>by
   rw [je (ne q λ_ _ z=>nomatch z)]
   exact q
  have tup : ∀ (c:Addr) (xs:List V),H c = some (.tup xs) -> upd H a u c = some (.tup xs):=λc xs q=>by
   rw [je (ne q λ_ _ z=>nomatch z)]
   exact q
  by_cases hb:b = a
  .subst hb
   rw [ja] at e
   cases e
   obtain ⟨_,q⟩:=I.hok _ _ ha
   exact q.jpk (λ_ _ _ q=>q) (λc q=>own c _ q) tup
  .rw [je hb] at e
   exact (I.hok b v e).jpk (λ_ _ _ q=>q) (λc q=>own c _ q) tup
def j68 (H0:Hp) (t:TS) : TS:=λD U H=>
 let un:(Hp -> Prop) -> Hp -> Prop:=λQ H'=>∃ a o u,H' a = some (.frz o u) /\ (∀ o' u',H0 a ≠ some (.frz o' u')) /\ Mut (some u) /\ Q (upd H' a u)
 t { nx:=λU' H'=>un (D.nx U') H',rt:=λv H'=>un (D.rt v) H',bk:=D.bk,ct:=D.ct } U H
theorem j2t {st:Stmt} {t:TS} (h:PS X st t) : PS X st (j68 X.H₀ t):=by
 intro pins s U H D I q
 refine thn (h pins s U H _ I q) λf s1 q1=>?_
 cases f with
 | next=>
  obtain ⟨U1,H1,I1,a,o,u,ha,h0,hm,q⟩:=q1
  exact ⟨U1,_,I1.j6n ha h0 hm,q⟩
 | ret v=>
  obtain ⟨x,U1,H1,I1,r,a,o,u,ha,h0,hm,q⟩:=q1
  exact ⟨x,U1,_,I1.j6n ha h0 hm,r,q⟩
 | brk=>exact q1
 | cont=>exact q1
def j4z (H0:Hp) (t:TE) : TE:=λU H Q=>t U H λv H'=>∃ a o u,H' a = some (.frz o u) /\ (∀ o' u',H0 a ≠ some (.frz o' u')) /\ Mut (some u) /\ Q v (upd H' a u)
theorem jxf {e:Expr} {t:TE} (h:PE X e t) : PE X e (j4z X.H₀ t):=by
 intro pins s U H Q I q
 refine thn (h pins s U H _ I q) λv s1 ⟨x,H1,I1,r,a,o,u,ha,h0,hm,q⟩=>?_
 exact ⟨x,_,I1.j6n ha h0 hm,r,q⟩
end
theorem j2r {k:Key} {v:Value} (h:jt0 k v = true) : RelV (kV k) v:=by
 rcases xm h with ⟨i,t,rfl,rfl⟩ | ⟨x,t,rfl,rfl⟩
 .exact ⟨t,rfl⟩
 .exact ⟨t,rfl⟩
def Itd (a:Addr) (o:Obj) (kvs:List (Key × V)) : It where
 go:=λi H=>i < kvs.length /\ H a = some (.frz o (.dK kvs))
 yld:=λi H x H'=>H' = H /\ ∃ kv,kvs[i]? = some kv /\ x = kV kv.1
 stop:=λi H=>kvs.length <= i /\ H a = some (.frz o (.dK kvs))
theorem j0r {kvs:List (Key × V)} {vs:List (Key × Value)} : ∀ {i:Nat} {kv:Key × V},KV kvs vs -> kvs[i]? = some kv -> ∃ v,vs[i]? = some (kv.1,v) /\ RelV kv.2 v:=by
 intro i kv r
 unfold KV at r
 induction r generalizing i with
 | nil=>intro e; simp at e
 | @cons p q ps qs h t ih=>
  intro e
  cases i with
  | zero=>
   have e':=Option.some.inj e
   subst e'
   exact ⟨q.2,by rw [h.1]; rfl,h.2⟩
  | succ i=>exact ih e
theorem j2s {P:Program} {w:World} {K:PySem.W.Frag} {tg:Expr} (a it:Addr) (o:Obj) (kvs:List (Key × V)) (es:Array DictEntry) (ep:Nat) (hd:o.data = .dict es ep) : Turn P w K tg (Itd a o kvs) [it] it (λi h=>h.IsKeyIter it a i kvs.length ep) where
 mem:=by simp
 obj:=λi h st b hb=>by
  have e:b = it:=by simpa using hb
  subst e
  obtain ⟨o,e,c,d⟩:=st
  exact ⟨o,e,λv z=>by rw [d] at z; cases z⟩
 keep:=λi h h' st k=>st.at λo e=>k it (by simp) o e
 item:=by
  intro X hP hw hK hc i pins s U H E I hf st hg
  subst hP hw hK
  obtain ⟨hi,hq⟩:=hg
  obtain ⟨ho,hz,hs,vs,r,o',es',ep',ho',hx',hd',r1,r2,r3⟩:=I.hok a _ hq
  have eo:o' = o:=Option.some.inj (ho'.symm.trans ho)
  subst eo
  have ee:ep' = ep:=by
   rw [hd] at hd'
   cases hd'
   rfl
  subst ee
  have hlen:kvs.length = vs.length:=Paired.length r
  have hm:s.heap.DictAt (zf X.prog X.w) a vs ep':=⟨o',es',ho,hx',hd',r1,r2,r3⟩
  obtain ⟨kv,ekv⟩ : ∃ kv,kvs[i]? = some kv:=⟨kvs[i],by simp [hi]⟩
  obtain ⟨v,ev,rv⟩:=j0r r ekv
  obtain ⟨f0,f1,f2,f3,f4,f5⟩:=hf it (by simp)
  rw [hlen] at st
  refine wpAny_pyNext_dict_item st hm ev λkey h' hk st' sb=>?_
  have I1:Inv X pins U H { s with heap:=h' }:=I.turned (t':=s.toks) (λb o hb e=>(sb.2 b hb).trans e) f0 f1 f3 f4 f5
  rw [<- hlen] at st'
  obtain ⟨oi,ei,ci,di⟩:=id st'
  exact ⟨key,rfl,jv3 (s:={ s with heap:=h' }) ei ci di (by decide) ⟨kV kv.1,H,I1,j2r hk,⟨rfl,kv,ekv,rfl⟩,st',λb hb=>(hf b hb).1⟩⟩
 done:=by
  intro X hP hw hK hc i pins s U H E I hf st hg
  subst hP hw hK
  obtain ⟨hi,hq⟩:=hg
  obtain ⟨ho,hz,hs,vs,r,o',es',ep',ho',hx',hd',r1,r2,r3⟩:=I.hok a _ hq
  have eo:o' = o:=Option.some.inj (ho'.symm.trans ho)
  subst eo
  have ee:ep' = ep:=by
   rw [hd] at hd'
   cases hd'
   rfl
  subst ee
  have hlen:kvs.length = vs.length:=Paired.length r
  have hm:s.heap.DictAt (zf X.prog X.w) a vs ep':=⟨o',es',ho,hx',hd',r1,r2,r3⟩
  obtain ⟨f0,f1,f2,f3,f4,f5⟩:=hf it (by simp)
  rw [hlen] at st
  exact wpAny_pyNext_dict_end (I.ok.hd hc) st hm (List.getElem?_eq_none_iff.mpr (by omega)) λh' eb=>⟨rfl,I.turned (t':=s.toks) (λb o hb e=>eb b o hb e) f0 f1 f3 f4 f5⟩
 self:=λ_ _ _ _ _ st h=>wpAny_pyIter_keyiter st h
def iDk (tl:TE) : TI:=λU H R=>tl U H λx H1=>∃ a kvs,x = .ref a /\ H1 a = some (.dK kvs) /\ ∀ o,R (Itd a o kvs) (upd H1 a (.frz o (.dK kvs)))
theorem j6l {X:Cx} {tg l:Expr} {tl:TE} (hl:PE X l tl) : PI X tg l (iDk tl):=by
 intro pins s U H R I h
 refine thn (hl pins s U H _ I h) λv s1 ⟨x,H1,I1,r1,q1⟩=>?_
 obtain ⟨a,kvs,e,hq,q⟩:=q1
 subst e
 cases r1
 obtain ⟨hz,hs,vs,r,o,es,ep,ho,hx,hd,r1,r2,r3⟩:=I1.hok a _ hq
 have hlen:kvs.length = vs.length:=Paired.length r
 have hm:s1.heap.DictAt (zf X.prog X.w) a vs ep:=⟨o,es,ho,hx,hd,r1,r2,r3⟩
 refine wpAny_pyIter_dict hs hm ?_
 have I2:=I1.freeze (show Mut (some (HO.dK kvs)) from True.intro) hq ho
 have hn:upd H1 a (.frz o (.dK kvs)) s1.heap.objs.size = none:=I2.hok.fresh (le_refl _)
 refine ⟨s1.heap.objs.size,[s1.heap.objs.size],_,_,_,rfl,I2.kept (t':=s1.toks) λb o e=>Heap.get?_push_of_some _ e,j2s a _ o kvs es ep hd,?_,λb hb=>?_,q o⟩
 .rw [hlen]
  exact ⟨_,Heap.get?_push_size _ rfl,rfl,rfl⟩
 .have e:b = s1.heap.objs.size:=by simpa using hb
  subst e
  exact I2.j3e (le_refl _) hn
end L2
namespace L2
open PySem PySem.Spec PyProof.Rows
def jpy (v d:Addr) : HO:=.ext λh=>h.IsValuesView v d
def Itv (a:Addr) (o:Obj) (kvs:List (Key × V)) : It where
 go:=λi H=>i < kvs.length /\ H a = some (.frz o (.dK kvs))
 yld:=λi H x H'=>H' = H /\ ∃ kv,kvs[i]? = some kv /\ x = kv.2
 stop:=λi H=>kvs.length <= i /\ H a = some (.frz o (.dK kvs))
section
variable {X:Cx}
theorem jw8:MtR X "dict.values" (λx xs H Q=>∃ d kvs,x = .ref d /\ xs = [] /\ H d = some (.dK kvs) /\ ∀ p,H p = none -> Q (.ref p) (upd H p (jpy p d))):=by
 intro pins s U H x xs v us Q I rx rs h
 obtain ⟨d,kvs,rfl,rfl,hq,q⟩:=h
 cases rx
 cases rs
 obtain ⟨hz,hs,vs,r,hd⟩:=I.hok d _ hq
 refine call_meetsIn PySem.F.slot_dict_values hd.typeIs PySem.F.entry_dict_values (PySem.F.args_dict_values_1 _) (meets_dict_values (zf X.prog X.w) d hs) ⟨⟨vs,hd⟩,?_⟩
 refine ⟨.ref s.heap.objs.size,_,I.laid (t':=s.toks) (o:=jpy s.heap.objs.size d) (λb ob q=>Heap.get?_push_of_some _ q) (le_refl _) ?_,rfl,q _ I.fresh⟩
 refine ⟨⟨_,Heap.get?_push_size _ rfl,rfl,rfl⟩,⟨_,Heap.get?_push_size _ rfl⟩,λh1 h2 p k=>?_⟩
 obtain ⟨o,e,c,d⟩:=p
 exact ⟨o,k o e,c,d⟩
end
theorem j13 {P:Program} {w:World} {K:PySem.W.Frag} {tg:Expr} (a it:Addr) (o:Obj) (kvs:List (Key × V)) (es:Array DictEntry) (ep:Nat) (hd:o.data = .dict es ep) : Turn P w K tg (Itv a o kvs) [it] it (λi h=>h.IsValIter it a i kvs.length ep) where
 mem:=by simp
 obj:=λi h st b hb=>by
  have e:b = it:=by simpa using hb
  subst e
  obtain ⟨o,e,c,d⟩:=st
  exact ⟨o,e,λv z=>by rw [d] at z; cases z⟩
 keep:=λi h h' st k=>st.at λo e=>k it (by simp) o e
 item:=by
  intro X hP hw hK hc i pins s U H E I hf st hg
  subst hP hw hK
  obtain ⟨hi,hq⟩:=hg
  obtain ⟨ho,hz,hs,vs,r,o',es',ep',ho',hx',hd',r1,r2,r3⟩:=I.hok a _ hq
  have eo:o' = o:=Option.some.inj (ho'.symm.trans ho)
  subst eo
  have ee:ep' = ep:=by
   rw [hd] at hd'
   cases hd'
   rfl
  subst ee
  have hlen:kvs.length = vs.length:=Paired.length r
  have hm:s.heap.DictAt (zf X.prog X.w) a vs ep':=⟨o',es',ho,hx',hd',r1,r2,r3⟩
  obtain ⟨kv,ekv⟩ : ∃ kv,kvs[i]? = some kv:=⟨kvs[i],by simp [hi]⟩
  obtain ⟨v,ev,rv⟩:=j0r r ekv
  obtain ⟨f0,f1,f2,f3,f4,f5⟩:=hf it (by simp)
  rw [hlen] at st
  refine wpAny_pyNext_values_item st hm ev λh' st' sb=>?_
  have I1:Inv X pins U H { s with heap:=h' }:=I.turned (t':=s.toks) (λb o hb e=>(sb.2 b hb).trans e) f0 f1 f3 f4 f5
  rw [<- hlen] at st'
  obtain ⟨oi,ei,ci,di⟩:=id st'
  exact ⟨v,rfl,jv3 (s:={ s with heap:=h' }) ei ci di (by decide) ⟨kv.2,H,I1,rv,⟨rfl,kv,ekv,rfl⟩,st',λb hb=>(hf b hb).1⟩⟩
 done:=by
  intro X hP hw hK hc i pins s U H E I hf st hg
  subst hP hw hK
  obtain ⟨hi,hq⟩:=hg
  obtain ⟨ho,hz,hs,vs,r,o',es',ep',ho',hx',hd',r1,r2,r3⟩:=I.hok a _ hq
  have eo:o' = o:=Option.some.inj (ho'.symm.trans ho)
  subst eo
  have ee:ep' = ep:=by
   rw [hd] at hd'
   cases hd'
   rfl
  subst ee
  have hlen:kvs.length = vs.length:=Paired.length r
  have hm:s.heap.DictAt (zf X.prog X.w) a vs ep':=⟨o',es',ho,hx',hd',r1,r2,r3⟩
  obtain ⟨f0,f1,f2,f3,f4,f5⟩:=hf it (by simp)
  rw [hlen] at st
  exact wpAny_pyNext_values_end (I.ok.hd hc) st hm (List.getElem?_eq_none_iff.mpr (by omega)) λh' eb=>⟨rfl,I.turned (t':=s.toks) (λb o hb e=>eb b o hb e) f0 f1 f3 f4 f5⟩
 self:=λ_ _ _ _ _ st h=>wpAny_pyIter_valiter st h
def iVk (tl:TE) : TI:=λU H R=>tl U H λx H1=>∃ v a kvs,x = .ref v /\ H1 v = some (jpy v a) /\ H1 a = some (.dK kvs) /\ ∀ o,R (Itv a o kvs) (upd H1 a (.frz o (.dK kvs)))
theorem j6g {X:Cx} {tg l:Expr} {tl:TE} (hl:PE X l tl) : PI X tg l (iVk tl):=by
 intro pins s U H R I h
 refine thn (hl pins s U H _ I h) λv s1 ⟨x,H1,I1,r1,q1⟩=>?_
 obtain ⟨v,a,kvs,e,hv,hq,q⟩:=q1
 subst e
 cases r1
 obtain ⟨hz,hs,vs,r,o,es,ep,ho,hx,hd,r1,r2,r3⟩:=I1.hok a _ hq
 have hlen:kvs.length = vs.length:=Paired.length r
 have hm:s1.heap.DictAt (zf X.prog X.w) a vs ep:=⟨o,es,ho,hx,hd,r1,r2,r3⟩
 obtain ⟨hvv,_,_⟩:=(show wo X.prog X.w H1 s1.heap v (jpy v a) from I1.hok v _ hv)
 refine wpAny_pyIter_values hvv hm ?_
 have I2:=I1.freeze (show Mut (some (HO.dK kvs)) from True.intro) hq ho
 have hn:upd H1 a (.frz o (.dK kvs)) s1.heap.objs.size = none:=I2.hok.fresh (le_refl _)
 refine ⟨s1.heap.objs.size,[s1.heap.objs.size],_,_,_,rfl,I2.kept (t':=s1.toks) λb o e=>Heap.get?_push_of_some _ e,j13 a _ o kvs es ep hd,?_,λb hb=>?_,q o⟩
 .rw [hlen]
  exact ⟨_,Heap.get?_push_size _ rfl,rfl,rfl⟩
 .have e:b = s1.heap.objs.size:=by simpa using hb
  subst e
  exact I2.j3e (le_refl _) hn
end L2
namespace L2
open PySem PySem.Spec PyProof.Rows PySem.W
section
variable {prog:Program} {w:World} {A:Around} {E:Value -> Shared -> Prop} {s:Shared}
theorem ju5 {Q:Bool -> Shared -> Prop} : ∀ {vs us:List Value} {ns ms:List Int} (i:Nat),IntsAre vs ns -> IntsAre us ms -> Q (HT.lexLt ns ms) s -> KatLex prog w A true (decide (ns.length < ms.length)) Q (vs.zip us) i s
 | [],[],[],[],_,_,_,q=>kat_nil (by simpa [HT.lexLt] using q)
 | [],_ :: _,[],_ :: _,_,_,_,q=>kat_nil (by simpa [HT.lexLt] using q)
 | _ :: _,[],_ :: _,[],_,_,_,q=>kat_nil (by simpa [HT.lexLt] using q)
 | _ :: vs,_ :: us,n :: ns,m :: ms,i,.cons _ t hv,.cons _ t' hu,q=>by
  rw [HT.jl3] at q
  refine kat_cons (wpAny_eqBool_int (kat_go (λe=>?_) λe=>?_))
  .have e':n = m:=by simpa using e
   rw [if_pos e'] at q
   refine kat_yes ?_
   show KatLex prog w A true _ Q (vs.zip us) (i + 1) s
   have h:=ju5 (i + 1) hv hu q
   rw [show decide ((n :: ns).length < (m :: ms).length) = decide (ns.length < ms.length) by simp]
   exact h
  .have e' : ¬ n = m:=by simpa using e
   rw [if_neg e'] at q
   refine kat_no ?_
   cases i with
   | zero=>exact oneLt_int q
   | succ i=>exact kat_one _ _ (PyProof.Rows.lt_int q)
theorem jz5 {a:Addr} {vs:List Value} {n:Nat} {R:PySem.Fin -> Shared -> Prop} {Good:Array Nat -> Prop} (ho:s.heap.get? a = some (seqObj "list" vs.toArray n)) (h64:vs.length < 64)
  (ask : 2 <= vs.length -> ∀ s':Shared,(∀ b o,b ≠ a -> s.heap.get? b = some o -> s'.heap.get? b = some o) ->
   wpAny (model prog w) A (keyKind' vs.toArray) (λB s1=>s1 = s' /\ (kas_sort vs.length).kasWp (kas_ask prog w A B vs) (λp s2=>s2 = s' /\ Good p) s') (λ_ _=>False) s')
  (one:vs.length < 2 -> R (.done (.ret .none)) { s with heap:=sortedHeap s.heap a vs vs.toArray })
  (more : ∀ p:Array Nat,p.size = vs.length -> Good p -> R (.done (.ret .none)) { s with heap:=sortedHeap s.heap a vs (List.toArray (p.toList.map λi=>vs.getD i Value.none)) }) :
  wpAny (model prog w) A (Builtin.«list.sort» ⟨[.ref a],[]⟩) R E s:=by
 have big:(64:Nat) <= sizeLine:=by decide
 obtain ⟨e1,ho1⟩ : ∃ e1,(s.heap.update a (Obj.mapSeq λ_=>#[])).get? a = some (seqObj "list" #[] e1):=⟨_,get?_update_seq ho (λ_=>#[])⟩
 have la:a < (s.heap.update a (Obj.mapSeq λ_=>(#[] : Array Value))).objs.size:=Heap.lt_size ho1
 have ho6:=Heap.get?_push_of_some (seqObj "list" #[] 0) (Heap.get?_push_of_some (seqObj "tuple" vs.toArray 0) ho1)
 have old : ∀ b o,b ≠ a -> s.heap.get? b = some o -> (((s.heap.update a (Obj.mapSeq λ_=>#[])).push (seqObj "tuple" vs.toArray 0)).push (seqObj "list" #[] 0)).get? b = some o:=λb o hb e=>
  Heap.get?_push_of_some _ (Heap.get?_push_of_some _ ((Heap.get?_update_ne _ _ _ _ hb).trans e))
 rw [list_sort_plain]
 refine wpAny_bind (listItems_at ho rfl (wpAny_bind (listUpdate_at ho rfl (wpAny_bind (seqEpoch_at ho1 rfl (wpAny_bind (wpAny_newTuple (wpAny_bind (wpAny_newList (wpAny_holding ?_) (zero_le _))) (by show vs.length <= _; omega))))) (by show vs.toArray.size <= _; simp; omega) (zero_le _))))
 by_cases h2:vs.length < 2
 .have h2':vs.toArray.size < 2:=by simpa using h2
  have e:((vs.toArray.zip vs.toArray).map λx:Value × Value=>x.2) = vs.toArray:=by
   apply Array.toList_inj.mp
   simp
   exact List.map_snd_zip (le_refl _)
  dsimp only
  rw [if_pos h2',if_pos h2']
  refine wpAny_bind (wpAny_pure ?_)
  rw [StateT.run_pure]
  refine wpAny_bind (wpAny_pure (wpAny_bind (seqEpoch_at ho6 rfl (wpAny_bind (listUpdate_at ho6 rfl ?_ (zero_le _) ?_)))))
  .simp only [bne_self_eq_false,Bool.false_eq_true,if_false]
   have q:=one h2
   rw [<- e] at q
   exact wpAny_pure q
  .show ((vs.toArray.zip vs.toArray).map λx:Value × Value=>x.2).size <= _
   rw [e]
   simp
   omega
 .have h2' : ¬ vs.toArray.size < 2:=by simpa using h2
  dsimp only
  rw [if_neg h2',if_neg h2']
  refine wpAny_bind (wpAny_mono (ask (by omega) _ old) (λB s1 hk=>?_) λ_ _ z=>z.elim)
  obtain ⟨rfl,hk⟩:=hk
  refine wpAny_bind (wpAny_mono (kat_run (ks:=vs) (vs:=vs) (Q:=λst' s2=>∃ p:Array Nat,p.size = vs.length /\ arrOf st' = p.map (kas_item (vs.toArray.zip vs.toArray)) /\ failedOf st' = none /\ s2 = _ /\ Good p) rfl (by omega) h64 (λp st' s2 a1 a2 a3 a4=>⟨p,a1,a2,a3,a4⟩) hk) ?_ λ_ _ z=>z)
  rintro ⟨⟨⟩,st⟩ s2 ⟨p,hp,har,hf,rfl,good⟩
  have e:=kat_snds (ks:=vs) (vs:=vs) rfl har
  dsimp only
  rw [e]
  refine wpAny_bind (seqEpoch_at ho6 rfl (wpAny_bind (listUpdate_at ho6 rfl ?_ (zero_le _) ?_)))
  .rw [hf]
   simp only [bne_self_eq_false,Bool.false_eq_true,if_false]
   exact wpAny_pure (more p hp good)
  .rw [size_toArray,length_map,Array.length_toList,hp]
   omega
theorem jvj {l:Addr} {vs:List Value} {Q:Value -> Shared -> Prop} {Good:Array Nat -> Prop} (hl:s.heap.IsList l vs.toArray) (h64:vs.length < 64)
  (ask : 2 <= vs.length -> ∀ s':Shared,(∀ b o,s.heap.get? b = some o -> s'.heap.get? b = some o) ->
   wpAny (model prog w) A.in1.in1 (keyKind' vs.toArray) (λB s1=>s1 = s' /\ (kas_sort vs.length).kasWp (kas_ask prog w A.in1.in1 B vs) (λp s2=>s2 = s' /\ Good p) s') (λ_ _=>False) s')
  (one:vs.length < 2 -> Q (.ref (s.heap.objs.size + 1)) { s with heap:=sortedAll s.heap vs vs.toArray })
  (more : ∀ p:Array Nat,p.size = vs.length -> Good p -> Q (.ref (s.heap.objs.size + 1)) { s with heap:=sortedAll s.heap vs (List.toArray (p.toList.map λi=>vs.getD i Value.none)) }) :
  wpAny (model prog w) A (call (.builtin "sorted") [.ref l]) Q E s:=by
 have big:(64:Nat) <= sizeLine:=by decide
 have sz:((s.heap.push (seqObj "list" #[] 0)).update s.heap.objs.size (Obj.mapSeq (· ++ vs.toArray))).objs.size = s.heap.objs.size + 1:=(Heap.size_update ..).trans (size_push' ..)
 have at1:(((s.heap.push (seqObj "list" #[] 0)).update s.heap.objs.size (Obj.mapSeq (· ++ vs.toArray))).push (seqObj "list" vs.toArray 0)).get? (s.heap.objs.size + 1) = some (seqObj "list" vs.toArray 0):=sz ▸ Heap.get?_push_size _ rfl
 have old : ∀ b o,s.heap.get? b = some o -> (((s.heap.push (seqObj "list" #[] 0)).update s.heap.objs.size (Obj.mapSeq (· ++ vs.toArray))).push (seqObj "list" vs.toArray 0)).get? b = some o:=λb o e=>
  Heap.get?_push_of_some _ ((Heap.get?_update_ne _ _ _ _ (ne_of_lt (Heap.lt_size e))).trans (Heap.get?_push_of_some _ e))
 have body:=jz5 (prog:=prog) (w:=w) (A:=A.in1.in1) (E:=E) (a:=s.heap.objs.size + 1) (Good:=Good) (R:=λf s'=>f = .done (.ret .none) /\ Q (.ref (s.heap.objs.size + 1)) s')
  (s:={ s with heap:=((s.heap.push (seqObj "list" #[] 0)).update s.heap.objs.size (Obj.mapSeq (· ++ vs.toArray))).push (seqObj "list" vs.toArray 0) }) at1 h64
  (λh2 s' k=>ask h2 s' λb o e=>k b o (ne_of_lt (Nat.lt_succ_of_lt (Heap.lt_size e))) (old b o e)) (λh=>⟨rfl,one h⟩) (λp hp g=>⟨rfl,more p hp g⟩)
 refine Calls.call_function_entry kind_sorted plain_sorted entry_sorted (args_sorted1 _) ?_
 show wpAny (model prog w) A.in1 (do checkCount "sorted" 1 1 _; _) _ _ s
 refine wpAny_bind (m:=checkCount "sorted" 1 1 _) (wpAny_pure (wpAny_bind (collect_list hl (wpAny_bind (wpAny_newList ?_ (by omega))) (by omega))))
 show wpAny (model prog w) A.in1 _ _ E { s with heap:=((s.heap.push (seqObj "list" #[] 0)).update s.heap.objs.size (Obj.mapSeq (· ++ vs.toArray))).push (seqObj "list" vs.toArray 0) }
 rw [sz]
 exact wpAny_bind (wpAny_holding (wpAny_call_entry slot_list_sort ⟨_,at1,rfl⟩ entry_list_sort (wpAny_mono body (λf s' z=>⟨_,z.1,wpAny_pure ⟨_,rfl,z.2⟩⟩) λ_ _ z=>z) (args_list_sort _)))
end
theorem jw1 : ∀ {a b:List Int},a ≠ b -> HT.lexLt a b = false -> HT.lexLt b a = true
 | [],[],h,_=>absurd rfl h
 | [],_ :: _,_,h=>by cases h
 | _ :: _,[],_,_=>rfl
 | x :: a,y :: b,h,h'=>by
  rw [HT.jl3] at h' ⊢
  by_cases e:x = y
  .subst e
   rw [if_pos rfl] at h' ⊢
   exact jw1 (λz=>h (by rw [z])) h'
  .rw [if_neg e] at h'
   rw [if_neg (λz=>e z.symm)]
   have:=of_decide_eq_false h'
   exact decide_eq_true (by omega)
theorem j00 : ∀ {a b c:List Int},HT.lexLt a b = true -> HT.lexLt b c = true -> HT.lexLt a c = true
 | [],[],_,h,_=>by cases h
 | [],_ :: _,[],_,h=>by cases h
 | [],_ :: _,_ :: _,_,_=>rfl
 | _ :: _,[],_,h,_=>by cases h
 | _ :: _,_ :: _,[],_,h=>by cases h
 | x :: a,y :: b,z :: c,h,h'=>by
  rw [HT.jl3] at h h' ⊢
  by_cases e:x = y
  .subst e
   rw [if_pos rfl] at h
   by_cases e2:x = z
   .rw [if_pos e2] at h' ⊢
    exact j00 h h'
   .rw [if_neg e2] at h' ⊢
    exact h'
  .rw [if_neg e] at h
   have h1:=of_decide_eq_true h
   by_cases e2:y = z
   .subst e2
    rw [if_neg e]
    exact h
   .rw [if_neg e2] at h'
    have h2:=of_decide_eq_true h'
    rw [if_neg (by omega)]
    exact decide_eq_true (by omega)
theorem range_getD {α : Type} (d : α) (l:List α) : (List.range l.length).map (λi=>l.getD i d) = l:=by
 apply List.ext_getElem
 .simp
 .intro i h1 h2
  simp [h2]
section
variable {X:Cx} {pins:List (Addr × Obj)} {U : St} {H:Hp} {s:Shared}
theorem jla {α β : Type} {F : α -> β -> Prop} {d : α} {e : β} : ∀ {xs:List α} {ys:List β} {i:Nat},Paired F xs ys -> i < xs.length -> F (xs.getD i d) (ys.getD i e)
 | _,_,_,.nil,h=>absurd h (Nat.not_lt_zero _)
 | _,_,0,.cons h _,_=>h
 | _,_,i + 1,.cons _ r,h=>jla (i:=i) r (by simpa using h)
theorem jjv {α β : Type} {F : α -> β -> Prop} {d : α} {e : β} {xs:List α} {ys:List β} (h:Paired F xs ys) : ∀ {l:List Nat},(∀ i ∈ l,i < xs.length) -> Paired F (l.map λi=>xs.getD i d) (l.map λi=>ys.getD i e)
 | [],_=>.nil
 | i :: l,q=>.cons (jla h (q i (by simp))) (jjv h λj hj=>q j (by simp [hj]))
def juv (K:PySem.W.Frag) (H:Hp) (vs:List V) (ts:List (List Int)) : Prop:=Paired (λv t=>∃ a,v = .ref a /\ SqT K H a (t.map V.int)) vs ts
theorem j7t : ∀ {h:Heap} {its:List Value} {ts:List (List Int)},Paired (λu t=>∃ a xs,u = Value.ref a /\ IsTup h a xs /\ IntsAre xs.toList t) its ts -> (∀ t ∈ ts,t ≠ []) -> ∃ fs,KatTups h its fs /\ fs.length = its.length /\ ∀ v ∈ fs,∃ i k,v = Value.int i k
 | _,_,_,.nil,_=>⟨[],KatTups.nil,rfl,λ_ z=>by cases z⟩
 | h,_,t :: ts,.cons ⟨a,xs,e,⟨o,ho,hc,n,hd⟩,hi⟩ r,ne=>by
  subst e
  obtain ⟨fs,k,l,q⟩:=j7t r λz hz=>ne z (by simp [hz])
  obtain ⟨x,hx⟩ : ∃ x r,xs.toList = x :: r:=by
   cases hxs:xs.toList with
   | nil=>
    rw [hxs] at hi
    cases hi
    exact absurd rfl (ne [] (by simp))
   | cons x r=>exact ⟨x,r,rfl⟩
  obtain ⟨rr,hx⟩:=hx
  have h0:xs[0]? = some x:=by rw [<- Array.getElem?_toList,hx]; rfl
  rw [hx] at hi
  refine ⟨x :: fs,KatTups.cons ho hc hd h0 k,by simp [l],λv hv=>?_⟩
  rcases mem_cons.mp hv with rfl | hv
  .cases hi with
   | cons i k _=>exact ⟨i,k,rfl⟩
  .exact q v hv
theorem jqc {α β γ : Type} {F : α -> β -> Prop} {G : α -> γ -> Prop} {L : β -> γ -> Prop} (h : ∀ v u t,F v u -> G v t -> L u t) : ∀ {vs:List α} {us:List β} {ts:List γ},Paired F vs us -> Paired G vs ts -> Paired L us ts
 | _,_,_,.nil,.nil=>.nil
 | _,_,_,.cons a r,.cons b q=>.cons (h _ _ _ a b) (jqc h r q)
theorem jrf : ∀ {vs:List Value} {ns:List Int},IntsAre vs ns -> vs.length = ns.length
 | _,_,.nil=>rfl
 | _,_,.cons _ _ r=>by rw [length_cons,length_cons,jrf r]
end
end L2
namespace L2
open PySem PySem.Spec PyProof.Rows
def jyn (K:PySem.W.Frag) (H:Hp) (x:V) (ns:List Int) : Prop:=∃ a,x = .ref a /\ SqT K H a (ns.map V.int)
noncomputable def isT (K:PySem.W.Frag) (H:Hp) (n:List Int) (u:Value) : Bool:=@decide (∃ a,u = .ref a /\ SqT K H a (n.map V.int)) (Classical.propDecidable _)
theorem jtm {ns ms:List Int} (h:ns.map V.int = ms.map V.int) : ns = ms:=by
 induction ns generalizing ms with
 | nil=>cases ms with
  | nil=>rfl
  | cons _ _=>cases h
 | cons n ns ih=>cases ms with
  | nil=>cases h
  | cons m ms=>
   rw [map_cons,map_cons] at h
   injection h with h1 h2
   injection h1 with h1
   rw [h1,ih h2]
section
variable {X:Cx} {pins:List (Addr × Obj)} {U : St} {H:Hp} {s:Shared}
theorem jxz (I:Inv X pins U H s) {x:V} {u:Value} {ns n:List Int} (h:jyn X.K H x ns) (r:RelV x u) : isT X.K H n u = decide (ns = n):=by
 obtain ⟨a,rfl,ha⟩:=h
 cases r
 unfold isT
 by_cases e:ns = n
 .subst e
  rw [decide_eq_true rfl]
  exact @decide_eq_true _ (Classical.propDecidable _) ⟨a,rfl,ha⟩
 .rw [decide_eq_false e]
  refine @decide_eq_false _ (Classical.propDecidable _) λ⟨b,z,hb⟩=>?_
  cases z
  exact e (jtm (I.jnv ha hb))
theorem jk8 (I:Inv X pins U H s) {A:Around} (hu:A.units + 60 < cLine) {x:V} {v:Value} {n:List Int} (hx:jyn X.K H x n) (rx:RelV x v) : ∀ {xs:List V} {us:List Value} {nss:List (List Int)},Vals xs us -> Paired (jyn X.K H) xs nss -> ∀ u ∈ us,SeqAt.EqAt A s u v (isT X.K H n u)
 | _,_,_,.nil,_=>λu hu=>by cases hu
 | y :: xs,w :: us,m :: nss,.cons r t,.cons h hs=>λu hm=>by
  rcases mem_cons.mp hm with rfl | hm
  .rw [jxz I h r]
   obtain ⟨a,rfl,ha⟩:=h
   obtain ⟨b,rfl,hb⟩:=hx
   have q:=jqi I 60 (.tup (m.map Dt.int)) (.tup (n.map Dt.int)) (.ref a) (.ref b) u v A (j0f _) hu (jsj ha) (jsj hb) r rx
   rw [jy1] at q
   exact q
  .exact jk8 I hu hx rx t hs u hm
theorem jq6 (I:Inv X pins U H s) {n:List Int} : ∀ {xs:List V} {us:List Value} {nss:List (List Int)},Vals xs us -> Paired (jyn X.K H) xs nss -> us.any (isT X.K H n) = decide (n ∈ nss)
 | _,_,_,.nil,.nil=>by simp
 | y :: xs,w :: us,m :: nss,.cons r t,.cons h hs=>by
  rw [any_cons,jxz I h r,jq6 I t hs]
  by_cases e:m = n
  .subst e; simp
  .have e' : ¬ n = m:=λz=>e z.symm
   simp [e,e']
def j5y (K:PySem.W.Frag) (neg:Bool) : R2:=λx y H Q=>∃ p xs n nss,y = .ref p /\ SqL K H p xs /\ jyn K H x n /\ Paired (jyn K H) xs nss /\ Q (.bl (if neg then !decide (n ∈ nss) else decide (n ∈ nss))) H
end
section
variable {X:Cx}
theorem j3v (hu:X.A.units + 64 < cLine) : OpR X (compareOp .In) (j5y X.K false):=by
 intro pins s U H x y v u Q I rx ry h
 obtain ⟨p,xs,n,nss,rfl,hq,hx,hs,q⟩:=h
 cases ry
 obtain ⟨its,r,pl,hz⟩:=I.list hq
 refine SeqAt.in_listAt (isT X.K H n) pl.isList (λw hw=>jk8 I ?_ hx rx r hs w (by simpa using hw)) ⟨.bl _,H,I,rfl,?_⟩
 .first | (have e:X.A.in1.units = X.A.units + 1:=rfl; omega) | (have e:X.A.in1.units = X.A.units:=rfl; omega) | (have e:=Around.units_in1 X.A; omega)
 .rw [show its.toArray.any (isT X.K H n) = its.any (isT X.K H n) by simp,jq6 I r hs]
  exact q
theorem jtd (hu:X.A.units + 64 < cLine) : OpR X (compareOp .NotIn) (j5y X.K true):=by
 intro pins s U H x y v u Q I rx ry h
 obtain ⟨p,xs,n,nss,rfl,hq,hx,hs,q⟩:=h
 cases ry
 obtain ⟨its,r,pl,hz⟩:=I.list hq
 refine SeqAt.notIn_listAt (isT X.K H n) pl.isList (λw hw=>jk8 I ?_ hx rx r hs w (by simpa using hw)) ⟨.bl _,H,I,rfl,?_⟩
 .first | (have e:X.A.in1.units = X.A.units + 1:=rfl; omega) | (have e:X.A.in1.units = X.A.units:=rfl; omega) | (have e:=Around.units_in1 X.A; omega)
 .rw [show its.toArray.any (isT X.K H n) = its.any (isT X.K H n) by simp,jq6 I r hs]
  exact q
end
end L2
namespace L2
open PySem PySem.Spec PyProof.Rows
section
variable {X:Cx} {pins:List (Addr × Obj)} {U : St} {H H':Hp} {s s':Shared} {ea:Addr} {cls:Value}
end
section
variable {X:Cx} {scope:Scope} {N':List Str} {ix:List (Option Nat)} {C:Addr} {fp:List Addr} {s₂:Shared} {H₂:Hp} {pins:List (Addr × Obj)} {U : St}
theorem jv8 (I:Inv X pins U H₂ s₂) (hf : ∀ b ∈ fp,jtf X pins H₂ b) {ps:List (Addr × Obj)} {U':St} {H':Hp} {s':Shared} (I':Inv (blk X scope N' C fp s₂ H₂) ps U' H' s') : Inv X pins U H' s':=
 I.j1y (ch:=fp) I'.os I'.base I'.hok I'.bare λb hb=>by
  obtain ⟨_,f1,_,f3,f4,f5⟩:=hf b hb
  exact ⟨f3,f1,f4,f5⟩
end
section
variable {prog:Program} {w:World} {A:Around} {R:Result -> Shared -> Prop} {s:Shared}
end
section
variable {X:Cx} {scope:Scope} {N':List Str} {ix:List (Option Nat)}
variable {tg iter elt:Expr} {ifs:List Expr} {pos:Pos} {wi:TI} {g:TG} {ti:TT} {te:TE} {W:Value -> Hp -> Prop}
end
end L2
namespace L2
open PySem PySem.Spec PyProof.Rows
section
variable {X:Cx} {pins:List (Addr × Obj)} {U : St} {H:Hp} {s:Shared} {a:Addr} {y v:V} {u r:Value} {A:Around} {E:Value -> Shared -> Prop}
theorem jws {H':Hp} {Q:Unit -> Shared -> Prop} (hu:A.units < cLine) (I:Inv X pins U H s) (g:jwf H a y v H') (ry:RelV y u) (rv:RelV v r) (h : ∀ s',Inv X pins U H' s' -> Q () s') : wpAny (model X.prog X.w) A (dictSet a u r) Q E s:=by
 rcases g with ⟨kvs,k,e,ey,l,eH⟩ | ⟨kvs,k,b,e,ey,eb,l,eH⟩
 .subst ey eH
  obtain ⟨z,hd,vs,rel,dd⟩:=j39 I.hok e
  have hz:vs.length <= sizeLine:=by rw [<- rel.length]; exact z
  have hl:(putK kvs k v).length <= sizeLine:=by have:=jdb kvs k v; omega
  refine wpAny_dictSet_pairs (hsz:=hz) (jub ry) dd λh' dd' hs=>h _ ?_
  have he : ∃ q,h'.get? a = some q:=let ⟨q,_,_,hq,_⟩:=dd'; ⟨q,hq⟩
  exact joo I (by rw [e]; exact True.intro) hs he (j05 hl hd (rel.put k rv) dd')
 .subst ey eH
  cases (show u = Value.ref b from ry)
  obtain ⟨z,hd,xs,rel,dd⟩:=j2l I.hok e
  have hz:xs.length <= sizeLine:=by rw [<- Paired.length rel]; exact z
  have hl:(putK kvs k v).length <= sizeLine:=by have:=jdb kvs k v; omega
  refine wpAny_dictSet_heap (hsz:=hz) (knd:=tupleKind (zf X.prog X.w)) hu (jms I.hok eb) dd λh' dd' hs=>h _ ?_
  obtain ⟨q,es,ep,hq,h2,h3,h4,_,h5⟩:=dd'
  refine joo I (by rw [e]; exact True.intro) hs ⟨q,hq⟩ ⟨hl,hd,_,(rel.put k eb rv).keeps λc ys ec=>?_,q,es,ep,hq,h2,h3,h4,h5⟩
  rw [je (jly ec e (λz=>nomatch z))]
  exact ec
end
section
variable {prog:Program} {w:World} {A:Around} {R:Result -> Shared -> Prop} {s:Shared}
theorem jvx {kx vx target iter:Expr} {ifs:List Expr} {scope:Scope} {pos:Pos} {it:Value} {D:Addr} {env:Env} (I:Nat -> Shared -> Prop)
  (turn : ∀ n s,I n s -> wpAny (model prog w) A (pyNext it) (λr s₁=>match r with
   | none=>R (.ok .next) s₁
   | some v=>wpAny (model prog w) A (letOwnedTupleGo target it v) (λ_ s₁=>wpAny (model prog w) A (assign target env v) (λ_ s₂=>wpAny (model prog w) A (forIn ifs true λc r=>if r = true then do let ok <- isTrue c env (eval c env); pure (ForInStep.yield ok) else pure (ForInStep.yield r)) (λok s₃=>
      if ok = true then wpAny (model prog w) A (eval kx env) (λkv s₄=>wpAny (model prog w) A (eval vx env) (λvv s₅=>wpAny (model prog w) A (dictSet D kv vv) (λ_ s₆=>∃ m,m < n /\ I m s₆) NoE s₅) NoE s₄) NoE s₃
      else ∃ m,m < n /\ I m s₃) NoE s₂) NoE s₁) NoE s₁) NoE s)
  (n:Nat) (h:I n s) : codeAny (model prog w) A (.compLoop (.DictComp kx vx [⟨target,iter,ifs,0⟩] scope pos) 0 it (.ref D) env) R s:=by
 refine codeAny_loop rfl I (λn s hI=>?_) n h
 have no : ∀ {α : Type} {t:Sem α} {Q : α -> Shared -> Prop} {E:Value -> Shared -> Prop} {s:Shared},wpAny (model prog w) A t Q NoE s -> wpAny (model prog w) A t Q E s:=λh=>wpAny_mono h (λ_ _ q=>q) λ_ _ z=>z.elim
 show wpAny _ A ((compTurn (.DictComp kx vx [⟨target,iter,ifs,0⟩] scope pos) 0 it (.ref D) env).onRaise (λx=>do noteFrame x env; theTreesLotGoes x)) _ _ s
 rw [compTurn_dict]
 refine wpAny_noted (wpAny_bind (wpAny_standAt (wpAny_bind (no (thn (turn n s hI) λr s₁ h₁=>?_)))))
 cases r with
 | none=>exact wpAny_pure h₁
 | some v=>
  refine wpAny_bind (no (thn h₁ λ_ s₁ h₁=>wpAny_bind (no (thn h₁ λ_ s₂ h₂=>wpAny_bind (no (thn h₂ λok s₃ h₃=>?_))))))
  cases ok with
  | false=>exact wpAny_pure ⟨rfl,h₃⟩
  | true=>
   refine wpAny_bind (wpAny_bind (no (thn h₃ λkv s₄ h₄=>wpAny_bind (wpAny_holding (no (thn h₄ λvv s₅ h₅=>?_))))))
   exact wpAny_bind (wpAny_standAt (wpAny_holding (no (thn h₅ λ_ s₆ h₆=>wpAny_pure ⟨rfl,h₆⟩))))
end
section
variable {X:Cx} {scope:Scope} {N':List Str} {ix:List (Option Nat)} {C:Addr} {fp:List Addr} {s₂:Shared} {H₂:Hp} {pins:List (Addr × Obj)} {U : St}
theorem jvv (I:Inv X pins U H₂ s₂) (co:jio X.N X.env.scope scope N' ix) {h₁:Heap} {t':Nat} (hC : @Eq Nat C s₂.heap.objs.size) (hf : ∀ b ∈ fp,jtf X pins H₂ b) (hlt : ∀ b ∈ fp,b < s₂.heap.objs.size)
  (old : ∀ b o,s₂.heap.get? b = some o -> h₁.get? b = some o) {m:Str -> Option Value} (hns:h₁.Ns C m) :
  Inv (blk X scope N' C fp s₂ H₂) [] (jnc ix U) H₂ { s₂ with heap:=h₁,toks:=t' } where
 ok:=j0z I co (by omega) hf hlt
 os:=rfl
 bare:=I.bare
 base:=Un.kept old
 loc := by
  refine ⟨m,hns,λi x v e1 e2 e3=>?_⟩
  unfold jnc at e2
  rw [getElem?_map] at e2
  cases q:ix[i]? with
  | none=>rw [q] at e2; cases e2
  | some o=>
   rw [q] at e2
   cases o with
   | none=>cases e2
   | some k=>
    have e2':(U[k]?).join = some v:=Option.some.inj e2
    have e2'' : U[k]? = some (some v):=by
     cases z : U[k]? with
     | none=>rw [z] at e2'; cases e2'
     | some o=>rw [z] at e2'; exact congrArg some e2'
    obtain ⟨o1,o2,o3⟩:=co.out i x k e1 q
    have hk:X.env.kindOf x = some .cell \/ X.env.kindOf x = some .free:=co.frees _ o2 rfl
    obtain ⟨m0,_,hl⟩:=I.loc
    obtain ⟨u,r,l⟩:=hl k x v o1 e2'' (.inr hk)
    refine ⟨u,r,?_⟩
    rcases l with ⟨l,_⟩ | ⟨_,c,ec,hcell⟩
    .rcases hk with z | z
     .rw [z] at l; cases l
     .rw [z] at l; cases l
    .refine .inr ⟨?_,c,jrk o2 ec,?_⟩
     .rcases e3 with z | z | z
      .obtain ⟨k',hm,q⟩:=gs z
       rcases q with q | ⟨_,q⟩
       .have:=o3 _ hm rfl
        rw [show k' = NameKind.local from q] at this
        cases this
       .cases q
      .exact .inl z
      .exact .inr z
     .obtain ⟨o,ho,hd⟩:=hcell
      exact ⟨o,old _ _ ho,hd⟩
 cell:=λx c e=>by
  obtain ⟨v,o,ho,hd⟩:=I.cell x c (jaa e)
  exact ⟨v,o,old _ _ ho,hd⟩
 free:=I.hok.fresh (by show @LE.le Nat _ s₂.heap.objs.size C; omega)
 jfs:=λx c e=>I.jfs x c (jaa e)
 pin:=λp hp=>by
  have hp':p ∈ ([] : List (Addr × Obj)):=by simpa [blk] using hp
  cases hp'
 hok:=I.hok.kept old
 len:=by unfold jnc; rw [length_map]; exact co.len
end
def DcW (J:It) (g:TG) (ti:TT) (tk tv:TE) (D:Addr) (QF:Hp -> Prop) (W:Nat -> Nat -> St -> Hp -> Prop) : Prop:=∀ i m U H,W i m U H -> (J.stop i H /\ QF H) \/
 (J.go i H /\ ∃ N:St -> Hp -> Prop,(∀ U' H',N U' H' -> ∃ m',m' < m /\ W (i + 1) m' U' H') /\
  ∀ x H',J.yld i H x H' -> g x U H' λU2 H2=>ti U2 H2 λb H3=>if b = true then tk U2 H3 λy H4=>tv U2 H4 λz H5=>∃ H6,jwf H5 D y z H6 /\ N U2 H6 else N U2 H3)
def tDc (new:HO) (ix:List (Option Nat)) (wi:TI) (g:TG) (ti:TT) (tk tv:TE) : TE:=λU H Q=>wi U H λJ H1=>∀ D,H1 D = none -> ∃ W:Nat -> Nat -> St -> Hp -> Prop,(∃ m,W 0 m (jnc ix U) (upd H1 D new)) /\ DcW J g ti tk tv D (λH=>Q (.ref D) H) W
section
variable {X:Cx}
theorem j0g {scope:Scope} {N':List Str} {ix:List (Option Nat)} {pins:List (Addr × Obj)} {U : St} {tg iter kx vx:Expr} {ifs:List Expr} {pos:Pos} {g:TG} {ti:TT} {tk tv:TE} {E:Value -> Shared -> Prop} {D:Addr}
  (co:jio X.N X.env.scope scope N' ix) (hc:X.calm = true) (hu:X.A.units < cLine)
  (hg : ∀ C fp s₂ H₂,PG (blk X scope N' C fp s₂ H₂) tg g) (hi : ∀ C fp s₂ H₂,PIf (blk X scope N' C fp s₂ H₂) ifs ti) (hk : ∀ C fp s₂ H₂,PE (blk X scope N' C fp s₂ H₂) kx tk) (hv : ∀ C fp s₂ H₂,PE (blk X scope N' C fp s₂ H₂) vx tv)
  {H₂:Hp} {s₂:Shared} {J:It} {fp:List Addr} {it:Addr} {tn:Nat -> Heap -> Prop} {QF:Hp -> Prop} {W:Nat -> Nat -> St -> Hp -> Prop}
  (I:Inv X pins U H₂ s₂) (T:Turn X.prog X.w X.K tg J fp it tn) (st:tn 0 s₂.heap) (hf : ∀ b ∈ fp,jtf X pins H₂ b) (w0 : ∃ m,W 0 m (jnc ix U) H₂) (hW:DcW J g ti tk tv D QF W)
  {RR:Addr -> Result -> Shared -> Prop} (hRR : ∀ C H' s',Inv X pins U H' s' -> QF H' -> j2d X pins H' s' C -> RR C (.ok .next) s') :
  wpAny (model X.prog X.w) X.A (newFunctionEnv scope X.env.globals (jwa scope X.env) [] X.env.qual none .none (some X.env)) (λcenv s₄=>
   codeAny (model X.prog X.w) X.A (.compStart (.DictComp kx vx [⟨tg,iter,ifs,0⟩] scope pos) 0 (.ref it) (.ref D) { cenv with scope:=relabel scope X.env }) (RR cenv.locals) s₄) E s₂:=by
 have hlt : ∀ b ∈ fp,@LT.lt Nat _ b s₂.heap.objs.size:=λb hb=>by
  obtain ⟨o,e,_⟩:=T.obj _ _ st b hb
  exact Heap.lt_size e
 refine wpAny_newFunctionEnv co.jw3 (by intro y hy; simp at hy) (λh₁ hns₁ hsb₁=>?_) co.kind
 have below : ∀ b:Nat,b < s₂.heap.objs.size -> ¬ @Eq Nat b s₂.heap.objs.size:=λb hb=>by omega
 have old : ∀ b o,s₂.heap.get? b = some o -> h₁.get? b = some o:=λb o e=>hsb₁.extBut b o (below b (Heap.lt_size e)) (Heap.get?_push_of_some _ e)
 have st₁:tn 0 h₁:=T.keep _ _ _ st λb _ o e=>old b o e
 generalize hCe:s₂.heap.objs.size = C at hns₁ hsb₁ below ⊢
 have loop : ∀ s₃:Shared,s₃ = { s₂ with heap:=h₁,toks:=s₂.toks + ([] : List (Str × Value)).length } ->
   codeAny (model X.prog X.w) X.A (.compLoop (.DictComp kx vx [⟨tg,iter,ifs,0⟩] scope pos) 0 (.ref it) (.ref D) (compEnvC scope (jwa scope X.env) C X.env)) (RR C) s₃:=by
  rintro s₃ rfl
  obtain ⟨m0,w0⟩:=w0
  have I3:Inv (blk X scope N' C fp s₂ H₂) [] (jnc ix U) H₂ { s₂ with heap:=h₁,toks:=s₂.toks + ([] : List (Str × Value)).length }:=jvv I co hCe.symm hf hlt old hns₁
  refine jvx (λk s'=>∃ i U' H',Inv (blk X scope N' C fp s₂ H₂) [] U' H' s' /\ tn i s'.heap /\ (∀ b ∈ fp,H' b = none) /\ W i k U' H') ?_ m0 ⟨0,_,_,I3,st₁,λb hb=>(hf b hb).1,w0⟩
  rintro k s' ⟨i,U',H',I',st',fr',w'⟩
  have fpok : ∀ {H':Hp},(∀ b ∈ fp,H' b = none) -> ∀ b ∈ fp,jtf (blk X scope N' C fp s₂ H₂) [] H' b:=λ{H'} hn b hb=>by
   refine ⟨hn b hb,below b (hCe ▸ hlt b hb),λz=>?_,.inl hb,λx c e=>(hf b hb).2.2.2.2.1 x c (jaa e),λp hp=>?_⟩
   .rcases mem_cons.mp (I.jn0 b z) with e | e
    .exact (hf b hb).2.1 e
    .exact (hf b hb).2.2.1 e
   .have hp':p ∈ ([] : List (Addr × Obj)):=by simpa [blk] using hp
    cases hp'
  rcases hW i k U' H' w' with ⟨stop,q⟩ | ⟨go,N,hN,step⟩
  .refine thn (T.done (blk X scope N' C fp s₂ H₂) rfl rfl rfl hc i _ s' U' H' NoE I' (fpok fr') st' stop) λr s4 ⟨hr,I4⟩=>?_
   subst hr
   have cf:H' C = none:=I4.free
   refine hRR C H' s4 (jv8 I hf I4) q ⟨?_,cf,?_,?_,λx c e=>?_,λp hp=>?_⟩
   .obtain ⟨m,hn,_⟩:=I4.loc
    exact ⟨m,hn⟩
   .have z : @LT.lt Nat _ X.env.locals s₂.heap.objs.size:=I.lt
    show ¬ @Eq Nat C X.env.locals
    omega
   .have z : @LE.le Nat _ X.s₀.heap.objs.size s₂.heap.objs.size:=I.sz
    show @LE.le Nat _ X.s₀.heap.objs.size C
    omega
   .obtain ⟨v,z⟩:=I.cell x c e
    have z2 : @LT.lt Nat _ c s₂.heap.objs.size:=z.lt
    show ¬ @Eq Nat c C
    omega
   .have z2 : @LT.lt Nat _ p.1 s₂.heap.objs.size:=Heap.lt_size (I.pin p hp).1
    show ¬ @Eq Nat p.1 C
    omega
  .refine thn (T.item (blk X scope N' C fp s₂ H₂) rfl rfl rfl hc i _ s' U' H' NoE I' (fpok fr') st' go) λr s4 ⟨u,hr,h4⟩=>?_
   subst hr
   refine thn h4 λ_ s5 ⟨x,H5,I5,r5,y5,st5,fr5⟩=>?_
   have I5':=I5.pinned (fpok fr5) (T.obj _ _ st5)
   refine thn (hg C fp s₂ H₂ _ s5 U' H5 x u _ I5' r5 (step x H5 y5)) λ_ s6 ⟨U6,H6,I6,q6⟩=>?_
   refine thn (hi C fp s₂ H₂ _ s6 U6 H6 _ I6 q6) λok s7 ⟨H7,I7,q7⟩=>?_
   have back : ∀ {U8:St} {H8:Hp} {s8:Shared},Inv (blk X scope N' C fp s₂ H₂) ([] ++ jkj fp s5.heap) U8 H8 s8 -> N U8 H8 -> ∃ m',m' < k /\ ∃ i U' H',Inv (blk X scope N' C fp s₂ H₂) [] U' H' s8 /\ tn i s8.heap /\ (∀ b ∈ fp,H' b = none) /\ W i m' U' H':=λ{U8 H8 s8} I8 n8=>by
    obtain ⟨m',hm,w8⟩:=hN _ _ n8
    have fpin : ∀ b ∈ fp,∀ o,s5.heap.get? b = some o -> s8.heap.get? b = some o /\ H8 b = none:=λb hb o e=>by
     have z:=I8.pin (b,o) (mem_append_right _ (mem_append_right _ (jib hb e)))
     exact ⟨z.1,z.2.1⟩
    refine ⟨m',hm,i + 1,U8,H8,I8.jkg,T.keep _ _ _ st5 λb hb o e=>(fpin b hb o e).1,λb hb=>?_,w8⟩
    obtain ⟨o,e,_⟩:=T.obj _ _ st5 b hb
    exact (fpin b hb o e).2
   cases ok with
   | false=>
    have q7':=q7
    rw [if_neg Bool.false_ne_true] at q7'
    exact back I7 q7'
   | true=>
    have q7':=q7
    rw [if_pos rfl] at q7'
    show wpAny _ _ _ _ _ _
    refine thn (hk C fp s₂ H₂ _ s7 U6 H7 _ I7 q7') λkv s8 ⟨y,H8,I8,r8,q8⟩=>?_
    refine thn (hv C fp s₂ H₂ _ s8 U6 H8 _ I8 q8) λvv s9 ⟨z,H9,I9,r9,H10,dp,q9⟩=>?_
    exact jws (X:=blk X scope N' C fp s₂ H₂) (A:=X.A) hu I9 dp r8 r9 λs10 I10=>back I10 q9
 exact codeAny_compStart_dict (loop _ rfl) (T.self _ 0 _ _ _ st₁ (loop _ rfl))
variable {scope:Scope} {N':List Str} {ix:List (Option Nat)} {tg iter kx vx:Expr} {ifs:List Expr} {pos:Pos} {wi:TI} {g:TG} {ti:TT} {tk tv:TE}
theorem jz0 (new:HO) (hnew:new = .dK [] \/ new = .dT []) (hu:X.A.units + 1 < cLine) (co:jio X.N X.env.scope scope N' ix) (hc:X.calm = true) (hit:PI X tg iter wi) (hg : ∀ C fp s₂ H₂,PG (blk X scope N' C fp s₂ H₂) tg g) (hi : ∀ C fp s₂ H₂,PIf (blk X scope N' C fp s₂ H₂) ifs ti)
  (hk : ∀ C fp s₂ H₂,PE (blk X scope N' C fp s₂ H₂) kx tk) (hv : ∀ C fp s₂ H₂,PE (blk X scope N' C fp s₂ H₂) vx tv) (hs:autoParam (∀ x,foldedSetIterable iter X.env x = pure x) aP3) :
  PE X (.DictComp kx vx [⟨tg,iter,ifs,0⟩] scope pos) (tDc new ix wi g ti tk tv):=by
 intro pins s U H Q I h
 show wpAny _ _ (comprehension (.DictComp kx vx [⟨tg,iter,ifs,0⟩] scope pos) scope X.env _ newDict false (eval iter X.env)) _ _ s
 refine wpAny_comprehension_free (use:=none) rfl hs (jn9 co I) co.kind co.names (thn (hit pins s U H _ I h) λxv s₁ h₁=>thn h₁ λitv s₂ h₂=>?_)
 obtain ⟨it,fp,tn,J,H₂,e,I₂,T,st,hf,hq⟩:=h₂
 subst e
 refine wpAny_newObj_type ?_
 have hn:H₂ s₂.heap.objs.size = none:=I₂.hok.fresh (le_refl _)
 have hob:wo X.prog X.w (upd H₂ s₂.heap.objs.size new) (s₂.heap.push { cls:=.type "dict",dict:=none,data:=.dict #[] }) s₂.heap.objs.size new:=by
  rcases hnew with z | z
  .rw [z]; exact jza s₂.heap I₂.big
  .rw [z]; exact juo s₂.heap I₂.big
 have I₃:Inv X pins U (upd H₂ s₂.heap.objs.size new) { s₂ with heap:=s₂.heap.push { cls:=.type "dict",dict:=none,data:=.dict #[] } }:=I₂.laid (a:=s₂.heap.objs.size) (o:=new) (t':=s₂.toks) (λ_ _ q=>Heap.get?_push_of_some _ q) (le_refl _) hob
 obtain ⟨W,w0,hW⟩:=hq s₂.heap.objs.size hn
 have hf' : ∀ b ∈ fp,jtf X pins (upd H₂ s₂.heap.objs.size new) b:=λb hb=>by
  obtain ⟨f0,f⟩:=hf b hb
  obtain ⟨o,e,_⟩:=T.obj _ _ st b hb
  exact ⟨by rw [je (ne_of_lt (Heap.lt_size e))]; exact f0,f⟩
 refine j0g co hc (Nat.lt_of_succ_lt hu) hg hi hk hv I₃ T (T.keep _ _ _ st λb _ o e=>Heap.get?_push_of_some _ e) hf' w0 hW
  (RR:=λC=>compPost (model X.prog X.w) X.A X.xe none (EP X pins U Q) (.ref s₂.heap.objs.size) C) λC H' s' I' q G=>?_
 obtain ⟨m,hn⟩:=G.ns
 exact ⟨m,hn,λh' hs'=>⟨.ref s₂.heap.objs.size,_,G.go I' hs',rfl,q⟩⟩
end
end L2
namespace L2
open PySem PySem.Spec PyProof.Rows
section
variable {X:Cx} {pins:List (Addr × Obj)} {U : St} {H:Hp} {s:Shared} {h':Heap}
end
end L2
namespace L2
open PySem PySem.Spec PyProof.Rows
theorem jql (bt:Nat -> Nat -> Bool) : ∀ k,argBest bt k <= k
 | 0=>le_refl _
 | k + 1=>by
  have:=jql bt k
  unfold argBest
  split <;> omega
section
variable {prog:Program} {w:World} {A:Around} {s:Shared} {l it S:Addr} {vs:List Value} {bt:Nat -> Nat -> Bool} {R:Result -> Shared -> Prop}
end
section
variable {prog:Program} {w:World} {A:Around} {s:Shared} {l:Addr} {vs:List Value} {bt:Nat -> Nat -> Bool} {E:Value -> Shared -> Prop}
end
section
variable {X:Cx}
end
end L2
namespace L2
open PySem PySem.Spec PyProof.Rows
section
variable {X:Cx} {K:PySem.W.Frag}
theorem j2k (hK:X.K = K) : IxR X (j7s K):=by
 subst hK
 exact jip
end
end L2
namespace PySem
section
variable {prog:Program} {w:World} {K:Type} [DecidableEq K] {knd:HeapKind prog w K} {A:Around} {E:Value -> Shared -> Prop} {s:Shared}
theorem j55 {h:Heap} {d a:Addr} {xs:List (K × Addr × Value)} {k:K} {v:Value} {o:Obj} {es:Array DictEntry} {ep:Nat} (ho:h.get? d = some o) (hc:o.ExactDict) (hd:o.data = .dict es ep) (he:es.toList = xs.map (entryOfKey knd))
  (his : ∀ x ∈ xs,knd.is h x.1 x.2.1) (hn:(xs.map (·.1)).Nodup) (hkey:knd.is h k a) (hnot:k ∉ xs.map (·.1)) :
  (h.update d (Obj.mapDictKeys (·.push ⟨knd.hash k,.ref a,v⟩))).DictOfH knd d (xs ++ [(k,a,v)]):=by
 refine ⟨_,_,ep + 1,Heap.get?_update_self _ ho (Obj.isFreed_of_dict (Obj.data_mapDictKeys hd _)),hc.mapDictKeys _,Obj.data_mapDictKeys hd _,by simp [he,entryOfKey],λx hx=>?_,?_⟩
 .have old:knd.is h x.1 x.2.1:=(mem_append.mp hx).elim (his x) λz=>by
   rw [mem_singleton.mp z]
   exact hkey
  exact knd.keeps old ho hd (Heap.SameBut.update ..)
 .have p:((xs ++ [(k,a,v)]).map (·.1)).Perm (k :: xs.map (·.1)):=by
   rw [map_append]
   exact List.perm_append_comm
  exact p.nodup_iff.mpr (nodup_cons.mpr ⟨hnot,hn⟩)
theorem j2g {d a:Addr} {xs:List (K × Addr × Value)} {k:K} {dflt:Value} {Q:Value -> Shared -> Prop} (hu:knd.room A) (hkey:knd.is s.heap k a) (hm:s.heap.DictOfH knd d xs) (hsz:xs.length <= sizeLine)
  (h1 : ∀ p,atKey xs k = some p -> Q p.2 { s with toks:=s.toks + knd.draws k })
  (h2:atKey xs k = none -> ∀ h',h'.DictOfH knd d (xs ++ [(k,a,dflt)]) -> Heap.SameBut d s.heap h' -> Q dflt { s with heap:=h',toks:=s.toks + knd.draws k }) :
  wpAny (model prog w) A (dictSetDefault d (.ref a) dflt) Q E s:=by
 obtain ⟨o,es,ep,ho,hc,hd,he,his,hn⟩:=hm
 have sz:es.size = xs.length:=by
  have:=congrArg List.length he
  simpa using this
 unfold dictSetDefault
 refine wpAny_holding (wpAny_bind (knd.pyHash hu hkey (wpAny_bind (wpAny_dictFind_heap (s:={ s with toks:=s.toks + knd.draws k }) hu hkey ho hd he his hn (λhno=>?_) (λj p hj=>?_)))))
 .refine wpAny_bind (wpAny_rule (wpAny_bind (wpAny_updateDictKeys (hz:=by omega) (s:={ s with toks:=s.toks + knd.draws k }) ho hd (wpAny_pure (h2 (atKey_none_of_get hno) _ (j55 ho hc hd he his hn hkey (not_mem_keys_of_get hno)) (Heap.SameBut.update ..))))))
 .refine wpAny_bind (wpAny_dictEntries (s:={ s with toks:=s.toks + knd.draws k }) ho hd ?_)
  rw [entry_at he j,hj]
  exact wpAny_bind (wpAny_rule (wpAny_pure (h1 _ (atKey_of_get hn hj))))
theorem jlh (knd:HeapKind prog w K) (d a:Addr) (hd:(d == sysModules) = false) (dflt:Value) :
  MeetsIn prog w (Builtin.«dict.setdefault» ⟨[.ref d,.ref a,dflt],[]⟩) (λA R s=>knd.room A.in1 /\ ∃ k xs,knd.is s.heap k a /\ s.heap.DictOfH knd d xs /\ xs.length <= sizeLine /\
   (∀ p,atKey xs k = some p -> R (.ok (.ret p.2)) { s with toks:=s.toks + knd.draws k }) /\
   (atKey xs k = none -> ∀ h',h'.DictOfH knd d (xs ++ [(k,a,dflt)]) -> Heap.SameBut d s.heap h' -> R (.ok (.ret dflt)) { s with heap:=h',toks:=s.toks + knd.draws k })):=
 .of_wp λA R s ⟨hu,k,xs,hkey,hm,hz,h1,h2⟩=>by
  have run:=j2g (prog:=prog) (w:=w) (E:=λe s'=>R (.error e) s') (Q:=λv s'=>R (.ok (.ret v)) s') hu hkey hm hz h1 h2
  unfold Builtin.«dict.setdefault» Builtin.Dict.keyAndDefault
  refine wpAny_bind (wpAny_bind (wpAny_notOrdered_dict hm.typeIs ?_))
  show wpAny _ _ (pure (d,Value.ref a,some dflt)) _ _ s
  refine wpAny_pure ?_
  show wpAny _ _ (if (d == sysModules) = true then _ else (dictSetDefault d (.ref a) dflt >>= _)) _ _ s
  rw [if_neg (by rw [hd]; exact Bool.false_ne_true)]
  exact wpAny_bind (wpAny_mono run (λv s' q=>wpAny_pure ⟨v,rfl,q⟩) λ_ _ z=>z)
end
end PySem
namespace L2
open PySem PySem.Spec PyProof.Rows
def jz4 (td ty tx:TE) : TE:=λU H Q=>td U H λx H1=>∃ a,x = .ref a /\ IsD H1 a /\ ty U H1 λy H2=>tx U H2 λz H3=>∃ kvs k b,H3 a = some (.dT kvs) /\ y = .ref b /\ H3 b = some (.tup (k.map kV)) /\ kvs.length < sizeLine /\
 (∀ v,jgi kvs k = some v -> Q v H3) /\ (jgi kvs k = none -> Q z (upd H3 a (.dT (putK kvs k z))))
section
variable {X:Cx} {o e f:Expr} {apos cpos:Pos} {td ty tx:TE}
theorem jvg (hu:X.A.units + 1 < cLine) (ho:PE X o td) (he:PE X e ty) (hf:PE X f tx) (m:M2 X o "setdefault" apos e f cpos) : PE X (.Call (.Attribute o "setdefault" apos) [e,f] [] cpos) (jz4 td ty tx):=by
 intro pins s U H Q I h
 refine wpAny_Call_method m.base m.few m.line PySem.F.plainAttrs_dict PySem.F.slot_dict_setdefault PySem.F.type_dict_setdefault (thn (ho pins s U H _ I h) λu s1 ⟨x,H1,I1,rx,a,ex,d,q1⟩=>?_)
 subst ex
 obtain rfl:u = Value.ref a:=rx
 obtain ⟨t1,t2,_⟩:=j0t I1 d
 refine ⟨t1,t2,?_⟩
 rw [m.trees]
 refine Calls.callWith_builtin rfl (Calls.evalArgs_plain (Calls.spliced_cons (thn (he pins s1 U H1 _ I1 q1) λiv s2 ⟨y,H2,I2,ry,q2⟩=>
  Calls.spliced_cons (thn (hf pins s2 U H2 _ I2 q2) λfv s3 ⟨z,H3,I3,rz,kvs,k,b,ea,ey,eb,hl,g1,g2⟩=>Calls.spliced_nil ?_))))
 subst ey
 cases (show iv = Value.ref b from ry)
 obtain ⟨hz,hd,xs,rel,dd⟩:=j2l I3.hok ea
 have hz':xs.length <= sizeLine:=by rw [<- Paired.length rel]; exact hz
 refine call_meetsIn PySem.F.slot_dict_setdefault dd.typeIs PySem.F.entry_dict_setdefault (PySem.F.args_dict_setdefault_3 _ _ _) (jlh (tupleKind (zf X.prog X.w)) a b hd fv) ⟨tupleKind_room_in1 hu,k,xs,jms I3.hok eb,dd,hz',λp hp=>?_,λhn h' dd' hs=>?_⟩
 .have rv:=rel.val k
  rw [hp] at rv
  cases hv:jgi kvs k with
  | none=>
   rw [hv] at rv
   cases rv
  | some v=>
   rw [hv] at rv
   exact ⟨v,H3,I3.tok _,rv,g1 v hv⟩
 .have rv:=rel.val k
  rw [hn] at rv
  have hv:jgi kvs k = none:=by
   cases hv:jgi kvs k with
   | none=>rfl
   | some v=>
    rw [hv] at rv
    cases rv
  have hl2:(putK kvs k z).length <= sizeLine:=by have:=jdb kvs k z; omega
  have rel':=rel.put k eb rz
  rw [storedH_new hn] at rel'
  obtain ⟨q,es,ep,hq,h2,h3,h4,_,h5⟩:=dd'
  refine ⟨z,_,joo (ob:=.dT (putK kvs k z)) I3 (by rw [ea]; exact True.intro) hs ⟨q,hq⟩ ⟨hl2,hd,_,rel'.keeps λc ys ec=>?_,q,es,ep,hq,h2,h3,h4,h5⟩,rz,g2 hv⟩
  rw [je (jly ec ea (λz=>nomatch z))]
  exact ec
end
end L2
namespace PySem
section
variable {prog:Program} {w:World} {A:Around} {E:Value -> Shared -> Prop} {s:Shared}
theorem j0k {it d:Addr} {i ep:Nat} {es:Array DictEntry} {od:Obj} {Q:Option Value -> Shared -> Prop} (hit:s.heap.IsKeyIter it d i es.size ep) (hod:s.heap.get? d = some od) (hdd:od.data = .dict es ep) (hlt:i < es.size)
  (hQ : ∀ h',h'.IsKeyIter it d (i + 1) es.size ep -> Heap.SameBut it s.heap h' -> Q (some es[i].key) { s with heap:=h' }) : wpAny (model prog w) A (pyNext (.ref it)) Q E s:=by
 obtain ⟨o,ho,hc,hd⟩:=id hit
 have hT:=hit.typeIs
 unfold pyNext
 refine wpAny_bind (wpAny_attempt ?_)
 refine wpAny_callSpecial?_slot hT F.slot_dict_keyiterator_next ?_
 refine wpAny_call_entry F.slot_dict_keyiterator_next hT F.entry_dict_keyiterator_next ?_ (F.args_dict_keyiterator_next_1 _)
 unfold Builtin.«dict_keyiterator.__next__»
 wp_walk using wpAny_typeNameOfWhole_keyiter hT,wpAny_fieldsOf ho hd,wpAny_dictEntries hod hdd,wpAny_dictEpoch hod hdd,wpAny_isOneOf_keyiter hT
 rw [if_neg (show ¬ (i:Int) < 0 by omega),Int.toNat_natCast,Array.getElem?_eq_getElem hlt]
 have hown:Builtin.Dict_items.ownsTuple "dict_keyiterator" = false:=by decide
 have hit':(s.heap.update it (Obj.mapFields (·.setIfInBounds 1 (rawInt ((i:Int) + 1))))).IsKeyIter it d (i + 1) es.size ep:=
  ⟨_,Heap.get?_update_self _ ho (Obj.isFreed_of_fields (Obj.data_mapFields hd _)),(Obj.cls_mapFields ..).trans hc,by rw [Obj.data_mapFields hd]; simp [rawInt]⟩
 refine wpAny_bind ?_
 wp_walk using wpAny_typeNameOfWhole_keyiter hT
 rw [hd]
 show wpAny _ _ (update it (Obj.mapFields (·.setIfInBounds 1 (rawInt ((i:Int) + 1))))) _ _ s
 refine wpAny_update ho (wpAny_bind (wpAny_holding ?_))
 wp_walk using wpAny_isOneOf_keyiter (s:={ s with heap:=s.heap.update it (Obj.mapFields (·.setIfInBounds 1 (rawInt ((i:Int) + 1)))) }) hit'.typeIs
 exact ⟨_,rfl,wpAny_pure (hQ _ hit' (Heap.SameBut.update ..))⟩
theorem js2 {it d:Addr} {i ep:Nat} {es:Array DictEntry} {od:Obj} {Q:Option Value -> Shared -> Prop} (hh:A.handled = none) (hit:s.heap.IsKeyIter it d i es.size ep) (hod:s.heap.get? d = some od) (hdd:od.data = .dict es ep) (hge:es.size <= i)
    (hQ : ∀ h',Heap.ExtBut it s.heap h' -> Q none { s with heap:=h' }) : wpAny (model prog w) A (pyNext (.ref it)) Q E s:=by
  obtain ⟨o,ho,hc,hd⟩:=id hit
  have hT:=hit.typeIs
  unfold pyNext
  refine wpAny_bind (wpAny_attempt ?_)
  refine wpAny_callSpecial?_slot hT F.slot_dict_keyiterator_next ?_
  refine wpAny_call_entry F.slot_dict_keyiterator_next hT F.entry_dict_keyiterator_next ?_ (F.args_dict_keyiterator_next_1 _)
  unfold Builtin.«dict_keyiterator.__next__»
  wp_walk using wpAny_typeNameOfWhole_keyiter hT,wpAny_fieldsOf ho hd,wpAny_dictEntries hod hdd,wpAny_dictEpoch hod hdd,wpAny_isOneOf_keyiter hT
  rw [if_neg (show ¬ (i:Int) < 0 by omega),Int.toNat_natCast,Array.getElem?_eq_none hge]
  wp_walk using wpAny_typeNameOfWhole_keyiter hT
  rw [hd]
  show wpAny _ _ (update it (Obj.mapFields (·.setIfInBounds 0 .none))) _ _ s
  refine wpAny_update ho ?_
  unfold newExc raiseNew newTuple firstArgMember
  wp_walk using wpAny_newObj_type
  all_goals first
    | (show wpAny _ _ (isSubtype (.type "StopIteration") (.type "StopIteration")) _ _ _
       rw [isSubtype_stop]
       exact wpAny_pure (wpAny_pure (hQ _ (((Heap.SameBut.update ..).extBut.push _).push _))))
    | (unfold autoParam; size_fits)
    | size_fits
theorem jzg {d:Addr} {es:Array DictEntry} {ep:Nat} {od:Obj} {Q:Value -> Shared -> Prop} (hd:(d == sysModules) = false) (hod:s.heap.get? d = some od) (hx:od.ExactDict) (hdd:od.data = .dict es ep)
  (hQ:Q (.ref s.heap.objs.size) { s with heap:=s.heap.push { cls:=.type "dict_keyiterator",data:=.fields #[.ref d,.int 0 0,.int es.size 0,.int ep 0] } }) : wpAny (model prog w) A (pyIter (.ref d)) Q E s:=by
 have hT:s.TypeIs (.ref d) "dict" := ⟨od,hod,hx.1⟩
 have run:wpAny (model prog w) A.in1 (Builtin.«dict.__iter__» ⟨[.ref d],[]⟩) (λfin s'=>fin = .done (.ret (.ref s.heap.objs.size)) /\ s' = { s with heap:=s.heap.push { cls:=.type "dict_keyiterator",data:=.fields #[.ref d,.int 0 0,.int es.size 0,.int ep 0] } }) E s:=by
  unfold Builtin.«dict.__iter__» Builtin.Dict.dictSlotNone Builtin.Dict.showsAll
  wp_walk using wpAny_notOrdered_dict hT,wpAny_dictEntries hod hdd,wpAny_dictEpoch hod hdd
  exact ⟨rfl,rfl⟩
 refine wpAny_pyIter_slot hT F.slot_dict_iter (wpAny_call_entry F.slot_dict_iter hT F.entry_dict_iter (wpAny_mono run (λf s' z=>?_) λ_ _ z=>z) (F.args_dict_iter_1 _))
 obtain ⟨rfl,rfl⟩:=z
 exact ⟨_,rfl,"dict_keyiterator",_,⟨_,Heap.get?_push_size _ rfl,rfl⟩,F.slot_dict_keyiterator_next.lookup,hQ⟩
end
end PySem
namespace L2
open PySem PySem.Spec PyProof.Rows
def j38 (a:Addr) (o:Obj) (kvs:List (List Key × V)) : It where
 go:=λi H=>i < kvs.length /\ H a = some (.frz o (.dT kvs))
 yld:=λi H x H'=>H' = H /\ ∃ kv b,kvs[i]? = some kv /\ x = .ref b /\ H b = some (.tup (kv.1.map kV))
 stop:=λi H=>kvs.length <= i /\ H a = some (.frz o (.dT kvs))
theorem qh {α β : Type} {F : α -> β -> Prop} : ∀ {xs:List α} {ys:List β} {i:Nat} {x : α},Paired F xs ys -> xs[i]? = some x -> ∃ y,ys[i]? = some y /\ F x y
 | _,_,_,_,.nil,e=>by simp at e
 | _,_,0,_,.cons h _,e=>by
  cases Option.some.inj e
  exact ⟨_,rfl,h⟩
 | _,_,i + 1,_,.cons _ r,e=>qh (i:=i) r e
theorem j2h {P:Program} {w:World} {K:PySem.W.Frag} {tg:Expr} (a it:Addr) (o:Obj) (kvs:List (List Key × V)) (es:Array DictEntry) (ep:Nat) (hd:o.data = .dict es ep) : Turn P w K tg (j38 a o kvs) [it] it (λi h=>h.IsKeyIter it a i kvs.length ep) where
 mem:=by simp
 obj:=λi h st b hb=>by
  have e:b = it:=by simpa using hb
  subst e
  obtain ⟨o,e,c,d⟩:=st
  exact ⟨o,e,λv z=>by rw [d] at z; cases z⟩
 keep:=λi h h' st k=>st.at λo e=>k it (by simp) o e
 item:=by
  intro X hP hw hK hc i pins s U H E I hf st hg
  subst hP hw hK
  obtain ⟨hi,hq⟩:=hg
  obtain ⟨ho,hz,hs,xs,r,o',es',ep',ho',hx',hd',he,nd⟩:=I.hok a _ hq
  cases Option.some.inj (ho'.symm.trans ho)
  rw [hd] at hd'
  cases hd'
  have hsz:es.size = kvs.length:=by
   have e1:=congrArg List.length he
   rw [length_map,<- Paired.length r] at e1
   simpa using e1
  obtain ⟨kv,ekv⟩ : ∃ kv,kvs[i]? = some kv:=⟨kvs[i],by simp [hi]⟩
  obtain ⟨x,ex,e1,e2,e3⟩:=qh r ekv
  have hlt:i < es.size:=by omega
  have hkey:es[i].key = .ref x.2.1:=by
   have h1:es.toList[i]? = some es[i]:=by simp [hlt]
   rw [he,getElem?_map,ex] at h1
   rw [<- Option.some.inj h1]
   rfl
  obtain ⟨f0,f1,f2,f3,f4,f5⟩:=hf it (by simp)
  rw [<- hsz] at st
  refine j0k st ho hd hlt λh' st' sb=>?_
  have I1:Inv X pins U H { s with heap:=h' }:=I.turned (t':=s.toks) (λb o hb e=>(sb.2 b hb).trans e) f0 f1 f3 f4 f5
  rw [hsz] at st'
  rw [hkey]
  obtain ⟨oi,ei,ci,di⟩:=id st'
  exact ⟨_,rfl,jv3 (s:={ s with heap:=h' }) ei ci di (by decide) ⟨.ref x.2.1,H,I1,rfl,⟨rfl,kv,x.2.1,ekv,rfl,by rw [e1]; rw [e1] at e2; exact e2⟩,st',λb hb=>(hf b hb).1⟩⟩
 done:=by
  intro X hP hw hK hc i pins s U H E I hf st hg
  subst hP hw hK
  obtain ⟨hi,hq⟩:=hg
  obtain ⟨ho,hz,hs,xs,r,o',es',ep',ho',hx',hd',he,nd⟩:=I.hok a _ hq
  cases Option.some.inj (ho'.symm.trans ho)
  rw [hd] at hd'
  cases hd'
  have hsz:es.size = kvs.length:=by
   have e1:=congrArg List.length he
   rw [length_map,<- Paired.length r] at e1
   simpa using e1
  obtain ⟨f0,f1,f2,f3,f4,f5⟩:=hf it (by simp)
  rw [<- hsz] at st
  exact js2 (I.ok.hd hc) st ho hd (by omega) λh' eb=>⟨rfl,I.turned (t':=s.toks) (λb o hb e=>eb b o hb e) f0 f1 f3 f4 f5⟩
 self:=λ_ _ _ _ _ st h=>wpAny_pyIter_keyiter st h
def iDt (tl:TE) : TI:=λU H R=>tl U H λx H1=>∃ a kvs,x = .ref a /\ H1 a = some (.dT kvs) /\ ∀ o,R (j38 a o kvs) (upd H1 a (.frz o (.dT kvs)))
theorem j56 {X:Cx} {tg l:Expr} {tl:TE} (hl:PE X l tl) : PI X tg l (iDt tl):=by
 intro pins s U H R I h
 refine thn (hl pins s U H _ I h) λv s1 ⟨x,H1,I1,r1,q1⟩=>?_
 obtain ⟨a,kvs,e,hq,q⟩:=q1
 subst e
 cases r1
 obtain ⟨hz,hs,xs,r,o,es,ep,ho,hx,hd,he,nd⟩:=I1.hok a _ hq
 have hsz:es.size = kvs.length:=by
  have e1:=congrArg List.length he
  rw [length_map,<- Paired.length r] at e1
  simpa using e1
 refine jzg hs ho hx hd ?_
 have I2:=I1.freeze (show Mut (some (HO.dT kvs)) from True.intro) hq ho
 have hn:upd H1 a (.frz o (.dT kvs)) s1.heap.objs.size = none:=I2.hok.fresh (le_refl _)
 refine ⟨s1.heap.objs.size,[s1.heap.objs.size],_,_,_,rfl,I2.kept (t':=s1.toks) λb o e=>Heap.get?_push_of_some _ e,j2h a _ o kvs es ep hd,?_,λb hb=>?_,q o⟩
 .rw [<- hsz]
  exact ⟨_,Heap.get?_push_size _ rfl,rfl,rfl⟩
 .have e:b = s1.heap.objs.size:=by simpa using hb
  subst e
  exact I2.j3e (le_refl _) hn
end L2
namespace PySem
section
variable {prog:Program} {w:World} {A:Around} {E:Value -> Shared -> Prop} {s:Shared}
end
end PySem
namespace L2
open PySem PySem.Spec PyProof.Rows
section
variable {prog:Program} {w:World} {A:Around} {E:Value -> Shared -> Prop} {s:Shared} {a:Addr} {js:List Nat}
end
section
variable {prog:Program} {w:World} {A:Around} {E:Value -> Shared -> Prop} {s:Shared} {a:Addr} {js:List Nat}
end
section
variable {prog:Program} {w:World} {A:Around} {E:Value -> Shared -> Prop} {s:Shared} {a:Addr} {js:List Nat}
end
section
variable {X:Cx}
end
end L2
namespace L2
open PySem PySem.Spec PyProof.Rows
section
variable {K:Type} [DecidableEq K]
end
section
variable {prog:Program} {w:World} {A:Around} {E:Value -> Shared -> Prop} {s:Shared}
end
section
variable {X:Cx}
end
end L2
namespace L2
open PySem PySem.Spec PyProof.Rows
section
variable {X:Cx}
end
section
variable {X:Cx} {K:PySem.W.Frag}
theorem jqa (hK:X.K = K) (hu:X.A.units + 64 < cLine) : OpR X (compareOp .NotIn) (j5y K true):=by
 subst hK
 exact jtd hu
end
end L2
namespace L2
open PySem PySem.Spec PyProof.Rows
section
variable {X:Cx}
end
end L2
namespace L2
open PySem PySem.Spec PyProof.Rows
section
variable {X:Cx}
theorem jvl:jow X (.builtin "isinstance") (λxs H Q=>∃ x q,xs = [.ref x,.ref q] /\ H q = some (.tup [.ty "list",.ty "tuple"]) /\ ((∃ ys,SqL X.K H x ys) \/ ∃ ys,SqT X.K H x ys) /\ Q (.bl true) H):=by
 intro pins s U H xs us Q I r h
 obtain ⟨x,q,rfl,hq,hx,k⟩:=h
 obtain ⟨u,w,rfl,r1,r2⟩:=vals2 r
 cases r1
 cases r2
 obtain ⟨ts,rt,ht,_⟩:=I.tuple (SqT.of hq)
 obtain ⟨a,b,rfl,ra,rb⟩:=vals2 rt
 obtain rfl:a = Value.type "list" := ra
 obtain rfl:b = Value.type "tuple" := rb
 obtain ⟨⟨c,dd,dt,sl⟩,ho,hc,n,hd⟩:=ht
 simp only at hc hd
 subst hc hd
 have fin : ∀ tk,EP X pins U Q (.bool true) { s with toks:=tk }:=λtk=>⟨.bl true,H,I.tok tk,rfl,k⟩
 rcases hx with ⟨ys,hy⟩ | ⟨ys,hy⟩
 .obtain ⟨its,_,pl,_⟩:=I.list hy
  obtain ⟨o,ho2,hc2,_⟩:=pl.isList
  exact PySem.W.kia_tup (its:=[.type "list",.type "tuple"]) PySem.W.kitx_list I.kIn ⟨o,ho2,hc2⟩ ho rfl (λz=>nomatch z) fin
 .obtain ⟨its,_,⟨o,ho2,hc2,_⟩,_⟩:=I.tuple hy
  exact PySem.W.kia_tup (its:=[.type "list",.type "tuple"]) PySem.W.kitx_tuple I.kIn ⟨o,ho2,hc2⟩ ho rfl (λz=>nomatch z) fin
def iOr (a b:TI) : TI:=λU H R=>a U H R \/ b U H R
theorem j5p {tg l:Expr} {a b:TI} (h1:PI X tg l a) (h2:PI X tg l b) : PI X tg l (iOr a b):=by
 intro pins s U H R I h
 rcases h with h | h
 .exact h1 pins s U H R I h
 .exact h2 pins s U H R I h
theorem j5b {tg l:Expr} {tl:TE} (hl:PE X l tl) : PI X tg l (iOr (j3t X.K tl) (j7g X.K tl)):=j5p (jav hl) (j4k hl)
end
end L2
namespace L2
open PySem PySem.Spec PyProof.Rows
section
variable {X:Cx} {CX:CXT} {k:Nat} {C f:Addr} {fd:FuncData} {ps ks:List Str} {sp:Sp} {E:XK} {g:List Value -> List Value -> List Value} {gV:List V -> List V -> List V} {x:Str} {p pos:Pos} {e:Expr} {es:List Expr} {kws:List Keyword} {t tk:TA}
theorem jyg {pins:List (Addr × Obj)} {U : St} {H:Hp} {s:Shared} {Q:VK} {us ws:List Value} {vs zs:List V} (M:Mk X.K C f) (F:xo X.prog X.w X.K X.mg X.base CX k f fd ps sp) (hr:jeo (k + 1) X.A) (hb:jf3 X.K fd ps ks g gV)
  (hx:Passes CX X E) (I:Inv X pins U H s) (r:Vals vs us) (rz:Vals zs ws)
  (h : ∀ x dx,H x = none -> H dx = none -> dx ≠ x -> sp (gV (.ref x :: vs) zs) (upd (upd H dx (.own x)) x (.ins C dx [])) (λv H2=>v = .non /\ Q (.ref x) H2) E) :
  wpAny (model X.prog X.w) X.A (call (.ref C) us (ks.zip ws)) (EP X pins U Q) X.xe s:=by
 have hq:=h (s.heap.objs.size + 1) s.heap.objs.size (I.hok.fresh (le_succ _)) (I.hok.fresh (le_refl _)) (ne_of_lt (lt_succ_self _))
 have I2:=Inv.made (C:=C) I
 have r2:=hb.rel (Paired.cons (show RelV (V.ref (s.heap.objs.size + 1)) (Value.ref (s.heap.objs.size + 1)) from rfl) r) rz
 have hl:(g (Value.ref (s.heap.objs.size + 1) :: us) ws).length = ps.length:=by
  rw [<- Paired.length r2]
  exact F.len _ _ _ _ hq
 refine wpAny_call (ju9 (f:=f) I.kIn M.makes M.init (beq_iff_eq.mp M.fn) (codeAny_mono (F.run _ X.stack _ _ ⟨Value.ref (s.heap.objs.size + 1) :: us,ks.zip ws⟩ _ _ _ E (hr.make C us (ks.zip ws))
  (I2.j3b.make C us (ks.zip ws)) (hb.to _ _ _ I2.kIn hl) r2 hq) λr s' hq'=>?_))
 cases r with
 | error e=>exact hx pins U _ _ e s' I2 hq'
 | ok fl=>
  cases fl with
  | ret u=>
   obtain ⟨v,H',I3,rv,ev,q3⟩:=I2.after hq'
   subst ev
   exact ⟨rv,⟨V.ref (s.heap.objs.size + 1),H',I3,rfl,q3⟩⟩
  | next=>exact False.elim hq'
  | brk=>exact False.elim hq'
  | cont=>exact False.elim hq'
def j3x (C:Addr) (sp:Sp) (gV:List V -> List V -> List V) (E:XK) (t tk:TA) : TE:=λU H Q=>t U H λvs H1=>tk U H1 λzs H2=>∀ x dx,H2 x = none -> H2 dx = none -> dx ≠ x -> sp (gV (.ref x :: vs) zs) (upd (upd H2 dx (.own x)) x (.ins C dx [])) (λv H3=>v = .non /\ Q (.ref x) H3) E
theorem jzi (M:Mk X.K C f) (F:xo X.prog X.w X.K X.mg X.base CX k f fd ps sp) (hr:jeo (k + 1) X.A) (hg:Gl X x) (hm:X.mg x = some (.ref C)) (hb:jf3 X.K fd ps ks g gV) (hx:Passes CX X E)
  (ha:PA X (e :: es) t) (hkw:PK X kws tk) (hall:autoParam ((backToKw pos (keywordEach kws X.env)).all (·.1.isSome) = true) aP1) (hks:autoParam ((backToKw pos (keywordEach kws X.env)).filterMap (·.1) = ks) aP1)
  (hdb:autoParam ((x == ("__debug__" : Str)) = false) aP2) (he:autoParam (starEach (e :: es) X.env = (false,eval e X.env) :: starEach es X.env) aP1)
  (hpl:autoParam (((backTo pos (starEach (e :: es) X.env)).any (·.1) || (backToKw pos (keywordEach kws X.env)).any (·.1.isNone)) = false) aP1) :
  PE X (.Call (.Name x p) (e :: es) kws pos) (j3x C sp gV E t tk):=by
 intro pins s U H Q I h
 refine wpAny_Call_Name_kw (jg1 I hg hm ?_ hdb)
 refine PySem.W.callWith_KW (h₀:=X.base) I.ok.mod.kin M.kp hall (thn (ha pos pins s U H _ I h) λus s1 ⟨vs,H1,I1,r,q⟩=>?_) hpl he
 refine thn (hkw pos pins s1 U H1 _ I1 q) λws s2 ⟨zs,H2,I2,rz,q2⟩=>⟨I2.kIn,?_⟩
 rw [hks]
 exact jyg M F hr hb hx I2 r rz q2
end
section
variable {X:Cx}
end
section
variable {X:Cx} {K:PySem.W.Frag}
theorem jkx (hK:X.K = K) : OpR X (compareOp .NotIn) (rIn K true):=by
 subst hK
 exact jd0
end
end L2
namespace L2
open PySem PySem.Spec PyProof.Rows
def DK {α : Type} : Sem α -> Prop
 | .pure _=>True
 | .raise _=>True
 | .unsupported _=>True
 | .finish _=>True
 | .rule _ k=>DK (k ())
 | .at _ k=>DK (k ())
 | .load _ _ k=>∀ o,DK (k o)
 | .update _ _ f k=>(∀ o:Obj,(f o).dict = o.dict /\ (o.isFreed = false -> (f o).isFreed = false)) /\ DK (k ())
 | .loadIfAlive _ k=>∀ o,DK (k o)
 | .point _ k=>DK (k ())
 | .register _ _=>True
 | .alloc _ k=>∀ a,DK (k a)
 | .fresh k=>∀ t,DK (k t)
 | .ask k=>∀ x,DK (k x)
 | .handled _ k=>∀ x,DK (k x)
 | .stack k=>∀ x,DK (k x)
 | _=>False
theorem jy7 {α β : Type} {f : α -> Sem β} (hf : ∀ a,DK (f a)) (m:Sem α) (h:DK m) : DK (m.bind f):=by
 induction m with
 | pure a=>exact hf a
 | raise _=>exact True.intro
 | unsupported _=>exact True.intro
 | finish _=>exact True.intro
 | rule _ k ih=>exact ih () h
 | «at» _ k ih=>exact ih () h
 | load _ _ k ih=>exact λo=>ih o (h o)
 | update _ _ _ k ih=>exact ⟨h.1,ih () h.2⟩
 | loadIfAlive _ k ih=>exact λo=>ih o (h o)
 | point _ k ih=>exact ih () h
 | register _ _ _=>exact True.intro
 | alloc _ k ih=>exact λa=>ih a (h a)
 | fresh k ih=>exact λa=>ih a (h a)
 | ask k ih=>exact λa=>ih a (h a)
 | handled _ k ih=>exact λa=>ih a (h a)
 | stack k ih=>exact λa=>ih a (h a)
 | choose _ _ _ _=>exact False.elim h
 | os _ _ _ _=>exact False.elim h
 | call _ _ _ _ _ _=>exact False.elim h
 | newGen _ _ _=>exact False.elim h
 | genState _ _ _=>exact False.elim h
 | resume _ _ _ _ _=>exact False.elim h
 | yield _ _ _ _ _=>exact False.elim h
 | fork _ _ _=>exact False.elim h
 | thread _ _=>exact False.elim h
 | await _ _ _ _ _ _=>exact False.elim h
theorem zh {α β : Type} {m:Sem α} {f : α -> Sem β} (hm:DK m) (hf : ∀ a,DK (f a)) : DK (m >>= f):=jy7 hf m hm
theorem jtq {a:Addr} : DK (load a):=λ_=>True.intro
theorem jzw {o:Obj} : DK (alloc o):=λ_=>True.intro
theorem jqz:DK stack:=λ_=>True.intro
theorem js3 {a:Addr} {f:Obj -> Obj} (h : ∀ o:Obj,(f o).dict = o.dict /\ (o.isFreed = false -> (f o).isFreed = false)) : DK (update a f):=⟨h,True.intro⟩
def KD (h h':Heap) : Prop:=∀ b o,h.get? b = some o -> ∃ o',h'.get? b = some o' /\ o'.dict = o.dict
theorem KD.refl (h:Heap) : KD h h:=λ_ o e=>⟨o,e,rfl⟩
theorem KD.trans {a b c:Heap} (x:KD a b) (y:KD b c) : KD a c:=λi o e=>by
 obtain ⟨o1,e1,d1⟩:=x i o e
 obtain ⟨o2,e2,d2⟩:=y i o1 e1
 exact ⟨o2,e2,d2.trans d1⟩
theorem KD.push (h:Heap) (o:Obj) : KD h (h.push o):=λ_ o' e=>⟨o',Heap.get?_push_of_some o e,rfl⟩
theorem KD.update {h:Heap} {a:Addr} {f:Obj -> Obj} (hf : ∀ o:Obj,(f o).dict = o.dict /\ (o.isFreed = false -> (f o).isFreed = false)) : KD h (h.update a f):=λb o e=>by
 by_cases z:a = b
 .subst z
  exact ⟨f o,Heap.get?_update_self f e ((hf o).2 (Heap.get?_some_iff.mp e).2),(hf o).1⟩
 .exact ⟨o,by rw [Heap.get?_update_other h f z]; exact e,rfl⟩
theorem j67 {α : Type} {M:Model} {Γ : PySem.Ctx} {Q : α -> Pos -> Shared -> Prop} {E:Value -> Pos -> Shared -> Prop} (t:Sem α) (p:Pos) (s:Shared) (d:DK t) (h:Sem.wp M Γ t Q E p s) :
  Sem.wp M Γ t (λa p' s'=>Q a p' s' /\ KD s.heap s'.heap) (λe p' s'=>E e p' s' /\ KD s.heap s'.heap) p s:=by
 induction t generalizing p s with
 | pure a=>rw [Sem.wp] at h ⊢; exact ⟨h,KD.refl _⟩
 | raise _=>rw [Sem.wp] at h ⊢; exact ⟨h,KD.refl _⟩
 | unsupported _=>rw [Sem.wp] at h; exact h.elim
 | finish _=>rw [Sem.wp] at h; exact h.elim
 | rule _ k ih=>rw [Sem.wp] at h ⊢; exact ih () p s d h
 | «at» p' k ih=>rw [Sem.wp] at h ⊢; exact ih () p' s d h
 | load a x k ih=>
  rw [Sem.wp] at h ⊢
  obtain ⟨o,e,h⟩:=h
  exact ⟨o,e,ih o p s (d o) h⟩
 | update a x f k ih=>
  rw [Sem.wp] at h ⊢
  obtain ⟨e,h⟩:=h
  exact ⟨e,Sem.wp_mono M Γ (k ()) (λ_ _ s' q=>⟨q.1,(KD.update d.1).trans q.2⟩) (λ_ _ s' q=>⟨q.1,(KD.update d.1).trans q.2⟩) p _ (ih () p _ d.2 h)⟩
 | loadIfAlive a k ih=>rw [Sem.wp] at h ⊢; exact ih _ p s (d _) h
 | point _ k ih=>rw [Sem.wp] at h ⊢; exact ih () p s d h
 | register _ _ _=>rw [Sem.wp] at h; exact h.elim
 | alloc o k ih=>
  rw [Sem.wp] at h ⊢
  exact Sem.wp_mono M Γ (k s.heap.objs.size) (λ_ _ s' q=>⟨q.1,(KD.push _ o).trans q.2⟩) (λ_ _ s' q=>⟨q.1,(KD.push _ o).trans q.2⟩) p _ (ih _ p _ (d _) h)
 | fresh k ih=>rw [Sem.wp] at h ⊢; exact ih _ p _ (d _) h
 | ask k ih=>rw [Sem.wp] at h ⊢; exact ih _ p s (d _) h
 | handled own k ih=>rw [Sem.wp] at h ⊢; exact ih _ p s (d _) h
 | stack k ih=>rw [Sem.wp] at h ⊢; exact ih _ p s (d _) h
 | choose _ _ _ _=>exact False.elim d
 | os _ _ _ _=>exact False.elim d
 | call _ _ _ _ _ _=>exact False.elim d
 | newGen _ _ _=>exact False.elim d
 | genState _ _ _=>exact False.elim d
 | resume _ _ _ _ _=>exact False.elim d
 | yield _ _ _ _ _=>exact False.elim d
 | fork _ _ _=>exact False.elim d
 | thread _ _=>exact False.elim d
 | await _ _ _ _ _ _=>exact False.elim d
theorem jk7 {α : Type} {M:Model} {A:Around} {t:Sem α} {Q : α -> Shared -> Prop} {E:Value -> Shared -> Prop} {s:Shared} (d:DK t) (h:wpAny M A t Q E s) : wpAny M A t (λa s'=>Q a s' /\ KD s.heap s'.heap) (λe s'=>E e s' /\ KD s.heap s'.heap) s:=
 λΓ p hΓ=>j67 t p s d (h Γ p hΓ)
theorem jtv {v:Value} : DK (fieldsOf v):=by
 unfold fieldsOf
 split
 .refine zh jtq λo=>?_
  split <;> exact True.intro
 .exact True.intro
theorem jnq {v:Value} {i:Nat} : DK (field v i):=by
 unfold field
 refine zh jtv λvs=>?_
 split <;> exact True.intro
theorem js0 (f:Array Value -> Array Value) (o:Obj) : (Obj.mapFields f o).dict = o.dict /\ (o.isFreed = false -> (Obj.mapFields f o).isFreed = false):=by
 obtain ⟨c,d,dt,sl⟩:=o
 cases dt <;> exact ⟨rfl,λh=>h⟩
theorem jjw {v x:Value} {i:Nat} : DK (setField v i x):=by
 unfold setField
 split
 .unfold updateField
  refine zh jtq λo=>?_
  split
  .split
   .exact js3 (js0 _)
   .exact True.intro
  .exact True.intro
 .exact True.intro
theorem jhe {e:Value} {f:Option Addr} : DK (setFlight e f):=by
 unfold setFlight
 refine zh jnq λtb=>?_
 split
 .exact jjw
 .exact True.intro
theorem jil : ∀ l:List Env,DK (readyFrames l)
 | []=>True.intro
 | env :: outer=>by
  unfold readyFrames
  split
  .refine zh jtq λo=>?_
   split
   .exact True.intro
   .refine zh ?_ λim=>zh ?_ λback=>zh (js3 λo=>⟨rfl,λh=>?_⟩) λ_=>jil outer
    .unfold behindIsImport
     split
     .exact True.intro
     .split
      .exact True.intro
      .exact zh jnq λ_=>True.intro
    .unfold keptBack
     split
     .split
      .exact True.intro
      .refine zh ?_ λ_=>True.intro
       unfold underTheClaimsCaller
       exact zh jqz λ_=>True.intro
     .exact True.intro
    .obtain ⟨c,d,dt,sl⟩:=o
     cases dt <;> exact h
  .exact True.intro
theorem jv7 {env:Env} : DK (PySem.frameOf env):=by
 unfold PySem.frameOf
 refine zh (zh jqz λ_=>True.intro) λes=>zh ?_ λr=>?_
 .cases es.dropWhile (·.frame != env.frame) with
  | nil=>exact True.intro
  | cons e r=>
   unfold frameObject
   exact zh (jil _) λ_=>True.intro
 .split <;> exact True.intro
theorem js1 {ty:String} {vs:List Value} : DK (newFields ty vs):=by
 unfold newFields newObj
 dsimp only
 have rest:DK (newObjAsIs (Value.type ty) (Data.fields vs.toArray)):=by
  unfold newObjAsIs
  exact zh jzw λ_=>True.intro
 split
 .exact zh True.intro λ_=>rest
 .exact rest
theorem jrh {f:Addr} {b:Bool} : DK (entryPlaceOf f b):=by
 unfold entryPlaceOf
 refine zh jqz λacts=>?_
 split <;> exact True.intro
theorem jmz {e:Value} {env:Env} : DK (noteFrame e env):=by
 unfold noteFrame
 split
 .have rest : ∀ {head:Value} {f:Addr},DK (do setField e 1 (<- EntryCells.newEntry head (<- PySem.frameOf env) .none (rawInt f) .none (<- entryPlaceOf f (head != .none)))):=λ{head f}=>
   zh jv7 λa=>zh jrh λpl=>zh js1 λb=>jjw
  refine zh jnq λhead=>?_
  split
  .refine zh jnq λx=>?_
   split
   .exact True.intro
   .exact zh jjw λ_=>rest
  .exact rest
 .exact True.intro
theorem jqh {env:Env} {e:Value} : DK (leaving env e):=zh jmz λ_=>jhe
end L2
namespace PySem
section
variable {prog:Program} {w:World} {A:Around} {E:Value -> Shared -> Prop} {h:Heap} {g:Array GenState} {d:Drawn} {t:Nat} {os:OsState}
variable {nm q:Str} {C N:Addr} {bs bm bmB:List Value} {hdct:Bool} {sn:List Str} {sub:List Value} {ab:Bool} {col:Option Bool} {dd:Option Addr} {k0 k1 k2 k3 k5:Option Value} {Bq newId initId:String}
theorem jpz (F:ExcBaseFacts Bq newId initId bmB) (T:OwnTail h bmB bm) {rest:List Value} {fI:Addr} {oI:Obj} {Q:Fin -> Shared -> Prop}
  (hC:h.get? C = some (excClassObj nm q C N bs bm hdct sn sub ab col dd k0 k1 k2 k3 k5 newId)) (L:PySem.W.Looks (model prog w) h (typeLookup (.ref C) "__init__") (some (.ref fI))) (hfI:h.get? fI = some oI) (hfc:oI.cls = .type "function") (hrest:rest.length <= sizeLine)
  (hq : ∀ h' e,Heap.MadeExcOf h h' e (.ref C) rest -> wpAny (model prog w) A (call (.ref fI) (.ref e :: rest)) (λr s'=>r = .none /\ Q (.done (.ret (.ref e))) s') E ⟨h',g,d,t,os⟩) :
  wpAny (model prog w) A (Builtin.«type.__call__» ⟨.ref C :: rest,[]⟩) Q E ⟨h,g,d,t,os⟩:=by
 repeat (first | with_reducible refine wpAny_loadPart_at hC ?_ | with_reducible refine wpAny_madeBy_exc hC ?_ | wp_step)
 refine codeAny_call_builtin_code (Code.quiet_builtin _ F.quiet) (wpAny_check_new_subT F T hC (codeAny_exc_new_subT F T hC ?_ hrest))
 show wpAny _ _ _ _ _ _
 have hk : ∀ b o,h.get? b = some o -> ((h.push { cls:=.type "tuple",data:=.seq rest.toArray }).push { cls:=.ref C,data:=.fields #[.ref h.objs.size,.none,.none,.none,.bool false,.none] }).get? b = some o:=
  λb o e=>Heap.get?_push_of_some _ (Heap.get?_push_of_some _ e)
 have hget:((h.push { cls:=.type "tuple",data:=.seq rest.toArray }).push { cls:=.ref C,data:=.fields #[.ref h.objs.size,.none,.none,.none,.bool false,.none] }).get? (h.objs.size + 1) = some
   { cls:=.ref C,data:=.fields #[.ref h.objs.size,.none,.none,.none,.bool false,.none] }:=by heap_get
 have hm:Heap.MadeExcOf h ((h.push { cls:=.type "tuple",data:=.seq rest.toArray }).push { cls:=.ref C,data:=.fields #[.ref h.objs.size,.none,.none,.none,.bool false,.none] }) (h.objs.size + 1) (.ref C) rest:=
  ⟨hk,Heap.get?_none_of_le (le_succ _),h.objs.size,hget,Heap.get?_none_of_le (le_refl _),Heap.get?_push_of_some _ (Heap.get?_push_at rfl rfl)⟩
 have hq':=hq _ _ hm
 have hC1:=hk _ _ hC
 have hfI1:=hk _ _ hfI
 have hcC:(Value.ref C :: bm).contains (.ref C) = true:=by simp
 unfold isInstance
 repeat (first | with_reducible refine wpAny_loadPart_at hget ?_ | (with_reducible refine wpAny_isSubtype_exc hC1 ?_; rw [hcC]) | wp_step)
 show wpAny _ _ (typeLookup (.ref C) _) _ _ _
 refine L _ _ _ _ hk (wpAny_holding (wpAny_bind ?_))
 unfold bindSpecial
 refine wpAny_bind (wpAny_typeOf (T := "function") ⟨_,hfI1,hfc⟩ ?_)
 rw [if_pos (by decide)]
 refine wpAny_pure (wpAny_bind (wpAny_mono hq' (λr s' hr=>?_) λ_ _ x=>x))
 obtain ⟨rfl,hQ⟩:=hr
 wp_walk
 exact hQ
theorem jx2 (F:ExcBaseFacts Bq newId initId bmB) (T:OwnTail h bmB bm) {rest:List Value} {fI:Addr} {oI:Obj} {Q:Value -> Shared -> Prop}
  (hC:h.get? C = some (excClassObj nm q C N bs bm hdct sn sub ab col dd k0 k1 k2 k3 k5 newId)) (L:PySem.W.Looks (model prog w) h (typeLookup (.ref C) "__init__") (some (.ref fI))) (hfI:h.get? fI = some oI) (hfc:oI.cls = .type "function") (hrest:rest.length <= sizeLine)
  (hq : ∀ h' e,Heap.MadeExcOf h h' e (.ref C) rest ->
   wpAny (model prog w) (A.under (.builtin "type.__call__" ⟨.ref C :: rest,[]⟩)) (call (.ref fI) (.ref e :: rest)) (λr s'=>r = .none /\ Q (.ref e) s') E ⟨h',g,d,t,os⟩) :
  wpAny (model prog w) A (call (.ref C) rest) Q E ⟨h,g,d,t,os⟩:=by
 have f1:=tc_lookup
 have f2:=tc_bind (.ref C)
 have hT:(⟨h,g,d,t,os⟩ : Shared).TypeIs (.ref C) "type" := ⟨_,hC,rfl⟩
 refine wpAny_call (codeAny_of_tree ?_)
 show wpAny _ _ (callAny (.ref C) _) _ _ _
 repeat (any_goals (first | assumption | with_reducible refine wpAny_loadPart_at hC ?_ | wp_step))
 refine ⟨rfl,?_⟩
 exact codeAny_call_builtin_at (Code.quiet_builtin _ (by decide +kernel)) entry_typeCall (wpAny_check_type_call_sub hC (jpz F T hC L hfI hfc hrest λh' e hm=>hq h' e hm))
theorem jvp {s:Shared} {env:Env} {x:Sem Value} {Q:Flow -> Shared -> Prop} (hbase:bm.contains (.type "BaseException") = true) (hh:A.handled = none)
  (hx:wpAny (model prog w) A x (λv s1=>∃ e oe t,v = .ref e /\ s1.heap.get? C = some (excClassObj nm q C N bs bm hdct sn sub ab col dd k0 k1 k2 k3 k5 newId) /\ s1.heap.get? e = some oe /\ oe.cls = .ref C /\ oe.data = .fields #[.ref t,.none,.none,.none,.bool false,.none] /\ E (.ref e) s1) E s) :
  wpAny (model prog w) A (raiseStmt env (some x) none) Q E s:=by
 have hcB:(Value.ref C :: bm).contains (.type "BaseException") = true:=by rw [List.contains_cons,hbase,Bool.or_true]
 unfold raiseStmt
 refine wpAny_bind (wpAny_mono hx (λv s1 q1=>?_) λ_ _ z=>z)
 obtain ⟨e,oe,t,rfl,hC,he,hc,hd,hE⟩:=q1
 obtain ⟨hp,g,dr,tk,os⟩:=s1
 obtain ⟨c0,di,da,sl⟩:=oe
 dsimp only at hc hd
 subst hc hd
 repeat (first | with_reducible refine wpAny_loadPart_at he ?_ | with_reducible refine wpAny_loadPart_at hC ?_ | (with_reducible refine wpAny_isSubtype_exc hC ?_; rw [hcB]) | wp_step)
 exact wpAny_raiseNew_none hh hE
end
end PySem
namespace PySem
open Builtin Builtin.ObjectAttr
abbrev j5h:List Value:=[.type "ValueError",.type "Exception",.type "BaseException",.type "object"]
section
variable {prog:Program} {w:World} {A:Around} {E:Value -> Shared -> Prop} {h:Heap} {g:Array GenState} {d:Drawn} {t:Nat} {os:OsState}
variable {nm q:Str} {C N x:Addr} {bs bm:List Value} {hdct:Bool} {sn:List Str} {sub:List Value} {ab:Bool} {col:Option Bool} {dd:Option Addr} {k0 k1 k2 k3 k5:Option Value} {newId:String} {name:Str} {v:Value} {o:Obj}
theorem j4f {M:Model} {α : Type} {p:Sem α} {r : α} {Q : α -> Shared -> Prop} (L:PySem.W.Looks M h p r) (hq:Q r ⟨h,g,d,t,os⟩) : wpAny M A p Q E ⟨h,g,d,t,os⟩:=L _ _ _ _ (λ_ _ e=>e) hq
theorem jts {self:Value} (T:OwnTail h j5h bm) : refuseLoop self "__setattr__" bm = pure ():=by
 induction T with
 | base=>exact F.store_ValueError.passes self
 | own _ _ _ _ ih=>rw [refuseLoop_ref]; exact ih
theorem jo1 {tk:Tok} {Q:Fin -> Shared -> Prop} (T:OwnTail h j5h bm) (hC:h.get? C = some (excClassObj nm q C N bs bm true sn sub ab col dd k0 k1 k2 k3 k5 newId)) (Ln:PySem.W.Looks (model prog w) h (typeLookup (.ref C) name) none)
  (hx:h.get? x = some o) (hc:o.cls = .ref C) (hnc : ∀ c,o.data ≠ .cls c) (hdn:o.dict = none)
  (hq : ∀ h' tk' dx,h.get? dx = none -> dx ≠ x -> h'.get? x = some { o with dict:=some dx } -> h'.Ns1 dx (λy=>if y = name then some v else none) -> (∀ b ob,b ≠ x -> h.get? b = some ob -> h'.get? b = some ob) -> Q (.done (.ret .none)) ⟨h',g,d,tk',os⟩) :
  wpAny (model prog w) A (Builtin.«object.__setattr__» ⟨[.ref x,.str name tk,v],[]⟩) Q E ⟨h,g,d,t,os⟩:=by
 have hpass:=jts (self:=.ref x) T
 unfold Builtin.«object.__setattr__»
 repeat (first | rw [refuse_eq] | (rw [refuseLoop_ref,hpass]) | (with_reducible refine wpAny_loadPart_at hx ?_; rw [hc]) | with_reducible refine wpAny_mroOf_exc hC ?_ | with_reducible refine j4f Ln ?_ | wp_step)
 rw [hdn,if_neg (by simp [typeHasDict])]
 split
 .rename_i hcd
  cases hcd
 split
 .rename_i c hcd
  exact absurd hcd (hnc c)
 have hx1:(h.push { cls:=.type "dict",data:=.dict #[] }).get? x = some o:=Heap.get?_push_of_some _ hx
 have hxs:x ≠ h.objs.size:=ne_of_lt (Heap.lt_size hx)
 refine wpAny_bind (wpAny_alloc' (wpAny_bind (wpAny_update' hx1 (wpAny_pure ?_))))
 have hgd:((h.push { cls:=.type "dict",data:=.dict #[] }).update x λo=>{ cls:=o.cls,dict:=some h.objs.size,data:=o.data,slots:=o.slots }).get? h.objs.size = some { cls:=.type "dict",data:=.dict #[] }:=
  (Heap.get?_update_ne _ _ _ _ hxs.symm).trans (Heap.get?_push_at rfl rfl)
 show wpAny _ _ (storeInDict h.objs.size (.str name tk) name v) _ _ _
 unfold storeInDict newKeyGuard
 refine wpAny_bind (wpAny_pure (wpAny_bind (wpAny_nsSet1 (Heap.Ns1.of_empty ⟨_,#[],_,hgd,rfl,λe he=>absurd he (by simp),λ_=>rfl⟩) λh' hn' hs=>?_)))
 obtain ⟨oD,esD,epD,hoD,hdD,hcD⟩:=hn'.count (Within.cons name v Within.nil)
 refine wpAny_bind (wpAny_lookBehind hoD (by rw [hdD]; exact pastItsLine_dict (le_trans hcD (by rw [length_cons,List.length_nil,sizeLine_eq]; omega))) ?_)
 wp_walk
 refine hq h' _ h.objs.size (Heap.get?_none_of_le (le_refl _)) hxs.symm ?_ hn' λb ob hbx hb=>(hs.2 b (ne_of_lt (Heap.lt_size hb))).trans ((Heap.get?_update_ne _ _ _ _ hbx).trans (Heap.get?_push_of_some _ hb))
 refine (hs.2 x hxs).trans (Heap.get?_update_self _ hx1 ?_)
 have hfr:=(Heap.get?_some_iff.mp hx).2
 obtain ⟨oc,od,odt,osl⟩:=o
 cases odt <;> first | rfl | exact hfr
theorem jwq {M:Model} {nameV:Value} {Q:Unit -> Shared -> Prop} (T:OwnTail h j5h bm) (hC:h.get? C = some (excClassObj nm q C N bs bm hdct sn sub ab col dd k0 k1 k2 k3 k5 newId)) (hx:h.get? x = some o) (hc:o.cls = .ref C) (hq:Q () ⟨h,g,d,t,os⟩) :
  wpAny M A (checkBuiltinCall "object.__setattr__" ⟨[.ref x,nameV,v],[]⟩) Q E ⟨h,g,d,t,os⟩:=by
 have hcB:(Value.ref C :: bm).contains (.type "object") = true:=by rw [List.contains_cons,T.hasType F.store_ValueError.hasOwner,Bool.or_true]
 have ha:=F.store_ValueError.args (.ref x) nameV v
 simp only [checkBuiltinCall,F.store_ValueError.kind,F.store_ValueError.split]
 refine wpAny_bind ?_
 unfold isInstance
 repeat (first | (with_reducible refine wpAny_loadPart_at hx ?_; rw [hc]) | (with_reducible refine wpAny_isSubtype_exc hC ?_; rw [hcB]) | wp_step)
 exact hq
theorem jx0 {Q:Unit -> Shared -> Prop} (T:OwnTail h j5h bm) (hC:h.get? C = some (excClassObj nm q C N bs bm true sn sub ab col dd k0 k1 k2 k3 k5 newId)) (Ls:PySem.W.Looks (model prog w) h (typeLookup (.ref C) "__setattr__") (some (.builtin "object.__setattr__"))) (Ln:PySem.W.Looks (model prog w) h (typeLookup (.ref C) name) none)
  (hx:h.get? x = some o) (hc:o.cls = .ref C) (hnc : ∀ c,o.data ≠ .cls c) (hdn:o.dict = none)
  (hq : ∀ h' tk' dx,h.get? dx = none -> dx ≠ x -> h'.get? x = some { o with dict:=some dx } -> h'.Ns1 dx (λy=>if y = name then some v else none) -> (∀ b ob,b ≠ x -> h.get? b = some ob -> h'.get? b = some ob) -> Q () ⟨h',g,d,tk',os⟩) :
  wpAny (model prog w) A (setAttr (.ref x) name v) Q E ⟨h,g,d,t,os⟩:=by
 have f3:=F.store_ValueError.slot.bind (.ref x)
 unfold setAttr callSpecial? specialOf
 repeat (any_goals (first | assumption | (with_reducible refine wpAny_loadPart_at hx ?_; rw [hc]) | with_reducible refine j4f Ls ?_ | wp_step))
 refine codeAny_call_builtin F.store_ValueError.slot.plain F.store_ValueError.entry (jwq T hC hx hc (jo1 T hC Ln hx hc hnc hdn λh' tk' dx a1 a2 a3 a4 a5=>?_))
 repeat (any_goals (first | assumption | wp_step))
 exact hq h' tk' dx a1 a2 a3 a4 a5
end
end PySem
namespace L2
open PySem PySem.Spec PyProof.Rows
def jum (K:PySem.W.Frag) (C f:Addr) : Bool:=(match K.lookup f with
 | some o=>o.cls == .type "function"
 | none=>false) && match K.lookup C with
 | some ⟨.type "type",_,.cls cd,sl⟩=>(match cd.mro,sl.toList with
  | .ref C' :: bm,[_,_,_,_,some (.builtin n),_]=>C' == C && n == "ValueError.__new__" && !cd.hasDel && cd.hasDict && PySem.W.tailIn K j3r bm
  | _,_=>false)
 | _=>false
theorem jro {K:PySem.W.Frag} {h:Heap} {C f:Addr} (X:K.In h) (q:jum K C f = true) :
  (∃ oI,h.get? f = some oI /\ oI.cls = .type "function") /\ ∃ bm N nm qn bs sn sub ab col dd k0 k1 k2 k3 k5,h.get? C = some (excClassObj nm qn C N bs bm true sn sub ab col dd k0 k1 k2 k3 k5 "ValueError.__new__") /\ OwnTail h j3r bm:=by
 unfold jum at q
 rw [Bool.and_eq_true] at q
 obtain ⟨q0,q⟩:=q
 refine ⟨?_,?_⟩
 .split at q0
  .rename_i o ho
   exact ⟨o,X _ _ ho,beq_iff_eq.mp q0⟩
  .cases q0
 split at q
 .rename_i dd cd sl ho
  split at q
  .rename_i C' bm k0 k1 k2 k3 n k5 hm hs
   simp only [Bool.and_eq_true,beq_iff_eq,Bool.not_eq_true'] at q
   obtain ⟨⟨⟨⟨rfl,rfl⟩,hdel⟩,hdc⟩,ht⟩:=q
   obtain ⟨nm,bs,mro,ns,qn,hd,sn,sub,ab,col,del⟩:=cd
   dsimp only at hm hdel hdc
   subst hm hdel hdc
   have hsl:sl = #[k0,k1,k2,k3,some (.builtin "ValueError.__new__"),k5]:=by
    obtain ⟨l⟩:=sl
    simp only at hs
    rw [hs]
   subst hsl
   exact ⟨bm,ns,nm,qn,bs,sn,sub,ab,col,dd,k0,k1,k2,k3,k5,X _ _ ho,PySem.W.tail_of_in X ht⟩
  .cases q
 .cases q
structure jy0 (K:PySem.W.Frag) (C f:Addr) (x:Str) : Prop where
 cls:jum K C f = true
 ini:PySem.W.findIn K (.ref C) "__init__" = some (some (.ref f))
 sa:PySem.W.findIn K (.ref C) "__setattr__" = some (some (.builtin "object.__setattr__"))
 ga:PySem.W.findIn K (.ref C) "__getattribute__" = some (some (.builtin "BaseException.__getattribute__"))
 gn:PySem.W.findIn K (.ref C) "__getattr__" = some none
 no:PySem.W.findIn K (.ref C) x = some none
def jr8 (ea C:Addr) : HO:=.ext λh=>∃ t sl,h.get? ea = some ⟨.ref C,none,.fields #[.ref t,.none,.none,.none,.bool false,.none],sl⟩
def jom (ea C d:Addr) : HO:=.ext λh=>∃ t sl,h.get? ea = some ⟨.ref C,some d,.fields #[.ref t,.none,.none,.none,.bool false,.none],sl⟩
section
variable {X:Cx} {pins:List (Addr × Obj)} {U : St} {H:Hp} {s:Shared}
theorem Inv.j3u (I:Inv X pins U H s) (hex:X.ex = []) {b:Addr} (e:s.heap.get? b = none) : X.s₀.heap.get? b = none:=by
 cases q:X.s₀.heap.get? b with
 | none=>rfl
 | some o=>
  have base:=I.base
  rw [hex] at base
  obtain ⟨o1,e1⟩:=base.there b o q (by simp)
  rw [e] at e1
  cases e1
def j50 (C:Addr) (ta tv:TE) (f:Str) : TS:=λD U H=>tv U H λy H1=>ta U H1 λx H2=>∃ a,x = .ref a /\ H2 a = some (jr8 a C) /\ ∀ d,H2 d = none -> D.nx U (upd (upd H2 a (jom a C d)) d (.xd [(f,y)]))
theorem j1s {C fi:Addr} {o value:Expr} {f:Str} {pos pos':Pos} {ta tv:TE} (hI:jy0 X.K C fi f) (hex:X.ex = []) (ha:PE X o ta) (hv:PE X value tv) (hs:swapsWith value (some (.Attribute o f pos')) pos.line X.env = pure false) :
  PS X (.Assign [.Attribute o f pos'] value pos) (j50 C ta tv f):=by
 intro pins s U H D I h
 refine plainObj_wpAny_Assign_Attribute (thn (hv pins s U H _ I h) λu s1 ⟨y,H1,I1,ry,q⟩=>thn (ha pins s1 U H1 _ I1 q) λov s2 ⟨x,H2,I2,rx,a,ex,ea,q2⟩=>?_) hs
 subst ex
 obtain rfl:ov = Value.ref a:=rx
 obtain ⟨⟨t,sl,hx⟩,_,_⟩:=I2.hok a _ ea
 obtain ⟨_,bm,N,nm,qn,bs,sn,sub,ab,col,dd,k0,k1,k2,k3,k5,hC,T⟩:=jro I2.kIn hI.cls
 obtain ⟨hp,g,dr,tk,os⟩:=s2
 refine jx0 T hC (PySem.W.looks_findIn I2.kIn hI.sa) (PySem.W.looks_findIn I2.kIn hI.no) hx rfl (λc z=>by cases z) rfl λh' tk' d n1 n2 e1 e2 kp=>?_
 have hd0:H2 d = none:=by
  cases z:H2 d with
  | none=>rfl
  | some u=>
   obtain ⟨o',e'⟩:=(I2.hok d u z).there
   rw [show hp.get? d = none from n1] at e'
   cases e'
 have I3:Inv X pins U (upd H2 a (jom a C d)) ⟨h',g,dr,tk',os⟩:=by
  refine I2.write (x:=a) (e:=a) (h':=h') (t':=tk') (by rw [ea]; exact True.intro) (.inl rfl) (λb u hb e=>kp b u hb e) ⟨_,e1⟩ ⟨⟨t,sl,e1⟩,⟨_,e1⟩,λh1 h2 p k=>?_⟩
  obtain ⟨t',sl',e'⟩:=p
  exact ⟨t',sl',k _ e'⟩
 have hd1:hp.get? d = none:=n1
 have ne0 : ∀ b o,hp.get? b = some o -> b ≠ d:=λb o e z=>by rw [z,hd1] at e; cases e
 have I4:Inv X pins U (upd (upd H2 a (jom a C d)) d (.xd [(f,y)])) ⟨h',g,dr,tk',os⟩:=by
  refine I3.j2o hex (by rw [je n2]; exact hd0) (I2.j3u hex hd1) ?_ (λz c e=>?_) (λp hp'=>?_) ⟨_,e2,λz=>?_⟩
  .obtain ⟨m,⟨o',_,_,ho',_⟩,_⟩:=I2.loc
   exact (ne0 _ _ ho').symm
  .obtain ⟨v',o',ho',_⟩:=I2.cell z c e
   exact ne0 _ _ ho'
  .exact ne0 _ _ (I2.pin p hp').1
  .rw [lookup_cons]
   by_cases hz:z = f
   .subst hz
    simp only [beq_self_eq_true,if_true]
    exact ry
   .have:(z == f) = false:=by simpa using hz
    rw [this,if_neg hz]
    exact True.intro
 exact ⟨U,_,I4,q2 d hd0⟩
theorem Inv.drop {a:Addr} {φ : Heap -> Prop} (I:Inv X pins U H s) (ha:H a = some (.ext φ)) : Inv X pins U (λb=>if b = a then none else H b) s:=by
 have ne : ∀ {b:Addr} {u:HO},H b = some u -> (∀ ψ,u ≠ .ext ψ) -> b ≠ a:=λ{b u} e h z=>by
  subst z
  rw [ha] at e
  exact h _ (Option.some.inj e).symm
 have at_ : ∀ {b:Addr},b ≠ a -> (λb=>if b = a then none else H b) b = H b:=λh=>if_neg h
 have nn : ∀ {b:Addr},H b = none -> (λb=>if b = a then none else H b) b = none:=λ{b} h=>by
  by_cases z:b = a
  .exact if_pos z
  .exact (if_neg z).trans h
 refine ⟨I.ok,I.os,I.bare,⟨I.base.keep,I.base.slot,λb ob e n hx=>nn (I.base.free b ob e n hx),I.base.there,λb xs q=>?_,λb ob v q=>?_,λb ps q=>?_⟩,I.loc,I.cell,nn I.free,λx c e=>nn (I.jfs x c e),λp hp=>?_,λb v e=>?_,I.len⟩
 .have q':=I.base.jrr b xs q
  exact (at_ (ne q' λ_ z=>nomatch z)).trans q'
 .have q':=I.base.jrc b ob v q
  exact (at_ (ne q' λ_ z=>nomatch z)).trans q'
 .obtain ⟨more,z⟩:=I.base.jsc b ps q
  exact ⟨more,(at_ (ne z λ_ z=>nomatch z)).trans z⟩
 .obtain ⟨q1,q2,q3⟩:=I.pin p hp
  exact ⟨q1,nn q2,q3⟩
 .by_cases z:b = a
  .have e':(if b = a then none else H b) = some v:=e
   rw [if_pos z] at e'
   cases e'
  .have e':H b = some v:=(at_ z).symm.trans e
   exact (I.hok b v e').jpk (λ_ _ _ q=>q) (λc q=>(at_ (ne q λ_ z=>nomatch z)).trans q) λc xs q=>(at_ (ne q λ_ z=>nomatch z)).trans q
end
def CX2 (P:Program) (w:World) : CXT:=λl H s E e s'=>∃ ea cls dd H',e = .ref ea /\ Fly P w l H H' s s' ea cls /\ (∃ oe,s'.heap.get? ea = some oe /\ oe.dict = dd) /\ E cls dd H'
section
variable {P:Program} {w:World} {K:PySem.W.Frag} {mg:Str -> Option Value} {base:Heap} {N:List Str} {qual:Str} {scope:Scope} {f:Addr} {cd:Value} {A:Around} {outer:List Env} {s:Shared} {H:Hp} {E:XK}
theorem j6e:Passes (CX2 P w) (jpv (CX2 P w) P w K mg base N qual scope f cd A outer s H E) E:=by
 intro pins U H1 s1 e s' I h
 obtain ⟨ea,cls,dd,H',rfl,F,⟨oe,he,hdd⟩,q⟩:=h
 obtain ⟨Bq,t,hf,k1,k2⟩:=F.fly
 show wpAny (model P w) (A.deeper (envOfC qual scope s.heap.objs.size f cd)) (leaving (envOfC qual scope s.heap.objs.size f cd) (.ref ea)) _ _ s'
 refine wpAny_mono (jk7 jqh (wpAny_leaves_onW (E:=λ_ _=>False) (Q:=λ_ s''=>∃ h',s'' = { s' with heap:=h' } /\ Heap.FlyingW Bq outer ea cls (.ref t) h' /\ s'.heap.UpToSlots h') I.ok.frames (L:=s.heap.objs.size) rfl hf λh' hf' hu=>⟨h',rfl,hf',hu⟩))
  (λ_ s'' ⟨⟨h',e1,hf',hu⟩,kd⟩=>?_) (λ_ _ c=>c.1.elim)
 subst e1
 obtain ⟨o2,e2,d2⟩:=kd ea oe he
 exact ⟨ea,cls,dd,H',rfl,j3o I rfl F hf' hu k1 k2,⟨o2,e2,d2.trans hdd⟩,q⟩
theorem j0v {pins:List (Addr × Obj)} {U : St} {H1:Hp} {s1:Shared} {ea t:Addr} {oe:Obj} (I:Inv (jpv (CX2 P w) P w K mg base N qual scope f cd A outer s H E) pins U H1 s1) (he:s1.heap.get? ea = some oe)
  (hd:oe.data = .fields #[.ref t,.none,.none,.none,.bool false,.none]) (new:s.heap.get? ea = none) (hn:H1 ea = none) (q:E oe.cls oe.dict H1) : (jpv (CX2 P w) P w K mg base N qual scope f cd A outer s H E).xe (.ref ea) s1:=by
 have noE : ∀ b:Addr,b ∉ ([] : List Addr):=λb=>by simp
 have ib:Un (frs outer) [] H H1 s.heap s1.heap:=I.base
 obtain ⟨stk,estk⟩ : ∃ stk,stk = envOfC qual scope s.heap.objs.size f cd :: outer:=⟨_,rfl⟩
 have hin : ∀ env ∈ stk,∀ b,env.frame = some b -> b ∈ ea :: frs stk:=λenv he b hb=>mem_cons_of_mem _ (mem_filterMap.mpr ⟨env,he,hb⟩)
 have hideg : ∀ b o,s1.heap.get? b = some o -> b ≠ ea -> b ∉ frs stk -> (PySem.W.hideAll s1.heap (ea :: frs stk)).get? b = some o:=λb o e h1 h2=>PySem.W.hideAll_get _ e λz=>(mem_cons.mp z).elim h1 h2
 have jpq : ∀ b o,s.heap.get? b = some o -> b ∉ frs outer -> b ∉ frs stk:=λb o e hb=>by rw [estk]; exact I.jpq e hb
 have neS : ∀ b o,s.heap.get? b = some o -> b ≠ ea:=λb o e z=>by rw [z,new] at e; cases e
 have neH : ∀ b u,H1 b = some u -> b ≠ ea:=λb u e z=>by rw [z,hn] at e; cases e
 have trk : ∀ b u,H1 b = some u -> b ∉ frs stk:=λb u e z=>by
  rw [estk] at z
  have:=I.jqy b z
  rw [e] at this
  cases this
 have IS:s1.heap.FunFrames (PySem.W.hideAll s1.heap (ea :: frs stk)) (envOfC qual scope s.heap.objs.size f cd :: outer):=by
  rw [estk]
  exact PySem.W.funFrames_hide I.stack (by rw [estk] at hin; exact hin)
 show wpAny (model P w) (A.deeper (envOfC qual scope s.heap.objs.size f cd)) (leaving (envOfC qual scope s.heap.objs.size f cd) (.ref ea)) _ _ s1
 refine wpAny_mono (jk7 jqh (wpAny_leaving_firstW (E:=λ_ _=>False) (base:=PySem.W.hideAll s1.heap (ea :: frs stk)) (a0:=.ref t) (Q:=λ_ s''=>∃ h',s'' = { s1 with heap:=h' } /\ Heap.LeftW (PySem.W.hideAll s1.heap (ea :: frs stk)) (envOfC qual scope s.heap.objs.size f cd :: outer) ea oe.cls (.ref t) s1.heap h')
  I.ok.frames IS rfl he (λb o q=>PySem.W.of_hideAll _ q) (PySem.W.hideAll_none _ (by simp)) hd rfl rfl λh' hL=>⟨h',rfl,hL⟩)) (λ_ s'' ⟨⟨h',e1,hL⟩,kd⟩=>?_) (λ_ _ c=>c.1.elim)
 subst e1
 obtain ⟨o2,e2,d2⟩:=kd ea oe he
 obtain ⟨x1,⟨_,_,x2⟩,x3,x4⟩:=hL
 have jpk : ∀ b o,s1.heap.get? b = some o -> b ≠ ea -> b ∉ frs stk -> h'.get? b = some o:=λb o e h1 h2=>x1 _ _ (hideg b o e h1 h2)
 have slots : ∀ b o,s.heap.get? b = some o -> H b = none -> b ∈ frs outer -> ∃ sl,h'.get? b = some { o with slots:=sl }:=λb o e n hb=>by
  obtain ⟨sl,e1⟩:=ib.slot b o e n hb (noE b)
  obtain ⟨_,o3,e3,nf⟩:=I.ok.jte.mem hb
  have e3':s.heap.get? b = some o3:=e3
  rw [e] at e3'
  cases e3'
  obtain ⟨sl3,e4⟩:=x4 b _ e1 nf
  exact ⟨sl3,e4⟩
 refine ⟨ea,oe.cls,oe.dict,H1,rfl,⟨I.os,I.bare,⟨λb o e n hb _=>?_,λb o e n hb _=>slots b o e n hb,λb o e n _=>ib.free b o e n (noE b),λb o e _=>?_,ib.jrr,ib.jrc,ib.jsc⟩,λb u e=>?_,⟨PySem.W.hideAll s1.heap (ea :: frs stk),t,⟨x1,PySem.W.hideAll_none _ (by simp),x2,x3⟩,λb o o' e e' hb=>?_,λb u o' q e'=>?_⟩,new⟩,⟨o2,e2,d2⟩,q⟩
 .exact jpk b o (ib.keep b o e n hb (noE b)) (neS b o e) (jpq b o e hb)
 .by_cases hb:b ∈ frs outer
  .obtain ⟨sl,q⟩:=slots b o e (I.ok.frf b hb) hb
   exact ⟨_,q⟩
  .obtain ⟨o1,e1⟩:=ib.there b o e (noE b)
   exact ⟨o1,jpk b o1 e1 (neS b o e) (jpq b o e hb)⟩
 .refine (I.hok b u e).jpk (λc v hc q=>?_) (λ_ q=>q) λ_ _ q=>q
  rcases hc with z | z
  .subst z
   exact jpk _ _ q (neH _ _ e) (trk _ _ e)
  .exact jpk _ _ q (neH _ _ z) (trk _ _ z)
 .obtain ⟨o1,e1⟩:=ib.there b o e (noE b)
  have z:=jpk b o1 e1 (neS b o e) (jpq b o e hb)
  have e2:h'.get? b = some o':=e'
  rw [z] at e2
  cases e2
  exact hideg b _ e1 (neS b o e) (jpq b o e hb)
 .obtain ⟨o1,e1⟩:=(I.hok b u q).there
  have z:=jpk b o1 e1 (neH _ _ q) (trk _ _ q)
  have e2:h'.get? b = some o':=e'
  rw [z] at e2
  cases e2
  exact hideg b _ e1 (neH _ _ q) (trk _ _ q)
end
end L2
namespace L2
open PySem PySem.Spec PyProof.Rows
section
variable {P:Program} {w:World} {K:PySem.W.Frag} {mg:Str -> Option Value} {base:Heap}
theorem Fun.okY {x qual:Str} {st:Stmt} {f:Addr} {fd:FuncData} {N ps:List Str} {k:Nat} {sp:Sp} (F:Fun K x qual st f fd) (S:qj N ps (jt st)) (len : ∀ vs H Q E,sp vs H Q E -> vs.length = ps.length)
  (hbody : ∀ (cdv:Value) (A:Around) (outer:List Env) (s:Shared) (H:Hp) (vs:List V) (Q:VK) (E:XK),jeo k (A.deeper (envOfC qual (jt st) s.heap.objs.size f cdv)) -> sp vs H Q E ->
   ∃ t,PSs (jpv (CX2 P w) P w K mg base N qual (jt st) f cdv A outer s H E) (jbq st) t /\ t { nx:=λ_ H'=>Q .non H',rt:=Q } (start N vs) H) : xo P w K mg base (CX2 P w) (k + 1) f fd ps sp:=by
 obtain ⟨oc,od,kV,doc,pm,an,cdv,ct,osl,rfl,lk,hcd⟩:=F.ex
 exact j47 lk hcd S len λA outer s H vs Q E hr hsp=>hbody cdv A outer s H vs Q E hr hsp
theorem Fun.j8t {x qual:Str} {st:Stmt} {f:Addr} {fd:FuncData} {N ps:List Str} {k:Nat} {sp:Sp} (F:Fun K x qual st f fd) (S:qj N ps (jt st)) (hbody : ∀ (cdv:Value) (A:Around) (outer:List Env) (s:Shared) (H:Hp) (vs:List V) (Q:VK) (E:XK),jeo k (A.deeper (envOfC qual (jt st) s.heap.objs.size f cdv)) -> sp vs H Q E ->
   ∃ t,PSs (jpv (CX2 P w) P w K mg base N qual (jt st) f cdv A outer s H E) (jbq st) t /\ t { nx:=λ_ H'=>Q .non H',rt:=Q } (start N vs) H) (len:autoParam (∀ vs H Q E,sp vs H Q E -> vs.length = ps.length) aP6) : xo P w K mg base (CX2 P w) (k + 1) f fd ps sp:=F.okY S len hbody
theorem Fun.j77 {x qual:Str} {st:Stmt} {f:Addr} {fd:FuncData} {N ps:List Str} {k:Nat} {sp:Sp} (F:Fun K x qual st f fd) (hbody : ∀ (cdv:Value) (A:Around) (outer:List Env) (s:Shared) (H:Hp) (vs:List V) (Q:VK) (E:XK),jeo k (A.deeper (envOfC qual (jt st) s.heap.objs.size f cdv)) -> sp vs H Q E ->
   ∃ t,PSs (jpv (CX2 P w) P w K mg base N qual (jt st) f cdv A outer s H E) (jbq st) t /\ t { nx:=λ_ H'=>Q .non H',rt:=Q } (start N vs) H) (S:autoParam (qj N ps (jt st)) aP8) (len:autoParam (∀ vs H Q E,sp vs H Q E -> vs.length = ps.length) aP6) : xo P w K mg base (CX2 P w) (k + 1) f fd ps sp:=F.okY S len hbody
theorem Inv.j0u {X:Cx} {pins:List (Addr × Obj)} {U : St} {H:Hp} {s:Shared} (I:Inv X pins U H s) {a:Addr} (e:s.heap.get? a = none) : H a = none:=by
 cases z:H a with
 | none=>rfl
 | some u=>
  obtain ⟨o,q⟩:=(I.hok a u z).there
  rw [e] at q
  cases q
theorem js6 {N:List Str} {qual:Str} {scope:Scope} {f:Addr} {cd:Value} {A:Around} {outer:List Env} {s:Shared} {H:Hp} {E:XK} {x:Str} {C:Addr} {e:Expr} {es:List Expr} {t:TA} {np cpos pos:Pos}
  (hg:Gl (jpv (CX2 P w) P w K mg base N qual scope f cd A outer s H E) x) (hm:mg x = some (.ref C)) (hC:j5j K C) (ha:PA (jpv (CX2 P w) P w K mg base N qual scope f cd A outer s H E) (e :: es) t)
  (hdb:autoParam ((x == ("__debug__" : Str)) = false) aP2) (he:autoParam (starEach (e :: es) (envOfC qual scope s.heap.objs.size f cd) = (false,eval e (envOfC qual scope s.heap.objs.size f cd)) :: starEach es (envOfC qual scope s.heap.objs.size f cd)) aP1)
  (hpl:autoParam ((backTo cpos (starEach es (envOfC qual scope s.heap.objs.size f cd))).any (·.1) = false) aP1) :
  PS (jpv (CX2 P w) P w K mg base N qual scope f cd A outer s H E) (.Raise (some (.Call (.Name x np) (e :: es) [] cpos)) none pos) (j0m (E (.ref C) none) t):=
 jyx rfl hg hm hC ha (λ{pins U H1 s1 ea vs h1} I hx q=>by
  obtain ⟨t,h2,_,_⟩:=hx.there
  exact j0v (I.kept (t':=s1.toks) hx.keeps) h2 rfl (I.j3u rfl hx.new) (I.j0u hx.new) q) hdb he hpl
end
def jym (C:Addr) (sp:Sp) (W:Option Addr -> Hp -> Prop) (t:TA) : TS:=λ_ U H=>t U H λvs H1=>vs.length <= sizeLine /\
 ∀ ea,H1 ea = none -> sp (.ref ea :: vs) (upd H1 ea (jr8 ea C)) (λv H2=>v = .non /\ ∃ d,H2 ea = some (jom ea C d) /\ W (some d) (λb=>if b = ea then none else H2 b)) E0
section
variable {X:Cx}
theorem jw4 {k:Nat} {fI C:Addr} {fd:FuncData} {ps:List Str} {sp:Sp} {fld x:Str} {e:Expr} {es:List Expr} {t:TA} {np cpos pos:Pos} {W:Option Addr -> Hp -> Prop} (hc:X.calm = true) (hex:X.ex = []) (hg:Gl X x) (hm:X.mg x = some (.ref C))
  (hI:jy0 X.K C fI fld) (Fn:xo X.prog X.w X.K X.mg X.base CX0 k fI fd ps sp) (hr:jeo (k + 1) X.A) (hb:Binds X.K fd ps []) (ha:PA X (e :: es) t)
  (hxe : ∀ {pins:List (Addr × Obj)} {U : St} {H:Hp} {s:Shared} {ea t:Addr} {oe:Obj},Inv X pins U H s -> s.heap.get? ea = some oe -> oe.data = .fields #[.ref t,.none,.none,.none,.bool false,.none] -> X.s₀.heap.get? ea = none -> H ea = none -> oe.cls = .ref C -> W oe.dict H -> X.xe (.ref ea) s)
  (hdb:autoParam ((x == ("__debug__" : Str)) = false) aP2) (he:autoParam (starEach (e :: es) X.env = (false,eval e X.env) :: starEach es X.env) aP1) (hpl:autoParam ((backTo cpos (starEach es X.env)).any (·.1) = false) aP1) :
  PS X (.Raise (some (.Call (.Name x np) (e :: es) [] cpos)) none pos) (jym C sp W t):=by
 intro pins s U H D I h
 have FB:=F.excBase_ValueError
 obtain ⟨_,bm,N,nm,qn,bs,sn,sub,ab,col,dd,k0,k1,k2,k3,k5,hC0,T0⟩:=jro I.mod.kin hI.cls
 have hpl':((backTo cpos (starEach (e :: es) X.env)).any λx=>x.fst) = false:=by rw [he]; show (false || (backTo cpos (starEach es X.env)).any (·.1)) = false; rw [hpl]; rfl
 rw [arm_exec_Raise]
 refine wpAny_bind (wpAny_standAt ?_)
 refine jvp (C:=C) (nm:=nm) (q:=qn) (N:=N) (bs:=bs) (bm:=bm) (hdct:=true) (sn:=sn) (sub:=sub) (ab:=ab) (col:=col) (dd:=dd) (k0:=k0) (k1:=k1) (k2:=k2) (k3:=k3) (k5:=k5) (newId := "ValueError.__new__")
  (T0.hasType FB.hasBase) (I.ok.hd hc) (wpAny_bind (wpAny_mono (wpAny_Call_ofName (jg1 I hg hm ?_ hdb)) (λv s3 h3=>wpAny_bind (wpAny_standAt (wpAny_pure h3))) λ_ _ x=>x))
 have h1:wpAny (model X.prog X.w) X.A (evalArgs (.ref C) true (backTo cpos (starEach (e :: es) X.env)) []) (λa s2=>∃ us vs H2,a = ⟨us,[]⟩ /\ Inv X pins U H2 s2 /\ Vals vs us /\ vs.length <= sizeLine /\
   ∀ ea,H2 ea = none -> sp (.ref ea :: vs) (upd H2 ea (jr8 ea C)) (λv H3=>v = .non /\ ∃ d,H3 ea = some (jom ea C d) /\ W (some d) (λb=>if b = ea then none else H3 b)) E0) X.xe s:=by
  have hA:=ha cpos pins s U H _ I h
  rw [he] at hA ⊢
  exact Calls.evalArgs_plain (thn hA λus s2 ⟨vs,H2,I2,r2,hz,q2⟩=>⟨us,vs,H2,rfl,I2,r2,hz,q2⟩)
 delta callWith
 refine wpAny_bind (wpAny_holding (wpAny_mono h1 (λa s2 h2=>wpAny_bind (wpAny_standAt ?_)) λ_ _ x=>x))
 obtain ⟨us,vs,H2,rfl,I2,r2,hz,q2⟩:=h2
 have hC:=I2.bk _ _ hC0
 have T:=T0.keeps I2.bk
 obtain ⟨⟨oI,hoI,hoc⟩,_⟩:=jro I2.kIn hI.cls
 obtain ⟨hp,g,dr,tk,os⟩:=s2
 simp only [hpl']
 refine wpAny_bind (wpAny_keeperOf_exc hC ?_)
 refine wpAny_bind (jx2 FB T hC (PySem.W.looks_findIn I2.kIn hI.ini) hoI hoc (by show us.length <= sizeLine; rw [<- r2.length]; exact hz) λh' ea hmd=>?_)
 have hna:hp.get? ea = none:=hmd.new
 have ne0 : ∀ b o,hp.get? b = some o -> b ≠ ea:=λb o e z=>by rw [z,hna] at e; cases e
 obtain ⟨t0,het,_,_⟩:=hmd.there
 have I3:Inv X pins U H2 ⟨h',g,dr,tk,os⟩:=I2.kept (t':=tk) hmd.keeps
 have hH2:H2 ea = none:=I2.j0u hna
 have I4:Inv X pins U (upd H2 ea (jr8 ea C)) ⟨h',g,dr,tk,os⟩:=by
  refine I3.j2o hex hH2 (I2.j3u hex hna) ?_ (λz c e=>?_) (λp hp'=>?_) ⟨⟨t0,_,het⟩,⟨_,het⟩,λh1 h2 p k=>?_⟩
  .obtain ⟨m,⟨o',_,_,ho',_⟩,_⟩:=I2.loc
   exact (ne0 _ _ ho').symm
  .obtain ⟨v',o',ho',_⟩:=I2.cell z c e
   exact ne0 _ _ ho'
  .exact ne0 _ _ (I2.pin p hp').1
  .obtain ⟨t',sl',e'⟩:=p
   exact ⟨t',sl',k _ e'⟩
 have hq:=q2 ea hH2
 have r3:Vals (V.ref ea :: vs) (Value.ref ea :: us):=.cons rfl r2
 have hl:(Value.ref ea :: us ++ []).length = ps.length:=by
  have e:=r3.length
  rw [Fn.len _ _ _ _ hq] at e
  rw [append_nil]
  exact e.symm
 have hbt:=hb ⟨h',g,dr,tk,os⟩ (Value.ref ea :: us) I4.kIn hl
 rw [append_nil] at hbt
 refine wpAny_call (codeAny_mono (Fn.run _ X.stack _ _ ⟨Value.ref ea :: us,[]⟩ (Value.ref ea :: us) _ _ E0 (hr.make C us []) (I4.j3b.make C us []) hbt r3 hq) λr s' hq'=>?_)
 cases r with
 | error e'=>exact False.elim hq'
 | ok fl=>
  cases fl with
  | ret u=>
   obtain ⟨v,H5,I5,rv,⟨ev,d,hd5,w5⟩⟩:=I4.after hq'
   subst ev
   refine ⟨rv,wpAny_bind (wpAny_holding (wpAny_point (wpAny_pure ?_)))⟩
   obtain ⟨⟨t5,sl5,he5⟩,_,_⟩:=I5.hok ea _ hd5
   exact ⟨ea,_,t5,rfl,I5.bk _ _ hC0,he5,rfl,rfl,hxe (I5.drop hd5) he5 rfl (I2.j3u hex hna) (if_pos rfl) rfl w5⟩
  | next=>exact False.elim hq'
  | brk=>exact False.elim hq'
  | cont=>exact False.elim hq'
end
end L2
namespace L2
open PySem PySem.Spec PyProof.Rows
def j02 (ea:Addr) (cls:Value) (dd:Option Addr) : HO:=.ext λh=>∃ o vs,h.get? ea = some o /\ o.cls = cls /\ o.data = .fields vs /\ o.dict = dd
def jox (X:Cx) (pn:List (Addr × Obj)) (W:St -> Value -> Option Addr -> Hp -> Prop) : Cx:=
 { X with pn:=pn,xe:=λe s'=>∃ (pins:List (Addr × Obj)) (U : St) (H:Hp) (s0:Shared) (ea:Addr) (cls:Value) (dd:Option Addr) (H':Hp),e = .ref ea /\ Inv { X with pn:=pn } pins U H s0 /\ Fly X.prog X.w X.stack H H' s0 s' ea cls /\ (∃ oe,s'.heap.get? ea = some oe /\ oe.dict = dd) /\ W U cls dd H' }
section
variable {X:Cx} {pins pn:List (Addr × Obj)} {U : St} {H H':Hp} {s s':Shared}
theorem Inv.j4l {W:St -> Value -> Option Addr -> Hp -> Prop} (I:Inv X pins U H s) (h : ∀ p ∈ pn,p ∈ X.pn ++ pins) : Inv (jox X pn W) pins U H s:=
 I.jyp (Yq:=jox X pn W) (I.ok.jyp (Yq:=jox X pn W) ⟨rfl,rfl,rfl⟩ rfl rfl rfl rfl rfl rfl rfl I.ok.hd I.ok.frames) rfl rfl rfl rfl rfl rfl rfl rfl λp hp=>(mem_append.mp hp).elim (h p) λz=>mem_append_right _ z
theorem Inv.j0s {W:St -> Value -> Option Addr -> Hp -> Prop} (I:Inv (jox X pn W) pins U H s) : Inv { X with pn:=pn } pins U H s:=
 I.jyp (Yq:={ X with pn:=pn }) (I.ok.jyp (Yq:={ X with pn:=pn }) ⟨rfl,rfl,rfl⟩ rfl rfl rfl rfl rfl rfl rfl I.ok.hd I.ok.frames) rfl rfl rfl rfl rfl rfl rfl rfl λ_ hp=>hp
theorem j15 {W:St -> Value -> Option Addr -> Hp -> Prop} (I:Inv (jox X pn W) pins U H s) (e:Value) (s':Shared) (h:CX2 X.prog X.w X.stack H s (λcls dd H'=>W U cls dd H') e s') : (jox X pn W).xe e s':=by
 obtain ⟨ea,cls,dd,H',rfl,F,hd,q⟩:=h
 exact ⟨pins,U,H,s,ea,cls,dd,H',rfl,I.j0s,F,hd,q⟩
theorem Inv.less {a:Addr} {φ ψ : Heap -> Prop} (I:Inv X pins U H s) (ha:H a = some (.ext φ)) (h : ∀ h,φ h -> ψ h) (st : ∀ h1 h2:Heap,ψ h1 -> (∀ o,h1.get? a = some o -> h2.get? a = some o) -> ψ h2) : Inv X pins U (upd H a (.ext ψ)) s:=by
 obtain ⟨p,⟨o,e⟩,_⟩:=I.hok a _ ha
 exact I.write (t':=s.toks) (x:=a) (e:=a) (h':=s.heap) (by rw [ha]; exact True.intro) (.inl rfl) (λb u _ q=>q) ⟨o,e⟩ ⟨h _ p,⟨o,e⟩,st⟩
def j7q (D:Ends) (i:Nat) (ea:Addr) (cls:Value) (dd:Option Addr) : Ends:=
  { nx:=λU2 H2=>H2 ea = some (j02 ea cls dd) /\ D.nx (U2.set i none) (upd H2 ea (jsx ea cls))
    rt:=λv H2=>H2 ea = some (j02 ea cls dd) /\ D.rt v (upd H2 ea (jsx ea cls))
    bk:=λU2 H2=>H2 ea = some (j02 ea cls dd) /\ D.bk (U2.set i none) (upd H2 ea (jsx ea cls))
    ct:=λU2 H2=>H2 ea = some (j02 ea cls dd) /\ D.ct (U2.set i none) (upd H2 ea (jsx ea cls)) }
theorem jzl {s0 s1:Shared} {H1:Hp} {D:Ends} {x n:Str} {i:Nat} {np hpos:Pos} {b₀:Stmt} {suite:List Stmt} {rest:List ExceptHandler} {Pc C ea t:Addr} {dd:Option Addr} {ts:TS} {h₅ Bq:Heap} {U':St}
  (hstk:X.stack = X.env :: X.outer) (hex:X.ex = []) (hg:Gl X x) (hm:X.mg x = some (.ref Pc)) (hB:PySem.W.mroIn X.K Pc (.type "BaseException") = some true) (hN:X.N.Nodup) (hi:X.N[i]? = some n) (hn:X.env.scope.names.lookup n = some .local)
  (hs : ∀ ea,PSs (jv2 X ea) (b₀ :: suite) ts) (hdb:(x == ("__debug__" : Str)) = false) (IX:Inv X pins U' H1 s0) (F:Fly X.prog X.w X.stack H1 H' s0 s1 ea (.ref C)) (hfl5:Heap.FlyingW Bq X.stack ea (.ref C) (.ref t) h₅) (hu:s1.heap.UpToSlots h₅)
  (k1 : ∀ b o o',s0.heap.get? b = some o -> s1.heap.get? b = some o' -> b ∉ frs X.stack -> Bq.get? b = some o') (k2 : ∀ b u o',H' b = some u -> s1.heap.get? b = some o' -> Bq.get? b = some o') (hea:H' ea = none) (hdd : ∃ oe,h₅.get? ea = some oe /\ oe.dict = dd)
  (hsub:PySem.W.kitCls X.K (.ref C) (.ref Pc) = some true) (hts:ts (j7q D i ea (.ref C) dd) (U'.set i (some (.ref ea))) (upd H' ea (j02 ea (.ref C) dd))) :
  wpAny (model X.prog X.w) X.A (handleBy (.ref ea) X.env (.ExceptHandler (some (.Name x np)) (some n) (b₀ :: suite) hpos :: rest)) (SP X pins D) X.xe { s1 with heap:=h₅ }:=by
 have noE : ∀ b:Addr,b ∉ ([] : List Addr):=λb=>by simp
 have I5:Inv X pins U' H' { s1 with heap:=h₅ }:=ju0 IX F hfl5 hu k1 k2
 obtain ⟨oe,ve,hoe,hoec,hoed,_⟩:=hfl5.first
 refine wpAny_handleBy_cons (codeAny_handlers_test (Calls.Name_function_global I5.ok.kind hg (Calls.loadGlobal_global (by rw [I5.ok.glob]; exact I5.mod.glob.keeps I5.bk) hm ?_) hdb)) (by intro q; cases q)
 refine jyb (K:=X.K) (h:=h₅) I5.kIn hoe hoec hsub hB _ _ _ _ (λ_ _ q=>q) ?_
 show codeAny _ _ _ _ _
 refine codeAny_handlers_suite_as ?_
 refine wpAny_mono (jk7 jhe (lands_againW (E:=λ_ _=>False) (Q:=λ_ s''=>∃ h₆,s'' = { s1 with heap:=h₆ } /\ Heap.FlyingW Bq X.stack ea (.ref C) (.ref t) h₆ /\ h₅.UpToSlots h₆) hfl5 λh₆ hfl₆ hsm₆=>⟨h₆,rfl,hfl₆,hsm₆⟩)) (λ_ s'' ⟨⟨h₆,e6,hfl₆,hsm₆⟩,kd⟩=>?_) (λ_ _ z=>z.1.elim)
 subst e6
 have I6:Inv X pins U' H' { s1 with heap:=h₆ }:=ju0 IX F hfl₆ (hu.trans hsm₆) k1 k2
 obtain ⟨oe6,ve6,hoe6,hoec6,hoed6,_⟩:=hfl₆.first
 have hd6:oe6.dict = dd:=by
  obtain ⟨o5,e5,d5⟩:=hdd
  obtain ⟨o6,e6,d6⟩:=kd ea o5 e5
  have e6':h₆.get? ea = some o6:=e6
  rw [hoe6] at e6'
  cases e6'
  exact d6.trans d5
 have new0:X.s₀.heap.get? ea = none:=IX.j3u hex F.new
 have ne0 : ∀ b o,s0.heap.get? b = some o -> b ≠ ea:=λb o e z=>by rw [z,F.new] at e; cases e
 have I7:Inv X pins U' (upd H' ea (j02 ea (.ref C) dd)) { s1 with heap:=h₆ }:=by
  refine I6.j2o hex hea new0 ?_ (λy c e=>?_) (λp hp=>?_) ⟨⟨oe6,ve6,hoe6,hoec6,hoed6,hd6⟩,⟨oe6,hoe6⟩,λh1 h2 p k=>?_⟩
  .obtain ⟨m,⟨o,_,_,ho,_⟩,_⟩:=IX.loc
   exact (ne0 _ _ ho).symm
  .obtain ⟨v,o,ho,_⟩:=IX.cell y c e
   exact ne0 _ _ ho
  .exact ne0 _ _ (IX.pin p hp).1
  .obtain ⟨o,vs,e1,e2,e3,e4⟩:=p
   exact ⟨o,vs,k o e1,e2,e3,e4⟩
 refine jnl (v:=.ref ea) I7 hN hi (.inl hn) rfl (λs8 I8=>?_) (.inr hn)
 refine wpAny_mono (hs ea pins s8 _ _ _ I8.j6v hts) (λf s9 q=>?_) (λ_ _ z=>z.elim)
 have wk : ∀ {U9:St} {H9:Hp},Inv X pins U9 H9 s9 -> H9 ea = some (j02 ea (.ref C) dd) -> Inv X pins U9 (upd H9 ea (jsx ea (.ref C))) s9:=λJ e=>J.less e (λh ⟨o,vs,a1,a2,a3,_⟩=>⟨o,vs,a1,a2,a3⟩) λh1 h2 p k=>by
  obtain ⟨o,vs,e1,e2,e3⟩:=p
  exact ⟨o,vs,k o e1,e2,e3⟩
 have behind : ∀ {U9:St} {H9:Hp},Inv X pins U9 H9 s9 -> (∀ s10,Inv X pins (U9.set i none) H9 s10 -> SP X pins D f s10) ->
   wpAny (model X.prog X.w) X.A (do bindName X.env n .none; unbindBehindTheSuite X.env n hpos) (λ_ s₃=>SP X pins D f s₃) X.xe s9:=λ{U9 H9} J k=>by
  refine wpAny_bind (wpAny_bindName (jnl (v:=.non) J hN hi (.inl hn) rfl (λs10 I10=>?_) (.inr hn)))
  obtain ⟨m,hm10,hl10⟩:=id I10.loc
  have hiU : i < U9.length:=by rw [J.len]; exact (List.getElem?_eq_some_iff.mp hi).1
  obtain ⟨u,ru,lk⟩:=hl10 i n .non hi (by rw [getElem?_set_self hiU]) (.inl hn)
  have hmn:m n = some u:=by
   rcases lk with ⟨_,q⟩ | ⟨q,_⟩
   .exact q
   .rcases q with q | q
    .have q':X.env.scope.names.lookup n = some .cell:=q
     rw [hn] at q'
     cases q'
    .have q':X.env.scope.names.lookup n = some .free:=q
     rw [hn] at q'
     cases q'
  unfold unbindBehindTheSuite
  refine wpAny_onRaise (wpAny_unbindName_local (env:=X.env) hn hm10 hmn (by rw [J.ok.kind]; rfl) λh' u' hn' hs'=>?_)
  have I11:=I10.unset hN hi hm10 hl10 hn' hs'
  rw [List.set_set] at I11
  exact k _ I11
 show wpAny _ _ _ _ _ _
 cases f with
 | next=>
  obtain ⟨U9,H9,I9,e9,q⟩:=q
  exact behind (wk (I9.jy2 I8.ok) e9) λs10 I10=>⟨_,_,I10,q⟩
 | brk=>
  obtain ⟨U9,H9,I9,e9,q⟩:=q
  exact behind (wk (I9.jy2 I8.ok) e9) λs10 I10=>⟨_,_,I10,q⟩
 | cont=>
  obtain ⟨U9,H9,I9,e9,q⟩:=q
  exact behind (wk (I9.jy2 I8.ok) e9) λs10 I10=>⟨_,_,I10,q⟩
 | ret u=>
  obtain ⟨v,U9,H9,I9,r,e9,q⟩:=q
  exact behind (wk (I9.jy2 I8.ok) e9) λs10 I10=>⟨v,_,_,I10,r,q⟩
end
section
variable {X:Cx}
end
end L2
namespace L2
open PySem PySem.Spec PyProof.Rows
theorem jx9 {P:Program} {w:World} {K:PySem.W.Frag} {mg:Str -> Option Value} {base:Heap} {N:List Str} {qual:Str} {scope:Scope} {f:Addr} {cd:Value} {A:Around} {outer:List Env} {s:Shared} {H:Hp} {E:XK} {k:Nat} {fI C:Addr} {fd:FuncData} {ps:List Str} {sp:Sp} {fld x:Str} {e:Expr} {es:List Expr} {t:TA} {np cpos pos:Pos}
  (hg:Gl (jpv (CX2 P w) P w K mg base N qual scope f cd A outer s H E) x) (hm:mg x = some (.ref C)) (hI:jy0 K C fI fld) (Fn:xo P w K mg base CX0 k fI fd ps sp) (hr:jeo (k + 1) (jpv (CX2 P w) P w K mg base N qual scope f cd A outer s H E).A) (hb:Binds K fd ps [])
  (ha:PA (jpv (CX2 P w) P w K mg base N qual scope f cd A outer s H E) (e :: es) t)
  (hdb:autoParam ((x == ("__debug__" : Str)) = false) aP2) (he:autoParam (starEach (e :: es) (envOfC qual scope s.heap.objs.size f cd) = (false,eval e (envOfC qual scope s.heap.objs.size f cd)) :: starEach es (envOfC qual scope s.heap.objs.size f cd)) aP1)
  (hpl:autoParam ((backTo cpos (starEach es (envOfC qual scope s.heap.objs.size f cd))).any (·.1) = false) aP1) :
  PS (jpv (CX2 P w) P w K mg base N qual scope f cd A outer s H E) (.Raise (some (.Call (.Name x np) (e :: es) [] cpos)) none pos) (jym C sp (E (.ref C)) t):=
 jw4 rfl rfl hg hm hI Fn hr hb ha (λI he hd new hn hc q=>j0v I he hd new hn (by rw [hc]; exact q)) hdb he hpl
end L2
namespace L2
open PySem PySem.Spec PyProof.Rows
end L2
namespace L2
open PySem PySem.Spec PyProof.Rows
end L2
namespace L2
open PySem PySem.Spec PyProof.Rows
section
variable {X:Cx} {pn:List (Addr × Obj)}
def j4r (C:Addr) (m:Str) (sp:Sp) (dvs:List V) (W:St -> Value -> Option Addr -> Hp -> Prop) (ta:TE) (t:TA) : TE:=λU H Q=>ta U H λx H1=>∃ a dx fs,x = .ref a /\ H1 a = some (.ins C dx fs) /\ fs.lookup m = none /\
 t U H1 λvs H2=>sp (x :: (vs ++ dvs)) H2 Q λcls dd H'=>W U cls dd H'
theorem jz7 {W:St -> Value -> Option Addr -> Hp -> Prop} {k:Nat} {f C:Addr} {fd:FuncData} {ps:List Str} {sp:Sp} {dvs:List V} {ds:List Value} {m:Str} {apos pos:Pos} {o e:Expr} {es:List Expr} {ta:TE} {t:TA} {pl:Sem Bool}
  (he:PE (jox X pn W) o ta) (c:Cls X.K C) (hm:Meth X.K C m f) (F:xo X.prog X.w X.K X.mg X.base (CX2 X.prog X.w) k f fd ps sp) (hr:jeo k X.A) (hb:Binds X.K fd ps ds) (hd:Vals dvs ds) (ha:PA (jox X pn W) (e :: es) t)
  (hst:autoParam (starEach (e :: es) X.env = (false,eval e X.env) :: starEach es X.env) aP1) (hpl:autoParam ((backTo pos (starEach es X.env)).any (·.1) = false) aP1)
  (ht:autoParam (eval (.Call (.Attribute o m apos) (e :: es) [] pos) X.env = (do
   let ov <- eval o X.env
   standAt apos.atName
   let (f,first) <- holding [ov] (getMethod ov m pl)
   callWith pos f first (backTo pos (starEach (e :: es) X.env)) (backToKw pos (keywordEach [] X.env)))) aP1) :
  PE (jox X pn W) (.Call (.Attribute o m apos) (e :: es) [] pos) (j4r C m sp dvs W ta t):=by
 intro pins s U H Q I h
 refine PySem.W.methodCall_KW (pl:=pl) (thn (he pins s U H _ I h) λu s1 ⟨x,H1,I1,rx,a,dx,fs,ex,ea,l,q⟩=>?_) ht
 subst ex
 obtain rfl:u = Value.ref a:=rx
 refine jh4 I1 ea c hm l ?_
 refine PySem.W.callWith_K (first:=[.ref a]) (h₀:=X.base) I.ok.mod.kin hm.kp (thn (ha pos pins s1 U H1 _ I1 q) λus s2 ⟨vs,H2,I2,r,q2⟩=>⟨I2.kIn,?_⟩) hst hpl
 exact j1j (us:=.ref a :: us) (vs:=.ref a :: vs) F hr hb hd I2 (j15 I2) (.cons rfl r) q2
end
def j6q (K:PySem.W.Frag) (P1:Addr) (i:Nat) (tb:(St -> Value -> Option Addr -> Hp -> Prop) -> TS) (ts:TS) : TS:=λD U H=>∃ W:St -> Value -> Option Addr -> Hp -> Prop,tb W D U H /\
 ∀ U' cls dd H' ea,W U' cls dd H' -> H' ea = none -> ∃ C,cls = .ref C /\ PySem.W.kitCls K (.ref C) (.ref P1) = some true /\ ts (j7q D i ea cls dd) (U'.set i (some (.ref ea))) (upd H' ea (j02 ea cls dd))
section
variable {X:Cx}
theorem j2v {body:List Stmt} {x1 n:Str} {i:Nat} {np1 hp1 pos:Pos} {b1:Stmt} {su1:List Stmt} {P1:Addr} {tb:(St -> Value -> Option Addr -> Hp -> Prop) -> TS} {ts1:TS}
  (hstk:X.stack = X.env :: X.outer) (hfr:X.env.frame = some X.env.locals) (hex:X.ex = []) (hg1:Gl X x1) (hm1:X.mg x1 = some (.ref P1)) (hB1:PySem.W.mroIn X.K P1 (.type "BaseException") = some true)
  (hN:X.N.Nodup) (hi:X.N[i]? = some n) (hn:X.env.scope.names.lookup n = some .local)
  (hb : ∀ pn W,PSs (jox X pn W) body (tb W)) (hs1 : ∀ ea,PSs (jv2 X ea) (b1 :: su1) ts1) (hd1:autoParam ((x1 == ("__debug__" : Str)) = false) aP2) :
  PS X (.Try body [.ExceptHandler (some (.Name x1 np1)) (some n) (b1 :: su1) hp1] [] [] pos) (j6q X.K P1 i tb ts1):=by
 intro pins s U H D I h
 obtain ⟨W,h1,h2⟩:=h
 refine wpAny_Try_except ?_
 have back : ∀ {pins':List (Addr × Obj)} {U':St} {H':Hp} {s':Shared},Inv (jox X (X.pn ++ pins) W) pins' U' H' s' -> Inv X pins U' H' s':=λJ=>J.j0s.j01 λ_ hp=>hp
 refine wpAny_mono (hb (X.pn ++ pins) W pins s U H D (I.j4l λ_ hp=>hp) h1) (λf s1 q=>?_) (λe s1 q=>?_)
 .cases f with
  | next=>
   obtain ⟨U1,H1,I1,q⟩:=q
   exact wpAny_execs_nil ⟨U1,H1,back I1,q⟩
  | brk=>obtain ⟨U1,H1,I1,q⟩:=q; exact ⟨U1,H1,back I1,q⟩
  | cont=>obtain ⟨U1,H1,I1,q⟩:=q; exact ⟨U1,H1,back I1,q⟩
  | ret u=>obtain ⟨v,U1,H1,I1,r,q⟩:=q; exact ⟨v,U1,H1,back I1,r,q⟩
 .obtain ⟨pins',U',H1,s0,ea,cls,dd,H',rfl,I0,F,⟨oe,hoe,hdd⟩,wW⟩:=q
  have IX:Inv X pins U' H1 s0:=I0.j01 λ_ hp=>hp
  obtain ⟨Bq,t,hf,k1,k2⟩:=F.fly
  have hea:H' ea = none:=by
   cases q:H' ea with
   | none=>rfl
   | some u=>
    obtain ⟨o,e⟩:=(F.hok ea u q).there
    have z:=k2 ea u o q e
    rw [hf.2.1] at z
    cases z
  obtain ⟨C,rfl,m1,q1⟩:=h2 U' cls dd H' ea wW hea
  have frames:X.A.frames = some (X.env :: X.outer):=by rw [IX.ok.frames,hstk]
  have hf':Heap.FlyingW Bq (X.env :: X.outer) ea (.ref C) (.ref t) s1.heap:=by rw [<- hstk]; exact hf
  refine wpAny_mono (jk7 jmz (wpAny_looks_onW (E:=λ_ _=>False) (Q:=λ_ s''=>∃ h₄,s'' = { s1 with heap:=h₄ } /\ Heap.HeldW Bq (X.env :: X.outer) ea (.ref C) (.ref t) X.env.locals h₄ /\ s1.heap.UpToSlots h₄) frames hfr hf' λh₄ a b=>⟨h₄,rfl,a,b⟩)) (λ_ s'' ⟨⟨h₄,e4,hheld₄,hsm₄⟩,kd4⟩=>?_) (λ_ _ z=>z.1.elim)
  subst e4
  refine wpAny_mono (jk7 jhe (wpAny_landsW (E:=λ_ _=>False) (Q:=λ_ s''=>∃ h₅,s'' = { s1 with heap:=h₅ } /\ Heap.FlyingW Bq (X.env :: X.outer) ea (.ref C) (.ref t) h₅ /\ h₄.UpToSlots h₅) hheld₄ λh₅ a b=>⟨h₅,rfl,a,b⟩)) (λ_ s'' ⟨⟨h₅,e5,hfl₅,hsm₅⟩,kd5⟩=>?_) (λ_ _ z=>z.1.elim)
  subst e5
  have hfl5:Heap.FlyingW Bq X.stack ea (.ref C) (.ref t) h₅:=by rw [hstk]; exact hfl₅
  obtain ⟨o4,e4,d4⟩:=kd4 ea oe hoe
  obtain ⟨o5,e5,d5⟩:=kd5 ea o4 e4
  exact jzl hstk hex hg1 hm1 hB1 hN hi hn hs1 hd1 IX F hfl5 (hsm₄.trans hsm₅) k1 k2 hea ⟨o5,e5,(d5.trans d4).trans hdd⟩ m1 q1
end
end L2
namespace L2
open PySem PySem.Spec PyProof.Rows
def j5i {α : Type} : List α -> List α -> List α
 | [a,b],[c,d,e,f]=>[a,b,c,d,e,f]
 | _,_=>[]
theorem jzv {vs : List V} {us:List Value} {zs:List V} {ws:List Value} (r1:Vals vs us) (r2:Vals zs ws) : Vals (j5i vs zs) (j5i us ws):=by
 cases r1 with
 | nil=>exact .nil
 | cons a r1 =>
  cases r1 with
  | nil=>exact .nil
  | cons b r1 =>
   cases r1 with
   | cons _ _=>exact .nil
   | nil =>
    cases r2 with
    | nil=>exact .nil
    | cons c r2=>
     cases r2 with
     | nil=>exact .nil
     | cons d r2=>
      cases r2 with
      | nil=>exact .nil
      | cons e r2=>
       cases r2 with
       | nil=>exact .nil
       | cons f r2=>
        cases r2 with
        | nil=>exact .cons a (.cons b (.cons c (.cons d (.cons e (.cons f .nil)))))
        | cons _ _=>exact .nil
theorem jz8 {lo:Int} {n:Nat} {D:Addr} {g:TG} {ti:TT} {tk tv:TE} {U0:St} {H0:Hp} {QF:Hp -> Prop} (Pv:Nat -> St -> Hp -> Prop) (h0:Pv 0 U0 H0)
  (hs : ∀ i U H,i < n -> Pv i U H -> g (.int (lo + i)) U H λU2 H2=>ti U2 H2 λb H3=>if b = true then tk U2 H3 λy H4=>tv U2 H4 λz H5=>∃ H6,jwf H5 D y z H6 /\ Pv (i + 1) U2 H6 else Pv (i + 1) U2 H3)
  (hd : ∀ U H,Pv n U H -> QF H) : ∃ W:Nat -> Nat -> St -> Hp -> Prop,(∃ m,W 0 m U0 H0) /\ DcW (Itr lo n) g ti tk tv D QF W:=by
 refine ⟨λi m U H=>m = n - i /\ i <= n /\ Pv i U H,⟨n,by simp,zero_le _,h0⟩,?_⟩
 rintro i m U H ⟨rfl,hi,p⟩
 by_cases hlt:i < n
 .refine .inr ⟨hlt,Pv (i + 1),λU' H' p'=>⟨n - (i + 1),by omega,rfl,hlt,p'⟩,λx H' y=>?_⟩
  obtain ⟨e,y⟩:=y
  subst e y
  exact hs i U _ hlt p
 .have e:i = n:=by omega
  subst e
  exact .inl ⟨le_refl _,hd U H p⟩
theorem jo3 (val:Nat -> Int) : ∀ k i,i <= k -> val i <= val (argBest (λi j=>decide (val i > val j)) k)
 | 0,i,h=>by
  have:i = 0:=by omega
  subst this
  exact Int.le_refl _
 | k + 1,i,h=>by
  have ih:=jo3 val k
  unfold argBest
  by_cases z:val (k + 1) > val (argBest (λi j=>decide (val i > val j)) k)
  .rw [if_pos (decide_eq_true z)]
   by_cases q:i = k + 1
   .rw [q]
    exact Int.le_refl _
   .have:=ih i (by omega)
    omega
  .rw [if_neg (by simpa using z)]
   by_cases q:i = k + 1
   .rw [q]; omega
   .exact ih i (by omega)
theorem jdr {α β : Type} {R : α -> β -> Prop} : ∀ {xs:List α} {ys:List β} {i:Nat} {y : β},Paired R xs ys -> ys[i]? = some y -> ∃ x,xs[i]? = some x /\ R x y
 | _,_,i,y,.nil,e=>by simp at e
 | _,_,0,y,.cons h _,e=>by
  cases Option.some.inj e
  exact ⟨_,rfl,h⟩
 | _,_,i + 1,y,.cons _ t,e=>jdr (i:=i) t e
section
variable {X:Cx}
theorem jxt (hc:X.calm = true) : jow X (.builtin "max") (λxs H Q=>∃ (p:Addr) (ns:List Int),xs = [.ref p] /\ SqL X.K H p (ns.map V.int) /\ 0 < ns.length /\ ∀ M,M ∈ ns -> (∀ a ∈ ns,a <= M) -> Q (.int M) H):=by
 intro pins s U H xs us Q I r h
 obtain ⟨p,ns,rfl,hq,hne,q⟩:=h
 obtain ⟨u,rfl,rx⟩:=vals1 r
 cases rx
 obtain ⟨its,r',pl,hz⟩:=I.list hq
 have hlen:ns.length = its.length:=by have:=r'.length; rw [length_map] at this; exact this
 have hv : ∀ i v,its.toArray[i]? = some v -> ∃ t,v = Value.int (ns.getD i 0) t:=λi v e=>by
  have e':its[i]? = some v:=by simpa using e
  obtain ⟨y,ey,ry⟩:=jdr r' e'
  rw [getElem?_map] at ey
  cases hn:ns[i]? with
  | none=>rw [hn] at ey; cases ey
  | some n=>
   rw [hn] at ey
   cases ey
   obtain ⟨t,et⟩:=ry
   refine ⟨t,?_⟩
   rw [et,getD_eq_getElem?_getD,hn]
   rfl
 have hp:p ≠ s.heap.objs.size:=by
  obtain ⟨o,ho,_⟩:=pl.isList
  exact ne_of_lt (Heap.lt_size ho)
 refine call_max_walk (wpAny_pyIter_list pl.isList ⟨s.heap.objs.size,_,_,_,_,_,_,rfl,Walks.list (A:=X.A.in1) (show X.A.in1.handled = none from I.ok.hd hc) s.heap.objs.size p hp its.toArray,⟨⟨_,Heap.get?_push_size _ rfl,rfl,rfl⟩,?_⟩,λb hb=>?_,by simpa using (by omega : 0 < its.length),CmpOf.ints_gt (λi=>ns.getD i 0) hv,λv h' tk hP hk=>?_⟩)
 .obtain ⟨o,ho,hr⟩:=pl.isList
  exact ⟨o,Heap.get?_push_of_some _ ho,hr⟩
 .rw [Heap.size_push]
  rcases mem_cons.mp hb with rfl | hb
  .exact lt_succ_self _
  .rw [mem_singleton.mp hb]
   obtain ⟨o,ho,_⟩:=pl.isList
   exact Nat.lt_succ_of_lt (Heap.lt_size ho)
 .obtain ⟨t,rfl⟩:=hv _ _ hP
  refine ⟨V.int (ns.getD (argBest (λi j=>decide (ns.getD i 0 > ns.getD j 0)) (its.toArray.size - 1)) 0),H,I.kept (t':=tk) λb o e=>hk b o (λz=>?_) (Heap.get?_push_of_some _ e),⟨t,rfl⟩,q _ ?_ λa ha=>?_⟩
  .have:b = s.heap.objs.size:=by simpa using z
   have lt:=Heap.lt_size e
   rw [this] at lt
   exact lt_irrefl _ lt
  .have hb:=jql (λi j=>decide (ns.getD i 0 > ns.getD j 0)) (its.toArray.size - 1)
   have hs:its.toArray.size = its.length:=by simp
   generalize argBest (λi j=>decide (ns.getD i 0 > ns.getD j 0)) (its.toArray.size - 1) = j at hb
   have hj:j < ns.length:=by omega
   rw [getD_eq_getElem?_getD,getElem?_eq_getElem hj]
   exact List.getElem_mem hj
  .obtain ⟨i,hi,rfl⟩:=mem_iff_getElem.mp ha
   have:=jo3 (λi=>ns.getD i 0) (its.toArray.size - 1) i (by simp; omega)
   rw [show ns.getD i 0 = ns[i] by rw [getD_eq_getElem?_getD,getElem?_eq_getElem hi]; rfl] at this
   exact this
end
structure j69 (K:PySem.W.Frag) (C:Addr) (m:Str) (f:Addr) : Prop where
 sp:PySem.W.specialIn K (.ref C) "__getattribute__" = some (some (.builtin "type.__getattribute__"))
 rd:PySem.W.readsIn K C (.type "type") = true
 at_:PySem.W.findCls K (.ref C) (.type "type") m = some (.val (.ref f))
 kp:PySem.W.keepIn K (.ref f) = true
section
variable {X:Cx} {CX:CXT} {E:XK} {k:Nat} {f C:Addr} {fd:FuncData} {ps:List Str} {sp:Sp} {dvs:List V} {ds:List Value} {x m:Str} {p apos pos:Pos} {e:Expr} {es:List Expr} {t:TA}
theorem j16 {pl:Sem Bool} (hg:Gl X x) (hC:X.mg x = some (.ref C)) (hm:j69 X.K C m f) (F:xo X.prog X.w X.K X.mg X.base CX k f fd ps sp) (hr:jeo k X.A) (hb:Binds X.K fd ps ds) (hd:Vals dvs ds) (hx:Passes CX X E) (ha:PA X (e :: es) t)
  (hdb:autoParam ((x == ("__debug__" : Str)) = false) aP2) (hst:autoParam (starEach (e :: es) X.env = (false,eval e X.env) :: starEach es X.env) aP1) (hpl:autoParam ((backTo pos (starEach es X.env)).any (·.1) = false) aP1)
  (ht:autoParam (eval (.Call (.Attribute (.Name x p) m apos) (e :: es) [] pos) X.env = (do
   let ov <- eval (.Name x p) X.env
   standAt apos.atName
   let (f,first) <- holding [ov] (getMethod ov m pl)
   callWith pos f first (backTo pos (starEach (e :: es) X.env)) (backToKw pos (keywordEach [] X.env)))) aP1) :
  PE X (.Call (.Attribute (.Name x p) m apos) (e :: es) [] pos) (j40 sp dvs E t):=by
 intro pins s U H Q I h
 refine PySem.W.methodCall_KW (pl:=pl) (thn (jg1 (Q:=EP X pins U λv H'=>v = V.ref C /\ H' = H) I hg hC ⟨V.ref C,H,I,rfl,rfl,rfl⟩ hdb) λu s1 ⟨y,H1,I1,ry,ey,eH⟩=>?_) ht
 subst ey eH
 obtain rfl:u = Value.ref C:=ry
 refine PySem.W.method_cls I1.kIn hm.sp (PySem.W.cls_value I1.kIn hm.rd hm.at_ rfl ?_)
 have I2:=I1.tok (s1.toks + 1)
 refine PySem.W.callWith_K (first:=[]) (h₀:=X.base) I.ok.mod.kin hm.kp (thn (ha pos pins _ U H1 _ I2 h) λus s2 ⟨vs,H2,I3,r,q2⟩=>⟨I3.kIn,?_⟩) hst hpl
 exact jui F hr hb hd hx I3 r q2
end
section
variable {X:Cx}
end
end L2
namespace L2
open PySem PySem.Spec PyProof.Rows
end L2
namespace L2
open PySem PySem.Spec PyProof.Rows
open AutoSeq1 (wpAny_loadPart')
theorem jwk {l:Addr} {its:List Value} {n:Nat} {x:Value} {e:Value -> Bool} {j:Nat} {y:Value} (hj:its[j]? = some y) (hit:e y = true) (hz:its.length <= sizeLine) :
  ∀ (d i:Nat),i + d = j -> (∀ m z,i <= m -> m < j -> its[m]? = some z -> e z = false) -> Meets (Builtin.«list.remove.loop» ⟨[.ref l,x,rawInt i],[]⟩)
   (λA R s=>s.heap.get? l = some { cls:=.type "list",dict:=none,data:=.seq its.toArray n,slots:=#[] } /\ (∀ u ∈ its,SeqAt.EqAt A.in1 s u x (e u)) /\ R (.ok (.ret .none)) { s with heap:=s.heap.update l (Obj.mapSeq λxs=>xs.eraseIdxIfInBounds j) })
 | d,i,hd,hno=>by
  intro prog w A R s h
  obtain ⟨hp,g,dp,tk,os⟩:=s
  obtain ⟨hl,he,h⟩:=h
  have lt:i < its.length:=by
   have:=(List.getElem?_eq_some_iff.mp hj).1
   omega
  obtain ⟨v,hv⟩ : ∃ v,its[i]? = some v:=⟨_,getElem?_eq_getElem lt⟩
  have hi:its.toArray[((i:Nat) : Int).toNat]? = some v:=by simpa using hv
  have hs1:its.toArray.size <= sizeLine:=by rw [size_toArray]; exact hz
  wp_walk using wpAny_loadPart' hl
  rw [hi]
  refine wpAny_bind (he v (mem_of_getElem? hv) prog w _ _ ?_)
  cases d with
  | zero=>
   have e1:i = j:=by omega
   subst e1
   rw [hj] at hv
   cases hv
   rw [hit]
   wp_walk using wpAny_loadPart' hl
   have small:(Obj.mapSeq (λx=>x.eraseIdxIfInBounds ((i:Nat) : Int).toNat) { cls:=Value.type "list",data:=Data.seq its.toArray n }).data.pastItsLine = none:=by
    refine pastItsLine_seq (le_trans ?_ (le_succ_of_le hz))
    show (its.toArray.eraseIdxIfInBounds ((i:Nat) : Int).toNat).size <= its.length
    rw [List.eraseIdxIfInBounds_toArray,size_toArray]
    exact length_eraseIdx_le _ _
   rw [small]
   wp_walk
   exact h
  | succ d=>
   rw [hno i v (le_refl _) (by omega) hv]
   wp_walk
   have ec:((i:Int) + 1) = ((i + 1:Nat) : Int):=by push_cast; rfl
   rw [ec]
   refine ⟨plainId_quiet MeetsSeq.plain_remove_loop _,codeAny_builtin MeetsSeq.entry_remove_loop ?_⟩
   rw [Around.under_plainId MeetsSeq.plain_remove_loop _]
   exact jwk hj hit hz d (i + 1) (by omega) (λm z h1 h2=>hno m z (by omega) h2) prog w A R _ ⟨hl,he,h⟩
theorem j2e {l:Addr} {its:List Value} {n:Nat} {x:Value} {e:Value -> Bool} {j:Nat} {y:Value} (hj:its[j]? = some y) (hit:e y = true) (hz:its.length <= sizeLine) (hno : ∀ m z,m < j -> its[m]? = some z -> e z = false) :
  Meets (Builtin.«list.remove» ⟨[.ref l,x],[]⟩)
   (λA R s=>s.heap.get? l = some { cls:=.type "list",dict:=none,data:=.seq its.toArray n,slots:=#[] } /\ (∀ u ∈ its,SeqAt.EqAt A.in1 s u x (e u)) /\ R (.ok (.ret .none)) { s with heap:=s.heap.update l (Obj.mapSeq λxs=>xs.eraseIdxIfInBounds j) }):=by
 intro prog w A R s h
 obtain ⟨hp,g,dp,tk,os⟩:=s
 have go:=jwk (l:=l) (n:=n) (x:=x) hj hit hz j 0 (Nat.zero_add j) (λm z _ h2=>hno m z h2) prog w A R _ h
 wp_walk using wpAny_loadPart' h.1
 refine ⟨plainId_quiet MeetsSeq.plain_remove_loop _,codeAny_builtin MeetsSeq.entry_remove_loop ?_⟩
 rw [Around.under_plainId MeetsSeq.plain_remove_loop _]
 exact go
def j60 (K:PySem.W.Frag) : V -> List V -> Hp -> VK -> Prop:=λx vs H Q=>∃ l xs y n nss,x = .ref l /\ vs = [y] /\ H l = some (.lst xs) /\ jyn K H y n /\ Paired (jyn K H) xs nss /\ n ∈ nss /\ Q .non (upd H l (.lst (xs.eraseIdx (nss.idxOf n))))
section
variable {X:Cx}
theorem jvu (hu:X.A.units + 64 < cLine) : MtM X "list.remove" (j60 X.K):=by
 intro pins s U H x vs v us Q I rx rv h
 obtain ⟨l,xs,y,n,nss,rfl,rfl,hH,hy,hs,hm,q⟩:=h
 cases rx
 obtain ⟨u,rfl,ru⟩:=rv.one
 obtain ⟨z,its,k,r,hl,e⟩:=I.j3g hH
 have lx:=Paired.length hs
 have hi:nss.idxOf n < nss.length:=List.idxOf_lt_length_iff.mpr hm
 obtain ⟨w,hw,rw'⟩:=r.get (getElem?_eq_getElem (show nss.idxOf n < xs.length by omega))
 have is : ∀ (m:Nat) (v:Value),its[m]? = some v -> ∃ t,nss[m]? = some t /\ isT X.K H n v = decide (t = n):=λm v hv=>by
  obtain ⟨x',hx',rv'⟩:=jdr r hv
  obtain ⟨t,ht,q'⟩:=qh hs hx'
  exact ⟨t,ht,jxz I q' rv'⟩
 have yes:isT X.K H n w = true:=by
  obtain ⟨t,ht,q'⟩:=is _ _ hw
  rw [getElem?_eq_getElem hi,List.getElem_idxOf hi] at ht
  rw [q',<- Option.some.inj ht]
  exact decide_eq_true rfl
 refine call_meets F.slot_list_remove ⟨_,e,rfl⟩ F.entry_list_remove (F.args_list_remove_2 _ _) (j2e (e:=isT X.K H n) hw yes (by omega) (λm v hlt hv=>?_)) ⟨e,λv hv=>jk8 I ?_ hy ru r hs v hv,?_⟩
 .obtain ⟨t,ht,q'⟩:=is _ _ hv
  rw [q']
  refine decide_eq_false λz=>?_
  subst z
  obtain ⟨a1,b1⟩:=List.getElem?_eq_some_iff.mp ht
  have no:=List.not_of_lt_findIdx (p:=(· == t)) (xs:=nss) (i:=m) hlt
  rw [b1] at no
  simp at no
 .first | (have e:X.A.in1.units = X.A.units + 1:=rfl; omega) | (have e:X.A.in1.units = X.A.units:=rfl; omega) | (have e:=Around.units_in1 X.A; omega)
 .refine ⟨.non,_,I.j6a (its':=its.eraseIdx (nss.idxOf n)) hH e ?_ (r.eraseIdx _) ?_,rfl,q⟩
  .show its.toArray.eraseIdxIfInBounds _ = (its.eraseIdx _).toArray
   rw [List.eraseIdxIfInBounds_toArray]
  .have:=length_eraseIdx_le xs (nss.idxOf n)
   omega
end
end L2
namespace L2
open PySem PySem.Spec PyProof.Rows
section
variable {X:Cx}
end
end L2
namespace L2
open PySem PySem.Spec PyProof.Rows
section
variable {X:Cx} {K:PySem.W.Frag}
end
end L2
namespace L2
open PySem PySem.Spec PyProof.Rows
section
variable {X:Cx}
end
end L2
namespace L2
open PySem PySem.Spec PyProof.Rows
section
variable {K:PySem.W.Frag} {x qual:Str} {st:Stmt} {f:Addr} {fd:FuncData} {p1 p2 p3 p4 p5:Str}
abbrev jxh (x qual:Str) (st:Stmt) (ps:List Str) (us:List Value) : Prop:=∀ (kV doc pm:Value) (an:Option Addr) (cdv ct:Value),bindArgs (PySem.W.fnOf x qual (jme st) (jbq st) (jt st) .none kV doc pm an cdv ct) ⟨us,[]⟩ = pure (ps.zip us)
theorem bn1 (F:Fun K x qual st f fd) (h : ∀ a,jxh x qual st [p1] [a]) : Binds K fd [p1] []:=F.binds λkV doc pm an cdv ct us hl=>by
 obtain ⟨a,rfl⟩:=length_eq_one_iff.mp hl
 exact h a kV doc pm an cdv ct
theorem ja8 {us:List Value} {n:Nat} (h:us.length = n + 1) : ∃ a r,us = a :: r /\ r.length = n:=by
 cases us with
 | nil=>cases h
 | cons a r=>exact ⟨a,r,rfl,Nat.succ.inj h⟩
theorem bn2 (F:Fun K x qual st f fd) (h : ∀ a b,jxh x qual st [p1,p2] [a,b]) : Binds K fd [p1,p2] []:=F.binds λkV doc pm an cdv ct us hl=>by
 obtain ⟨a,r1,rfl,h1⟩:=ja8 hl
 obtain ⟨b,rfl⟩:=length_eq_one_iff.mp h1
 exact h a b kV doc pm an cdv ct
theorem bn3 (F:Fun K x qual st f fd) (h : ∀ a b c,jxh x qual st [p1,p2,p3] [a,b,c]) : Binds K fd [p1,p2,p3] []:=F.binds λkV doc pm an cdv ct us hl=>by
 obtain ⟨a,r1,rfl,h1⟩:=ja8 hl
 obtain ⟨b,r2,rfl,h2⟩:=ja8 h1
 obtain ⟨c,rfl⟩:=length_eq_one_iff.mp h2
 exact h a b c kV doc pm an cdv ct
theorem bn4 (F:Fun K x qual st f fd) (h : ∀ a b c d,jxh x qual st [p1,p2,p3,p4] [a,b,c,d]) : Binds K fd [p1,p2,p3,p4] []:=F.binds λkV doc pm an cdv ct us hl=>by
 obtain ⟨a,r1,rfl,h1⟩:=ja8 hl
 obtain ⟨b,r2,rfl,h2⟩:=ja8 h1
 obtain ⟨c,r3,rfl,h3⟩:=ja8 h2
 obtain ⟨d,rfl⟩:=length_eq_one_iff.mp h3
 exact h a b c d kV doc pm an cdv ct
theorem bn5 (F:Fun K x qual st f fd) (h : ∀ a b c d e,jxh x qual st [p1,p2,p3,p4,p5] [a,b,c,d,e]) : Binds K fd [p1,p2,p3,p4,p5] []:=F.binds λkV doc pm an cdv ct us hl=>by
 obtain ⟨a,r1,rfl,h1⟩:=ja8 hl
 obtain ⟨b,r2,rfl,h2⟩:=ja8 h1
 obtain ⟨c,r3,rfl,h3⟩:=ja8 h2
 obtain ⟨d,r4,rfl,h4⟩:=ja8 h3
 obtain ⟨e,rfl⟩:=length_eq_one_iff.mp h4
 exact h a b c d e kV doc pm an cdv ct
theorem jzb {k1:Str} (h : ∀ (s:Shared) a b,BindsTo s fd ⟨[a],[(k1,b)]⟩ [(p1,a),(p2,b)]) : jf3 K fd [p1,p2] [k1] jwg jwg:=⟨λs us ws _ hl=>by
 rcases us with _ | ⟨a,_ | ⟨_,_⟩⟩ <;> rcases ws with _ | ⟨b,_ | ⟨_,_⟩⟩
 all_goals first | exact h s a b | (cases hl),λr1 r2=>j0a r1 r2⟩
theorem j51 {k1 k2:Str} (h : ∀ (s:Shared) a b c,BindsTo s fd ⟨[a],[(k1,b),(k2,c)]⟩ [(p1,a),(p2,b),(p3,c)]) : jf3 K fd [p1,p2,p3] [k1,k2] j3h j3h:=⟨λs us ws _ hl=>by
 rcases us with _ | ⟨a,_ | ⟨_,_⟩⟩ <;> rcases ws with _ | ⟨b,_ | ⟨c,_ | ⟨_,_⟩⟩⟩
 all_goals first | exact h s a b c | (cases hl),λr1 r2=>j0l r1 r2⟩
end
section
variable {X:Cx} {a:Expr} {ta:TE} {pos:Pos}
theorem j2i (ha:PE X a ta) : PE X (.UnaryOp .Not a pos) (λU H Q=>ta U H λx H'=>∃ k,j6i X.K x H' k /\ Q (.bl (!k)) H'):=by
 intro pins s U H Q I h
 refine UnaryOp_ (thn (ha pins s U H _ I h) λv s1 ⟨x,H1,I1,r1,q1⟩=>?_)
 exact not_of (thn (j1a pins s1 U H1 x v (λk H'=>Q (.bl (!k)) H') I1 r1 q1) λb s2 ⟨H2,I2,q2⟩=>⟨.bl (!b),H2,I2,rfl,q2⟩)
end
end L2
namespace L2
open PySem PySem.Spec PyProof.Rows
theorem jwr : ∀ {xs:List V} {us:List Value} {w:Value},Vals xs us -> w ∈ us -> ∃ (j:Nat) (x:V),xs[j]? = some x /\ RelV x w
 | _,_,_,.nil,h=>by cases h
 | x :: xs,u :: us,w,.cons r t,h=>by
  rcases mem_cons.mp h with rfl | h
  .exact ⟨0,x,rfl,r⟩
  .obtain ⟨j,y,e,q⟩:=jwr t h
   exact ⟨j + 1,y,by simpa using e,q⟩
def j8z (K:PySem.W.Frag) : R2:=λx y H Q=>rIn K false x y H Q \/ (∃ p xs d ds,y = .ref p /\ SqT K H p xs /\ qg K H d x /\ xk K H ds xs /\ (∀ e ∈ ds,jhi e <= 50 /\ eqD e d = false) /\ Q (.bl false) H)
theorem j45 {X:Cx} (hu:X.A.units + 64 < cLine) : OpR X (compareOp .In) (j8z X.K):=by
 intro pins s U H x y v u Q I rx ry h
 rcases h with h | h
 .exact jk9 pins s U H x y v u Q I rx ry h
 .obtain ⟨p,xs,d,ds,rfl,hq,hd,hs,hn,q⟩:=h
  cases ry
  obtain ⟨its,r,pl,hz⟩:=I.tuple hq
  refine SeqAt.in_tupleAt (λ_=>false) pl (λw hw=>?_) ⟨.bl _,H,I,rfl,?_⟩
  .obtain ⟨j,x',ex,rx'⟩:=jwr r (by simpa using hw)
   obtain ⟨d',ed,hd'⟩:=hs.get ex
   obtain ⟨n1,n2⟩:=hn d' (mem_of_getElem? ed)
   have e:=jqi I 50 d' d x' x w v X.A.in1 n1 (by first | (have e:X.A.in1.units = X.A.units + 1:=rfl; omega) | (have e:X.A.in1.units = X.A.units:=rfl; omega) | (have e:=Around.units_in1 X.A; omega)) hd' hd rx' rx
   rw [n2] at e
   exact e
  .have e:its.toArray.any (λ_=>false) = false:=by simp
   rw [e]
   exact q
end L2
namespace SortQ
open PySem PyProof.Rows PySem.W
def Wq (f:Nat -> Nat -> Bool) (n:Nat) {α : Type} : KasT α -> (α -> Prop) -> Prop
 | .ret a,R=>R a
 | .ask i j k,R=>i < n /\ j < n /\ i ≠ j /\ Wq f n (k (f i j)) R
theorem Wq.mono {f:Nat -> Nat -> Bool} {n:Nat} {α : Type} {R R' : α -> Prop} (h : ∀ a,R a -> R' a) : ∀ {t:KasT α},Wq f n t R -> Wq f n t R'
 | .ret a,q=>h a q
 | .ask _ _ _,⟨a,b,c,q⟩=>⟨a,b,c,Wq.mono h q⟩
theorem Wq.bind {f:Nat -> Nat -> Bool} {n:Nat} {α β : Type} {g : α -> KasT β} {R : β -> Prop} : ∀ {t:KasT α},Wq f n t (λa=>Wq f n (g a) R) -> Wq f n (t.bind g) R
 | .ret _,q=>q
 | .ask _ _ _,⟨a,b,c,q⟩=>⟨a,b,c,Wq.bind q⟩
structure Tq (f:Nat -> Nat -> Bool) (n:Nat) : Prop where
 tot : ∀ i j,i < n -> j < n -> i ≠ j -> f i j = false -> f j i = true
 tr : ∀ i j k,i < n -> j < n -> k < n -> f i j = true -> f j k = true -> f i k = true
def Pq (n:Nat) (p:Array Nat) : Prop:=p.toList.Perm (List.range n)
section
variable {n:Nat} {p:Array Nat}
theorem Pq.size (h:Pq n p) : p.size = n:=by
 have:=h.length_eq
 rw [length_range] at this
 simpa using this
theorem j6f {k:Nat} (h:k < p.size) : p.getD k 0 = p[k]:=by simp [Array.getD,h]
theorem Pq.lt (h:Pq n p) {k:Nat} (hk:k < n) : p.getD k 0 < n:=by
 have hs:=h.size
 rw [j6f (by omega)]
 exact mem_range.mp (h.mem_iff.mp (by simp))
theorem Pq.inj (h:Pq n p) {a b:Nat} (ha:a < n) (hb:b < n) (e:p.getD a 0 = p.getD b 0) : a = b:=by
 have hs:=h.size
 rw [j6f (by omega),j6f (by omega)] at e
 have nd:p.toList.Nodup:=h.nodup_iff.mpr nodup_range
 exact (List.getElem_inj (h₀:=by simp; omega) (h₁:=by simp; omega) nd).mp (by simpa using e)
def Uq (f:Nat -> Nat -> Bool) (p:Array Nat) (m:Nat) : Prop:=∀ a b,a < b -> b < m -> f (p.getD a 0) (p.getD b 0) = true
variable {f:Nat -> Nat -> Bool}
theorem Uq.more (T:Tq f n) (hp:Pq n p) {m:Nat} (h1 : 1 <= m) (hm:m < n) (u:Uq f p m) (h:f (p.getD (m - 1) 0) (p.getD m 0) = true) : Uq f p (m + 1):=by
 intro a b ab bm
 by_cases e:b = m
 .subst e
  by_cases e2:a = b - 1
  .subst e2
   exact h
  .exact T.tr _ _ _ (hp.lt (by omega)) (hp.lt (by omega)) (hp.lt hm) (u a (b - 1) (by omega) (by omega)) h
 .exact u a b ab (by omega)
theorem j7i (T:Tq f n) (hp:Pq n p) : ∀ (c m:Nat),1 <= m -> m + c <= n -> Uq f p m -> Wq f n (kas_asc p c m) λr=>m <= r /\ r <= m + c /\ Uq f p r /\ (r < m + c -> f (p.getD r 0) (p.getD (r - 1) 0) = true)
 | 0,m,_,_,u=>⟨le_refl _,le_refl _,u,λh=>absurd h (by omega)⟩
 | c + 1,m,h1,hm,u=>by
  refine ⟨hp.lt (by omega),hp.lt (by omega),λe=>?_,?_⟩
  .have:=hp.inj (by omega) (by omega) e
   omega
  cases h:f (p.getD m 0) (p.getD (m - 1) 0) with
  | true=>exact ⟨le_refl _,by omega,u,λ_=>h⟩
  | false=>
   have u':=u.more T hp h1 (by omega) (T.tot _ _ (hp.lt (by omega)) (hp.lt (by omega)) (λe=>by have:=hp.inj (by omega) (by omega) e; omega) h)
   show Wq f n (kas_asc p c (m + 1)) _
   refine (j7i T hp c (m + 1) (by omega) (by omega) u').mono λr q=>?_
   exact ⟨by omega,by omega,q.2.2.1,λz=>q.2.2.2 (by omega)⟩
theorem j3p (T:Tq f n) (hp:Pq n p) : ∀ (c m:Nat),2 <= m -> m + c <= n -> Wq f n (kas_desc c p m 0) λr=>r.1 = p /\ r.2.2 = 0 /\ m <= r.2.1 /\ r.2.1 <= m + c
 | 0,m,_,_=>⟨rfl,rfl,le_refl _,le_refl _⟩
 | c + 1,m,h1,hm=>by
  refine ⟨hp.lt (by omega),hp.lt (by omega),λe=>?_,?_⟩
  .have:=hp.inj (by omega) (by omega) e
   omega
  cases h:f (p.getD m 0) (p.getD (m - 1) 0) with
  | true=>
   show Wq f n (kas_desc c p (m + 1) 0) _
   refine (j3p T hp c (m + 1) (by omega) (by omega)).mono λr q=>?_
   exact ⟨q.1,q.2.1,by omega,by omega⟩
  | false=>
   have h':=T.tot _ _ (hp.lt (by omega)) (hp.lt (by omega)) (λe=>by have:=hp.inj (by omega) (by omega) e; omega) h
   refine ⟨hp.lt (by omega),hp.lt (by omega),λe=>?_,?_⟩
   .have:=hp.inj (by omega) (by omega) e
    omega
   rw [h']
   exact ⟨rfl,rfl,le_refl _,Nat.le_add_right _ _⟩
theorem j7f (hp:Pq n p) : ∀ (c m:Nat),1 <= m -> m + c <= n -> Wq f n (kas_asc p c m) λr=>m <= r /\ r <= m + c
 | 0,m,_,_=>⟨le_refl _,le_refl _⟩
 | c + 1,m,h1,hm=>by
  refine ⟨hp.lt (by omega),hp.lt (by omega),λe=>?_,?_⟩
  .have:=hp.inj (by omega) (by omega) e
   omega
  cases h:f (p.getD m 0) (p.getD (m - 1) 0) with
  | true=>exact ⟨le_refl _,by omega⟩
  | false=>
   show Wq f n (kas_asc p c (m + 1)) _
   exact (j7f hp c (m + 1) (by omega) (by omega)).mono λr q=>⟨by omega,by omega⟩
theorem j7j (hp:Pq n p) (m:Nat) : Pq n (kas_rev p 0 m):=(Array.perm_iff_toList_perm.mp (mirror_perm p 0 m _)).trans hp
theorem j5v (hp:Pq n p) {m:Nat} (h1 : 1 <= m) (hm:m <= n) : Wq f n (kas_tail3 m n p) λr=>1 <= r.1 /\ r.1 <= n /\ Pq n r.2:=
 Wq.bind ((j7f (j7j hp m) (n - m) m h1 (by omega)).mono λr q=>⟨by omega,by omega,j7j hp m⟩)
theorem j3q (T:Tq f n) (hp:Pq n p) (h1 : 1 <= n) : Wq f n (kas_count n p) λr=>1 <= r.1 /\ r.1 <= n /\ Pq n r.2:=by
 refine Wq.bind ((j7i T hp (n - 1) 1 (le_refl _) (by omega) (λa b ab hb=>absurd hb (by omega))).mono λm q=>?_)
 obtain ⟨q1,q2,q3,q4⟩:=q
 by_cases e:m = n
 .rw [if_pos (by simp [e])]
  exact ⟨q1,by omega,hp⟩
 .rw [if_neg (by simp [e])]
  by_cases e2:m > 1
  .rw [if_pos e2]
   refine ⟨hp.lt (by omega),hp.lt (by omega),λz=>?_,?_⟩
   .have:=hp.inj (by omega) (by omega) z
    omega
   rw [q3 0 (m - 1) (by omega) (by omega)]
   exact ⟨q1,by omega,hp⟩
  .rw [if_neg e2]
   have e3:m = 1:=by omega
   subst e3
   refine Wq.bind ((j3p T hp (n - 2) 2 (le_refl _) (by omega)).mono λr q=>?_)
   obtain ⟨r1,r2,r3,r4⟩:=q
   rw [if_neg (by omega),r1]
   exact j5v hp (by omega) (by omega)
theorem jw5 (hp:Pq n p) {k:Nat} (hk:k < n) : ∀ (c l r:Nat),l <= r -> r <= k -> r - l <= c -> Wq f n (kas_place p k c l r) λq=>q <= k
 | 0,l,r,h1,h2,h3=>by show l <= k; omega
 | c + 1,l,r,h1,h2,h3=>by
  show Wq f n (if l >= r then .ret l else _) _
  by_cases e:l >= r
  .rw [if_pos e]
   show l <= k
   omega
  .rw [if_neg e]
   refine ⟨hp.lt hk,hp.lt (by omega),λz=>?_,?_⟩
   .have:=hp.inj hk (by omega) z
    omega
   cases h:f (p.getD k 0) (p.getD ((l + r) / 2) 0) with
   | true=>
    show Wq f n (kas_place p k c l ((l + r) / 2)) _
    exact jw5 hp hk c l _ (by omega) (by omega) (by omega)
   | false=>
    show Wq f n (kas_place p k c ((l + r) / 2 + 1) r) _
    exact jw5 hp hk c _ r (by omega) h2 (by omega)
theorem j71 (hp:Pq n p) (k d:Nat) : Pq n (bubble p k d):=(Array.perm_iff_toList_perm.mp (bubble_perm p k d)).trans hp
end
theorem j7n {f:Nat -> Nat -> Bool} {n:Nat} : ∀ (c:Nat) (p:Array Nat) (k:Nat),Pq n p -> k + c <= n -> Wq f n (kas_bin c p k) (Pq n)
 | 0,_,_,hp,_=>hp
 | c + 1,p,k,hp,hk=>Wq.bind ((jw5 hp (k:=k) (by omega) k 0 k (zero_le _) (le_refl _) (by omega)).mono λl _=>j7n c _ (k + 1) (j71 hp k _) (by omega))
theorem j4o (n:Nat) : Pq n (List.toArray (List.range n)):=by
 unfold Pq
 rw [List.toList_toArray]
theorem j6m {f:Nat -> Nat -> Bool} {n:Nat} (T:Tq f n) (h1 : 1 <= n) : Wq f n (kas_sort n) (Pq n):=by
 refine Wq.bind ((j3q T (j4o n) h1).mono λr q=>?_)
 by_cases e:r.1 < n
 .rw [if_pos e]
  exact j7n _ _ _ q.2.2 (by omega)
 .rw [if_neg e]
  exact q.2.2
end SortQ
namespace L2
open PySem PySem.Spec PyProof.Rows PySem.W
theorem jwu {f:Nat -> Nat -> Bool} {n:Nat} {s:Shared} {cmp:Nat -> Nat -> (Bool -> Shared -> Prop) -> Shared -> Prop} {α : Type} {R : α -> Prop} (hc : ∀ i j C,i < n -> j < n -> C (f i j) s -> cmp i j C s) :
  ∀ {t:KasT α},SortQ.Wq f n t R -> t.kasWp cmp (λp s2=>s2 = s /\ R p) s
 | .ret _,h=>⟨rfl,h⟩
 | .ask i j _,⟨a,b,_,h⟩=>hc i j _ a b (jwu hc h)
section
variable {X:Cx} {pins:List (Addr × Obj)} {U : St} {H:Hp} {s:Shared}
theorem jv0 {ts:List (List Int)} (nd:ts.Nodup) : SortQ.Tq (λi j=>HT.lexLt (ts.getD i []) (ts.getD j [])) ts.length where
 tot:=λi j hi hj ne h=>jw1 (λe=>ne (by
  rw [getD_eq_getElem?_getD,getD_eq_getElem?_getD,getElem?_eq_getElem hi,getElem?_eq_getElem hj] at e
  exact (List.getElem_inj nd).mp e)) h
 tr:=λ_ _ _ _ _ _ h1 h2=>j00 h1 h2
theorem jsf:jow X (.builtin "sorted") (λxs H Q=>∃ (p:Addr) (vs:List V) (ts:List (List Int)),xs = [.ref p] /\ SqL X.K H p vs /\ juv X.K H vs ts /\ vs.length < 64 /\ ts.Nodup /\ (∀ t ∈ ts,t ≠ []) /\
  ∀ (q:Addr) (vs':List V) (ts':List (List Int)) (ix:List Nat),H q = none -> ix.Perm (List.range vs.length) -> vs' = ix.map (λi=>vs.getD i .non) -> ts' = ix.map (λi=>ts.getD i []) -> vs'.Perm vs -> ts'.Perm ts -> juv X.K H vs' ts' -> Q (.ref q) (upd H q (.lst vs'))):=by
 intro pins s U H xs us Q I r h
 obtain ⟨p,vs,ts,rfl,hq,ht,h64,nd,ne,q⟩:=h
 obtain ⟨u,rfl,rx⟩:=vals1 r
 cases rx
 obtain ⟨its,r',pl,hz⟩:=I.list hq
 have l1:vs.length = its.length:=r'.length
 have l2:vs.length = ts.length:=Paired.length ht
 have hn:H (s.heap.objs.size + 1) = none:=I.hok.fresh (le_succ _)
 have end_ : ∀ (out:List Value) (vs':List V) (ts':List (List Int)) (ix:List Nat),ix.Perm (List.range vs.length) -> vs' = ix.map (λi=>vs.getD i .non) -> ts' = ix.map (λi=>ts.getD i []) -> Vals vs' out -> vs'.Perm vs -> ts'.Perm ts -> juv X.K H vs' ts' ->
   EP X pins U Q (.ref (s.heap.objs.size + 1)) { s with heap:=sortedAll s.heap its out.toArray }:=λout vs' ts' ix b1 b2 b3 a1 a2 a3 a4=>by
  obtain ⟨e,he⟩:=sortedAll_at s.heap its out.toArray
  refine ⟨.ref (s.heap.objs.size + 1),_,I.laid (a:=s.heap.objs.size + 1) (o:=.lst vs') (t':=s.toks) (λb o z=>sortedAll_old z) (le_succ _) ⟨?_,out,e,a1,he⟩,rfl,q _ vs' ts' ix hn b1 b2 b3 a2 a3 a4⟩
  rw [a2.length_eq]
  exact hz
 have tt:Paired (λu t=>∃ a xs,u = Value.ref a /\ IsTup s.heap a xs /\ IntsAre xs.toList t) its ts:=jqc (λv u t hv hu=>by
  obtain ⟨a,rfl,ha⟩:=hu
  cases hv
  obtain ⟨ys,ry,hy,_⟩:=I.tuple ha
  exact ⟨a,ys.toArray,rfl,hy,intsAre_of ry⟩) r' ht
 refine jvj pl.isList (by omega) (Good:=SortQ.Pq its.length) (λh2 s' k=>?_) (λh=>?_) (λp hp g=>?_)
 .have tt':Paired (λu t=>∃ a xs,u = Value.ref a /\ IsTup s'.heap a xs /\ IntsAre xs.toList t) its ts:=Paired.vb tt λu t ⟨a,xs,e,⟨o,ho,hr⟩,hi⟩=>⟨a,xs,e,⟨o,k a o ho,hr⟩,hi⟩
  obtain ⟨fs,kt,lf,hf⟩:=j7t tt' ne
  refine kat_kind (T:=Value.type "int") kt (by omega) (λv hv=>?_) rfl ⟨rfl,?_⟩
  .obtain ⟨i,t,rfl⟩:=hf v hv
   exact .now
  have hs:=SortQ.j6m (jv0 nd) (by omega)
  rw [<- l2,l1] at hs
  refine jwu (λi j C hi hj c=>?_) hs
  obtain ⟨a,xs,ea,⟨o,ho,hc,n,hd⟩,ia⟩:=jla (d:=Value.none) (e:=[]) tt' hi
  obtain ⟨b,ys,eb,⟨o',ho',hc',n',hd'⟩,ib⟩:=jla (d:=Value.none) (e:=[]) tt' hj
  unfold kas_ask
  rw [ea,eb]
  have q:=ju5 (prog:=X.prog) (w:=X.w) (A:=X.A.in1.in1) 0 ia ib c
  rw [<- jrf ia,<- jrf ib] at q
  refine kat_lt ho hd ho' hd' ?_
  rw [show (Value.type "int" != Value.type "tuple") = true from rfl]
  simpa using q
 .refine end_ its vs ts (List.range vs.length) (List.Perm.refl _) (range_getD ..).symm (by rw [l2]; exact (range_getD ..).symm) r' (List.Perm.refl _) (List.Perm.refl _) ht
 .have g1:=g
  have hm : ∀ i ∈ p.toList,i < vs.length:=λi hi=>by
   rw [l1]
   exact mem_range.mp (g1.mem_iff.mp hi)
  refine end_ _ (p.toList.map λi=>vs.getD i .non) (p.toList.map λi=>ts.getD i []) p.toList (by rw [l1]; exact g1) rfl rfl (jjv r' hm) ?_ ?_ (jjv ht hm)
  .refine (g1.map _).trans ?_
   rw [<- l1,range_getD]
  .refine (g1.map _).trans ?_
   rw [<- l1,l2,range_getD]
end
end L2
set_option Elab.async false
set_option linter.all false
set_option maxRecDepth 100000
namespace M
structure O where
 p:Int
 n:Int
 g:Int
 m:Int
 deriving DecidableEq
def zc (q:Int) (o:O) : Bool:=decide (0 <= o.p /\ o.p <= q - 1 /\ 0 <= o.g /\ o.g <= q - 1 /\ o.p ≠ o.g /\ 0 <= o.n /\ o.n <= 99 /\ 1 <= o.m /\ o.m <= 1000)
theorem qz {q:Int} {o:O} : zc q o = true ↔ (0 <= o.p /\ o.p <= q - 1 /\ 0 <= o.g /\ o.g <= q - 1 /\ o.p ≠ o.g /\ 0 <= o.n /\ o.n <= 99 /\ 1 <= o.m /\ o.m <= 1000):=by
 unfold zc
 rw [decide_eq_true_iff]
end M
namespace M
open PySem L2
theorem zs0 : 0 <= sizeLine:=by decide
theorem zs1 : 1 <= sizeLine:=by decide
theorem zs2 : 2 <= sizeLine:=by decide
theorem zs3 : 3 <= sizeLine:=by decide
theorem zs4 : 4 <= sizeLine:=by decide
theorem zs5 : 5 <= sizeLine:=by decide
theorem zs6 : 6 <= sizeLine:=by decide
theorem zs7 : 7 <= sizeLine:=by decide
theorem zs9 : 9 <= sizeLine:=by decide
theorem j7d : 11 <= sizeLine:=by decide
theorem va {X:Cx} {e0 e1:Expr} {t0 t1:TE} (h0:PE X e0 t0) (h1:PE X e1 t1) (s0:autoParam (isStar e0 = false) aP1) (s1:autoParam (isStar e1 = false) aP1) : PA X [e0,e1] (vk t0 (vk t1 jys)):=by
 refine jc h0 ?_ s0
 refine jc h1 ?_ s1
 exact jg
theorem jmm {X:Cx} {e0 e1 e2:Expr} {t0 t1 t2:TE} (h0:PE X e0 t0) (h1:PE X e1 t1) (h2:PE X e2 t2) (s0:autoParam (isStar e0 = false) aP1) (s1:autoParam (isStar e1 = false) aP1) (s2:autoParam (isStar e2 = false) aP1) : PA X [e0,e1,e2] (vk t0 (vk t1 (vk t2 jys))):=by
 refine jc h0 ?_ s0
 refine jc h1 ?_ s1
 refine jc h2 ?_ s2
 exact jg
theorem j5l {X:Cx} {e0 e1 e2 e3:Expr} {t0 t1 t2 t3:TE} (h0:PE X e0 t0) (h1:PE X e1 t1) (h2:PE X e2 t2) (h3:PE X e3 t3) (s0:autoParam (isStar e0 = false) aP1) (s1:autoParam (isStar e1 = false) aP1) (s2:autoParam (isStar e2 = false) aP1) (s3:autoParam (isStar e3 = false) aP1) : PA X [e0,e1,e2,e3] (vk t0 (vk t1 (vk t2 (vk t3 jys)))):=by
 refine jc h0 ?_ s0
 refine jc h1 ?_ s1
 refine jc h2 ?_ s2
 refine jc h3 ?_ s3
 exact jg
theorem j5g {X:Cx} {e0 e1 e2 e3 e4:Expr} {t0 t1 t2 t3 t4:TE} (h0:PE X e0 t0) (h1:PE X e1 t1) (h2:PE X e2 t2) (h3:PE X e3 t3) (h4:PE X e4 t4) (s0:autoParam (isStar e0 = false) aP1) (s1:autoParam (isStar e1 = false) aP1) (s2:autoParam (isStar e2 = false) aP1) (s3:autoParam (isStar e3 = false) aP1) (s4:autoParam (isStar e4 = false) aP1) : PA X [e0,e1,e2,e3,e4] (vk t0 (vk t1 (vk t2 (vk t3 (vk t4 jys))))):=by
 refine jc h0 ?_ s0
 refine jc h1 ?_ s1
 refine jc h2 ?_ s2
 refine jc h3 ?_ s3
 refine jc h4 ?_ s4
 exact jg
theorem j8r {X:Cx} {e0 e1 e2 e3 e4 e5 e6:Expr} {t0 t1 t2 t3 t4 t5 t6:TE} (h0:PE X e0 t0) (h1:PE X e1 t1) (h2:PE X e2 t2) (h3:PE X e3 t3) (h4:PE X e4 t4) (h5:PE X e5 t5) (h6:PE X e6 t6) (s0:autoParam (isStar e0 = false) aP1) (s1:autoParam (isStar e1 = false) aP1) (s2:autoParam (isStar e2 = false) aP1) (s3:autoParam (isStar e3 = false) aP1) (s4:autoParam (isStar e4 = false) aP1) (s5:autoParam (isStar e5 = false) aP1) (s6:autoParam (isStar e6 = false) aP1) : PA X [e0,e1,e2,e3,e4,e5,e6] (vk t0 (vk t1 (vk t2 (vk t3 (vk t4 (vk t5 (vk t6 jys))))))):=by
 refine jc h0 ?_ s0
 refine jc h1 ?_ s1
 refine jc h2 ?_ s2
 refine jc h3 ?_ s3
 refine jc h4 ?_ s4
 refine jc h5 ?_ s5
 refine jc h6 ?_ s6
 exact jg
theorem j58 {X:Cx} {e0 e1 e2 e3 e4 e5 e6 e7 e8 e9 e10:Expr} {t0 t1 t2 t3 t4 t5 t6 t7 t8 t9 t10:TE} (h0:PE X e0 t0) (h1:PE X e1 t1) (h2:PE X e2 t2) (h3:PE X e3 t3) (h4:PE X e4 t4) (h5:PE X e5 t5) (h6:PE X e6 t6) (h7:PE X e7 t7) (h8:PE X e8 t8) (h9:PE X e9 t9) (h10:PE X e10 t10) (s0:autoParam (isStar e0 = false) aP1) (s1:autoParam (isStar e1 = false) aP1) (s2:autoParam (isStar e2 = false) aP1) (s3:autoParam (isStar e3 = false) aP1) (s4:autoParam (isStar e4 = false) aP1) (s5:autoParam (isStar e5 = false) aP1) (s6:autoParam (isStar e6 = false) aP1) (s7:autoParam (isStar e7 = false) aP1) (s8:autoParam (isStar e8 = false) aP1) (s9:autoParam (isStar e9 = false) aP1) (s10:autoParam (isStar e10 = false) aP1) : PA X [e0,e1,e2,e3,e4,e5,e6,e7,e8,e9,e10] (vk t0 (vk t1 (vk t2 (vk t3 (vk t4 (vk t5 (vk t6 (vk t7 (vk t8 (vk t9 (vk t10 jys))))))))))):=by
 refine jc h0 ?_ s0
 refine jc h1 ?_ s1
 refine jc h2 ?_ s2
 refine jc h3 ?_ s3
 refine jc h4 ?_ s4
 refine jc h5 ?_ s5
 refine jc h6 ?_ s6
 refine jc h7 ?_ s7
 refine jc h8 ?_ s8
 refine jc h9 ?_ s9
 refine jc h10 ?_ s10
 exact jg
def top (i:Nat) : Stmt:=PySem.Challenge.pw_manypurses_k06_whole_honest_get.main.body.getD i (.Pass ⟨0,0,0,0⟩)
abbrev jhz:Stmt:=top 2
abbrev jd5:Stmt:=top 3
abbrev jh6:Stmt:=top 30
abbrev jhy:Stmt:=top 31
abbrev jbe:Stmt:=top 4
abbrev jan:Stmt:=top 5
abbrev kh:Stmt:=top 9
abbrev jnp:Stmt:=top 10
abbrev jj8:Stmt:=top 11
abbrev jjm:Stmt:=top 12
abbrev jhx:Stmt:=top 41
abbrev gy:Stmt:=top 42
abbrev y4:Stmt:=inClass (top 19) 0
abbrev jem:Stmt:=top 46
abbrev jen:Stmt:=top 47
abbrev g6:Stmt:=inClass (top 33) 0
abbrev yz:Stmt:=inClass (top 33) 4
abbrev jdn:Stmt:=inClass (top 33) 1
abbrev jaq:Stmt:=inClass (top 33) 5
abbrev uw:Stmt:=inClass (top 35) 0
abbrev ja7:Stmt:=inClass (top 35) 1
abbrev jal:Stmt:=inClass (top 35) 2
abbrev jai:Stmt:=inClass (top 35) 3
abbrev vz:Stmt:=inClass (top 37) 0
abbrev ki:Stmt:=inClass (top 37) 2
abbrev zy:Stmt:=inClass (top 37) 8
abbrev xl:Stmt:=inClass (top 37) 7
abbrev gj:Stmt:=inClass (top 37) 6
abbrev jcb:Stmt:=inClass (top 37) 3
abbrev yj:Stmt:=inClass (top 37) 4
abbrev jbl:Stmt:=inClass (top 48) 0
abbrev uv:Stmt:=inClass (top 48) 7
abbrev jba:Stmt:=inClass (top 48) 1
abbrev ja5:Stmt:=inClass (top 48) 13
abbrev vy:Stmt:=inClass (top 48) 20
abbrev jea:Stmt:=inClass (top 48) 9
abbrev jab:Stmt:=inClass (top 48) 10
abbrev ym:Stmt:=inClass (top 48) 22
abbrev yp:Stmt:=inClass (top 48) 23
abbrev yl:Stmt:=inClass (top 48) 24
abbrev y8:Stmt:=inClass (top 48) 21
abbrev zj:Stmt:=inClass (top 48) 19
abbrev yb:Stmt:=inClass (top 48) 18
abbrev jc6:Stmt:=inClass (top 48) 3
abbrev jcc:Stmt:=inClass (top 48) 4
abbrev jfi:Stmt:=inClass (top 48) 5
abbrev jd4:Stmt:=inClass (top 48) 6
abbrev jbd:Stmt:=inClass (top 48) 8
abbrev gw:Stmt:=inClass (top 48) 16
abbrev yk:Stmt:=inClass (top 48) 2
abbrev jfo:Stmt:=top 50
abbrev jct:Stmt:=top 51
abbrev jfu:Stmt:=top 52
abbrev gi:Stmt:=top 53
abbrev jcq:Stmt:=top 54
abbrev jbj:Stmt:=top 55
abbrev jcr:Stmt:=top 56
abbrev jad:Stmt:=top 57
abbrev jbg:Stmt:=top 58
abbrev jg2:Stmt:=top 59
abbrev vm:Stmt:=top 60
abbrev jxw:Stmt:=top 61
theorem jc9:qj ["thing","purses","purse","number","goal","much"] ["thing","purses"] (jt jh6):=fsc
theorem jcg:qj ["things","bound","least","thing"] ["things","bound"] (jt jbe):=fsc
theorem jmx:qj ["self","house","thing","houses"] ["self","house","thing"] (jt jdn):=fsc
theorem gr:qj ["self","order","purse","number","goal","much"] ["self","order"] (jt jal):=fsc
theorem gp:qj ["self","order","purse","number","goal","much"] ["self","order"] (jt jai):=fsc
theorem xr:qj ["self","votes","later","order"] ["self"] (jt zy):=fsc
theorem jcp:qj ["self","order"] ["self"] (jt xl):=fsc
theorem jcx:qj ["self","order"] ["self"] (jt gj):=fsc
theorem jbf:qj ["self","word","order","house"] ["self","word","order"] (jt zj):=fsc
theorem jd6:qj ["self","house","orders","order"] ["self","house","orders"] (jt yb):=fsc
theorem jhf:qj ["self","purse","goal","much","asked","order"] ["self","purse","goal","much"] (jt jc6):=fsc
theorem wa:qj ["self","at","letter","word","house","order","keeper"] ["self","at"] (jt jbd):=fsc
theorem ui:qj ["_law_town_here","_law_many","_law_row","_law_at","_law_cell","_law_mixed"] ["_law_town_here","_law_many"] (jt jct):=fsc
theorem yc:qj ["_law_caught","_law_kinds","_law_words"] ["_law_caught"] (jt gi):=fsc
theorem jg7:qj ["_law_town_here","_law_size","_law_most","_law_found","_law_one"] ["_law_town_here","_law_size","_law_most"] (jt jcq):=fsc
theorem yg:qj ["_law_town_here","_law_some_here","_law_crew","_law_foes","_law_begin","_law_rogues","_law_world_here"] ["_law_town_here"] (jt jbj):=fsc
theorem vo:qj ["_law_kind","_law_world_here","_law_one","_law_two","_law_three","_law_told_here","_law_caught","e"] ["_law_kind","_law_world_here","_law_one","_law_two","_law_three"] (jt jcr):=fsc
theorem jiz:qj ["_law_town_here","_law_world_here","_law_there"] ["_law_town_here","_law_world_here"] (jt jad):=fsc
theorem jff:qj ["_law_town_here","_law_parts","_law_purse","_law_many","_law_goal"] ["_law_town_here","_law_parts","_law_purse"] (jt jbg):=fsc
theorem zu:qj ["_law_town_here","_law_parts","_law_share","_law_world_here","_law_crew","_law_some_here","_law_foes","_law_honest","_law_begin","_law_rogues","_law_many","_law_kind","_law_order_here","_law_purse","_law_goal"] ["_law_town_here","_law_parts","_law_share"] (jt jg2):=fsc
theorem jgf:qj ["_law_town_here","_law_world_here","_law_turn"] ["_law_town_here","_law_world_here"] (jt vm):=fsc
theorem wz:qj ["_law_script","_law_town_here","_law_parts","_law_world_here","_law_crew","_law_some_here","_law_foes","_law_honest","_law_begin","_law_rogues","_law_many","_law_asked","_law_turn","_law_purse","_law_goal","_law_before","_law_number","_law_much","_law_told_here","_law_house","_law_done"] ["_law_script"] (jt jxw):=fsc
theorem j8x:(["thing","self"] : List Str).Nodup:=by decide +kernel
theorem j8b:(["order","self"] : List Str).Nodup:=by decide +kernel
theorem j8s:(["keeper","purse","asked"] : List Str).Nodup:=by decide +kernel
theorem j72:(["each"] : List Str).Nodup:=by decide +kernel
theorem j8f:(["each"] : List Str).Nodup:=by decide +kernel
theorem j8i:(["house","sums","liars"] : List Str).Nodup:=by decide +kernel
theorem j8q:(["_law_k","_law_foes"] : List Str).Nodup:=by decide +kernel
theorem j80:(["_law_k","_law_town_here"] : List Str).Nodup:=by decide +kernel
theorem j8u:(["_law_k","_law_world_here"] : List Str).Nodup:=by decide +kernel
theorem j8m:(["_law_order_here","_law_world_here"] : List Str).Nodup:=by decide +kernel
theorem j6w:(["_law_order_here","_law_done"] : List Str).Nodup:=by decide +kernel
theorem j6s:(["_law_order_here"] : List Str).Nodup:=by decide +kernel
theorem j5r:(["_law_house","_law_told_here"] : List Str).Nodup:=by decide +kernel
theorem boot_isinstance:bootBuiltins "isinstance" = some (.builtin "isinstance"):=by decide +kernel
theorem boot_bool:bootBuiltins "bool" = some (.type "bool"):=by decide +kernel
theorem boot_int:bootBuiltins "int" = some (.type "int"):=by decide +kernel
theorem boot_len:bootBuiltins "len" = some (.builtin "len"):=by decide +kernel
theorem boot_tuple:bootBuiltins "tuple" = some (.type "tuple"):=by decide +kernel
theorem boot_sorted:bootBuiltins "sorted" = some (.builtin "sorted"):=by decide +kernel
theorem boot_list:bootBuiltins "list" = some (.type "list"):=by decide +kernel
theorem boot_sum:bootBuiltins "sum" = some (.builtin "sum"):=by decide +kernel
theorem boot_max:bootBuiltins "max" = some (.builtin "max"):=by decide +kernel
theorem boot_all:bootBuiltins "all" = some (.builtin "all"):=by decide +kernel
theorem jo9:bootBuiltins "ValueError" = some (.type "ValueError"):=by decide +kernel
set_option genInjectivity false in
structure Ad where
 jl6:Addr
 jmd:FuncData
 jhj:Addr
 jgm:FuncData
 jmg:Addr
 jh1:FuncData
 jlr:Addr
 jl0:FuncData
 jhd:Addr
 jgv:FuncData
 jdd:Addr
 jcs:FuncData
 jbw:Addr
 jby:FuncData
 jqv:Addr
 jq0:FuncData
 jj0:Addr
 jj5:FuncData
 jjl:Addr
 jj3:FuncData
 jlx:Addr
 jlp:FuncData
 jbu:Addr
 jbm:FuncData
 jap:Addr
 uu:FuncData
 jee:Addr
 jeu:FuncData
 jeh:Addr
 jek:FuncData
 kc:Addr
 jbs:FuncData
 uk:Addr
 jam:FuncData
 jjz:Addr
 jjd:FuncData
 jc2:Addr
 jdh:FuncData
 vg:Addr
 jcy:FuncData
 ja9:Addr
 jei:FuncData
 jce:Addr
 jfh:FuncData
 jcd:Addr
 jfd:FuncData
 we:Addr
 jax:FuncData
 jbx:Addr
 jb3:FuncData
 ku:Addr
 ky:FuncData
 jac:Addr
 uy:FuncData
 jer:Addr
 jeq:FuncData
 jfk:Addr
 jfc:FuncData
 ud:Addr
 pe:FuncData
 gz:Addr
 jb0:FuncData
 jdq:Addr
 jc8:FuncData
 jir:Addr
 jin:FuncData
 jes:Addr
 jep:FuncData
 ja0:Addr
 jat:FuncData
 jm0:Addr
 jmh:FuncData
 jdl:Addr
 jdv:FuncData
 ub:Addr
 kq:FuncData
 ua:Addr
 ko:FuncData
 ph:Addr
 uf:FuncData
 jae:Addr
 jaj:FuncData
 gb:Addr
 w6:FuncData
 jaz:Addr
 jay:FuncData
 jjj:Addr
 ji8:FuncData
 jfr:Addr
 jfq:FuncData
 jkf:Addr
 jkc:FuncData
 jgy:Addr
 jha:FuncData
 jgw:Addr
 jg3:FuncData
 jb2:Addr
 jb1:FuncData
 kn:Addr
 kj:FuncData
 jjy:Addr
 jkb:FuncData
 jjs:Addr
 jjg:FuncData
 jka:Addr
 jke:FuncData
 jeg:Addr
 jef:FuncData
 jjx:Addr
 jj7:FuncData
 jgx:Addr
 jgt:FuncData
 jj1:Addr
 jjt:FuncData
 jfp:Addr
 jfe:FuncData
 jhl:Addr
 jhn:FuncData
 jnz:Addr
 joq:FuncData
 jcu:Addr
 jc7:FuncData
 j14:Addr
 j1h:FuncData
 ja1:Addr
 j4:Addr
 jy:Addr
 jhu:Addr
 xb:Addr
 vq:Addr
 um:Addr
 vc:Addr
 jqw:Addr
 jpb:Addr
 jma:Addr
 jpi:Addr
 jl4:Addr
 jj4:Addr
 jlo:Addr
 jjp:Addr
def asked (t:Ad) : List Value:=[.ref t.jj4,.ref t.jlo,.ref t.jjp,.ref t.jpi,.ref t.xb,.ref t.jl4,.ref t.um,.ref t.vq,.ref t.jma,.ref t.jqw,.ref t.jpb,.ref t.vc,.type "ValueError"]
structure Txt (K:W.Frag) (mg:Str -> Option Value) (t:Ad) : Prop where
 je8:Fun K "is_whole" "is_whole" jhz t.jl6 t.jmd
 jh5:mg "is_whole" = some (.ref t.jl6)
 jh7:Binds K t.jmd ["thing"] []
 ql:Fun K "is_between" "is_between" jd5 t.jhj t.jgm
 qv:mg "is_between" = some (.ref t.jhj)
 qt:Binds K t.jgm ["thing","low","high"] []
 jez:Fun K "is_order" "is_order" jh6 t.jmg t.jh1
 jhw:mg "is_order" = some (.ref t.jmg)
 jgn:jf3 K t.jh1 ["thing","purses"] ["purses"] jwg jwg
 jm4 : ∃ tk,Binds K t.jh1 ["thing","purses"] [.int 8 tk]
 je4:Fun K "place_of" "place_of" jhy t.jlr t.jl0
 jh3:mg "place_of" = some (.ref t.jlr)
 jh2:Binds K t.jl0 ["order"] []
 jhg:Fun K "are_rising" "are_rising" jbe t.jhd t.jgv
 jm3:mg "are_rising" = some (.ref t.jhd)
 jm2:Binds K t.jgv ["things","bound"] []
 jaf:Fun K "is_rising_row" "is_rising_row" jan t.jdd t.jcs
 jc1:mg "is_rising_row" = some (.ref t.jdd)
 jdt:Binds K t.jcs ["thing","bound"] []
 jbv:Fun K "is_house_count" "is_house_count" kh t.jbw t.jby
 jf4:mg "is_house_count" = some (.ref t.jbw)
 jga:Binds K t.jby ["thing"] []
 jri:Fun K "is_few" "is_few" jnp t.jqv t.jq0
 juz:mg "is_few" = some (.ref t.jqv)
 jus:Binds K t.jq0 ["thing"] []
 jj6:Fun K "outnumber" "outnumber" jj8 t.jj0 t.jj5
 jo0:mg "outnumber" = some (.ref t.jj0)
 jkz:jf3 K t.jj5 ["houses","few"] ["few"] jwg jwg
 jjc:Fun K "enough_of" "enough_of" jjm t.jjl t.jj3
 jpj:mg "enough_of" = some (.ref t.jjl)
 jkk:jf3 K t.jj3 ["houses","few"] ["few"] jwg jwg
 jll:Fun K "are_sums" "are_sums" jhx t.jlx t.jlp
 jqm:mg "are_sums" = some (.ref t.jlx)
 jp6:Binds K t.jlp ["thing"] []
 jbr:Fun K "are_first_sums" "are_first_sums" gy t.jbu t.jbm
 jgg:mg "are_first_sums" = some (.ref t.jbu)
 jf7:Binds K t.jbm ["thing"] []
 jd3:Fun K "__init__" "NoPurse.__init__" y4 t.jap t.uu
 jj9:jy0 K t.xb t.jap "purse"
 jec:Binds K t.uu ["self","purse"] []
 jel:Fun K "check_houses" "check_houses" jem t.jee t.jeu
 ji6:mg "check_houses" = some (.ref t.jee)
 jgh:jf3 K t.jeu ["houses","few","liars"] ["few","liars"] j3h j3h
 jev:Fun K "check_purses" "check_purses" jen t.jeh t.jek
 jiy:mg "check_purses" = some (.ref t.jeh)
 jgd:jf3 K t.jek ["sums","cheats"] ["cheats"] jwg jwg
 jge:Fun K "__init__" "Board.__init__" g6 t.kc t.jbs
 jl7:Meth K t.ja1 "__init__" t.kc
 jup:Mk K t.ja1 t.kc
 jgb:Binds K t.jbs ["self","enough"] []
 jdz:Fun K "is_carried" "Board.is_carried" yz t.uk t.jam
 yi:Meth K t.ja1 "is_carried" t.uk
 y6:Binds K t.jam ["self","thing"] []
 jpd:Fun K "put" "Board.put" jdn t.jjz t.jjd
 jmy:Meth K t.ja1 "put" t.jjz
 jpc:Binds K t.jjd ["self","house","thing"] []
 jgu:Fun K "carried" "Board.carried" jaq t.jc2 t.jdh
 jf8:Meth K t.ja1 "carried" t.jc2
 jg4:Binds K t.jdh ["self"] []
 jhb:Fun K "__init__" "Book.__init__" uw t.vg t.jcy
 jnd:Meth K t.jhu "__init__" t.vg
 j2c:Mk K t.jhu t.vg
 jhc:Binds K t.jcy ["self","sums"] []
 ji1:Fun K "is_past" "Book.is_past" ja7 t.ja9 t.jei
 jn5:Meth K t.jhu "is_past" t.ja9
 jbb:Binds K t.jei ["self","order"] []
 jld:Fun K "is_due" "Book.is_due" jal t.jce t.jfh
 jpm:Meth K t.jhu "is_due" t.jce
 jfg:Binds K t.jfh ["self","order"] []
 jko:Fun K "settle" "Book.settle" jai t.jcd t.jfd
 jpw:Meth K t.jhu "settle" t.jcd
 jkw:Binds K t.jfd ["self","order"] []
 je1:Fun K "__init__" "Keeper.__init__" vz t.we t.jax
 jks:Meth K t.j4 "__init__" t.we
 jr9:Mk K t.j4 t.we
 je5:Binds K t.jax ["self","sums"] []
 jf5:Fun K "left_of" "Keeper.left_of" ki t.jbx t.jb3
 je7:Meth K t.j4 "left_of" t.jbx
 jfx:Binds K t.jb3 ["self","purse","orders"] []
 jdc:Fun K "give_votes" "Keeper.give_votes" zy t.ku t.ky
 w4:Meth K t.j4 "give_votes" t.ku
 ue:Binds K t.ky ["self"] []
 jd1:Fun K "first_due" "Keeper.first_due" xl t.jac t.uy
 kl:Meth K t.j4 "first_due" t.jac
 jah:Binds K t.uy ["self"] []
 jiw:Fun K "go_on" "Keeper.go_on" gj t.jer t.jeq
 jg6:Meth K t.j4 "go_on" t.jer
 jiq:Binds K t.jeq ["self"] []
 jkm:Fun K "hear" "Keeper.hear" jcb t.jfk t.jfc
 ji3:Meth K t.j4 "hear" t.jfk
 jk2:Binds K t.jfc ["self","order"] []
 jde:Fun K "take_paper" "Keeper.take_paper" yj t.ud t.pe
 jb4:Meth K t.j4 "take_paper" t.ud
 jc0:Binds K t.pe ["self","order"] []
 jf2:Fun K "__init__" "World.__init__" jbl t.gz t.jb0
 jlt:Meth K t.jy "__init__" t.gz
 juk:Mk K t.jy t.gz
 jd8:jf3 K t.jb0 ["self","houses","few","sums","liars","cheats"] ["few","sums","liars","cheats"] j5i j5i
 jgs:Fun K "letters" "World.letters" uv t.jdq t.jc8
 ze:Meth K t.jy "letters" t.jdq
 xc:Binds K t.jc8 ["self"] []
 jpu:Fun K "honest" "World.honest" jba t.jir t.jin
 jn2:Meth K t.jy "honest" t.jir
 jpx:Binds K t.jin ["self"] []
 ji5:Fun K "papers" "World.papers" ja5 t.jes t.jep
 ur:Meth K t.jy "papers" t.jes
 ja4:Binds K t.jep ["self"] []
 jew:Fun K "keeper_of" "World.keeper_of" vy t.ja0 t.jat
 y9:Meth K t.jy "keeper_of" t.ja0
 wu:Binds K t.jat ["self","house"] []
 jrw:Fun K "sums" "World.sums" jea t.jm0 t.jmh
 jre:Meth K t.jy "sums" t.jm0
 jr1:Binds K t.jmh ["self","house"] []
 jg9:Fun K "settled" "World.settled" jab t.jdl t.jdv
 jf1:Meth K t.jy "settled" t.jdl
 jgo:Binds K t.jdv ["self","house"] []
 jcm:Fun K "check_purse" "World.check_purse" ym t.ub t.kq
 xp:Meth K t.jy "check_purse" t.ub
 yn:Binds K t.kq ["self","purse"] []
 jdm:Fun K "check_asker" "World.check_asker" yp t.ua t.ko
 jb6:Meth K t.jy "check_asker" t.ua
 jc5:Binds K t.ko ["self","purse","goal"] []
 jdk:Fun K "check_order" "World.check_order" yl t.ph t.uf
 gd:Meth K t.jy "check_order" t.ph
 pz:Binds K t.uf ["self","order"] []
 jd2:Fun K "check_liar" "World.check_liar" y8 t.jae t.jaj
 jc4:Meth K t.jy "check_liar" t.jae
 jd9:Binds K t.jaj ["self","liar"] []
 jb7:Fun K "write_to_all" "World.write_to_all" zj t.gb t.w6
 vf:Meth K t.jy "write_to_all" t.gb
 gc:Binds K t.w6 ["self","word","order"] []
 jfa:Fun K "put_votes" "World.put_votes" yb t.jaz t.jay
 y3:Meth K t.jy "put_votes" t.jaz
 wq:Binds K t.jay ["self","house","orders"] []
 jn4:Fun K "ask" "World.ask" jc6 t.jjj t.ji8
 jmj:Meth K t.jy "ask" t.jjj
 jou:Binds K t.ji8 ["self","purse","goal","much"] []
 jkl:Fun K "cheat" "World.cheat" jcc t.jfr t.jfq
 jik:Meth K t.jy "cheat" t.jfr
 jk6:Binds K t.jfq ["self","order","house"] []
 jpf:Fun K "lie" "World.lie" jfi t.jkf t.jkc
 jhk:Meth K t.jy "lie" t.jkf
 jjr:Binds K t.jkc ["self","liar","order"] []
 jm6:Fun K "show" "World.show" jd4 t.jgy t.jha
 jkv:Meth K t.jy "show" t.jgy
 jmv:Binds K t.jha ["self","order","house"] []
 jmw:Fun K "come" "World.come" jbd t.jgw t.jg3
 jki:Meth K t.jy "come" t.jgw
 jm7:Binds K t.jg3 ["self","at"] []
 jf6:Fun K "is_still" "World.is_still" gw t.jb2 t.jb1
 je9:Meth K t.jy "is_still" t.jb2
 jfz:Binds K t.jb1 ["self"] []
 jds:Fun K "next_number" "World.next_number" yk t.kn t.kj
 xt:Meth K t.jy "next_number" t.kn
 yo:Binds K t.kj ["self","purse"] []
 jjq:Fun K "_law_town" "_law_town" jfo t.jjy t.jkb
 jod:mg "_law_town" = some (.ref t.jjy)
 jpg:Binds K t.jkb ["_law_script"] []
 j5:Fun K "_law_draw" "_law_draw" jct t.jjs t.jjg
 j8:mg "_law_draw" = some (.ref t.jjs)
 j7:Binds K t.jjg ["_law_town_here","_law_many"] []
 zi:Fun K "_law_pick" "_law_pick" jfu t.jka t.jke
 zx:mg "_law_pick" = some (.ref t.jka)
 xf:Binds K t.jke ["_law_town_here","_law_some_here"] []
 jet:Fun K "_law_refusal" "_law_refusal" gi t.jeg t.jef
 ji7:mg "_law_refusal" = some (.ref t.jeg)
 jis:Binds K t.jef ["_law_caught"] []
 jfn:Fun K "_law_some" "_law_some" jcq t.jjx t.jj7
 jjo:mg "_law_some" = some (.ref t.jjx)
 jjn:Binds K t.jj7 ["_law_town_here","_law_size","_law_most"] []
 jhr:Fun K "_law_world" "_law_world" jbj t.jgx t.jgt
 jmo:mg "_law_world" = some (.ref t.jgx)
 jmr:Binds K t.jgt ["_law_town_here"] []
 jdi:Fun K "_law_told" "_law_told" jcr t.jj1 t.jjt
 jfw:mg "_law_told" = some (.ref t.jj1)
 jfm:Binds K t.jjt ["_law_kind","_law_world_here","_law_one","_law_two","_law_three"] []
 jcj:Fun K "_law_letter" "_law_letter" jad t.jfp t.jfe
 jfj:mg "_law_letter" = some (.ref t.jfp)
 jft:Binds K t.jfe ["_law_town_here","_law_world_here"] []
 jhv:Fun K "_law_order" "_law_order" jbg t.jhl t.jhn
 jm5:mg "_law_order" = some (.ref t.jhl)
 jml:Binds K t.jhn ["_law_town_here","_law_parts","_law_purse"] []
 joj:Fun K "_law_go" "_law_go" jg2 t.jnz t.joq
 jr3:mg "_law_go" = some (.ref t.jnz)
 jr7:Binds K t.joq ["_law_town_here","_law_parts","_law_share"] []
 jdj:Fun K "_law_all_come" "_law_all_come" vm t.jcu t.jc7
 jhp:mg "_law_all_come" = some (.ref t.jcu)
 jgl:Binds K t.jc7 ["_law_town_here","_law_world_here"] []
 j35:Fun K "law" "law" jxw t.j14 t.j1h
 j48:mg "law" = some (.ref t.j14)
 j54:Binds K t.j1h ["_law_script"] []
 jkd : ∃ tk,mg "MOST_MUCH" = some (.int 1000 tk)
 jfb : ∃ tk,mg "LAST_NUMBER" = some (.int 99 tk)
 jed : ∃ tk,mg "PAPER_LETTER" = some (.str "paper" tk)
 ja6 : ∃ tk,mg "ORDER_LETTER" = some (.str "order" tk)
 jkr : ∃ tk,mg "MOST_HOUSES" = some (.int 16 tk)
 jqj : ∃ tk,mg "MOST_FEW" = some (.int 5 tk)
 jfy : ∃ tk,mg "MOST_FIRST_SUM" = some (.int 1000 tk)
 jim : ∃ tk,mg "LEAST_PURSES" = some (.int 2 tk)
 jky : ∃ tk,mg "MOST_PURSES" = some (.int 8 tk)
 jyk:mg "Board" = some (.ref t.ja1)
 yh:Cls K t.ja1
 x9:yf K t.ja1 "enough"
 yq:yf K t.ja1 "signers"
 jvd:mg "Keeper" = some (.ref t.j4)
 jn:Cls K t.j4
 yx:yf K t.j4 "held"
 qw:yf K t.j4 "next_numbers"
 ja2:yf K t.j4 "done"
 jak:yf K t.j4 "heard"
 xy:yf K t.j4 "unvoted"
 zv:yf K t.j4 "choices"
 zr:yf K t.j4 "waiting"
 jwl:mg "World" = some (.ref t.jy)
 ji:Cls K t.jy
 vd:yf K t.jy "purses"
 jix:yf K t.jy "total"
 jej:yf K t.jy "lying"
 ya:yf K t.jy "cheating"
 zg:yf K t.jy "keepers"
 yu:yf K t.jy "board"
 gm:yf K t.jy "asked"
 qq:yf K t.jy "on_way"
 j08:mg "Book" = some (.ref t.jhu)
 j1z:Cls K t.jhu
 jr0:yf K t.jhu "held"
 jig:yf K t.jhu "next_numbers"
 jrz:yf K t.jhu "done"
 jbt:Meth K t.j4 "is_due" t.jce
 wj:Meth K t.j4 "is_past" t.ja9
 jf9:Meth K t.j4 "settle" t.jcd
 jf0:j69 K t.jhu "__init__" t.vg
 jo7:mg "NoPurse" = some (.ref t.xb)
 jnw:mg "TooMuch" = some (.ref t.vq)
 jq3:mg "NotNow" = some (.ref t.um)
 jgq:mg "PurseError" = some (.ref t.vc)
 ju4:mg "BadCut" = some (.ref t.jqw)
 jsw:mg "BadText" = some (.ref t.jpb)
 jqe:mg "BadPaper" = some (.ref t.jma)
 js4:mg "NoHouse" = some (.ref t.jpi)
 jp9:mg "NoLetter" = some (.ref t.jl4)
 jor:mg "BadNumber" = some (.ref t.jj4)
 jqn:mg "BadOrder" = some (.ref t.jlo)
 joa:mg "BadHouses" = some (.ref t.jjp)
 jqb:XIs K t.xb
 jp8:kinds K (.ref t.xb) (asked t) = [some false,some false,some false,some false,some true,some false,some false,some false,some false,some false,some false,some true,some true]
 jbh:W.kitCls K (.ref t.xb) (.ref t.vc) = some true
 jsn:j5j K t.vq
 jp5:XIs K t.vq
 jqg:kinds K (.ref t.vq) (asked t) = [some false,some false,some false,some false,some false,some false,some false,some true,some false,some false,some false,some true,some true]
 jbi:W.kitCls K (.ref t.vq) (.ref t.vc) = some true
 jva:j5j K t.um
 jsk:XIs K t.um
 jsr:kinds K (.ref t.um) (asked t) = [some false,some false,some false,some false,some false,some false,some true,some false,some false,some false,some false,some true,some true]
 jca:W.kitCls K (.ref t.um) (.ref t.vc) = some true
 jle:W.mroIn K t.vc (.type "BaseException") = some true
 j3:mg "isinstance" = none
 j0x:mg "bool" = none
 j4y:mg "int" = none
 jch:mg "len" = none
 jqp:mg "tuple" = none
 jue:mg "sorted" = none
 jlb:mg "list" = none
 j10:mg "sum" = none
 j41:mg "max" = none
 j4m:mg "all" = none
 jju:mg "range" = none
 jmt:mg "ValueError" = none
def joi (o:O) : List V:=[.int o.p,.int o.n,.int o.g,.int o.m]
def j5s (H:Hp) (x:V) (o:O) : Prop:=∃ a,x = .ref a /\ H a = some (.tup (joi o))
theorem jf {H:Hp} {p:Addr} {o:HO} (h:H p = none) : gh H (upd H p o):=λb u e=>by rw [je (jj e h)]; exact e
theorem nd {c:Prop} [Decidable c] (h:(!decide c) = true) : ¬ c:=λz=>by rw [decide_eq_true z] at h; cases h
theorem yd {c:Prop} [Decidable c] (h : ¬ (!decide c) = true) : c:=by
 by_cases z:c
 .exact z
 .exact absurd (by rw [decide_eq_false z]; rfl) h
theorem j4e {b:Bool} {A Bq:Prop} (e:b = true) (h:Bq) : if (!b) = true then A else Bq:=by subst e; exact gq h
theorem take_snoc {α : Type} {l:List α} {i:Nat} {x : α} (h:l[i]? = some x) : l.take (i + 1) = l.take i ++ [x]:=by rw [List.take_add_one,h]; rfl
theorem jtk (s:List Int) (i:Nat) (z:Int) : (s.map V.int).set i (.int z) = (s.set i z).map V.int:=by rw [map_set]
theorem get_map {s:List Int} {i:Nat} (h:i < s.length) : (s.map V.int)[i]? = some (.int (s.getD i 0)):=by
 rw [getElem?_map,getElem?_eq_getElem h,getD_eq_getElem?_getD,getElem?_eq_getElem h]
 rfl
theorem jsy {n:Nat} {i:Int} (h0 : 0 <= i) (h1:i.toNat < n) : ixN n i = some i.toNat:=by
 unfold ixN
 rw [if_pos h0,if_pos (by omega)]
theorem jiu {α : Type} {xs:List α} {i:Int} {v : α} (h0 : 0 <= i) (h:xs[i.toNat]? = some v) : atI xs i = some v:=by
 unfold atI
 rw [jsy h0 (List.getElem?_eq_some_iff.mp h).1]
 exact h
theorem jls {n:Nat} (h:n <= 1000) : n <= sizeLine:=le_of_lt (xa h)
def jpl (T R:Addr) (H:Hp) : Prop:=∃ (row:List Int) (c:Int),H T = some (.lst [.ref R,.int c]) /\ H R = some (.lst (row.map V.int)) /\ 0 < row.length
def jpr (T R:Addr) (H H':Hp) : Prop:=∀ b o,H b = some o -> b ≠ T -> b ≠ R -> H' b = some o
theorem jpl.ne {T R:Addr} {H:Hp} (h:jpl T R H) : T ≠ R:=by
 obtain ⟨row,c,h1,h2,h3⟩:=h
 refine jly h1 h2 λe=>?_
 have e':=HO.lst.inj e
 cases row with
 | nil=>cases h3
 | cons x r=>rw [map_cons] at e'; cases (List.cons.inj e').1
theorem jpl.same {T R:Addr} {H H':Hp} (h:jpl T R H) (s:gh H H') : jpl T R H':=by
 obtain ⟨row,c,h1,h2,h3⟩:=h
 exact ⟨row,c,s _ _ h1,s _ _ h2,h3⟩
theorem jpl.fresh {T R b:Addr} {H:Hp} (h:jpl T R H) (hb:H b = none) : b ≠ T /\ b ≠ R:=by
 obtain ⟨row,c,h1,h2,h3⟩:=h
 exact ⟨(jj h1 hb).symm,(jj h2 hb).symm⟩
def jtn:Sp:=λvs H Q _=>∃ i,vs = [.int i] /\ Q (.bl true) H
def jrj:Sp:=λvs H Q _=>∃ i l h,vs = [.int i,.int l,.int h] /\ Q (.bl (decide (l <= i /\ i <= h))) H
def jt2:Sp:=λvs H Q _=>∃ a o q,vs = [.ref a,.int q] /\ H a = some (.tup (joi o)) /\ Q (.bl (zc q o)) H
def jud:Sp:=λvs H Q _=>∃ a o,vs = [.ref a] /\ H a = some (.tup (joi o)) /\ zc 8 o = true /\ ∀ p,H p = none -> Q (.ref p) (upd H p (.tup [.int o.p,.int o.n]))
theorem jjf (T:Txt K mg t) : xo P w K mg base CX0 1 t.jl6 t.jmd ["thing"] jtn:=by
 refine T.je8.okB (N:=["thing"]) λ_ A _ s H vs Q E hr h=>?_
 obtain ⟨i,rfl,q⟩:=h
 refine ⟨_,(@jd _ _ _ (j6 (jmu (jq jdf rfl T.j3 boot_isinstance (@va _ _ _ _ _ (pv 0) (jg0 (v:=.ty "int") rfl T.j4y boot_int rfl) rfl rfl)) (jop (j4p (jq jdf rfl T.j3 boot_isinstance (@va _ _ _ _ _ (pv 0) (jg0 (v:=.ty "bool") rfl T.j0x boot_bool rfl) rfl rfl))))))),?_⟩
 refine ⟨_,rfl,_,_,_,true,rfl,.int _,rfl,_,rfl,jlq ?_⟩
 exact ⟨_,rfl,_,_,_,false,rfl,.int _,rfl,_,rfl,q⟩
theorem qp (T:Txt K mg t) : xo P w K mg base CX0 2 t.jhj t.jgm ["thing","low","high"] jrj:=by
 refine T.ql.okB (N:=["thing","low","high"]) λ_ A _ s H vs Q E hr h=>?_
 obtain ⟨i,l,u,rfl,q⟩:=h
 refine ⟨_,(@jd _ _ _ (j6 (jmu (jm (jjf T) hr.dn rfl T.jh5 T.je8.kp T.jh7 .nil jo (jc (pv 0) jg)) (jop (jzx jzy jzy (pv 1) (pv 0) (pv 2)))))),?_⟩
 refine ⟨_,rfl,i,rfl,_,rfl,jlq ?_⟩
 refine ⟨_,rfl,_,rfl,_,_,rfl,rfl,_,rfl,?_⟩
 refine jhq (λh1=>?_) (λh1=>?_)
 .refine ⟨_,rfl,_,_,rfl,rfl,?_⟩
  have e:decide (l <= i /\ i <= u) = decide (i <= u):=by
   have h1':=of_decide_eq_true h1
   simp [h1']
  rw [e] at q
  exact q
 .have e:decide (l <= i /\ i <= u) = false:=by
   have h1' : ¬ l <= i:=λz=>h1 (decide_eq_true z)
   simp [h1']
  rw [e] at q
  exact q
theorem jja (T:Txt K mg t) : xo P w K mg base CX0 3 t.jmg t.jh1 ["thing","purses"] jt2:=by
 refine T.jez.okA jc9 λ_ A _ s H vs Q E hr h=>?_
 obtain ⟨a,o,q,rfl,ha,k⟩:=h
 refine ⟨_,(@jb _ _ _ _ _ (zl (PW.pt (jif (ye (zo (jq jdf rfl T.j3 boot_isinstance (@va _ _ _ _ _ (pv 0) (jg0 (v:=.ty "tuple") rfl T.jqp boot_tuple rfl) rfl rfl)))) (jd7 (jx jvh (jq ju rfl T.jch boot_len (jc (pv 0) jg)) jl (qf _))))) (@jd _ _ _ (j6 jih)) qc)
  (@jb _ _ _ _ _ (jmn (pv 0) (jqd rfl (qe (jv (i:=2) jc9.nd rfl (Or.inl rfl)) (qe (jv (i:=3) jc9.nd rfl (Or.inl rfl)) (qe (jv (i:=4) jc9.nd rfl (Or.inl rfl)) (qe (jv (i:=5) jc9.nd rfl (Or.inl rfl)) jlm))))))
  (@jb _ _ _ _ _ (zl (PW.pt (jif (ye (zo (jm (qp T) hr.dn rfl T.qv T.ql.kp T.qt .nil jo (@jmm _ _ _ _ _ _ _ (pv 2) jl (zw ji0 (pv 1) jl) rfl rfl rfl)))) (jd7 (ye (zo (jm (qp T) hr.dn rfl T.qv T.ql.kp T.qt .nil jo (@jmm _ _ _ _ _ _ _ (pv 4) jl (zw ji0 (pv 1) jl) rfl rfl rfl))))))) (@jd _ _ _ (j6 jih)) qc)
  (@jd _ _ _ (j6 (jmu (jcw jvh (pv 2) (pv 4) (qf _)) (jmu (jm (qp T) hr.dn rfl T.qv T.ql.kp T.qt .nil jo (@jmm _ _ _ _ _ _ _ (pv 3) jl (zb (v:=.int 99) rfl T.jfb.choose_spec ⟨_,rfl⟩) rfl rfl rfl)) (jop (jm (qp T) hr.dn rfl T.qv T.ql.kp T.qt .nil jo (@jmm _ _ _ _ _ _ _ (pv 5) jl (zb (v:=.int 1000) rfl T.jkd.choose_spec ⟨_,rfl⟩) rfl rfl rfl)))))))))),?_⟩
 refine ⟨_,rfl,_,_,_,true,rfl,.tup ha,rfl,_,rfl,?_⟩
 refine gq ?_
 refine ⟨_,rfl,a,joi o,rfl,.inr (SqT.of ha),rfl,_,rfl,?_⟩
 refine gq ?_
 refine ⟨_,rfl,a,joi o,rfl,SqT.of ha,rfl,_,_,rfl,_,_,rfl,_,_,rfl,_,_,rfl,rfl,?_⟩
 have fin : ∀ b,b = zc q o -> Q (.bl b) H:=λb e=>e ▸ k
 refine ⟨_,rfl,_,rfl,_,_,rfl,rfl,_,_,_,rfl,_,rfl,?_⟩
 refine jhq (λh1=>fin _ ?_) (λh1=>?_)
 .have z:=nd h1
  unfold zc
  exact (decide_eq_false (λh=>z ⟨h.1,h.2.1⟩)).symm
 have z1:=yd h1
 refine ⟨_,rfl,_,rfl,_,_,rfl,rfl,_,_,_,rfl,_,rfl,?_⟩
 refine jhq (λh2=>fin _ ?_) (λh2=>?_)
 .have z:=nd h2
  unfold zc
  exact (decide_eq_false (λh=>z ⟨h.2.2.1,h.2.2.2.1⟩)).symm
 have z2:=yd h2
 refine ⟨_,rfl,_,rfl,rfl,_,rfl,?_⟩
 refine jhq (λh3=>?_) (λh3=>fin _ ?_)
 .have z3 : ¬ o.p = o.g:=by simpa using h3
  refine ⟨_,rfl,_,_,_,rfl,_,rfl,?_⟩
  refine jhq (λh4=>?_) (λh4=>fin _ ?_)
  .have z4:=of_decide_eq_true h4
   refine ⟨_,rfl,_,_,_,rfl,fin _ ?_⟩
   unfold zc
   rw [Bool.eq_iff_iff,decide_eq_true_iff,decide_eq_true_iff]
   exact ⟨λh=>⟨z1.1,z1.2,z2.1,z2.2,z3,z4.1,z4.2,h.1,h.2⟩,λh=>h.2.2.2.2.2.2.2⟩
  .have z4 : ¬ (0 <= o.n /\ o.n <= 99):=λh=>h4 (decide_eq_true h)
   unfold zc
   exact (decide_eq_false (λh=>z4 ⟨h.2.2.2.2.2.1,h.2.2.2.2.2.2.1⟩)).symm
 .have z3:o.p = o.g:=by simpa using h3
  unfold zc
  exact (decide_eq_false (λh=>h.2.2.2.2.1 z3)).symm
theorem jjk (T:Txt K mg t) : xo P w K mg base CX0 4 t.jlr t.jl0 ["order"] jud:=by
 refine T.je4.okB (N:=["order"]) λ_ A _ s H vs Q E hr h=>?_
 obtain ⟨a,o,rfl,ha,ho,k⟩:=h
 refine ⟨_,(@jb _ _ _ _ _ (zl (ye (zo (jm (jja T) hr.dn rfl T.jhw T.jez.kp T.jm4.choose_spec (show Vals [.int 8] _ from .cons ⟨_,rfl⟩ .nil) jo (jc (pv 0) jg)))) (@jd _ _ _ (jyu)) qc)
  (@jd _ _ _ (j6 (@jhm _ _ _ _ _ (@va _ _ _ _ _ (jbn jip (pv 0) jl (λ_ _=>rfl)) (jbn jip (pv 0) jl (λ_ _=>rfl)) rfl rfl))))),?_⟩
 refine ⟨_,rfl,a,o,8,rfl,ha,_,rfl,j4e ho ?_⟩
 exact ⟨_,rfl,a,joi o,0,.int o.p,rfl,rfl,SqT.of ha,rfl,_,rfl,a,joi o,1,.int o.n,rfl,rfl,SqT.of ha,rfl,zs2,λp hp=>k p hp⟩
theorem jk1 {H:Hp} {a b:Addr} {o:HO} (h:upd H a o b = none) : b ≠ a /\ H b = none:=by
 have hb:b ≠ a:=λz=>by
  rw [z,ja] at h
  cases h
 rw [je hb] at h
 exact ⟨hb,h⟩
def brd (S:Addr) (en:Int) : List (Str × V):=uh "signers" (.ref S) (uh "enough" (.int en) [])
theorem jji (S:Addr) (en:Int) : (brd S en).lookup ("signers" : Str) = some (.ref S):=by
 unfold brd
 rw [jk,if_pos rfl]
theorem jia (S:Addr) (en:Int) : (brd S en).lookup ("enough" : Str) = some (.int en):=by
 unfold brd
 rw [jk,if_neg (by decide +kernel),jk,if_pos rfl]
theorem jss (S:Addr) (en:Int) {m:Str} (h1 : ¬ m = "signers") (h2 : ¬ m = "enough") : (brd S en).lookup m = none:=by
 unfold brd
 rw [jk,if_neg h1,jk,if_neg h2]
 rfl
abbrev jdo:=List (List Key × List Int)
def jwj (H:Hp) (kv:List Key × V) (p:List Key × List Int) : Prop:=kv.1 = p.1 /\ ∃ b,kv.2 = .ref b /\ H b = some (.lst (p.2.map V.int))
structure yy (t:Ad) (H:Hp) (p dx S:Addr) (en:Int) (kvs:List (List Key × V)) (ps:jdo) : Prop where
 ob:H p = some (.ins t.ja1 dx (brd S en))
 sg:H S = some (.dT kvs)
 hs:Paired (jwj H) kvs ps
 un:(kvs.map (·.2)).Nodup
theorem yy.same {t:Ad} {H H':Hp} {p dx S:Addr} {en:Int} {kvs:List (List Key × V)} {ps:jdo} (s:gh H H') (b:yy t H p dx S en kvs ps) : yy t H' p dx S en kvs ps:=
 ⟨s _ _ b.ob,s _ _ b.sg,Paired.vb b.hs λ_ _ ⟨e,c,ec,h⟩=>⟨e,c,ec,s _ _ h⟩,b.un⟩
structure jtw (t:Ad) (H:Hp) (p dx S:Addr) (en:Int) (kvs:List (List Key × V)) (ps:jdo) : Prop where
 ob:H p = some (.ins t.ja1 dx (brd S en))
 sg:Rd H S (.dT kvs)
 hs:Paired (jwj H) kvs ps
theorem yy.rd {t:Ad} {H:Hp} {p dx S:Addr} {en:Int} {kvs:List (List Key × V)} {ps:jdo} (b:yy t H p dx S en kvs ps) : jtw t H p dx S en kvs ps:=⟨b.ob,.inl b.sg,b.hs⟩
theorem jtg {H H':Hp} {a:Addr} {u:HO} (s:gh H H') (h:Rd H a u) : Rd H' a u:=by
 rcases h with h | ⟨o,h⟩
 .exact .inl (s _ _ h)
 .exact .inr ⟨o,s _ _ h⟩
def qi:jdo -> List Key -> List Int
 | [],_=>[]
 | p :: ps,k=>if p.1 = k then p.2 else qi ps k
theorem jh0 {H:Hp} {k:List Key} : ∀ {kvs:List (List Key × V)} {ps:jdo},Paired (jwj H) kvs ps -> (jgi kvs k = none /\ qi ps k = [] /\ k ∉ ps.map (·.1)) \/ ∃ b,jgi kvs k = some (.ref b) /\ H b = some (.lst ((qi ps k).map V.int))
 | _,_,.nil=>.inl ⟨rfl,rfl,by simp⟩
 | kv :: kvs,p :: ps,.cons ⟨e,b,eb,h⟩ r=>by
  by_cases z:p.1 = k
  .refine .inr ⟨b,?_,?_⟩
   .rw [jcf (e.trans z),eb]
   .rw [qi,if_pos z]
    exact h
  .have z' : ¬ kv.1 = k:=λq=>z (e.symm.trans q)
   rw [qi,if_neg z,jci z']
   rcases jh0 r with ⟨h1,h2,h3⟩ | h
   .exact .inl ⟨h1,h2,by rw [map_cons,mem_cons]; exact λq=>q.elim (λq=>z q.symm) h3⟩
   .exact .inr h
def jx1 (t:Ad) : Sp:=λvs H Q _=>∃ x dx en,vs = [.ref x,.int en] /\ H x = some (.ins t.ja1 dx []) /\ ∀ S H',H S = none -> yy t H' x dx S en [] [] -> (∀ b o,H b = some o -> b ≠ x -> H' b = some o) -> Q .non H'
def jrx (t:Ad) : Sp:=λvs H Q _=>∃ p dx S en kvs ps b k,vs = [.ref p,.ref b] /\ jtw t H p dx S en kvs ps /\ H b = some (.tup (k.map kV)) /\ ∀ H',gh H H' -> Q (.bl (decide (en <= ((qi ps k).length:Int)))) H'
def jqu:jdo -> List Key -> Int -> jdo
 | [],k,h=>[(k,[h])]
 | p :: ps,k,h=>if p.1 = k then (p.1,p.2 ++ [h]) :: ps else p :: jqu ps k h
def NotIn (kvs:List (List Key × V)) (c:Addr) : Prop:=∀ kv ∈ kvs,kv.2 ≠ .ref c
def j3j (t:Ad) : Sp:=λvs H Q _=>∃ p dx S en kvs ps b k h,vs = [.ref p,.int h,.ref b] /\ yy t H p dx S en kvs ps /\ H b = some (.tup (k.map kV)) /\ kvs.length <= 1000 /\ (qi ps k).length <= 1000 /\
 (h ∈ qi ps k -> ∀ H',gh H H' -> Q (.bl false) H') /\
 (h ∉ qi ps k -> ∀ kvs' H',yy t H' p dx S en kvs' (jqu ps k h) -> (∀ c u,H c = some u -> c ≠ S -> NotIn kvs c -> H' c = some u) -> (∀ c u,H c = some u -> NotIn kvs c -> NotIn kvs' c) -> Q (.bl (decide (((qi ps k).length:Int) + 1 = en))) H')
theorem js9 : ∀ {ps:jdo} {k:List Key} {h:Int},k ∉ ps.map (·.1) -> jqu ps k h = ps ++ [(k,[h])]
 | [],_,_,_=>rfl
 | p :: ps,k,h,z=>by
  rw [map_cons,mem_cons] at z
  rw [jqu,if_neg (λe=>z (.inl e.symm)),js9 λe=>z (.inr e)]
  rfl
theorem qk {α β : Type} {F : α -> β -> Prop} : ∀ {xs:List α} {ys:List β} {x : α} {y : β},Paired F xs ys -> F x y -> Paired F (xs ++ [x]) (ys ++ [y])
 | _,_,_,_,.nil,h=>.cons h .nil
 | _,_,_,_,.cons a r,h=>.cons a (qk r h)
theorem jyh {k:List Key} {v:V} {kvs:List (List Key × V)} (ev:jgi kvs k = some v) : v ∈ kvs.map (·.2):=by
 unfold jgi at ev
 cases hf:kvs.find? (λkv=>decide (kv.1 = k)) with
 | none=>
  rw [hf] at ev
  cases ev
 | some q=>
  rw [hf] at ev
  have e3:q.2 = v:=Option.some.inj ev
  rw [<- e3]
  exact mem_map_of_mem (List.mem_of_find?_eq_some hf)
theorem kb {h:Int} : ∀ {hs:List Int},inV (.int h) (hs.map V.int) = decide (h ∈ hs)
 | []=>rfl
 | x :: hs=>by
  have ih:=kb (h:=h) (hs:=hs)
  simp only [map_cons,inV,any_cons] at ih ⊢
  rw [ih]
  show (x == h || decide (h ∈ hs)) = _
  by_cases e:h = x
  .simp [e]
  .have e' : ¬ x = h:=λz=>e z.symm
   simp [e,e']
theorem jbc (hs:List Int) : (hs.map V.int).all jp2 = true:=by
 rw [all_eq_true]
 intro y hy
 obtain ⟨i,_,rfl⟩:=mem_map.mp hy
 rfl
theorem jut {H:Hp} {r:Addr} (hr:H r = none) : ∀ {kvs:List (List Key × V)} {ps:jdo},Paired (jwj H) kvs ps -> V.ref r ∉ kvs.map (·.2)
 | _,_,.nil=>by simp
 | _,_,.cons ⟨_,b,eb,hb⟩ q=>by
  rw [map_cons,mem_cons]
  rintro (z | z)
  .rw [eb] at z
   cases z
   rw [hr] at hb
   cases hb
  .exact jut hr q z
theorem grown {H:Hp} {k:List Key} {h:Int} {c:Addr} : ∀ {kvs:List (List Key × V)} {ps:jdo},Paired (jwj H) kvs ps -> (kvs.map (·.2)).Nodup -> jgi kvs k = some (.ref c) -> Paired (jwj (upd H c (.lst ((qi ps k ++ [h]).map V.int)))) kvs (jqu ps k h)
 | _,_,.nil,_,e=>by cases e
 | kv :: kvs,p :: ps,.cons ⟨e,b,eb,hb⟩ r,nd,ev=>by
  rw [map_cons,nodup_cons] at nd
  have keep : ∀ {kvs:List (List Key × V)} {ps:jdo} {o:HO} {a:Addr},V.ref a ∉ kvs.map (·.2) -> Paired (jwj H) kvs ps -> Paired (jwj (upd H a o)) kvs ps:=λ{kvs ps o a} ha r=>by
   induction r with
   | nil=>exact .nil
   | cons q _ ih=>
    rw [map_cons,mem_cons] at ha
    obtain ⟨q1,b,q2,q3⟩:=q
    refine .cons ⟨q1,b,q2,?_⟩ (ih λz=>ha (.inr z))
    rw [je (λz=>ha (.inl (by rw [q2,z])))]
    exact q3
  by_cases z:p.1 = k
  .rw [jcf (e.trans z),eb] at ev
   cases ev
   rw [jqu,if_pos z,qi,if_pos z]
   rw [eb] at nd
   exact .cons ⟨e,c,eb,ja⟩ (keep nd.1 r)
  .have z' : ¬ kv.1 = k:=λq=>z (e.symm.trans q)
   rw [jci z'] at ev
   rw [jqu,if_neg z,qi,if_neg z]
   have hm:V.ref c ∈ kvs.map (·.2):=jyh ev
   have hbc:b ≠ c:=λq=>nd.1 (by rw [eb,q]; exact hm)
   exact .cons ⟨e,b,eb,by rw [je hbc]; exact hb⟩ (grown r nd.2 ev)
theorem j6k {a:Addr} {o:Obj} {kvs:List (List Key × V)} {g:TG} {ti:TT} {te:TE} {U0:St} {H0:Hp} {Q:VK} (Pv:Nat -> List V -> St -> Hp -> Prop) (h0:Pv 0 [] U0 H0)
  (hl : ∀ i ys U H,i <= kvs.length -> Pv i ys U H -> H a = some (.frz o (.dT kvs)) /\ ys.length <= sizeLine)
  (hs : ∀ i kv b ys U H,kvs[i]? = some kv -> H b = some (.tup (kv.1.map kV)) -> Pv i ys U H -> g (.ref b) U H λU2 H2=>ti U2 H2 λc H3=>if c = true then te U2 H3 λy H4=>Pv (i + 1) (ys ++ [y]) U2 H4 else Pv (i + 1) ys U2 H3)
  (hd : ∀ ys U H,Pv kvs.length ys U H -> ∀ p,H p = none -> Q (.ref p) (upd H p (.lst ys))) :
  ∃ W : Nat -> Nat -> List V -> St -> Hp -> Prop,(∃ m,W 0 m [] U0 H0) /\ ∀ i m ys U H,W i m ys U H ->
   ys.length <= sizeLine /\ (((j38 a o kvs).stop i H /\ jwo Q ys H) \/
    ((j38 a o kvs).go i H /\ ∃ N:List V -> St -> Hp -> Prop,(∀ ys' U' H',N ys' U' H' -> ∃ m',m' < m /\ W (i + 1) m' ys' U' H') /\
     ∀ x H',(j38 a o kvs).yld i H x H' -> g x U H' λU2 H2=>ti U2 H2 λb H3=>if b = true then te U2 H3 λy H4=>N (ys ++ [y]) U2 H4 else N ys U2 H3)):=by
 refine ⟨λi m ys U H=>m = kvs.length - i /\ i <= kvs.length /\ Pv i ys U H,⟨kvs.length,by simp,zero_le _,h0⟩,?_⟩
 rintro i m ys U H ⟨rfl,hi,p⟩
 obtain ⟨q,hz⟩:=hl i ys U H hi p
 refine ⟨hz,?_⟩
 by_cases hlt:i < kvs.length
 .refine .inr ⟨⟨hlt,q⟩,Pv (i + 1),λys' U' H' p'=>⟨kvs.length - (i + 1),by omega,rfl,hlt,p'⟩,λx H' y=>?_⟩
  obtain ⟨e,kv,b,ek,ex,eb⟩:=y
  subst e ex
  exact hs i kv b ys U _ ek eb p
 .have e:i = kvs.length:=by omega
  subst e
  exact .inl ⟨⟨le_refl _,q⟩,hd ys U H p⟩
abbrev xw:=List (List Int × List Int)
def jm9 (t:List Int) : List Key:=t.map Sum.inl
def thP (is:xw) : jdo:=is.map λp=>(jm9 p.1,p.2)
theorem jz3 (t:List Int) : (jm9 t).map kV = t.map V.int:=by
 unfold jm9
 rw [map_map]
 rfl
theorem jrg {t u:List Int} (h:jm9 t = jm9 u) : t = u:=(List.map_inj_right (λ_ _ z=>Sum.inl.inj z)).mp h
def xq (is:xw) (en:Int) : List (List Int):=(is.filter λp=>decide (en <= (p.2.length:Int))).map (·.1)
theorem jov : ∀ {is:xw} {i:Nat} {p:List Int × List Int},(is.map (·.1)).Nodup -> is[i]? = some p -> qi (thP is) (jm9 p.1) = p.2
 | [],_,_,_,e=>by simp at e
 | x :: is,0,p,_,e=>by
  cases Option.some.inj e
  show (if jm9 x.1 = jm9 x.1 then x.2 else _) = _
  rw [if_pos rfl]
 | x :: is,i + 1,p,nd,e=>by
  rw [map_cons,nodup_cons] at nd
  have hm:p ∈ is:=mem_of_getElem? (by simpa using e)
  show (if jm9 x.1 = jm9 p.1 then x.2 else qi (thP is) (jm9 p.1)) = _
  rw [if_neg λz=>nd.1 (by rw [jrg z]; exact mem_map_of_mem hm)]
  exact jov nd.2 (by simpa using e)
section
variable {P:Program} {w:World} {K:W.Frag} {mg:Str -> Option Value} {base:Heap} {t:Ad}
theorem ug (T:Txt K mg t) : xo P w K mg base CX0 1 t.uk t.jam ["self","thing"] (jrx t):=by
 refine T.jdz.okB (N:=["self","thing"]) λ_ A _ s H vs Q E hr h=>?_
 obtain ⟨p,dx,S,en,kvs,ps,b,k,rfl,Bq,hb,q⟩:=h
 refine ⟨_,(@jd _ _ _ (j6 (jcw j5a (jq ju rfl T.jch boot_len (jc (jy6 (jn3 hr) (qb (pv 0) rfl) (pv 1) (@zd _ _ _ _ jg) ⟨rfl,rfl,rfl,rfl⟩) jg)) (qb (pv 0) rfl) (qf _)))),?_⟩
 refine ⟨_,rfl,p,_,dx,_,_,rfl,Bq.ob,T.yh,T.yq,jji _ _,S,rfl,.inr ⟨kvs,Bq.sg⟩,_,rfl,zs0,λr hr=>?_⟩
 have s1:=jf (o:=.lst []) hr
 refine ⟨_,.inr ⟨kvs,k,b,jtg s1 Bq.sg,rfl,s1 _ _ hb,rfl⟩,?_⟩
 rcases jh0 (k:=k) Bq.hs with ⟨h1,h2,h3⟩ | ⟨c,h1,h2⟩
 .rw [h1]
  refine ⟨r,[],rfl,.inl (SqL.of ja),_,rfl,p,_,dx,_,_,rfl,s1 _ _ Bq.ob,T.yh,T.x9,jia _ _,_,_,rfl,rfl,?_⟩
  have:=q _ s1
  rw [h2] at this
  exact this
 .rw [h1]
  refine ⟨c,_,rfl,.inl (SqL.of (s1 _ _ h2)),_,rfl,p,_,dx,_,_,rfl,s1 _ _ Bq.ob,T.yh,T.x9,jia _ _,_,_,rfl,rfl,?_⟩
  rw [length_map]
  exact q _ s1
theorem jso (T:Txt K mg t) : xo P w K mg base CX0 1 t.jjz t.jjd ["self","house","thing"] (j3j t):=by
 refine T.jpd.okA jmx λ_ A _ s H vs Q E hr h=>?_
 obtain ⟨p,dx,S,en,kvs,ps,b,k,h,rfl,Bq,hb,l1,l2,q1,q2⟩:=h
 refine ⟨_,(@jb _ _ _ _ _ (j9 (i:=3) jmx.nd rfl (Or.inl rfl) (jvg (jn3 hr) (qb (pv 0) rfl) (pv 2) (@zd _ _ _ _ jg) ⟨rfl,rfl,rfl,rfl⟩))
  (@jb _ _ _ _ _ (zl (jx jk9 (pv 1) (pv 3) (by with_unfolding_all rfl)) (@jd _ _ _ (j6 jih)) qc)
  (@jb _ _ _ _ _ (qa (jij PySem.F.plainAttrs_list PySem.F.slot_list_append PySem.F.type_list_append yr (pv 3) (jc (pv 1) jg)))
  (@jd _ _ _ (j6 (jcw jnf (jq ju rfl T.jch boot_len (jc (pv 3) jg)) (qb (pv 0) rfl) (qf _))))))),?_⟩
 refine ⟨_,rfl,p,_,dx,_,_,rfl,Bq.ob,T.yh,T.yq,jji _ _,S,rfl,.inr ⟨kvs,.inl Bq.sg⟩,_,rfl,zs0,λr hr=>?_⟩
 have s1:=jf (o:=.lst []) hr
 have B1:=Bq.same s1
 refine ⟨kvs,k,b,B1.sg,rfl,s1 _ _ hb,xa l1,λv hv=>?_,λhv=>?_⟩
 .rcases jh0 (k:=k) B1.hs with ⟨z,_⟩ | ⟨c,h1,h2⟩
  .rw [hv] at z
   cases z
  cases Option.some.inj (hv.symm.trans h1)
  refine ⟨_,rfl,_,rfl,c,_,rfl,.inl (SqL.of h2),rfl,jbc _,_,rfl,jhq (λz=>?_) (λz=>?_)⟩
  .rw [if_neg (by decide),kb] at z
   exact q1 (of_decide_eq_true z) _ s1
  rw [if_neg (by decide),kb] at z
  have nh:h ∉ qi ps k:=λy=>z (decide_eq_true y)
  have pc:p ≠ c:=jly B1.ob h2 (by intro z; cases z)
  have Sc:S ≠ c:=jly B1.sg h2 (by intro z; cases z)
  refine ⟨_,rfl,.inl ⟨rfl,_,SqL.of h2⟩,_,rfl,c,_,_,rfl,rfl,h2,xa (by rw [length_map]; exact l2),?_⟩
  refine ⟨_,rfl,c,_,rfl,.inl (SqL.of ja),_,rfl,p,_,dx,_,_,rfl,(by rw [je pc]; exact B1.ob),T.yh,T.x9,jia _ _,rfl,?_⟩
  have G:=grown (h:=h) B1.hs B1.un h1
  rw [map_append] at G
  have e:decide (V.int (((qi ps k).map V.int ++ [V.int h]).length:Nat) = V.int en) = decide (((qi ps k).length:Int) + 1 = en):=by
   rw [length_append,length_map]
   simp
  have goal:=q2 nh kvs _ ⟨by rw [je pc]; exact B1.ob,by rw [je Sc]; exact B1.sg,G,B1.un⟩ λc' u hc cS cN=>by
   have ne:c' ≠ c:=λy=>by
    obtain ⟨kv,hm,ek⟩:=mem_map.mp (jyh h1)
    exact cN kv hm (by rw [ek,y])
   rw [je ne]
   exact s1 _ _ hc
  have goal:=goal λ_ _ _ z=>z
  rw [<- e] at goal
  exact goal
 .rcases jh0 (k:=k) B1.hs with ⟨_,h2,h3⟩ | ⟨c,z,_⟩
  case inr=>rw [hv] at z; cases z
  have rS:r ≠ S:=(jj Bq.sg hr).symm
  have rp:r ≠ p:=(jj Bq.ob hr).symm
  have Sp:S ≠ p:=jly Bq.sg Bq.ob (by intro z; cases z)
  rw [jnj _ hv]
  have hr1:upd (upd H r (.lst [])) S (.dT (kvs ++ [(k,.ref r)])) r = some (.lst []):=by rw [je rS]; exact ja
  refine ⟨_,rfl,_,rfl,r,[],rfl,.inl (SqL.of hr1),rfl,rfl,_,rfl,gq ?_⟩
  refine ⟨_,rfl,.inl ⟨rfl,_,SqL.of hr1⟩,_,rfl,r,[],_,rfl,rfl,hr1,(by show 0 < sizeLine; decide),?_⟩
  have ob2:upd (upd (upd H r (.lst [])) S (.dT (kvs ++ [(k,.ref r)]))) r (.lst ([] ++ [.int h])) p = some (.ins t.ja1 dx (brd S en)):=by rw [je rp.symm,je Sp.symm]; exact B1.ob
  refine ⟨_,rfl,r,_,rfl,.inl (SqL.of ja),_,rfl,p,_,dx,_,_,rfl,ob2,T.yh,T.x9,jia _ _,rfl,?_⟩
  have goal:=q2 (by rw [h2]; simp) (kvs ++ [(k,.ref r)]) (upd (upd (upd H r (.lst [])) S (.dT (kvs ++ [(k,.ref r)]))) r (.lst ([] ++ [.int h]))) ⟨ob2,by rw [je rS.symm]; exact ja,by
   rw [js9 h3]
   refine qk (Paired.vb Bq.hs λkv pp ⟨e1,c,e2,e3⟩=>⟨e1,c,e2,?_⟩) ⟨rfl,r,rfl,ja⟩
   rw [je (jj e3 hr),je (jly e3 Bq.sg (by intro z; cases z)),je (jj e3 hr)]
   exact e3,by
   rw [map_append,nodup_append]
   refine ⟨Bq.un,by simp,λx hx y hy e=>?_⟩
   rw [map_cons,map_nil,mem_singleton] at hy
   rw [e,hy] at hx
   exact jut hr Bq.hs hx⟩ λc' u hc cS _=>by
    rw [je (jj hc hr),je cS,je (jj hc hr)]
    exact hc
  have goal:=goal λc u hc z kv hm=>by
   rcases mem_append.mp hm with y | y
   .exact z kv y
   .have y':kv = (k,.ref r):=by simpa using y
    rw [y']
    intro w
    have w':r = c:=by simpa using w
    rw [<- w',hr] at hc
    cases hc
  rw [h2] at goal
  have e:decide (V.int ((([] : List V) ++ [V.int h]).length:Nat) = V.int en) = decide ((([] : List Int).length:Int) + 1 = en):=by simp
  rw [<- e] at goal
  exact goal
def jyi (H:Hp) (v:V) (t:List Int) : Prop:=∃ a,v = .ref a /\ H a = some (.tup (t.map V.int))
theorem jyi.same {H H':Hp} (s:gh H H') {v:V} {t:List Int} (h:jyi H v t) : jyi H' v t:=let ⟨a,e,q⟩:=h; ⟨a,e,s _ _ q⟩
theorem jyi.at_ {K:W.Frag} {H:Hp} {vs:List V} {ts:List (List Int)} (h:Paired (jyi H) vs ts) : juv K H vs ts:=Paired.vb h λ_ _ ⟨a,e,q⟩=>⟨a,e,SqT.of q⟩
theorem jr5 {F:V -> List Int -> Prop} {vs:List V} {ts:List (List Int)} (p:Paired F vs ts) : ∀ {ix:List Nat},(∀ i ∈ ix,i < vs.length) -> Paired F (ix.map λi=>vs.getD i .non) (ix.map λi=>ts.getD i [])
 | [],_=>.nil
 | i :: ix,h=>by
  obtain ⟨t,e,q⟩:=qh p (getElem?_eq_getElem (h i mem_cons_self))
  rw [map_cons,map_cons]
  refine .cons ?_ (jr5 p λj hj=>h j (mem_cons_of_mem _ hj))
  rw [getD_eq_getElem?_getD,getD_eq_getElem?_getD,e,getElem?_eq_getElem (h i mem_cons_self)]
  exact q
def jtj (t:Ad) : Sp:=λvs H Q _=>∃ p dx S en kvs is,vs = [.ref p] /\ yy t H p dx S en kvs (thP is) /\ kvs.length < 64 /\ (is.map (·.1)).Nodup /\ (∀ x ∈ is,x.1 ≠ []) /\
 ∀ (r:Addr) (vs':List V) (ts':List (List Int)) (H':Hp),H r = none -> gh H H' -> ts'.Perm (xq is en) -> Paired (jyi H') vs' ts' -> H' r = some (.lst vs') -> Q (.ref r) H'
theorem jng (T:Txt K mg t) : xo P w K mg base CX0 2 t.jc2 t.jdh ["self"] (jtj t):=by
 refine T.jgu.okB (N:=["self"]) λ_ A _ s H vs Q E hr h=>?_
 obtain ⟨p,dx,S,en,kvs,is,rfl,Bq,l64,nd,ne,q⟩:=h
 refine ⟨_,(@jd _ _ _ (j6 (jq jsf rfl T.jue boot_sorted (jc (jxf (ja3 (N':=["thing","self"]) (ix:=[none,some 0]) (x8 (by kernel_rfl)) rfl (j56 (qb (pv 0) rfl)) (λ_ _ _ _=>(jv (i:=0) j8x rfl (Or.inl rfl) (.inr rfl))) (λ_ _ _ _=>(jjh (zo (qd (pv 1) T.yh T.yi (ug T) hr.dn T.y6 .nil jo (jc (pv 0) jg))))) (λ_ _ _ _=>(pv 0)))) jg)))),?_⟩
 have len:kvs.length = is.length:=by
  have:=Paired.length Bq.hs
  rwa [thP,length_map] at this
 refine ⟨_,rfl,p,_,dx,_,_,rfl,Bq.ob,T.yh,T.yq,jji _ _,S,kvs,rfl,Bq.sg,λo=>j6k (λi ys U H'=>∃ v,U = [v,some (.ref p)] /\ gh (upd H S (.frz o (.dT kvs))) H' /\ Paired (jyi H') ys (xq (is.take i) en)) ⟨none,rfl,gh.refl _,.nil⟩ ?_ ?_ ?_⟩
 .rintro i ys U H' hi ⟨v,rfl,sm,tu⟩
  refine ⟨sm _ _ ja,?_⟩
  rw [Paired.length tu,xq,length_map]
  exact jls (le_trans (length_filter_le _ _) (by rw [length_take]; omega))
 .rintro i kv b ys U H' ek eb ⟨v,rfl,sm,tu⟩
  obtain ⟨pp,ep,e1,c,e2,e3⟩:=qh Bq.hs ek
  obtain ⟨x,ex,rfl⟩ : ∃ x,is[i]? = some x /\ (jm9 x.1,x.2) = pp:=by
   rw [thP,getElem?_map] at ep
   cases hx:is[i]? with
   | none=>
    rw [hx] at ep
    cases ep
   | some x=>
    rw [hx] at ep
    exact ⟨x,rfl,Option.some.inj ep⟩
  have hfr : ∀ c u,H c = some u -> c ≠ S -> H' c = some u:=λc u hc cS=>sm _ _ (by rw [je cS]; exact hc)
  have hS':H' S = some (.frz o (.dT kvs)):=sm _ _ ja
  have R:jtw t H' p dx S en kvs (thP is):=⟨hfr _ _ Bq.ob (jly Bq.ob Bq.sg (by intro z; cases z)),.inr ⟨o,hS'⟩,Paired.vb Bq.hs λ_ _ ⟨a1,c,a2,a3⟩=>⟨a1,c,a2,hfr _ _ a3 (jly a3 Bq.sg (by intro z; cases z))⟩⟩
  have hk:kv.1 = jm9 x.1:=e1
  rw [hk] at eb
  have hh:=jov nd ex
  have tk:xq (is.take (i + 1)) en = xq (is.take i) en ++ (if en <= (x.2.length:Int) then [x.1] else []):=by
   unfold xq
   rw [take_snoc ex,filter_append,map_append]
   by_cases z:en <= (x.2.length:Int) <;> simp [z]
  refine ⟨_,rfl,p,dx,_,rfl,R.ob,jss _ _ (by decide +kernel) (by decide +kernel),_,rfl,p,dx,S,en,kvs,thP is,b,jm9 x.1,rfl,R,eb,λH3 s3=>⟨_,rfl,?_⟩⟩
  rw [hh]
  have eb3:H3 b = some (.tup (x.1.map V.int)):=by
   have:=s3 _ _ eb
   rwa [jz3] at this
  refine jhq (λz=>?_) (λz=>?_)
  .refine ⟨_,rfl,_,rfl,sm.trans s3,?_⟩
   rw [tk,if_pos (of_decide_eq_true z)]
   exact qk (Paired.vb tu λ_ _ h=>h.same s3) ⟨b,rfl,eb3⟩
  .refine ⟨_,rfl,sm.trans s3,?_⟩
   rw [tk,if_neg (λy=>z (decide_eq_true y)),append_nil]
   exact Paired.vb tu λ_ _ h=>h.same s3
 .rintro ys U H' ⟨v,rfl,sm,tu⟩ r hr
  rw [len,take_length] at tu
  have hS':H' S = some (.frz o (.dT kvs)):=sm _ _ ja
  have rS:r ≠ S:=(jj hS' hr).symm
  have keepE : ∀ c u,H' c = some u -> c ≠ S -> upd (upd H' r (.lst ys)) S (.dT kvs) c = some u:=λc u hc cS=>by
   rw [je cS,je (jj hc hr)]
   exact hc
  have tu2:Paired (jyi (upd (upd H' r (.lst ys)) S (.dT kvs))) ys (xq is en):=Paired.vb tu λ_ _ ⟨a,e,h⟩=>⟨a,e,keepE _ _ h (jly h hS' (by intro z; cases z))⟩
  refine ⟨S,o,.dT kvs,(by rw [je rS.symm]; exact hS'),(λo' u' z=>?_),True.intro,r,ys,xq is en,rfl,SqL.of (by rw [je rS]; exact ja),jyi.at_ tu2,?_,?_,?_,λq' vs' ts' ix hq pix ev et _ pt _=>?_⟩
  .have z':H S = some (.frz o' u'):=z
   rw [Bq.sg] at z'
   cases z'
  .rw [Paired.length tu,xq,length_map]
   exact lt_of_le_of_lt (length_filter_le _ _) (by omega)
  .exact nd.sublist (List.filter_sublist.map _)
  .intro u hu
   obtain ⟨x,hx,rfl⟩:=mem_map.mp hu
   exact ne x (mem_filter.mp hx).1
  .obtain ⟨n1,n2⟩:=jk1 hq
   obtain ⟨n3,n4⟩:=jk1 n2
   have h0:=(jk1 (sm.free n4)).2
   have tu3:Paired (jyi (upd (upd (upd H' r (.lst ys)) S (.dT kvs)) q' (.lst vs'))) vs' ts':=by
    have:=jr5 (Paired.vb tu2 λ_ _ h=>h.same (jf (o:=.lst vs') hq)) (ix:=ix) (λi hi=>mem_range.mp (pix.mem_iff.mp hi))
    rw [ev,et]
    rw [ev] at this
    exact this
   refine q q' vs' ts' _ h0 (λc u hc=>?_) pt tu3 ja
   rw [je (jj hc h0)]
   by_cases cS:c = S
   .subst cS
    rw [ja,<- hc,Bq.sg]
   .exact keepE c u (sm _ _ (by rw [je cS]; exact hc)) cS
theorem jlj (T:Txt K mg t) : xo P w K mg base CX0 1 t.kc t.jbs ["self","enough"] (jx1 t):=by
 refine T.jge.okB (N:=["self","enough"]) λ_ A _ s H vs Q E hr h=>?_
 obtain ⟨x,dx,en,rfl,hx,k⟩:=h
 refine ⟨_,(@jb _ _ _ _ _ (jas (pv 0) (pv 1) rfl)
  (@jd _ _ _ (jas (pv 0) jrb rfl))),?_⟩
 refine ⟨_,rfl,_,rfl,x,_,dx,_,rfl,hx,T.yh,T.x9,(by show 0 < 1000; decide),λS hS=>?_⟩
 obtain ⟨Sx,hS0⟩:=jk1 hS
 refine ⟨_,rfl,x,_,dx,_,rfl,(by rw [je (Ne.symm Sx),ja]),T.yh,T.yq,(by show 1 < 1000; decide),?_⟩
 refine k S _ hS0 ⟨ja,by rw [je Sx]; exact ja,.nil,.nil⟩ λb o e bx=>?_
 rw [je bx,je (jj e hS0),je bx]
 exact e
theorem ji9 (T:Txt K mg t) : xo P w K mg base CX0 1 t.jap t.uu ["self","purse"] (λvs H Q _=>∃ x v,vs = [.ref x,v] /\ H x = some (jr8 x t.xb) /\ ∀ d,H d = none -> Q .non (upd (upd H x (jom x t.xb d)) d (.xd [("purse",v)]))):=by
 refine T.jd3.okB (N:=["self","purse"]) λ_ A _ s H vs Q E hr h=>?_
 obtain ⟨x,v,rfl,hx,k⟩:=h
 refine ⟨_,(@jd _ _ _ (j1s T.jj9 rfl (pv 0) (pv 1) rfl)),?_⟩
 exact ⟨_,rfl,_,rfl,x,rfl,hx,k⟩
theorem j6u {H:Hp} {ea d:Addr} {X Yq Zq:HO} (h:H ea = none) (hd:upd H ea X d = none) : H d = none /\ upd (upd (upd H ea X) ea Yq) d Zq ea = some Yq /\ gh H (λb=>if b = ea then none else upd (upd (upd H ea X) ea Yq) d Zq b) /\ (λb=>if b = ea then none else upd (upd (upd H ea X) ea Yq) d Zq b) d = some Zq:=by
 have n1:d ≠ ea:=λz=>by
  rw [z,ja] at hd
  cases hd
 have n2:H d = none:=by rw [je n1] at hd; exact hd
 refine ⟨n2,by rw [je (Ne.symm n1),ja],λb u e=>?_,?_⟩
 .have be:=jj e h
  show (if b = ea then none else upd (upd (upd H ea X) ea Yq) d Zq b) = some u
  rw [if_neg be,je (jj e n2),je be,je be]
  exact e
 .show (if d = ea then none else upd (upd (upd H ea X) ea Yq) d Zq d) = some Zq
  rw [if_neg n1,ja]
theorem je6 {a b:TS} {D:Ends} {U : St} {H:Hp} (h : ∀ N:St -> Hp -> Prop,(∀ U' H',b D U' H' -> N U' H') -> a { D with nx:=N } U H) : j7r a b D U H:=h _ λ_ _ x=>x
theorem ifN {c:TT} {a b:TS} {D:Ends} {U : St} {H:Hp} (h : ∀ N:Bool -> Hp -> Prop,(∀ k H',(if k = true then a D U H' else b D U H') -> N k H') -> c U H N) : j7b c a b D U H:=h _ λ_ _ x=>x
structure Kp where
 held:List Int
 gk:List Int
 done:List O
 xj:List O
 unv:List O
 cho:List ((Int × Int) × O)
 wait:List O
def gI (xs:List Int) (i:Int) : Int:=(xs[i.toNat]?).getD 0
def jau (xs:List Int) (i d:Int) : List Int:=xs.set i.toNat (gI xs i + d)
theorem jeb (xs:List Int) (i d:Int) : (jau xs i d).length = xs.length:=length_set ..
theorem j29 {xs:List Int} {i:Int} (h0 : 0 <= i) (h:i < xs.length) : xs[i.toNat]? = some (gI xs i):=by
 unfold gI
 rw [getElem?_eq_getElem (by omega)]
 rfl
def Kp.past (k:Kp) (o:O) : Bool:=decide (o.n < gI k.gk o.p)
def Kp.due (k:Kp) (o:O) : Bool:=decide (o.n = gI k.gk o.p) && decide (o.m <= gI k.held o.p)
def Kp.settle (k:Kp) (o:O) : Kp:={ k with held:=jau (jau k.held o.p (-o.m)) o.g o.m,gk:=jau k.gk o.p 1,done:=k.done ++ [o] }
def jgj (c:List ((Int × Int) × O)) (o:O) : Bool:=c.any λx=>decide (x.1 = (o.p,o.n))
abbrev Gv:=List ((Int × Int) × O) × List O × List O
def gvS (k:Kp) (o:O) (a:Gv) : Gv:=if (k.due o && !jgj a.1 o) = true then (a.1 ++ [((o.p,o.n),o)],a.2.1 ++ [o],a.2.2) else if (!k.past o && !jgj a.1 o) = true then (a.1,a.2.1,a.2.2 ++ [o]) else a
def gv (k:Kp) (os:List O) (a:Gv) : Gv:=os.foldl (λa o=>gvS k o a) a
def Kp.qo (k:Kp) : Kp × List O:=({ k with cho:=(gv k k.unv (k.cho,[],[])).1,unv:=(gv k k.unv (k.cho,[],[])).2.2 },(gv k k.unv (k.cho,[],[])).2.1)
def Kp.first (k:Kp) : Option O:=k.wait.find? k.due
def Kp.step (k:Kp) (o:O) : Kp:={ k with wait:=k.wait.erase o }.settle o
def Kp.go:Nat -> Kp -> Kp
 | 0,k=>k
 | n + 1,k=>match k.first with
  | none=>k
  | some o=>Kp.go n (k.step o)
def Kp.juc (k:Kp) : Kp:=Kp.go k.wait.length k
def Kp.jzo (k:Kp) (o:O) : Kp × List O:=if o ∈ k.xj then (k,[]) else Kp.qo { k with xj:=k.xj ++ [o],unv:=k.unv ++ [o] }
def Kp.joe (k:Kp) (o:O) : Kp × List O:=if (k.past o || decide (o ∈ k.wait)) = true then (k,[]) else (Kp.juc { k with wait:=k.wait ++ [o] }).qo
structure Kp.Ok (n:Nat) (k:Kp) : Prop where
 h:k.held.length = n
 x:k.gk.length = n
 u : ∀ o ∈ k.unv,zc n o = true
 w : ∀ o ∈ k.wait,zc n o = true
 nd:k.wait.Nodup
theorem Kp.Ok.settle {n:Nat} {k:Kp} (q:k.Ok n) (o:O) : (k.settle o).Ok n:=⟨by show (jau (jau _ _ _) _ _).length = n; rw [jeb,jeb]; exact q.h,by show (jau _ _ _).length = n; rw [jeb]; exact q.x,q.u,q.w,q.nd⟩
theorem Kp.Ok.step {n:Nat} {k:Kp} (q:k.Ok n) (o:O) : (k.step o).Ok n:=Kp.Ok.settle (k:={ k with wait:=k.wait.erase o }) ⟨q.h,q.x,q.u,λo' h=>q.w o' (mem_of_mem_erase h),q.nd.erase o⟩ o
theorem jni (k:Kp) {P:O -> Prop} : ∀ (os:List O) (a:Gv),(∀ o ∈ os,P o) -> (∀ o ∈ a.2.2,P o) -> ∀ o ∈ (gv k os a).2.2,P o
 | [],a,_,h=>h
 | o :: os,a,h1,h2=>by
  unfold gv
  rw [foldl_cons]
  refine jni k os _ (λo' h=>h1 o' (mem_cons_of_mem _ h)) ?_
  unfold gvS
  split
  .exact h2
  .split
   .intro o' h
    rcases mem_append.mp h with h | h
    .exact h2 o' h
    .rw [mem_singleton.mp h]
     exact h1 o mem_cons_self
   .exact h2
theorem Kp.Ok.qo {n:Nat} {k:Kp} (q:k.Ok n) : k.qo.1.Ok n:=⟨q.h,q.x,jni k k.unv _ q.u (λo h=>by cases h),q.w,q.nd⟩
set_option genInjectivity true in
inductive Part where
 | x | wy | ak | bd | sd | sg | kd
 | row (i:Nat)
 | kp (h:Int) (f:Nat)
 | own (i:Nat)
 deriving DecidableEq
abbrev Role:=Nat × Part
abbrev Rho:=Addr -> Option Role
def jt8:HO -> Prop
 | .tup _=>False
 | .frz _ (.tup _)=>False
 | _=>True
def OkR (Z : Rho) (H:Hp) : Prop:=∀ a r,Z a = some r -> ∃ u,H a = some u /\ jt8 u
def Fr (P:Role -> Prop) (Z : Rho) (H:Hp) (Z':Rho) (H':Hp) : Prop:=∀ a u,H a = some u -> (∀ r,Z a = some r -> ¬ P r) -> H' a = some u /\ Z' a = Z a
def jar (Z : Rho) (p:Addr) (r:Role) : Rho:=λa=>if a = p then some r else Z a
theorem za {Z : Rho} {p:Addr} {r:Role} : jar Z p r p = some r:=if_pos rfl
theorem xh {Z : Rho} {p a:Addr} {r:Role} (h:a ≠ p) : jar Z p r a = Z a:=if_neg h
theorem Fr.refl {P:Role -> Prop} {Z : Rho} {H:Hp} : Fr P Z H Z H:=λ_ _ e _=>⟨e,rfl⟩
theorem Fr.trans {P:Role -> Prop} {Z Z' Z'':Rho} {H H' H'':Hp} (f:Fr P Z H Z' H') (g:Fr P Z' H' Z'' H'') : Fr P Z H Z'' H'':=λa u e n=>by
 obtain ⟨e1,r1⟩:=f a u e n
 obtain ⟨e2,r2⟩:=g a u e1 (λr h=>n r (r1 ▸ h))
 exact ⟨e2,r2.trans r1⟩
theorem Fr.mono {P P':Role -> Prop} {Z Z':Rho} {H H':Hp} (h : ∀ r,P r -> P' r) (f:Fr P Z H Z' H') : Fr P' Z H Z' H':=λa u e n=>f a u e λr hr p=>n r hr (h r p)
theorem Fr.same {P:Role -> Prop} {Z : Rho} {H H':Hp} (s:gh H H') : Fr P Z H Z H':=λ_ _ e _=>⟨s _ _ e,rfl⟩
theorem OkR.same {Z : Rho} {H H':Hp} (s:gh H H') (o:OkR Z H) : OkR Z H':=λa r h=>let ⟨u,e,n⟩:=o a r h; ⟨u,s _ _ e,n⟩
theorem OkR.none {Z : Rho} {H:Hp} {p:Addr} (o:OkR Z H) (h:H p = none) : Z p = .none:=by
 cases e : Z p with
 | none=>rfl
 | some r=>
  obtain ⟨u,q,_⟩:=o p r e
  rw [h] at q
  cases q
theorem OkR.tup {Z : Rho} {H:Hp} {p:Addr} {xs:List V} (o:OkR Z H) (h:H p = some (.tup xs)) : Z p = .none:=by
 cases e : Z p with
 | none=>rfl
 | some r=>
  obtain ⟨u,q,n⟩:=o p r e
  rw [h] at q
  cases q
  exact n.elim
theorem Fr.put {P:Role -> Prop} {Z : Rho} {H:Hp} {a:Addr} {r:Role} {o:HO} (h : Z a = some r) (p:P r) : Fr P Z H Z (upd H a o):=λb u e n=>by
 have:b ≠ a:=λz=>n r (z ▸ h) p
 exact ⟨by rw [je this]; exact e,rfl⟩
theorem OkR.put {Z : Rho} {H:Hp} {a:Addr} {o:HO} (k:OkR Z H) (ho:autoParam (jt8 o) aP7) : OkR Z (upd H a o):=λb r h=>by
 by_cases z:b = a
 .subst z
  exact ⟨_,ja,ho⟩
 .obtain ⟨u,e,n⟩:=k b r h
  exact ⟨u,by rw [je z]; exact e,n⟩
theorem Fr.jln {P:Role -> Prop} {Z : Rho} {H:Hp} {p:Addr} {r:Role} {o:HO} (n:H p = none) : Fr P Z H (jar Z p r) (upd H p o):=λb u e _=>by
 have:b ≠ p:=jj e n
 exact ⟨by rw [je this]; exact e,xh this⟩
theorem OkR.jln {Z : Rho} {H:Hp} {p:Addr} {r:Role} {o:HO} (k:OkR Z H) (ho:autoParam (jt8 o) aP7) : OkR (jar Z p r) (upd H p o):=λb r' h=>by
 by_cases z:b = p
 .subst z
  exact ⟨_,ja,ho⟩
 .rw [xh z] at h
  obtain ⟨u,e,n⟩:=k b r' h
  exact ⟨u,by rw [je z]; exact e,n⟩
theorem ner {Z : Rho} {a b:Addr} {r r':Role} (ha : Z a = some r) (hb : Z b = some r') (n:r ≠ r') : a ≠ b:=λz=>by
 subst z
 rw [ha] at hb
 exact n (Option.some.inj hb)
theorem neu {Z : Rho} {a b:Addr} {r:Role} (ha : Z a = none) (hb : Z b = some r) : a ≠ b:=λz=>by
 subst z
 rw [ha] at hb
 cases hb
def qr (H:Hp) (Z : Rho) (x:V) (o:O) : Prop:=∃ a,x = .ref a /\ Z a = none /\ H a = some (.tup (joi o))
theorem qr.fr {P:Role -> Prop} {Z Z':Rho} {H H':Hp} {x:V} {o:O} (f:Fr P Z H Z' H') (h:qr H Z x o) : qr H' Z' x o:=by
 obtain ⟨a,e,n,q⟩:=h
 obtain ⟨q',n'⟩:=f a _ q λr hr=>by rw [n] at hr; cases hr
 exact ⟨a,e,n'.trans n,q'⟩
theorem qr.at_ {H:Hp} {Z : Rho} {x:V} {o:O} (h:qr H Z x o) : j5s H x o:=let ⟨a,e,_,q⟩:=h; ⟨a,e,q⟩
def jnh (o:O) : List Key:=[.inl o.p,.inl o.n,.inl o.g,.inl o.m]
theorem jz1 {o u:O} (h:jnh o = jnh u) : o = u:=by
 cases o
 cases u
 unfold jnh at h
 simp at h
 simp [h]
def bkf (he nn dn:Addr) : List (Str × V):=uh "done" (.ref dn) (uh "next_numbers" (.ref nn) (uh "held" (.ref he) []))
def kf (he nn dn hd un cs wt:Addr) : List (Str × V):=uh "waiting" (.ref wt) (uh "choices" (.ref cs) (uh "unvoted" (.ref un) (uh "heard" (.ref hd) (bkf he nn dn))))
abbrev kfA (A:Nat -> Addr) : List (Str × V):=kf (A 1) (A 2) (A 3) (A 4) (A 5) (A 6) (A 7)
def jrq (H:Hp) (Z : Rho) (B : Kp) (f:Nat) (u:HO) : Prop:=match f with
 | 1=>u = .lst (B.held.map V.int)
 | 2=>u = .lst (B.gk.map V.int)
 | 3=>∃ xs,u = .lst xs /\ Paired (qr H Z) xs B.done
 | 4=>∃ kvs,u = .dT kvs /\ kvs.map (·.1) = B.xj.map jnh
 | 5=>∃ xs,u = .lst xs /\ Paired (qr H Z) xs B.unv
 | 6=>∃ kvs,u = .dT kvs /\ Paired (λkv (c:(Int × Int) × O)=>kv.1 = [.inl c.1.1,.inl c.1.2] /\ qr H Z kv.2 c.2) kvs B.cho
 | 7=>∃ xs,u = .lst xs /\ Paired (qr H Z) xs B.wait
 | _=>True
theorem jrq.fr {P:Role -> Prop} {Z Z':Rho} {H H':Hp} {B : Kp} {f:Nat} {u:HO} (fr:Fr P Z H Z' H') (h:jrq H Z B f u) : jrq H' Z' B f u:=by
 unfold jrq at h ⊢
 split at h
 .exact h
 .exact h
 .obtain ⟨xs,e,p⟩:=h
  exact ⟨xs,e,Paired.vb p λ_ _=>qr.fr fr⟩
 .exact h
 .obtain ⟨xs,e,p⟩:=h
  exact ⟨xs,e,Paired.vb p λ_ _=>qr.fr fr⟩
 .obtain ⟨xs,e,p⟩:=h
  exact ⟨xs,e,Paired.vb p λ_ _ ⟨a,b⟩=>⟨a,b.fr fr⟩⟩
 .obtain ⟨xs,e,p⟩:=h
  exact ⟨xs,e,Paired.vb p λ_ _=>qr.fr fr⟩
 .trivial
structure xg (t:Ad) (H:Hp) (Z : Rho) (id:Nat) (h:Int) (k:Addr) (A:Nat -> Addr) (dk:Addr) (B : Kp) : Prop where
 ob:H k = some (.ins t.j4 dk (kfA A))
 r0 : Z k = some (id,.kp h 0)
 fl : ∀ f,1 <= f -> f <= 7 -> Z (A f) = some (id,.kp h f) /\ ∃ u,H (A f) = some u /\ jrq H Z B f u
def isK (id:Nat) (h:Int) : Role -> Prop:=λr=>∃ f,r = (id,.kp h f)
section
variable {t:Ad} {H H':Hp} {Z Z':Rho} {id:Nat} {h:Int} {k dk:Addr} {A:Nat -> Addr} {B κ':Kp} {P:Role -> Prop}
theorem xg.fr (hP : ∀ f,¬ P (id,.kp h f)) (f:Fr P Z H Z' H') (K:xg t H Z id h k A dk B) : xg t H' Z' id h k A dk B:=by
 obtain ⟨e1,r1⟩:=f _ _ K.ob λr hr=>by rw [K.r0] at hr; cases hr; exact hP 0
 refine ⟨e1,r1.trans K.r0,λi h1 h7=>?_⟩
 obtain ⟨ri,u,hu,q⟩:=K.fl i h1 h7
 obtain ⟨e2,r2⟩:=f _ _ hu λr hr=>by rw [ri] at hr; cases hr; exact hP i
 exact ⟨r2.trans ri,u,e2,q.fr f⟩
theorem xg.put (K:xg t H Z id h k A dk B) {f0:Nat} (h1 : 1 <= f0) (h7:f0 <= 7) {u0:HO} (q0:jrq (upd H (A f0) u0) Z κ' f0 u0) (hs : ∀ f u,f ≠ f0 -> jrq H Z B f u -> jrq H Z κ' f u) : xg t (upd H (A f0) u0) Z id h k A dk κ' /\ Fr (isK id h) Z H Z (upd H (A f0) u0):=by
 obtain ⟨r0,_⟩:=K.fl f0 h1 h7
 have fr:Fr (isK id h) Z H Z (upd H (A f0) u0):=Fr.put r0 ⟨f0,rfl⟩
 refine ⟨⟨?_,K.r0,λf a b=>?_⟩,fr⟩
 .rw [je (ner K.r0 r0 (by intro z; cases z; omega))]
  exact K.ob
 .obtain ⟨rf,u,hu,q⟩:=K.fl f a b
  by_cases z:f = f0
  .subst z
   exact ⟨rf,_,ja,q0⟩
  .refine ⟨rf,u,?_,(hs f u z q).fr fr⟩
   rw [je (ner rf r0 (by intro y; cases y; exact z rfl))]
   exact hu
end
theorem xn (A:Nat -> Addr) : (kfA A).lookup ("held" : Str) = some (.ref (A 1)) /\ (kfA A).lookup ("next_numbers" : Str) = some (.ref (A 2)) /\ (kfA A).lookup ("done" : Str) = some (.ref (A 3)) /\ (kfA A).lookup ("heard" : Str) = some (.ref (A 4)) /\ (kfA A).lookup ("unvoted" : Str) = some (.ref (A 5)) /\ (kfA A).lookup ("choices" : Str) = some (.ref (A 6)) /\ (kfA A).lookup ("waiting" : Str) = some (.ref (A 7)):=by
 unfold kfA kf bkf
 refine ⟨?_,?_,?_,?_,?_,?_,?_⟩ <;> repeat (first | rw [jk,if_pos rfl] | rw [jk,if_neg (by decide +kernel)])
theorem jco (A:Nat -> Addr) {m:Str} (h:autoParam (¬ m = "waiting" /\ ¬ m = "choices" /\ ¬ m = "unvoted" /\ ¬ m = "heard" /\ ¬ m = "done" /\ ¬ m = "next_numbers" /\ ¬ m = "held") aP4) : (kfA A).lookup m = none:=by
 obtain ⟨h1,h2,h3,h4,h5,h6,h7⟩:=h
 unfold kfA kf bkf
 rw [jk,if_neg h1,jk,if_neg h2,jk,if_neg h3,jk,if_neg h4,jk,if_neg h5,jk,if_neg h6,jk,if_neg h7]
 rfl
theorem xg.he {t:Ad} {H:Hp} {Z : Rho} {id:Nat} {h:Int} {k dk:Addr} {A:Nat -> Addr} {B : Kp} (K:xg t H Z id h k A dk B) : H (A 1) = some (.lst (B.held.map V.int)):=by
 obtain ⟨_,u,hu,q⟩:=K.fl 1 (by decide) (by decide)
 rw [hu,show u = _ from q]
theorem xg.nn {t:Ad} {H:Hp} {Z : Rho} {id:Nat} {h:Int} {k dk:Addr} {A:Nat -> Addr} {B : Kp} (K:xg t H Z id h k A dk B) : H (A 2) = some (.lst (B.gk.map V.int)):=by
 obtain ⟨_,u,hu,q⟩:=K.fl 2 (by decide) (by decide)
 rw [hu,show u = _ from q]
theorem xg.dn {t:Ad} {H:Hp} {Z : Rho} {id:Nat} {h:Int} {k dk:Addr} {A:Nat -> Addr} {B : Kp} (K:xg t H Z id h k A dk B) : ∃ xs,H (A 3) = some (.lst xs) /\ Paired (qr H Z) xs B.done:=by
 obtain ⟨_,u,hu,xs,rfl,q⟩:=K.fl 3 (by decide) (by decide)
 exact ⟨xs,hu,q⟩
theorem xg.hd {t:Ad} {H:Hp} {Z : Rho} {id:Nat} {h:Int} {k dk:Addr} {A:Nat -> Addr} {B : Kp} (K:xg t H Z id h k A dk B) : ∃ kvs,H (A 4) = some (.dT kvs) /\ kvs.map (·.1) = B.xj.map jnh:=by
 obtain ⟨_,u,hu,xs,rfl,q⟩:=K.fl 4 (by decide) (by decide)
 exact ⟨xs,hu,q⟩
theorem xg.un {t:Ad} {H:Hp} {Z : Rho} {id:Nat} {h:Int} {k dk:Addr} {A:Nat -> Addr} {B : Kp} (K:xg t H Z id h k A dk B) : ∃ xs,H (A 5) = some (.lst xs) /\ Paired (qr H Z) xs B.unv:=by
 obtain ⟨_,u,hu,xs,rfl,q⟩:=K.fl 5 (by decide) (by decide)
 exact ⟨xs,hu,q⟩
theorem xg.cs {t:Ad} {H:Hp} {Z : Rho} {id:Nat} {h:Int} {k dk:Addr} {A:Nat -> Addr} {B : Kp} (K:xg t H Z id h k A dk B) : ∃ kvs,H (A 6) = some (.dT kvs) /\ Paired (λkv (c:(Int × Int) × O)=>kv.1 = [.inl c.1.1,.inl c.1.2] /\ qr H Z kv.2 c.2) kvs B.cho:=by
 obtain ⟨_,u,hu,xs,rfl,q⟩:=K.fl 6 (by decide) (by decide)
 exact ⟨xs,hu,q⟩
theorem xg.wt {t:Ad} {H:Hp} {Z : Rho} {id:Nat} {h:Int} {k dk:Addr} {A:Nat -> Addr} {B : Kp} (K:xg t H Z id h k A dk B) : ∃ xs,H (A 7) = some (.lst xs) /\ Paired (qr H Z) xs B.wait:=by
 obtain ⟨_,u,hu,xs,rfl,q⟩:=K.fl 7 (by decide) (by decide)
 exact ⟨xs,hu,q⟩
theorem jsi {n:Nat} {o:O} {xs:List Int} (h:zc n o = true) (l:xs.length = n) : xs[o.p.toNat]? = some (gI xs o.p) /\ 0 <= o.p /\ o.p < n:=by
 obtain ⟨a1,a2,_⟩:=qz.mp h
 exact ⟨j29 a1 (by omega),a1,by omega⟩
theorem jdp (T:Txt K mg t) : xo P w K mg base CX0 1 t.ja9 t.jei ["self","order"] (λvs H Q _=>∃ Z id h k A dk B n q o,vs = [.ref k,.ref q] /\ xg t H Z id h k A dk B /\ H q = some (.tup (joi o)) /\ zc (n:Nat) o = true /\ B.gk.length = n /\ Q (.bl (B.past o)) H):=by
 refine T.ji1.okB (N:=["self","order"]) λ_ A _ s H vs Q E hr h=>?_
 obtain ⟨Z,id,h,k,A',dk,B,n,q,o,rfl,R,hq,ho,l,g⟩:=h
 refine ⟨_,(@jd _ _ _ (j6 (jcw jyz (jbn jip (pv 1) jl (λ_ _=>rfl)) (jbn pf (qb (pv 0) rfl) (jbn jip (pv 1) jl (λ_ _=>rfl)) (λ_ _=>rfl)) (qf _)))),?_⟩
 obtain ⟨e,p0,_⟩:=jsi ho l
 refine ⟨_,rfl,q,joi o,1,.int o.n,rfl,rfl,SqT.of hq,rfl,_,rfl,k,_,dk,_,_,rfl,R.ob,T.jn,T.qw,(xn A').2.1,_,rfl,q,joi o,0,.int o.p,rfl,rfl,SqT.of hq,rfl,A' 2,_,o.p,.int (gI B.gk o.p),rfl,rfl,SqL.of R.nn,jiu p0 (by rw [getElem?_map,e]; rfl),_,_,rfl,rfl,g⟩
theorem jit (T:Txt K mg t) : xo P w K mg base CX0 1 t.jce t.jfh ["self","order"] (λvs H Q _=>∃ Z id h k A dk B n q o,vs = [.ref k,.ref q] /\ xg t H Z id h k A dk B /\ H q = some (.tup (joi o)) /\ zc (n:Nat) o = true /\ B.gk.length = n /\ B.held.length = n /\ Q (.bl (B.due o)) H):=by
 refine T.jld.okA gr λ_ A _ s H vs Q E hr h=>?_
 obtain ⟨Z,id,h,k,A',dk,B,n,q,o,rfl,R,hq,ho,l,l2,g⟩:=h
 refine ⟨_,(@jb _ _ _ _ _ (jmn (pv 1) (jqd rfl (qe (jv (i:=2) gr.nd rfl (Or.inl rfl)) (qe (jv (i:=3) gr.nd rfl (Or.inl rfl)) (qe (jv (i:=4) gr.nd rfl (Or.inl rfl)) (qe (jv (i:=5) gr.nd rfl (Or.inl rfl)) jlm))))))
  (@jd _ _ _ (j6 (jmu (jcw jnf (pv 3) (jbn pf (qb (pv 0) rfl) (pv 2) (λ_ _=>rfl)) (qf _)) (jop (jcw jzy (pv 5) (jbn pf (qb (pv 0) rfl) (pv 2) (λ_ _=>rfl)) (qf _))))))),?_⟩
 obtain ⟨e,p0,_⟩:=jsi ho l
 obtain ⟨e2,_,_⟩:=jsi ho l2
 refine ⟨_,rfl,q,_,rfl,SqT.of hq,rfl,_,_,rfl,_,_,rfl,_,_,rfl,_,_,rfl,rfl,?_⟩
 refine ⟨_,rfl,_,rfl,k,_,dk,_,_,rfl,R.ob,T.jn,T.qw,(xn A').2.1,_,rfl,A' 2,_,o.p,.int (gI B.gk o.p),rfl,rfl,SqL.of R.nn,jiu p0 (by rw [getElem?_map,e]; rfl),rfl,_,rfl,?_⟩
 unfold Kp.due at g
 refine jhq (λz=>?_) (λz=>?_)
 .refine ⟨_,rfl,_,rfl,k,_,dk,_,_,rfl,R.ob,T.jn,T.yx,(xn A').1,_,rfl,A' 1,_,o.p,.int (gI B.held o.p),rfl,rfl,SqL.of R.he,jiu p0 (by rw [getElem?_map,e2]; rfl),_,_,rfl,rfl,?_⟩
  rw [decide_eq_true (V.int.inj (of_decide_eq_true z)),Bool.true_and] at g
  exact g
 .rw [decide_eq_false (λy=>z (by rw [y]; exact decide_eq_true rfl)),Bool.false_and] at g
  exact g
theorem jp0 (T:Txt K mg t) : xo P w K mg base CX0 1 t.jcd t.jfd ["self","order"] (λvs H Q _=>∃ Z id h k A dk B n q o,vs = [.ref k,.ref q] /\ xg t H Z id h k A dk B /\ qr H Z (.ref q) o /\ zc (n:Nat) o = true /\ B.gk.length = n /\ B.held.length = n /\ B.done.length <= 1000 /\ OkR Z H /\
  ∀ H',xg t H' Z id h k A dk (B.settle o) -> Fr (isK id h) Z H Z H' -> OkR Z H' -> Q .non H'):=by
 refine T.jko.okA gp λ_ A _ s H vs Q E hr h=>?_
 obtain ⟨Z,id,h,k,A',dk,B,n,q,o,rfl,R,uq,ho,l,l2,ld,kr,g⟩:=h
 refine ⟨_,(@jb _ _ _ _ _ (jmn (pv 1) (jqd rfl (qe (jv (i:=2) gp.nd rfl (Or.inl rfl)) (qe (jv (i:=3) gp.nd rfl (Or.inl rfl)) (qe (jv (i:=4) gp.nd rfl (Or.inl rfl)) (qe (jv (i:=5) gp.nd rfl (Or.inl rfl)) jlm))))))
  (@jb _ _ _ _ _ (jto (qb (pv 0) rfl) (pv 2) jqt (pv 5) j3m set_list)
  (@jb _ _ _ _ _ (jto (qb (pv 0) rfl) (pv 4) jqt (pv 5) j04 set_list)
  (@jb _ _ _ _ _ (jto (qb (pv 0) rfl) (pv 2) jqt jl j04 set_list)
  (@jd _ _ _ (qa (jij PySem.F.plainAttrs_list PySem.F.slot_list_append PySem.F.type_list_append yr (qb (pv 0) rfl) (jc (pv 1) jg)))))))),?_⟩
 obtain ⟨_,eq,nq,hq⟩:=uq
 cases eq
 obtain ⟨e,p0,p1⟩:=jsi ho l
 obtain ⟨e2,_,_⟩:=jsi ho l2
 refine ⟨_,rfl,q,_,rfl,SqT.of hq,rfl,_,_,rfl,_,_,rfl,_,_,rfl,_,_,rfl,rfl,?_⟩
 obtain ⟨g0,g1⟩:=(λa=>⟨a.2.2.1,a.2.2.2.1⟩ : _ -> 0 <= o.g /\ o.g <= (n:Int) - 1) (qz.mp ho)
 refine ⟨_,rfl,k,_,dk,_,_,rfl,R.ob,T.jn,T.yx,(xn A').1,_,rfl,A' 1,_,o.p,.int (gI B.held o.p),rfl,rfl,SqL.of R.he,p0,(by rw [getElem?_map,e2]; rfl),_,rfl,_,_,rfl,rfl,A' 1,_,o.p,_,rfl,rfl,R.he,jsy p0 (by rw [length_map]; omega),?_⟩
 have m1:((B.held.map V.int).set o.p.toNat (.int (gI B.held o.p - o.m))) = (jau B.held o.p (-o.m)).map V.int:=by
  rw [jau,map_set]
  rfl
 dsimp only
 rw [m1]
 obtain ⟨R1,f1⟩:=R.put (κ':={ B with held:=jau B.held o.p (-o.m) }) (f0:=1) (by decide) (by decide) (u0:=.lst ((jau B.held o.p (-o.m)).map V.int)) rfl (λf u hf q=>by unfold jrq at q ⊢; split at q <;> first | exact q | exact absurd rfl hf)
 have kr1:=kr.put (a:=A' 1) (o:=.lst ((jau B.held o.p (-o.m)).map V.int))
 generalize upd H (A' 1) (.lst ((jau B.held o.p (-o.m)).map V.int)) = H1 at R1 f1 kr1
 have l3:(jau B.held o.p (-o.m)).length = n:=(jeb ..).trans l2
 have e3:(jau B.held o.p (-o.m))[o.g.toNat]? = some (gI (jau B.held o.p (-o.m)) o.g):=j29 g0 (by omega)
 refine ⟨_,rfl,k,_,dk,_,_,rfl,R1.ob,T.jn,T.yx,(xn A').1,_,rfl,A' 1,_,o.g,.int (gI (jau B.held o.p (-o.m)) o.g),rfl,rfl,SqL.of R1.he,g0,(by rw [getElem?_map,e3]; rfl),_,rfl,_,_,rfl,rfl,A' 1,_,o.g,_,rfl,rfl,R1.he,jsy g0 (by rw [length_map]; show o.g.toNat < (jau B.held o.p (-o.m)).length; omega),?_⟩
 have m2:((jau B.held o.p (-o.m)).map V.int).set o.g.toNat (.int (gI (jau B.held o.p (-o.m)) o.g + o.m)) = (jau (jau B.held o.p (-o.m)) o.g o.m).map V.int:=by
  rw [jau.eq_def (jau B.held o.p (-o.m)),map_set]
 dsimp only
 rw [m2]
 obtain ⟨R2,f2⟩:=R1.put (κ':={ B with held:=jau (jau B.held o.p (-o.m)) o.g o.m }) (f0:=1) (by decide) (by decide) (u0:=.lst ((jau (jau B.held o.p (-o.m)) o.g o.m).map V.int)) rfl (λf u hf q=>by unfold jrq at q ⊢; split at q <;> first | exact q | exact absurd rfl hf)
 have kr2:=kr1.put (a:=A' 1) (o:=.lst ((jau (jau B.held o.p (-o.m)) o.g o.m).map V.int))
 generalize upd H1 (A' 1) (.lst ((jau (jau B.held o.p (-o.m)) o.g o.m).map V.int)) = H2 at R2 f2 kr2
 refine ⟨_,rfl,k,_,dk,_,_,rfl,R2.ob,T.jn,T.qw,(xn A').2.1,_,rfl,A' 2,_,o.p,.int (gI B.gk o.p),rfl,rfl,SqL.of R2.nn,p0,(by rw [getElem?_map,e]; rfl),_,_,rfl,rfl,A' 2,_,o.p,_,rfl,rfl,R2.nn,jsy p0 (by rw [length_map]; show o.p.toNat < B.gk.length; rw [l]; omega),?_⟩
 have m3:(B.gk.map V.int).set o.p.toNat (.int (gI B.gk o.p + 1)) = (jau B.gk o.p 1).map V.int:=by
  rw [jau,map_set]
 dsimp only
 rw [m3]
 obtain ⟨R3,f3⟩:=R2.put (κ':={ B with held:=jau (jau B.held o.p (-o.m)) o.g o.m,gk:=jau B.gk o.p 1 }) (f0:=2) (by decide) (by decide) (u0:=.lst ((jau B.gk o.p 1).map V.int)) rfl (λf u hf q=>by unfold jrq at q ⊢; split at q <;> first | exact q | exact absurd rfl hf)
 have kr3:=kr2.put (a:=A' 2) (o:=.lst ((jau B.gk o.p 1).map V.int))
 generalize upd H2 (A' 2) (.lst ((jau B.gk o.p 1).map V.int)) = H3 at R3 f3 kr3
 obtain ⟨xs,hx,px⟩:=R3.dn
 have fr:=(f1.trans f2).trans f3
 have uq3:qr H3 Z (.ref q) o:=qr.fr fr ⟨q,rfl,nq,hq⟩
 have lx:xs.length <= 1000:=by rw [Paired.length px]; exact ld
 refine ⟨_,rfl,k,_,dk,_,_,rfl,R3.ob,T.jn,T.ja2,(xn A').2.2.1,.inl ⟨rfl,_,SqL.of hx⟩,_,rfl,A' 3,xs,.ref q,rfl,rfl,hx,xa lx,?_⟩
 obtain ⟨r3,_⟩:=R3.fl 3 (by decide) (by decide)
 obtain ⟨R4,f4⟩:=R3.put (κ':=B.settle o) (f0:=3) (by decide) (by decide) (u0:=.lst (xs ++ [.ref q])) ⟨_,rfl,qk (Paired.vb px λ_ _=>qr.fr (Fr.put (P:=isK id h) r3 ⟨3,rfl⟩)) (uq3.fr (Fr.put (P:=isK id h) r3 ⟨3,rfl⟩))⟩ (λf u hf q=>by unfold jrq at q ⊢; split at q <;> first | exact q | exact absurd rfl hf)
 exact g _ R4 (fr.trans f4) kr3.put
theorem qr.ref {H:Hp} {Z : Rho} {x:V} {o:O} (h:qr H Z x o) : ∃ q,x = .ref q /\ H q = some (.tup (joi o)):=let ⟨q,e,_,h⟩:=h; ⟨q,e,h⟩
theorem jdg (T:Txt K mg t) : xo P w K mg base CX0 2 t.jac t.uy ["self"] (λvs H Q _=>∃ Z id h k A dk B n,vs = [.ref k] /\ xg t H Z id h k A dk B /\ B.Ok n /\ ∀ v,((B.first = none /\ v = .non) \/ ∃ o,B.first = some o /\ qr H Z v o) -> Q v H):=by
 refine T.jd1.okA jcp λ_ A _ s H vs Q E hr h=>?_
 obtain ⟨Z,id,h,k,A',dk,B,n,rfl,R,hok,g⟩:=h
 refine ⟨_,(@jb _ _ _ _ _ (jk0 PassesOwn.never rfl (@jav _ _ _ _ (qb (pv 0) rfl)) (jv (i:=1) jcp.nd rfl (Or.inl rfl)) (@jd _ _ _ (zl (zo (qd (pv 0) T.jn T.jbt (jit T) hr.dn T.jfg .nil jo (jc (pv 1) jg))) (@jd _ _ _ (j6 (pv 1))) qc)))
  (@jd _ _ _ (j6 jon))),?_⟩
 obtain ⟨xs,hx,px⟩:=R.wt
 refine ⟨_,rfl,k,_,dk,_,_,rfl,R.ob,T.jn,T.zr,(xn A').2.2.2.2.2.2,A' 7,rfl,⟨_,SqL.of hx⟩,jk5 (K:=K) (a:=A' 7) (xs:=xs) (λi U H'=>∃ v,U = [some (.ref k),v] /\ H' = H /\ (B.wait.take i).find? B.due = none) ⟨none,rfl,rfl,rfl⟩ (λi U H' _ ⟨_,_,e,_⟩=>SqL.of (by rw [e]; exact hx)) ?_ ?_⟩
 .rintro i x U H' ex ⟨v,rfl,rfl,hf⟩
  obtain ⟨o,eo,uo⟩:=qh px ex
  obtain ⟨q,rfl,hq⟩:=uo.ref
  have om:o ∈ B.wait:=mem_of_getElem? eo
  refine ⟨_,rfl,k,dk,_,rfl,R.ob,jco A',_,rfl,Z,id,h,k,A',dk,B,n,q,o,rfl,R,hq,hok.w o om,hok.x,hok.h,_,rfl,?_⟩
  cases hd : B.due o with
  | true=>
   refine jlq ⟨_,rfl,g _ (.inr ⟨o,?_,uo⟩)⟩
   have:(B.wait.take (i + 1)).find? B.due = some o:=by
    rw [take_snoc eo,List.find?_append,hf,find?_cons,hd]
    rfl
   unfold Kp.first
   rw [<- List.take_append_drop (i + 1) B.wait,List.find?_append,this]
   rfl
  | false=>
   refine gq ⟨_,rfl,rfl,?_⟩
   rw [take_snoc eo,List.find?_append,hf,find?_cons,hd]
   rfl
 .rintro U H' ⟨v,rfl,rfl,hf⟩
  refine g _ (.inl ⟨?_,rfl⟩)
  rw [Paired.length px,take_length] at hf
  exact hf
theorem Fr.reR {P:Role -> Prop} {Z : Rho} {H:Hp} {a:Addr} {r r':Role} (h : Z a = some r) (p:P r) : Fr P Z H (jar Z a r') H:=λb u e n=>by
 have:b ≠ a:=λz=>n r (z ▸ h) p
 exact ⟨e,xh this⟩
theorem OkR.reR {Z : Rho} {H:Hp} {a:Addr} {r r':Role} (h : Z a = some r) (k:OkR Z H) : OkR (jar Z a r') H:=λb r'' hb=>by
 by_cases z:b = a
 .subst z
  exact k _ _ h
 .rw [xh z] at hb
  exact k _ _ hb
theorem jxl {H:Hp} {Z : Rho} {o:O} : ∀ {kvs:List (List Key × V)} {c:List ((Int × Int) × O)},Paired (λkv (c:(Int × Int) × O)=>kv.1 = [.inl c.1.1,.inl c.1.2] /\ qr H Z kv.2 c.2) kvs c -> (jgi kvs [.inl o.p,.inl o.n]).isSome = jgj c o
 | _,_,.nil=>rfl
 | kv :: kvs,c :: cs,.cons ⟨e,_⟩ r=>by
  have ih:=jxl (o:=o) r
  unfold jgj at ih ⊢
  rw [any_cons]
  by_cases z:c.1 = (o.p,o.n)
  .rw [jcf (show kv.1 = _ by rw [e,z]),decide_eq_true z]
   rfl
  .rw [jci (λy=>z ?_),ih,decide_eq_false z,Bool.false_or]
   rw [e] at y
   have y1:=(List.cons.inj y).1
   have y2:=(List.cons.inj (List.cons.inj y).2).1
   exact Prod.ext (Sum.inl.inj y1) (Sum.inl.inj y2)
theorem j8h {n:Nat} {o:O} (h:zc n o = true) (l:n <= 8) : zc 8 o = true:=by
 rw [qz] at h ⊢
 omega
theorem j2b (B : Kp) {os:List O} {i:Nat} {o:O} (e:os[i]? = some o) (a:Gv) : gv B (os.take (i + 1)) a = gvS B o (gv B (os.take i) a):=by
 unfold gv
 rw [take_snoc e,List.foldl_append]
 rfl
theorem j20 (B : Kp) (o:O) (a:Gv) : (gvS B o a).1.length <= a.1.length + 1 /\ (gvS B o a).2.1.length <= a.2.1.length + 1 /\ (gvS B o a).2.2.length <= a.2.2.length + 1:=by
 unfold gvS
 split
 .simp
 .split
  .simp
  .simp
theorem ju2 (B : Kp) : ∀ (os:List O) (a:Gv),(gv B os a).1.length <= a.1.length + os.length /\ (gv B os a).2.1.length <= a.2.1.length + os.length /\ (gv B os a).2.2.length <= a.2.2.length + os.length
 | [],a=>by simp [gv]
 | o :: os,a=>by
  have h1:=ju2 B os (gvS B o a)
  have h2:=j20 B o a
  unfold gv at h1 ⊢
  rw [foldl_cons,length_cons]
  omega
structure GvJ (t:Ad) (Z : Rho) (id:Nat) (h:Int) (k:Addr) (A:Nat -> Addr) (dk:Addr) (B : Kp) (Vt Lt:Addr) (xs:List V) (H0:Hp) (a:Gv) (H:Hp) : Prop where
 fr:Fr (isK id h) Z H0 Z H
 kr:OkR Z H
 R:xg t H Z id h k A dk { B with cho:=a.1 }
 hv : ∃ vs,H Vt = some (.lst vs) /\ Paired (qr H Z) vs a.2.1
 hl : ∃ ls,H Lt = some (.lst ls) /\ Paired (qr H Z) ls a.2.2
 hx:H (A 5) = some (.lst xs)
 px:Paired (qr H Z) xs B.unv
theorem GvJ.same {t:Ad} {Z : Rho} {id:Nat} {h:Int} {k:Addr} {A:Nat -> Addr} {dk:Addr} {B : Kp} {Vt Lt:Addr} {xs:List V} {H0 H H':Hp} {a:Gv} (s:gh H H') (J:GvJ t Z id h k A dk B Vt Lt xs H0 a H) : GvJ t Z id h k A dk B Vt Lt xs H0 a H':=by
 have f:Fr (λ_=>False) Z H Z H':=Fr.same s
 obtain ⟨vs,v1,v2⟩:=J.hv
 obtain ⟨ls,l1,l2⟩:=J.hl
 exact ⟨J.fr.trans (Fr.same s),J.kr.same s,J.R.fr (λ_ z=>z) f,⟨vs,s _ _ v1,Paired.vb v2 λ_ _=>qr.fr f⟩,⟨ls,s _ _ l1,Paired.vb l2 λ_ _=>qr.fr f⟩,s _ _ J.hx,Paired.vb J.px λ_ _=>qr.fr f⟩
theorem GvJ.putL {t:Ad} {Z : Rho} {id:Nat} {h:Int} {k:Addr} {A:Nat -> Addr} {dk:Addr} {B : Kp} {Vt Lt:Addr} {xs ls ls':List V} {H0 H:Hp} {a:Gv} {later:List O} (J:GvJ t Z id h k A dk B Vt Lt xs H0 a H) (hl:H Lt = some (.lst ls)) (rL : Z Lt = some (id,.kp h 9)) (rV : Z Vt = some (id,.kp h 8)) (LV:Lt ≠ Vt)
  (fL:Fr (isK id h) Z H Z (upd H Lt (.lst ls'))) (pl:Paired (qr (upd H Lt (.lst ls')) Z) ls' later) : GvJ t Z id h k A dk B Vt Lt xs H0 (a.1,a.2.1,later) (upd H Lt (.lst ls')):=by
 have f9:Fr (λr=>r = (id,.kp h 9)) Z H Z (upd H Lt (.lst ls')):=Fr.put rL rfl
 obtain ⟨vs,v1,v2⟩:=J.hv
 have nf : ∀ {f:Nat},f <= 7 -> ∀ {b:Addr},Z b = some (id,.kp h f) -> b ≠ Lt:=λ{f} hf {b} hb=>ner hb rL (by intro z; cases z; omega)
 refine ⟨J.fr.trans fL,J.kr.put,⟨?_,J.R.r0,λf a1 b1=>?_⟩,⟨vs,?_,Paired.vb v2 λ_ _=>qr.fr fL⟩,⟨ls',ja,pl⟩,?_,Paired.vb J.px λ_ _=>qr.fr fL⟩
 .rw [je (nf (by decide) J.R.r0)]
  exact J.R.ob
 .obtain ⟨rf,u,hu,q⟩:=J.R.fl f a1 b1
  exact ⟨rf,u,by rw [je (nf b1 rf)]; exact hu,q.fr fL⟩
 .rw [je LV.symm]
  exact v1
 .rw [je (nf (by decide) (J.R.fl 5 (by decide) (by decide)).1)]
  exact J.hx
theorem GvJ.j7w {t:Ad} {Z : Rho} {id:Nat} {h:Int} {k:Addr} {A:Nat -> Addr} {dk:Addr} {B : Kp} {Vt Lt:Addr} {xs vs':List V} {H0 H:Hp} {a:Gv} {qo:List O} (J:GvJ t Z id h k A dk B Vt Lt xs H0 a H) (rV : Z Vt = some (id,.kp h 8)) (LV:Lt ≠ Vt)
  (fL:Fr (isK id h) Z H Z (upd H Vt (.lst vs'))) (pv:Paired (qr (upd H Vt (.lst vs')) Z) vs' qo) : GvJ t Z id h k A dk B Vt Lt xs H0 (a.1,qo,a.2.2) (upd H Vt (.lst vs')):=by
 obtain ⟨ls,l1,l2⟩:=J.hl
 have nf : ∀ {f:Nat},f <= 7 -> ∀ {b:Addr},Z b = some (id,.kp h f) -> b ≠ Vt:=λ{f} hf {b} hb=>ner hb rV (by intro z; cases z; omega)
 refine ⟨J.fr.trans fL,J.kr.put,⟨?_,J.R.r0,λf a1 b1=>?_⟩,⟨vs',ja,pv⟩,⟨ls,?_,Paired.vb l2 λ_ _=>qr.fr fL⟩,?_,Paired.vb J.px λ_ _=>qr.fr fL⟩
 .rw [je (nf (by decide) J.R.r0)]
  exact J.R.ob
 .obtain ⟨rf,u,hu,q⟩:=J.R.fl f a1 b1
  exact ⟨rf,u,by rw [je (nf b1 rf)]; exact hu,q.fr fL⟩
 .rw [je LV]
  exact l1
 .rw [je (nf (by decide) (J.R.fl 5 (by decide) (by decide)).1)]
  exact J.hx
theorem GvJ.j70 {t:Ad} {Z : Rho} {id:Nat} {h:Int} {k:Addr} {A:Nat -> Addr} {dk:Addr} {B : Kp} {Vt Lt:Addr} {xs:List V} {H0 H:Hp} {a:Gv} {cho:List ((Int × Int) × O)} {kvs:List (List Key × V)} (J:GvJ t Z id h k A dk B Vt Lt xs H0 a H) (rL : Z Lt = some (id,.kp h 9)) (rV : Z Vt = some (id,.kp h 8))
  (pc:Paired (λkv (c:(Int × Int) × O)=>kv.1 = [.inl c.1.1,.inl c.1.2] /\ qr (upd H (A 6) (.dT kvs)) Z kv.2 c.2) kvs cho) : GvJ t Z id h k A dk B Vt Lt xs H0 (cho,a.2.1,a.2.2) (upd H (A 6) (.dT kvs)):=by
 obtain ⟨R,fL⟩:=J.R.put (κ':={ B with cho:=cho }) (f0:=6) (by decide) (by decide) (u0:=.dT kvs) ⟨kvs,rfl,pc⟩ (λf u hf q=>by unfold jrq at q ⊢; split at q <;> first | exact q | exact absurd rfl hf)
 obtain ⟨vs,v1,v2⟩:=J.hv
 obtain ⟨ls,l1,l2⟩:=J.hl
 have r6:=(J.R.fl 6 (by decide) (by decide)).1
 refine ⟨J.fr.trans fL,J.kr.put,R,⟨vs,?_,Paired.vb v2 λ_ _=>qr.fr fL⟩,⟨ls,?_,Paired.vb l2 λ_ _=>qr.fr fL⟩,?_,Paired.vb J.px λ_ _=>qr.fr fL⟩
 .rw [je (ner rV r6 (by intro z; cases z))]
  exact v1
 .rw [je (ner rL r6 (by intro z; cases z))]
  exact l1
 .rw [je (ner (J.R.fl 5 (by decide) (by decide)).1 r6 (by intro z; cases z))]
  exact J.hx
theorem j4w (A:Nat -> Addr) (p:Addr) : uh "unvoted" (.ref p) (kfA A) = kfA (λf=>if f = 5 then p else A f):=by
 unfold kfA kf bkf
 rfl
theorem jb5 (T:Txt K mg t) : xo P w K mg base CX0 5 t.ku t.ky ["self"] (λvs H Q _=>∃ Z id h k A dk B n,vs = [.ref k] /\ xg t H Z id h k A dk B /\ B.Ok n /\ n <= 8 /\ B.unv.length + B.cho.length <= 1000 /\ OkR Z H /\
  ∀ Z' H' A' r xs,xg t H' Z' id h k A' dk B.qo.1 -> Fr (isK id h) Z H Z' H' -> OkR Z' H' -> Z' r = some (id,.kp h 8) -> H' r = some (.lst xs) -> Paired (qr H' Z') xs B.qo.2 -> Q (.ref r) H'):=by
 refine T.jdc.okA xr λ_ A _ s H vs Q E hr h=>?_
 obtain ⟨Z,id,h,k,A',dk,B,n,rfl,R,hok,n8,ll,kr,g⟩:=h
 refine ⟨_,(@jb _ _ _ _ _ (@j9 _ _ 1 _ _ _ _ xr.nd rfl (Or.inl rfl) (@zd _ _ _ _ jg) (by rfl) (by first | exact .inl rfl | exact .inr rfl))
  (@jb _ _ _ _ _ (@j9 _ _ 2 _ _ _ _ xr.nd rfl (Or.inl rfl) (@zd _ _ _ _ jg) (by rfl) (by first | exact .inl rfl | exact .inr rfl))
  (@jb _ _ _ _ _ (jk0 PassesOwn.never rfl (@jav _ _ _ _ (qb (pv 0) rfl)) (jv (i:=3) xr.nd rfl (Or.inl rfl)) (@jd _ _ _ (zl (PW.pt (jkt (zo (qd (pv 0) T.jn T.jbt (jit T) hr.dn T.jfg .nil jo (jc (pv 3) jg))) (jg5 (ju7 (jph (jn3 hr) (jm (jjk T) hr.dn rfl T.jh3 T.je4.kp T.jh2 .nil jo (jc (pv 3) jg)) (qb (pv 0) rfl)))))) (@jb _ _ _ _ _ (jxp (jn3 hr) (qb (pv 0) rfl) (jm (jjk T) hr.dn rfl T.jh3 T.je4.kp T.jh2 .nil jo (jc (pv 3) jg)) (pv 3) rfl)
  (@jd _ _ _ (qa (jij PySem.F.plainAttrs_list PySem.F.slot_list_append PySem.F.type_list_append yr (pv 1) (jc (pv 3) jg))))) (@jd _ _ _ (zl (PW.pt (jkt (ye (zo (qd (pv 0) T.jn T.wj (jdp T) hr.dn T.jbb .nil jo (jc (pv 3) jg)))) (jg5 (ju7 (jph (jn3 hr) (jm (jjk T) hr.dn rfl T.jh3 T.je4.kp T.jh2 .nil jo (jc (pv 3) jg)) (qb (pv 0) rfl)))))) (@jd _ _ _ (qa (jij PySem.F.plainAttrs_list PySem.F.slot_list_append PySem.F.type_list_append yr (pv 2) (jc (pv 3) jg)))) qc)))))
  (@jb _ _ _ _ _ (jas (pv 0) (pv 2) rfl)
  (@jd _ _ _ (j6 (pv 1))))))),?_⟩
 refine ⟨zs0,λVt nV=>⟨zs0,λLt nL=>?_⟩⟩
 have kf0 : ∀ f,isK id h (id,.kp h f):=λf=>⟨f,rfl⟩
 have f1:Fr (isK id h) Z H (jar Z Vt (id,.kp h 8)) (upd H Vt (.lst [])):=Fr.jln nV
 have kr1:OkR (jar Z Vt (id,.kp h 8)) (upd H Vt (.lst [])):=kr.jln
 have f2:Fr (isK id h) (jar Z Vt (id,.kp h 8)) (upd H Vt (.lst [])) (jar (jar Z Vt (id,.kp h 8)) Lt (id,.kp h 9)) (upd (upd H Vt (.lst [])) Lt (.lst [])):=Fr.jln nL
 have kr2:OkR (jar (jar Z Vt (id,.kp h 8)) Lt (id,.kp h 9)) (upd (upd H Vt (.lst [])) Lt (.lst [])):=kr1.jln
 generalize eZ : jar (jar Z Vt (id,.kp h 8)) Lt (id,.kp h 9) = Z2 at f2 kr2
 have f12:=f1.trans f2
 have LV:Lt ≠ Vt:=λz=>by
  rw [z,ja] at nL
  cases nL
 have rV : Z2 Vt = some (id,.kp h 8):=by rw [<- eZ,xh LV.symm,za]
 have rL : Z2 Lt = some (id,.kp h 9):=by rw [<- eZ,za]
 have hV2:upd (upd H Vt (.lst [])) Lt (.lst []) Vt = some (.lst []):=by rw [je LV.symm,ja]
 have hL2:upd (upd H Vt (.lst [])) Lt (.lst []) Lt = some (.lst []):=ja
 have R2:xg t (upd (upd H Vt (.lst [])) Lt (.lst [])) Z2 id h k A' dk B:=by
  have s2:=(jf (o:=.lst []) nV).trans (jf (o:=.lst []) nL)
  have nv2 : ∀ {a:Addr} {u:HO},H a = some u -> Z2 a = Z a:=λ{a u} e=>by
   rw [<- eZ,xh (jj ((jf (o:=.lst []) nV) _ _ e) nL),xh (jj e nV)]
  refine ⟨s2 _ _ R.ob,(nv2 R.ob).trans R.r0,λf a b=>?_⟩
  obtain ⟨rf,u,hu,q⟩:=R.fl f a b
  exact ⟨(nv2 hu).trans rf,u,s2 _ _ hu,q.fr f12⟩
 generalize upd (upd H Vt (.lst [])) Lt (.lst []) = H2 at f12 kr2 R2 hV2 hL2
 obtain ⟨xs,hx,px⟩:=R2.un
 have lx:xs.length = B.unv.length:=Paired.length px
 clear f1 f2 kr1 nV nL R
 refine ⟨_,rfl,k,_,dk,_,_,rfl,R2.ob,T.jn,T.xy,(xn A').2.2.2.2.1,A' 5,rfl,⟨_,SqL.of hx⟩,jk5 (K:=K) (a:=A' 5) (xs:=xs) (λi U H'=>∃ v,U = [some (.ref k),some (.ref Vt),some (.ref Lt),v] /\ GvJ t Z2 id h k A' dk B Vt Lt xs H2 (gv B (B.unv.take i) (B.cho,[],[])) H') ⟨none,rfl,Fr.refl,kr2,R2,⟨_,hV2,.nil⟩,⟨_,hL2,.nil⟩,hx,px⟩ (λi U H' _ ⟨_,_,J⟩=>SqL.of J.hx) ?_ ?_⟩
 .rintro i x U H3 ex ⟨v,rfl,J⟩
  obtain ⟨o,eo,uo⟩:=qh J.px ex
  have gl:=ju2 B (B.unv.take i) (B.cho,[],[])
  have li:(B.unv.take i).length <= B.unv.length:=by rw [length_take]; omega
  rw [j2b B eo]
  generalize gv B (B.unv.take i) (B.cho,[],[]) = a at J gl ⊢
  obtain ⟨q,rfl,hq⟩:=uo.ref
  have om:o ∈ B.unv:=mem_of_getElem? eo
  have ho:=hok.u o om
  have ho8:=j8h ho n8
  obtain ⟨kvs,hk,pk⟩:=J.R.cs
  have ck:=jxl (o:=o) pk
  refine ⟨_,rfl,k,dk,_,rfl,J.R.ob,jco A',_,rfl,Z2,id,h,k,A',dk,_,n,q,o,rfl,J.R,hq,ho,hok.x,hok.h,_,rfl,?_⟩
  show (if B.due o = true then _ else _)
  have Js:gh H3 H3:=gh.refl _
  cases hd : B.due o with
  | false=>
   refine gq ?_
   have no : ¬ (B.due o && !jgj a.1 o) = true:=by simp [hd]
   refine ⟨_,rfl,k,dk,_,rfl,J.R.ob,jco A',_,rfl,Z2,id,h,k,A',dk,_,n,q,o,rfl,J.R,hq,ho,hok.x,_,rfl,?_⟩
   show (if (!B.past o) = true then _ else _)
   cases hp : B.past o with
   | true=>
    refine gq ⟨_,rfl,?_⟩
    rw [gvS,if_neg no,if_neg (by simp [hp])]
    exact J
   | false=>
    refine jlq ⟨_,rfl,q,o,rfl,hq,ho8,λp np=>?_⟩
    have sp:=jf (o:=.tup [.int o.p,.int o.n]) np
    have Jp:=J.same sp
    refine ⟨_,rfl,k,_,dk,_,_,rfl,Jp.R.ob,T.jn,T.zv,(xn A').2.2.2.2.2.1,A' 6,jgi kvs [.inl o.p,.inl o.n],rfl,.inr ⟨kvs,[.inl o.p,.inl o.n],p,.inl (sp _ _ hk),rfl,ja,rfl⟩,_,rfl,?_⟩
    rw [ck]
    cases hc:jgj a.1 o with
    | true=>
     refine gq ⟨_,rfl,?_⟩
     rw [gvS,if_neg no,if_neg (by rw [hc,Bool.not_true,Bool.and_false]; decide)]
     exact Jp
    | false=>
     obtain ⟨ls,hl,pl⟩:=Jp.hl
     have ll2:ls.length <= 1000:=by rw [Paired.length pl]; have:=gl.2.2; simp at this; omega
     refine jlq ⟨_,rfl,.inl ⟨rfl,_,SqL.of hl⟩,_,rfl,Lt,ls,.ref q,rfl,rfl,hl,xa ll2,⟨_,rfl,?_⟩⟩
     rw [gvS,if_neg no,if_pos (by rw [hp,hc]; rfl)]
     have fL:Fr (isK id h) Z2 (upd H3 p (.tup [.int o.p,.int o.n])) Z2 (upd (upd H3 p (.tup [.int o.p,.int o.n])) Lt (.lst (ls ++ [.ref q]))):=Fr.put rL ⟨9,rfl⟩
     have uq:=(uo.fr (Fr.same (P:=λ_=>False) ((Js).trans sp))).fr fL
     exact Jp.putL hl rL rV LV fL (qk (Paired.vb pl λ_ _=>qr.fr fL) uq)
  | true=>
   refine jlq ⟨_,rfl,q,o,rfl,hq,ho8,λp0 np0=>?_⟩
   have sp0:=jf (o:=.tup [.int o.p,.int o.n]) np0
   have J0:=J.same sp0
   have J0s:=sp0
   have hk0:=sp0 _ _ hk
   have hq0:=sp0 _ _ hq
   refine ⟨_,rfl,k,_,dk,_,_,rfl,J0.R.ob,T.jn,T.zv,(xn A').2.2.2.2.2.1,A' 6,jgi kvs [.inl o.p,.inl o.n],rfl,.inr ⟨kvs,[.inl o.p,.inl o.n],p0,.inl hk0,rfl,ja,rfl⟩,_,rfl,?_⟩
   rw [ck]
   cases hc0:jgj a.1 o with
   | true=>
    refine gq ?_
    have no : ¬ (B.due o && !jgj a.1 o) = true:=by rw [hc0,Bool.not_true,Bool.and_false]; decide
    generalize upd H3 p0 (.tup [.int o.p,.int o.n]) = H4 at sp0 J0 J0s hk0 hq0
    refine ⟨_,rfl,k,dk,_,rfl,J0.R.ob,jco A',_,rfl,Z2,id,h,k,A',dk,_,n,q,o,rfl,J0.R,hq0,ho,hok.x,_,rfl,?_⟩
    show (if (!B.past o) = true then _ else _)
    cases hp : B.past o with
    | true=>
     refine gq ⟨_,rfl,?_⟩
     rw [gvS,if_neg no,if_neg (by simp [hp])]
     exact J0
    | false=>
     refine jlq ⟨_,rfl,q,o,rfl,hq0,ho8,λp np=>?_⟩
     have sp:=jf (o:=.tup [.int o.p,.int o.n]) np
     have Jp:=J0.same sp
     refine ⟨_,rfl,k,_,dk,_,_,rfl,Jp.R.ob,T.jn,T.zv,(xn A').2.2.2.2.2.1,A' 6,jgi kvs [.inl o.p,.inl o.n],rfl,.inr ⟨kvs,[.inl o.p,.inl o.n],p,.inl (sp _ _ hk0),rfl,ja,rfl⟩,_,rfl,?_⟩
     rw [ck]
     cases hc:jgj a.1 o with
     | true=>
      refine gq ⟨_,rfl,?_⟩
      rw [gvS,if_neg no,if_neg (by rw [hc,Bool.not_true,Bool.and_false]; decide)]
      exact Jp
     | false=>
      obtain ⟨ls,hl,pl⟩:=Jp.hl
      have ll2:ls.length <= 1000:=by rw [Paired.length pl]; have:=gl.2.2; simp at this; omega
      refine jlq ⟨_,rfl,.inl ⟨rfl,_,SqL.of hl⟩,_,rfl,Lt,ls,.ref q,rfl,rfl,hl,xa ll2,⟨_,rfl,?_⟩⟩
      rw [gvS,if_neg no,if_pos (by rw [hp,hc]; rfl)]
      have fL:Fr (isK id h) Z2 (upd H4 p (.tup [.int o.p,.int o.n])) Z2 (upd (upd H4 p (.tup [.int o.p,.int o.n])) Lt (.lst (ls ++ [.ref q]))):=Fr.put rL ⟨9,rfl⟩
      have uq:=(uo.fr (Fr.same (P:=λ_=>False) ((J0s).trans sp))).fr fL
      exact Jp.putL hl rL rV LV fL (qk (Paired.vb pl λ_ _=>qr.fr fL) uq)
   | false=>
    refine jlq ?_
    generalize upd H3 p0 (.tup [.int o.p,.int o.n]) = H4 at sp0 J0 J0s hk0 hq0
    refine ⟨_,rfl,_,rfl,k,_,dk,_,_,rfl,J0.R.ob,T.jn,T.zv,(xn A').2.2.2.2.2.1,_,rfl,q,o,rfl,hq0,ho8,λp np=>?_⟩
    have sp:=jf (o:=.tup [.int o.p,.int o.n]) np
    have Jp:=J0.same sp
    have lk:kvs.length <= 1000:=by rw [Paired.length pk]; have:=gl.1; show a.1.length <= 1000; simp at this; omega
    have nk:jgi kvs [.inl o.p,.inl o.n] = none:=by
     cases e:jgi kvs [.inl o.p,.inl o.n] with
     | none=>rfl
     | some v=>
      rw [e,hc0] at ck
      cases ck
    refine ⟨A' 6,_,rfl,jwf.t (k:=[.inl o.p,.inl o.n]) (sp _ _ hk0) ja (xa lk),?_⟩
    rw [jnj _ nk]
    have r6:=(Jp.R.fl 6 (by decide) (by decide)).1
    have f6:Fr (isK id h) Z2 (upd H4 p (.tup [.int o.p,.int o.n])) Z2 (upd (upd H4 p (.tup [.int o.p,.int o.n])) (A' 6) (.dT (kvs ++ [([.inl o.p,.inl o.n],.ref q)]))):=Fr.put r6 ⟨6,rfl⟩
    have u4:=uo.fr (Fr.same (P:=λ_=>False) (J0s.trans sp))
    have pk4:=Paired.vb pk λ_ _ ⟨e,b⟩=>(⟨e,(b.fr (Fr.same (P:=λ_=>False) (J0s.trans sp))).fr f6⟩ : _ /\ qr _ Z2 _ _)
    have J5:=Jp.j70 rL rV (cho:=a.1 ++ [((o.p,o.n),o)]) (qk pk4 ⟨rfl,u4.fr f6⟩)
    have u5:=u4.fr f6
    generalize upd (upd H4 p (.tup [.int o.p,.int o.n])) (A' 6) (.dT (kvs ++ [([.inl o.p,.inl o.n],.ref q)])) = H5 at J5 u5
    obtain ⟨vs,hv,pv⟩:=J5.hv
    have lv:vs.length <= 1000:=by rw [Paired.length pv]; have:=gl.2.1; show a.2.1.length <= 1000; simp at this; omega
    refine ⟨_,rfl,.inl ⟨rfl,_,SqL.of hv⟩,_,rfl,Vt,vs,.ref q,rfl,rfl,hv,xa lv,⟨_,rfl,?_⟩⟩
    rw [gvS,if_pos (by simp [hd,hc0])]
    have fV:Fr (isK id h) Z2 H5 Z2 (upd H5 Vt (.lst (vs ++ [.ref q]))):=Fr.put rV ⟨8,rfl⟩
    exact J5.j7w rV LV fV (qk (Paired.vb pv λ_ _=>qr.fr fV) (u5.fr fV))
 .rintro U H3 ⟨v,rfl,J⟩
  rw [lx,take_length] at J
  obtain ⟨vs,hv,pv⟩:=J.hv
  obtain ⟨ls,hl,pl⟩:=J.hl
  refine ⟨_,rfl,_,rfl,k,_,dk,_,rfl,J.R.ob,T.jn,T.xy,(by show 7 < 1000; decide),⟨_,rfl,?_⟩⟩
  rw [j4w]
  have fo:Fr (isK id h) Z2 H3 Z2 (upd H3 k (.ins t.j4 dk (kfA λf=>if f = 5 then Lt else A' f))):=Fr.put J.R.r0 ⟨0,rfl⟩
  have fo':Fr (isK id h) Z2 (upd H3 k (.ins t.j4 dk (kfA λf=>if f = 5 then Lt else A' f))) (jar Z2 Lt (id,.kp h 5)) (upd H3 k (.ins t.j4 dk (kfA λf=>if f = 5 then Lt else A' f))):=Fr.reR rL ⟨9,rfl⟩
  have ff:=fo.trans fo'
  have kL:Lt ≠ k:=ner rL J.R.r0 (by intro z; cases z)
  have Vk:Vt ≠ k:=ner rV J.R.r0 (by intro z; cases z)
  refine g (jar Z2 Lt (id,.kp h 5)) _ (λf=>if f = 5 then Lt else A' f) Vt vs ⟨ja,?_,λf a1 b1=>?_⟩ (f12.trans (J.fr.trans ff)) ?_ ?_ ?_ (Paired.vb pv λ_ _=>qr.fr ff)
  .rw [xh kL.symm]
   exact J.R.r0
  .by_cases z:f = 5
   .subst z
    exact ⟨za,.lst ls,(by show upd H3 k _ Lt = _; rw [je kL]; exact hl),ls,rfl,Paired.vb pl λ_ _=>qr.fr ff⟩
   .obtain ⟨rf,u,hu,q⟩:=J.R.fl f a1 b1
    have nL:A' f ≠ Lt:=ner rf rL (by intro y; cases y; omega)
    show jar Z2 Lt (id,.kp h 5) (if f = 5 then Lt else A' f) = _ /\ ∃ u,upd H3 k _ (if f = 5 then Lt else A' f) = _ /\ _
    rw [if_neg z]
    refine ⟨by rw [xh nL]; exact rf,u,by rw [je (ner rf J.R.r0 (by intro y; cases y; omega))]; exact hu,?_⟩
    have q':=q.fr ff
    unfold jrq at q' ⊢
    split at q' <;> first | exact q' | exact absurd rfl z
  .exact OkR.reR rL J.kr.put
  .rw [xh LV.symm]
   exact rV
  .rw [je Vk]
   exact hv
theorem jc3 {α β : Type} {F : α -> β -> Prop} : ∀ {xs:List α} {ys:List β} {j:Nat},Paired F xs ys -> Paired F (xs.eraseIdx j) (ys.eraseIdx j)
 | _,_,_,.nil=>.nil
 | _,_,0,.cons _ t=>t
 | _,_,j + 1,.cons h t=>.cons h (jc3 t)
theorem js5 {α : Type} [DecidableEq α] (a : α) : ∀ l:List α,l.erase a = l.eraseIdx (l.idxOf a)
 | []=>rfl
 | b :: l=>by
  by_cases z:b = a
  .subst z
   simp
  .have e:(b :: l).idxOf a = l.idxOf a + 1:=by
    rw [List.idxOf_cons,show (b == a) = false by simpa using z]
    rfl
   rw [List.erase_cons_tail (by simpa using z),e,List.eraseIdx_cons_succ,js5 a l]
def yw (o:O) : List Int:=[o.p,o.n,o.g,o.m]
theorem jnr {o u:O} (h:yw o = yw u) : o = u:=by
 cases o
 cases u
 unfold yw at h
 simp at h
 simp [h]
theorem ju1 (o:O) : ∀ l:List O,(l.map yw).idxOf (yw o) = l.idxOf o
 | []=>rfl
 | b :: l=>by
  rw [map_cons]
  by_cases z:b = o
  .subst z
   simp
  .rw [List.idxOf_cons,List.idxOf_cons,show (b == o) = false by simpa using z,show (yw b == yw o) = false by simpa using λy=>z (jnr y),ju1 o l]
theorem jo4 {K:W.Frag} {H:Hp} {Z : Rho} : ∀ {xs:List V} {os:List O},Paired (qr H Z) xs os -> Paired (jyn K H) xs (os.map yw)
 | _,_,.nil=>.nil
 | _,_,.cons ⟨a,e,_,h⟩ t=>.cons ⟨a,e,SqT.of h⟩ (jo4 t)
theorem jcz {B : Kp} {o:O} (h : B.first = some o) : o ∈ B.wait:=List.mem_of_find?_eq_some h
theorem j1d {B : Kp} (h : B.first = none) : ∀ m,Kp.go m B = B
 | 0=>rfl
 | m + 1=>by
  unfold Kp.go
  rw [h]
theorem j1v {B : Kp} {o:O} (h : B.first = some o) : Kp.go B.wait.length B = Kp.go (B.step o).wait.length (B.step o):=by
 have e:(B.step o).wait.length = B.wait.length - 1:=length_erase_of_mem (jcz h)
 have p : 0 < B.wait.length:=length_pos_of_mem (jcz h)
 obtain ⟨m,hm⟩ : ∃ m,B.wait.length = m + 1:=⟨B.wait.length - 1,by omega⟩
 rw [e,hm]
 show (match B.first with | none=>B | some o=>Kp.go m (B.step o)) = _
 rw [h]
 rfl
theorem jny (T:Txt K mg t) : xo P w K mg base CX0 6 t.jer t.jeq ["self"] (λvs H Q _=>∃ Z id h k A dk B n,vs = [.ref k] /\ xg t H Z id h k A dk B /\ B.Ok n /\ n <= 8 /\ B.unv.length + B.cho.length <= 1000 /\ B.done.length + B.wait.length <= 1000 /\ OkR Z H /\
  ∀ Z' H' A' r xs,xg t H' Z' id h k A' dk B.juc.qo.1 -> Fr (isK id h) Z H Z' H' -> OkR Z' H' -> Z' r = some (id,.kp h 8) -> H' r = some (.lst xs) -> Paired (qr H' Z') xs B.juc.qo.2 -> Q (.ref r) H'):=by
 refine T.jiw.okA jcx λ_ A _ s H vs Q E hr h=>?_
 obtain ⟨Z,id,h,k,A',dk,B,n,rfl,R,hok,n8,ll,ld,kr,g⟩:=h
 refine ⟨_,(@jb _ _ _ _ _ (j9 (i:=1) jcx.nd rfl (Or.inl rfl) (xu (pv 0) T.jn T.kl (jdg T) hr.dn T.jah .nil jo))
  (@jb _ _ _ _ _ (jzc PassesOwn.never (jx j18 (pv 1) jon (qf _)) (@jb _ _ _ _ _ (qa (jij PySem.F.plainAttrs_list PySem.F.slot_list_remove PySem.F.type_list_remove (jvu hr.units) (qb (pv 0) rfl) (jc (pv 1) jg)))
  (@jb _ _ _ _ _ (qa (qd (pv 0) T.jn T.jf9 (jp0 T) hr.dn T.jkw .nil jo (jc (pv 1) jg)))
  (@jd _ _ _ (j9 (i:=1) jcx.nd rfl (Or.inl rfl) (xu (pv 0) T.jn T.kl (jdg T) hr.dn T.jah .nil jo))))))
  (@jd _ _ _ (j6 (xu (pv 0) T.jn T.w4 (jb5 T) hr.dn T.ue .nil jo))))),?_⟩
 refine ⟨_,rfl,k,dk,_,rfl,R.ob,jco A',Z,id,h,k,A',dk,B,n,rfl,R,hok,λv0 h0=>?_⟩
 refine jzr (λU H'=>∃ κ' v,U = [some (.ref k),some v] /\ xg t H' Z id h k A' dk κ' /\ κ'.Ok n /\ Fr (isK id h) Z H Z H' /\ OkR Z H' /\ Kp.go κ'.wait.length κ' = B.juc /\ κ'.unv = B.unv /\ κ'.cho = B.cho /\ κ'.done.length + κ'.wait.length <= 1000 /\ ((κ'.first = none /\ v = .non) \/ ∃ o,κ'.first = some o /\ qr H' Z v o)) (λ_ H'=>match H' (A' 7) with | some (.lst xs)=>xs.length | _=>0) ⟨B,v0,rfl,R,hok,Fr.refl,kr,rfl,rfl,rfl,ld,h0⟩ ?_ ?_
 .rintro U H1 ⟨κ',v,rfl,R1,hok1,f1,kr1,eg,eu,ec,ld1,hv⟩
  refine ⟨_,rfl,rfl,_,rfl,?_⟩
  rcases hv with ⟨e,rfl⟩ | ⟨o,e,uo⟩
  .refine gq ?_
   rw [j1d e] at eg
   subst eg
   refine ⟨_,rfl,k,dk,_,rfl,R1.ob,jco A',Z,id,h,k,A',dk,_,n,rfl,R1,hok1,n8,by rw [eu,ec]; exact ll,kr1,λZ' H' A'' r xs q1 q2 q3 q4 q5 q6=>g Z' H' A'' r xs q1 (f1.trans q2) q3 q4 q5 q6⟩
  .obtain ⟨q,rfl,nq,hq⟩:=uo
   refine jlq ?_
   obtain ⟨xs,hx,px⟩:=R1.wt
   have om:=jcz e
   refine ⟨_,rfl,k,_,dk,_,_,rfl,R1.ob,T.jn,T.zr,(xn A').2.2.2.2.2.2,.inl ⟨rfl,_,SqL.of hx⟩,_,rfl,A' 7,xs,.ref q,yw o,κ'.wait.map yw,rfl,rfl,hx,⟨q,rfl,SqT.of hq⟩,jo4 px,mem_map_of_mem om,?_⟩
   rw [ju1]
   obtain ⟨r7,_⟩:=R1.fl 7 (by decide) (by decide)
   obtain ⟨R2,f2⟩:=R1.put (κ':={ κ' with wait:=κ'.wait.erase o }) (f0:=7) (by decide) (by decide) (u0:=.lst (xs.eraseIdx (κ'.wait.idxOf o))) ⟨_,rfl,by show Paired _ _ (κ'.wait.erase o); rw [js5]; exact jc3 (Paired.vb px λ_ _=>qr.fr (Fr.put (P:=isK id h) r7 ⟨7,rfl⟩))⟩ (λf u hf q=>by unfold jrq at q ⊢; split at q <;> first | exact q | exact absurd rfl hf)
   have kr2:=kr1.put (a:=A' 7) (o:=.lst (xs.eraseIdx (κ'.wait.idxOf o)))
   have uq2:qr (upd H1 (A' 7) (.lst (xs.eraseIdx (κ'.wait.idxOf o)))) Z (.ref q) o:=qr.fr f2 ⟨q,rfl,nq,hq⟩
   have ho:=hok1.w o om
   generalize upd H1 (A' 7) (.lst (xs.eraseIdx (κ'.wait.idxOf o))) = H2 at R2 f2 kr2 uq2
   refine ⟨_,rfl,k,dk,_,rfl,R2.ob,jco A',_,rfl,Z,id,h,k,A',dk,_,n,q,o,rfl,R2,uq2,ho,hok1.x,hok1.h,by show κ'.done.length <= 1000; omega,kr2,λH3 R3 f3 kr3=>?_⟩
   have ok3:(κ'.step o).Ok n:=hok1.step o
   refine ⟨_,rfl,k,dk,_,rfl,R3.ob,jco A',Z,id,h,k,A',dk,κ'.step o,n,rfl,R3,ok3,λv1 hv1=>⟨⟨κ'.step o,v1,rfl,R3,ok3,(f1.trans f2).trans f3,kr3,by rw [<- j1v e]; exact eg,eu,ec,?_,hv1⟩,?_⟩⟩
   .have l1:(κ'.step o).done.length = κ'.done.length + 1:=by show (κ'.done ++ [o]).length = _; rw [length_append]; rfl
    have l2:(κ'.step o).wait.length = κ'.wait.length - 1:=length_erase_of_mem om
    have:=length_pos_of_mem om
    omega
   .obtain ⟨ys,hy,py⟩:=R3.wt
    have l2:(κ'.step o).wait.length = κ'.wait.length - 1:=length_erase_of_mem om
    have:=length_pos_of_mem om
    have e1:=Paired.length px
    have e2:ys.length = (κ'.step o).wait.length:=Paired.length py
    rw [hy,hx]
    show ys.length < xs.length
    omega
 .intro U H Q Q' hQ h
  obtain ⟨v,e1,e2,c,e3,q⟩:=h
  exact ⟨v,e1,e2,c,e3,hQ _ _ q⟩
theorem jsg {o:O} : ∀ {kvs:List (List Key × V)} {os:List O},kvs.map (·.1) = os.map jnh -> (jgi kvs (jnh o)).isSome = decide (o ∈ os)
 | [],[],_=>rfl
 | [],_ :: _,e=>by simp at e
 | _ :: _,[],e=>by simp at e
 | kv :: kvs,u :: os,e=>by
  rw [map_cons,map_cons] at e
  obtain ⟨e1,e2⟩:=List.cons.inj e
  have ih:=jsg (o:=o) e2
  by_cases z:u = o
  .subst z
   rw [jcf e1]
   simp
  .rw [jci (λy=>z (jz1 (e1.symm.trans y))),ih]
   simp [Ne.symm z]
theorem xg.jln {t:Ad} {H:Hp} {Z : Rho} {id:Nat} {h:Int} {k dk:Addr} {A:Nat -> Addr} {B : Kp} {r:Addr} {ro:Role} {o:HO} (R:xg t H Z id h k A dk B) (kr:OkR Z H) (nr:H r = none) : xg t (upd H r o) (jar Z r ro) id h k A dk B:=
 R.fr (P:=λ_=>False) (λ_ z=>z) (Fr.jln nr)
def jvc (t:Ad) (κ':Kp -> O -> Kp × List O) : Sp:=λvs H Q _=>∃ Z id h k A dk B n q o,vs = [.ref k,.ref q] /\ xg t H Z id h k A dk B /\ qr H Z (.ref q) o /\ B.Ok n /\ n <= 8 /\ zc (n:Nat) o = true /\ B.xj.length <= 900 /\ B.unv.length + B.cho.length <= 900 /\ B.done.length + B.wait.length <= 900 /\ OkR Z H /\
  ∀ Z' H' A' r xs,xg t H' Z' id h k A' dk (κ' B o).1 -> Fr (isK id h) Z H Z' H' -> OkR Z' H' -> Z' r = some (id,.kp h 8) -> H' r = some (.lst xs) -> Paired (qr H' Z') xs (κ' B o).2 -> Q (.ref r) H'
theorem jp1 (T:Txt K mg t) : xo P w K mg base CX0 6 t.jfk t.jfc ["self","order"] (jvc t Kp.jzo):=by
 refine T.jkm.okB (N:=["self","order"]) λ_ A _ s H vs Q E hr h=>?_
 obtain ⟨Z,id,h,k,A',dk,B,n,q,o,rfl,R,uq,hok,n8,ho,lh,lu,ld,kr,g⟩:=h
 refine ⟨_,(@jb _ _ _ _ _ (zl (ju7 (j3k (jn3 hr) (pv 1) (qb (pv 0) rfl))) (@jd _ _ _ (j6 (@zd _ _ _ _ jg))) qc)
  (@jb _ _ _ _ _ (jxp (jn3 hr) (qb (pv 0) rfl) (pv 1) jih rfl)
  (@jb _ _ _ _ _ (qa (jij PySem.F.plainAttrs_list PySem.F.slot_list_append PySem.F.type_list_append yr (qb (pv 0) rfl) (jc (pv 1) jg)))
  (@jd _ _ _ (j6 (xu (pv 0) T.jn T.w4 (jb5 T) hr.dn T.ue .nil jo)))))),?_⟩
 obtain ⟨_,eq,nq,hq⟩:=uq
 cases eq
 obtain ⟨kvs,hk,ek⟩:=R.hd
 have hv:=jsg (o:=o) ek
 refine ⟨_,rfl,_,rfl,k,_,dk,_,_,rfl,R.ob,T.jn,T.jak,(xn A').2.2.2.1,A' 4,jgi kvs (jnh o),rfl,.inr ⟨kvs,jnh o,q,.inl hk,rfl,hq,rfl⟩,_,rfl,?_⟩
 rw [hv]
 unfold Kp.jzo at g
 refine jhq (λz=>?_) (λz=>?_)
 .have z':o ∈ B.xj:=of_decide_eq_true z
  rw [if_pos z'] at g
  refine ⟨zs0,λr nr=>?_⟩
  have f1:Fr (isK id h) Z H (jar Z r (id,.kp h 8)) (upd H r (.lst [])):=Fr.jln nr
  refine g _ _ A' r [] (xg.jln R kr nr) f1 kr.jln za ja .nil
 .have z' : ¬ o ∈ B.xj:=λy=>z (decide_eq_true y)
  rw [if_neg z'] at g
  have nk:jgi kvs (jnh o) = none:=by
   cases e:jgi kvs (jnh o) with
   | none=>rfl
   | some v=>
    rw [e,decide_eq_false z'] at hv
    cases hv
  have lk:kvs.length <= 1000:=by
   have:=congrArg List.length ek
   rw [length_map,length_map] at this
   omega
  refine ⟨_,rfl,k,_,dk,_,_,rfl,R.ob,T.jn,T.jak,(xn A').2.2.2.1,_,rfl,A' 4,_,rfl,jwf.t (k:=jnh o) hk hq (xa lk),?_⟩
  rw [jnj _ nk]
  obtain ⟨R1,f1⟩:=R.put (κ':={ B with xj:=B.xj ++ [o] }) (f0:=4) (by decide) (by decide) (u0:=.dT (kvs ++ [(jnh o,.bl true)])) ⟨_,rfl,by rw [map_append,ek,map_append]; rfl⟩ (λf u hf q=>by unfold jrq at q ⊢; split at q <;> first | exact q | exact absurd rfl hf)
  have kr1:=kr.put (a:=A' 4) (o:=.dT (kvs ++ [(jnh o,.bl true)]))
  have uq1:qr _ Z (.ref q) o:=qr.fr f1 ⟨q,rfl,nq,hq⟩
  generalize upd H (A' 4) (.dT (kvs ++ [(jnh o,.bl true)])) = H1 at R1 f1 kr1 uq1
  obtain ⟨xs,hx,px⟩:=R1.un
  have lx:xs.length <= 1000:=by rw [Paired.length px]; show B.unv.length <= 1000; omega
  refine ⟨_,rfl,k,_,dk,_,_,rfl,R1.ob,T.jn,T.xy,(xn A').2.2.2.2.1,.inl ⟨rfl,_,SqL.of hx⟩,_,rfl,A' 5,xs,.ref q,rfl,rfl,hx,xa lx,?_⟩
  obtain ⟨r5,_⟩:=R1.fl 5 (by decide) (by decide)
  obtain ⟨R2,f2⟩:=R1.put (κ':={ B with xj:=B.xj ++ [o],unv:=B.unv ++ [o] }) (f0:=5) (by decide) (by decide) (u0:=.lst (xs ++ [.ref q])) ⟨_,rfl,qk (Paired.vb px λ_ _=>qr.fr (Fr.put (P:=isK id h) r5 ⟨5,rfl⟩)) (uq1.fr (Fr.put (P:=isK id h) r5 ⟨5,rfl⟩))⟩ (λf u hf q=>by unfold jrq at q ⊢; split at q <;> first | exact q | exact absurd rfl hf)
  have kr2:=kr1.put (a:=A' 5) (o:=.lst (xs ++ [.ref q]))
  dsimp only
  generalize upd H1 (A' 5) (.lst (xs ++ [.ref q])) = H2 at R2 f2 kr2
  have ok2:Kp.Ok n { B with xj:=B.xj ++ [o],unv:=B.unv ++ [o] }:=⟨hok.h,hok.x,λu hu=>by
   rcases mem_append.mp hu with hu | hu
   .exact hok.u u hu
   .rw [mem_singleton.mp hu]; exact ho,hok.w,hok.nd⟩
  exact ⟨_,rfl,k,dk,_,rfl,R2.ob,jco A',Z,id,h,k,A',dk,_,n,rfl,R2,ok2,n8,by show (B.unv ++ [o]).length + B.cho.length <= 1000; rw [length_append]; show B.unv.length + 1 + B.cho.length <= 1000; omega,kr2,λZ' H' A'' r ys q1 q2 q3 q4 q5 q6=>g Z' H' A'' r ys q1 ((f1.trans f2).trans q2) q3 q4 q5 q6⟩
theorem jie (T:Txt K mg t) : xo P w K mg base CX0 7 t.ud t.pe ["self","order"] (jvc t Kp.joe):=by
 refine T.jde.okB (N:=["self","order"]) λ_ A _ s H vs Q E hr h=>?_
 obtain ⟨Z,id,h,k,A',dk,B,n,q,o,rfl,R,uq,hok,n8,ho,lh,lu,ld,kr,g⟩:=h
 refine ⟨_,(@jb _ _ _ _ _ (zl (PW.pt (jif (zo (qd (pv 0) T.jn T.wj (jdp T) hr.dn T.jbb .nil jo (jc (pv 1) jg))) (jd7 (jx (j3v hr.units) (pv 1) (qb (pv 0) rfl) (by with_unfolding_all rfl))))) (@jd _ _ _ (j6 (@zd _ _ _ _ jg))) qc)
  (@jb _ _ _ _ _ (qa (jij PySem.F.plainAttrs_list PySem.F.slot_list_append PySem.F.type_list_append yr (qb (pv 0) rfl) (jc (pv 1) jg)))
  (@jd _ _ _ (j6 (xu (pv 0) T.jn T.jg6 (jny T) hr.dn T.jiq .nil jo))))),?_⟩
 obtain ⟨_,eq,nq,hq⟩:=uq
 cases eq
 obtain ⟨xs,hx,px⟩:=R.wt
 unfold Kp.joe at g
 have none_:(B.past o || decide (o ∈ B.wait)) = true -> ∀ r H1,gh H H1 -> H1 r = none -> Q (.ref r) (upd H1 r (.lst [])):=λz r H1 s1 nr=>by
  rw [if_pos z] at g
  have f0:Fr (isK id h) Z H Z H1:=Fr.same s1
  have f1:Fr (isK id h) Z H1 (jar Z r (id,.kp h 8)) (upd H1 r (.lst [])):=Fr.jln nr
  exact g _ _ A' r [] (xg.jln (R.fr (P:=λ_=>False) (λ_ z=>z) (Fr.same s1)) (kr.same s1) nr) (f0.trans f1) (kr.same s1).jln za ja .nil
 refine ⟨_,rfl,k,dk,_,rfl,R.ob,jco A',_,rfl,Z,id,h,k,A',dk,B,n,q,o,rfl,R,hq,ho,hok.x,_,rfl,?_⟩
 cases hp : B.past o with
 | true=>
  refine jlq (jlq ⟨zs0,λr nr=>none_ (by rw [hp]; rfl) r H (gh.refl _) nr⟩)
 | false=>
  refine gq ⟨_,rfl,_,rfl,k,_,dk,_,_,rfl,R.ob,T.jn,T.zr,(xn A').2.2.2.2.2.2,A' 7,xs,yw o,B.wait.map yw,rfl,SqL.of hx,⟨q,rfl,SqT.of hq⟩,jo4 px,_,rfl,jhq (λz=>?_) (λz=>?_)⟩
  .have z':o ∈ B.wait:=by
    obtain ⟨u,hu,e⟩:=mem_map.mp (of_decide_eq_true z)
    rw [<- jnr e]
    exact hu
   exact ⟨zs0,λr nr=>none_ (by rw [decide_eq_true z',Bool.or_true]) r H (gh.refl _) nr⟩
  .have z' : ¬ o ∈ B.wait:=λy=>z (decide_eq_true (mem_map_of_mem y))
   rw [if_neg (by rw [hp,decide_eq_false z']; decide)] at g
   have lx:xs.length <= 1000:=by rw [Paired.length px]; omega
   refine ⟨_,rfl,k,_,dk,_,_,rfl,R.ob,T.jn,T.zr,(xn A').2.2.2.2.2.2,.inl ⟨rfl,_,SqL.of hx⟩,_,rfl,A' 7,xs,.ref q,rfl,rfl,hx,xa lx,?_⟩
   obtain ⟨r7,_⟩:=R.fl 7 (by decide) (by decide)
   obtain ⟨R2,f2⟩:=R.put (κ':={ B with wait:=B.wait ++ [o] }) (f0:=7) (by decide) (by decide) (u0:=.lst (xs ++ [.ref q])) ⟨_,rfl,qk (Paired.vb px λ_ _=>qr.fr (Fr.put (P:=isK id h) r7 ⟨7,rfl⟩)) (qr.fr (Fr.put (P:=isK id h) r7 ⟨7,rfl⟩) ⟨q,rfl,nq,hq⟩)⟩ (λf u hf q=>by unfold jrq at q ⊢; split at q <;> first | exact q | exact absurd rfl hf)
   have kr2:=kr.put (a:=A' 7) (o:=.lst (xs ++ [.ref q]))
   dsimp only
   generalize upd H (A' 7) (.lst (xs ++ [.ref q])) = H2 at R2 f2 kr2
   have ok2:Kp.Ok n { B with wait:=B.wait ++ [o] }:=⟨hok.h,hok.x,hok.u,λu hu=>by
    rcases mem_append.mp hu with hu | hu
    .exact hok.w u hu
    .rw [mem_singleton.mp hu]; exact ho,nodup_append.mpr ⟨hok.nd,by simp,λx hx y hy e=>by rw [mem_singleton.mp hy] at e; subst e; exact z' hx⟩⟩
   exact ⟨_,rfl,k,dk,_,rfl,R2.ob,jco A',Z,id,h,k,A',dk,_,n,rfl,R2,ok2,n8,by show B.unv.length + B.cho.length <= 1000; omega,by show B.done.length + (B.wait ++ [o]).length <= 1000; rw [length_append]; show B.done.length + (B.wait.length + 1) <= 1000; omega,kr2,λZ' H' A'' r ys q1 q2 q3 q4 q5 q6=>g Z' H' A'' r ys q1 (f2.trans q2) q3 q4 q5 q6⟩
def wof (n tot:Int) (ly ch kd bd ak wy:Addr) : List (Str × V):=uh "on_way" (.ref wy) (uh "asked" (.ref ak) (uh "board" (.ref bd) (uh "keepers" (.ref kd) (uh "cheating" (.ref ch) (uh "lying" (.ref ly) (uh "total" (.int tot) (uh "purses" (.int n) [])))))))
theorem jlk {n tot:Int} {ly ch kd bd ak wy:Addr} : (wof n tot ly ch kd bd ak wy).lookup ("purses" : Str) = some (.int n):=by
 unfold wof
 repeat (first | rw [jk,if_pos rfl] | rw [jk,if_neg (by decide +kernel)])
theorem jwn {n tot:Int} {ly ch kd bd ak wy:Addr} : (wof n tot ly ch kd bd ak wy).lookup ("lying" : Str) = some (.ref ly):=by
 unfold wof
 repeat (first | rw [jk,if_pos rfl] | rw [jk,if_neg (by decide +kernel)])
theorem jhh {n tot:Int} {ly ch kd bd ak wy:Addr} : (wof n tot ly ch kd bd ak wy).lookup ("cheating" : Str) = some (.ref ch):=by
 unfold wof
 repeat (first | rw [jk,if_pos rfl] | rw [jk,if_neg (by decide +kernel)])
theorem jcv {n tot:Int} {ly ch kd bd ak wy:Addr} : (wof n tot ly ch kd bd ak wy).lookup ("keepers" : Str) = some (.ref kd):=by
 unfold wof
 repeat (first | rw [jk,if_pos rfl] | rw [jk,if_neg (by decide +kernel)])
theorem jkh {n tot:Int} {ly ch kd bd ak wy:Addr} : (wof n tot ly ch kd bd ak wy).lookup ("board" : Str) = some (.ref bd):=by
 unfold wof
 repeat (first | rw [jk,if_pos rfl] | rw [jk,if_neg (by decide +kernel)])
theorem job {n tot:Int} {ly ch kd bd ak wy:Addr} : (wof n tot ly ch kd bd ak wy).lookup ("asked" : Str) = some (.ref ak):=by
 unfold wof
 repeat (first | rw [jk,if_pos rfl] | rw [jk,if_neg (by decide +kernel)])
theorem jaw {n tot:Int} {ly ch kd bd ak wy:Addr} : (wof n tot ly ch kd bd ak wy).lookup ("on_way" : Str) = some (.ref wy):=by
 unfold wof
 repeat (first | rw [jk,if_pos rfl] | rw [jk,if_neg (by decide +kernel)])
theorem qx {n tot:Int} {ly ch kd bd ak wy:Addr} {m:Str} (h:autoParam (¬ m = "on_way" /\ ¬ m = "asked" /\ ¬ m = "board" /\ ¬ m = "keepers" /\ ¬ m = "cheating" /\ ¬ m = "lying" /\ ¬ m = "total" /\ ¬ m = "purses") aP4) : (wof n tot ly ch kd bd ak wy).lookup m = none:=by
 obtain ⟨h1,h2,h3,h4,h5,h6,h7,h8⟩:=h
 unfold wof
 rw [jk,if_neg h1,jk,if_neg h2,jk,if_neg h3,jk,if_neg h4,jk,if_neg h5,jk,if_neg h6,jk,if_neg h7,jk,if_neg h8]
 rfl
structure Wd where
 n:Nat
 xx:List Int
 ks:List (Int × Kp)
 bd:xw
 en:Int
 asked:List (List O)
 way:List (Bool × Int × O)
def jje (ks:List (Int × Kp)) (h:Int) (B : Kp) : List (Int × Kp):=ks.map λc=>if c.1 = h then (h,B) else c
def Wd.post (w:Wd) (b:Bool) (o:O) : Wd:={ w with way:=w.way ++ w.ks.map λc=>(b,c.1,o) }
def jr:xw -> List Int -> List Int
 | [],_=>[]
 | p :: ps,k=>if p.1 = k then p.2 else jr ps k
def jdw:xw -> List Int -> Int -> xw
 | [],k,h=>[(k,[h])]
 | p :: ps,k,h=>if p.1 = k then (p.1,p.2 ++ [h]) :: ps else p :: jdw ps k h
def Wd.put (w:Wd) (h:Int) (o:O) : Wd × Bool:=if h ∈ jr w.bd (yw o) then (w,false) else ({ w with bd:=jdw w.bd (yw o) h },decide (((jr w.bd (yw o)).length:Int) + 1 = w.en))
def Wd.jdx (h:Int) (w:Wd) (o:O) : Wd:=if (w.put h o).2 = true then (w.put h o).1.post false o else (w.put h o).1
def Wd.qo (w:Wd) (h:Int) (os:List O) : Wd:=os.foldl (Wd.jdx h) w
def Wd.keep (w:Wd) (h:Int) : Option Kp:=(w.ks.find? λc=>decide (c.1 = h)).map (·.2)
def Kp.take (B : Kp) (b:Bool) (o:O) : Kp × List O:=if b = true then B.jzo o else B.joe o
def Wd.jv5 (w:Wd) (i:Nat) (l:Bool × Int × O) (B : Kp) : Wd:=Wd.qo { w with way:=w.way.eraseIdx i,ks:=jje w.ks l.2.1 (B.take l.1 l.2.2).1 } l.2.1 (B.take l.1 l.2.2).2
theorem jey (k:List Int) : ∀ is:xw,qi (thP is) (jm9 k) = jr is k
 | []=>rfl
 | p :: ps=>by
  show (if jm9 p.1 = jm9 k then p.2 else qi (thP ps) (jm9 k)) = if p.1 = k then p.2 else jr ps k
  by_cases z:p.1 = k
  .rw [if_pos z,if_pos (by rw [z])]
  .rw [if_neg z,if_neg (λy=>z (jrg y)),jey k ps]
theorem jun (k:List Int) (h:Int) : ∀ is:xw,jqu (thP is) (jm9 k) h = thP (jdw is k h)
 | []=>rfl
 | p :: ps=>by
  show (if jm9 p.1 = jm9 k then (jm9 p.1,p.2 ++ [h]) :: thP ps else (jm9 p.1,p.2) :: jqu (thP ps) (jm9 k) h) = thP (if p.1 = k then (p.1,p.2 ++ [h]) :: ps else p :: jdw ps k h)
  by_cases z:p.1 = k
  .rw [if_pos z,if_pos (by rw [z])]
   rfl
  .rw [if_neg z,if_neg (λy=>z (jrg y)),jun k h ps]
   rfl
def jvt (b:Bool) : V:=.str (if b = true then "order" else "paper")
def jgk (H:Hp) (Z : Rho) (x:V) (l:Bool × Int × O) : Prop:=∃ a q,x = .ref a /\ Z a = none /\ H a = some (.tup [jvt l.1,.int l.2.1,.ref q]) /\ qr H Z (.ref q) l.2.2
theorem jgk.fr {P:Role -> Prop} {Z Z':Rho} {H H':Hp} {x:V} {l:Bool × Int × O} (f:Fr P Z H Z' H') (h:jgk H Z x l) : jgk H' Z' x l:=by
 obtain ⟨a,q,e,n,h1,h2⟩:=h
 obtain ⟨h1',n'⟩:=f a _ h1 λr hr=>by rw [n] at hr; cases hr
 exact ⟨a,q,e,n'.trans n,h1',h2.fr f⟩
structure WA where
 x:Addr
 dx:Addr
 tot:Int
 ly:Addr
 ch:Addr
 kd:Addr
 bd:Addr
 ak:Addr
 wy:Addr
 db:Addr
 S:Addr
abbrev WA.fs (W:WA) (n:Nat) : List (Str × V):=wof n W.tot W.ly W.ch W.kd W.bd W.ak W.wy
def yt (t:Ad) (H:Hp) (Z : Rho) (id:Nat) (kvs:List (Key × V)) (ks:List (Int × Kp)) : Prop:=Paired (λkv (c:Int × Kp)=>kv.1 = .inl c.1 /\ ∃ k A dk,kv.2 = .ref k /\ xg t H Z id c.1 k A dk c.2) kvs ks
def jq5 (H:Hp) (Z : Rho) (id:Nat) (rs:List Addr) (asked:List (List O)) : Prop:=rs.length = asked.length /\ ∀ (i:Nat) (r:Addr) (os:List O),rs[i]? = some r -> asked[i]? = some os -> Z r = some (id,.row i) /\ ∃ xs,H r = some (.lst xs) /\ Paired (qr H Z) xs os
def jzm (Z : Rho) (id:Nat) (kvs:List (List Key × V)) : Prop:=∀ kv ∈ kvs,∃ c,kv.2 = .ref c /\ Z c = some (id,.sg)
structure qm (t:Ad) (H:Hp) (Z : Rho) (id:Nat) (W:WA) (w:Wd) : Prop where
 ob:H W.x = some (.ins t.jy W.dx (W.fs w.n)) /\ Z W.x = some (id,.x)
 ch:H W.ch = some (.lst (w.xx.map V.int)) /\ Z W.ch = none
 kd : Z W.kd = some (id,.kd) /\ ∃ kvs,H W.kd = some (.dK kvs) /\ yt t H Z id kvs w.ks
 bd : Z W.bd = some (id,.bd) /\ Z W.S = some (id,.sd) /\ ∃ kvs,yy t H W.bd W.db W.S w.en kvs (thP w.bd) /\ jzm Z id kvs
 ak : Z W.ak = some (id,.ak) /\ ∃ rs,H W.ak = some (.lst (rs.map V.ref)) /\ jq5 H Z id rs w.asked
 wy : Z W.wy = some (id,.wy) /\ ∃ xs,H W.wy = some (.lst xs) /\ Paired (jgk H Z) xs w.way
section
variable {t:Ad} {H H':Hp} {Z Z':Rho} {id:Nat} {W:WA} {w:Wd} {P:Role -> Prop}
theorem jbo {a:Addr} {u:HO} {r:Role} (f:Fr P Z H Z' H') (e:H a = some u) (er : Z a = some r) (n : ¬ P r) : H' a = some u /\ Z' a = some r:=by
 obtain ⟨e1,r1⟩:=f a u e λr' hr=>by rw [er] at hr; cases hr; exact n
 exact ⟨e1,r1.trans er⟩
theorem jpp {a:Addr} {u:HO} (f:Fr P Z H Z' H') (e:H a = some u) (er : Z a = none) : H' a = some u /\ Z' a = none:=by
 obtain ⟨e1,r1⟩:=f a u e λr' hr=>by rw [er] at hr; cases hr
 exact ⟨e1,r1.trans er⟩
theorem yt.fr {kvs:List (Key × V)} {ks:List (Int × Kp)} (f:Fr P Z H Z' H') (hP : ∀ h i,¬ P (id,.kp h i)) (k:yt t H Z id kvs ks) : yt t H' Z' id kvs ks:=Paired.vb k λ_ c ⟨e,k,A,dk,ek,q⟩=>⟨e,k,A,dk,ek,q.fr (hP c.1) f⟩
theorem jq5.fr {rs:List Addr} {asked:List (List O)} (f:Fr P Z H Z' H') (hP : ∀ i,¬ P (id,.row i)) (k:jq5 H Z id rs asked) : jq5 H' Z' id rs asked:=⟨k.1,λi r os e1 e2=>by
 obtain ⟨rr,xs,h,p⟩:=k.2 i r os e1 e2
 obtain ⟨h',r'⟩:=jbo f h rr (hP i)
 exact ⟨r',xs,h',Paired.vb p λ_ _=>qr.fr f⟩⟩
theorem yy.fr {p dx S:Addr} {en:Int} {kvs:List (List Key × V)} {ps:jdo} (f:Fr P Z H Z' H') (rp : Z p = some (id,.bd)) (rS : Z S = some (id,.sd)) (sg:jzm Z id kvs) (n1 : ¬ P (id,.bd)) (n2 : ¬ P (id,.sd)) (n3 : ¬ P (id,.sg)) (Bq:yy t H p dx S en kvs ps) : yy t H' p dx S en kvs ps /\ Z' p = some (id,.bd) /\ Z' S = some (id,.sd) /\ jzm Z' id kvs:=by
 obtain ⟨e1,r1⟩:=jbo f Bq.ob rp n1
 obtain ⟨e2,r2⟩:=jbo f Bq.sg rS n2
 have hs : ∀ {kv:List Key × V} {q:List Key × List Int},kv ∈ kvs -> jwj H kv q -> jwj H' kv q /\ ∃ c,kv.2 = .ref c /\ Z' c = some (id,.sg):=λ{kv q} m ⟨a,c,ec,hc⟩=>by
  obtain ⟨c',ec',rc⟩:=sg kv m
  rw [ec] at ec'
  cases ec'
  obtain ⟨h1,h2⟩:=jbo f hc rc n3
  exact ⟨⟨a,c,ec,h1⟩,c,ec,h2⟩
 have all : ∀ {xs:List (List Key × V)} {ys:jdo},(∀ x ∈ xs,x ∈ kvs) -> Paired (jwj H) xs ys -> Paired (jwj H') xs ys /\ jzm Z' id xs:=λ{xs ys} m q=>by
  induction q with
  | nil=>exact ⟨.nil,λ_ z=>by cases z⟩
  | cons h _ ih=>
   obtain ⟨i1,i2⟩:=ih λx hx=>m x (mem_cons_of_mem _ hx)
   obtain ⟨j1,j2⟩:=hs (m _ mem_cons_self) h
   refine ⟨.cons j1 i1,λx hx=>?_⟩
   rcases mem_cons.mp hx with rfl | hx
   .exact j2
   .exact i2 x hx
 obtain ⟨a1,a2⟩:=all (λ_ h=>h) Bq.hs
 exact ⟨⟨e1,e2,a1,Bq.un⟩,r1,r2,a2⟩
theorem qm.fr (hP : ∀ p,¬ P (id,p)) (f:Fr P Z H Z' H') (w1:qm t H Z id W w) : qm t H' Z' id W w:=by
 obtain ⟨rk,kvs,hk,ks⟩:=w1.kd
 obtain ⟨rb,rS,bvs,Bq,sg⟩:=w1.bd
 obtain ⟨ra,rs,ha,rows⟩:=w1.ak
 obtain ⟨rw_,xs,hw,pw⟩:=w1.wy
 obtain ⟨hk',rk'⟩:=jbo f hk rk (hP _)
 obtain ⟨B',rb',rS',sg'⟩:=Bq.fr f rb rS sg (hP _) (hP _) (hP _)
 obtain ⟨ha',ra'⟩:=jbo f ha ra (hP _)
 obtain ⟨hw',rw'⟩:=jbo f hw rw_ (hP _)
 exact ⟨jbo f w1.ob.1 w1.ob.2 (hP _),jpp f w1.ch.1 w1.ch.2,⟨rk',kvs,hk',ks.fr f λ_ _=>hP _⟩,⟨rb',rS',bvs,B',sg'⟩,⟨ra',rs,ha',rows.fr f λ_=>hP _⟩,⟨rw',xs,hw',Paired.vb pw λ_ _=>jgk.fr f⟩⟩
theorem qm.but (f:Fr P Z H Z' H') (w1:qm t H Z id W w) (w':Wd) (n1 : ¬ P (id,.x)) (en:w'.n = w.n) (ec:w'.xx = w.xx)
  (kd:(Z W.kd = some (id,.kd) -> (∃ kvs,H W.kd = some (.dK kvs) /\ yt t H Z id kvs w.ks) -> Z' W.kd = some (id,.kd) /\ ∃ kvs,H' W.kd = some (.dK kvs) /\ yt t H' Z' id kvs w'.ks))
  (bd:(Z W.bd = some (id,.bd) -> Z W.S = some (id,.sd) -> (∃ kvs,yy t H W.bd W.db W.S w.en kvs (thP w.bd) /\ jzm Z id kvs) -> Z' W.bd = some (id,.bd) /\ Z' W.S = some (id,.sd) /\ ∃ kvs,yy t H' W.bd W.db W.S w'.en kvs (thP w'.bd) /\ jzm Z' id kvs))
  (ak:(Z W.ak = some (id,.ak) -> (∃ rs,H W.ak = some (.lst (rs.map V.ref)) /\ jq5 H Z id rs w.asked) -> Z' W.ak = some (id,.ak) /\ ∃ rs,H' W.ak = some (.lst (rs.map V.ref)) /\ jq5 H' Z' id rs w'.asked))
  (wy:(Z W.wy = some (id,.wy) -> (∃ xs,H W.wy = some (.lst xs) /\ Paired (jgk H Z) xs w.way) -> Z' W.wy = some (id,.wy) /\ ∃ xs,H' W.wy = some (.lst xs) /\ Paired (jgk H' Z') xs w'.way)) : qm t H' Z' id W w':=by
 refine ⟨?_,?_,kd w1.kd.1 w1.kd.2,bd w1.bd.1 w1.bd.2.1 w1.bd.2.2,ak w1.ak.1 w1.ak.2,wy w1.wy.1 w1.wy.2⟩
 .rw [en]
  exact jbo f w1.ob.1 w1.ob.2 n1
 .rw [ec]
  exact jpp f w1.ch.1 w1.ch.2
theorem jag (f:Fr P Z H Z' H') (n1 : ¬ P (id,.kd)) (n2 : ∀ h i,¬ P (id,.kp h i)) {kd:Addr} {ks:List (Int × Kp)} (r : Z kd = some (id,.kd)) (h : ∃ kvs,H kd = some (.dK kvs) /\ yt t H Z id kvs ks) : Z' kd = some (id,.kd) /\ ∃ kvs,H' kd = some (.dK kvs) /\ yt t H' Z' id kvs ks:=by
 obtain ⟨kvs,hk,q⟩:=h
 obtain ⟨h',r'⟩:=jbo f hk r n1
 exact ⟨r',kvs,h',q.fr f n2⟩
theorem jbp (f:Fr P Z H Z' H') (n1 : ¬ P (id,.bd)) (n2 : ¬ P (id,.sd)) (n3 : ¬ P (id,.sg)) {b db S:Addr} {en:Int} {is:xw} (rb : Z b = some (id,.bd)) (rS : Z S = some (id,.sd)) (h : ∃ kvs,yy t H b db S en kvs (thP is) /\ jzm Z id kvs) : Z' b = some (id,.bd) /\ Z' S = some (id,.sd) /\ ∃ kvs,yy t H' b db S en kvs (thP is) /\ jzm Z' id kvs:=by
 obtain ⟨kvs,Bq,sg⟩:=h
 obtain ⟨B',rb',rS',sg'⟩:=Bq.fr f rb rS sg n1 n2 n3
 exact ⟨rb',rS',kvs,B',sg'⟩
theorem jfl (f:Fr P Z H Z' H') (n1 : ¬ P (id,.ak)) (n2 : ∀ i,¬ P (id,.row i)) {ak:Addr} {asked:List (List O)} (r : Z ak = some (id,.ak)) (h : ∃ rs,H ak = some (.lst (rs.map V.ref)) /\ jq5 H Z id rs asked) : Z' ak = some (id,.ak) /\ ∃ rs,H' ak = some (.lst (rs.map V.ref)) /\ jq5 H' Z' id rs asked:=by
 obtain ⟨rs,hk,q⟩:=h
 obtain ⟨h',r'⟩:=jbo f hk r n1
 exact ⟨r',rs,h',q.fr f n2⟩
theorem jth (f:Fr P Z H Z' H') (n1 : ¬ P (id,.wy)) {wy:Addr} {way:List (Bool × Int × O)} (r : Z wy = some (id,.wy)) (h : ∃ xs,H wy = some (.lst xs) /\ Paired (jgk H Z) xs way) : Z' wy = some (id,.wy) /\ ∃ xs,H' wy = some (.lst xs) /\ Paired (jgk H' Z') xs way:=by
 obtain ⟨rs,hk,q⟩:=h
 obtain ⟨h',r'⟩:=jbo f hk r n1
 exact ⟨r',rs,h',Paired.vb q λ_ _=>jgk.fr f⟩
end
theorem jqf {α β : Type} {F : α -> β -> Prop} : ∀ {xs xs':List α} {ys ys':List β},Paired F xs ys -> Paired F xs' ys' -> Paired F (xs ++ xs') (ys ++ ys')
 | _,_,_,_,.nil,h=>h
 | _,_,_,_,.cons a r,h=>.cons a (jqf r h)
theorem big {n:Nat} (h:n <= 1000000) : n < sizeLine:=lt_of_le_of_lt h (by decide)
theorem j5f {n:Nat} (h:n <= 1000000) : n <= sizeLine:=le_of_lt (big h)
abbrev Frm (H:Hp) (x:Addr) (G:Hp) : Prop:=∀ b u,H b = some u -> b ≠ x -> G b = some u
theorem Fr.j27 {P:Role -> Prop} {Z : Rho} {H G:Hp} {x:Addr} {r:Role} (h : Z x = some r) (p:P r) (f:Frm H x G) : Fr P Z H Z G:=λb u e n=>⟨f b u e λz=>n r (z ▸ h) p,rfl⟩
theorem OkR.j27 {Z : Rho} {H G:Hp} {x:Addr} {u:HO} (k:OkR Z H) (f:Frm H x G) (hx:G x = some u) (nu:jt8 u) : OkR Z G:=λb r h=>by
 by_cases z:b = x
 .subst z
  exact ⟨u,hx,nu⟩
 .obtain ⟨v,e,n⟩:=k b r h
  exact ⟨v,f b v e z,n⟩
def isP (id:Nat) (p:Part) : Role -> Prop:=λr=>r = (id,p)
theorem jw {id:Nat} {p q:Part} (h:q ≠ p:=by intro z; cases z) : ¬ isP id p (id,q):=λz=>h (Prod.mk.inj z).2
theorem j4h {a:Addr} {o:Obj} {kvs:List (Key × V)} {g:TG} {tb:TS} {D:Ends} {U : St} {H:Hp} (Pv:Nat -> St -> Hp -> Prop) (h0:Pv 0 U H) (hl : ∀ i U H,i <= kvs.length -> Pv i U H -> H a = some (.frz o (.dK kvs)))
  (hs : ∀ i kv U H,kvs[i]? = some kv -> Pv i U H -> g (kV kv.1) U H λU2 H2=>tb { D with nx:=Pv (i + 1),ct:=Pv (i + 1),bk:=D.nx } U2 H2) (hd : ∀ U H,Pv kvs.length U H -> D.nx U H) :
  ∃ W:Nat -> Nat -> St -> Hp -> Prop,(∃ m,W 0 m U H) /\ ∀ i m U H,W i m U H ->
   ((Itd a o kvs).stop i H /\ D.nx U H) \/ ((Itd a o kvs).go i H /\ ∃ N:St -> Hp -> Prop,(∀ U' H',N U' H' -> ∃ m',m' < m /\ W (i + 1) m' U' H') /\ ∀ x H',(Itd a o kvs).yld i H x H' -> g x U H' λU2 H2=>tb { D with nx:=N,ct:=N,bk:=D.nx } U2 H2):=by
 refine ⟨λi m U H=>m = kvs.length - i /\ i <= kvs.length /\ Pv i U H,⟨kvs.length,by simp,zero_le _,h0⟩,?_⟩
 rintro i m U H ⟨rfl,hi,p⟩
 have q:=hl i U H hi p
 by_cases hlt:i < kvs.length
 .refine .inr ⟨⟨hlt,q⟩,Pv (i + 1),λU' H' p'=>⟨kvs.length - (i + 1),by omega,rfl,hlt,p'⟩,λx H' y=>?_⟩
  obtain ⟨e,kv,ek,ex⟩:=y
  subst e ex
  exact hs i kv U _ ek p
 .have e:i = kvs.length:=by omega
  subst e
  exact .inl ⟨⟨le_refl _,q⟩,hd U H p⟩
theorem xi (T:Txt K mg t) : xo P w K mg base CX0 1 t.jdq t.jc8 ["self"] (λvs H Q _=>∃ Z id W Y,vs = [.ref W.x] /\ qm t H Z id W Y /\ Y.way.length <= 100000 /\ ∀ r xs,H r = none -> Paired (jgk H Z) xs Y.way -> Q (.ref r) (upd H r (.lst xs))):=by
 refine T.jgs.okB (N:=["self"]) λ_ A _ s H vs Q E hr h=>?_
 obtain ⟨Z,id,W,Y,rfl,O,l,k⟩:=h
 refine ⟨_,(@jd _ _ _ (j6 (je2 uj rfl T.jlb boot_list (jc (qb (pv 0) rfl) jg)))),?_⟩
 obtain ⟨rw_,xs,hw,pw⟩:=O.wy
 exact ⟨_,rfl,W.x,_,W.dx,_,_,rfl,O.ob.1,T.ji,T.qq,jaw,W.wy,xs,rfl,.inl (SqL.of hw),λr nr=>k r xs nr pw⟩
theorem jbk (T:Txt K mg t) : xo P w K mg base CX0 1 t.gb t.w6 ["self","word","order"] (λvs H Q _=>∃ Z id W Y b q o,vs = [.ref W.x,jvt b,.ref q] /\ qm t H Z id W Y /\ OkR Z H /\ qr H Z (.ref q) o /\ Y.way.length <= 100000 /\ Y.ks.length <= 16 /\
  ∀ H',qm t H' Z id W (Y.post b o) -> Fr (isP id .wy) Z H Z H' -> OkR Z H' -> Q .non H'):=by
 refine T.jb7.okA jbf λ_ A _ s H vs Q E hr h=>?_
 obtain ⟨Z,id,W,Y,b,q,o,rfl,O,kr,uq,l,l2,k⟩:=h
 refine ⟨_,(@jd _ _ _ (j2t (jk0 PassesOwn.never rfl (j6l (qb (pv 0) rfl)) (jv (i:=3) jbf.nd rfl (Or.inl rfl)) (@jd _ _ _ (qa (jij PySem.F.plainAttrs_list PySem.F.slot_list_append PySem.F.type_list_append yr (qb (pv 0) rfl) (jc (@jhm _ _ _ _ _ (@jmm _ _ _ _ _ _ _ (pv 1) (pv 3) (pv 2) rfl rfl rfl)) jg))))))),?_⟩
 obtain ⟨rk,kvs,kd,ks⟩:=O.kd
 obtain ⟨rw_,way,wy,pw⟩:=O.wy
 have ob:=O.ob.1
 have kw:W.kd ≠ W.wy:=ner rk rw_ (by intro z; cases z)
 have kx:W.x ≠ W.kd:=ner O.ob.2 rk (by intro z; cases z)
 have wx:W.x ≠ W.wy:=ner O.ob.2 rw_ (by intro z; cases z)
 have lk:kvs.length = Y.ks.length:=Paired.length ks
 have lw:way.length = Y.way.length:=Paired.length pw
 refine ⟨_,rfl,W.x,_,W.dx,_,_,rfl,ob,T.ji,T.zg,jcv,W.kd,kvs,rfl,kd,λoo=>j4h (λi U H'=>∃ v ts,U = [some (.ref W.x),some (jvt b),some (.ref q),v] /\ ts.length = i /\ H' W.wy = some (.lst (way ++ ts)) /\ Frm (upd H W.kd (.frz oo (.dK kvs))) W.wy H' /\ Paired (λx (c:Int × Kp)=>∃ a,x = .ref a /\ H a = none /\ H' a = some (.tup [jvt b,.int c.1,.ref q])) ts (Y.ks.take i)) ?_ ?_ ?_ ?_⟩
 .exact ⟨none,[],rfl,rfl,(by rw [append_nil,je kw.symm]; exact wy),(λb u e _=>e),.nil⟩
 .rintro i U H' _ ⟨v,ts,_,_,_,f,_⟩
  exact f _ _ ja kw
 .rintro i kv U H' ek ⟨v,ts,rfl,lt,hw,f,pt⟩
  obtain ⟨c,ec,e1,_⟩:=qh ks ek
  have ob':H' W.x = some (.ins t.jy W.dx (W.fs Y.n)):=f _ _ (by rw [je kx]; exact ob) wx
  have hi:=(List.getElem?_eq_some_iff.mp ek).1
  refine ⟨_,rfl,W.x,_,W.dx,_,_,rfl,ob',T.ji,T.qq,jaw,.inl ⟨rfl,_,SqL.of hw⟩,_,rfl,_,rfl,_,rfl,zs3,λp np=>?_⟩
  have sp:=jf (o:=.tup [jvt b,kV kv.1,.ref q]) np
  have np0:H p = none:=by
   cases e:H p with
   | none=>rfl
   | some u=>
    exfalso
    by_cases z:p = W.wy
    .rw [z,hw] at np
     cases np
    .by_cases z2:p = W.kd
     .rw [z2,f _ _ ja kw] at np
      cases np
     .have:=f p u (by rw [je z2]; exact e) z
      rw [np] at this
      cases this
  have pw_:p ≠ W.wy:=λz=>by
   rw [z,hw] at np
   cases np
  refine ⟨W.wy,_,_,rfl,rfl,sp _ _ hw,big (by rw [length_append,lt]; omega),_,ts ++ [.ref p],rfl,?_,?_,λb' u e bw=>?_,?_⟩
  .rw [length_append,lt]; rfl
  .rw [ja,List.append_assoc]
  .rw [je bw]
   exact sp _ _ (f _ _ e bw)
  .rw [take_snoc ec]
   refine qk (Paired.vb pt λ_ _ ⟨a,e,n,h'⟩=>⟨a,e,n,?_⟩) ⟨p,rfl,np0,?_⟩
   .rw [je (λz=>by rw [z,hw] at h'; cases h')]
    exact sp _ _ h'
   .rw [je pw_,ja,e1]
    rfl
 .rintro U H' ⟨v,ts,rfl,lt,hw,f,pt⟩
  have fin:Frm H W.wy (upd H' W.kd (.dK kvs)):=λb' u e bw=>by
   by_cases z:b' = W.kd
   .subst z
    rw [kd] at e
    rw [ja,<- e]
   .rw [je z]
    exact f _ _ (by rw [je z]; exact e) bw
  have hw':upd H' W.kd (.dK kvs) W.wy = some (.lst (way ++ ts)):=by rw [je kw.symm]; exact hw
  refine ⟨W.kd,oo,.dK kvs,f _ _ ja kw,λo' u' z=>?_,True.intro,?_⟩
  .have z':H W.kd = some (.frz o' u'):=z
   rw [kd] at z'
   cases z'
  have fr:Fr (isP id .wy) Z H Z (upd H' W.kd (.dK kvs)):=Fr.j27 rw_ rfl fin
  rw [lk,take_length] at pt
  refine k _ (O.but fr (Y.post b o) jw rfl rfl (jag fr jw (λ_ _=>jw)) (jbp fr jw jw jw) (jfl fr jw (λ_=>jw)) (λ_ _=>⟨rw_,_,hw',?_⟩)) fr (kr.j27 fin hw' (by exact True.intro))
  have up:=uq.fr fr
  have q2:Paired (jgk (upd H' W.kd (.dK kvs)) Z) ts (Y.ks.map λc=>(b,c.1,o)):=by
   clear hw' lt hw
   have gen : ∀ {xs:List V} {cs:List (Int × Kp)},Paired (λx (c:Int × Kp)=>∃ a,x = .ref a /\ H a = none /\ H' a = some (.tup [jvt b,.int c.1,.ref q])) xs cs -> Paired (jgk (upd H' W.kd (.dK kvs)) Z) xs (cs.map λc=>(b,c.1,o)):=λ{xs cs} h=>by
    induction h with
    | nil=>exact .nil
    | cons a _ ih=>
     obtain ⟨p,e,n,hp⟩:=a
     refine .cons ⟨p,q,e,kr.none n,?_,up⟩ ih
     rw [je (λz=>by rw [z,kd] at n; cases n)]
     exact hp
   exact gen pt
  exact jqf (Paired.vb pw λ_ _=>jgk.fr fr) q2
def j3c (id:Nat) : Role -> Prop:=λr=>r = (id,.wy) \/ r = (id,.sd) \/ r = (id,.sg)
theorem jti {id:Nat} {p:Part} (h1:p ≠ .wy) (h2:p ≠ .sd) (h3:p ≠ .sg) : ¬ j3c id (id,p):=λz=>by
 rcases z with z | z | z
 .exact h1 (Prod.mk.inj z).2
 .exact h2 (Prod.mk.inj z).2
 .exact h3 (Prod.mk.inj z).2
structure Sz (Y : Wd) (a b c:Nat) : Prop where
 bd : Y.bd.length <= a
 hs : ∀ x ∈ Y.bd,x.2.length <= b
 wy : Y.way.length <= c
 ks : Y.ks.length <= 16
theorem juh {k:List Int} {h:Int} : ∀ {is:xw} {a b:Nat},is.length <= a -> (∀ x ∈ is,x.2.length <= b) -> (jdw is k h).length <= a + 1 /\ ∀ x ∈ jdw is k h,x.2.length <= b + 1
 | [],a,b,_,_=>⟨by show 1 <= a + 1; omega,λx hx=>by rw [mem_singleton.mp hx]; show 1 <= b + 1; omega⟩
 | p :: ps,a,b,h1,h2=>by
  unfold jdw
  split
  .refine ⟨by rw [length_cons] at h1 ⊢; omega,λx hx=>?_⟩
   rcases mem_cons.mp hx with rfl | hx
   .have:=h2 p mem_cons_self
    show (p.2 ++ [h]).length <= b + 1
    rw [length_append]
    show p.2.length + 1 <= b + 1
    omega
   .have:=h2 x (mem_cons_of_mem _ hx)
    omega
  .rw [length_cons] at h1
   obtain ⟨i1,i2⟩:=juh (k:=k) (h:=h) (is:=ps) (a:=a - 1) (b:=b) (by omega) (λx hx=>h2 x (mem_cons_of_mem _ hx))
   refine ⟨by rw [length_cons]; omega,λx hx=>?_⟩
   rcases mem_cons.mp hx with rfl | hx
   .have:=h2 x mem_cons_self
    omega
   .exact i2 x hx
theorem Sz.put {Y : Wd} {a b c:Nat} (z:Sz Y a b c) (h:Int) (o:O) : Sz (Y.put h o).1 (a + 1) (b + 1) c:=by
 unfold Wd.put
 split
 .exact ⟨le_succ_of_le z.bd,λx hx=>le_succ_of_le (z.hs x hx),z.wy,z.ks⟩
 .obtain ⟨i1,i2⟩:=juh (k:=yw o) (h:=h) z.bd z.hs
  exact ⟨i1,i2,z.wy,z.ks⟩
theorem Sz.jdx {Y : Wd} {a b c:Nat} (z:Sz Y a b c) (h:Int) (o:O) : Sz (Y.jdx h o) (a + 1) (b + 1) (c + 16):=by
 have p:=z.put h o
 unfold Wd.jdx
 split
 .refine ⟨p.bd,p.hs,?_,p.ks⟩
  show ((Y.put h o).1.way ++ _).length <= c + 16
  rw [length_append,length_map]
  have:=p.wy
  have:=p.ks
  omega
 .exact ⟨p.bd,p.hs,by have:=p.wy; omega,p.ks⟩
theorem Sz.mono {Y : Wd} {a b c a' b' c':Nat} (z:Sz Y a b c) (h1:a <= a') (h2:b <= b') (h3:c <= c') : Sz Y a' b' c':=⟨le_trans z.bd h1,λx hx=>le_trans (z.hs x hx) h2,le_trans z.wy h3,z.ks⟩
theorem jqo (Y : Wd) (h:Int) {os:List O} {i:Nat} {o:O} (e:os[i]? = some o) : Y.qo h (os.take (i + 1)) = (Y.qo h (os.take i)).jdx h o:=by
 unfold Wd.qo
 rw [take_snoc e,List.foldl_append]
 rfl
theorem Sz.qo {Y : Wd} {a b c:Nat} (z:Sz Y a b c) (h:Int) {os:List O} : ∀ i,i <= os.length -> Sz (Y.qo h (os.take i)) (a + i) (b + i) (c + 16 * i)
 | 0,_=>z
 | i + 1,hi=>by
  rw [jqo Y h (getElem?_eq_getElem (show i < os.length by omega))]
  exact ((Sz.qo z h i (by omega)).jdx h _).mono (by omega) (by omega) (by omega)
theorem jl8 {k:List Int} : ∀ {is:xw},jr is k = [] \/ ∃ x ∈ is,jr is k = x.2
 | []=>.inl rfl
 | p :: ps=>by
  unfold jr
  split
  .exact .inr ⟨p,mem_cons_self,rfl⟩
  .rcases jl8 (k:=k) (is:=ps) with h | ⟨x,hx,e⟩
   .exact .inl h
   .exact .inr ⟨x,mem_cons_of_mem _ hx,e⟩
theorem Sz.hl {Y : Wd} {a b c:Nat} (z:Sz Y a b c) (k:List Int) : (jr Y.bd k).length <= b:=by
 rcases jl8 (k:=k) (is:=Y.bd) with h | ⟨x,hx,e⟩
 .rw [h]
  exact zero_le _
 .rw [e]
  exact z.hs x hx
open Classical in
noncomputable def jpo (Z : Rho) (id:Nat) (kvs kvs':List (List Key × V)) : Rho:=λa=>if ∃ kv ∈ kvs',kv.2 = .ref a then some (id,.sg) else if ∃ kv ∈ kvs,kv.2 = .ref a then none else Z a
theorem uz (T : Txt K mg t) : xo P w K mg base CX0 2 t.jaz t.jay ["self","house","orders"] (λvs H Q _=>∃ Z id W Y h r xs os a b c,vs = [.ref W.x,.int h,.ref r] /\ qm t H Z id W Y /\ OkR Z H /\ H r = some (.lst xs) /\ (∀ ro,Z r = some ro -> ¬ j3c id ro) /\ Paired (qr H Z) xs os /\ Sz Y a b c /\ a + os.length <= 1000 /\ b + os.length <= 1000 /\ c + 16 * os.length <= 100000 /\
  ∀ Z' H',qm t H' Z' id W (Y.qo h os) -> Fr (j3c id) Z H Z' H' -> OkR Z' H' -> Q .non H'):=by
 refine T.jfa.okA jd6 λ_ A _ s H vs Q E hr h=>?_
 obtain ⟨Z,id,W,Y,h,r,xs,os,a,b,c,rfl,O,kr,hx,nr,px,sz,la,lb,lc,k⟩:=h
 refine ⟨_,(@jd _ _ _ (jk0 PassesOwn.never rfl (@jav _ _ _ _ (pv 2)) (jv (i:=3) jd6.nd rfl (Or.inl rfl)) (@jd _ _ _ (zl (zo (qd (qb (pv 0) rfl) T.yh T.jmy (jso T) hr.dn T.jpc .nil jo (@va _ _ _ _ _ (pv 1) (pv 3) rfl rfl))) (@jd _ _ _ (qa (qd (pv 0) T.ji T.vf (jbk T) hr.dn T.gc .nil jo (@va _ _ _ _ _ (zb (v:=.str "paper") rfl T.jed.choose_spec ⟨_,rfl⟩) (pv 3) rfl rfl)))) qc)))),?_⟩
 have lx:xs.length = os.length:=Paired.length px
 refine ⟨_,rfl,r,rfl,⟨_,SqL.of hx⟩,jk5 (K:=K) (a:=r) (xs:=xs) (λi U H'=>∃ v Z',U = [some (.ref W.x),some (.int h),some (.ref r),v] /\ qm t H' Z' id W (Y.qo h (os.take i)) /\ Fr (j3c id) Z H Z' H' /\ OkR Z' H') ⟨none,Z,rfl,O,Fr.refl,kr⟩ (λi U H' _ ⟨_,Z',_,_,f,_⟩=>SqL.of (f _ _ hx nr).1) ?_ ?_⟩
 .rintro i x U H1 ex ⟨v,Z1,rfl,O1,f1,kr1⟩
  obtain ⟨o,eo,uo⟩:=qh px ex
  have uo1:=uo.fr f1
  obtain ⟨q,rfl,nq,hq⟩:=uo1
  have hi:=(List.getElem?_eq_some_iff.mp eo).1
  have z1:=sz.qo h (os:=os) i (by omega)
  rw [jqo Y h eo]
  generalize Y.qo h (os.take i) = Y1 at O1 z1 ⊢
  obtain ⟨rb,rS,kvs,Bq,sg⟩:=O1.bd
  have ek:qi (thP Y1.bd) (jnh o) = jr Y1.bd (yw o):=jey (yw o) Y1.bd
  have lk:kvs.length <= 1000:=by
   rw [Paired.length Bq.hs,thP,length_map]
   have:=z1.bd
   omega
  have lh:=z1.hl (yw o)
  refine ⟨_,rfl,W.x,_,W.dx,_,_,rfl,O1.ob.1,T.ji,T.yu,jkh,W.bd,W.db,_,rfl,Bq.ob,jss _ _ (by decide +kernel) (by decide +kernel),_,rfl,_,rfl,W.bd,W.db,W.S,Y1.en,kvs,thP Y1.bd,q,jnh o,h,rfl,Bq,hq,lk,by rw [ek]; omega,λhm H2 s2=>?_,λhm kvs' H2 B2 k2 nn2=>?_⟩
  .rw [ek] at hm
   refine ⟨_,rfl,gq ⟨_,Z1,rfl,?_,f1.trans (Fr.same s2),kr1.same s2⟩⟩
   have e : Y1.jdx h o = Y1:=by
    unfold Wd.jdx Wd.put
    rw [if_pos hm]
    rfl
   rw [e]
   exact O1.fr (P:=λ_=>False) (λ_ z=>z) (Fr.same s2)
  .rw [ek] at hm
   rw [ek]
   have inS : ∀ {a:Addr},(∃ kv ∈ kvs,kv.2 = .ref a) -> Z1 a = some (id,.sg):=λ{a} ⟨kv,m,e⟩=>by
    obtain ⟨c,ec,rc⟩:=sg kv m
    rw [e] at ec
    cases ec
    exact rc
   have f2:Fr (j3c id) Z1 H1 (jpo Z1 id kvs kvs') H2:=λa u e n=>by
    have n1 : ¬ ∃ kv ∈ kvs,kv.2 = .ref a:=λz=>n _ (inS z) (.inr (.inr rfl))
    have n2:NotIn kvs a:=λkv m e=>n1 ⟨kv,m,e⟩
    have n3 : ¬ ∃ kv ∈ kvs',kv.2 = .ref a:=λ⟨kv,m,e'⟩=>nn2 a u e n2 kv m e'
    refine ⟨k2 a u e (λz=>n _ (z ▸ rS) (.inr (.inl rfl))) n2,?_⟩
    unfold jpo
    rw [if_neg n3,if_neg n1]
   have kr2:OkR (jpo Z1 id kvs kvs') H2:=λa ro e=>by
    unfold jpo at e
    split at e
    .rename_i hm'
     obtain ⟨kv,m,ev⟩:=hm'
     obtain ⟨j,hj,ej⟩:=mem_iff_getElem.mp m
     obtain ⟨pp,_,_,c,ec,hc⟩:=qh B2.hs (by rw [getElem?_eq_getElem hj,ej])
     rw [ev] at ec
     cases ec
     exact ⟨_,hc,True.intro⟩
    .split at e
     .cases e
     .rename_i n1
      obtain ⟨u,hu,nu⟩:=kr1 a ro e
      by_cases z:a = W.S
      .subst z
       exact ⟨_,B2.sg,True.intro⟩
      .exact ⟨u,k2 a u hu z (λkv m e=>n1 ⟨kv,m,e⟩),nu⟩
   have O2:qm t H2 (jpo Z1 id kvs kvs') id W { Y1 with bd:=jdw Y1.bd (yw o) h }:=by
    refine O1.but f2 _ (jti (by intro z; cases z) (by intro z; cases z) (by intro z; cases z)) rfl rfl (jag f2 (jti (by intro z; cases z) (by intro z; cases z) (by intro z; cases z)) λ_ _=>jti (by intro z; cases z) (by intro z; cases z) (by intro z; cases z)) (λrb' rS' _=>?_) (jfl f2 (jti (by intro z; cases z) (by intro z; cases z) (by intro z; cases z)) λ_=>jti (by intro z; cases z) (by intro z; cases z) (by intro z; cases z)) (λrw' hw'=>?_)
    .have e:=jun (yw o) h Y1.bd
     rw [show jm9 (yw o) = jnh o from rfl] at e
     rw [e] at B2
     have nS : ∀ {a:Addr} {r:Role} {u:HO},Z1 a = some r -> H1 a = some u -> r ≠ (id,.sg) -> jpo Z1 id kvs kvs' a = some r:=λ{a r u} er eu n=>by
      have n1 : ¬ ∃ kv ∈ kvs,kv.2 = .ref a:=λz=>n (Option.some.inj (er.symm.trans (inS z)))
      have n3 : ¬ ∃ kv ∈ kvs',kv.2 = .ref a:=λ⟨kv,m,e'⟩=>nn2 a u eu (λkv m e=>n1 ⟨kv,m,e⟩) kv m e'
      unfold jpo
      rw [if_neg n3,if_neg n1]
      exact er
     refine ⟨nS rb Bq.ob (by intro z; cases z),nS rS Bq.sg (by intro z; cases z),kvs',B2,λkv m=>?_⟩
     obtain ⟨j,hj,ej⟩:=mem_iff_getElem.mp m
     obtain ⟨pp,_,_,c,ec,hc⟩:=qh B2.hs (by rw [getElem?_eq_getElem hj,ej])
     refine ⟨c,ec,?_⟩
     unfold jpo
     rw [if_pos ⟨kv,m,ec⟩]
    .obtain ⟨ws,h1,p1⟩:=hw'
     have n1 : ¬ ∃ kv ∈ kvs,kv.2 = .ref W.wy:=λz=>by
      have:=inS z
      rw [rw'] at this
      cases this
     have n2:NotIn kvs W.wy:=λkv m e=>n1 ⟨kv,m,e⟩
     have n3 : ¬ ∃ kv ∈ kvs',kv.2 = .ref W.wy:=λ⟨kv,m,e'⟩=>nn2 _ _ h1 n2 kv m e'
     refine ⟨?_,ws,k2 _ _ h1 (ner rw' rS (by intro z; cases z)) n2,Paired.vb p1 λ_ _=>jgk.fr f2⟩
     unfold jpo
     rw [if_neg n3,if_neg n1]
     exact rw'
   have ev : Y1.put h o = ({ Y1 with bd:=jdw Y1.bd (yw o) h },decide (((jr Y1.bd (yw o)).length:Int) + 1 = Y1.en)):=by
    unfold Wd.put
    rw [if_neg hm]
   refine ⟨_,rfl,jhq (λz=>?_) (λz=>?_)⟩
   .have zp:=z1.put h o
    rw [ev] at zp
    have hq2:qr H2 (jpo Z1 id kvs kvs') (.ref q) o:=qr.fr f2 ⟨q,rfl,nq,hq⟩
    refine ⟨_,rfl,W.x,W.dx,_,rfl,O2.ob.1,qx,_,rfl,_,id,W,_,false,q,o,rfl,O2,kr2,hq2,by show Y1.way.length <= 100000; have:=z1.wy; omega,zp.ks,λH3 O3 f3 kr3=>⟨_,_,rfl,?_,(f1.trans f2).trans (f3.mono λr hr=>.inl hr),kr3⟩⟩
    have e : Y1.jdx h o = Wd.post { Y1 with bd:=jdw Y1.bd (yw o) h } false o:=by
     unfold Wd.jdx
     rw [ev,if_pos z]
    rw [e]
    exact O3
   .refine ⟨_,_,rfl,?_,f1.trans f2,kr2⟩
    have e : Y1.jdx h o = { Y1 with bd:=jdw Y1.bd (yw o) h }:=by
     unfold Wd.jdx
     rw [ev,if_neg z]
    rw [e]
    exact O2
 .rintro U H1 ⟨v,Z1,rfl,O1,f1,kr1⟩
  rw [lx,take_length] at O1
  exact k Z1 H1 O1 f1 kr1
theorem jdy (ks:List (Int × Kp)) (h:Int) (B : Kp) : (jje ks h B).length = ks.length:=length_map ..
theorem jnx {t:Ad} {H:Hp} {Z : Rho} {id:Nat} {h:Int} {B : Kp} : ∀ {kvs:List (Key × V)} {ks:List (Int × Kp)},yt t H Z id kvs ks -> (ks.find? λc=>decide (c.1 = h)).map (·.2) = some B -> ∃ k A dk,jgi kvs (.inl h) = some (.ref k) /\ xg t H Z id h k A dk B
 | _,_,.nil,e=>by cases e
 | kv :: kvs,c :: ks,.cons ⟨e1,k,A,dk,e2,R⟩ r,e=>by
  by_cases z:c.1 = h
  .rw [find?_cons,decide_eq_true z] at e
   obtain rfl:c.2 = B:=Option.some.inj e
   subst z
   exact ⟨k,A,dk,by rw [jcf (by rw [e1]),e2],R⟩
  .rw [find?_cons,decide_eq_false z] at e
   obtain ⟨k',A',dk',v,R'⟩:=jnx r e
   exact ⟨k',A',dk',by rw [jci (λy=>z (Sum.inl.inj (e1.symm.trans y)))]; exact v,R'⟩
theorem jsm {t:Ad} {H H':Hp} {Z Z':Rho} {id:Nat} {h:Int} {κ':Kp} {k:Addr} {A':Nat -> Addr} {dk:Addr} (f:Fr (isK id h) Z H Z' H') (R':xg t H' Z' id h k A' dk κ') : ∀ {kvs:List (Key × V)} {ks:List (Int × Kp)},(ks.map (·.1)).Nodup -> jgi kvs (.inl h) = some (.ref k) -> yt t H Z id kvs ks -> yt t H' Z' id kvs (jje ks h κ')
 | _,_,_,_,.nil=>.nil
 | kv :: kvs,c :: ks,nd,ev,.cons ⟨e1,k0,A,dk0,e2,R⟩ r=>by
  rw [map_cons,nodup_cons] at nd
  show Paired _ (kv :: kvs) ((if c.1 = h then (h,κ') else c) :: jje ks h κ')
  have oth : ∀ {kvs:List (Key × V)} {ks:List (Int × Kp)},h ∉ ks.map (·.1) -> yt t H Z id kvs ks -> yt t H' Z' id kvs (jje ks h κ'):=λ{kvs ks} nh q=>by
   induction q with
   | nil=>exact .nil
   | cons a _ ih=>
    rename_i b _ _ _
    rw [map_cons,mem_cons] at nh
    obtain ⟨x1,x2,x3,x4,x5,x6⟩:=a
    have nb : ¬ b.1 = h:=λz=>nh (.inl z.symm)
    show Paired _ (_ :: _) ((if b.1 = h then (h,κ') else b) :: jje _ h κ')
    rw [if_neg nb]
    exact .cons ⟨x1,x2,x3,x4,x5,x6.fr (λi ⟨j,e⟩=>nb (by cases e; rfl)) f⟩ (ih λz=>nh (.inr z))
  by_cases z:c.1 = h
  .subst z
   rw [if_pos rfl]
   rw [jcf (by rw [e1])] at ev
   exact .cons ⟨e1,k,A',dk,Option.some.inj ev,R'⟩ (oth nd.1 r)
  .rw [if_neg z]
   refine .cons ⟨e1,k0,A,dk0,e2,R.fr (λi ⟨j,e⟩=>z (by cases e; rfl)) f⟩ (jsm f R' nd.2 ?_ r)
   rw [jci (λy=>z (Sum.inl.inj (e1.symm.trans y)))] at ev
   exact ev
theorem qm.j1b {t:Ad} {H H':Hp} {Z Z':Rho} {id:Nat} {W:WA} {Y : Wd} {h:Int} {κ':Kp} {k:Addr} {A':Nat -> Addr} {dk:Addr} (f:Fr (isK id h) Z H Z' H') (O:qm t H Z id W Y) (nd:(Y.ks.map (·.1)).Nodup) (ek : ∀ kvs,H W.kd = some (.dK kvs) -> jgi kvs (.inl h) = some (.ref k)) (R':xg t H' Z' id h k A' dk κ') : qm t H' Z' id W { Y with ks:=jje Y.ks h κ' }:=by
 have no : ∀ {p:Part},(∀ i,p ≠ .kp h i) -> ¬ isK id h (id,p):=λhp ⟨i,e⟩=>hp i (Prod.mk.inj e).2
 refine O.but f _ (no λ_ z=>by cases z) rfl rfl (λrk hk=>?_) (jbp f (no λ_ z=>by cases z) (no λ_ z=>by cases z) (no λ_ z=>by cases z)) (jfl f (no λ_ z=>by cases z) λ_=>no λ_ z=>by cases z) (jth f (no λ_ z=>by cases z))
 obtain ⟨kvs,h1,q⟩:=hk
 obtain ⟨h2,r2⟩:=jbo f h1 rk (no λ_ z=>by cases z)
 exact ⟨r2,kvs,h2,jsm f R' nd (ek kvs h1) q⟩
theorem jao (T:Txt K mg t) : xo P w K mg base CX0 2 t.ja0 t.jat ["self","house"] (λvs H Q _=>∃ Z id W Y h B,vs = [.ref W.x,.int h] /\ qm t H Z id W Y /\ Y.keep h = some B /\ ∀ k A dk,xg t H Z id h k A dk B -> Q (.ref k) H):=by
 refine T.jew.okB (N:=["self","house"]) λ_ A _ s H vs Q E hr h=>?_
 obtain ⟨Z,id,W,Y,h,B,rfl,O,e,g⟩:=h
 refine ⟨_,(@jb _ _ _ _ _ (zl (PW.pt (jif (ye (zo (jm (jjf T) hr.dn rfl T.jh5 T.je8.kp T.jh7 .nil jo (jc (pv 1) jg)))) (jd7 (ju7 (jph (jn3 hr) (pv 1) (qb (pv 0) rfl)))))) zk qc)
  (@jd _ _ _ (j6 (jwv (jn3 hr) (qb (pv 0) rfl) (pv 1) (λ_ _=>rfl))))),?_⟩
 obtain ⟨rk,kvs,hk,ks⟩:=O.kd
 obtain ⟨k,A',dk,ev,R⟩:=jnx ks e
 refine ⟨_,rfl,h,rfl,_,rfl,gq ?_⟩
 refine ⟨_,rfl,_,rfl,W.x,_,W.dx,_,_,rfl,O.ob.1,T.ji,T.zg,jcv,W.kd,some (.ref k),rfl,.inl ⟨kvs,.inl h,.inl hk,rfl,ev.symm⟩,_,rfl,gq ?_⟩
 exact ⟨_,rfl,W.x,_,W.dx,_,_,rfl,O.ob.1,T.ji,T.zg,jcv,_,rfl,W.kd,.ref k,rfl,.inl ⟨kvs,.inl h,.inl hk,rfl,ev.symm⟩,g k A' dk R⟩
theorem jnb (T:Txt K mg t) : xo P w K mg base CX0 3 t.jdl t.jdv ["self","house"] (λvs H Q _=>∃ Z id W Y h B,vs = [.ref W.x,.int h] /\ qm t H Z id W Y /\ Y.keep h = some B /\ B.done.length <= 1000 /\ ∀ r xs,H r = none -> Paired (qr H Z) xs B.done -> Q (.ref r) (upd H r (.lst xs))):=by
 refine T.jg9.okB (N:=["self","house"]) λ_ A _ s H vs Q E hr h=>?_
 obtain ⟨Z,id,W,Y,h,B,rfl,O,e,l,g⟩:=h
 refine ⟨_,(@jd _ _ _ (j6 (je2 uj rfl T.jlb boot_list (jc (qb (qd (pv 0) T.ji T.y9 (jao T) hr.dn T.wu .nil jo (jc (pv 1) jg)) rfl) jg)))),?_⟩
 refine ⟨_,rfl,W.x,W.dx,_,rfl,O.ob.1,qx,_,rfl,Z,id,W,Y,h,B,rfl,O,e,λk A' dk R=>?_⟩
 obtain ⟨xs,hx,px⟩:=R.dn
 exact ⟨k,_,dk,_,_,rfl,R.ob,T.jn,T.ja2,(xn A').2.2.1,A' 3,xs,rfl,.inl (SqL.of hx),λr nr=>g r xs nr px⟩
theorem gg (T:Txt K mg t) : xo P w K mg base CX0 3 t.ub t.kq ["self","purse"] (λvs H Q _=>∃ Z id W Y p,vs = [.ref W.x,.int p] /\ qm t H Z id W Y /\ 0 <= p /\ p < (Y.n:Int) /\ Q .non H):=by
 refine T.jcm.okB (N:=["self","purse"]) λ_ A _ s H vs Q E hr h=>?_
 obtain ⟨Z,id,W,Y,p,rfl,O,p0,p1,g⟩:=h
 refine ⟨_,(@jd _ _ _ (zl (ye (zo (jm (qp T) hr.dn rfl T.qv T.ql.kp T.qt .nil jo (@jmm _ _ _ _ _ _ _ (pv 1) jl (zw ji0 (qb (pv 0) rfl) jl) rfl rfl rfl)))) zk qc)),?_⟩
 refine ⟨_,rfl,_,rfl,W.x,_,W.dx,_,_,rfl,O.ob.1,T.ji,T.vd,jlk,_,_,rfl,rfl,p,0,(Y.n:Int) - 1,rfl,_,rfl,?_⟩
 rw [decide_eq_true (show 0 <= p /\ p <= (Y.n:Int) - 1 from ⟨p0,by omega⟩)]
 exact gq g
theorem jii (T:Txt K mg t) : xo P w K mg base (CX2 P w) 4 t.ua t.ko ["self","purse","goal"] (λvs H Q E=>∃ Z id W Y p q,vs = [.ref W.x,.int p,.int q] /\ qm t H Z id W Y /\ (0 <= p /\ p < (Y.n:Int)) /\ (0 <= q /\ q < (Y.n:Int)) /\ q ≠ p /\ (p ∈ Y.xx -> ∀ d H',gh H H' -> E (.ref t.xb) (some d) H') /\ (p ∉ Y.xx -> Q .non H)):=by
 refine T.jdm.j77 (N:=["self","purse","goal"]) λ_ A _ s H vs Q E hr h=>?_
 obtain ⟨Z,id,W,Y,p,q,rfl,O,hp,hq,nq,gx,g⟩:=h
 refine ⟨_,(@jb _ _ _ _ _ (qa (qd (pv 0) T.ji T.xp (gg T) hr.dn T.yn .nil jo (jc (pv 1) jg)))
  (@jb _ _ _ _ _ (qa (qd (pv 0) T.ji T.xp (gg T) hr.dn T.yn .nil jo (jc (pv 2) jg)))
  (@jd _ _ _ (zl (PW.pt (jif (jx jk9 (pv 1) (qb (pv 0) rfl) (by with_unfolding_all rfl)) (jd7 (jx jnf (pv 2) (pv 1) (qf _))))) (@jd _ _ _ (jx9 rfl T.jo7 T.jj9 (ji9 T) hr.dn T.jec (jc (pv 1) jg))) qc)))),?_⟩
 refine ⟨_,rfl,W.x,W.dx,_,rfl,O.ob.1,qx,_,rfl,Z,id,W,Y,p,rfl,O,hp.1,hp.2,?_⟩
 refine ⟨_,rfl,W.x,W.dx,_,rfl,O.ob.1,qx,_,rfl,Z,id,W,Y,q,rfl,O,hq.1,hq.2,?_⟩
 refine ⟨_,rfl,_,rfl,W.x,_,W.dx,_,_,rfl,O.ob.1,T.ji,T.ya,jhh,W.ch,_,rfl,.inl (SqL.of O.ch.1),rfl,jbc _,_,rfl,?_⟩
 refine jhq (λz=>?_) (λz=>?_)
 .rw [if_neg (by decide),kb] at z
  refine jlq ⟨_,rfl,zs1,λea hea=>⟨ea,_,rfl,ja,λd hd=>?_⟩⟩
  obtain ⟨g1,g2,g3,g4⟩:=j6u (Yq:=jom ea t.xb d) (Zq:=.xd [("purse",.int p)]) hea hd
  exact ⟨rfl,d,g2,gx (of_decide_eq_true z) d _ g3⟩
 .rw [if_neg (by decide),kb] at z
  refine ⟨_,rfl,_,rfl,rfl,_,rfl,jhq (λy=>?_) (λ_=>g λy=>z (decide_eq_true y))⟩
  exact absurd (V.int.inj (of_decide_eq_true y)) nq
theorem jb9 (T:Txt K mg t) : xo P w K mg base CX0 5 t.ph t.uf ["self","order"] (λvs H Q _=>∃ Z id W Y q o,vs = [.ref W.x,.ref q] /\ qm t H Z id W Y /\ H q = some (.tup (joi o)) /\ zc Y.n o = true /\ Q .non H):=by
 refine T.jdk.okB (N:=["self","order"]) λ_ A _ s H vs Q E hr h=>?_
 obtain ⟨Z,id,W,Y,q,o,rfl,O,hq,ho,g⟩:=h
 refine ⟨_,(@jd _ _ _ (zl (ye (zo (jid (jja T) hr.dn rfl T.jhw T.jez.kp T.jgn jo (jc (pv 1) jg) (jdu (qb (pv 0) rfl) jo5)))) zk qc)),?_⟩
 refine ⟨_,rfl,_,rfl,W.x,_,W.dx,_,_,rfl,O.ob.1,T.ji,T.vd,jlk,q,o,(Y.n:Int),rfl,hq,_,rfl,?_⟩
 rw [ho]
 exact gq g
theorem jcn (T:Txt K mg t) : xo P w K mg base CX0 3 t.jes t.jep ["self"] (λvs H Q _=>∃ Z id W Y,vs = [.ref W.x] /\ qm t H Z id W Y /\ Y.bd.length < 64 /\ (Y.bd.map (·.1)).Nodup /\ (∀ x ∈ Y.bd,x.1 ≠ []) /\
  ∀ (r:Addr) (vs':List V) (ts':List (List Int)) (H':Hp),H r = none -> gh H H' -> ts'.Perm (xq Y.bd Y.en) -> Paired (jyi H') vs' ts' -> H' r = some (.lst vs') -> Q (.ref r) H'):=by
 refine T.ji5.okB (N:=["self"]) λ_ A _ s H vs Q E hr h=>?_
 obtain ⟨Z,id,W,Y,rfl,O,l,nd,ne,g⟩:=h
 refine ⟨_,(@jd _ _ _ (j6 (xu (qb (pv 0) rfl) T.yh T.jf8 (jng T) hr.dn T.jg4 .nil jo))),?_⟩
 obtain ⟨rb,rS,kvs,Bq,sg⟩:=O.bd
 have lk:kvs.length < 64:=by
  rw [Paired.length Bq.hs,thP,length_map]
  exact l
 exact ⟨_,rfl,W.x,_,W.dx,_,_,rfl,O.ob.1,T.ji,T.yu,jkh,W.bd,W.db,_,rfl,Bq.ob,jss _ _ (by decide +kernel) (by decide +kernel),W.bd,W.db,W.S,Y.en,kvs,Y.bd,rfl,Bq,lk,nd,ne,g⟩
theorem jpn (T:Txt K mg t) : xo P w K mg base CX0 6 t.jfr t.jfq ["self","order","house"] (λvs H Q _=>∃ Z id W Y q o h B,vs = [.ref W.x,.ref q,.int h] /\ qm t H Z id W Y /\ OkR Z H /\ qr H Z (.ref q) o /\ zc Y.n o = true /\ o.p ∈ Y.xx /\ Y.keep h = some B /\ Y.way.length <= 100000 /\
  ∀ H',qm t H' Z id W { Y with way:=Y.way ++ [(true,h,o)] } -> Fr (isP id .wy) Z H Z H' -> OkR Z H' -> Q .non H'):=by
 refine T.jkl.okB (N:=["self","order","house"]) λ_ A _ s H vs Q E hr h=>?_
 obtain ⟨Z,id,W,Y,q,o,h,B,rfl,O,kr,uq,ho,oc,ek,l,g⟩:=h
 refine ⟨_,(@jb _ _ _ _ _ (qa (qd (pv 0) T.ji T.gd (jb9 T) hr.dn T.pz .nil jo (jc (pv 1) jg)))
  (@jb _ _ _ _ _ (zl (jx jd0 (jbn jip (pv 1) jl (λ_ _=>rfl)) (qb (pv 0) rfl) (by with_unfolding_all rfl)) zk qc)
  (@jb _ _ _ _ _ (qa (qd (pv 0) T.ji T.y9 (jao T) hr.dn T.wu .nil jo (jc (pv 2) jg)))
  (@jd _ _ _ (qa (jij PySem.F.plainAttrs_list PySem.F.slot_list_append PySem.F.type_list_append yr (qb (pv 0) rfl) (jc (@jhm _ _ _ _ _ (@jmm _ _ _ _ _ _ _ (zb (v:=.str "order") rfl T.ja6.choose_spec ⟨_,rfl⟩) (pv 2) (pv 1) rfl rfl rfl)) jg))))))),?_⟩
 have uq':=uq
 obtain ⟨_,eq,nq,hq⟩:=uq'
 cases eq
 refine ⟨_,rfl,W.x,W.dx,_,rfl,O.ob.1,qx,_,rfl,Z,id,W,Y,q,o,rfl,O,hq,ho,?_⟩
 refine ⟨_,rfl,q,joi o,0,.int o.p,rfl,rfl,SqT.of hq,rfl,_,rfl,W.x,_,W.dx,_,_,rfl,O.ob.1,T.ji,T.ya,jhh,W.ch,_,rfl,.inl (SqL.of O.ch.1),rfl,jbc _,_,rfl,?_⟩
 rw [if_pos rfl,kb,decide_eq_true oc]
 refine gq ?_
 refine ⟨_,rfl,W.x,W.dx,_,rfl,O.ob.1,qx,_,rfl,Z,id,W,Y,h,B,rfl,O,ek,λk A' dk R=>?_⟩
 obtain ⟨rw_,xs,hw,pw⟩:=O.wy
 refine ⟨_,rfl,W.x,_,W.dx,_,_,rfl,O.ob.1,T.ji,T.qq,jaw,.inl ⟨rfl,_,SqL.of hw⟩,_,rfl,_,rfl,zs3,λp np=>?_⟩
 have sp:=jf (o:=.tup [.str "order",.int h,.ref q]) np
 have lx:xs.length <= 1000000:=by rw [Paired.length pw]; omega
 refine ⟨W.wy,xs,.ref p,rfl,rfl,sp _ _ hw,big lx,?_⟩
 have O1:=O.fr (P:=λ_=>False) (λ_ z=>z) (Fr.same sp)
 have kr1:=kr.same sp
 have f2:Fr (isP id .wy) Z (upd H p (.tup [.str "order",.int h,.ref q])) Z (upd (upd H p (.tup [.str "order",.int h,.ref q])) W.wy (.lst (xs ++ [.ref p]))):=Fr.put rw_ rfl
 have f0:Fr (isP id .wy) Z H Z (upd H p (.tup [.str "order",.int h,.ref q])):=Fr.same sp
 refine g _ (O1.but f2 _ jw rfl rfl (jag f2 jw (λ_ _=>jw)) (jbp f2 jw jw jw) (jfl f2 jw (λ_=>jw)) (λ_ _=>⟨rw_,_,ja,?_⟩)) (f0.trans f2) kr1.put
 have np0:=kr.none np
 refine qk (Paired.vb pw λ_ _=>jgk.fr (f0.trans f2)) ⟨p,q,rfl,np0,?_,uq.fr (f0.trans f2)⟩
 rw [je (neu np0 rw_),ja]
 rfl
theorem jru {α β : Type} {F : α -> β -> Prop} {xs:List α} {ys:List β} {j:Nat} (h:Paired F xs ys) : Paired F (xs.eraseIdx j) (ys.eraseIdx j):=jc3 h
structure KSz (B : Kp) (m:Nat) : Prop where
 hd : B.xj.length <= m
 uc : B.unv.length + B.cho.length <= m
 dw : B.done.length + B.wait.length <= m
theorem jrn (T:Txt K mg t) : xo P w K mg base CX0 8 t.jgw t.jg3 ["self","at"] (λvs H Q _=>∃ Z id W Y i l B a b c,vs = [.ref W.x,.int (i:Nat)] /\ qm t H Z id W Y /\ OkR Z H /\ Y.way[i]? = some l /\ Y.keep l.2.1 = some B /\ (Y.ks.map (·.1)).Nodup /\ B.Ok Y.n /\ Y.n <= 8 /\ zc Y.n l.2.2 = true /\ KSz B 900 /\ Sz Y a b c /\ a + (B.take l.1 l.2.2).2.length <= 1000 /\ b + (B.take l.1 l.2.2).2.length <= 1000 /\ c + 16 * (B.take l.1 l.2.2).2.length <= 100000 /\
  ∀ Z' H' x,qm t H' Z' id W (Y.jv5 i l B) -> Fr (λr=>r.1 = id) Z H Z' H' -> OkR Z' H' -> jgk H' Z' x l -> Q x H'):=by
 refine T.jmw.okA wa λ_ A _ s H vs Q E hr h=>?_
 obtain ⟨Z,id,W,Y,i,l,B,a,b,c,rfl,O,kr,el,ek,nd,hok,n8,ho,ksz,sz,la,lb,lc,g⟩:=h
 refine ⟨_,(@jb _ _ _ _ _ (zl (ye (zo (jm (qp T) hr.dn rfl T.qv T.ql.kp T.qt .nil jo (@jmm _ _ _ _ _ _ _ (pv 1) jl (zw ji0 (jq ju rfl T.jch boot_len (jc (qb (pv 0) rfl) jg)) jl) rfl rfl rfl)))) zk qc)
  (@jb _ _ _ _ _ (j9 (i:=2) wa.nd rfl (Or.inl rfl) (jij PySem.F.plainAttrs_list PySem.F.slot_list_pop PySem.F.type_list_pop jze (qb (pv 0) rfl) (jc (pv 1) jg)))
  (@jb _ _ _ _ _ (jmn (pv 2) (jqd rfl (qe (jv (i:=3) wa.nd rfl (Or.inl rfl)) (qe (jv (i:=4) wa.nd rfl (Or.inl rfl)) (qe (jv (i:=5) wa.nd rfl (Or.inl rfl)) jlm)))))
  (@jb _ _ _ _ _ (j9 (i:=6) wa.nd rfl (Or.inl rfl) (jwv (jn3 hr) (qb (pv 0) rfl) (pv 4) (λ_ _=>rfl)))
  (@jb _ _ _ _ _ (zl (jx jnf (pv 3) (zb (v:=.str "order") rfl T.ja6.choose_spec ⟨_,rfl⟩) (qf _)) (@jd _ _ _ (qa (qd (pv 0) T.ji T.y3 (uz T) hr.dn T.wq .nil jo (@va _ _ _ _ _ (pv 4) (qd (pv 6) T.jn T.ji3 (jp1 T) hr.dn T.jk2 .nil jo (jc (pv 5) jg)) rfl rfl)))) (@jd _ _ _ (qa (qd (pv 0) T.ji T.y3 (uz T) hr.dn T.wq .nil jo (@va _ _ _ _ _ (pv 4) (qd (pv 6) T.jn T.jb4 (jie T) hr.dn T.jc0 .nil jo (jc (pv 5) jg)) rfl rfl)))))
  (@jd _ _ _ (j6 (pv 2)))))))),?_⟩
 obtain ⟨rw_,xs,hw,pw⟩:=O.wy
 have lx:xs.length = Y.way.length:=Paired.length pw
 have hi:=(List.getElem?_eq_some_iff.mp el).1
 have wl:=sz.wy
 refine ⟨_,rfl,_,rfl,W.x,_,W.dx,_,_,rfl,O.ob.1,T.ji,T.qq,jaw,W.wy,xs,rfl,.inl (SqL.of hw),_,_,rfl,rfl,(i:Int),0,(xs.length:Int) - 1,rfl,_,rfl,?_⟩
 rw [decide_eq_true (show 0 <= (i:Int) /\ (i:Int) <= (xs.length:Int) - 1 by omega)]
 refine gq ?_
 obtain ⟨x,ex,ux⟩:=jdr pw el
 refine ⟨_,rfl,W.x,_,W.dx,_,_,rfl,O.ob.1,T.ji,T.qq,jaw,.inl ⟨rfl,_,SqL.of hw⟩,_,rfl,W.wy,xs,(i:Int),i,x,rfl,rfl,hw,by omega,by omega,?_,ex,?_⟩
 .unfold seqIndex?
  simp
  omega
 have f1:Fr (isP id .wy) Z H Z (upd H W.wy (.lst (xs.eraseIdx i))):=Fr.put rw_ rfl
 have O1:qm t (upd H W.wy (.lst (xs.eraseIdx i))) Z id W { Y with way:=Y.way.eraseIdx i }:=O.but f1 _ jw rfl rfl (jag f1 jw (λ_ _=>jw)) (jbp f1 jw jw jw) (jfl f1 jw (λ_=>jw)) (λ_ _=>⟨rw_,_,ja,jru (Paired.vb pw λ_ _=>jgk.fr f1)⟩)
 have kr1:=kr.put (a:=W.wy) (o:=.lst (xs.eraseIdx i))
 have ux1:=ux.fr f1
 generalize upd H W.wy (.lst (xs.eraseIdx i)) = H1 at f1 O1 kr1 ux1
 obtain ⟨la',q,rfl,nl,hl,uq⟩:=ux1
 refine ⟨_,rfl,la',_,rfl,SqT.of hl,rfl,_,_,rfl,_,_,rfl,_,_,rfl,rfl,?_⟩
 obtain ⟨rk,kvs,hk,ks⟩:=O1.kd
 obtain ⟨k,A',dk,ev,R⟩:=jnx ks ek
 refine ⟨_,rfl,W.x,_,W.dx,_,_,rfl,O1.ob.1,T.ji,T.zg,jcv,_,rfl,W.kd,.ref k,rfl,.inl ⟨kvs,.inl l.2.1,.inl hk,rfl,ev.symm⟩,?_⟩
 obtain ⟨wb,h,o⟩:=l
 cases wb with
 | true=>
  refine ⟨_,rfl,rfl,_,rfl,jlq ?_⟩
  refine ⟨_,rfl,W.x,W.dx,_,rfl,O1.ob.1,qx,_,rfl,_,rfl,k,dk,_,rfl,R.ob,jco A',_,rfl,Z,id,h,k,A',dk,B,Y.n,q,o,rfl,R,uq,hok,n8,ho,ksz.hd,ksz.uc,ksz.dw,kr1,λZ2 H2 A2 r ys R2 f2 kr2 rr hr2 pr=>?_⟩
  have O2:=O1.j1b f2 nd (λkvs' hk'=>by rw [hk] at hk'; cases hk'; exact ev) R2
  have z2:Sz { { Y with way:=Y.way.eraseIdx i } with ks:=jje Y.ks h (Kp.jzo B o).1 } a b c:=⟨sz.bd,sz.hs,le_trans (length_eraseIdx_le _ _) sz.wy,by show (jje _ _ _).length <= 16; rw [jdy]; exact sz.ks⟩
  refine ⟨Z2,id,W,_,h,r,ys,(Kp.jzo B o).2,a,b,c,rfl,O2,kr2,hr2,λro e=>?_,pr,z2,la,lb,lc,λZ3 H3 O3 f3 kr3=>?_⟩
  .rw [rr] at e
   cases e
   exact jti (by intro z; cases z) (by intro z; cases z) (by intro z; cases z)
  .have fr:Fr (λr=>r.1 = id) Z H Z3 H3:=((f1.mono λr hr=>by rw [hr]).trans (f2.mono λr ⟨j,hr⟩=>by rw [hr])).trans (f3.mono λr hr=>by rcases hr with hr | hr | hr <;> rw [hr])
   exact ⟨_,rfl,g Z3 H3 _ O3 fr kr3 (jgk.fr fr ux)⟩
 | false=>
  refine ⟨_,rfl,rfl,_,rfl,gq ?_⟩
  refine ⟨_,rfl,W.x,W.dx,_,rfl,O1.ob.1,qx,_,rfl,_,rfl,k,dk,_,rfl,R.ob,jco A',_,rfl,Z,id,h,k,A',dk,B,Y.n,q,o,rfl,R,uq,hok,n8,ho,ksz.hd,ksz.uc,ksz.dw,kr1,λZ2 H2 A2 r ys R2 f2 kr2 rr hr2 pr=>?_⟩
  have O2:=O1.j1b f2 nd (λkvs' hk'=>by rw [hk] at hk'; cases hk'; exact ev) R2
  have z2:Sz { { Y with way:=Y.way.eraseIdx i } with ks:=jje Y.ks h (Kp.joe B o).1 } a b c:=⟨sz.bd,sz.hs,le_trans (length_eraseIdx_le _ _) sz.wy,by show (jje _ _ _).length <= 16; rw [jdy]; exact sz.ks⟩
  refine ⟨Z2,id,W,_,h,r,ys,(Kp.joe B o).2,a,b,c,rfl,O2,kr2,hr2,λro e=>?_,pr,z2,la,lb,lc,λZ3 H3 O3 f3 kr3=>?_⟩
  .rw [rr] at e
   cases e
   exact jti (by intro z; cases z) (by intro z; cases z) (by intro z; cases z)
  .have fr:Fr (λr=>r.1 = id) Z H Z3 H3:=((f1.mono λr hr=>by rw [hr]).trans (f2.mono λr ⟨j,hr⟩=>by rw [hr])).trans (f3.mono λr hr=>by rcases hr with hr | hr | hr <;> rw [hr])
   exact ⟨_,rfl,g Z3 H3 _ O3 fr kr3 (jgk.fr fr ux)⟩
def Kp.jk3 (B : Kp) (p:Int) (os:List O) : Int:=gI B.held p - ((os.filter λo=>!B.past o).map λo=>o.m).sum
theorem jl5 (T:Txt K mg t) : xo P w K mg base CX0 2 t.jbx t.jb3 ["self","purse","orders"] (λvs H Q _=>∃ Z id h k A dk B n p r xs os,vs = [.ref k,.int p,.ref r] /\ xg t H Z id h k A dk B /\ B.Ok n /\ 0 <= p /\ p < (n:Int) /\ H r = some (.lst xs) /\ Paired (qr H Z) xs os /\ (∀ o ∈ os,zc (n:Nat) o = true) /\ os.length <= 1000 /\ ∀ H',gh H H' -> Q (.int (B.jk3 p os)) H'):=by
 refine T.jf5.okB (N:=["self","purse","orders"]) λ_ A _ s H vs Q E hr h=>?_
 obtain ⟨Z,id,h,k,A',dk,B,n,p,r,xs,os,rfl,R,hok,p0,p1,hx,px,ho,ll,g⟩:=h
 refine ⟨_,(@jd _ _ _ (j6 (zw ji0 (jbn pf (qb (pv 0) rfl) (pv 1) (λ_ _=>rfl)) (jq (jvb rfl) rfl T.j10 boot_sum (jc (ja3 (N':=["order","self"]) (ix:=[none,some 0]) (x8 (by kernel_rfl)) rfl (@jav _ _ _ _ (pv 2)) (λ_ _ _ _=>(jv (i:=0) j8b rfl (Or.inl rfl) (.inr rfl))) (λ_ _ _ _=>(jjh (ye (zo (qd (pv 1) T.jn T.wj (jdp T) hr.dn T.jbb .nil jo (jc (pv 0) jg)))))) (λ_ _ _ _=>(jbn (j2k (K:=K) rfl) (pv 0) jl (λ_ _=>rfl)))) jg))))),?_⟩
 have e:=j29 (xs:=B.held) p0 (by rw [hok.h]; exact p1)
 refine ⟨_,rfl,k,_,dk,_,_,rfl,R.ob,T.jn,T.yx,(xn A').1,_,rfl,A' 1,_,p,.int (gI B.held p),rfl,rfl,SqL.of R.he,jiu p0 (by rw [getElem?_map,e]; rfl),?_⟩
 refine ⟨_,rfl,r,rfl,⟨_,SqL.of hx⟩,jgp (K:=K) (a:=r) (xs:=xs) (λi ys U H'=>∃ v,U = [v,some (.ref k)] /\ H' = H /\ ys = (((os.take i).filter λo=>!B.past o).map λo=>o.m).map V.int) ⟨none,rfl,rfl,rfl⟩ ?_ ?_ ?_⟩
 .rintro i ys U H' hi ⟨v,rfl,rfl,rfl⟩
  refine ⟨SqL.of hx,jls ?_⟩
  rw [length_map,length_map]
  refine le_trans (length_filter_le _ _) ?_
  rw [length_take]
  omega
 .rintro i x ys U H' ex ⟨v,rfl,rfl,rfl⟩
  obtain ⟨o,eo,uo⟩:=qh px ex
  obtain ⟨q,rfl,hq⟩:=uo.ref
  have om:o ∈ os:=mem_of_getElem? eo
  refine ⟨_,rfl,k,dk,_,rfl,R.ob,jco A',_,rfl,Z,id,h,k,A',dk,B,n,q,o,rfl,R,hq,ho o om,hok.x,_,rfl,?_⟩
  rw [take_snoc eo,filter_append,map_append,map_append]
  cases hp : B.past o with
  | true=>
   refine gq ⟨_,rfl,rfl,?_⟩
   simp [hp]
  | false=>
   refine jlq ⟨_,rfl,q,joi o,3,.int o.m,rfl,rfl,SqT.of hq,rfl,_,rfl,rfl,?_⟩
   simp [hp]
 .rintro ys U H' ⟨v,rfl,rfl,rfl⟩ l nl
  rw [Paired.length px,take_length]
  refine ⟨l,_,rfl,SqL.of ja,_,_,rfl,rfl,g _ (jf nl)⟩
def Wd.carried (Y : Wd) (o:O) : Bool:=decide (Y.en <= ((jr Y.bd (yw o)).length:Int))
theorem j3n {ns:List Int} {M:Int} (h1:M ∈ ns) (h2 : ∀ a ∈ ns,a <= M) : ns.max? = some M:=List.max?_eq_some_iff.mpr ⟨h1,h2⟩
def Wd.asks (Y : Wd) (o:O) (row:List O) : Wd:=Wd.post { Y with asked:=Y.asked.set o.p.toNat (row ++ [o]) } true o
theorem j6j {a:Addr} {o:Obj} {kvs:List (Key × V)} {g:TG} {ti:TT} {te:TE} {U0:St} {H0:Hp} {Q:VK} (Pv:Nat -> List V -> St -> Hp -> Prop) (h0:Pv 0 [] U0 H0)
  (hl : ∀ i ys U H,i <= kvs.length -> Pv i ys U H -> H a = some (.frz o (.dK kvs)) /\ ys.length <= sizeLine)
  (hs : ∀ i kv ys U H,kvs[i]? = some kv -> Pv i ys U H -> g kv.2 U H λU2 H2=>ti U2 H2 λc H3=>if c = true then te U2 H3 λy H4=>Pv (i + 1) (ys ++ [y]) U2 H4 else Pv (i + 1) ys U2 H3)
  (hd : ∀ ys U H,Pv kvs.length ys U H -> ∀ p,H p = none -> Q (.ref p) (upd H p (.lst ys))) :
  ∃ W : Nat -> Nat -> List V -> St -> Hp -> Prop,(∃ m,W 0 m [] U0 H0) /\ ∀ i m ys U H,W i m ys U H ->
   ys.length <= sizeLine /\ (((Itv a o kvs).stop i H /\ jwo Q ys H) \/
    ((Itv a o kvs).go i H /\ ∃ N:List V -> St -> Hp -> Prop,(∀ ys' U' H',N ys' U' H' -> ∃ m',m' < m /\ W (i + 1) m' ys' U' H') /\
     ∀ x H',(Itv a o kvs).yld i H x H' -> g x U H' λU2 H2=>ti U2 H2 λb H3=>if b = true then te U2 H3 λy H4=>N (ys ++ [y]) U2 H4 else N ys U2 H3)):=by
 refine ⟨λi m ys U H=>m = kvs.length - i /\ i <= kvs.length /\ Pv i ys U H,⟨kvs.length,by simp,zero_le _,h0⟩,?_⟩
 rintro i m ys U H ⟨rfl,hi,p⟩
 obtain ⟨q,hz⟩:=hl i ys U H hi p
 refine ⟨hz,?_⟩
 by_cases hlt:i < kvs.length
 .refine .inr ⟨⟨hlt,q⟩,Pv (i + 1),λys' U' H' p'=>⟨kvs.length - (i + 1),by omega,rfl,hlt,p'⟩,λx H' y=>?_⟩
  obtain ⟨e,kv,ek,ex⟩:=y
  subst e ex
  exact hs i kv ys U _ ek p
 .have e:i = kvs.length:=by omega
  subst e
  exact .inl ⟨⟨le_refl _,q⟩,hd ys U H p⟩
theorem j2p {H:Hp} {Z : Rho} {xs:List V} {os:List O} {o:O} (p:Paired (qr H Z) xs os) (e:os.getLast? = some o) : ∃ x,atI xs (-1) = some x /\ qr H Z x o:=by
 rw [List.getLast?_eq_getElem?] at e
 obtain ⟨x,ex,u⟩:=jdr p e
 have l:=Paired.length p
 have lt:=(List.getElem?_eq_some_iff.mp e).1
 refine ⟨x,?_,u⟩
 unfold atI ixN
 rw [if_neg (by decide),if_pos (by omega)]
 show xs[(-1 + (xs.length:Int)).toNat]? = some x
 rw [show (-1 + (xs.length:Int)).toNat = os.length - 1 by omega]
 exact ex
structure Wd.Ok (Y : Wd) : Prop where
 n8 : Y.n <= 8
 al : Y.asked.length = Y.n
 ao : ∀ row ∈ Y.asked,(∀ o ∈ row,zc Y.n o = true)
 ks : ∀ c ∈ Y.ks,c.2.Ok Y.n
 nd:(Y.ks.map (·.1)).Nodup
 k0 : 0 < Y.ks.length
 k1 : Y.ks.length <= 16
def j4n (t:Ad) : Sp:=λvs H Q E=>∃ Z id W Y p g m row,vs = [.ref W.x,.int p,.int g,.int m] /\ qm t H Z id W Y /\ OkR Z H /\ Y.Ok /\ (0 <= p /\ p < (Y.n:Int)) /\ (0 <= g /\ g < (Y.n:Int)) /\ g ≠ p /\ (1 <= m /\ m <= 1000) /\ Y.asked[p.toNat]? = some row /\ row.length <= 90 /\ Y.way.length <= 90000 /\ (p ∈ Y.xx -> ∀ d H',gh H H' -> E (.ref t.xb) (some d) H') /\
 (∀ o,row.getLast? = some o -> Y.carried o = false -> ∀ H',gh H H' -> E (.ref t.um) none H') /\
 ((∀ o,row.getLast? = some o -> Y.carried o = true) -> ∀ M,(Y.ks.map λc=>c.2.jk3 p row).max? = some M ->
  (M < m -> ∀ H',gh H H' -> E (.ref t.vq) none H') /\
  (m <= M -> p ∉ Y.xx -> ∀ H' q,qm t H' Z id W (Y.asks ⟨p,row.length,g,m⟩ row) -> Fr (λr=>r.1 = id) Z H Z H' -> OkR Z H' -> qr H' Z (.ref q) ⟨p,row.length,g,m⟩ -> Q (.ref q) H'))
set_option maxHeartbeats 0 in
theorem jtc (T:Txt K mg t) : xo P w K mg base (CX2 P w) 6 t.jjj t.ji8 ["self","purse","goal","much"] (j4n t):=by
 refine T.jn4.j8t jhf λ_ A _ s H vs Q E hr h=>?_
 obtain ⟨Z,id,W,Y,p,g,m,row,rfl,O,kr,hok,hp,hg,ng,hm,erow,lrow,lway,e0,e1,e2⟩:=h
 refine ⟨_,(@jb _ _ _ _ _ (qa (qd (pv 0) T.ji T.jb6 (jii T) hr.dn T.jc5 .nil j6e (@va _ _ _ _ _ (pv 1) (pv 2) rfl rfl)))
  (@jb _ _ _ _ _ (zl (ye (zo (jm (qp T) hr.dn rfl T.qv T.ql.kp T.qt .nil jo (@jmm _ _ _ _ _ _ _ (pv 3) jl (zb (v:=.int 1000) rfl T.jkd.choose_spec ⟨_,rfl⟩) rfl rfl rfl)))) zk qc)
  (@jb _ _ _ _ _ (j9 (i:=4) jhf.nd rfl (Or.inr rfl) (jbn pf (qb (pv 0) rfl) (pv 1) (λ_ _=>rfl)))
  (@jb _ _ _ _ _ (zl (PW.pt (jif (jx jye (jq ju rfl T.jch boot_len (jc (pv 4) jg)) (zb (v:=.int 99) rfl T.jfb.choose_spec ⟨_,rfl⟩) (qf _)) (jd7 (PW.pt (jkt (jy8 (pv 4) (λ_=>rfl)) (jg5 (ye (zo (qd (qb (pv 0) rfl) T.yh T.yi (ug T) hr.dn T.y6 .nil jo (jc (jbn pf (pv 4) (j66 j30 jl) (λ_ _=>rfl)) jg)))))))))) (@jd _ _ _ (js6 rfl T.jq3 T.jva (jc y7 jg))) qc)
  (@jb _ _ _ _ _ (zl (jx jye (pv 3) (jq (jxt rfl) rfl T.j41 boot_max (jc (jxf (ja3 (N':=["keeper","purse","asked"]) (ix:=[none,some 1,some 4]) (x8 (by kernel_rfl)) rfl (j6g (j46 PySem.F.plainAttrs_dict PySem.F.slot_dict_values PySem.F.type_dict_values jw8 (qb (pv 0) rfl))) (λ_ _ _ _=>(jv (i:=0) j8s rfl (Or.inl rfl) (.inr rfl))) (λ_ _ _ _=>jl9) (λ_ _ _ _=>(qd (pv 0) T.jn T.je7 (jl5 T) hr.dn T.jfx .nil jo (@va _ _ _ _ _ (pv 1) (pv 2) rfl rfl))))) jg)) (qf _)) (@jd _ _ _ (js6 rfl T.jnw T.jsn (jc y7 jg))) qc)
  (@jb _ _ _ _ _ (@j9 _ _ 5 _ _ _ _ jhf.nd rfl (Or.inl rfl) (@jhm _ _ _ _ _ (@j5l _ _ _ _ _ _ _ _ _ (pv 1) (jq ju rfl T.jch boot_len (jc (pv 4) jg)) (pv 2) (pv 3) rfl rfl rfl rfl)) (by rfl) (by first | exact .inl rfl | exact .inr rfl))
  (@jb _ _ _ _ _ (qa (jij PySem.F.plainAttrs_list PySem.F.slot_list_append PySem.F.type_list_append yr (pv 4) (jc (pv 5) jg)))
  (@jb _ _ _ _ _ (qa (qd (pv 0) T.ji T.vf (jbk T) hr.dn T.gc .nil jo (@va _ _ _ _ _ (zb (v:=.str "order") rfl T.ja6.choose_spec ⟨_,rfl⟩) (pv 5) rfl rfl)))
  (@jd _ _ _ (j6 (pv 5))))))))))),?_⟩
 obtain ⟨ra,rs,ha,hrows⟩:=O.ak
 obtain ⟨r,er⟩ : ∃ r,rs[p.toNat]? = some r:=⟨_,getElem?_eq_getElem (by rw [hrows.1]; exact (List.getElem?_eq_some_iff.mp erow).1)⟩
 obtain ⟨rr,xs,hr0,px⟩:=hrows.2 _ _ _ er erow
 obtain ⟨rk,kvs,kdH,ksH⟩:=O.kd
 have lk:kvs.length = Y.ks.length:=Paired.length ksH
 have lx:xs.length = row.length:=Paired.length px
 refine je6 λN hN=>⟨_,rfl,W.x,W.dx,_,rfl,O.ob.1,qx,_,rfl,_,rfl,Z,id,W,Y,p,g,rfl,O,hp,hg,ng,e0,λnc=>?_⟩
 refine hN _ _ (je6 λN hN=>⟨_,rfl,m,1,1000,rfl,_,rfl,?_⟩)
 rw [decide_eq_true hm]
 refine gq ?_
 refine hN _ _ (je6 λN hN=>⟨_,rfl,W.x,_,W.dx,_,_,rfl,O.ob.1,T.ji,T.gm,job,_,rfl,W.ak,_,p,.ref r,rfl,rfl,SqL.of ha,jiu hp.1 (by rw [getElem?_map,er]; rfl),?_⟩)
 refine hN [some (.ref W.x),some (.int p),some (.int g),some (.int m),some (.ref r),none] _ (je6 λN hN=>⟨_,rfl,r,xs,rfl,.inl (SqL.of hr0),_,_,rfl,rfl,_,rfl,jhq (λz=>absurd (of_decide_eq_true z) (by show ¬ (99:Int) < (xs.length:Int); omega)) (λ_=>?_)⟩)
 refine' (λkey=>_:(∀ HC,gh H HC -> (∀ o,row.getLast? = some o -> Y.carried o = true) -> (_:Hp -> Prop) HC) -> _) _
 rotate_left
 .cases hlast:row.getLast?
  case some o=>
   obtain ⟨x,ex,ux⟩:=j2p px hlast
   have x0:(!xs.isEmpty) = true:=by
    cases xs with
    | nil=>cases ex
    | cons _ _=>rfl
   refine ⟨_,rfl,true,.inl ⟨_,SqL.of hr0,x0.symm⟩,jlq ?_⟩
   obtain ⟨q0,rfl,hq0⟩:=ux.ref
   obtain ⟨rb,rS,bvs,Bq,sg⟩:=O.bd
   refine ⟨_,rfl,W.x,_,W.dx,_,_,rfl,O.ob.1,T.ji,T.yu,jkh,W.bd,W.db,_,rfl,Bq.ob,jss _ _ (by decide +kernel) (by decide +kernel),_,rfl,_,rfl,r,xs,-1,.ref q0,rfl,rfl,SqL.of hr0,ex,W.bd,W.db,W.S,Y.en,bvs,thP Y.bd,q0,jnh o,rfl,Bq.rd,hq0,λHC sHC=>⟨_,rfl,?_⟩⟩
   have ec:decide (Y.en <= ((qi (thP Y.bd) (jnh o)).length:Int)) = Y.carried o:=by
    unfold Wd.carried
    rw [show qi (thP Y.bd) (jnh o) = jr Y.bd (yw o) from jey (yw o) Y.bd]
   rw [ec]
   cases hc : Y.carried o with
   | false=>exact jlq ⟨zs1,e1 o hlast hc _ sHC⟩
   | true=>
    refine gq ?_
    have carr : ∀ o',row.getLast? = some o' -> Y.carried o' = true:=λo' e=>by rw [hlast] at e; cases e; exact hc
    exact key HC sHC carr
  case none=>
   have e0:row = []:=List.getLast?_eq_none_iff.mp hlast
   have x0:xs = []:=List.length_eq_zero_iff.mp (by rw [lx,e0]; rfl)
   refine ⟨_,rfl,false,.inl ⟨_,SqL.of hr0,by rw [x0]; rfl⟩,gq ?_⟩
   have carr : ∀ o,row.getLast? = some o -> Y.carried o = true:=λo e=>by rw [hlast] at e; cases e
   exact key H (gh.refl _) carr
 .rintro HC sHC carr
  have OC:=O.fr (P:=λ_=>False) (λ_ z=>z) (Fr.same sHC)
  have kd:=sHC _ _ kdH
  have ksR:yt t HC Z id kvs Y.ks:=yt.fr (P:=λ_=>False) (Fr.same sHC) (λ_ _ z=>z) ksH
  have hrC:=sHC _ _ hr0
  have pxC:Paired (qr HC Z) xs row:=Paired.vb px λ_ _=>qr.fr (P:=λ_=>False) (Fr.same sHC)
  refine hN _ _ (je6 λN hN=>⟨_,rfl,_,rfl,W.x,_,W.dx,_,_,rfl,OC.ob.1,T.ji,T.zg,jcv,.inr (.inr (.inl ⟨rfl,.inl ⟨_,kd⟩⟩)),W.kd,kvs,rfl,rfl,kd,λvw hvw=>?_⟩)
  have sv:=jf (o:=jpy vw W.kd) hvw
  have kd1:=sv _ _ kd
  have ks1:yt t (upd HC vw (jpy vw W.kd)) Z id kvs Y.ks:=yt.fr (P:=λ_=>False) (Fr.same sv) (λ_ _ z=>z) ksR
  have hr1:=sv _ _ hrC
  have px1:Paired (qr (upd HC vw (jpy vw W.kd)) Z) xs row:=Paired.vb pxC λ_ _=>qr.fr (P:=λ_=>False) (Fr.same sv)
  have gv:upd HC vw (jpy vw W.kd) vw = some (jpy vw W.kd):=ja
  generalize upd HC vw (jpy vw W.kd) = H1 at sv kd1 ks1 gv hr1 px1
  refine ⟨vw,W.kd,kvs,rfl,gv,kd1,λoo=>j6j (λi' ys U H'=>∃ v0,U = [v0,some (.int p),some (.ref r)] /\ gh (upd H1 W.kd (.frz oo (.dK kvs))) H' /\ ys = ((Y.ks.take i').map λc=>c.2.jk3 p row).map V.int) ⟨none,rfl,gh.refl _,rfl⟩ ?_ ?_ ?_⟩
  .rintro i' ys U H' hi ⟨v0,rfl,sm,rfl⟩
   refine ⟨sm _ _ ja,jls ?_⟩
   rw [length_map,length_map,length_take]
   have:=hok.k1
   omega
  .rintro i' kv ys U H' ek ⟨v0,rfl,sm,rfl⟩
   obtain ⟨c,ec,e1,kk,A',dk,e2,R⟩:=qh ks1 ek
   have cm:c ∈ Y.ks:=mem_of_getElem? ec
   rw [e2]
   have fz:Fr (isP id .kd) Z H1 Z H':=(Fr.put rk rfl:Fr (isP id .kd) Z H1 Z (upd H1 W.kd (.frz oo (.dK kvs)))).trans (Fr.same sm)
   have R':=R.fr (λf=>jw) fz
   have hr2:=(jbo fz hr1 rr jw).1
   have px2:Paired (qr H' Z) xs row:=Paired.vb px1 λ_ _=>qr.fr fz
   dsimp only [jlu,j2a]
   rw [if_pos rfl]
   refine ⟨_,rfl,kk,dk,_,rfl,R'.ob,jco A',_,rfl,_,rfl,Z,id,c.1,kk,A',dk,c.2,Y.n,p,r,xs,row,rfl,R',hok.ks c cm,hp.1,hp.2,hr2,px2,hok.ao row (mem_of_getElem? erow),by omega,λH'' s''=>⟨_,rfl,sm.trans s'',?_⟩⟩
   rw [take_snoc ec,map_append,map_append]
   rfl
  .rintro ys U H' ⟨v0,rfl,sm,rfl⟩ L nL
   rw [lk,take_length]
   have hD':=sm _ _ (ja (H:=H1) (a:=W.kd) (o:=.frz oo (.dK kvs)))
   have LD:L ≠ W.kd:=(jj hD' nL).symm
   have SF:gh HC (upd (upd H' L (.lst ((Y.ks.map λc=>c.2.jk3 p row).map V.int))) W.kd (.dK kvs)):=λc u hc=>by
    have h1:=sv _ _ hc
    by_cases z:c = W.kd
    .subst z
     rw [kd1] at h1
     rw [ja,h1]
    .have hc':H' c = some u:=sm _ _ (by rw [je z]; exact h1)
     rw [je z,je (jj hc' nL)]
     exact hc'
   refine ⟨W.kd,oo,.dK kvs,(by rw [je LD.symm]; exact hD'),λo' u' z=>?_,True.intro,L,Y.ks.map λc=>c.2.jk3 p row,rfl,SqL.of (by rw [je LD]; exact ja),(by rw [length_map]; exact hok.k0),λM hM hA=>?_⟩
   .have z':H W.kd = some (.frz o' u'):=z
    rw [kdH] at z'
    cases z'
   obtain ⟨eM,qM⟩:=e2 carr M (j3n hM hA)
   refine ⟨_,_,rfl,rfl,_,rfl,jhq (λz=>?_) (λz=>?_)⟩
   .exact ⟨zs1,eM (of_decide_eq_true z) _ (sHC.trans SF)⟩
   .have z' : m <= M:=by
     have : ¬ M < m:=λy=>z (decide_eq_true y)
     omega
    have sG:=sHC.trans SF
    generalize upd (upd H' L (.lst ((Y.ks.map λc=>c.2.jk3 p row).map V.int))) W.kd (.dK kvs) = G at SF sG
    have OG:=O.fr (P:=λ_=>False) (λ_ z=>z) (Fr.same sG)
    have krG:=kr.same sG
    have hrG:=sG _ _ hr0
    have pxG:Paired (qr G Z) xs row:=Paired.vb px λ_ _=>qr.fr (P:=λ_=>False) (Fr.same sG)
    refine hN _ _ (je6 λN hN=>⟨_,rfl,_,rfl,r,xs,rfl,.inl (SqL.of hrG),_,rfl,_,rfl,zs4,λq nq=>?_⟩)
    have eo : [V.int p,.int xs.length,.int g,.int m] = joi ⟨p,row.length,g,m⟩:=by rw [lx]; rfl
    rw [eo]
    have s1:=jf (o:=.tup (joi ⟨p,row.length,g,m⟩)) nq
    have O1:=OG.fr (P:=λ_=>False) (λ_ z=>z) (Fr.same s1)
    have kr1:=krG.same s1
    have hr1':=s1 _ _ hrG
    have px1':Paired (qr (upd G q (.tup (joi ⟨p,row.length,g,m⟩))) Z) xs row:=Paired.vb pxG λ_ _=>qr.fr (P:=λ_=>False) (Fr.same s1)
    have uq1:qr (upd G q (.tup (joi ⟨p,row.length,g,m⟩))) Z (.ref q) ⟨p,row.length,g,m⟩:=⟨q,rfl,krG.none nq,ja⟩
    dsimp only
    generalize upd G q (.tup (joi ⟨p,row.length,g,m⟩)) = G1 at s1 O1 kr1 hr1' px1' uq1
    refine hN _ _ (je6 λN hN=>⟨_,rfl,.inl ⟨rfl,_,SqL.of hr1'⟩,_,rfl,r,xs,.ref q,rfl,rfl,hr1',xa (by omega),?_⟩)
    have f2:Fr (isP id (.row p.toNat)) Z G1 Z (upd G1 r (.lst (xs ++ [.ref q]))):=Fr.put rr rfl
    have O2 : qm t (upd G1 r (.lst (xs ++ [.ref q]))) Z id W { Y with asked:=Y.asked.set p.toNat (row ++ [⟨p,row.length,g,m⟩]) }:=by
     refine O1.but f2 _ jw rfl rfl (jag f2 jw (λ_ _=>jw)) (jbp f2 jw jw jw) (λra' ha'=>?_) (jth f2 jw)
     obtain ⟨rs',h1,h2⟩:=ha'
     have eq':rs' = rs:=by
      have h3:=s1 _ _ (sG _ _ ha)
      rw [h1] at h3
      have h4:=HO.lst.inj (Option.some.inj h3)
      exact (List.map_inj_right (λa b e=>V.ref.inj e)).mp h4
     subst eq'
     obtain ⟨h5,r5⟩:=jbo f2 h1 ra' jw
     refine ⟨r5,rs',h5,?_,λi r' os e1' e2'=>?_⟩
     .rw [length_set]
      exact h2.1
     .by_cases z:i = p.toNat
      .subst z
       have:r' = r:=by
        rw [er] at e1'
        exact (Option.some.inj e1').symm
       subst this
       have lt:=(List.getElem?_eq_some_iff.mp erow).1
       rw [getElem?_set_self lt] at e2'
       cases e2'
       exact ⟨rr,_,ja,qk (Paired.vb px1' λ_ _=>qr.fr f2) (uq1.fr f2)⟩
      .rw [getElem?_set_ne (λy=>z y.symm)] at e2'
       obtain ⟨q1,q2,q3,q4⟩:=h2.2 i r' os e1' e2'
       obtain ⟨q5,q6⟩:=jbo f2 q3 q1 (jw (by intro y; cases y; exact z rfl))
       exact ⟨q6,q2,q5,Paired.vb q4 λ_ _=>qr.fr f2⟩
    have kr2:=kr1.put (a:=r) (o:=.lst (xs ++ [.ref q]))
    have uq2:=uq1.fr f2
    dsimp only
    generalize upd G1 r (.lst (xs ++ [.ref q])) = G2 at f2 O2 kr2 uq2
    refine hN _ _ (je6 λN hN=>⟨_,rfl,W.x,W.dx,_,rfl,O2.ob.1,qx,_,rfl,Z,id,W,_,true,q,⟨p,row.length,g,m⟩,rfl,O2,kr2,uq2,by show Y.way.length <= 100000; omega,hok.k1,λG3 O3 f3 kr3=>hN _ _ ⟨_,rfl,?_⟩⟩)
    have fr:Fr (λr=>r.1 = id) Z H Z G3:=((Fr.same (sG.trans s1)).trans (f2.mono λr hr=>by rw [hr])).trans (f3.mono λr hr=>by rw [hr])
    exact qM z' nc G3 q O3 fr kr3 (uq2.fr f3)
def y0 (K:W.Frag) (H:Hp) (a:Addr) (ks:List Int) : Prop:=H a = some (.lst (ks.map V.int)) \/ (ks = [] /\ SqT K H a [])
def jxd (K:W.Frag) : Sp:=λvs H Q _=>∃ a b ks,vs = [.ref a,.int b] /\ y0 K H a ks /\ ks.Pairwise (· < ·) /\ (∀ k ∈ ks,0 <= k /\ k < b) /\ Q (.bl true) H
theorem jq4 (T:Txt K mg t) : xo P w K mg base CX0 3 t.jhd t.jgv ["things","bound"] (jxd K):=by
 refine T.jhg.okA jcg λ_ A _ s H vs Q E hr h=>?_
 obtain ⟨a,b,ks,rfl,hc,up,rg,k⟩:=h
 refine ⟨_,(@jb _ _ _ _ _ (j9 (i:=2) jcg.nd rfl (Or.inl rfl) jl)
  (@jb _ _ _ _ _ (jk0 PassesOwn.never rfl (j5b (pv 0)) (jv (i:=3) jcg.nd rfl (Or.inl rfl)) (@jb _ _ _ _ _ (zl (ye (zo (jm (qp T) hr.dn rfl T.qv T.ql.kp T.qt .nil jo (@jmm _ _ _ _ _ _ _ (pv 3) (pv 2) (zw ji0 (pv 1) jl) rfl rfl rfl)))) (@jd _ _ _ (j6 jih)) qc)
  (@jd _ _ _ (j9 (i:=2) jcg.nd rfl (Or.inl rfl) (zw jb8 (pv 3) jl)))))
  (@jd _ _ _ (j6 jih)))),?_⟩
 rcases hc with ha | ⟨rfl,ha⟩
 .refine .inl ⟨_,rfl,a,rfl,⟨_,SqL.of ha⟩,jk5 (K:=K) (a:=a) (xs:=ks.map V.int) (λi U H'=>∃ v l,U = [some (.ref a),some (.int b),some (.int l),v] /\ H' = H /\ ∀ z ∈ ks.drop i,l <= z) ⟨none,0,rfl,rfl,λz hz=>(rg z hz).1⟩ (λi U H' _ ⟨_,_,_,e,_⟩=>SqL.of (by rw [e]; exact ha)) ?_ ?_⟩
  .rintro i x U H' hx ⟨v,l,rfl,rfl,hl⟩
   obtain ⟨z,ez,rfl⟩ : ∃ z,ks[i]? = some z /\ x = .int z:=by
    rw [getElem?_map] at hx
    cases e:ks[i]? with
    | none=>rw [e] at hx; cases hx
    | some z=>rw [e] at hx; exact ⟨z,rfl,(Option.some.inj hx).symm⟩
   obtain ⟨hi,ez'⟩:=List.getElem?_eq_some_iff.mp ez
   have r:=rg z (mem_of_getElem? ez)
   have lz:l <= z:=hl z (by rw [List.drop_eq_getElem_cons hi,ez']; simp)
   refine ⟨_,rfl,_,rfl,_,rfl,_,_,rfl,rfl,_,_,_,rfl,?_⟩
   rw [decide_eq_true ⟨lz,(by omega:z <= b - 1)⟩]
   refine ⟨_,rfl,gq ?_⟩
   refine ⟨_,rfl,_,_,rfl,rfl,_,_,rfl,rfl,λy hy=>?_⟩
   obtain ⟨j,hj,e⟩:=mem_iff_getElem.mp hy
   rw [List.length_drop] at hj
   rw [List.getElem_drop] at e
   have:=List.pairwise_iff_getElem.mp up i (i + 1 + j) hi (by omega) (by omega)
   rw [ez',e] at this
   omega
  .rintro U H' ⟨v,l,rfl,rfl,_⟩
   exact k
 .refine .inr ⟨_,rfl,a,rfl,⟨_,ha⟩,j1l (K:=K) (a:=a) (xs:=[]) (λi U H'=>∃ v,U = [some (.ref a),some (.int b),some (.int 0),v] /\ H' = H) ⟨none,rfl,rfl⟩ (λi U H' _ ⟨_,_,e⟩=>by rw [e]; exact ha) (λi x U H' hx _=>by simp at hx) ?_⟩
  rintro U H' ⟨v,rfl,rfl⟩
  exact k
theorem jgc (T:Txt K mg t) : xo P w K mg base CX0 4 t.jdd t.jcs ["thing","bound"] (λvs H Q _=>∃ a b ks,vs = [.ref a,.int b] /\ y0 K H a ks /\ ks.Pairwise (· < ·) /\ (∀ k ∈ ks,0 <= k /\ k < b) /\ ∀ H',gh H H' -> Q (.bl true) H'):=by
 refine T.jaf.okB (N:=["thing","bound"]) λ_ A _ s H vs Q E hr h=>?_
 obtain ⟨a,b,ks,rfl,hc,up,rg,k⟩:=h
 refine ⟨_,(@jd _ _ _ (j6 (jmu (jq jvl rfl T.j3 boot_isinstance (@va _ _ _ _ _ (pv 0) (@jhm _ _ _ _ _ (@va _ _ _ _ _ (jg0 (v:=.ty "list") rfl T.jlb boot_list rfl) (jg0 (v:=.ty "tuple") rfl T.jqp boot_tuple rfl) rfl rfl)) rfl rfl)) (jop (jm (jq4 T) hr.dn rfl T.jm3 T.jhg.kp T.jm2 .nil jo (@va _ _ _ _ _ (pv 0) (pv 1) rfl rfl)))))),?_⟩
 refine ⟨_,rfl,zs2,λq hq=>?_⟩
 have s1:=jf (o:=.tup [.ty "list",.ty "tuple"]) hq
 have hc1:y0 K (upd H q (.tup [.ty "list",.ty "tuple"])) a ks:=by
  rcases hc with h | ⟨e,h⟩
  .exact .inl (s1 _ _ h)
  .refine .inr ⟨e,?_⟩
   rcases h with h | h
   .exact .inl (jtg s1 h)
   .exact .inr h
 refine ⟨a,q,rfl,ja,?_,?_⟩
 .rcases hc1 with h | ⟨_,h⟩
  .exact .inl ⟨_,SqL.of h⟩
  .exact .inr ⟨_,h⟩
 exact ⟨_,rfl,jlq ⟨_,rfl,_,rfl,a,b,ks,rfl,hc1,up,rg,k _ s1⟩⟩
theorem y0.same {K:W.Frag} {H H':Hp} {a:Addr} {ks:List Int} (s1:gh H H') (hc:y0 K H a ks) : y0 K H' a ks:=by
 rcases hc with h | ⟨e,h⟩
 .exact .inl (s1 _ _ h)
 .refine .inr ⟨e,?_⟩
  rcases h with h | h
  .exact .inl (jtg s1 h)
  .exact .inr h
theorem y0.sq {K:W.Frag} {H:Hp} {a:Addr} {ks:List Int} (hc:y0 K H a ks) : SqL K H a (ks.map V.int) \/ SqT K H a (ks.map V.int):=by
 rcases hc with h | ⟨e,h⟩
 .exact .inl (SqL.of h)
 .subst e
  exact .inr h
theorem jl2 (T:Txt K mg t) : xo P w K mg base CX0 3 t.jbw t.jby ["thing"] (λvs H Q _=>∃ i,vs = [.int i] /\ Q (.bl (decide (1 <= i /\ i <= 16))) H):=by
 refine T.jbv.okB (N:=["thing"]) λ_ A _ s H vs Q E hr h=>?_
 obtain ⟨x,rfl,k⟩:=h
 refine ⟨_,(@jd _ _ _ (j6 (jm (qp T) hr.dn rfl T.qv T.ql.kp T.qt .nil jo (@jmm _ _ _ _ _ _ _ (pv 0) jl (zb (v:=.int 16) rfl T.jkr.choose_spec ⟨_,rfl⟩) rfl rfl rfl)))),?_⟩
 exact ⟨_,rfl,x,1,16,rfl,k⟩
theorem jyd (T:Txt K mg t) : xo P w K mg base CX0 3 t.jqv t.jq0 ["thing"] (λvs H Q _=>∃ i,vs = [.int i] /\ Q (.bl (decide (0 <= i /\ i <= 5))) H):=by
 refine T.jri.okB (N:=["thing"]) λ_ A _ s H vs Q E hr h=>?_
 obtain ⟨x,rfl,k⟩:=h
 refine ⟨_,(@jd _ _ _ (j6 (jm (qp T) hr.dn rfl T.qv T.ql.kp T.qt .nil jo (@jmm _ _ _ _ _ _ _ (pv 0) jl (zb (v:=.int 5) rfl T.jqj.choose_spec ⟨_,rfl⟩) rfl rfl rfl)))),?_⟩
 exact ⟨_,rfl,x,0,5,rfl,k⟩
theorem js8 (T:Txt K mg t) : xo P w K mg base CX0 1 t.jj0 t.jj5 ["houses","few"] (λvs H Q _=>∃ h f:Int,vs = [.int h,.int f] /\ Q (.bl (decide (h > 3 * f))) H):=by
 refine T.jj6.okB (N:=["houses","few"]) λ_ A _ s H vs Q E hr h=>?_
 obtain ⟨i,j,rfl,q⟩:=h
 refine ⟨_,(@jd _ _ _ (j6 (jcw jye (pv 0) (zw juq jl (pv 1)) (qf _)))),?_⟩
 exact ⟨_,rfl,_,rfl,_,_,rfl,rfl,.inl (by decide),_,_,rfl,rfl,q⟩
theorem jsz (T:Txt K mg t) : xo P w K mg base CX0 1 t.jjl t.jj3 ["houses","few"] (λvs H Q _=>∃ i j:Int,vs = [.int i,.int j] /\ Q (.int (i - j)) H):=by
 refine T.jjc.okB (N:=["houses","few"]) λ_ A _ s H vs Q E hr h=>?_
 obtain ⟨i,j,rfl,q⟩:=h
 refine ⟨_,(@jd _ _ _ (j6 (zw ji0 (pv 0) (pv 1)))),?_⟩
 exact ⟨_,rfl,_,rfl,_,_,rfl,rfl,q⟩
theorem jt4 (T:Txt K mg t) : xo P w K mg base CX0 3 t.jlx t.jlp ["thing"] (λvs H Q _=>∃ a ns,vs = [.ref a] /\ H a = some (.lst ((ns:List Int).map V.int)) /\ 2 <= ns.length /\ ns.length <= 8 /\ (∀ i ∈ ns,0 <= i /\ i <= 1000) /\ ∀ H',gh H H' -> Q (.bl true) H'):=by
 refine T.jll.okB (N:=["thing"]) λ_ A _ s H vs Q E hr h=>?_
 obtain ⟨a,ns,rfl,e,l2,l8,rg,k⟩:=h
 refine ⟨_,(@jb _ _ _ _ _ (zl (PW.pt (jif (ye (zo (jq jdf rfl T.j3 boot_isinstance (@va _ _ _ _ _ (pv 0) (jg0 (v:=.ty "list") rfl T.jlb boot_list rfl) rfl rfl)))) (jd7 (jx jyz (jq ju rfl T.jch boot_len (jc (pv 0) jg)) (zb (v:=.int 2) rfl T.jim.choose_spec ⟨_,rfl⟩) (qf _))))) (@jd _ _ _ (j6 jih)) qc)
  (@jd _ _ _ (j6 (jq (j0h rfl) rfl T.j4m boot_all (jc (ja3 (N':=["each"]) (ix:=[none]) (x8 (by kernel_rfl)) rfl (@jav _ _ _ _ (pv 0)) (λ_ _ _ _=>(jv (i:=0) j72 rfl (Or.inl rfl) (.inr rfl))) (λ_ _ _ _=>jl9) (λ_ _ _ _=>(jm (qp T) hr.dn rfl T.qv T.ql.kp T.qt .nil jo (@jmm _ _ _ _ _ _ _ (pv 0) jl (zb (v:=.int 1000) rfl T.jfy.choose_spec ⟨_,rfl⟩) rfl rfl rfl)))) jg))))),?_⟩
 refine ⟨_,rfl,_,_,_,true,rfl,.lst e,rfl,_,rfl,gq ?_⟩
 refine ⟨_,rfl,a,_,rfl,.inl (SqL.of e),_,_,rfl,rfl,_,rfl,jhq (λh1=>?_) (λh1=>?_)⟩
 .exfalso
  have:=of_decide_eq_true h1
  rw [length_map] at this
  omega
 refine ⟨_,rfl,a,rfl,⟨_,SqL.of e⟩,jgp (K:=K) (a:=a) (xs:=ns.map V.int) (λi ys U' H'=>∃ v,U' = [v] /\ H' = H /\ ys = (List.replicate i true).map V.bl) ⟨none,rfl,rfl,rfl⟩ ?_ ?_ ?_⟩
 .rintro i ys U' H' hi ⟨v,rfl,rfl,rfl⟩
  refine ⟨SqL.of e,jls ?_⟩
  rw [length_map] at hi
  rw [length_map,length_replicate]
  omega
 .rintro i x ys U' H' hx ⟨v,rfl,rfl,rfl⟩
  obtain ⟨z,ez,rfl⟩ : ∃ z,ns[i]? = some z /\ x = .int z:=by
   rw [getElem?_map] at hx
   cases e:ns[i]? with
   | none=>rw [e] at hx; cases hx
   | some z=>rw [e] at hx; exact ⟨z,rfl,(Option.some.inj hx).symm⟩
  dsimp only [jlu,j2a]
  rw [if_pos rfl]
  refine ⟨_,rfl,z,0,1000,rfl,?_⟩
  rw [decide_eq_true (rg z (mem_of_getElem? ez))]
  refine ⟨_,rfl,rfl,?_⟩
  rw [List.replicate_succ',map_append]
  rfl
 .rintro ys U' H' ⟨v,rfl,rfl,rfl⟩ q hq
  refine ⟨q,List.replicate (ns.map V.int).length true,rfl,SqL.of ja,?_⟩
  have g:=k _ (jf (o:=.lst ((List.replicate (ns.map V.int).length true).map V.bl)) hq)
  rw [show (List.replicate (ns.map V.int).length true).all id = true by simp]
  exact g
theorem jmf (T:Txt K mg t) : xo P w K mg base CX0 4 t.jbu t.jbm ["thing"] (λvs H Q _=>∃ a ns,vs = [.ref a] /\ H a = some (.lst ((ns:List Int).map V.int)) /\ 2 <= ns.length /\ ns.length <= 8 /\ (∀ i ∈ ns,0 <= i /\ i <= 1000) /\ ∀ H',gh H H' -> Q (.bl true) H'):=by
 refine T.jbr.okB (N:=["thing"]) λ_ A _ s H vs Q E hr h=>?_
 obtain ⟨a,ns,rfl,e,l2,l8,rg,k⟩:=h
 refine ⟨_,(@jd _ _ _ (j6 (jmu (jm (jt4 T) hr.dn rfl T.jqm T.jll.kp T.jp6 .nil jo (jc (pv 0) jg)) (jop (jcw jzy (jq ju rfl T.jch boot_len (jc (pv 0) jg)) (zb (v:=.int 8) rfl T.jky.choose_spec ⟨_,rfl⟩) (qf _)))))),?_⟩
 refine ⟨_,rfl,a,ns,rfl,e,l2,l8,rg,λH1 s1=>⟨_,rfl,jlq ?_⟩⟩
 refine ⟨_,rfl,a,_,rfl,.inl (SqL.of (s1 _ _ e)),_,_,rfl,rfl,?_⟩
 have g:=k H1 s1
 show Q (.bl (decide (((ns.map V.int).length:Int) <= 8))) H1
 rw [show decide (((ns.map V.int).length:Int) <= 8) = true from decide_eq_true (by rw [length_map]; omega)]
 exact g
theorem jot (T:Txt K mg t) : xo P w K mg base CX0 5 t.jee t.jeu ["houses","few","liars"] (λvs H Q _=>∃ h f a ks,vs = [.int h,.int f,.ref a] /\ (1 <= h /\ h <= 16) /\ (0 <= f /\ f <= 5) /\ 3 * f < h /\ y0 K H a ks /\ ks.Pairwise (· < ·) /\ (∀ k ∈ ks,0 <= k /\ k < h) /\ (ks.length:Int) <= f /\ ∀ H',gh H H' -> Q .non H'):=by
 refine T.jel.okB (N:=["houses","few","liars"]) λ_ A _ s H vs Q E hr h=>?_
 obtain ⟨h,f,a,ks,rfl,h1,f1,lt,hc,up,rg,l,k⟩:=h
 refine ⟨_,(@jb _ _ _ _ _ (zl (PW.pt (jif (ye (zo (jm (jl2 T) hr.dn rfl T.jf4 T.jbv.kp T.jga .nil jo (jc (pv 0) jg)))) (jd7 (ye (zo (jm (jyd T) hr.dn rfl T.juz T.jri.kp T.jus .nil jo (jc (pv 1) jg))))))) zk qc)
  (@jb _ _ _ _ _ (zl (ye (zo (jid (js8 T) hr.dn rfl T.jo0 T.jj6.kp T.jkz jo (jc (pv 0) jg) (jdu (pv 1) jo5)))) zk qc)
  (@jd _ _ _ (zl (PW.pt (jif (ye (zo (jm (jgc T) hr.dn rfl T.jc1 T.jaf.kp T.jdt .nil jo (@va _ _ _ _ _ (pv 2) (pv 0) rfl rfl)))) (jd7 (jx jye (jq ju rfl T.jch boot_len (jc (pv 2) jg)) (pv 1) (qf _))))) zk qc)))),?_⟩
 refine ⟨_,rfl,h,rfl,_,rfl,?_⟩
 rw [decide_eq_true h1]
 refine gq ⟨_,rfl,f,rfl,_,rfl,?_⟩
 rw [decide_eq_true f1]
 refine gq ⟨_,rfl,_,rfl,h,f,rfl,_,rfl,?_⟩
 rw [decide_eq_true (by omega)]
 refine gq ⟨_,rfl,_,rfl,a,h,ks,rfl,hc,up,rg,λH1 s1=>⟨_,rfl,gq ?_⟩⟩
 refine ⟨_,rfl,a,_,rfl,(hc.same s1).sq,_,rfl,_,_,rfl,rfl,_,rfl,jhq (λz=>?_) (λ_=>k _ s1)⟩
 exfalso
 have:=of_decide_eq_true z
 rw [length_map] at this
 omega
theorem jn1 (T:Txt K mg t) : xo P w K mg base CX0 5 t.jeh t.jek ["sums","cheats"] (λvs H Q _=>∃ a ns b ks,vs = [.ref a,.ref b] /\ H a = some (.lst ((ns:List Int).map V.int)) /\ 2 <= ns.length /\ ns.length <= 8 /\ (∀ i ∈ ns,0 <= i /\ i <= 1000) /\ y0 K H b ks /\ ks.Pairwise (· < ·) /\ (∀ k ∈ ks,0 <= k /\ k < (ns.length:Int)) /\ ∀ H',gh H H' -> Q .non H'):=by
 refine T.jev.okB (N:=["sums","cheats"]) λ_ A _ s H vs Q E hr h=>?_
 obtain ⟨a,ns,b,ks,rfl,e,l2,l8,r1,hc,up,rg,k⟩:=h
 refine ⟨_,(@jb _ _ _ _ _ (zl (ye (zo (jm (jmf T) hr.dn rfl T.jgg T.jbr.kp T.jf7 .nil jo (jc (pv 0) jg)))) zk qc)
  (@jd _ _ _ (zl (ye (zo (jm (jgc T) hr.dn rfl T.jc1 T.jaf.kp T.jdt .nil jo (@va _ _ _ _ _ (pv 1) (jq ju rfl T.jch boot_len (jc (pv 0) jg)) rfl rfl)))) zk qc))),?_⟩
 refine ⟨_,rfl,a,ns,rfl,e,l2,l8,r1,λH1 s1=>⟨_,rfl,gq ?_⟩⟩
 refine ⟨_,rfl,_,rfl,a,_,rfl,.inl (SqL.of (s1 _ _ e)),b,_,ks,rfl,hc.same s1,up,λk hk=>?_,λH2 s2=>⟨_,rfl,gq (k _ (s1.trans s2))⟩⟩
 rw [length_map]
 exact rg k hk
def PK (H:Hp) (Z : Rho) (id:Nat) (h:Int) (L:List (Nat × Addr × HO)) : Prop:=∀ x ∈ L,1 <= x.1 /\ Z x.2.1 = some (id,.kp h x.1) /\ H x.2.1 = some x.2.2
theorem PK.new {H:Hp} {Z : Rho} {id:Nat} {h:Int} {L:List (Nat × Addr × HO)} {p:Addr} {f:Nat} {u:HO} (k:PK H Z id h L) (n:H p = none) (hf : 1 <= f) : PK (upd H p u) (jar Z p (id,.kp h f)) id h ((f,p,u) :: L):=λx hx=>by
 rcases mem_cons.mp hx with rfl | hx
 .exact ⟨hf,za,ja⟩
 .obtain ⟨a,b,c⟩:=k x hx
  have:x.2.1 ≠ p:=jj c n
  exact ⟨a,by rw [xh this]; exact b,by rw [je this]; exact c⟩
theorem PK.obj {H:Hp} {Z : Rho} {id:Nat} {h:Int} {L:List (Nat × Addr × HO)} {x:Addr} {o:HO} (k:PK H Z id h L) (rx : Z x = some (id,.kp h 0)) : PK (upd H x o) Z id h L:=λy hy=>by
 obtain ⟨a,b,c⟩:=k y hy
 exact ⟨a,b,by rw [je (ner b rx (λz=>by have e:=(Part.kp.inj (Prod.mk.inj z).2).2; omega))]; exact c⟩
theorem PK.same {H H':Hp} {Z : Rho} {id:Nat} {h:Int} {L:List (Nat × Addr × HO)} (s:gh H H') (k:PK H Z id h L) : PK H' Z id h L:=λy hy=>let ⟨a,b,c⟩:=k y hy; ⟨a,b,s _ _ c⟩
theorem PK.at_ {H:Hp} {Z : Rho} {id:Nat} {h:Int} {L:List (Nat × Addr × HO)} (k:PK H Z id h L) (j:Nat) {f:Nat} {a:Addr} {u:HO} (e:L[j]? = some (f,a,u)) : Z a = some (id,.kp h f) /\ H a = some u:=(k _ (mem_of_getElem? e)).2
structure Mk (t:Ad) (Z0:Rho) (H0:Hp) (id:Nat) (h:Int) (x dx:Addr) (fs:List (Str × V)) (L:List (Nat × Addr × HO)) (Z : Rho) (H:Hp) : Prop where
 ob:H x = some (.ins t.j4 dx fs)
 rx : Z x = some (id,.kp h 0)
 pk:PK H Z id h L
 fr:Fr (isK id h) Z0 H0 Z H
 kr:OkR Z H
section
variable {t:Ad} {Z0 Z : Rho} {H0 H H':Hp} {id:Nat} {h:Int} {x dx:Addr} {fs fs':List (Str × V)} {L:List (Nat × Addr × HO)}
theorem Mk.new {p:Addr} {u:HO} (f:Nat) (m:Mk t Z0 H0 id h x dx fs L Z H) (n:H p = none) (hf : 1 <= f) (hu:autoParam (jt8 u) aP7) : Mk t Z0 H0 id h x dx fs ((f,p,u) :: L) (jar Z p (id,.kp h f)) (upd H p u):=by
 have nx:x ≠ p:=jj m.ob n
 exact ⟨by rw [je nx]; exact m.ob,by rw [xh nx]; exact m.rx,m.pk.new n hf,m.fr.trans (Fr.jln n),m.kr.jln hu⟩
theorem Mk.tmp (m:Mk t Z0 H0 id h x dx fs L Z H) (s:gh H H') : Mk t Z0 H0 id h x dx fs L Z H':=⟨s _ _ m.ob,m.rx,m.pk.same s,m.fr.trans (Fr.same s),m.kr.same s⟩
theorem Mk.obj (m:Mk t Z0 H0 id h x dx fs L Z H) : Mk t Z0 H0 id h x dx fs' L Z (upd H x (.ins t.j4 dx fs')):=⟨ja,m.rx,m.pk.obj m.rx,m.fr.trans (Fr.put m.rx ⟨0,rfl⟩),m.kr.put⟩
end
theorem jna (T:Txt K mg t) : xo P w K mg base CX0 1 t.vg t.jcy ["self","sums"] (λvs H Q _=>∃ Z id h x dx sa,∃ ns:List Int,vs = [.ref x,.ref sa] /\ H x = some (.ins t.j4 dx []) /\ Z x = some (id,.kp h 0) /\ OkR Z H /\ H sa = some (.lst (ns.map V.int)) /\ ns.length <= 1000 /\
  ∀ Z' H' he nn dn,Mk t Z H id h x dx (bkf he nn dn) [(3,dn,.lst []),(2,nn,.lst ((List.replicate ns.length 0).map V.int)),(1,he,.lst (ns.map V.int))] Z' H' -> Q .non H'):=by
 refine T.jhb.okB (N:=["self","sums"]) λ_ A _ s H vs Q E hr h=>?_
 obtain ⟨Z,id,h,x,dx,sa,ns,rfl,hx,rx,kr,hs,ln,k⟩:=h
 refine ⟨_,(@jb _ _ _ _ _ (jas (pv 0) (je2 uj rfl T.jlb boot_list (jc (pv 1) jg)) rfl)
  (@jb _ _ _ _ _ (jas (pv 0) (zw j4b (@zd _ _ _ _ (jc jl jg)) (jq ju rfl T.jch boot_len (jc (pv 1) jg))) rfl)
  (@jd _ _ _ (jas (pv 0) (@zd _ _ _ _ jg) rfl)))),?_⟩
 have m0:Mk t Z H id h x dx [] [] Z H:=⟨hx,rx,(λ_ z=>by cases z),Fr.refl,kr⟩
 have sx:sa ≠ x:=jly hs hx (by intro z; cases z)
 refine ⟨_,rfl,sa,_,rfl,.inl (SqL.of hs),λhe nh=>?_⟩
 have m1:=m0.new 1 nh (u:=.lst (ns.map V.int)) (by decide)
 have hs1:=jf (o:=.lst (ns.map V.int)) nh _ _ hs
 refine ⟨_,rfl,x,_,dx,_,rfl,m1.ob,T.jn,T.yx,(by show 0 < 1000; decide),?_⟩
 have m2:=m1.obj (fs':=uh "held" (.ref he) [])
 have hs2:upd (upd H he (.lst (ns.map V.int))) x (.ins t.j4 dx (uh "held" (.ref he) [])) sa = some (.lst (ns.map V.int)):=by rw [je sx]; exact hs1
 dsimp only
 generalize upd (upd H he (.lst (ns.map V.int))) x (.ins t.j4 dx (uh "held" (.ref he) [])) = G at m2 hs2
 refine ⟨zs1,λz1 n1=>⟨_,rfl,sa,_,rfl,.inl (SqL.of ((jf n1) _ _ hs2)),?_⟩⟩
 have m3:=m2.tmp (jf (o:=.lst [.int 0]) n1)
 refine ⟨z1,_,[.int 0],rfl,rfl,ja,?_,?_,?_,λnn n2=>?_⟩
 .omega
 .rw [length_map]; have:=jnu; omega
 .rw [length_map]; exact jls (by simp; omega)
 have er:(List.replicate (((ns.map V.int).length:Nat) : Int).toNat [V.int 0]).flatten = (List.replicate ns.length 0).map V.int:=by
  rw [Int.toNat_natCast,length_map,List.map_replicate]
  generalize ns.length = n
  induction n with
  | zero=>rfl
  | succ n ih=>rw [replicate_succ,flatten_cons,ih,replicate_succ]; rfl
 rw [er]
 have m4:=m3.new 2 n2 (u:=.lst ((List.replicate ns.length 0).map V.int)) (by decide)
 generalize upd (upd G z1 (.lst [.int 0])) nn (.lst ((List.replicate ns.length 0).map V.int)) = G4 at m4
 refine ⟨_,rfl,x,_,dx,_,rfl,m4.ob,T.jn,T.qw,(by show 1 < 1000; decide),?_⟩
 have m5:=m4.obj (fs':=uh "next_numbers" (.ref nn) (uh "held" (.ref he) []))
 dsimp only
 generalize upd G4 x (.ins t.j4 dx (uh "next_numbers" (.ref nn) (uh "held" (.ref he) []))) = G5 at m5
 refine ⟨zs0,λdn n3=>⟨_,rfl,x,_,dx,_,rfl,(m5.new 3 n3 (u:=.lst []) (by decide)).ob,T.jn,T.ja2,(by show 2 < 1000; decide),?_⟩⟩
 exact k _ _ he nn dn ((m5.new 3 n3 (u:=.lst []) (by decide)).obj)
def kp0 (ns:List Int) : Kp:=⟨ns,List.replicate ns.length 0,[],[],[],[],[]⟩
theorem jlf (T:Txt K mg t) : xo P w K mg base CX0 2 t.we t.jax ["self","sums"] (λvs H Q _=>∃ Z id h x dx sa,∃ ns:List Int,vs = [.ref x,.ref sa] /\ H x = some (.ins t.j4 dx []) /\ Z x = some (id,.kp h 0) /\ OkR Z H /\ H sa = some (.lst (ns.map V.int)) /\ ns.length <= 1000 /\
  ∀ Z' H' A,xg t H' Z' id h x A dx (kp0 ns) -> Fr (isK id h) Z H Z' H' -> OkR Z' H' -> Q .non H'):=by
 refine T.je1.okB (N:=["self","sums"]) λ_ A _ s H vs Q E hr h=>?_
 obtain ⟨Z,id,h,x,dx,sa,ns,rfl,hx,rx,kr,hs,ln,k⟩:=h
 refine ⟨_,(@jb _ _ _ _ _ (qa (j16 rfl T.j08 T.jf0 (jna T) hr.dn T.jhc .nil jo (@va _ _ _ _ _ (pv 0) (pv 1) rfl rfl)))
  (@jb _ _ _ _ _ (jas (pv 0) jrb rfl)
  (@jb _ _ _ _ _ (jas (pv 0) (@zd _ _ _ _ jg) rfl)
  (@jb _ _ _ _ _ (jas (pv 0) jrb rfl)
  (@jd _ _ _ (jas (pv 0) (@zd _ _ _ _ jg) rfl)))))),?_⟩
 refine ⟨_,rfl,_,rfl,Z,id,h,x,dx,sa,ns,rfl,hx,rx,kr,hs,ln,λZ1 H1 he nn dn m1=>?_⟩
 refine λhd n1=>⟨_,rfl,x,_,dx,_,rfl,(m1.new 4 n1 (u:=.dT []) (by decide)).ob,T.jn,T.jak,(by show 3 < 1000; decide),?_⟩
 have m2:=(m1.new 4 n1 (u:=.dT []) (by decide)).obj (fs':=uh "heard" (.ref hd) (bkf he nn dn))
 dsimp only
 generalize upd (upd H1 hd (.dT [])) x (.ins t.j4 dx (uh "heard" (.ref hd) (bkf he nn dn))) = G2 at m2
 refine ⟨zs0,λun n2=>⟨_,rfl,x,_,dx,_,rfl,(m2.new 5 n2 (u:=.lst []) (by decide)).ob,T.jn,T.xy,(by show 4 < 1000; decide),?_⟩⟩
 have m3:=(m2.new 5 n2 (u:=.lst []) (by decide)).obj (fs':=uh "unvoted" (.ref un) (uh "heard" (.ref hd) (bkf he nn dn)))
 dsimp only
 generalize upd (upd G2 un (.lst [])) x (.ins t.j4 dx (uh "unvoted" (.ref un) (uh "heard" (.ref hd) (bkf he nn dn)))) = G3 at m3
 refine λcs n3=>⟨_,rfl,x,_,dx,_,rfl,(m3.new 6 n3 (u:=.dT []) (by decide)).ob,T.jn,T.zv,(by show 5 < 1000; decide),?_⟩
 have m4:=(m3.new 6 n3 (u:=.dT []) (by decide)).obj (fs':=uh "choices" (.ref cs) (uh "unvoted" (.ref un) (uh "heard" (.ref hd) (bkf he nn dn))))
 dsimp only
 generalize upd (upd G3 cs (.dT [])) x (.ins t.j4 dx (uh "choices" (.ref cs) (uh "unvoted" (.ref un) (uh "heard" (.ref hd) (bkf he nn dn))))) = G4 at m4
 refine ⟨zs0,λwt n4=>⟨_,rfl,x,_,dx,_,rfl,(m4.new 7 n4 (u:=.lst []) (by decide)).ob,T.jn,T.zr,(by show 6 < 1000; decide),?_⟩⟩
 have m5:=(m4.new 7 n4 (u:=.lst []) (by decide)).obj (fs':=kf he nn dn hd un cs wt)
 refine k _ _ (λf=>match f with | 1=>he | 2=>nn | 3=>dn | 4=>hd | 5=>un | 6=>cs | _=>wt) ⟨m5.ob,m5.rx,λf h1 h7=>?_⟩ m5.fr m5.kr
 have p:=m5.pk
 match f,h1,h7 with
 | 1,_,_=>exact ⟨(p.at_ 6 rfl).1,_,(p.at_ 6 rfl).2,rfl⟩
 | 2,_,_=>exact ⟨(p.at_ 5 rfl).1,_,(p.at_ 5 rfl).2,rfl⟩
 | 3,_,_=>exact ⟨(p.at_ 4 rfl).1,_,(p.at_ 4 rfl).2,[],rfl,.nil⟩
 | 4,_,_=>exact ⟨(p.at_ 3 rfl).1,_,(p.at_ 3 rfl).2,[],rfl,rfl⟩
 | 5,_,_=>exact ⟨(p.at_ 2 rfl).1,_,(p.at_ 2 rfl).2,[],rfl,.nil⟩
 | 6,_,_=>exact ⟨(p.at_ 1 rfl).1,_,(p.at_ 1 rfl).2,[],rfl,.nil⟩
 | 7,_,_=>exact ⟨(p.at_ 0 rfl).1,_,(p.at_ 0 rfl).2,[],rfl,.nil⟩
def jlw (K:W.Frag) (H:Hp) (Z : Rho) (id:Nat) (a:Addr) (ks:List Int) : Prop:=(H a = some (.lst (ks.map V.int)) /\ ∀ r,Z a = some r -> ¬ r.1 = id) \/ (ks = [] /\ ∃ (o:Obj) (its:Array Value) (n:Nat),K.lookup a = some o /\ o.cls = .type "tuple" /\ o.data = .seq its n /\ its.size <= sizeLine /\ Vals [] its.toList)
theorem jlw.at_ {K:W.Frag} {H:Hp} {Z : Rho} {id:Nat} {a:Addr} {ks:List Int} (h:jlw K H Z id a ks) : y0 K H a ks:=h.imp (λq=>q.1) (λq=>⟨q.1,.inr q.2⟩)
theorem jlw.fr {K:W.Frag} {H H':Hp} {Z Z':Rho} {id:Nat} {a:Addr} {ks:List Int} (f:Fr (λr=>r.1 = id) Z H Z' H') (h:jlw K H Z id a ks) : y0 K H' a ks:=by
 rcases h with ⟨h,n⟩ | ⟨e,h⟩
 .exact .inl (f a _ h n).1
 .exact .inr ⟨e,.inr h⟩
theorem yt.fr' {t:Ad} {P:Role -> Prop} {Z Z':Rho} {H H':Hp} {id:Nat} (f:Fr P Z H Z' H') : ∀ {kvs:List (Key × V)} {ks:List (Int × Kp)},(∀ c ∈ ks,∀ j,¬ P (id,.kp c.1 j)) -> yt t H Z id kvs ks -> yt t H' Z' id kvs ks
 | _,_,_,.nil=>.nil
 | _,c :: _,n,.cons ⟨e,k,A,dk,ek,q⟩ r=>.cons ⟨e,k,A,dk,ek,q.fr (n c mem_cons_self) f⟩ (yt.fr' f (λc' hc=>n c' (mem_cons_of_mem _ hc)) r)
def allI (id:Nat) : Role -> Prop:=λr=>r.1 = id
structure MkW (t:Ad) (Z0:Rho) (H0:Hp) (id:Nat) (x dx:Addr) (fs:List (Str × V)) (Z : Rho) (H:Hp) : Prop where
 ob:H x = some (.ins t.jy dx fs)
 rx : Z x = some (id,.x)
 fr:Fr (allI id) Z0 H0 Z H
 kr:OkR Z H
section
variable {t:Ad} {Z0 Z Z':Rho} {H0 H H':Hp} {id:Nat} {x dx:Addr} {fs fs':List (Str × V)} {P:Role -> Prop}
theorem MkW.step (m:MkW t Z0 H0 id x dx fs Z H) (f:Fr P Z H Z' H') (n : ¬ P (id,.x)) (hP : ∀ r,P r -> r.1 = id) (kr:OkR Z' H') : MkW t Z0 H0 id x dx fs Z' H':=by
 obtain ⟨e,r⟩:=jbo f m.ob m.rx n
 exact ⟨e,r,m.fr.trans (f.mono hP),kr⟩
theorem MkW.tmp (m:MkW t Z0 H0 id x dx fs Z H) (s:gh H H') : MkW t Z0 H0 id x dx fs Z H':=m.step (P:=λ_=>False) (Fr.same s) (λz=>z) (λ_ z=>z.elim) (m.kr.same s)
theorem MkW.new {p:Addr} {u:HO} {r:Role} (m:MkW t Z0 H0 id x dx fs Z H) (n:H p = none) (hu:autoParam (jt8 u) aP7) : MkW t Z0 H0 id x dx fs (jar Z p r) (upd H p u):=m.step (P:=λ_=>False) (Fr.jln n) (λz=>z) (λ_ z=>z.elim) (m.kr.jln hu)
theorem MkW.obj (m:MkW t Z0 H0 id x dx fs Z H) : MkW t Z0 H0 id x dx fs' Z (upd H x (.ins t.jy dx fs')):=⟨ja,m.rx,m.fr.trans (Fr.put m.rx rfl),m.kr.put⟩
theorem MkW.fo (m:MkW t Z0 H0 id x dx fs Z H) : Fr (isP id .x) Z H Z (upd H x (.ins t.jy dx fs')):=Fr.put m.rx rfl
end
def jbz (ls:List Int) (n:Nat) : List Int:=((List.range n).map λ(i:Nat)=>(i:Int)).filter λi=>!decide (i ∈ ls)
def w0 (h f:Int) (ns cs ls:List Int) : Wd:=⟨ns.length,cs,(jbz ls h.toNat).map λi=>(i,kp0 ns),[],h - f,List.replicate ns.length [],[]⟩
structure Two (H:Hp) (Z : Rho) (ch ly:Addr) (cs ls:List Int) : Prop where
 c:H ch = some (.lst (cs.map V.int)) /\ Z ch = none
 l:H ly = some (.lst (ls.map V.int)) /\ Z ly = none
theorem Two.fr {P:Role -> Prop} {Z Z':Rho} {H H':Hp} {ch ly:Addr} {cs ls:List Int} (f:Fr P Z H Z' H') (h:Two H Z ch ly cs ls) : Two H' Z' ch ly cs ls:=⟨jpp f h.c.1 h.c.2,jpp f h.l.1 h.l.2⟩
theorem jkp (ls:List Int) (n:Nat) : jbz ls (n + 1) = jbz ls n ++ if (n:Int) ∈ ls then [] else [(n:Int)]:=by
 unfold jbz
 rw [List.range_succ,map_append,filter_append]
 congr 1
 by_cases z:(n:Int) ∈ ls
 .rw [if_pos z]
  simp [z]
 .rw [if_neg z]
  simp [z]
theorem jqr {ls:List Int} {n:Nat} {i:Int} (h:i ∈ jbz ls n) : 0 <= i /\ i < (n:Int) /\ i ∉ ls:=by
 unfold jbz at h
 obtain ⟨h1,h2⟩:=mem_filter.mp h
 obtain ⟨j,hj,rfl⟩:=mem_map.mp h1
 have:=mem_range.mp hj
 exact ⟨by omega,by omega,by simpa using h2⟩
theorem jnn (ls:List Int) (n:Nat) : (jbz ls n).length <= n:=by
 unfold jbz
 refine le_trans (length_filter_le _ _) ?_
 rw [length_map,length_range]
 exact le_refl _
abbrev q2 (ns:List Int) : List (Str × V):=uh "total" (.int ns.sum) (uh "purses" (.int (ns.map V.int).length) [])
abbrev q3 (ns:List Int) (ly:Addr) : List (Str × V):=uh "lying" (.ref ly) (q2 ns)
abbrev q4 (ns:List Int) (ly ch:Addr) : List (Str × V):=uh "cheating" (.ref ch) (q3 ns ly)
abbrev q5 (ns:List Int) (ly ch D:Addr) : List (Str × V):=uh "keepers" (.ref D) (q4 ns ly ch)
abbrev q6 (ns:List Int) (ly ch D b:Addr) : List (Str × V):=uh "board" (.ref b) (q5 ns ly ch D)
abbrev q7 (ns:List Int) (ly ch D b ak:Addr) : List (Str × V):=uh "asked" (.ref ak) (q6 ns ly ch D b)
def jzu (K:PySem.W.Frag) (t:Ad) : Sp:=λvs H Q _=>∃ Z id x dx h f sa ns la ca cs ls,vs = [.ref x,.int h,.int f,.ref sa,.ref la,.ref ca] /\ H x = some (.ins t.jy dx []) /\ Z x = some (id,.x) /\ OkR Z H /\ (1 <= h /\ h <= 16) /\ (0 <= f /\ f <= 5) /\ 3 * f < h /\
 H sa = some (.lst ((ns:List Int).map V.int)) /\ (∀ r,Z sa = some r -> ¬ allI id r) /\ 2 <= ns.length /\ ns.length <= 8 /\ (∀ i ∈ ns,0 <= i /\ i <= 1000) /\ jlw K H Z id la ls /\ ls.Pairwise (· < ·) /\ (∀ k ∈ ls,0 <= k /\ k < h) /\ (ls.length:Int) <= f /\ jlw K H Z id ca cs /\ cs.Pairwise (· < ·) /\ (∀ k ∈ cs,0 <= k /\ k < (ns.length:Int)) /\
 ∀ Z' H' W,W.x = x -> W.tot = ns.sum -> qm t H' Z' id W (w0 h f ns cs ls) -> (H' W.ly = some (.lst (ls.map V.int)) /\ Z' W.ly = none) -> Fr (allI id) Z H Z' H' -> OkR Z' H' -> Q .non H'
set_option maxHeartbeats 0 in
theorem jl1 (T:Txt K mg t) : xo P w K mg base CX0 6 t.gz t.jb0 ["self","houses","few","sums","liars","cheats"] (jzu K t):=by
 refine T.jf2.okB (N:=["self","houses","few","sums","liars","cheats"]) λ_ A _ s H vs Q E hr h=>?_
 obtain ⟨Z,id,x,dx,h,f,sa,ns,la,ca,cs,ls,rfl,hx,rx,kr,h1,f1,lt,hs,nsa,l2,l8,rg,ula,upl,rgl,llf,uca,up,rgc,k⟩:=h
 have hla:=ula.at_
 have hca:=uca.at_
 refine ⟨_,(@jb _ _ _ _ _ (qa (jid (jot T) hr.dn rfl T.ji6 T.jel.kp T.jgh jo (jc (pv 1) jg) (jdu (pv 2) (jdu (pv 4) jo5))))
  (@jb _ _ _ _ _ (qa (jid (jn1 T) hr.dn rfl T.jiy T.jev.kp T.jgd jo (jc (pv 3) jg) (jdu (pv 5) jo5)))
  (@jb _ _ _ _ _ (jas (pv 0) (jq ju rfl T.jch boot_len (jc (pv 3) jg)) rfl)
  (@jb _ _ _ _ _ (jas (pv 0) (jq (jvb rfl) rfl T.j10 boot_sum (jc (pv 3) jg)) rfl)
  (@jb _ _ _ _ _ (jas (pv 0) (je2 uj rfl T.jlb boot_list (jc (pv 4) jg)) rfl)
  (@jb _ _ _ _ _ (jas (pv 0) (je2 uj rfl T.jlb boot_list (jc (pv 5) jg)) rfl)
  (@jb _ _ _ _ _ (jas (pv 0) (jz0 (.dK []) (.inl rfl) (jn3 hr) (N':=["house","sums","liars"]) (ix:=[none,some 3,some 4]) (x8 (by kernel_rfl)) rfl (je3 rfl T.jju (jc (pv 1) jg)) (λ_ _ _ _=>(jv (i:=0) j8i rfl (Or.inl rfl) (.inr rfl))) (λ_ _ _ _=>(jjh (jx (jkx (K:=K) rfl) (pv 0) (pv 2) (by with_unfolding_all rfl)))) (λ_ _ _ _=>(pv 0)) (λ_ _ _ _=>(jxg T.jr9 (jlf T) hr.dn rfl T.jvd T.je5 .nil jo (jc (pv 1) jg)))) rfl)
  (@jb _ _ _ _ _ (jas (pv 0) (jxg T.jup (jlj T) hr.dn rfl T.jyk T.jgb .nil jo (jc (jid (jsz T) hr.dn rfl T.jpj T.jjc.kp T.jkk jo (jc (pv 1) jg) (jdu (pv 2) jo5)) jg)) rfl)
  (@jb _ _ _ _ _ (jas (pv 0) (ja3 (N':=["each"]) (ix:=[none]) (x8 (by kernel_rfl)) rfl (@jav _ _ _ _ (pv 3)) (λ_ _ _ _=>(jv (i:=0) j8f rfl (Or.inl rfl) (.inr rfl))) (λ_ _ _ _=>jl9) (λ_ _ _ _=>(@zd _ _ _ _ jg))) rfl)
  (@jd _ _ _ (jas (pv 0) (@zd _ _ _ _ jg) rfl))))))))))),?_⟩
 refine je6 λN hN=>⟨_,rfl,_,rfl,_,rfl,h,f,la,ls,rfl,h1,f1,lt,hla,upl,rgl,llf,λH1 s1=>?_⟩
 refine hN _ _ (je6 λN hN=>⟨_,rfl,_,rfl,sa,ns,ca,cs,rfl,s1 _ _ hs,l2,l8,rg,hca.same s1,up,rgc,λH2 s2=>?_⟩)
 have m2:MkW t Z H id x dx [] Z H2:=MkW.tmp ⟨hx,rx,Fr.refl,kr⟩ (s1.trans s2)
 have sa_ : ∀ {Z' H' fs},MkW t Z H id x dx fs Z' H' -> H' sa = some (.lst (ns.map V.int)):=λm=>(m.fr _ _ hs nsa).1
 have la_ : ∀ {Z' H' fs},MkW t Z H id x dx fs Z' H' -> y0 K H' la ls:=λm=>ula.fr m.fr
 have ca_ : ∀ {Z' H' fs},MkW t Z H id x dx fs Z' H' -> y0 K H' ca cs:=λm=>uca.fr m.fr
 refine hN _ _ (je6 λN hN=>⟨_,rfl,sa,_,rfl,.inl (SqL.of (sa_ m2)),_,rfl,x,_,dx,_,rfl,m2.ob,T.ji,T.vd,(by show 0 < 1000; decide),?_⟩)
 have m3:=m2.obj (fs':=uh "purses" (.int (ns.map V.int).length) [])
 dsimp only
 generalize upd H2 x (.ins t.jy dx (uh "purses" (.int (ns.map V.int).length) [])) = G3 at m3
 refine hN _ _ (je6 λN hN=>⟨_,rfl,sa,ns,rfl,SqL.of (sa_ m3),_,rfl,x,_,dx,_,rfl,m3.ob,T.ji,T.jix,(by show 1 < 1000; decide),?_⟩)
 have m4:=m3.obj (fs':=q2 ns)
 dsimp only
 generalize upd G3 x (.ins t.jy dx (q2 ns)) = G4 at m4
 refine hN _ _ (je6 λN hN=>⟨_,rfl,la,_,rfl,(la_ m4).sq,λly nly=>?_⟩)
 have m5:=m4.tmp (jf (o:=.lst (ls.map V.int)) nly)
 have l5:upd G4 ly (.lst (ls.map V.int)) ly = some (.lst (ls.map V.int)) /\ Z ly = none:=⟨ja,m4.kr.none nly⟩
 refine ⟨_,rfl,x,_,dx,_,rfl,m5.ob,T.ji,T.jej,(by show 2 < 1000; decide),?_⟩
 have m6:=m5.obj (fs':=q3 ns ly)
 have l6:=jpp (m5.fo (fs':=q3 ns ly)) l5.1 l5.2
 dsimp only
 generalize upd (upd G4 ly (.lst (ls.map V.int))) x (.ins t.jy dx (q3 ns ly)) = G6 at m6 l6
 refine hN _ _ (je6 λN hN=>⟨_,rfl,ca,_,rfl,(ca_ m6).sq,λch nch=>?_⟩)
 have m7:=m6.tmp (jf (o:=.lst (cs.map V.int)) nch)
 have c7:Two (upd G6 ch (.lst (cs.map V.int))) Z ch ly cs ls:=⟨⟨ja,m6.kr.none nch⟩,jpp (P:=λ_=>False) (Fr.same (jf nch)) l6.1 l6.2⟩
 refine ⟨_,rfl,x,_,dx,_,rfl,m7.ob,T.ji,T.ya,(by show 3 < 1000; decide),?_⟩
 have m8:=m7.obj (fs':=q4 ns ly ch)
 have c8:=c7.fr (m7.fo (fs':=q4 ns ly ch))
 dsimp only
 generalize upd (upd G6 ch (.lst (cs.map V.int))) x (.ins t.jy dx (q4 ns ly ch)) = G8 at m8 c8
 clear m2 m3 m4 m5 m6 m7 c7 nly nch l5 l6
 refine hN _ _ (je6 λN hN=>⟨_,rfl,h,rfl,(by omega),(by omega),λD nD=>?_⟩)
 have m9:=m8.new (r:=(id,.kd)) nD (u:=.dK [])
 have c9:Two (upd G8 D (.dK [])) (jar Z D (id,.kd)) ch ly cs ls:=c8.fr (P:=λ_=>False) (Fr.jln nD)
 refine jz8 (lo:=0) (n:=h.toNat) (λi U H'=>∃ v kvs Z',U = [v,some (.ref sa),some (.ref la)] /\ MkW t Z H id x dx (q4 ns ly ch) Z' H' /\ Two H' Z' ch ly cs ls /\ Z' D = some (id,.kd) /\ H' D = some (.dK kvs) /\ yt t H' Z' id kvs ((jbz ls i).map λi=>(i,kp0 ns))) ⟨none,[],_,rfl,m9,c9,za,ja,.nil⟩ ?_ ?_
 .rintro i U H' hi ⟨v,kvs,Z',rfl,m,hc,rD,hD,ks⟩
  have e0:(0:Int) + (i:Int) = i:=Int.zero_add _
  rw [e0]
  refine ⟨_,rfl,_,rfl,la,_,rfl,(la_ m).sq,rfl,jbc _,_,rfl,jhq (λzz=>?_) (λzz=>?_)⟩
  rotate_left
  .have nl:(i:Int) ∈ ls:=by
    rw [if_pos rfl,kb] at zz
    simpa using zz
   refine ⟨_,kvs,Z',rfl,m,hc,rD,hD,?_⟩
   rw [jkp,if_pos nl,append_nil]
   exact ks
  have nl : ¬ (i:Int) ∈ ls:=by
   rw [if_pos rfl,kb] at zz
   simpa using zz
  refine ⟨_,rfl,_,rfl,λk dk nk ndk ne=>?_⟩
  have sk:gh H' (upd H' dk (.own k)):=jf ndk
  have nk1:upd H' dk (.own k) k = none:=by rw [je ne.symm]; exact nk
  have f1:Fr (λ_=>False) Z' H' (jar Z' k (id,.kp i 0)) (upd (upd H' dk (.own k)) k (.ins t.j4 dk [])):=(Fr.same sk).trans (Fr.jln nk1)
  have kr1:OkR (jar Z' k (id,.kp i 0)) (upd (upd H' dk (.own k)) k (.ins t.j4 dk [])):=(m.kr.same sk).jln
  have m1:=m.step f1 (λz=>z) (λ_ z=>z.elim) kr1
  refine ⟨_,id,(i:Int),k,dk,sa,ns,rfl,ja,za,kr1,sa_ m1,by omega,λZ2 H2' A2 R2 f2 kr2=>⟨rfl,?_⟩⟩
  have f12:Fr (isK id i) Z' H' Z2 H2':=(f1.mono λ_ z=>z.elim).trans f2
  have nk2 : ∀ {p:Part},(∀ j,p ≠ .kp (i:Int) j) -> ¬ isK id (i:Int) (id,p):=λhp ⟨j,e⟩=>hp j (Prod.mk.inj e).2
  have mm:=m.step f12 (nk2 λ_ z=>by cases z) (λr ⟨j,e⟩=>by rw [e]) kr2
  have hc2:=hc.fr f12
  obtain ⟨hD2,rD2⟩:=jbo f12 hD rD (nk2 λ_ z=>by cases z)
  have ks2:yt t H2' Z2 id kvs ((jbz ls i).map λi=>(i,kp0 ns)):=yt.fr' f12 (λc hc j=>by
   obtain ⟨i',hi',rfl⟩:=mem_map.mp hc
   have:=jqr hi'
   refine nk2 λj' z=>?_
   have:i' = (i:Int):=(Part.kp.inj z).1
   omega) ks
  have nv:jgi kvs (.inl (i:Int)) = none:=by
   cases e:jgi kvs (.inl (i:Int)) with
   | none=>rfl
   | some v=>
    exfalso
    have hm:=j1p e
    obtain ⟨j,hj,ej⟩:=mem_iff_getElem.mp hm
    rw [length_map] at hj
    obtain ⟨c,ec,e1,_⟩:=qh ks2 (getElem?_eq_getElem hj)
    rw [List.getElem_map] at ej
    rw [e1] at ej
    obtain ⟨i',hi',rfl⟩:=mem_map.mp (mem_of_getElem? ec)
    have:=jqr hi'
    have:i' = (i:Int):=Sum.inl.inj ej
    omega
  have lk:kvs.length <= 1000:=by
   rw [Paired.length ks2,length_map]
   have:=jnn ls i
   omega
  refine ⟨_,jwf.k (k:=.inl (i:Int)) hD2 (xa lk),?_⟩
  rw [jnj _ nv]
  have f3:Fr (isP id .kd) Z2 H2' Z2 (upd H2' D (.dK (kvs ++ [(.inl (i:Int),.ref k)]))):=Fr.put rD2 rfl
  refine ⟨_,_,Z2,rfl,mm.step f3 jw (λr e=>by rw [e]) kr2.put,hc2.fr f3,rD2,ja,?_⟩
  rw [jkp,if_neg nl,map_append]
  exact qk (yt.fr f3 (λ_ _=>jw) ks2) ⟨rfl,k,A2,dk,rfl,R2.fr (λ_=>jw) f3⟩
 .rintro U G10 ⟨v,kvs,Z1,rfl,m10,c10,rD,hD,ks⟩
  clear m8 c8 m9 c9 nD
  refine ⟨_,rfl,x,_,dx,_,rfl,m10.ob,T.ji,T.zg,(by show 4 < 1000; decide),?_⟩
  have m11:=m10.obj (fs':=q5 ns ly ch D)
  have fo11:=m10.fo (fs':=q5 ns ly ch D)
  have c11:=c10.fr fo11
  have k11:=jag fo11 jw (λ_ _=>jw) rD ⟨kvs,hD,ks⟩
  dsimp only
  generalize upd G10 x (.ins t.jy dx (q5 ns ly ch D)) = G11 at m11 c11 k11
  clear fo11 m10 c10
  refine hN _ _ (je6 λN hN=>⟨_,rfl,_,rfl,h,f,rfl,λb db nb ndb neb=>?_⟩)
  have sb:gh G11 (upd G11 db (.own b)):=jf ndb
  have nb1:upd G11 db (.own b) b = none:=by rw [je neb.symm]; exact nb
  refine ⟨b,db,h - f,rfl,ja,λS G12 nS Bq fr=>⟨rfl,?_⟩⟩
  have nS0:G11 S = none:=by
   have nSb:S ≠ b:=λz=>by rw [z,ja] at nS; cases nS
   rw [je nSb] at nS
   exact sb.free nS
  have s12:gh G11 G12:=λc u e=>fr _ _ (by rw [je (jj (sb _ _ e) nb1)]; exact sb _ _ e) (jj e nb)
  have bS:b ≠ S:=jly Bq.ob Bq.sg (by intro z; cases z)
  have f12:Fr (λ_=>False) Z1 G11 (jar (jar Z1 b (id,.bd)) S (id,.sd)) G12:=λa u e _=>⟨s12 _ _ e,by rw [xh (jj e nS0),xh (jj e nb)]⟩
  have kr12:OkR (jar (jar Z1 b (id,.bd)) S (id,.sd)) G12:=λa r e=>by
   by_cases z:a = S
   .subst z
    exact ⟨_,Bq.sg,True.intro⟩
   .rw [xh z] at e
    by_cases y:a = b
    .subst y
     exact ⟨_,Bq.ob,True.intro⟩
    .rw [xh y] at e
     obtain ⟨u,hu,nu⟩:=m11.kr a r e
     exact ⟨u,s12 _ _ hu,nu⟩
  have m12:=m11.step f12 (λz=>z) (λ_ z=>z.elim) kr12
  have c12:=c11.fr f12
  have k12:=jag f12 (λz=>z) (λ_ _ z=>z) k11.1 k11.2
  have b12:(jar (jar Z1 b (id,.bd)) S (id,.sd)) b = some (id,.bd) /\ (jar (jar Z1 b (id,.bd)) S (id,.sd)) S = some (id,.sd) /\ ∃ kvs,yy t G12 b db S (h - f) kvs (thP []) /\ jzm (jar (jar Z1 b (id,.bd)) S (id,.sd)) id kvs:=⟨by rw [xh bS,za],za,[],Bq,λ_ z=>by cases z⟩
  generalize jar (jar Z1 b (id,.bd)) S (id,.sd) = Z2 at m12 c12 k12 b12 kr12 f12
  clear m11 c11 k11 f12 kr12
  refine ⟨_,rfl,x,_,dx,_,rfl,m12.ob,T.ji,T.yu,(by show 5 < 1000; decide),?_⟩
  have m13:=m12.obj (fs':=q6 ns ly ch D b)
  have fo:=m12.fo (fs':=q6 ns ly ch D b)
  have c13:=c12.fr fo
  have k13:=jag fo jw (λ_ _=>jw) k12.1 k12.2
  have b13:=jbp fo jw jw jw b12.1 b12.2.1 b12.2.2
  dsimp only
  generalize upd G12 x (.ins t.jy dx (q6 ns ly ch D b)) = G13 at m13 c13 k13 b13
  clear m12 c12 k12 b12 fo
  have hsa:=sa_ m13
  refine hN _ _ (je6 λN hN=>⟨_,rfl,sa,rfl,⟨_,SqL.of hsa⟩,jgp (K:=K) (a:=sa) (xs:=ns.map V.int) (λi ys U H'=>∃ v rr Z',U = [v] /\ ys = rr.map V.ref /\ rr.length = i /\ MkW t Z H id x dx (q6 ns ly ch D b) Z' H' /\ Fr (λ_=>False) Z2 G13 Z' H' /\ ∀ (j:Nat) r,rr[j]? = some r -> Z' r = some (id,.row j) /\ H' r = some (.lst [])) ⟨none,[],Z2,rfl,rfl,rfl,m13,Fr.refl,λj r e=>by cases e⟩ ?_ ?_ ?_⟩)
  .rintro i ys U H' hi ⟨v,rr,Z',rfl,rfl,lr,mm,ff,hrr⟩
   rw [length_map] at hi
   refine ⟨SqL.of (sa_ mm),jls ?_⟩
   rw [length_map]
   omega
  .rintro i y ys U H' hy ⟨v,rr,Z',rfl,rfl,lr,mm,ff,hrr⟩
   dsimp only [jlu,j2a]
   rw [if_pos rfl]
   refine ⟨zs0,λp np=>⟨_,rr ++ [p],jar Z' p (id,.row i),rfl,?_,?_,mm.new np,ff.trans (Fr.jln np),λj r e=>?_⟩⟩
   .rw [map_append]; rfl
   .rw [length_append,lr]; rfl
   .by_cases z:j < rr.length
    .rw [List.getElem?_append_left z] at e
     obtain ⟨q1,q2⟩:=hrr j r e
     have:r ≠ p:=jj q2 np
     exact ⟨by rw [xh this]; exact q1,by rw [je this]; exact q2⟩
    .rw [List.getElem?_append_right (by omega)] at e
     have j0:j = rr.length:=by
      have:=(List.getElem?_eq_some_iff.mp e).1
      simp at this
      omega
     subst j0
     rw [Nat.sub_self] at e
     cases e
     rw [lr]
     exact ⟨za,ja⟩
  .rintro ys U H' ⟨v,rr,Z3,rfl,rfl,lr,m14,f14,hrr⟩ ak nak
   rw [length_map] at lr
   have c14:=c13.fr f14
   have k14:=jag f14 (λz=>z) (λ_ _ z=>z) k13.1 k13.2
   have b14:=jbp f14 (λz=>z) (λz=>z) (λz=>z) b13.1 b13.2.1 b13.2.2
   have f15:Fr (λ_=>False) Z3 H' (jar Z3 ak (id,.ak)) (upd H' ak (.lst (rr.map V.ref))):=Fr.jln nak
   have m15:=m14.new (r:=(id,.ak)) nak (u:=.lst (rr.map V.ref))
   have c15:=c14.fr f15
   have k15:=jag f15 (λz=>z) (λ_ _ z=>z) k14.1 k14.2
   have b15:=jbp f15 (λz=>z) (λz=>z) (λz=>z) b14.1 b14.2.1 b14.2.2
   have a15:(jar Z3 ak (id,.ak)) ak = some (id,.ak) /\ ∃ rs,upd H' ak (.lst (rr.map V.ref)) ak = some (.lst (rs.map V.ref)) /\ jq5 (upd H' ak (.lst (rr.map V.ref))) (jar Z3 ak (id,.ak)) id rs (List.replicate ns.length []):=by
    refine ⟨za,rr,ja,by rw [lr,length_replicate],λi r os e1 e2=>?_⟩
    obtain ⟨q1,q2⟩:=hrr i r e1
    obtain ⟨q3,q4⟩:=jbo f15 q2 q1 (λz=>z)
    have:os = []:=eq_of_mem_replicate (mem_of_getElem? e2)
    subst this
    exact ⟨q4,[],q3,.nil⟩
   generalize jar Z3 ak (id,.ak) = Z4 at f15 m15 c15 k15 b15 a15
   refine ⟨_,rfl,x,_,dx,_,rfl,m15.ob,T.ji,T.gm,(by show 6 < 1000; decide),?_⟩
   have m16:=m15.obj (fs':=q7 ns ly ch D b ak)
   have fo:=m15.fo (fs':=q7 ns ly ch D b ak)
   have c16:=c15.fr fo
   have k16:=jag fo jw (λ_ _=>jw) k15.1 k15.2
   have b16:=jbp fo jw jw jw b15.1 b15.2.1 b15.2.2
   have a16:=jfl fo jw (λ_=>jw) a15.1 a15.2
   dsimp only
   generalize upd (upd H' ak (.lst (rr.map V.ref))) x (.ins t.jy dx (q7 ns ly ch D b ak)) = G16 at m16 c16 k16 b16 a16
   refine hN _ _ ⟨zs0,λwy nwy=>?_⟩
   have f17:Fr (λ_=>False) Z4 G16 (jar Z4 wy (id,.wy)) (upd G16 wy (.lst [])):=Fr.jln nwy
   have m17:=m16.new (r:=(id,.wy)) nwy (u:=.lst [])
   have c17:=c16.fr f17
   have k17:=jag f17 (λz=>z) (λ_ _ z=>z) k16.1 k16.2
   have b17:=jbp f17 (λz=>z) (λz=>z) (λz=>z) b16.1 b16.2.1 b16.2.2
   have a17:=jfl f17 (λz=>z) (λ_ z=>z) a16.1 a16.2
   refine ⟨_,rfl,x,_,dx,_,rfl,m17.ob,T.ji,T.qq,(by show 7 < 1000; decide),?_⟩
   have m18:=m17.obj (fs':=wof (ns.map V.int).length ns.sum ly ch D b ak wy)
   have fo18:=m17.fo (fs':=wof (ns.map V.int).length ns.sum ly ch D b ak wy)
   have c18:=c17.fr fo18
   have k18:=jag fo18 jw (λ_ _=>jw) k17.1 k17.2
   have b18:=jbp fo18 jw jw jw b17.1 b17.2.1 b17.2.2
   have a18:=jfl fo18 jw (λ_=>jw) a17.1 a17.2
   have y18:=jth (way:=[]) fo18 jw za ⟨[],ja,.nil⟩
   refine k _ _ ⟨x,dx,ns.sum,ly,ch,D,b,ak,wy,db,S⟩ rfl rfl ⟨⟨?_,m18.rx⟩,c18.c,k18,b18,a18,y18⟩ c18.l m18.fr m18.kr
   refine (m18.ob).trans ?_
   show some (HO.ins t.jy dx (wof ((ns.map V.int).length:Int) ns.sum ly ch D b ak wy)) = some (HO.ins t.jy dx (wof (ns.length:Int) ns.sum ly ch D b ak wy))
   rw [length_map]
theorem jj2 (T:Txt K mg t) : xo P w K mg base CX0 3 t.jae t.jaj ["self","liar"] (λvs H Q _=>∃ Z id W Y h ls,vs = [.ref W.x,.int h] /\ qm t H Z id W Y /\ H W.ly = some (.lst ((ls:List Int).map V.int)) /\ h ∈ ls /\ Q .non H):=by
 refine T.jd2.okB (N:=["self","liar"]) λ_ A _ s H vs Q E hr h=>?_
 obtain ⟨Z,id,W,Y,h,ls,rfl,O,hl,hm,g⟩:=h
 refine ⟨_,(@jd _ _ _ (zl (PW.pt (jif (ye (zo (jm (jjf T) hr.dn rfl T.jh5 T.je8.kp T.jh7 .nil jo (jc (pv 1) jg)))) (jd7 (jx jd0 (pv 1) (qb (pv 0) rfl) (by with_unfolding_all rfl))))) zk qc)),?_⟩
 refine ⟨_,rfl,h,rfl,_,rfl,gq ?_⟩
 refine ⟨_,rfl,_,rfl,W.x,_,W.dx,_,_,rfl,O.ob.1,T.ji,T.jej,jwn,W.ly,_,rfl,.inl (SqL.of hl),rfl,jbc _,_,rfl,?_⟩
 rw [if_pos rfl,kb,decide_eq_true hm]
 exact gq g
theorem jsh {K:W.Frag} {H:Hp} {Z : Rho} {xs:List V} {os:List O} (p:Paired (qr H Z) xs os) : Paired (jyn K H) xs (os.map yw):=by
 induction p with
 | nil=>exact .nil
 | cons h _ ih=>
  obtain ⟨a,e,_,q⟩:=h
  exact .cons ⟨a,e,SqT.of q⟩ ih
def Wd.may (Y : Wd) (o:O) : Prop:=o.p ∈ Y.xx \/ ∃ row,Y.asked[o.p.toNat]? = some row /\ o ∈ row
theorem jmk (T:Txt K mg t) : xo P w K mg base CX0 6 t.jkf t.jkc ["self","liar","order"] (λvs H Q _=>∃ Z id W Y h q o ls a b c,vs = [.ref W.x,.int h,.ref q] /\ qm t H Z id W Y /\ OkR Z H /\ H W.ly = some (.lst ((ls:List Int).map V.int)) /\ h ∈ ls /\ qr H Z (.ref q) o /\ zc Y.n o = true /\ Y.may o /\ Sz Y a b c /\ a + 1 <= 1000 /\ b + 1 <= 1000 /\ c + 16 <= 100000 /\
  ∀ Z' H',qm t H' Z' id W (Y.qo h [o]) -> Fr (j3c id) Z H Z' H' -> OkR Z' H' -> Q .non H'):=by
 refine T.jpf.okB (N:=["self","liar","order"]) λ_ A _ s H vs Q E hr h=>?_
 obtain ⟨Z,id,W,Y,h,q,o,ls,a,b,c,rfl,O,kr,hl,hm,uq,ho,may,sz,la,lb,lc,g⟩:=h
 refine ⟨_,(@jb _ _ _ _ _ (qa (qd (pv 0) T.ji T.jc4 (jj2 T) hr.dn T.jd9 .nil jo (jc (pv 1) jg)))
  (@jb _ _ _ _ _ (qa (qd (pv 0) T.ji T.gd (jb9 T) hr.dn T.pz .nil jo (jc (pv 2) jg)))
  (@jb _ _ _ _ _ (zl (PW.pt (jkt (jx jd0 (jbn jip (pv 2) jl (λ_ _=>rfl)) (qb (pv 0) rfl) (by with_unfolding_all rfl)) (jg5 (jx (jtd hr.units) (pv 2) (jbn pf (qb (pv 0) rfl) (jbn jip (pv 2) jl (λ_ _=>rfl)) (λ_ _=>rfl)) (by with_unfolding_all rfl))))) zk qc)
  (@jd _ _ _ (qa (qd (pv 0) T.ji T.y3 (uz T) hr.dn T.wq .nil jo (@va _ _ _ _ _ (pv 1) (@zd _ _ _ _ (jc (pv 2) jg)) rfl rfl))))))),?_⟩
 have uq':=uq
 obtain ⟨_,eq,nq,hq⟩:=uq'
 cases eq
 refine ⟨_,rfl,W.x,W.dx,_,rfl,O.ob.1,qx,_,rfl,Z,id,W,Y,h,ls,rfl,O,hl,hm,?_⟩
 refine ⟨_,rfl,W.x,W.dx,_,rfl,O.ob.1,qx,_,rfl,Z,id,W,Y,q,o,rfl,O,hq,ho,?_⟩
 refine ⟨_,rfl,q,joi o,0,.int o.p,rfl,rfl,SqT.of hq,rfl,_,rfl,W.x,_,W.dx,_,_,rfl,O.ob.1,T.ji,T.ya,jhh,W.ch,_,rfl,.inl (SqL.of O.ch.1),rfl,jbc _,_,rfl,?_⟩
 rw [if_pos rfl,kb]
 refine jhq (λz=>?_) (λ_=>gq ?_)
 rotate_left
 .refine ⟨_,rfl,W.x,W.dx,_,rfl,O.ob.1,qx,_,rfl,_,rfl,zs1,λL nL=>?_⟩
  have s1:=jf (o:=.lst [.ref q]) nL
  refine ⟨Z,id,W,Y,h,L,[.ref q],[o],a,b,c,rfl,O.fr (P:=λ_=>False) (λ_ z=>z) (Fr.same s1),kr.same s1,ja,λro e=>?_,.cons (uq.fr (P:=λ_=>False) (Fr.same s1)) .nil,sz,la,lb,lc,λZ' H' O' f' kr'=>g Z' H' O' ((Fr.same s1).trans f') kr'⟩
  rw [kr.none nL] at e
  cases e
 have nc:o.p ∉ Y.xx:=by simpa using z
 obtain ⟨row,er,om⟩ : ∃ row,Y.asked[o.p.toNat]? = some row /\ o ∈ row:=may.resolve_left nc
 obtain ⟨ra,rs,ha,hrows⟩:=O.ak
 obtain ⟨r,ers⟩ : ∃ r,rs[o.p.toNat]? = some r:=⟨_,getElem?_eq_getElem (by rw [hrows.1]; exact (List.getElem?_eq_some_iff.mp er).1)⟩
 obtain ⟨rr,xs,hr0,px⟩:=hrows.2 _ _ _ ers er
 have p0 : 0 <= o.p:=(qz.mp ho).1
 refine ⟨_,rfl,_,rfl,W.x,_,W.dx,_,_,rfl,O.ob.1,T.ji,T.gm,job,_,rfl,q,joi o,0,.int o.p,rfl,rfl,SqT.of hq,rfl,W.ak,_,o.p,.ref r,rfl,rfl,SqL.of ha,jiu p0 (by rw [getElem?_map,ers]; rfl),?_⟩
 refine ⟨r,xs,yw o,row.map yw,rfl,SqL.of hr0,⟨q,rfl,SqT.of hq⟩,jsh px,_,rfl,?_⟩
 rw [if_pos rfl,decide_eq_true (mem_map_of_mem om)]
 refine gq ?_
 refine ⟨_,rfl,W.x,W.dx,_,rfl,O.ob.1,qx,_,rfl,_,rfl,zs1,λL nL=>?_⟩
 have s1:=jf (o:=.lst [.ref q]) nL
 refine ⟨Z,id,W,Y,h,L,[.ref q],[o],a,b,c,rfl,O.fr (P:=λ_=>False) (λ_ z=>z) (Fr.same s1),kr.same s1,ja,λro e=>?_,.cons (uq.fr (P:=λ_=>False) (Fr.same s1)) .nil,sz,la,lb,lc,λZ' H' O' f' kr'=>g Z' H' O' ((Fr.same s1).trans f') kr'⟩
 rw [kr.none nL] at e
 cases e
theorem jq9 (T:Txt K mg t) : xo P w K mg base CX0 6 t.jgy t.jha ["self","order","house"] (λvs H Q _=>∃ Z id W Y q o h B,vs = [.ref W.x,.ref q,.int h] /\ qm t H Z id W Y /\ OkR Z H /\ qr H Z (.ref q) o /\ zc Y.n o = true /\ Y.keep h = some B /\ Y.carried o = true /\ Y.way.length <= 100000 /\
  ∀ H',qm t H' Z id W { Y with way:=Y.way ++ [(false,h,o)] } -> Fr (isP id .wy) Z H Z H' -> OkR Z H' -> Q .non H'):=by
 refine T.jm6.okB (N:=["self","order","house"]) λ_ A _ s H vs Q E hr h=>?_
 obtain ⟨Z,id,W,Y,q,o,h,B,rfl,O,kr,uq,ho,ek,ecr,l,g⟩:=h
 refine ⟨_,(@jb _ _ _ _ _ (qa (qd (pv 0) T.ji T.y9 (jao T) hr.dn T.wu .nil jo (jc (pv 2) jg)))
  (@jb _ _ _ _ _ (zl (PW.pt (jif (ye (zo (jid (jja T) hr.dn rfl T.jhw T.jez.kp T.jgn jo (jc (pv 1) jg) (jdu (qb (pv 0) rfl) jo5)))) (jd7 (ye (zo (qd (qb (pv 0) rfl) T.yh T.yi (ug T) hr.dn T.y6 .nil jo (jc (pv 1) jg))))))) zk qc)
  (@jd _ _ _ (qa (jij PySem.F.plainAttrs_list PySem.F.slot_list_append PySem.F.type_list_append yr (qb (pv 0) rfl) (jc (@jhm _ _ _ _ _ (@jmm _ _ _ _ _ _ _ (zb (v:=.str "paper") rfl T.jed.choose_spec ⟨_,rfl⟩) (pv 2) (pv 1) rfl rfl rfl)) jg)))))),?_⟩
 have uq':=uq
 obtain ⟨_,eq,nq,hq⟩:=uq'
 cases eq
 refine ⟨_,rfl,W.x,W.dx,_,rfl,O.ob.1,qx,_,rfl,Z,id,W,Y,h,B,rfl,O,ek,λk A' dk R=>?_⟩
 refine ⟨_,rfl,_,rfl,W.x,_,W.dx,_,_,rfl,O.ob.1,T.ji,T.vd,jlk,q,o,(Y.n:Int),rfl,hq,_,rfl,?_⟩
 rw [ho]
 refine gq ?_
 obtain ⟨rb,rS,bvs,Bq,sg⟩:=O.bd
 refine ⟨_,rfl,W.x,_,W.dx,_,_,rfl,O.ob.1,T.ji,T.yu,jkh,W.bd,W.db,_,rfl,Bq.ob,jss _ _ (by decide +kernel) (by decide +kernel),_,rfl,W.bd,W.db,W.S,Y.en,bvs,thP Y.bd,q,jnh o,rfl,Bq.rd,hq,λH1 s1=>⟨_,rfl,?_⟩⟩
 have ec:decide (Y.en <= ((qi (thP Y.bd) (jnh o)).length:Int)) = Y.carried o:=by
  unfold Wd.carried
  rw [show qi (thP Y.bd) (jnh o) = jr Y.bd (yw o) from jey (yw o) Y.bd]
 rw [ec,ecr]
 refine gq ?_
 have O1:=O.fr (P:=λ_=>False) (λ_ z=>z) (Fr.same s1)
 have kr1:=kr.same s1
 have uq1:=uq.fr (P:=λ_=>False) (Fr.same s1)
 have f1:Fr (isP id .wy) Z H Z H1:=Fr.same s1
 obtain ⟨rw_,xs,hw,pw⟩:=O1.wy
 refine ⟨_,rfl,W.x,_,W.dx,_,_,rfl,O1.ob.1,T.ji,T.qq,jaw,.inl ⟨rfl,_,SqL.of hw⟩,_,rfl,_,rfl,zs3,λp np=>?_⟩
 have sp:=jf (o:=.tup [.str "paper",.int h,.ref q]) np
 have lx:xs.length <= 1000000:=by rw [Paired.length pw]; omega
 refine ⟨W.wy,xs,.ref p,rfl,rfl,sp _ _ hw,big lx,?_⟩
 have O2:=O1.fr (P:=λ_=>False) (λ_ z=>z) (Fr.same sp)
 have f2:Fr (isP id .wy) Z (upd H1 p (.tup [.str "paper",.int h,.ref q])) Z (upd (upd H1 p (.tup [.str "paper",.int h,.ref q])) W.wy (.lst (xs ++ [.ref p]))):=Fr.put rw_ rfl
 have f0:Fr (isP id .wy) Z H1 Z (upd H1 p (.tup [.str "paper",.int h,.ref q])):=Fr.same sp
 refine g _ (O2.but f2 _ jw rfl rfl (jag f2 jw (λ_ _=>jw)) (jbp f2 jw jw jw) (jfl f2 jw (λ_=>jw)) (λ_ _=>⟨rw_,_,ja,?_⟩)) ((f1.trans f0).trans f2) (kr1.same sp).put
 have np0:=kr1.none np
 refine qk (Paired.vb pw λ_ _=>jgk.fr (f0.trans f2)) ⟨p,q,rfl,np0,?_,uq1.fr (f0.trans f2)⟩
 rw [je (neu np0 rw_),ja]
 rfl
theorem qy {α : Type} [DecidableEq α] : ∀ {xs ys:List α},xs.Nodup -> (∀ x ∈ xs,x ∈ ys) -> xs.length <= ys.length
 | [],_,_,_=>zero_le _
 | x :: xs,ys,nd,h=>by
  rw [nodup_cons] at nd
  have hx:=h x mem_cons_self
  have:=qy (xs:=xs) (ys:=ys.erase x) nd.2 λy hy=>(List.mem_erase_of_ne (λz=>nd.1 (by rw [<- z]; exact hy))).mpr (h y (mem_cons_of_mem _ hy))
  rw [length_erase_of_mem hx] at this
  have:=length_pos_of_mem hx
  rw [length_cons]
  omega
theorem j2m (B : Kp) (o:O) (a:Gv) : (gvS B o a).1.length + (gvS B o a).2.2.length <= a.1.length + a.2.2.length + 1:=by
 unfold gvS
 split
 .simp; omega
 .split
  .simp; omega
  .omega
theorem jx4 (B : Kp) : ∀ (os:List O) (a:Gv),(gv B os a).1.length + (gv B os a).2.2.length <= a.1.length + a.2.2.length + os.length
 | [],a=>by simp [gv]
 | o :: os,a=>by
  have h1:=jx4 B os (gvS B o a)
  have h2:=j2m B o a
  unfold gv at h1 ⊢
  rw [foldl_cons,length_cons]
  omega
theorem jqs (B : Kp) {P:O -> Prop} : ∀ (os:List O) (a:Gv),(∀ o ∈ os,P o) -> (∀ o ∈ a.2.1,P o) -> ∀ o ∈ (gv B os a).2.1,P o
 | [],a,_,h=>h
 | o :: os,a,h1,h2=>by
  unfold gv
  rw [foldl_cons]
  refine jqs B os _ (λo' h=>h1 o' (mem_cons_of_mem _ h)) ?_
  unfold gvS
  split
  .intro o' h
   rcases mem_append.mp h with h | h
   .exact h2 o' h
   .rw [mem_singleton.mp h]
    exact h1 o mem_cons_self
  .split
   .exact h2
   .exact h2
structure KIn (L:List O) (m n:Nat) (B : Kp) : Prop where
 ok : B.Ok n
 sz:KSz B m
 u : ∀ o ∈ B.unv,o ∈ L
 w : ∀ o ∈ B.wait,o ∈ L
theorem KIn.qo {L:List O} {m n:Nat} {B : Kp} (k:KIn L m n B) : KIn L m n B.qo.1 /\ (∀ o ∈ B.qo.2,o ∈ L) /\ B.qo.2.length <= m:=by
 refine ⟨⟨k.ok.qo,⟨k.sz.hd,?_,k.sz.dw⟩,jni B B.unv _ k.u (λo h=>by cases h),k.w⟩,jqs B B.unv _ k.u (λo h=>by cases h),?_⟩
 .have h1:=jx4 B B.unv (B.cho,[],[])
  have h2:=k.sz.uc
  show (gv B B.unv (B.cho,[],[])).2.2.length + (gv B B.unv (B.cho,[],[])).1.length <= m
  simp at h1
  omega
 .have h1:=(ju2 B B.unv (B.cho,[],[])).2.1
  have h2:=k.sz.uc
  show (gv B B.unv (B.cho,[],[])).2.1.length <= m
  simp at h1
  omega
theorem KIn.go {L:List O} {m n:Nat} : ∀ {j:Nat} {B : Kp},KIn L m n B -> KIn L m n (Kp.go j B)
 | 0,_,k=>k
 | j + 1,B,k=>by
  unfold Kp.go
  cases e : B.first with
  | none=>exact k
  | some o=>
   have om:=jcz e
   have l2:(B.step o).wait.length = B.wait.length - 1:=length_erase_of_mem om
   have l1:(B.step o).done.length = B.done.length + 1:=by show (B.done ++ [o]).length = _; rw [length_append]; rfl
   have:=length_pos_of_mem om
   have:=k.sz.dw
   exact KIn.go (B:=B.step o) ⟨k.ok.step o,⟨k.sz.hd,k.sz.uc,by omega⟩,k.u,λo' h=>k.w o' (mem_of_mem_erase h)⟩
theorem KIn.mono {L L':List O} {m m' n:Nat} {B : Kp} (k:KIn L m n B) (h1 : ∀ o ∈ L,o ∈ L') (h2:m <= m') : KIn L' m' n B:=⟨k.ok,⟨le_trans k.sz.hd h2,le_trans k.sz.uc h2,le_trans k.sz.dw h2⟩,λo h=>h1 o (k.u o h),λo h=>h1 o (k.w o h)⟩
theorem KIn.take {L:List O} {m n:Nat} {B : Kp} (k:KIn L m n B) (b:Bool) {o:O} (ol:o ∈ L) (ho:zc n o = true) : KIn L (m + 1) n (B.take b o).1 /\ (∀ o' ∈ (B.take b o).2,o' ∈ L) /\ (B.take b o).2.length <= m + 1:=by
 have h1:=k.sz.hd
 have h2:=k.sz.uc
 have h3:=k.sz.dw
 have nil_:KIn L (m + 1) n B /\ (∀ o' ∈ ([] : List O),o' ∈ L) /\ ([] : List O).length <= m + 1:=⟨k.mono (λ_ h=>h) (by omega),(λ_ z=>by cases z),zero_le _⟩
 unfold Kp.take
 split
 .unfold Kp.jzo
  split
  .exact nil_
  .refine KIn.qo (m:=m + 1) ⟨⟨k.ok.h,k.ok.x,λu hu=>?_,k.ok.w,k.ok.nd⟩,⟨by show (B.xj ++ [o]).length <= m + 1; rw [length_append]; show B.xj.length + 1 <= m + 1; omega,by show (B.unv ++ [o]).length + B.cho.length <= m + 1; rw [length_append]; show B.unv.length + 1 + B.cho.length <= m + 1; omega,by show B.done.length + B.wait.length <= m + 1; omega⟩,λu hu=>?_,k.w⟩
   .rcases mem_append.mp hu with hu | hu
    .exact k.ok.u u hu
    .rw [mem_singleton.mp hu]; exact ho
   .rcases mem_append.mp hu with hu | hu
    .exact k.u u hu
    .rw [mem_singleton.mp hu]; exact ol
 .unfold Kp.joe
  split
  .exact nil_
  .rename_i nz
   have no : ¬ o ∈ B.wait:=λz=>nz (by rw [decide_eq_true z,Bool.or_true])
   refine KIn.qo (m:=m + 1) (KIn.go ⟨⟨k.ok.h,k.ok.x,k.ok.u,λu hu=>?_,?_⟩,⟨by show B.xj.length <= m + 1; omega,by show B.unv.length + B.cho.length <= m + 1; omega,by show B.done.length + (B.wait ++ [o]).length <= m + 1; rw [length_append]; show B.done.length + (B.wait.length + 1) <= m + 1; omega⟩,k.u,λu hu=>?_⟩)
   .rcases mem_append.mp hu with hu | hu
    .exact k.ok.w u hu
    .rw [mem_singleton.mp hu]; exact ho
   .exact nodup_append.mpr ⟨k.ok.nd,by simp,λx hx y hy e=>by rw [mem_singleton.mp hy] at e; subst e; exact no hx⟩
   .rcases mem_append.mp hu with hu | hu
    .exact k.w u hu
    .rw [mem_singleton.mp hu]; exact ol
structure BIn (L:List O) (hs:List Int) (is:xw) : Prop where
 nd:(is.map (·.1)).Nodup
 ks : ∀ x ∈ is,∃ o ∈ L,x.1 = yw o
 hn : ∀ x ∈ is,x.2.Nodup /\ ∀ h ∈ x.2,h ∈ hs
theorem jr2 {k:List Int} {h:Int} : ∀ {is:xw} {y:List Int},y ∈ (jdw is k h).map (·.1) -> y ∈ is.map (·.1) \/ y = k
 | [],y,hy=>.inr (mem_singleton.mp hy)
 | p :: ps,y,hy=>by
  unfold jdw at hy
  split at hy
  .rw [map_cons,mem_cons] at hy ⊢
   exact .inl hy
  .rw [map_cons,mem_cons] at hy ⊢
   rcases hy with hy | hy
   .exact .inl (.inl hy)
   .rcases jr2 hy with h | h
    .exact .inl (.inr h)
    .exact .inr h
theorem BIn.sign {L:List O} {hs:List Int} {o:O} {h:Int} (ol:o ∈ L) (hh:h ∈ hs) : ∀ {is:xw},BIn L hs is -> h ∉ jr is (yw o) -> BIn L hs (jdw is (yw o) h)
 | [],_,_=>⟨by simp [jdw],λx hx=>by rw [mem_singleton.mp hx]; exact ⟨o,ol,rfl⟩,λx hx=>by rw [mem_singleton.mp hx]; exact ⟨by simp,λy hy=>by rw [mem_singleton.mp hy]; exact hh⟩⟩
 | p :: ps,b,hn=>by
  have bt:BIn L hs ps:=⟨(nodup_cons.mp b.nd).2,λx hx=>b.ks x (mem_cons_of_mem _ hx),λx hx=>b.hn x (mem_cons_of_mem _ hx)⟩
  unfold jdw
  unfold jr at hn
  split
  .rename_i z
   rw [if_pos z] at hn
   refine ⟨b.nd,λx hx=>?_,λx hx=>?_⟩
   .rcases mem_cons.mp hx with rfl | hx
    .exact b.ks p mem_cons_self
    .exact bt.ks x hx
   .rcases mem_cons.mp hx with rfl | hx
    .obtain ⟨q1,q2⟩:=b.hn p mem_cons_self
     refine ⟨nodup_append.mpr ⟨q1,by simp,λx1 hx1 y1 hy1 e=>by rw [mem_singleton.mp hy1] at e; subst e; exact hn hx1⟩,λy hy=>?_⟩
     rcases mem_append.mp hy with hy | hy
     .exact q2 y hy
     .rw [mem_singleton.mp hy]; exact hh
    .exact bt.hn x hx
  .rename_i z
   rw [if_neg z] at hn
   have ih:=bt.sign ol hh hn
   refine ⟨?_,λx hx=>?_,λx hx=>?_⟩
   .rw [map_cons,nodup_cons]
    refine ⟨λy=>?_,ih.nd⟩
    rcases jr2 y with y | y
    .exact (nodup_cons.mp b.nd).1 y
    .exact z y
   .rcases mem_cons.mp hx with rfl | hx
    .exact b.ks _ mem_cons_self
    .exact ih.ks x hx
   .rcases mem_cons.mp hx with rfl | hx
    .exact b.hn _ mem_cons_self
    .exact ih.hn x hx
theorem BIn.len {L:List O} {hs:List Int} {is:xw} (b:BIn L hs is) : is.length <= L.length /\ ∀ x ∈ is,x.2.length <= hs.length:=by
 refine ⟨?_,λx hx=>qy (b.hn x hx).1 (b.hn x hx).2⟩
 have:=qy (ys:=L.map yw) b.nd λy hy=>by
  obtain ⟨x,hx,rfl⟩:=mem_map.mp hy
  obtain ⟨o,ol,e⟩:=b.ks x hx
  rw [e]
  exact mem_map_of_mem ol
 rwa [length_map,length_map] at this
structure Wd.jzp (Y Y':Wd) : Prop where
 n : Y'.n = Y.n
 c : Y'.xx = Y.xx
 k : Y'.ks = Y.ks
 e : Y'.en = Y.en
 a : Y'.asked = Y.asked
theorem Wd.jzp.trans {a b c:Wd} (x:a.jzp b) (y:b.jzp c) : a.jzp c:=⟨y.n.trans x.n,y.c.trans x.c,y.k.trans x.k,y.e.trans x.e,y.a.trans x.a⟩
theorem jku (Y : Wd) (h:Int) (o:O) : Y.jzp (Y.put h o).1:=by
 unfold Wd.put
 split
 .exact ⟨rfl,rfl,rfl,rfl,rfl⟩
 .exact ⟨rfl,rfl,rfl,rfl,rfl⟩
theorem jgr (Y : Wd) (h:Int) (o:O) : Y.jzp (Y.jdx h o):=by
 have p:=jku Y h o
 unfold Wd.jdx
 split
 .exact ⟨p.n,p.c,p.k,p.e,p.a⟩
 .exact p
theorem jlz {Y : Wd} {h:Int} (m:h ∈ Y.ks.map (·.1)) : ∃ B,Y.keep h = some B /\ (h,B) ∈ Y.ks:=by
 unfold Wd.keep
 cases e : Y.ks.find? λc=>decide (c.1 = h) with
 | none=>
  obtain ⟨c,hc,rfl⟩:=mem_map.mp m
  have:=List.find?_eq_none.mp e c hc
  simp at this
 | some c=>
  have h1:c.1 = h:=of_decide_eq_true (List.find?_some (p:=λc:Int × Kp=>decide (c.1 = h)) e)
  refine ⟨c.2,rfl,?_⟩
  rw [<- h1]
  exact List.mem_of_find?_eq_some e
def jyv (xs:List Int) (o:O) : List Int:=jau (jau xs o.p (-o.m)) o.g o.m
def jyo (ns:List Int) (os:List O) : List Int:=os.foldl jyv ns
theorem j42 {xs:List Int} {i:Int} : gI xs i = 0 \/ gI xs i ∈ xs:=by
 unfold gI
 cases e:xs[i.toNat]? with
 | none=>exact .inl rfl
 | some x=>exact .inr (mem_of_getElem? e)
theorem sum_set : ∀ (xs:List Int) (i:Nat) (v:Int),i < xs.length -> (xs.set i v).sum = xs.sum - (xs[i]?).getD 0 + v
 | [],_,_,h=>by cases h
 | x :: xs,0,v,_=>by simp; omega
 | x :: xs,i + 1,v,h=>by
  have:=sum_set xs i v (by simpa using h)
  simp only [List.set_cons_succ,sum_cons,List.getElem?_cons_succ]
  omega
theorem ju3 {xs:List Int} {i d:Int} (h0 : 0 <= i) (h1:i < xs.length) : (jau xs i d).sum = xs.sum + d:=by
 unfold jau
 rw [sum_set xs i.toNat _ (by omega)]
 unfold gI
 omega
theorem jnk {xs:List Int} {i j d:Int} (h0 : 0 <= i) (h1:i < xs.length) (j0 : 0 <= j) : gI (jau xs i d) j = if j = i then gI xs i + d else gI xs j:=by
 unfold jau gI
 by_cases z:j = i
 .subst z
  rw [if_pos rfl,getElem?_set_self (by omega)]
  rfl
 .rw [if_neg z,getElem?_set_ne (by omega)]
theorem juj {xs:List Int} {i d:Int} (h : ∀ x ∈ xs,0 <= x) (hd : 0 <= gI xs i + d) : ∀ x ∈ jau xs i d,0 <= x:=λx hx=>by
 rcases mem_or_eq_of_mem_set hx with hx | rfl
 .exact h x hx
 .exact hd
def ofP (p:Int) (os:List O) : List O:=os.filter λo=>decide (o.p = p)
def upTo (k:Int) : List Int:=(List.range k.toNat).map λ(i:Nat)=>(i:Int)
theorem jta {k:Int} (h : 0 <= k) : upTo (k + 1) = upTo k ++ [k]:=by
 unfold upTo
 rw [show (k + 1).toNat = k.toNat + 1 by omega,List.range_succ,map_append]
 congr 1
 show [((k.toNat:Nat) : Int)] = [k]
 rw [Int.toNat_of_nonneg h]
structure KX (L:List O) (C:O -> Bool) (n:Nat) (ns:List Int) (B : Kp) : Prop where
 he : B.held = jyo ns B.done
 h0 : ∀ x ∈ B.held,0 <= x
 hs : B.held.sum = ns.sum
 nm : ∀ p:Int,0 <= p -> p < (n:Int) -> 0 <= gI B.gk p /\ (ofP p B.done).map (·.n) = upTo (gI B.gk p)
 dl : ∀ o ∈ B.done,o ∈ L /\ C o = true
 wc : ∀ o ∈ B.wait,C o = true
 wd : ∀ o ∈ B.wait,o ∉ B.done
theorem KX.mono {L L':List O} {C C':O -> Bool} {n:Nat} {ns:List Int} {B : Kp} (k:KX L C n ns B) (h : ∀ o ∈ L,o ∈ L') (hc : ∀ o,C o = true -> C' o = true) : KX L' C' n ns B:=⟨k.he,k.h0,k.hs,k.nm,λo ho=>⟨h o (k.dl o ho).1,hc o (k.dl o ho).2⟩,λo ho=>hc o (k.wc o ho),k.wd⟩
theorem KX.qo {L:List O} {C:O -> Bool} {n:Nat} {ns:List Int} {B : Kp} (k:KX L C n ns B) : KX L C n ns B.qo.1:=⟨k.he,k.h0,k.hs,k.nm,k.dl,k.wc,k.wd⟩
theorem KX.past {L:List O} {C:O -> Bool} {n:Nat} {ns:List Int} {B : Kp} (k:KX L C n ns B) (lo : ∀ o ∈ L,zc n o = true) {o:O} (h:o ∈ B.done) : B.past o = true:=by
 obtain ⟨p0,p1,_⟩:=qz.mp (lo o (k.dl o h).1)
 obtain ⟨g0,e⟩:=k.nm o.p p0 (by omega)
 have m:o.n ∈ (ofP o.p B.done).map (·.n):=mem_map_of_mem (mem_filter.mpr ⟨h,decide_eq_true rfl⟩)
 rw [e] at m
 obtain ⟨i,hi,ei⟩:=mem_map.mp m
 have:=mem_range.mp hi
 exact decide_eq_true (by omega)
theorem KX.step {L:List O} {C:O -> Bool} {n:Nat} {ns:List Int} {B : Kp} (k:KX L C n ns B) (ok : B.Ok n) {o:O} (ho:zc n o = true) (ol:o ∈ L) (ow:o ∈ B.wait) (du : B.due o = true) : KX L C n ns (B.step o):=by
 obtain ⟨p0,p1,g0,g1,png,n0,n1,m1,m2⟩:=qz.mp ho
 unfold Kp.due at du
 rw [Bool.and_eq_true,decide_eq_true_eq,decide_eq_true_eq] at du
 have lh:=ok.h
 have lx:=ok.x
 refine ⟨?_,?_,?_,λp pp0 pp1=>?_,λu hu=>?_,λu hu=>k.wc u (mem_of_mem_erase hu),λu hu hd=>?_⟩
 .show jyv B.held o = jyo ns (B.done ++ [o])
  have e:jyo ns (B.done ++ [o]) = jyv (jyo ns B.done) o:=by
   unfold jyo
   rw [List.foldl_append]
   rfl
  rw [e,<- k.he]
 .show ∀ x ∈ jau (jau B.held o.p (-o.m)) o.g o.m,0 <= x
  have h1 : ∀ x ∈ jau B.held o.p (-o.m),0 <= x:=juj k.h0 (by omega)
  refine juj h1 ?_
  rcases j42 (xs:=jau B.held o.p (-o.m)) (i:=o.g) with e | e
  .omega
  .have:=h1 _ e
   omega
 .show (jau (jau B.held o.p (-o.m)) o.g o.m).sum = ns.sum
  rw [ju3 g0 (by rw [jeb,lh]; omega),ju3 p0 (by rw [lh]; omega),k.hs]
  omega
 .obtain ⟨q0,e⟩:=k.nm p pp0 pp1
  show 0 <= gI (jau B.gk o.p 1) p /\ (ofP p (B.done ++ [o])).map (·.n) = upTo (gI (jau B.gk o.p 1) p)
  rw [jnk p0 (by rw [lx]; omega) pp0]
  unfold ofP at e ⊢
  rw [filter_append,map_append,e]
  by_cases z:p = o.p
  .subst z
   rw [if_pos rfl]
   refine ⟨by omega,?_⟩
   rw [jta q0,<- du.1]
   simp
  .rw [if_neg z]
   refine ⟨q0,?_⟩
   have : ¬ o.p = p:=λy=>z y.symm
   simp [this]
 .have hu':u ∈ B.done ++ [o]:=hu
  rcases mem_append.mp hu' with h | h
  .exact k.dl u h
  .rw [mem_singleton.mp h]
   exact ⟨ol,k.wc o ow⟩
 .have hd':u ∈ B.done ++ [o]:=hd
  have hu':u ∈ B.wait.erase o:=hu
  rcases mem_append.mp hd' with h | h
  .exact k.wd u (mem_of_mem_erase hu') h
  .rw [mem_singleton.mp h] at hu'
   exact (List.Nodup.mem_erase_iff ok.nd).mp hu' |>.1 rfl
theorem KX.go {L:List O} {C:O -> Bool} {n:Nat} {ns:List Int} (lo : ∀ o ∈ L,zc n o = true) : ∀ {j:Nat} {B : Kp},KX L C n ns B -> B.Ok n -> (∀ o ∈ B.wait,o ∈ L) -> KX L C n ns (Kp.go j B)
 | 0,_,k,_,_=>k
 | j + 1,B,k,ok,wl=>by
  unfold Kp.go
  cases e : B.first with
  | none=>exact k
  | some o=>
   have om:=jcz e
   have du : B.due o = true:=List.find?_some e
   exact KX.go lo (k.step ok (lo o (wl o om)) (wl o om) om du) (ok.step o) λu hu=>wl u (mem_of_mem_erase hu)
theorem KX.take {L:List O} {C:O -> Bool} {n:Nat} {ns:List Int} {B : Kp} (k:KX L C n ns B) (lo : ∀ o ∈ L,zc n o = true) (ok : B.Ok n) (wl : ∀ o ∈ B.wait,o ∈ L) (b:Bool) {o:O} (ol:o ∈ L) (oc:b = false -> C o = true) : KX L C n ns (B.take b o).1:=by
 unfold Kp.take
 split
 .unfold Kp.jzo
  split
  .exact k
  .exact KX.qo ⟨k.he,k.h0,k.hs,k.nm,k.dl,k.wc,k.wd⟩
 .rename_i nb
  have cb:C o = true:=oc (by simpa using nb)
  unfold Kp.joe
  split
  .exact k
  .rename_i nz
   have no : ¬ o ∈ B.wait:=λz=>nz (by rw [decide_eq_true z,Bool.or_true])
   have np : ¬ B.past o = true:=λz=>nz (by rw [z,Bool.true_or])
   refine KX.qo (KX.go lo (B:={ B with wait:=B.wait ++ [o] }) ⟨k.he,k.h0,k.hs,k.nm,k.dl,λu hu=>?_,λu hu hd=>?_⟩ ⟨ok.h,ok.x,ok.u,λu hu=>?_,?_⟩ λu hu=>?_)
   .rcases mem_append.mp hu with hu | hu
    .exact k.wc u hu
    .rw [mem_singleton.mp hu]; exact cb
   .rcases mem_append.mp hu with hu | hu
    .exact k.wd u hu hd
    .rw [mem_singleton.mp hu] at hd
     exact np (k.past lo hd)
   .rcases mem_append.mp hu with hu | hu
    .exact ok.w u hu
    .rw [mem_singleton.mp hu]; exact lo o ol
   .exact nodup_append.mpr ⟨ok.nd,by simp,λx hx y hy e=>by rw [mem_singleton.mp hy] at e; subst e; exact no hx⟩
   .rcases mem_append.mp hu with hu | hu
    .exact wl u hu
    .rw [mem_singleton.mp hu]; exact ol
theorem jda {k k':List Int} {h:Int} : ∀ {is:xw},jr (jdw is k h) k' = if k' = k then jr is k ++ [h] else jr is k'
 | []=>by
  show (if k = k' then [h] else []) = _
  by_cases z:k' = k
  .rw [if_pos z,if_pos z.symm]
   rfl
  .rw [if_neg z,if_neg (λy=>z y.symm)]
   rfl
 | p :: ps=>by
  unfold jdw
  by_cases y:p.1 = k
  .rw [if_pos y]
   show (if p.1 = k' then p.2 ++ [h] else jr ps k') = if k' = k then (if p.1 = k then p.2 else jr ps k) ++ [h] else if p.1 = k' then p.2 else jr ps k'
   by_cases z:k' = k
   .rw [if_pos z,if_pos y,if_pos (by rw [y,z])]
   .rw [if_neg z,if_neg (λq=>z (by rw [<- q,y])),if_neg (λq=>z (by rw [<- q,y]))]
  .rw [if_neg y]
   show (if p.1 = k' then p.2 else jr (jdw ps k h) k') = if k' = k then (if p.1 = k then p.2 else jr ps k) ++ [h] else if p.1 = k' then p.2 else jr ps k'
   rw [jda (is:=ps),if_neg y]
   by_cases z:k' = k
   .rw [if_pos z,if_pos z,if_neg (λq=>y (by rw [q,z]))]
   .rw [if_neg z,if_neg z]
theorem jv4 (Y : Wd) (h:Int) (o:O) (k:List Int) : (jr Y.bd k).length <= (jr (Y.put h o).1.bd k).length:=by
 unfold Wd.put
 split
 .exact le_refl _
 .show _ <= (jr (jdw Y.bd (yw o) h) k).length
  rw [jda]
  split
  .rename_i z
   rw [z,length_append]
   omega
  .exact le_refl _
theorem jtu (Y : Wd) (h:Int) (o u:O) (c : Y.carried u = true) : (Y.put h o).1.carried u = true:=by
 have e:=(jku Y h o).e
 have l:=jv4 Y h o (yw u)
 unfold Wd.carried at c ⊢
 have:=of_decide_eq_true c
 exact decide_eq_true (by rw [e]; omega)
theorem jxj {Y : Wd} {h:Int} {o:O} (c:(Y.put h o).2 = true) : (Y.put h o).1.carried o = true:=by
 unfold Wd.put at c ⊢
 split at c
 .cases c
 .rename_i z
  rw [if_neg z]
  have:=of_decide_eq_true c
  refine decide_eq_true ?_
  show Y.en <= ((jr (jdw Y.bd (yw o) h) (yw o)).length:Int)
  rw [jda,if_pos rfl,length_append]
  show Y.en <= (((jr Y.bd (yw o)).length + 1:Nat) : Int)
  omega
theorem jjb (Y : Wd) (h:Int) (o:O) : (Y.jdx h o).bd = (Y.put h o).1.bd:=by
 unfold Wd.jdx
 split <;> rfl
theorem jhs {Y : Wd} {h:Int} {o u:O} (c : Y.carried u = true) : (Y.jdx h o).carried u = true:=by
 have:=jtu Y h o u c
 unfold Wd.carried at this ⊢
 rw [jjb,(jgr Y h o).e,<- (jku Y h o).e]
 exact this
structure WG (Y : Wd) (L:List O) (hb:List Int) : Prop where
 b:BIn L hb Y.bd
 y : ∀ x ∈ Y.way,x.2.2 ∈ L /\ x.2.1 ∈ Y.ks.map (·.1) /\ (x.1 = false -> Y.carried x.2.2 = true)
theorem WG.jdx {Y : Wd} {L:List O} {hb:List Int} {h:Int} {o:O} (g:WG Y L hb) (ol:o ∈ L) (hh:h ∈ hb) : WG (Y.jdx h o) L hb /\ (Y.jdx h o).way.length <= Y.way.length + Y.ks.length:=by
 have pb:BIn L hb (Y.put h o).1.bd /\ (Y.put h o).1.way = Y.way /\ (Y.put h o).1.ks = Y.ks:=by
  unfold Wd.put
  split
  .exact ⟨g.b,rfl,rfl⟩
  .rename_i hn
   exact ⟨g.b.sign ol hh hn,rfl,rfl⟩
 have lk:=jgr Y h o
 have old : ∀ x ∈ Y.way,x.2.2 ∈ L /\ x.2.1 ∈ (Y.jdx h o).ks.map (·.1) /\ (x.1 = false -> (Y.jdx h o).carried x.2.2 = true):=λx hx=>by
  obtain ⟨a,b,c⟩:=g.y x hx
  exact ⟨a,by rw [lk.k]; exact b,λe=>jhs (c e)⟩
 by_cases z:(Y.put h o).2 = true
 .have ew:(Y.jdx h o).way = Y.way ++ Y.ks.map λc=>(false,c.1,o):=by
   unfold Wd.jdx
   rw [if_pos z]
   show (Y.put h o).1.way ++ _ = _
   rw [pb.2.1,pb.2.2]
  refine ⟨⟨by rw [jjb]; exact pb.1,λx hx=>?_⟩,by rw [ew,length_append,length_map]; exact le_refl _⟩
  rw [ew] at hx
  rcases mem_append.mp hx with hx | hx
  .exact old x hx
  .obtain ⟨c,hc,rfl⟩:=mem_map.mp hx
   refine ⟨ol,by rw [lk.k]; exact mem_map_of_mem hc,λ_=>?_⟩
   have:=jxj z
   unfold Wd.carried at this ⊢
   rw [jjb,lk.e,<- (jku Y h o).e]
   exact this
 .have ew:(Y.jdx h o).way = Y.way:=by
   unfold Wd.jdx
   rw [if_neg z,pb.2.1]
  exact ⟨⟨by rw [jjb]; exact pb.1,λx hx=>old x (by rw [<- ew]; exact hx)⟩,by rw [ew]; omega⟩
structure Gn (Y : Wd) (T M:Nat) (L:List O) (ls ns:List Int) : Prop where
 ok : Y.Ok
 l:L.length <= T
 lo : ∀ o ∈ L,zc Y.n o = true
 mw : ∀ o ∈ L,Y.may o
 ks : ∀ c ∈ Y.ks,KIn L T Y.n c.2 /\ KX L Y.carried Y.n ns c.2
 g:WG Y L (Y.ks.map (·.1) ++ ls)
 wl : Y.way.length <= M
 al : ∀ row ∈ Y.asked,row.length <= T
 e1 : 1 <= Y.en
theorem BIn.mono {L L':List O} {hs:List Int} {is:xw} (b:BIn L hs is) (h : ∀ o ∈ L,o ∈ L') : BIn L' hs is:=⟨b.nd,λx hx=>let ⟨o,a,c⟩:=b.ks x hx; ⟨o,h o a,c⟩,b.hn⟩
section
variable {Y : Wd} {T M T' M':Nat} {L:List O} {ls ns:List Int}
end
theorem j6p {h f:Int} {ns cs ls:List Int} (h1 : 1 <= h /\ h <= 16) (hf : 0 <= f) (lt : 3 * f < h) (l8:ns.length <= 8) (n0 : ∀ x ∈ ns,0 <= x) (ll:(ls.length:Int) <= f) (lr : ∀ x ∈ ls,0 <= x /\ x < h) : Gn (w0 h f ns cs ls) 0 0 [] ls ns:=by
 have ek:(w0 h f ns cs ls).ks.map (·.1) = jbz ls h.toNat:=by
  show ((jbz ls h.toNat).map λi=>(i,kp0 ns)).map (·.1) = _
  rw [map_map]
  exact List.map_id _
 have kall : ∀ c ∈ (w0 h f ns cs ls).ks,c.2 = kp0 ns:=λc hc=>by
  obtain ⟨i,_,rfl⟩:=mem_map.mp (show c ∈ (jbz ls h.toNat).map λi=>(i,kp0 ns) from hc)
  rfl
 have lk:(w0 h f ns cs ls).ks.length = (jbz ls h.toNat).length:=length_map ..
 have kin:KIn [] 0 ns.length (kp0 ns):=⟨⟨rfl,by show (List.replicate _ _).length = _; rw [length_replicate],λ_ z=>(by cases z),λ_ z=>(by cases z),nodup_nil⟩,⟨le_refl _,le_refl _,le_refl _⟩,λ_ z=>(by cases z),λ_ z=>(by cases z)⟩
 have kx:KX [] (w0 h f ns cs ls).carried ns.length ns (kp0 ns):=by
  refine ⟨rfl,n0,rfl,λp p0 p1=>?_,λ_ z=>(by cases z),λ_ z=>(by cases z),λ_ z=>(by cases z)⟩
  have e:gI (kp0 ns).gk p = 0:=by
   unfold gI
   show ((List.replicate ns.length (0:Int))[p.toNat]?).getD 0 = 0
   rw [List.getElem?_replicate]
   split <;> rfl
  rw [e]
  exact ⟨Int.le_refl _,rfl⟩
 have cn:(jbz ls h.toNat).Nodup:=by
  unfold jbz
  exact List.Pairwise.filter _ (List.Pairwise.map _ (λa b hab z=>hab (Int.ofNat.inj z)) nodup_range)
 have c1 : 0 < (jbz ls h.toNat).length:=by
  have hl:((List.range h.toNat).map λ(i:Nat)=>(i:Int)).length <= (jbz ls h.toNat).length + ls.length:=by
   rw [<- length_append]
   refine qy (List.Pairwise.map _ (λa b hab z=>hab (Int.ofNat.inj z)) nodup_range) λx hx=>?_
   by_cases z:x ∈ ls
   .exact mem_append_right _ z
   .exact mem_append_left _ (mem_filter.mpr ⟨hx,by simp [z]⟩)
  rw [length_map,length_range] at hl
  omega
 have c2:=jnn ls h.toNat
 refine ⟨⟨l8,by show (List.replicate _ _).length = _; rw [length_replicate]; rfl,λrow hr o ho=>?_,λc hc=>by rw [kall c hc]; exact kin.ok,by rw [ek]; exact cn,by rw [lk]; exact c1,by rw [lk]; omega⟩,le_refl _,λ_ z=>(by cases z),λ_ z=>(by cases z),λc hc=>by rw [kall c hc]; exact ⟨kin,kx⟩,⟨⟨nodup_nil,λ_ z=>(by cases z),λ_ z=>(by cases z)⟩,λ_ z=>(by cases z)⟩,le_refl _,λrow hr=>?_,by show 1 <= h - f; omega⟩
 .have:row = []:=eq_of_mem_replicate hr
  subst this
  cases ho
 .have:row = []:=eq_of_mem_replicate hr
  subst this
  exact le_refl _
theorem jst (ks:List (Int × Kp)) (h:Int) (B : Kp) : (jje ks h B).map (·.1) = ks.map (·.1):=by
 unfold jje
 rw [map_map]
 refine List.map_congr_left λc _=>?_
 show (if c.1 = h then (h,B) else c).1 = c.1
 split
 .rename_i z
  exact z.symm
 .rfl
theorem jvy {is:xw} {i:Nat} {x:List Int × List Int} (nd:(is.map (·.1)).Nodup) (e:is[i]? = some x) : jr is x.1 = x.2:=(jey x.1 is).symm.trans (jov nd e)
theorem j0e (xs:List Int) (o:O) : (jyv xs o).length = xs.length:=by
 unfold jyv
 rw [jeb,jeb]
def inP (p:Int) (os:List O) : Int:=((os.filter λo=>decide (o.g = p)).map (·.m)).sum
def jyr (p:Int) (os:List O) : Int:=((ofP p os).map (·.m)).sum
theorem jzn {xs ys:List Int} (h:xs.Perm ys) : xs.sum = ys.sum:=by
 induction h with
 | nil=>rfl
 | cons x _ ih=>rw [sum_cons,sum_cons,ih]
 | swap x y l=>rw [sum_cons,sum_cons,sum_cons,sum_cons]; omega
 | trans _ _ a b=>exact a.trans b
theorem jfv {α : Type} [DecidableEq α] {f : α -> Int} : ∀ {xs ys:List α},xs.Nodup -> (∀ x ∈ xs,x ∈ ys) -> (∀ y ∈ ys,0 <= f y) -> (xs.map f).sum <= (ys.map f).sum
 | [],[],_,_,_=>Int.le_refl _
 | [],y :: ys,nd,h,p=>by
  have:=jfv (f:=f) (xs:=[]) (ys:=ys) nd (λ_ z=>by cases z) (λy hy=>p y (mem_cons_of_mem _ hy))
  have:=p y mem_cons_self
  rw [map_cons,sum_cons]
  omega
 | x :: xs,ys,nd,h,p=>by
  rw [nodup_cons] at nd
  have hx:=h x mem_cons_self
  have:=jfv (f:=f) (xs:=xs) (ys:=ys.erase x) nd.2 (λy hy=>(List.mem_erase_of_ne (λz=>nd.1 (by rw [<- z]; exact hy))).mpr (h y (mem_cons_of_mem _ hy))) (λy hy=>p y (mem_of_mem_erase hy))
  have e:=jzn ((List.perm_cons_erase hx).map f)
  rw [map_cons,sum_cons] at e ⊢
  omega
theorem j0d {α : Type} [DecidableEq α] {xs ys:List α} (nd:xs.Nodup) (h : ∀ x ∈ xs,x ∈ ys) (l:ys.length <= xs.length) : ∀ y ∈ ys,y ∈ xs:=λy hy=>by
 by_cases z:y ∈ xs
 .exact z
 .have:=qy (xs:=y :: xs) (ys:=ys) (nodup_cons.mpr ⟨z,nd⟩) λx hx=>by
   rcases mem_cons.mp hx with rfl | hx
   .exact hy
   .exact h x hx
  rw [length_cons] at this
  omega
theorem j2n {ns:List Int} {o:O} (ho:zc ns.length o = true) {p:Int} (h0 : 0 <= p) : gI (jyv ns o) p = gI ns p + (if o.g = p then o.m else 0) - (if o.p = p then o.m else 0):=by
 obtain ⟨p0,p1,g0,g1,png,_⟩:=qz.mp ho
 unfold jyv
 rw [jnk g0 (by rw [jeb]; omega) h0,jnk p0 (by omega) h0,jnk p0 (by omega) g0]
 have h1 : ¬ o.g = o.p:=λz=>png z.symm
 by_cases a:p = o.g
 .subst a
  simp only [if_neg h1,if_neg png,↓reduceIte]
  omega
 .have a' : ¬ o.g = p:=λz=>a z.symm
  by_cases b:p = o.p
  .subst b
   simp only [if_neg a,if_neg a',↓reduceIte]
   omega
  .have b' : ¬ o.p = p:=λz=>b z.symm
   simp only [if_neg a,if_neg a',if_neg b,if_neg b']
   omega
theorem jk4 {n:Nat} {p:Int} (h0 : 0 <= p) : ∀ {os:List O} {ns:List Int},ns.length = n -> (∀ o ∈ os,zc n o = true) -> gI (jyo ns os) p = gI ns p + inP p os - jyr p os
 | [],ns,_,_=>by show gI ns p = gI ns p + 0 - 0; omega
 | o :: os,ns,l,h=>by
  have ih:=jk4 h0 (os:=os) (ns:=jyv ns o) ((j0e ns o).trans l) λu hu=>h u (mem_cons_of_mem _ hu)
  have e:=j2n (ns:=ns) (o:=o) (by rw [l]; exact h o mem_cons_self) h0
  show gI (jyo (jyv ns o) os) p = _
  have e1:inP p (o :: os) = (if o.g = p then o.m else 0) + inP p os:=by
   unfold inP
   by_cases z:o.g = p <;> simp [z]
  have e2:jyr p (o :: os) = (if o.p = p then o.m else 0) + jyr p os:=by
   unfold jyr ofP
   by_cases z:o.p = p <;> simp [z]
  rw [ih,e,e1,e2]
  omega
inductive jt6 (n:Nat) (ns:List Int) : List O -> Prop where
 | nil:jt6 n ns []
 | snoc {os:List O} {o:O} : jt6 n ns os -> zc n o = true -> o.n = ((ofP o.p os).length:Int) -> o.m <= gI (jyo ns os) o.p -> jt6 n ns (os ++ [o])
theorem jzq (p:Int) (os:List O) (o:O) : ofP p (os ++ [o]) = ofP p os ++ if o.p = p then [o] else []:=by
 unfold ofP
 rw [filter_append]
 congr 1
 by_cases z:o.p = p <;> simp [z]
theorem jt6.nums {n:Nat} {ns:List Int} {os:List O} (h:jt6 n ns os) (p:Int) : (ofP p os).map (·.n) = upTo ((ofP p os).length:Int):=by
 induction h with
 | nil=>rfl
 | snoc h io en em ih=>
  rename_i os o
  rw [jzq]
  by_cases z:o.p = p
  .rw [if_pos z,map_append,length_append,ih]
   have e:(((ofP p os).length + [o].length:Nat) : Int) = ((ofP p os).length:Int) + 1:=by simp
   rw [e,jta (by omega)]
   rw [z] at en
   simp [en]
  .rw [if_neg z,append_nil]
   exact ih
theorem jv9 (k:Int) : (upTo k).Nodup:=by
 unfold upTo
 exact List.Pairwise.map _ (λa b hab z=>hab (Int.ofNat.inj z)) nodup_range
theorem jmi {α β : Type} {f : α -> β} : ∀ {xs:List α},(xs.map f).Nodup -> xs.Nodup
 | [],_=>nodup_nil
 | x :: xs,h=>by
  rw [map_cons,nodup_cons] at h
  exact nodup_cons.mpr ⟨λz=>h.1 (mem_map_of_mem z),jmi h.2⟩
theorem jt6.nd {n:Nat} {ns:List Int} {os:List O} (h:jt6 n ns os) : os.Nodup:=by
 induction h with
 | nil=>exact nodup_nil
 | snoc h io en em ih=>
  rename_i os o
  refine nodup_append.mpr ⟨ih,by simp,λx hx y hy e=>?_⟩
  rw [mem_singleton.mp hy] at e
  subst e
  have m:x.n ∈ (ofP x.p os).map (·.n):=mem_map_of_mem (mem_filter.mpr ⟨hx,decide_eq_true rfl⟩)
  rw [h.nums x.p] at m
  obtain ⟨i,hi,ei⟩:=mem_map.mp m
  have:=mem_range.mp hi
  omega
theorem jt6.ord {n:Nat} {ns:List Int} {os:List O} (h:jt6 n ns os) : ∀ o ∈ os,zc n o = true:=by
 induction h with
 | nil=>exact λ_ z=>by cases z
 | snoc h io en em ih=>
  intro u hu
  rcases mem_append.mp hu with hu | hu
  .exact ih u hu
  .rw [mem_singleton.mp hu]; exact io
theorem jyf {p:Int} {xs ys:List O} (h : ∀ o ∈ xs,o ∈ ys) : ∀ o ∈ ofP p xs,o ∈ ofP p ys:=λo ho=>mem_filter.mpr ⟨h o (mem_filter.mp ho).1,(mem_filter.mp ho).2⟩
theorem j79 {n:Nat} {ns:List Int} (ln:ns.length = n) {C:O -> Prop} (un : ∀ o o',C o -> C o' -> o.p = o'.p -> o.n = o'.n -> o = o') {d w:List O} (hd:jt6 n ns d) (dc : ∀ o ∈ d,C o) (all : ∀ o,C o -> o ∈ d \/ o ∈ w) (dj : ∀ o ∈ w,o ∉ d) (nd : ∀ o ∈ w,¬ (o.n = ((ofP o.p d).length:Int) /\ o.m <= gI (jyo ns d) o.p)) {e:List O} (he:jt6 n ns e) : (∀ o ∈ e,C o) -> ∀ o ∈ e,o ∈ d:=by
 induction he with
 | nil=>exact λ_ _ z=>by cases z
 | snoc h io en em ih=>
  rename_i os o
  intro ec
  have sub:=ih λu hu=>ec u (mem_append_left _ hu)
  intro u hu
  rcases mem_append.mp hu with hu | hu
  .exact sub u hu
  rw [mem_singleton.mp hu]
  have oc:=ec o (mem_append_right _ (mem_singleton.mpr rfl))
  rcases all o oc with z | z
  .exact z
  exfalso
  have sP:=jyf (p:=o.p) sub
  have ndA:(ofP o.p os).Nodup:=h.nd.filter _
  have ndD:(ofP o.p d).Nodup:=hd.nd.filter _
  have le:=qy ndA sP
  by_cases y:(ofP o.p os).length < (ofP o.p d).length
  .have m:o.n ∈ upTo ((ofP o.p d).length:Int):=mem_map.mpr ⟨o.n.toNat,mem_range.mpr (by omega),by omega⟩
   rw [<- hd.nums o.p] at m
   obtain ⟨o',ho',en'⟩:=mem_map.mp m
   obtain ⟨m1,m2⟩:=mem_filter.mp ho'
   have:o = o':=un o o' oc (dc o' m1) (of_decide_eq_true m2).symm en'.symm
   subst this
   exact dj o z m1
  .have back:=j0d ndA sP (by omega)
   have p0:=(qz.mp io).1
   have mp : ∀ u ∈ d,0 <= u.m:=λu hu=>by
    have:=(qz.mp (hd.ord u hu)).2.2.2.2.2.2.2.1
    omega
   have o1:jyr o.p d <= jyr o.p os:=jfv ndD back λu hu=>mp u (sub u (mem_filter.mp hu).1)
   have i1:inP o.p os <= inP o.p d:=jfv (h.nd.filter _) (λu hu=>mem_filter.mpr ⟨sub u (mem_filter.mp hu).1,(mem_filter.mp hu).2⟩) λu hu=>mp u (mem_filter.mp hu).1
   have g1:=jk4 (p:=o.p) p0 ln h.ord
   have g2:=jk4 (p:=o.p) p0 ln hd.ord
   exact nd o z ⟨by omega,by omega⟩
theorem jp4 {B : Kp} {Q:Gv -> Prop} : ∀ {os:List O} {a:Gv},(∀ o ∈ os,∀ a,Q a -> Q (gvS B o a)) -> Q a -> Q (gv B os a)
 | [],_,_,h=>h
 | o :: os,a,hs,h=>by
  unfold gv
  rw [foldl_cons]
  exact jp4 (λu hu=>hs u (mem_cons_of_mem _ hu)) (hs o mem_cons_self a h)
structure j5e (c0:List ((Int × Int) × O)) (a:Gv) : Prop where
 ck:(a.1.map (·.1)).Nodup
 cp : ∀ c ∈ a.1,c.1 = (c.2.p,c.2.n)
 mo : ∀ c ∈ c0,c ∈ a.1
 vt : ∀ o ∈ a.2.1,((o.p,o.n),o) ∈ a.1
theorem j5e.step {c0:List ((Int × Int) × O)} {B : Kp} {o:O} {a:Gv} (g:j5e c0 a) : j5e c0 (gvS B o a):=by
 unfold gvS
 split
 .rename_i z
  rw [Bool.and_eq_true] at z
  have nc : ∀ x ∈ a.1,x.1 ≠ (o.p,o.n):=λx hx e=>by
   have:jgj a.1 o = true:=List.any_eq_true.mpr ⟨x,hx,decide_eq_true e⟩
   rw [this] at z
   cases z.2
  refine ⟨?_,λc hc=>?_,λc hc=>mem_append_left _ (g.mo c hc),λu hu=>?_⟩
  .show ((a.1 ++ [((o.p,o.n),o)]).map (·.1)).Nodup
   rw [map_append]
   refine nodup_append.mpr ⟨g.ck,by simp,λx hx y hy e=>?_⟩
   obtain ⟨c,hc,rfl⟩:=mem_map.mp hx
   rw [mem_singleton.mp hy] at e
   exact nc c hc e
  .rcases mem_append.mp hc with hc | hc
   .exact g.cp c hc
   .rw [mem_singleton.mp hc]
  .rcases mem_append.mp hu with hu | hu
   .exact mem_append_left _ (g.vt u hu)
   .rw [mem_singleton.mp hu]
    exact mem_append_right _ (mem_singleton.mpr rfl)
 .split
  .exact ⟨g.ck,g.cp,g.mo,g.vt⟩
  .exact g
structure KZ (L:List O) (n:Nat) (ns:List Int) (B : Kp) : Prop where
 hn : B.xj.Nodup
 hl : ∀ o ∈ B.xj,o ∈ L
 uc : B.unv.length + B.cho.length <= B.xj.length
 ul : ∀ o ∈ B.unv,o ∈ L
 wl : ∀ o ∈ B.wait,o ∈ L
 ck:(B.cho.map (·.1)).Nodup
 cp : ∀ c ∈ B.cho,c.1 = (c.2.p,c.2.n)
 hi:jt6 n ns B.done
def Kp.calm (B : Kp) : Prop:=∀ o ∈ B.wait,B.due o = false
structure Kept (L:List O) (n:Nat) (ns:List Int) (B κ':Kp) (vs:List O) : Prop where
 z:KZ L n ns κ'
 ca : κ'.calm
 mo : ∀ c ∈ B.cho,c ∈ κ'.cho
 vt : ∀ o ∈ vs,((o.p,o.n),o) ∈ κ'.cho
 vl : ∀ o ∈ vs,o ∈ L
 dm : ∀ o ∈ B.done,o ∈ κ'.done
 wm : ∀ o ∈ B.wait,o ∈ κ'.done \/ o ∈ κ'.wait
 vn:vs.length <= κ'.xj.length
section
variable {L:List O} {n:Nat} {ns:List Int} {B : Kp}
theorem KZ.mono {L':List O} (z:KZ L n ns B) (h : ∀ o ∈ L,o ∈ L') : KZ L' n ns B:=⟨z.hn,λo ho=>h o (z.hl o ho),z.uc,λo ho=>h o (z.ul o ho),λo ho=>h o (z.wl o ho),z.ck,z.cp,z.hi⟩
theorem KZ.qo (z:KZ L n ns B) (ca : B.calm) : Kept L n ns B B.qo.1 B.qo.2:=by
 have g:j5e B.cho (gv B B.unv (B.cho,[],[])):=jp4 (λo _ a h=>h.step) ⟨z.ck,z.cp,λ_ h=>h,λ_ h=>by cases h⟩
 have s:=jx4 B B.unv (B.cho,[],[])
 have l2:=(ju2 B B.unv (B.cho,[],[])).2.1
 have uc:=z.uc
 refine ⟨⟨z.hn,z.hl,?_,jni B B.unv _ z.ul (λo h=>by cases h),z.wl,g.ck,g.cp,z.hi⟩,ca,g.mo,g.vt,jqs B B.unv _ z.ul (λo h=>by cases h),λ_ h=>h,λ_ h=>.inr h,?_⟩
 .show (gv B B.unv (B.cho,[],[])).2.2.length + (gv B B.unv (B.cho,[],[])).1.length <= B.xj.length
  simp at s
  omega
 .show (gv B B.unv (B.cho,[],[])).2.1.length <= B.xj.length
  simp at l2
  omega
theorem jx3 : ∀ {m:Nat} {B : Kp},B.wait.length <= m -> (Kp.go m B).calm
 | 0,B,h=>by
  intro o ho
  have : B.wait = []:=List.length_eq_zero_iff.mp (by omega)
  have ho':o ∈ B.wait:=ho
  rw [this] at ho'
  cases ho'
 | m + 1,B,h=>by
  unfold Kp.go
  cases e : B.first with
  | none=>
   intro o ho
   have:=List.find?_eq_none.mp e o ho
   simpa using this
  | some o=>
   have om:=jcz e
   have l2:(B.step o).wait.length = B.wait.length - 1:=length_erase_of_mem om
   have:=length_pos_of_mem om
   exact jx3 (B:=B.step o) (by omega)
structure j2d (L:List O) (n:Nat) (ns:List Int) (B κ':Kp) : Prop where
 z:KZ L n ns κ'
 ch : κ'.cho = B.cho
 hd : κ'.xj = B.xj
 dm : ∀ o ∈ B.done,o ∈ κ'.done
 wm : ∀ o ∈ B.wait,o ∈ κ'.done \/ o ∈ κ'.wait
theorem KZ.go {C:O -> Bool} (lo : ∀ o ∈ L,zc n o = true) : ∀ {m:Nat} {B : Kp},KZ L n ns B -> KX L C n ns B -> B.Ok n -> j2d L n ns B (Kp.go m B)
 | 0,B,z,_,_=>⟨z,rfl,rfl,λ_ h=>h,λ_ h=>.inr h⟩
 | m + 1,B,z,k,ok=>by
  unfold Kp.go
  cases e : B.first with
  | none=>exact ⟨z,rfl,rfl,λ_ h=>h,λ_ h=>.inr h⟩
  | some o=>
   have om:=jcz e
   have du : B.due o = true:=List.find?_some (p:=B.due) e
   have io:=ok.w o om
   have du':=du
   unfold Kp.due at du'
   rw [Bool.and_eq_true,decide_eq_true_eq,decide_eq_true_eq] at du'
   obtain ⟨p0,p1,_⟩:=qz.mp io
   obtain ⟨g0,eg⟩:=k.nm o.p p0 (by omega)
   have el:((ofP o.p B.done).length:Int) = gI B.gk o.p:=by
    have:=congrArg List.length eg
    rw [length_map] at this
    rw [this]
    unfold upTo
    rw [length_map,length_range]
    omega
   have zs:KZ L n ns (B.step o):=⟨z.hn,z.hl,z.uc,z.ul,λu hu=>z.wl u (mem_of_mem_erase hu),z.ck,z.cp,.snoc z.hi io (show o.n = ((ofP o.p B.done).length:Int) by omega) (by show o.m <= gI (jyo ns B.done) o.p; rw [<- k.he]; exact du'.2)⟩
   have r:=KZ.go (m:=m) lo zs (k.step ok io (z.wl o om) om du) (ok.step o)
   refine ⟨r.z,r.ch,r.hd,λu hu=>r.dm u (mem_append_left _ hu),λu hu=>?_⟩
   by_cases y:u = o
   .subst y
    exact .inl (r.dm u (mem_append_right _ (mem_singleton.mpr rfl)))
   .exact r.wm u ((List.mem_erase_of_ne y).mpr hu)
theorem KX.add {C:O -> Bool} (lo : ∀ o ∈ L,zc n o = true) (k:KX L C n ns B) (ok : B.Ok n) {o:O} (ol:o ∈ L) (cb:C o = true) (no : ¬ o ∈ B.wait) (np : ¬ B.past o = true) : KX L C n ns { B with wait:=B.wait ++ [o] } /\ Kp.Ok n { B with wait:=B.wait ++ [o] }:=by
 refine ⟨⟨k.he,k.h0,k.hs,k.nm,k.dl,λu hu=>?_,λu hu hd=>?_⟩,⟨ok.h,ok.x,ok.u,λu hu=>?_,nodup_append.mpr ⟨ok.nd,by simp,λx hx y hy e=>by rw [mem_singleton.mp hy] at e; subst e; exact no hx⟩⟩⟩
 .rcases mem_append.mp hu with hu | hu
  .exact k.wc u hu
  .rw [mem_singleton.mp hu]; exact cb
 .rcases mem_append.mp hu with hu | hu
  .exact k.wd u hu hd
  .rw [mem_singleton.mp hu] at hd
   exact np (k.past lo hd)
 .rcases mem_append.mp hu with hu | hu
  .exact ok.w u hu
  .rw [mem_singleton.mp hu]; exact lo o ol
theorem KZ.take {C:O -> Bool} (lo : ∀ o ∈ L,zc n o = true) (z:KZ L n ns B) (k:KX L C n ns B) (ok : B.Ok n) (ca : B.calm) (b:Bool) {o:O} (ol:o ∈ L) (oc:b = false -> C o = true) : Kept L n ns B (B.take b o).1 (B.take b o).2 /\ (b = false -> o ∈ (B.take b o).1.done \/ o ∈ (B.take b o).1.wait \/ B.past o = true):=by
 have same:Kept L n ns B B []:=⟨z,ca,λ_ h=>h,λ_ h=>(by cases h),λ_ h=>(by cases h),λ_ h=>h,λ_ h=>.inr h,zero_le _⟩
 unfold Kp.take
 split
 .rename_i hb
  refine ⟨?_,λe=>by rw [hb] at e; cases e⟩
  unfold Kp.jzo
  split
  .exact same
  .rename_i nh
   have z1:KZ L n ns { B with xj:=B.xj ++ [o],unv:=B.unv ++ [o] }:=by
    refine ⟨nodup_append.mpr ⟨z.hn,by simp,λx hx y hy e=>by rw [mem_singleton.mp hy] at e; subst e; exact nh hx⟩,λu hu=>?_,?_,λu hu=>?_,z.wl,z.ck,z.cp,z.hi⟩
    .rcases mem_append.mp hu with hu | hu
     .exact z.hl u hu
     .rw [mem_singleton.mp hu]; exact ol
    .show (B.unv ++ [o]).length + B.cho.length <= (B.xj ++ [o]).length
     rw [length_append,length_append]
     have:=z.uc
     show B.unv.length + 1 + B.cho.length <= B.xj.length + 1
     omega
    .rcases mem_append.mp hu with hu | hu
     .exact z.ul u hu
     .rw [mem_singleton.mp hu]; exact ol
   have r:=z1.qo ca
   exact ⟨r.z,r.ca,r.mo,r.vt,r.vl,r.dm,r.wm,r.vn⟩
 .unfold Kp.joe
  split
  .rename_i y
   refine ⟨same,λ_=>?_⟩
   rw [Bool.or_eq_true,decide_eq_true_eq] at y
   rcases y with y | y
   .exact .inr (.inr y)
   .exact .inr (.inl y)
  .rename_i nz
   have no : ¬ o ∈ B.wait:=λz=>nz (by rw [decide_eq_true z,Bool.or_true])
   have z1:KZ L n ns { B with wait:=B.wait ++ [o] }:=by
    refine ⟨z.hn,z.hl,z.uc,z.ul,λu hu=>?_,z.ck,z.cp,z.hi⟩
    rcases mem_append.mp hu with hu | hu
    .exact z.wl u hu
    .rw [mem_singleton.mp hu]; exact ol
   have np : ¬ B.past o = true:=λz=>nz (by rw [z,Bool.true_or])
   obtain ⟨k1,ok1⟩:=k.add lo ok ol (oc (by rename_i nb; simpa using nb)) no np
   have g:=KZ.go (m:=(B.wait ++ [o]).length) lo z1 k1 ok1
   have ca1:(Kp.juc { B with wait:=B.wait ++ [o] }).calm:=jx3 (le_refl _)
   have r:=KZ.qo (B:=Kp.juc { B with wait:=B.wait ++ [o] }) g.z ca1
   refine ⟨⟨r.z,r.ca,λc hc=>r.mo c (by show c ∈ (Kp.juc _).cho; rw [show (Kp.juc { B with wait:=B.wait ++ [o] }).cho = _ from g.ch]; exact hc),r.vt,r.vl,λu hu=>r.dm u (g.dm u hu),λu hu=>?_,r.vn⟩,λ_=>?_⟩
   .rcases g.wm u (mem_append_left _ hu) with h | h
    .exact .inl (r.dm u h)
    .exact r.wm u h
   .rcases g.wm o (mem_append_right _ (mem_singleton.mpr rfl)) with h | h
    .exact .inl (r.dm o h)
    .rcases r.wm o h with h | h
     .exact .inl h
     .exact .inr (.inl h)
end
def unc (Y : Wd) (L:List O) : Nat:=(L.filter λo=>!Y.carried o).length
structure Gz (Y : Wd) (T F:Nat) (L:List O) (ls ns:List Int) : Prop where
 ok : Y.Ok
 l:L.length <= T
 lo : ∀ o ∈ L,zc Y.n o = true
 mw : ∀ o ∈ L,Y.may o
 ks : ∀ c ∈ Y.ks,KX L Y.carried Y.n ns c.2 /\ KZ L Y.n ns c.2 /\ c.2.calm
 g:WG Y L (Y.ks.map (·.1) ++ ls)
 wl : Y.way.length + Y.ks.length * unc Y L <= F
 al : ∀ row ∈ Y.asked,row.length <= T
 e1 : 1 <= Y.en
 vt : ∀ c ∈ Y.ks,∀ o,c.1 ∈ jr Y.bd (yw o) -> ((o.p,o.n),o) ∈ c.2.cho
 pp : ∀ c ∈ Y.ks,∀ o,Y.carried o = true -> (false,c.1,o) ∈ Y.way \/ o ∈ c.2.done \/ o ∈ c.2.wait
 dj : ∀ c ∈ Y.ks,c.1 ∉ ls
 qu:((Y.ks.length + ls.length + ls.length:Nat) : Int) < 2 * Y.en
 nl:ns.length = Y.n
theorem j7e {α : Type} (p : α -> Bool) : ∀ xs:List α,(xs.filter p).length + (xs.filter λx=>!p x).length = xs.length
 | []=>rfl
 | x :: xs=>by
  have:=j7e p xs
  cases h:p x <;> simp [h] <;> omega
theorem jxx {α : Type} {p q : α -> Bool} (h : ∀ x,q x = true -> p x = true) : ∀ xs:List α,(xs.filter q).length <= (xs.filter p).length
 | []=>le_refl _
 | x :: xs=>by
  have:=jxx h xs
  cases hq:q x with
  | true=>rw [filter_cons_of_pos hq,filter_cons_of_pos (h x hq)]; simpa using this
  | false=>
   rw [filter_cons_of_neg (by simp [hq])]
   cases hp:p x with
   | true=>rw [filter_cons_of_pos hp,length_cons]; omega
   | false=>rw [filter_cons_of_neg (by simp [hp])]; exact this
theorem j03 {α : Type} {p q : α -> Bool} (h : ∀ x,q x = true -> p x = true) {y : α} (hp:p y = true) (hq:q y = false) : ∀ {xs:List α},y ∈ xs -> (xs.filter q).length + 1 <= (xs.filter p).length
 | x :: xs,hy=>by
  rcases mem_cons.mp hy with rfl | hy
  .rw [filter_cons_of_neg (by simp [hq]),filter_cons_of_pos hp,length_cons]
   have:=jxx h xs
   omega
  .have:=j03 h hp hq hy
   cases hqx:q x with
   | true=>rw [filter_cons_of_pos hqx,filter_cons_of_pos (h x hqx),length_cons,length_cons]; omega
   | false=>
    rw [filter_cons_of_neg (by simp [hqx])]
    cases hpx:p x with
    | true=>rw [filter_cons_of_pos hpx,length_cons]; omega
    | false=>rw [filter_cons_of_neg (by simp [hpx])]; exact this
theorem jua {α β : Type} : ∀ {xs:List (α × β)} {k : α} {a b : β},(xs.map (·.1)).Nodup -> (k,a) ∈ xs -> (k,b) ∈ xs -> a = b
 | x :: xs,k,a,b,nd,ha,hb=>by
  rw [map_cons,nodup_cons] at nd
  rcases mem_cons.mp ha with e1 | e1
  .rcases mem_cons.mp hb with e2 | e2
   .rw [<- e1] at e2
    exact (Prod.mk.inj e2).2.symm
   .exact absurd (mem_map_of_mem (f:=(·.1)) e2) (by rw [<- e1] at nd; exact nd.1)
  .rcases mem_cons.mp hb with e2 | e2
   .exact absurd (mem_map_of_mem (f:=(·.1)) e1) (by rw [<- e2] at nd; exact nd.1)
   .exact jua nd.2 e1 e2
section
variable {Y : Wd} {T F T' F':Nat} {L:List O} {ls ns:List Int}
theorem Gz.mono (g:Gz Y T F L ls ns) (hT:T <= T') (hF:F <= F') : Gz Y T' F' L ls ns:=⟨g.ok,le_trans g.l hT,g.lo,g.mw,g.ks,g.g,le_trans g.wl hF,λrow hr=>le_trans (g.al row hr) hT,g.e1,g.vt,g.pp,g.dj,g.qu,g.nl⟩
theorem Gz.un (g:Gz Y T F L ls ns) {o o':O} (c : Y.carried o = true) (c' : Y.carried o' = true) (ep:o.p = o'.p) (en:o.n = o'.n) : o = o':=by
 refine Classical.byContradiction λne=>?_
 have inn : ∀ k,(jr Y.bd k).Nodup /\ ∀ h ∈ jr Y.bd k,h ∈ Y.ks.map (·.1) ++ ls:=λk=>by
  rcases jl8 (k:=k) (is:=Y.bd) with e | ⟨x,hx,e⟩
  .rw [e]
   exact ⟨nodup_nil,λ_ z=>by cases z⟩
  .rw [e]
   exact g.g.b.hn x hx
 obtain ⟨a1,a2⟩:=inn (yw o)
 obtain ⟨b1,b2⟩:=inn (yw o')
 have la:=of_decide_eq_true c
 have lb:=of_decide_eq_true c'
 have v:=g.vt
 have honest : ∀ h ∈ jr Y.bd (yw o),h ∈ jr Y.bd (yw o') -> h ∈ ls:=λh h1 h2=>by
  rcases mem_append.mp (a2 h h1) with hk | hl
  .obtain ⟨c,hc,rfl⟩:=mem_map.mp hk
   have e1:=v c hc o h1
   have e2:=v c hc o' h2
   rw [<- ep,<- en] at e2
   exact absurd (jua ((g.ks c hc).2.1.ck) e1 e2) ne
  .exact hl
 generalize jr Y.bd (yw o) = A at a1 a2 la honest
 generalize jr Y.bd (yw o') = Bq at b1 b2 lb honest
 have s1:=j7e (λx=>decide (x ∈ Bq)) A
 have i1:(A.filter λx=>decide (x ∈ Bq)).length <= ls.length:=qy (a1.filter _) λx hx=>honest x (mem_filter.mp hx).1 (of_decide_eq_true (mem_filter.mp hx).2)
 have u1:((A.filter λx=>!decide (x ∈ Bq)) ++ Bq).length <= (Y.ks.map (·.1) ++ ls).length:=qy (nodup_append.mpr ⟨a1.filter _,b1,λx hx y hy e=>by
   have:=(mem_filter.mp hx).2
   rw [e,decide_eq_true hy] at this
   cases this⟩) λx hx=>by
  rcases mem_append.mp hx with hx | hx
  .exact a2 x (mem_filter.mp hx).1
  .exact b2 x hx
 rw [length_append,length_append,length_map] at u1
 have:=g.qu
 omega
theorem jn6 (Y : Wd) (h:Int) (o:O) : (∀ k,jr (Y.jdx h o).bd k = jr Y.bd k) /\ (Y.put h o).2 = false \/ (∀ k,jr (Y.jdx h o).bd k = if k = yw o then jr Y.bd (yw o) ++ [h] else jr Y.bd k) /\ (Y.put h o).2 = decide (((jr Y.bd (yw o)).length:Int) + 1 = Y.en):=by
 rw [jjb]
 unfold Wd.put
 split
 .exact .inl ⟨λ_=>rfl,rfl⟩
 .exact .inr ⟨λk=>jda,rfl⟩
theorem juw (Y : Wd) (h:Int) (o:O) : (Y.jdx h o).way = Y.way ++ if (Y.put h o).2 = true then Y.ks.map λc=>(false,c.1,o) else []:=by
 have e1:(Y.put h o).1.way = Y.way /\ (Y.put h o).1.ks = Y.ks:=by
  unfold Wd.put
  split <;> exact ⟨rfl,rfl⟩
 unfold Wd.jdx
 split
 .show (Y.put h o).1.way ++ (Y.put h o).1.ks.map _ = _
  rw [e1.1,e1.2]
 .rw [append_nil,e1.1]
theorem Gz.jdx (g:Gz Y T F L ls ns) {h:Int} {o:O} (hh:h ∈ Y.ks.map (·.1) ++ ls) (ol:o ∈ L) (hv : ∀ c ∈ Y.ks,c.1 = h -> ((o.p,o.n),o) ∈ c.2.cho) : Gz (Y.jdx h o) T F L ls ns:=by
 have lk:=jgr Y h o
 have cc : ∀ u,Y.carried u = true -> (Y.jdx h o).carried u = true:=λu=>jhs
 have hs:=jn6 Y h o
 have ew:=juw Y h o
 have car : ∀ u,(Y.jdx h o).carried u = decide (Y.en <= ((jr (Y.jdx h o).bd (yw u)).length:Int)):=λu=>by
  unfold Wd.carried
  rw [lk.e]
 have new : ∀ u,(Y.jdx h o).carried u = true -> Y.carried u = true \/ u = o /\ (Y.put h o).2 = true:=λu hu=>by
  rw [car u] at hu
  rcases hs with ⟨e,_⟩ | ⟨e,e2⟩
  .rw [e] at hu
   exact .inl hu
  .rw [e] at hu
   split at hu
   .rename_i z
    have uo:u = o:=jnr z
    subst uo
    by_cases y : Y.carried u = true
    .exact .inl y
    .refine .inr ⟨rfl,?_⟩
     rw [e2]
     have a1:=of_decide_eq_true hu
     rw [length_append] at a1
     have a2 : ¬ Y.en <= ((jr Y.bd (yw u)).length:Int):=λq=>y (decide_eq_true q)
     refine decide_eq_true ?_
     have a3 : Y.en <= ((jr Y.bd (yw u)).length:Int) + 1:=a1
     omega
   .exact .inl hu
 have uc : unc (Y.jdx h o) L + (if (Y.put h o).2 = true then 1 else 0) <= unc Y L:=by
  have im : ∀ u:O,(!(Y.jdx h o).carried u) = true -> (!Y.carried u) = true:=λu hu=>by
   cases e : Y.carried u with
   | false=>rfl
   | true=>rw [cc u e] at hu; cases hu
  split
  .rename_i z
   refine j03 im (y:=o) ?_ ?_ ol
   .cases e : Y.carried o with
    | false=>rfl
    | true=>
     exfalso
     rcases hs with ⟨_,e2⟩ | ⟨_,e2⟩
     .rw [e2] at z; cases z
     .rw [e2] at z
      have:=of_decide_eq_true z
      have:=of_decide_eq_true e
      omega
   .have:=jxj z
    unfold Wd.carried at this ⊢
    rw [jjb,lk.e,<- (jku Y h o).e,this]
    rfl
  .exact jxx im L
 refine ⟨⟨by rw [lk.n]; exact g.ok.n8,by rw [lk.a,lk.n]; exact g.ok.al,by rw [lk.a,lk.n]; exact g.ok.ao,by rw [lk.k,lk.n]; exact g.ok.ks,by rw [lk.k]; exact g.ok.nd,by rw [lk.k]; exact g.ok.k0,by rw [lk.k]; exact g.ok.k1⟩,g.l,by rw [lk.n]; exact g.lo,λu hu=>?_,?_,by rw [lk.k]; exact (g.g.jdx ol hh).1,?_,by rw [lk.a]; exact g.al,by rw [lk.e]; exact g.e1,?_,?_,by rw [lk.k]; exact g.dj,by rw [lk.k,lk.e]; exact g.qu,by rw [lk.n]; exact g.nl⟩
 .have:=g.mw u hu
  unfold Wd.may at this ⊢
  rw [lk.c,lk.a]
  exact this
 .rw [lk.k,lk.n]
  exact λc hc=>⟨(g.ks c hc).1.mono (λ_ h=>h) cc,(g.ks c hc).2⟩
 .rw [lk.k,ew,length_append]
  have w:=g.wl
  have m:=mul_le_mul_left Y.ks.length uc
  rw [mul_add] at m
  split
  .rename_i z
   rw [if_pos z] at m
   rw [length_map]
   omega
  .rename_i z
   rw [if_neg z] at m
   show Y.way.length + 0 + _ <= F
   omega
 .rw [lk.k]
  intro c hc u hu
  rcases hs with ⟨e,_⟩ | ⟨e,_⟩
  .rw [e] at hu
   exact g.vt c hc u hu
  .rw [e] at hu
   split at hu
   .rename_i z
    have uo:u = o:=jnr z
    subst uo
    rcases mem_append.mp hu with hu | hu
    .exact g.vt c hc u hu
    .exact hv c hc (mem_singleton.mp hu)
   .exact g.vt c hc u hu
 .rw [lk.k,ew]
  intro c hc u hu
  rcases new u hu with h1 | ⟨rfl,h1⟩
  .rcases g.pp c hc u h1 with q | q
   .exact .inl (mem_append_left _ q)
   .exact .inr q
  .rw [if_pos h1]
   exact .inl (mem_append_right _ (mem_map_of_mem (f:=λc:Int × Kp=>(false,c.1,u)) hc))
theorem Gz.qo {h:Int} : ∀ {os:List O} {Y : Wd},Gz Y T F L ls ns -> h ∈ Y.ks.map (·.1) ++ ls -> (∀ o ∈ os,o ∈ L) -> (∀ c ∈ Y.ks,c.1 = h -> ∀ o ∈ os,((o.p,o.n),o) ∈ c.2.cho) -> Gz (Y.qo h os) T F L ls ns
 | [],_,g,_,_,_=>g
 | o :: os,Y,g,hh,ol,hv=>by
  have lk:=jgr Y h o
  have g1:=g.jdx hh (ol o mem_cons_self) λc hc e=>hv c hc e o mem_cons_self
  exact Gz.qo (os:=os) g1 (by rw [lk.k]; exact hh) (λu hu=>ol u (mem_cons_of_mem _ hu)) (by rw [lk.k]; exact λc hc e u hu=>hv c hc e u (mem_cons_of_mem _ hu))
theorem Gz.lie (g:Gz Y T F L ls ns) {h:Int} (hh:h ∈ ls) {o:O} (ol:o ∈ L) : Gz (Y.qo h [o]) T F L ls ns:=g.qo (mem_append_right _ hh) (λu hu=>by rw [mem_singleton.mp hu]; exact ol) λc hc e=>absurd hh (by rw [<- e]; exact g.dj c hc)
theorem Gz.juf (g:Gz Y T F L ls ns) {b:Bool} {h:Int} {o:O} (ol:o ∈ L) (hh:h ∈ Y.ks.map (·.1)) (hb:b = false -> Y.carried o = true) : Gz { Y with way:=Y.way ++ [(b,h,o)] } T (F + 1) L ls ns:=by
 refine ⟨⟨g.ok.n8,g.ok.al,g.ok.ao,g.ok.ks,g.ok.nd,g.ok.k0,g.ok.k1⟩,g.l,g.lo,g.mw,g.ks,⟨g.g.b,λx hx=>?_⟩,?_,g.al,g.e1,g.vt,λc hc u hu=>?_,g.dj,g.qu,g.nl⟩
 .rcases mem_append.mp (show x ∈ Y.way ++ [(b,h,o)] from hx) with hx | hx
  .exact g.g.y x hx
  .rw [mem_singleton.mp hx]
   exact ⟨ol,hh,hb⟩
 .have:=g.wl
  show (Y.way ++ [(b,h,o)]).length + Y.ks.length * unc Y L <= F + 1
  rw [length_append]
  show Y.way.length + 1 + _ <= _
  omega
 .rcases g.pp c hc u hu with q | q
  .exact .inl (mem_append_left _ q)
  .exact .inr q
theorem jnm (Y : Wd) (o:O) (L:List O) : unc Y (o :: L) <= unc Y L + 1:=by
 unfold unc
 rw [List.filter_cons]
 split
 .rw [length_cons]; exact le_refl _
 .omega
theorem Gz.more (g:Gz Y T F L ls ns) {o:O} (ho:zc Y.n o = true) (hm : Y.may o) : Gz Y (T + 1) (F + 16) (o :: L) ls ns:=by
 have sub : ∀ u ∈ L,u ∈ o :: L:=λu h=>mem_cons_of_mem _ h
 refine ⟨g.ok,by rw [length_cons]; have:=g.l; omega,λu hu=>?_,λu hu=>?_,λc hc=>⟨(g.ks c hc).1.mono sub λ_ h=>h,(g.ks c hc).2.1.mono sub,(g.ks c hc).2.2⟩,⟨g.g.b.mono sub,λx hx=>?_⟩,?_,λrow hr=>le_succ_of_le (g.al row hr),g.e1,g.vt,g.pp,g.dj,g.qu,g.nl⟩
 .rcases mem_cons.mp hu with rfl | hu
  .exact ho
  .exact g.lo u hu
 .rcases mem_cons.mp hu with rfl | hu
  .exact hm
  .exact g.mw u hu
 .obtain ⟨a,b,c⟩:=g.g.y x hx
  exact ⟨sub _ a,b,c⟩
 .have:=g.wl
  have m:=mul_le_mul_left Y.ks.length (jnm Y o L)
  have:=g.ok.k1
  rw [mul_add] at m
  omega
end
section
variable {Y : Wd} {T F T' F':Nat} {L:List O} {ls ns:List Int}
theorem jsd {α : Type} {x y : α} : ∀ {xs:List α} {i:Nat},x ∈ xs -> xs[i]? = some y -> x ≠ y -> x ∈ xs.eraseIdx i
 | z :: xs,0,h,e,ne=>by
  rcases mem_cons.mp h with rfl | h
  .exact absurd (Option.some.inj e) ne
  .exact h
 | z :: xs,i + 1,h,e,ne=>by
  rcases mem_cons.mp h with rfl | h
  .exact mem_cons_self
  .exact mem_cons_of_mem _ (jsd (i:=i) h (by simpa using e) ne)
theorem Gz.past (g:Gz Y T F L ls ns) {c:Int × Kp} (hc:c ∈ Y.ks) {o:O} (ol:o ∈ L) (oc : Y.carried o = true) (h:c.2.past o = true) : o ∈ c.2.done:=by
 obtain ⟨kx,_⟩:=g.ks c hc
 obtain ⟨p0,p1,_,_,_,n0,_⟩:=qz.mp (g.lo o ol)
 obtain ⟨g0,e⟩:=kx.nm o.p p0 (by omega)
 have lt:=of_decide_eq_true h
 have m:o.n ∈ upTo (gI c.2.gk o.p):=mem_map.mpr ⟨o.n.toNat,mem_range.mpr (by omega),by omega⟩
 rw [<- e] at m
 obtain ⟨o',ho',en⟩:=mem_map.mp m
 obtain ⟨m1,m2⟩:=mem_filter.mp ho'
 have:o = o':=g.un oc (kx.dl o' m1).2 (of_decide_eq_true m2).symm en.symm
 rw [this]
 exact m1
theorem Kp.big (B : Kp) : KSz B (B.xj.length + (B.unv.length + B.cho.length) + (B.done.length + B.wait.length)):=⟨by omega,by omega,by omega⟩
theorem j2u {n:Nat} {B : Kp} (z:KZ L n ns B) (ok : B.Ok n) (b:Bool) {o:O} (ol:o ∈ L) (ho:zc n o = true) : (B.take b o).1.Ok n:=(KIn.take ⟨ok,B.big,z.ul,z.wl⟩ b ol ho).1.ok
theorem Gz.jv5 (g:Gz Y T F L ls ns) {i:Nat} {l:Bool × Int × O} {B : Kp} (el : Y.way[i]? = some l) (ek : Y.keep l.2.1 = some B) : Gz (Y.jv5 i l B) T (F - 1) L ls ns:=by
 obtain ⟨lL,lh,lc⟩:=g.g.y l (mem_of_getElem? el)
 obtain ⟨κ',ek',km⟩:=jlz lh
 rw [ek] at ek'
 cases ek'
 obtain ⟨kx,kz,ca⟩:=g.ks _ km
 have ok : B.Ok Y.n:=g.ok.ks _ km
 have lt:=(List.getElem?_eq_some_iff.mp el).1
 obtain ⟨r,rp⟩:=kz.take g.lo kx ok ca l.1 lL lc
 have kx1:=kx.take g.lo ok kz.wl l.1 lL lc
 have ok1:=j2u kz ok l.1 lL (g.lo _ lL)
 have ekeys:=jst Y.ks l.2.1 (B.take l.1 l.2.2).1
 have split : ∀ c ∈ jje Y.ks l.2.1 (B.take l.1 l.2.2).1,(c.1 = l.2.1 /\ c.2 = (B.take l.1 l.2.2).1) \/ (c ∈ Y.ks /\ c.1 ≠ l.2.1):=λc hc=>by
  obtain ⟨c',hc',rfl⟩:=mem_map.mp hc
  split
  .exact .inl ⟨rfl,rfl⟩
  .rename_i z
   exact .inr ⟨hc',z⟩
 have mid:Gz { Y with way:=Y.way.eraseIdx i,ks:=jje Y.ks l.2.1 (B.take l.1 l.2.2).1 } T (F - 1) L ls ns:=by
  refine ⟨⟨g.ok.n8,g.ok.al,g.ok.ao,λc hc=>?_,by show ((jje Y.ks l.2.1 _).map _).Nodup; rw [ekeys]; exact g.ok.nd,by show 0 < (jje _ _ _).length; rw [jdy]; exact g.ok.k0,by show (jje _ _ _).length <= 16; rw [jdy]; exact g.ok.k1⟩,g.l,g.lo,g.mw,λc hc=>?_,?_,?_,g.al,g.e1,λc hc u hu=>?_,λc hc u hu=>?_,λc hc=>?_,by show (((jje _ _ _).length + _ + _:Nat) : Int) < _; rw [jdy]; exact g.qu,g.nl⟩
  .rcases split c hc with ⟨e1,e2⟩ | ⟨h1,_⟩
   .rw [e2]; exact ok1
   .exact g.ok.ks c h1
  .rcases split c hc with ⟨e1,e2⟩ | ⟨h1,_⟩
   .rw [e2]; exact ⟨kx1,r.z,r.ca⟩
   .exact g.ks c h1
  .show WG _ L ((jje Y.ks l.2.1 _).map (·.1) ++ ls)
   rw [ekeys]
   refine ⟨g.g.b,λx hx=>?_⟩
   obtain ⟨a,b,c⟩:=g.g.y x (List.mem_of_mem_eraseIdx hx)
   exact ⟨a,by show _ ∈ (jje Y.ks l.2.1 _).map (·.1); rw [ekeys]; exact b,c⟩
  .show (Y.way.eraseIdx i).length + (jje _ _ _).length * unc Y L <= F - 1
   rw [jdy,List.length_eraseIdx_of_lt lt]
   have:=g.wl
   omega
  .rcases split c hc with ⟨e1,e2⟩ | ⟨h1,_⟩
   .rw [e2]
    rw [e1] at hu
    exact r.mo _ (g.vt _ km u hu)
   .exact g.vt c h1 u hu
  .rcases split c hc with ⟨e1,e2⟩ | ⟨h1,h2⟩
   .rw [e1,e2]
    rcases g.pp _ km u hu with q | q | q
    .by_cases y:(false,l.2.1,u) = l
     .have e:l.1 = false:=by rw [<- y]
      have eu:l.2.2 = u:=by rw [<- y]
      subst eu
      rcases rp e with h | h | h
      .exact .inr (.inl h)
      .exact .inr (.inr h)
      .exact .inr (.inl (r.dm _ (g.past km lL (lc e) h)))
     .exact .inl (jsd q el y)
    .exact .inr (.inl (r.dm u q))
    .exact .inr (r.wm u q)
   .rcases g.pp c h1 u hu with q | q
    .exact .inl (jsd q el λy=>h2 (by rw [<- y]))
    .exact .inr q
  .rcases split c hc with ⟨e1,_⟩ | ⟨h1,_⟩
   .rw [e1]; exact g.dj _ km
   .exact g.dj c h1
 refine mid.qo (h:=l.2.1) (by show _ ∈ (jje Y.ks l.2.1 _).map (·.1) ++ ls; rw [ekeys]; exact mem_append_left _ lh) r.vl λc hc e u hu=>?_
 rcases split c hc with ⟨_,e2⟩ | ⟨_,h2⟩
 .rw [e2]; exact r.vt u hu
 .exact absurd e h2
theorem Gz.ask (g:Gz Y T F L ls ns) (hT:T <= 90) {p g' m:Int} {row:List O} (hp : 0 <= p /\ p < (Y.n:Int)) (hg : 0 <= g' /\ g' < (Y.n:Int)) (ng:g' ≠ p) (hm : 1 <= m /\ m <= 1000) (er : Y.asked[p.toNat]? = some row) : Gz (Y.asks ⟨p,row.length,g',m⟩ row) (T + 1) (F + 32) (⟨p,row.length,g',m⟩ :: L) ls ns:=by
 have lr:=g.al row (mem_of_getElem? er)
 have lp:=(List.getElem?_eq_some_iff.mp er).1
 have ho:zc Y.n ⟨p,row.length,g',m⟩ = true:=qz.mpr ⟨hp.1,by show p <= (Y.n:Int) - 1; omega,hg.1,by show g' <= (Y.n:Int) - 1; omega,λz=>ng z.symm,by show (0:Int) <= row.length; omega,by show (row.length:Int) <= 99; omega,hm.1,hm.2⟩
 generalize eo:(⟨p,row.length,g',m⟩ : O) = o at ho
 have op:o.p = p:=by rw [<- eo]
 have sub : ∀ u ∈ L,u ∈ o :: L:=λu h=>mem_cons_of_mem _ h
 have ea:(Y.asks o row).asked = Y.asked.set p.toNat (row ++ [o]):=by rw [<- op]; rfl
 refine ⟨⟨g.ok.n8,by rw [ea,length_set]; exact g.ok.al,λr hr u hu=>?_,g.ok.ks,g.ok.nd,g.ok.k0,g.ok.k1⟩,by rw [length_cons]; have:=g.l; omega,λu h=>?_,λu h=>?_,λc hc=>⟨(g.ks c hc).1.mono sub λ_ h=>h,(g.ks c hc).2.1.mono sub,(g.ks c hc).2.2⟩,⟨g.g.b.mono sub,λx hx=>?_⟩,?_,λr hr=>?_,g.e1,g.vt,λc hc u hu=>?_,g.dj,g.qu,g.nl⟩
 .rw [ea] at hr
  rcases mem_or_eq_of_mem_set hr with hr | rfl
  .exact g.ok.ao r hr u hu
  .rcases mem_append.mp hu with h | h
   .exact g.ok.ao row (mem_of_getElem? er) u h
   .rw [mem_singleton.mp h]; exact ho
 .rcases mem_cons.mp h with rfl | h
  .exact ho
  .exact g.lo u h
 .show u.p ∈ Y.xx \/ ∃ row',(Y.asks o row).asked[u.p.toNat]? = some row' /\ u ∈ row'
  rw [ea]
  rcases mem_cons.mp h with rfl | h
  .rw [op]
   exact .inr ⟨_,getElem?_set_self lp,mem_append_right _ (mem_singleton.mpr rfl)⟩
  .rcases g.mw u h with h | ⟨row',e,h⟩
   .exact .inl h
   .by_cases z:u.p.toNat = p.toNat
    .rw [z] at e ⊢
     rw [er] at e
     cases e
     exact .inr ⟨_,getElem?_set_self lp,mem_append_left _ h⟩
    .exact .inr ⟨row',by rw [getElem?_set_ne (λy=>z y.symm)]; exact e,h⟩
 .rcases mem_append.mp (show x ∈ Y.way ++ Y.ks.map λc=>(true,c.1,o) from hx) with hx' | hx'
  .obtain ⟨a,b,c⟩:=g.g.y x hx'
   exact ⟨sub _ a,b,c⟩
  .obtain ⟨c,hc,rfl⟩:=mem_map.mp hx'
   exact ⟨mem_cons_self,mem_map_of_mem hc,λz=>by cases z⟩
 .show (Y.way ++ Y.ks.map λc=>(true,c.1,o)).length + Y.ks.length * unc Y (o :: L) <= F + 32
  rw [length_append,length_map]
  have:=g.wl
  have m':=mul_le_mul_left Y.ks.length (jnm Y o L)
  have:=g.ok.k1
  rw [mul_add] at m'
  omega
 .rw [ea] at hr
  rcases mem_or_eq_of_mem_set hr with hr | rfl
  .exact le_succ_of_le (g.al r hr)
  .rw [length_append]
   show row.length + 1 <= T + 1
   omega
 .rcases g.pp c hc u hu with q | q
  .exact .inl (mem_append_left _ q)
  .exact .inr q
theorem Gz.row (g:Gz Y T F L ls ns) {p:Int} (h0 : 0 <= p) (h1:p < (Y.n:Int)) : ∃ row,Y.asked[p.toNat]? = some row:=⟨_,getElem?_eq_getElem (by rw [g.ok.al]; omega)⟩
theorem Gz.way (g:Gz Y T F L ls ns) : Y.way.length <= F:=by
 have:=g.wl
 omega
theorem Gz.sz (g:Gz Y T F L ls ns) : Sz Y L.length (Y.ks.length + ls.length) F:=by
 obtain ⟨b1,b2⟩:=g.g.b.len
 refine ⟨b1,λx hx=>?_,g.way,g.ok.k1⟩
 have:=b2 x hx
 rwa [length_append,length_map] at this
theorem Gz.ksz (g:Gz Y T F L ls ns) {c:Int × Kp} (hc:c ∈ Y.ks) : KSz c.2 L.length:=by
 obtain ⟨kx,kz,_⟩:=g.ks c hc
 have h1:=qy kz.hn kz.hl
 have h2:=kz.uc
 refine ⟨h1,by omega,?_⟩
 rw [<- length_append]
 refine qy (nodup_append.mpr ⟨kz.hi.nd,(g.ok.ks c hc).nd,λx hx y hy e=>kx.wd y hy (by rw [<- e]; exact hx)⟩) λx hx=>?_
 rcases mem_append.mp hx with hx | hx
 .exact (kx.dl x hx).1
 .exact kz.wl x hx
theorem Gz.vn (g:Gz Y T F L ls ns) {c:Int × Kp} (hc:c ∈ Y.ks) (b:Bool) {o:O} (ol:o ∈ L) (oc:b = false -> Y.carried o = true) : (c.2.take b o).2.length <= L.length:=by
 obtain ⟨kx,kz,ca⟩:=g.ks c hc
 have r:=(kz.take g.lo kx (g.ok.ks c hc) ca b ol oc).1
 exact le_trans r.vn (qy r.z.hn r.z.hl)
theorem Gz.joe (g:Gz Y T F L ls ns) {t:List Int} (h:t ∈ xq Y.bd Y.en) : ∃ o ∈ L,t = yw o /\ Y.carried o = true:=by
 obtain ⟨x,hx,rfl⟩:=mem_map.mp h
 obtain ⟨h1,h2⟩:=mem_filter.mp hx
 obtain ⟨o,ol,e⟩:=g.g.b.ks x h1
 obtain ⟨i,hi,ei⟩:=mem_iff_getElem.mp h1
 refine ⟨o,ol,e,?_⟩
 unfold Wd.carried
 rw [<- e,jvy g.g.b.nd (by rw [getElem?_eq_getElem hi,ei])]
 exact h2
end
theorem j62 {h f:Int} {ns cs ls:List Int} (h1 : 1 <= h /\ h <= 16) (hf : 0 <= f) (lt : 3 * f < h) (l8:ns.length <= 8) (n0 : ∀ x ∈ ns,0 <= x) (ll:(ls.length:Int) <= f) (lr : ∀ x ∈ ls,0 <= x /\ x < h) (lp:ls.Pairwise (· < ·)) : Gz (w0 h f ns cs ls) 0 0 [] ls ns:=by
 have g:=j6p (cs:=cs) h1 hf lt l8 n0 ll lr
 have kall : ∀ c ∈ (w0 h f ns cs ls).ks,c.2 = kp0 ns /\ c.1 ∈ jbz ls h.toNat:=λc hc=>by
  obtain ⟨i,hi,rfl⟩:=mem_map.mp (show c ∈ (jbz ls h.toNat).map λi=>(i,kp0 ns) from hc)
  exact ⟨rfl,hi⟩
 have lk:(w0 h f ns cs ls).ks.length = (jbz ls h.toNat).length:=length_map ..
 have cn:(jbz ls h.toNat).Nodup:=by
  unfold jbz
  exact List.Pairwise.filter _ (List.Pairwise.map _ (λa b hab z=>hab (Int.ofNat.inj z)) nodup_range)
 have ln:ls.Nodup:=lp.imp λhab z=>by omega
 have cl:(jbz ls h.toNat ++ ls).length <= ((List.range h.toNat).map λ(i:Nat)=>(i:Int)).length:=qy (nodup_append.mpr ⟨cn,ln,λx hx y hy e=>(jqr hx).2.2 (by rw [e]; exact hy)⟩) λx hx=>by
  rcases mem_append.mp hx with hx | hx
  .exact (mem_filter.mp hx).1
  .have:=lr x hx
   exact mem_map.mpr ⟨x.toNat,mem_range.mpr (by omega),by omega⟩
 rw [length_append,length_map,length_range] at cl
 have nc : ∀ o,¬ (w0 h f ns cs ls).carried o = true:=λo hc=>by
  have:=of_decide_eq_true hc
  have:h - f <= (0:Int):=this
  omega
 refine ⟨g.ok,g.l,g.lo,g.mw,λc hc=>⟨(g.ks c hc).2,?_,?_⟩,g.g,?_,g.al,g.e1,λc hc o ho=>(by cases ho),λc hc o ho=>absurd ho (nc o),λc hc=>(jqr (kall c hc).2).2.2,?_,rfl⟩
 .rw [(kall c hc).1]
  exact ⟨nodup_nil,λ_ z=>(by cases z),le_refl _,λ_ z=>(by cases z),λ_ z=>(by cases z),nodup_nil,λ_ z=>(by cases z),.nil⟩
 .rw [(kall c hc).1]
  exact λ_ z=>by cases z
 .show 0 + (w0 h f ns cs ls).ks.length * 0 <= 0
  omega
 .show (((w0 h f ns cs ls).ks.length + ls.length + ls.length:Nat) : Int) < 2 * (h - f)
  rw [lk]
  omega
theorem wg (h:Int) : ∀ (os:List O) (Y : Wd),Y.jzp (Y.qo h os)
 | [],Y=>⟨rfl,rfl,rfl,rfl,rfl⟩
 | o :: os,Y=>(jgr Y h o).trans (wg h os (Y.jdx h o))
theorem KX.len {L:List O} {C:O -> Bool} {n:Nat} {ns:List Int} {B : Kp} (k:KX L C n ns B) {p:Int} (h0 : 0 <= p) (h1:p < (n:Int)) : ((ofP p B.done).length:Int) = gI B.gk p:=by
 obtain ⟨g0,eg⟩:=k.nm p h0 h1
 have:=congrArg List.length eg
 rw [length_map] at this
 rw [this]
 unfold upTo
 rw [length_map,length_range]
 omega
section
variable {Y : Wd} {T F:Nat} {L:List O} {ls ns:List Int}
theorem Gz.due (g:Gz Y T F L ls ns) {c:Int × Kp} (hc:c ∈ Y.ks) {o:O} (ho:o ∈ c.2.wait) : ¬ (o.n = ((ofP o.p c.2.done).length:Int) /\ o.m <= gI c.2.held o.p):=λ⟨e1,e2⟩=>by
 obtain ⟨kx,kz,ca⟩:=g.ks c hc
 obtain ⟨p0,p1,_⟩:=qz.mp (g.lo o (kz.wl o ho))
 have d:=ca o ho
 unfold Kp.due at d
 rw [kx.len p0 (by omega)] at e1
 rw [decide_eq_true e1,decide_eq_true e2] at d
 cases d
theorem Gz.all (g:Gz Y T F L ls ns) (st : Y.way = []) {c:Int × Kp} (hc:c ∈ Y.ks) {o:O} (h : Y.carried o = true) : o ∈ c.2.done \/ o ∈ c.2.wait:=by
 rcases g.pp c hc o h with q | q
 .rw [st] at q; cases q
 .exact q
theorem Gz.sub (g:Gz Y T F L ls ns) (st : Y.way = []) {c d:Int × Kp} (hc:c ∈ Y.ks) (hd:d ∈ Y.ks) : ∀ o ∈ c.2.done,o ∈ d.2.done:=by
 obtain ⟨kx,kz,_⟩:=g.ks c hc
 obtain ⟨dx,dz,_⟩:=g.ks d hd
 exact j79 (C:=λo=>Y.carried o = true) g.nl (λo o' h h'=>g.un h h') dz.hi (λo ho=>(dx.dl o ho).2) (λo h=>g.all st hd h) dx.wd (λo ho=>by rw [<- dx.he]; exact g.due hd ho) kz.hi λo ho=>(kx.dl o ho).2
end
mutual
theorem jic : ∀ d:Dt,eqD d d = true
 | .non=>by simp [eqD]
 | .bl _=>by simp [eqD]
 | .int _=>by simp [eqD]
 | .str _=>by simp [eqD]
 | .tup ds=>by rw [eqD]; exact jog ds
 | .lst ds=>by rw [eqD]; exact jog ds
theorem jog : ∀ ds:List Dt,jo2 ds ds = true
 | []=>by rw [jo2]
 | d :: ds=>by rw [jo2,jic d,jog ds]; rfl
end
structure KV (B : Kp) : Prop where
 hv : ∀ o ∈ B.xj,o ∈ B.unv \/ jgj B.cho o = true \/ B.past o = true
 cv : ∀ o ∈ B.unv,B.due o = false
theorem je0 {c:List ((Int × Int) × O)} {o:O} : jgj c o = true ↔ ∃ x ∈ c,x.1 = (o.p,o.n):=by
 unfold jgj
 rw [List.any_eq_true]
 simp
theorem j31 (B : Kp) : ∀ (os:List O) (a:Gv),∀ o ∈ os,o ∈ (gv B os a).2.2 \/ jgj (gv B os a).1 o = true \/ B.past o = true
 | [],_,_,h=>by cases h
 | u :: os,a,o,h=>by
  show o ∈ (gv B os (gvS B u a)).2.2 \/ jgj (gv B os (gvS B u a)).1 o = true \/ B.past o = true
  rcases mem_cons.mp h with rfl | h
  .refine jp4 (Q:=λa=>o ∈ a.2.2 \/ jgj a.1 o = true \/ B.past o = true) (λv _ a h=>?_) ?_
   .unfold gvS
    split
    .rcases h with h | h | h
     .exact .inl h
     .obtain ⟨x,hx,e⟩:=je0.mp h
      exact .inr (.inl (je0.mpr ⟨x,mem_append_left _ hx,e⟩))
     .exact .inr (.inr h)
    .split
     .rcases h with h | h
      .exact .inl (mem_append_left _ h)
      .exact .inr h
     .exact h
   .unfold gvS
    split
    .exact .inr (.inl (je0.mpr ⟨_,mem_append_right _ (mem_singleton.mpr rfl),rfl⟩))
    .split
     .exact .inl (mem_append_right _ (mem_singleton.mpr rfl))
     .rename_i _ z
      cases hp : B.past o with
      | true=>exact .inr (.inr rfl)
      | false=>
       cases hc:jgj a.1 o with
       | true=>exact .inr (.inl rfl)
       | false=>exact absurd (by rw [hp,hc]; rfl) z
  .exact j31 B os (gvS B u a) o h
theorem j6x (B : Kp) (os:List O) (a:Gv) (h : ∀ o ∈ a.2.2,B.due o = false) : ∀ o ∈ (gv B os a).2.2,B.due o = false:=by
 refine jp4 (Q:=λa=>∀ o ∈ a.2.2,B.due o = false) (λv _ a h=>?_) h
 unfold gvS
 split
 .exact h
 .rename_i z1
  split
  .rename_i z2
   intro o ho
   rcases mem_append.mp ho with ho | ho
   .exact h o ho
   .rw [mem_singleton.mp ho]
    rw [Bool.and_eq_true] at z2
    cases hd : B.due v with
    | false=>rfl
    | true=>exact absurd (by rw [hd,z2.2]; rfl) z1
  .exact h
theorem j32 (B : Kp) (os:List O) (c:List ((Int × Int) × O)) : ∀ x ∈ (gv B os (c,[],[])).1,x ∈ c \/ x.2 ∈ (gv B os (c,[],[])).2.1:=by
 refine jp4 (Q:=λa=>∀ x ∈ a.1,x ∈ c \/ x.2 ∈ a.2.1) (λv _ a h=>?_) (λx hx=>.inl hx)
 unfold gvS
 split
 .intro x hx
  rcases mem_append.mp hx with hx | hx
  .rcases h x hx with h | h
   .exact .inl h
   .exact .inr (mem_append_left _ h)
  .rw [mem_singleton.mp hx]
   exact .inr (mem_append_right _ (mem_singleton.mpr rfl))
 .split
  .exact h
  .exact h
structure Vot (B κ':Kp) (vs:List O) : Prop where
 v:KV κ'
 hm : ∀ o ∈ B.xj,o ∈ κ'.xj
 cn : ∀ x ∈ κ'.cho,x ∈ B.cho \/ x.2 ∈ vs
theorem jsq {B : Kp} (h : ∀ o ∈ B.xj,o ∈ B.unv \/ jgj B.cho o = true \/ B.past o = true) : Vot B B.qo.1 B.qo.2:=by
 refine ⟨⟨λo ho=>?_,?_⟩,λ_ h=>h,j32 B B.unv B.cho⟩
 .have g : ∀ c ∈ B.cho,c ∈ (gv B B.unv (B.cho,[],[])).1:=by
   refine jp4 (Q:=λa=>∀ c ∈ B.cho,c ∈ a.1) (λv _ a h=>?_) (λ_ h=>h)
   unfold gvS
   split
   .exact λc hc=>mem_append_left _ (h c hc)
   .split <;> exact h
  rcases h o ho with h | h | h
  .exact j31 B B.unv _ o h
  .obtain ⟨x,hx,e⟩:=je0.mp h
   exact .inr (.inl (je0.mpr ⟨x,g x hx,e⟩))
  .exact .inr (.inr h)
 .exact j6x B B.unv _ λ_ z=>by cases z
theorem j0y : ∀ (m:Nat) (B : Kp),(Kp.go m B).unv = B.unv
 | 0,_=>rfl
 | m + 1,B=>by
  unfold Kp.go
  cases B.first with
  | none=>rfl
  | some o=>exact j0y m (B.step o)
theorem jw2 {L:List O} {C:O -> Bool} {n:Nat} {ns:List Int} {B κ':Kp} (k:KX L C n ns B) (k':KX L C n ns κ') (h:jt6 n ns B.done) (sub : ∀ o ∈ B.done,o ∈ κ'.done) {o:O} (io:zc n o = true) (p : B.past o = true) : κ'.past o = true:=by
 obtain ⟨p0,p1,_⟩:=qz.mp io
 have l1:=k.len p0 (by omega)
 have l2:=k'.len p0 (by omega)
 have le:=qy (h.nd.filter _) (jyf (p:=o.p) sub)
 have:=of_decide_eq_true p
 have le':(ofP o.p B.done).length <= (ofP o.p κ'.done).length:=le
 exact decide_eq_true (by omega)
theorem jzs {L:List O} {C:O -> Bool} {n:Nat} {ns:List Int} {B : Kp} (lo : ∀ o ∈ L,zc n o = true) (z:KZ L n ns B) (k:KX L C n ns B) (ok : B.Ok n) (v:KV B) (b:Bool) {o:O} (ol:o ∈ L) (oc:b = false -> C o = true) : Vot B (B.take b o).1 (B.take b o).2 /\ (b = true -> o ∈ (B.take b o).1.xj):=by
 have same:Vot B B []:=⟨v,λ_ h=>h,λ_ h=>.inl h⟩
 unfold Kp.take
 split
 .unfold Kp.jzo
  split
  .rename_i hh
   exact ⟨same,λ_=>hh⟩
  .have r:=jsq (B:={ B with xj:=B.xj ++ [o],unv:=B.unv ++ [o] }) λu hu=>by
    rcases mem_append.mp (show u ∈ B.xj ++ [o] from hu) with hu | hu
    .rcases v.hv u hu with h | h
     .exact .inl (mem_append_left _ h)
     .exact .inr h
    .exact .inl (mem_append_right _ hu)
   exact ⟨⟨r.v,λu hu=>r.hm u (mem_append_left _ hu),r.cn⟩,λ_=>r.hm o (mem_append_right _ (mem_singleton.mpr rfl))⟩
 .rename_i nb
  refine ⟨?_,λe=>absurd e nb⟩
  unfold Kp.joe
  split
  .exact same
  .rename_i nz
   have no : ¬ o ∈ B.wait:=λz=>nz (by rw [decide_eq_true z,Bool.or_true])
   have np : ¬ B.past o = true:=λz=>nz (by rw [z,Bool.true_or])
   obtain ⟨k1,ok1⟩:=k.add lo ok ol (oc (by simpa using nb)) no np
   have z1:KZ L n ns { B with wait:=B.wait ++ [o] }:=by
    refine ⟨z.hn,z.hl,z.uc,z.ul,λu hu=>?_,z.ck,z.cp,z.hi⟩
    rcases mem_append.mp hu with hu | hu
    .exact z.wl u hu
    .rw [mem_singleton.mp hu]; exact ol
   have g:=KZ.go (m:=(B.wait ++ [o]).length) lo z1 k1 ok1
   have kg:KX L C n ns (Kp.juc { B with wait:=B.wait ++ [o] }):=KX.go lo k1 ok1 z1.wl
   have gu:(Kp.juc { B with wait:=B.wait ++ [o] }).unv = B.unv:=j0y _ _
   have r:=jsq (B:=Kp.juc { B with wait:=B.wait ++ [o] }) λu hu=>by
    rw [show (Kp.juc { B with wait:=B.wait ++ [o] }).xj = B.xj from g.hd] at hu
    rw [gu,show (Kp.juc { B with wait:=B.wait ++ [o] }).cho = B.cho from g.ch]
    rcases v.hv u hu with h | h | h
    .exact .inl h
    .exact .inr (.inl h)
    .exact .inr (.inr (jw2 k1 kg z.hi g.dm (lo u (z.hl u hu)) h))
   exact ⟨r.v,λu hu=>r.hm u (by rw [show (Kp.juc { B with wait:=B.wait ++ [o] }).xj = B.xj from g.hd]; exact hu),λx hx=>by
    rcases r.cn x hx with h | h
    .rw [show (Kp.juc { B with wait:=B.wait ++ [o] }).cho = B.cho from g.ch] at h
     exact .inl h
    .exact .inr h⟩
structure Gy (Y : Wd) (T F:Nat) (L:List O) (ls ns:List Int) : Prop extends Gz Y T F L ls ns where
 kv : ∀ c ∈ Y.ks,KV c.2
 hd : ∀ row ∈ Y.asked,∀ o ∈ row,∀ c ∈ Y.ks,(true,c.1,o) ∈ Y.way \/ o ∈ c.2.xj
 cl : ∀ c ∈ Y.ks,∀ x ∈ c.2.cho,x.2 ∈ L
 cb : ∀ c ∈ Y.ks,∀ x ∈ c.2.cho,c.1 ∈ jr Y.bd (yw x.2)
 fu : ∀ (p:Int) (row:List O),0 <= p -> Y.asked[p.toNat]? = some row -> row = [] \/ ∃ c ∈ Y.ks,(row.map (·.m)).sum <= gI ns p + inP p c.2.done
 rn : ∀ (i:Nat) (row:List O),Y.asked[i]? = some row -> ∀ (j:Nat) (o:O),row[j]? = some o -> o.p = (i:Int) /\ o.n = (j:Int)
 rc : ∀ row ∈ Y.asked,∀ o ∈ row.dropLast,Y.carried o = true
 ra : ∀ (i:Nat) (row:List O),Y.asked[i]? = some row -> (i:Int) ∈ Y.xx -> row = []
 ka : Y.en <= (Y.ks.length:Int)
 k8 : Y.ks.length <= 8
theorem Gz.fin {Y : Wd} {T F F':Nat} {L:List O} {ls ns:List Int} (g:Gz Y T F L ls ns) (h : Y.way.length + Y.ks.length * unc Y L <= F') : Gz Y T F' L ls ns:=⟨g.ok,g.l,g.lo,g.mw,g.ks,g.g,h,g.al,g.e1,g.vt,g.pp,g.dj,g.qu,g.nl⟩
def jur (Y Y':Wd) : Prop:=∀ o,(∃ row ∈ Y.asked,o ∈ row) -> ∃ row ∈ Y'.asked,o ∈ row
theorem jur.of {Y Y':Wd} (e : Y'.asked = Y.asked) : jur Y Y':=λo h=>by rw [e]; exact h
theorem jra (h:Int) : ∀ (os:List O) (Y : Wd),(∀ k h',h' ∈ jr Y.bd k -> h' ∈ jr (Y.qo h os).bd k) /\ ∀ o ∈ os,h ∈ jr (Y.qo h os).bd (yw o)
 | [],_=>⟨λ_ _ h=>h,λ_ z=>by cases z⟩
 | o :: os,Y=>by
  obtain ⟨a,b⟩:=jra h os (Y.jdx h o)
  have m : ∀ k h',h' ∈ jr Y.bd k -> h' ∈ jr (Y.jdx h o).bd k:=λk h' hh=>by
   rcases jn6 Y h o with ⟨e,_⟩ | ⟨e,_⟩
   .rw [e]; exact hh
   .rw [e]
    split
    .rename_i z
     rw [z] at hh
     exact mem_append_left _ hh
    .exact hh
  refine ⟨λk h' hh=>a k h' (m k h' hh),λu hu=>?_⟩
  rcases mem_cons.mp hu with rfl | hu
  .refine a _ _ ?_
   rw [jjb]
   unfold Wd.put
   split
   .rename_i z
    exact z
   .show h ∈ jr (jdw _ _ _) _
    rw [jda,if_pos rfl]
    exact mem_append_right _ (mem_singleton.mpr rfl)
  .exact b u hu
theorem jof (h:Int) : ∀ (os:List O) (Y : Wd),∀ x ∈ Y.way,x ∈ (Y.qo h os).way
 | [],_,_,hx=>hx
 | o :: os,Y,x,hx=>jof h os (Y.jdx h o) x (by rw [juw]; exact mem_append_left _ hx)
theorem jnt (h:Int) : ∀ (os:List O) (Y : Wd) (u:O),Y.carried u = true -> (Y.qo h os).carried u = true
 | [],_,_,hx=>hx
 | o :: os,Y,u,hx=>jnt h os (Y.jdx h o) u (jhs hx)
section
variable {Y : Wd} {T F T' F':Nat} {L:List O} {ls ns:List Int}
theorem Gy.mono (g:Gy Y T F L ls ns) (hT:T <= T') (hF:F <= F') : Gy Y T' F' L ls ns:=⟨g.toGz.mono hT hF,g.kv,g.hd,g.cl,g.cb,g.fu,g.rn,g.rc,g.ra,g.ka,g.k8⟩
theorem Gy.juf (g:Gy Y T F L ls ns) {b:Bool} {h:Int} {o:O} (ol:o ∈ L) (hh:h ∈ Y.ks.map (·.1)) (hb:b = false -> Y.carried o = true) : Gy { Y with way:=Y.way ++ [(b,h,o)] } T (F + 1) L ls ns:=⟨g.toGz.juf ol hh hb,g.kv,λrow hr u hu c hc=>(g.hd row hr u hu c hc).imp (λq=>mem_append_left _ q) id,g.cl,g.cb,g.fu,g.rn,g.rc,g.ra,g.ka,g.k8⟩
theorem Gy.more (g:Gy Y T F L ls ns) {o:O} (ho:zc Y.n o = true) (hm : Y.may o) : Gy Y (T + 1) (F + 8) (o :: L) ls ns:=⟨(g.toGz.more ho hm).fin (by
 have:=g.wl
 have m:=mul_le_mul_left Y.ks.length (jnm Y o L)
 have:=g.k8
 rw [mul_add] at m
 omega),g.kv,g.hd,λc hc x hx=>mem_cons_of_mem _ (g.cl c hc x hx),g.cb,g.fu,g.rn,g.rc,g.ra,g.ka,g.k8⟩
theorem Gy.j6z (g:Gy Y T F L ls ns) {o:O} {h:Int} (ho:zc Y.n o = true) (hm:o.p ∈ Y.xx) (hh:h ∈ Y.ks.map (·.1)) : Gy { Y with way:=Y.way ++ [(true,h,o)] } (T + 1) (F + 9) (o :: L) ls ns:=(g.more ho (.inl hm)).juf mem_cons_self hh (λz=>by cases z)
theorem Gy.qo (g:Gy Y T F L ls ns) {h:Int} {os:List O} (z:Gz (Y.qo h os) T F L ls ns) : Gy (Y.qo h os) T F L ls ns:=by
 have lk:=wg h os Y
 obtain ⟨m1,_⟩:=jra h os Y
 refine ⟨z,by rw [lk.k]; exact g.kv,?_,by rw [lk.k]; exact g.cl,?_,by rw [lk.k,lk.a]; exact g.fu,by rw [lk.a]; exact g.rn,?_,by rw [lk.a,lk.c]; exact g.ra,by rw [lk.k,lk.e]; exact g.ka,by rw [lk.k]; exact g.k8⟩
 .rw [lk.k,lk.a]
  exact λrow hr u hu c hc=>(g.hd row hr u hu c hc).imp (jof h os Y _) id
 .rw [lk.k]
  exact λc hc x hx=>m1 _ _ (g.cb c hc x hx)
 .rw [lk.a]
  exact λrow hr o ho=>jnt h os Y o (g.rc row hr o ho)
theorem Gy.lie (g:Gy Y T F L ls ns) {h:Int} (hh:h ∈ ls) {o:O} (ol:o ∈ L) : Gy (Y.qo h [o]) T F L ls ns:=g.qo (g.toGz.lie hh ol)
theorem juu {p:Int} {xs ys:List O} {n:Nat} {ns:List Int} (hx:jt6 n ns xs) (hy:jt6 n ns ys) (sub : ∀ o ∈ xs,o ∈ ys) : inP p xs <= inP p ys:=jfv (hx.nd.filter _) (λu hu=>mem_filter.mpr ⟨sub u (mem_filter.mp hu).1,(mem_filter.mp hu).2⟩) λu hu=>by
 have:=(qz.mp (hy.ord u (mem_filter.mp hu).1)).2.2.2.2.2.2.2.1
 omega
theorem Gy.jv5 (g:Gy Y T F L ls ns) {i:Nat} {l:Bool × Int × O} {B : Kp} (el : Y.way[i]? = some l) (ek : Y.keep l.2.1 = some B) : Gy (Y.jv5 i l B) T (F - 1) L ls ns:=by
 have z:=g.toGz.jv5 el ek
 obtain ⟨lL,lh,lc⟩:=g.g.y l (mem_of_getElem? el)
 obtain ⟨κ',ek',km⟩:=jlz lh
 rw [ek] at ek'
 cases ek'
 obtain ⟨kx,kz,ca⟩:=g.ks _ km
 have ok : B.Ok Y.n:=g.ok.ks _ km
 obtain ⟨r,_⟩:=kz.take g.lo kx ok ca l.1 lL lc
 obtain ⟨v,vh⟩:=jzs g.lo kz kx ok (g.kv _ km) l.1 lL lc
 have split : ∀ c ∈ jje Y.ks l.2.1 (B.take l.1 l.2.2).1,(c.1 = l.2.1 /\ c.2 = (B.take l.1 l.2.2).1) \/ (c ∈ Y.ks /\ c.1 ≠ l.2.1):=λc hc=>by
  obtain ⟨c',hc',rfl⟩:=mem_map.mp hc
  split
  .exact .inl ⟨rfl,rfl⟩
  .rename_i z
   exact .inr ⟨hc',z⟩
 have lk:=wg l.2.1 (B.take l.1 l.2.2).2 { Y with way:=Y.way.eraseIdx i,ks:=jje Y.ks l.2.1 (B.take l.1 l.2.2).1 }
 obtain ⟨m1,m2⟩:=jra l.2.1 (B.take l.1 l.2.2).2 { Y with way:=Y.way.eraseIdx i,ks:=jje Y.ks l.2.1 (B.take l.1 l.2.2).1 }
 have wy:=jof l.2.1 (B.take l.1 l.2.2).2 { Y with way:=Y.way.eraseIdx i,ks:=jje Y.ks l.2.1 (B.take l.1 l.2.2).1 }
 have cr:=jnt l.2.1 (B.take l.1 l.2.2).2 { Y with way:=Y.way.eraseIdx i,ks:=jje Y.ks l.2.1 (B.take l.1 l.2.2).1 }
 have eks:(Y.jv5 i l B).ks = jje Y.ks l.2.1 (B.take l.1 l.2.2).1:=lk.k
 have eas:(Y.jv5 i l B).asked = Y.asked:=lk.a
 refine ⟨z,?_,?_,?_,?_,?_,by rw [eas]; exact g.rn,by rw [eas]; exact λrow hr o ho=>cr o (g.rc row hr o ho),by rw [eas,show (Y.jv5 i l B).xx = Y.xx from lk.c]; exact g.ra,by rw [eks,jdy,show (Y.jv5 i l B).en = Y.en from lk.e]; exact g.ka,by rw [eks,jdy]; exact g.k8⟩
 .rw [eks]
  intro c hc
  rcases split c hc with ⟨_,e2⟩ | ⟨h1,_⟩
  .rw [e2]; exact v.v
  .exact g.kv c h1
 .rw [eks,eas]
  intro row hr u hu c hc
  rcases split c hc with ⟨e1,e2⟩ | ⟨h1,h2⟩
  .rw [e1,e2]
   rcases g.hd row hr u hu _ km with q | q
   .by_cases y:(true,l.2.1,u) = l
    .have e:l.1 = true:=by rw [<- y]
     have eu:l.2.2 = u:=by rw [<- y]
     subst eu
     exact .inr (vh e)
    .exact .inl (wy _ (jsd q el y))
   .exact .inr (v.hm u q)
  .rcases g.hd row hr u hu c h1 with q | q
   .exact .inl (wy _ (jsd q el λy=>h2 (by rw [<- y])))
   .exact .inr q
 .rw [eks]
  intro c hc x hx
  rcases split c hc with ⟨_,e2⟩ | ⟨h1,_⟩
  .rw [e2] at hx
   rcases v.cn x hx with h | h
   .exact g.cl _ km x h
   .exact r.vl _ h
  .exact g.cl c h1 x hx
 .rw [eks]
  intro c hc x hx
  rcases split c hc with ⟨e1,e2⟩ | ⟨h1,_⟩
  .rw [e2] at hx
   rw [e1]
   rcases v.cn x hx with h | h
   .exact m1 _ _ (g.cb _ km x h)
   .exact m2 _ h
  .exact m1 _ _ (g.cb c h1 x hx)
 .rw [eks,eas]
  intro p row p0 hr
  rcases g.fu p row p0 hr with h | ⟨c,hc,le⟩
  .exact .inl h
  .refine .inr ?_
   by_cases y:c.1 = l.2.1
   .have e:c.2 = B:=jua g.ok.nd (by rw [<- y]; exact hc) km
    refine ⟨(l.2.1,(B.take l.1 l.2.2).1),mem_map.mpr ⟨c,hc,if_pos y⟩,?_⟩
    rw [e] at le
    have:=juu (p:=p) kz.hi r.z.hi r.dm
    show _ <= gI ns p + inP p (B.take l.1 l.2.2).1.done
    have le':(row.map (·.m)).sum <= gI ns p + inP p B.done:=le
    have this':inP p B.done <= inP p (B.take l.1 l.2.2).1.done:=this
    omega
   .exact ⟨c,mem_map.mpr ⟨c,hc,if_neg y⟩,le⟩
end
section
variable {Y : Wd} {T F:Nat} {L:List O} {ls ns:List Int}
theorem Gy.jxm (g:Gy Y T F L ls ns) {i:Nat} {row:List O} (er : Y.asked[i]? = some row) (nc:(i:Int) ∉ Y.xx) {o:O} (ol:o ∈ L) (op:o.p = (i:Int)) : ∃ j:Nat,o.n = (j:Int) /\ row[j]? = some o:=by
 rcases g.mw o ol with h | ⟨row',e,h⟩
 .exact absurd (by rw [<- op]; exact h) nc
 .rw [op,Int.toNat_natCast,er] at e
  cases e
  obtain ⟨j,hj,e⟩:=mem_iff_getElem.mp h
  have ej:row[j]? = some o:=by rw [getElem?_eq_getElem hj,e]
  exact ⟨j,(g.rn i row er j o ej).2,ej⟩
theorem Gy.nums (g:Gy Y T F L ls ns) {i:Nat} {row:List O} (er : Y.asked[i]? = some row) : row.Nodup:=by
 refine jmi (f:=(·.n)) ?_
 have:row.map (·.n) = upTo (row.length:Int):=by
  refine List.ext_getElem? λj=>?_
  unfold upTo
  rw [getElem?_map,getElem?_map,Int.toNat_natCast]
  by_cases h:j < row.length
  .rw [List.getElem?_range h,getElem?_eq_getElem h]
   exact congrArg some (g.rn i row er j _ (getElem?_eq_getElem h)).2
  .rw [List.getElem?_eq_none (by omega),List.getElem?_eq_none (by rw [length_range]; omega)]
   rfl
 rw [this]
 exact jv9 _
theorem jtt {row:List O} {j k:Nat} {o u:O} (h : ∀ (j:Nat) (o:O),row[j]? = some o -> o.n = (j:Int)) (e1:row[j]? = some o) (e2:row[k]? = some u) (e:o.n = u.n) : o = u:=by
 have a:=h j o e1
 have b:=h k u e2
 have:j = k:=by omega
 subst this
 rw [e1] at e2
 exact Option.some.inj e2
theorem j5u {n:Nat} {o:O} (h:zc n o = true) : 0 <= o.m:=by
 have:=(qz.mp h).2.2.2.2.2.2.2.1
 omega
theorem fsum (p:O -> Bool) : ∀ xs:List O,(xs.map (·.m)).sum = ((xs.filter p).map (·.m)).sum + ((xs.filter λx=>!p x).map (·.m)).sum
 | []=>rfl
 | x :: xs=>by
  have:=fsum p xs
  cases h:p x <;> simp [h] <;> omega
theorem Gy.left (g:Gy Y T F L ls ns) {i:Nat} {row:List O} (er : Y.asked[i]? = some row) (nc:(i:Int) ∉ Y.xx) (iw:i < Y.n) {c:Int × Kp} (hc:c ∈ Y.ks) : c.2.jk3 (i:Int) row = gI ns (i:Int) + inP (i:Int) c.2.done - (row.map (·.m)).sum:=by
 obtain ⟨kx,kz,_⟩:=g.ks c hc
 have e1:=jk4 (p:=(i:Int)) (by omega) g.nl kz.hi.ord
 rw [<- kx.he] at e1
 have rnum:=λj o e=>(g.rn i row er j o e).2
 have ord : ∀ o ∈ row,zc Y.n o = true:=g.ok.ao row (mem_of_getElem? er)
 have nlen:=kx.len (p:=(i:Int)) (by omega) (by omega)
 have s1 : ∀ o ∈ ofP (i:Int) c.2.done,o ∈ row.filter λo=>c.2.past o:=λo ho=>by
  obtain ⟨h1,h2⟩:=mem_filter.mp ho
  obtain ⟨j,_,ej⟩:=g.jxm er nc (kx.dl o h1).1 (of_decide_eq_true h2)
  exact mem_filter.mpr ⟨mem_of_getElem? ej,kx.past g.lo h1⟩
 have s2 : ∀ o ∈ row.filter (λo=>c.2.past o),o ∈ ofP (i:Int) c.2.done:=λo ho=>by
  obtain ⟨h1,h2⟩:=mem_filter.mp ho
  obtain ⟨j,hj,e⟩:=mem_iff_getElem.mp h1
  have ej:row[j]? = some o:=by rw [getElem?_eq_getElem hj,e]
  obtain ⟨op,on⟩:=g.rn i row er j o ej
  have lt:=of_decide_eq_true h2
  rw [op,<- nlen] at lt
  have m:o.n ∈ upTo ((ofP (i:Int) c.2.done).length:Int):=mem_map.mpr ⟨o.n.toNat,mem_range.mpr (by omega),by omega⟩
  rw [<- kz.hi.nums (i:Int)] at m
  obtain ⟨o',ho',en⟩:=mem_map.mp m
  obtain ⟨m1,m2⟩:=mem_filter.mp ho'
  obtain ⟨k,_,ek⟩:=g.jxm er nc (kx.dl o' m1).1 (of_decide_eq_true m2)
  rw [jtt rnum ej ek en.symm]
  exact ho'
 have pos : ∀ o ∈ row,0 <= o.m:=λo ho=>j5u (ord o ho)
 have a1:jyr (i:Int) c.2.done <= ((row.filter λo=>c.2.past o).map (·.m)).sum:=jfv (kz.hi.nd.filter _) s1 λo ho=>pos o (mem_filter.mp ho).1
 have a2:((row.filter λo=>c.2.past o).map (·.m)).sum <= jyr (i:Int) c.2.done:=jfv ((g.nums er).filter _) s2 λo ho=>j5u (kz.hi.ord o (mem_filter.mp ho).1)
 have a3:=fsum (λo=>c.2.past o) row
 unfold Kp.jk3
 omega
theorem Gy.ask (g:Gy Y T F L ls ns) (hT:T <= 90) {p g' m M:Int} {row:List O} (hp : 0 <= p /\ p < (Y.n:Int)) (hg : 0 <= g' /\ g' < (Y.n:Int)) (ng:g' ≠ p) (hm : 1 <= m /\ m <= 1000) (er : Y.asked[p.toNat]? = some row) (nc:p ∉ Y.xx) (ca : ∀ o,row.getLast? = some o -> Y.carried o = true) (eM:(Y.ks.map λc=>c.2.jk3 p row).max? = some M) (le:m <= M) : Gy (Y.asks ⟨p,row.length,g',m⟩ row) (T + 1) (F + 16) (⟨p,row.length,g',m⟩ :: L) ls ns:=by
 have z:=g.toGz.ask hT hp hg ng hm er
 have lp:=(List.getElem?_eq_some_iff.mp er).1
 have pn:((p.toNat:Nat) : Int) = p:=Int.toNat_of_nonneg hp.1
 generalize eo:(⟨p,row.length,g',m⟩ : O) = o at z ⊢
 have op:o.p = p:=by rw [<- eo]
 have on:o.n = (row.length:Int):=by rw [<- eo]
 have om:o.m = m:=by rw [<- eo]
 have ea:(Y.asks o row).asked = Y.asked.set p.toNat (row ++ [o]):=by rw [<- op]; rfl
 refine ⟨z.fin ?_,g.kv,?_,λc hc x hx=>mem_cons_of_mem _ (g.cl c hc x hx),g.cb,?_,?_,?_,?_,g.ka,g.k8⟩
 .show (Y.way ++ Y.ks.map λc=>(true,c.1,o)).length + Y.ks.length * unc Y (o :: L) <= F + 16
  rw [length_append,length_map]
  have:=g.wl
  have m':=mul_le_mul_left Y.ks.length (jnm Y o L)
  have:=g.k8
  rw [mul_add] at m'
  omega
 .rw [ea]
  intro r hr u hu c hc
  show (true,c.1,u) ∈ Y.way ++ Y.ks.map (λc=>(true,c.1,o)) \/ _
  rcases mem_or_eq_of_mem_set hr with hr | rfl
  .exact (g.hd r hr u hu c hc).imp (λq=>mem_append_left _ q) id
  .rcases mem_append.mp hu with hu | hu
   .exact (g.hd row (mem_of_getElem? er) u hu c hc).imp (λq=>mem_append_left _ q) id
   .rw [mem_singleton.mp hu]
    exact .inl (mem_append_right _ (mem_map_of_mem (f:=λc:Int × Kp=>(true,c.1,o)) hc))
 .rw [ea]
  intro q r q0 hr
  by_cases y:p.toNat = q.toNat
  .have pq:q = p:=by omega
   subst pq
   rw [getElem?_set_self lp] at hr
   cases hr
   refine .inr ?_
   obtain ⟨hM,_⟩:=List.max?_eq_some_iff.mp eM
   obtain ⟨c,hc,ec⟩:=mem_map.mp hM
   refine ⟨c,hc,?_⟩
   have e:=g.left (i:=q.toNat) er (by rw [pn]; exact nc) (by omega) hc
   rw [pn] at e
   rw [map_append,List.sum_append]
   show (row.map (·.m)).sum + (o.m + 0) <= _
   omega
  .rw [getElem?_set_ne y] at hr
   exact g.fu q r q0 hr
 .rw [ea]
  intro i r hr j u hu
  by_cases y:p.toNat = i
  .subst y
   rw [getElem?_set_self lp] at hr
   cases hr
   by_cases w:j < row.length
   .rw [List.getElem?_append_left w] at hu
    exact g.rn _ row er j u hu
   .rw [List.getElem?_append_right (by omega)] at hu
    have j0:j = row.length:=by
     have:=(List.getElem?_eq_some_iff.mp hu).1
     simp at this
     omega
    subst j0
    rw [Nat.sub_self] at hu
    cases hu
    exact ⟨by rw [op,pn],on⟩
  .rw [getElem?_set_ne y] at hr
   exact g.rn i r hr j u hu
 .rw [ea]
  intro r hr u hu
  show Y.carried u = true
  rcases mem_or_eq_of_mem_set hr with hr | rfl
  .exact g.rc r hr u hu
  .rw [List.dropLast_concat] at hu
   cases hl:row.getLast? with
   | none=>rw [List.getLast?_eq_none_iff.mp hl] at hu; cases hu
   | some w=>
    have e:row.dropLast ++ [w] = row:=by
     have ne:row ≠ []:=λy=>by rw [y] at hl; cases hl
     have:=List.dropLast_concat_getLast ne
     rw [List.getLast?_eq_getLast ne] at hl
     rw [<- Option.some.inj hl]
     exact this
    rw [<- e] at hu
    rcases mem_append.mp hu with hu | hu
    .exact g.rc row (mem_of_getElem? er) u hu
    .rw [mem_singleton.mp hu]
     exact ca w hl
 .rw [ea]
  intro i r hr hc
  by_cases y:p.toNat = i
  .subst y
   rw [pn] at hc
   exact absurd hc nc
  .rw [getElem?_set_ne y] at hr
   exact g.ra i r hr hc
theorem Gy.j4s (g:Gy Y T F L ls ns) (st : Y.way = []) {i:Nat} {row:List O} (er : Y.asked[i]? = some row) (nc:(i:Int) ∉ Y.xx) (iw:i < Y.n) {j:Nat} {o:O} (ej:row[j]? = some o) {c:Int × Kp} (hc:c ∈ Y.ks) (all : ∀ k u,k < j -> row[k]? = some u -> u ∈ c.2.done) (no:o ∉ c.2.done) : o.n = gI c.2.gk o.p /\ o.m <= gI c.2.held o.p:=by
 obtain ⟨kx,kz,_⟩:=g.ks c hc
 obtain ⟨op,on⟩:=g.rn i row er j o ej
 have rnum:=λj o e=>(g.rn i row er j o e).2
 have ord : ∀ o ∈ row,zc Y.n o = true:=g.ok.ao row (mem_of_getElem? er)
 have nlen:=kx.len (p:=(i:Int)) (by omega) (by omega)
 have lj:=(List.getElem?_eq_some_iff.mp ej).1
 have tk : ∀ u ∈ row.take j,u ∈ ofP (i:Int) c.2.done:=λu hu=>by
  obtain ⟨k,hk,e⟩:=mem_iff_getElem.mp hu
  rw [length_take] at hk
  have ek:row[k]? = some u:=by rw [getElem?_eq_getElem (by omega),<- e,List.getElem_take]
  exact mem_filter.mpr ⟨all k u (by omega) ek,decide_eq_true (g.rn i row er k u ek).1⟩
 have n1:=qy ((g.nums er).sublist (List.take_sublist j row)) tk
 rw [length_take] at n1
 have bk : ∀ u ∈ ofP (i:Int) c.2.done,u ∈ row.take j:=λu hu=>by
  obtain ⟨h1,h2⟩:=mem_filter.mp hu
  obtain ⟨k,nk,ek⟩:=g.jxm er nc (kx.dl u h1).1 (of_decide_eq_true h2)
  by_cases y:k < j
  .refine mem_iff_getElem.mpr ⟨k,by rw [length_take]; have:=(List.getElem?_eq_some_iff.mp ek).1; omega,?_⟩
   rw [List.getElem_take]
   exact (List.getElem?_eq_some_iff.mp ek).2
  .exfalso
   have m:o.n ∈ upTo ((ofP (i:Int) c.2.done).length:Int):=by
    have mu:u.n ∈ (ofP (i:Int) c.2.done).map (·.n):=mem_map_of_mem hu
    rw [kz.hi.nums (i:Int)] at mu
    obtain ⟨q,hq,eq⟩:=mem_map.mp mu
    have:=mem_range.mp hq
    exact mem_map.mpr ⟨o.n.toNat,mem_range.mpr (by omega),by omega⟩
   rw [<- kz.hi.nums (i:Int)] at m
   obtain ⟨o',ho',en⟩:=mem_map.mp m
   obtain ⟨m1,m2⟩:=mem_filter.mp ho'
   obtain ⟨k',_,ek'⟩:=g.jxm er nc (kx.dl o' m1).1 (of_decide_eq_true m2)
   rw [jtt rnum ej ek' en.symm] at no
   exact no m1
 have n2':(ofP (i:Int) c.2.done).length <= (row.take j).length:=qy (show (ofP (i:Int) c.2.done).Nodup from kz.hi.nd.filter _) bk
 rw [length_take] at n2'
 refine ⟨by rw [op,<- nlen,on]; omega,?_⟩
 have pos : ∀ u ∈ row,0 <= u.m:=λu hu=>j5u (ord u hu)
 have a1:jyr (i:Int) c.2.done <= ((row.take j).map (·.m)).sum:=jfv (kz.hi.nd.filter _) bk λu hu=>pos u (List.mem_of_mem_take hu)
 have e1:=jk4 (p:=(i:Int)) (by omega) g.nl kz.hi.ord
 rw [<- kx.he] at e1
 have e2:(row.map (·.m)).sum = ((row.take j).map (·.m)).sum + ((row.drop j).map (·.m)).sum:=by
  rw [<- List.sum_append,<- map_append,List.take_append_drop]
 have e3:o.m <= ((row.drop j).map (·.m)).sum:=by
  have:=jfv (f:=λu:O=>u.m) (xs:=[o]) (ys:=row.drop j) (by simp) (λu hu=>by
   rw [mem_singleton.mp hu]
   refine mem_of_getElem? (i:=0) ?_
   rw [List.getElem?_drop]
   exact ej) (λu hu=>pos u (List.mem_of_mem_drop hu))
  simpa using this
 rcases g.fu (i:Int) row (by omega) (by rw [Int.toNat_natCast]; exact er) with h | ⟨d,hd,le⟩
 .rw [h] at ej; cases ej
 .have:=juu (p:=(i:Int)) (g.ks d hd).2.1.hi kz.hi (g.sub st hd hc)
  rw [op]
  omega
theorem Gy.got (g:Gy Y T F L ls ns) (st : Y.way = []) {i:Nat} {row:List O} (er : Y.asked[i]? = some row) : ∀ (j:Nat) (o:O),row[j]? = some o -> ∀ c ∈ Y.ks,o ∈ c.2.done:=by
 intro j
 induction j using Nat.strongRecOn with
 | _ j ih=>
  intro o ej c hc
  have nc:(i:Int) ∉ Y.xx:=λy=>by
   rw [g.ra i row er y] at ej
   cases ej
  have iw:i < Y.n:=by
   have:=(List.getElem?_eq_some_iff.mp er).1
   rw [g.ok.al] at this
   exact this
  refine Classical.byContradiction λno=>?_
  obtain ⟨op,on⟩:=g.rn i row er j o ej
  have due : ∀ d ∈ Y.ks,o.n = gI d.2.gk o.p /\ o.m <= gI d.2.held o.p:=λd hd=>g.j4s st er nc iw ej hd (λk u hk ek=>ih k hk u ek d hd) λy=>no (g.sub st hd hc o y)
  have hdue : ∀ d ∈ Y.ks,d.2.due o = true:=λd hd=>by
   unfold Kp.due
   rw [decide_eq_true (due d hd).1,decide_eq_true (due d hd).2]
   rfl
  have car : Y.carried o = true:=by
   have on_ : ∀ h ∈ Y.ks.map (·.1),h ∈ jr Y.bd (yw o):=λh hh=>by
    obtain ⟨d,hd,rfl⟩:=mem_map.mp hh
    rcases g.hd row (mem_of_getElem? er) o (mem_of_getElem? ej) d hd with q | q
    .rw [st] at q; cases q
    rcases (g.kv d hd).hv o q with h | h | h
    .have:=(g.kv d hd).cv o h
     rw [hdue d hd] at this
     cases this
    .obtain ⟨x,hx,e⟩:=je0.mp h
     have cp:=(g.ks d hd).2.1.cp x hx
     rw [e] at cp
     obtain ⟨e1,e2⟩:=Prod.mk.inj cp
     obtain ⟨k,_,ek⟩:=g.jxm er nc (g.cl d hd x hx) (by rw [<- e1,op])
     have:o = x.2:=jtt (λj o e=>(g.rn i row er j o e).2) ej ek e2
     rw [this]
     exact g.cb d hd x hx
    .have:=of_decide_eq_true h
     have:=(due d hd).1
     omega
   have:=qy g.ok.nd on_
   rw [length_map] at this
   have ka:=g.ka
   exact decide_eq_true (by omega)
  rcases g.all st hc car with h | h
  .exact no h
  .have:=(g.ks c hc).2.2 o h
   rw [hdue c hc] at this
   cases this
end
theorem jve {Y : Wd} {o:O} {row:List O} (er : Y.asked[o.p.toNat]? = some row) : jur Y (Y.asks o row):=λu ⟨r,hr,hu⟩=>by
 have lp:=(List.getElem?_eq_some_iff.mp er).1
 show ∃ r ∈ Y.asked.set o.p.toNat (row ++ [o]),u ∈ r
 obtain ⟨j,hj,e⟩:=mem_iff_getElem.mp hr
 by_cases y:o.p.toNat = j
 .subst y
  refine ⟨row ++ [o],mem_of_getElem? (getElem?_set_self lp),mem_append_left _ ?_⟩
  rw [getElem?_eq_getElem lp,e] at er
  rw [<- Option.some.inj er]
  exact hu
 .exact ⟨r,mem_of_getElem? (i:=j) (by rw [getElem?_set_ne y,getElem?_eq_getElem hj,e]),hu⟩
theorem j6r {h f:Int} {ns cs ls:List Int} (h1 : 1 <= h /\ h <= 8) (hf : 0 <= f) (lt : 3 * f < h) (l8:ns.length <= 8) (n0 : ∀ x ∈ ns,0 <= x) (ll:(ls.length:Int) <= f) (lr : ∀ x ∈ ls,0 <= x /\ x < h) (lp:ls.Pairwise (· < ·)) : Gy (w0 h f ns cs ls) 0 0 [] ls ns:=by
 have g:=j62 (cs:=cs) ⟨h1.1,by omega⟩ hf lt l8 n0 ll lr lp
 have kall : ∀ c ∈ (w0 h f ns cs ls).ks,c.2 = kp0 ns:=λc hc=>by
  obtain ⟨i,hi,rfl⟩:=mem_map.mp (show c ∈ (jbz ls h.toNat).map λi=>(i,kp0 ns) from hc)
  rfl
 have lk:(w0 h f ns cs ls).ks.length = (jbz ls h.toNat).length:=length_map ..
 have rows : ∀ {i:Nat} {row:List O},(w0 h f ns cs ls).asked[i]? = some row -> row = []:=λe=>eq_of_mem_replicate (mem_of_getElem? e)
 have c2:=jnn ls h.toNat
 have hl:((List.range h.toNat).map λ(i:Nat)=>(i:Int)).length <= (jbz ls h.toNat).length + ls.length:=by
  rw [<- length_append]
  refine qy (List.Pairwise.map _ (λa b hab z=>hab (Int.ofNat.inj z)) nodup_range) λx hx=>?_
  by_cases z:x ∈ ls
  .exact mem_append_right _ z
  .exact mem_append_left _ (mem_filter.mpr ⟨hx,by simp [z]⟩)
 rw [length_map,length_range] at hl
 refine ⟨g,λc hc=>?_,λrow hr o ho=>?_,λc hc x hx=>?_,λc hc x hx=>?_,λp row _ hr=>.inl (rows hr),λi row hr j o ho=>?_,λrow hr o ho=>?_,λi row hr _=>rows hr,?_,by rw [lk]; omega⟩
 .rw [kall c hc]
  exact ⟨λ_ z=>(by cases z),λ_ z=>(by cases z)⟩
 .rw [eq_of_mem_replicate hr] at ho; cases ho
 .rw [kall c hc] at hx; cases hx
 .rw [kall c hc] at hx; cases hx
 .rw [rows hr] at ho; cases ho
 .rw [eq_of_mem_replicate hr] at ho; cases ho
 .show h - f <= ((w0 h f ns cs ls).ks.length:Int)
  rw [lk]
  omega
def jyj (Z : Rho) (To R:Addr) : Prop:=Z To = some (9,.own 0) /\ Z R = some (9,.own 1)
def jn7:Role -> Prop:=λr=>r = (9,.own 0) \/ r = (9,.own 1)
theorem jt1 {Z : Rho} {H H':Hp} {To R:Addr} (tr:jyj Z To R) (k:jpr To R H H') : Fr (jn7) Z H Z H':=λa u e n=>⟨k a u e (λz=>n (9,.own 0) (z ▸ tr.1) (.inl rfl)) (λz=>n (9,.own 1) (z ▸ tr.2) (.inr rfl)),rfl⟩
theorem jxq {Z : Rho} {H H':Hp} {To R:Addr} (kr:OkR Z H) (hT:jpl To R H') (k:jpr To R H H') : OkR Z H':=λa r e=>by
 obtain ⟨row,c,t1,t2,_⟩:=hT
 by_cases z:a = To
 .subst z
  exact ⟨_,t1,True.intro⟩
 .by_cases y:a = R
  .subst y
   exact ⟨_,t2,True.intro⟩
  .obtain ⟨u,hu,nu⟩:=kr a r e
   exact ⟨u,k a u hu z y,nu⟩
def jwi (ts:List Int) : Dt:=.tup (ts.map Dt.int)
def j1f (l:Bool × Int × O) : Dt:=.tup [.str (if l.1 = true then "order" else "paper"),.int l.2.1,jwi (yw l.2.2)]
theorem jh9 {α : Type} {K:W.Frag} {H:Hp} {F : α -> Dt} {R:V -> α -> Prop} (h : ∀ x a,R x a -> qg K H (F a) x) : ∀ {xs:List V} {as:List α},Paired R xs as -> xk K H (as.map F) xs
 | _,_,.nil=>by rw [map_nil,xk]
 | _,_,.cons a t=>by
  rw [map_cons,xk]
  exact ⟨_,_,rfl,h _ _ a,jh9 h t⟩
theorem jw7 {K:W.Frag} {H:Hp} : ∀ ns:List Int,xk K H (ns.map Dt.int) (ns.map V.int)
 | []=>by rw [map_nil,map_nil,xk]
 | n :: ns=>by
  rw [map_cons,map_cons,xk]
  exact ⟨_,_,rfl,by rw [qg],jw7 ns⟩
theorem jp7 {K:W.Frag} {H:Hp} {a:Addr} {ts:List Int} (h:SqT K H a (ts.map V.int)) : qg K H (jwi ts) (.ref a):=by
 unfold jwi
 rw [qg]
 exact ⟨a,_,rfl,h,jw7 ts⟩
theorem jgk.j7a {K:W.Frag} {H:Hp} {Z : Rho} {x:V} {l:Bool × Int × O} (h:jgk H Z x l) : qg K H (j1f l) x:=by
 obtain ⟨a,q,rfl,n,h1,_,e,_,h2⟩:=h
 cases e
 unfold j1f
 rw [qg]
 refine ⟨a,_,rfl,SqT.of h1,?_⟩
 rw [xk]
 refine ⟨_,_,rfl,by rw [qg]; rfl,?_⟩
 rw [xk]
 refine ⟨_,_,rfl,by rw [qg],?_⟩
 rw [xk]
 exact ⟨_,_,rfl,jp7 (ts:=yw l.2.2) (SqT.of h2),by rw [xk]⟩
theorem jp3 : ∀ ls:List (List Int),jcl (ls.map jwi) <= 10
 | []=>by rw [map_nil]; simp [jcl]
 | l :: ls=>by
  have:=jp3 ls
  rw [map_cons,jcl]
  have q : ∀ ts:List Int,jcl (ts.map Dt.int) <= 3:=λts=>by
   induction ts with
   | nil=>simp [jcl]
   | cons t ts ih=>
    rw [map_cons,jcl]
    simp [jhi]
    omega
  have q2:jhi (jwi l) <= 10:=by
   unfold jwi
   rw [jhi]
   have:=q l
   omega
  omega
theorem jg8 {α : Type} (F : α -> Dt) (ls:List α) : eqD (.lst (ls.map F)) (.lst []) = decide (ls = []):=by
 cases ls with
 | nil=>simp [eqD,jo2]
 | cons l ls=>simp [eqD,jo2]
theorem joc : ∀ ls:List (Bool × Int × O),jcl (ls.map j1f) <= 10
 | []=>by rw [map_nil]; simp [jcl]
 | l :: ls=>by
  have:=joc ls
  rw [map_cons,jcl]
  have q:jhi (j1f l) <= 10:=by
   unfold j1f jwi yw
   simp [jhi,jcl]
  omega
theorem OkR.jar {Z : Rho} {H:Hp} {a:Addr} {r:Role} {u:HO} (k:OkR Z H) (h:H a = some u) (n:jt8 u) : OkR (jar Z a r) H:=λb r' e=>by
 by_cases z:b = a
 .subst z
  exact ⟨u,h,n⟩
 .rw [xh z] at e
  exact k b r' e
def Un (H:Hp) (Z : Rho) (a:Addr) (xs:List V) : Prop:=H a = some (.lst xs) /\ Z a = none
theorem Un.fr {P:Role -> Prop} {Z Z':Rho} {H H':Hp} {a:Addr} {xs:List V} (f:Fr P Z H Z' H') (h:Un H Z a xs) : Un H' Z' a xs:=jpp f h.1 h.2
theorem joy {P:Role -> Prop} {Z Z':Rho} {H H':Hp} {To R:Addr} (f:Fr P Z H Z' H') (n0 : ¬ P (9,.own 0)) (n1 : ¬ P (9,.own 1)) (h:jpl To R H) (tr:jyj Z To R) : jpl To R H' /\ jyj Z' To R:=by
 obtain ⟨row,c,t1,t2,t3⟩:=h
 obtain ⟨a1,a2⟩:=jbo f t1 tr.1 n0
 obtain ⟨a3,a4⟩:=jbo f t2 tr.2 n1
 exact ⟨⟨row,c,a1,a3,t3⟩,a2,a4⟩
theorem j5z {id:Nat} (h:id ≠ 9) (p:Part) : ¬ jn7 (id,p):=λz=>h (by rcases z with z | z <;> exact (Prod.mk.inj z).1)
theorem j24 {H:Hp} {x dx:Addr} {C:Addr} (nx:H x = none) (ndx:H dx = none) (ne:dx ≠ x) {Z : Rho} {r:Role} (kr:OkR Z H) : Fr (λ_=>False) Z H (jar Z x r) (upd (upd H dx (.own x)) x (.ins C dx [])) /\ OkR (jar Z x r) (upd (upd H dx (.own x)) x (.ins C dx [])):=by
 have nx1:upd H dx (.own x) x = none:=by rw [je ne.symm]; exact nx
 exact ⟨(Fr.same (jf ndx)).trans (Fr.jln nx1),(kr.same (jf ndx)).jln⟩
structure Pt where
 ns:List Int
 cs:List Int
 ls:List Int
 hs:List Int
structure Pt.Ok (p:Pt) : Prop where
 l2 : 2 <= p.ns.length
 l8:p.ns.length <= 8
 c : ∀ k ∈ p.cs,0 <= k /\ k < (p.ns.length:Int)
 cl:p.cs.length <= 1000
 ll:p.ls.length <= 5
 h0 : 0 < p.hs.length
 h1:p.hs.length <= 16
structure Wl (t:Ad) (H:Hp) (Z : Rho) (W:WA) (Y : Wd) (T F:Nat) (p:Pt) : Prop where
 o:qm t H Z 0 W Y
 kr:OkR Z H
 ly:H W.ly = some (.lst (p.ls.map V.int)) /\ Z W.ly = none
 g : ∃ L,Gy Y T F L p.ls p.ns
 n : Y.n = p.ns.length
 c : Y.xx = p.cs
 h : Y.ks.map (·.1) = p.hs
 tot:W.tot = p.ns.sum
section
variable {t:Ad} {H H':Hp} {Z Z':Rho} {W:WA} {Y Y':Wd} {T F:Nat} {p:Pt} {P:Role -> Prop} {To R:Addr}
theorem Wl.fr (f:Fr P Z H Z' H') (hP : ∀ q,¬ P (0,q)) (kr:OkR Z' H') (w:Wl t H Z W Y T F p) : Wl t H' Z' W Y T F p:=⟨w.o.fr hP f,kr,jpp f w.ly.1 w.ly.2,w.g,w.n,w.c,w.h,w.tot⟩
theorem Wl.wait {F2:Nat} (hF:F <= F2) (w:Wl t H Z W Y T F p) : Wl t H Z W Y (T + 1) F2 p:=⟨w.o,w.kr,w.ly,let ⟨L,g⟩:=w.g; ⟨L,g.mono (by omega) hF⟩,w.n,w.c,w.h,w.tot⟩
structure Sw (t:Ad) (H:Hp) (Z : Rho) (W:WA) (Y : Wd) (T F:Nat) (p:Pt) (To R:Addr) : Prop where
 w:Wl t H Z W Y T F p
 tn:jpl To R H
 tr:jyj Z To R
theorem Sw.same (s:gh H H') (x:Sw t H Z W Y T F p To R) : Sw t H' Z W Y T F p To R:=⟨x.w.fr (P:=λ_=>False) (Fr.same s) (λ_ z=>z) (x.w.kr.same s),x.tn.same s,x.tr⟩
theorem Sw.draw (x:Sw t H Z W Y T F p To R) (hT:jpl To R H') (k:jpr To R H H') : Sw t H' Z W Y T F p To R /\ Fr jn7 Z H Z H':=⟨⟨x.w.fr (jt1 x.tr k) (j5z (by decide)) (jxq x.w.kr hT k),hT,x.tr⟩,jt1 x.tr k⟩
theorem Sw.wait (x:Sw t H Z W Y T (30 * T) p To R) : Sw t H Z W Y (T + 1) (30 * (T + 1)) p To R:=⟨x.w.wait (by omega),x.tn,x.tr⟩
def jwh:Role -> Prop:=λr=>r.1 = 0 \/ jn7 r
theorem Sw.go (x:Sw t H Z W Y T F p To R) (f:Fr P Z H Z' H') (hP : ∀ r,P r -> r.1 = 0) {T2 F2:Nat} (w:Wl t H' Z' W Y' T2 F2 p) : Sw t H' Z' W Y' T2 F2 p To R /\ Fr jwh Z H Z' H':=by
 obtain ⟨a,b⟩:=joy f (λz=>by cases hP _ z) (λz=>by cases hP _ z) x.tn x.tr
 exact ⟨⟨w,a,b⟩,f.mono λr z=>.inl (hP r z)⟩
theorem jqx (f:Fr jn7 Z H Z' H') : Fr jwh Z H Z' H':=f.mono λ_ z=>.inr z
end
def Gos (t:Ad) (H:Hp) (Z : Rho) (W:WA) (Y : Wd) (T:Nat) (p:Pt) (To R:Addr) (Q:VK) : Prop:=∀ Z' H' Y' v,Sw t H' Z' W Y' (T + 1) (30 * (T + 1)) p To R -> Fr jwh Z H Z' H' -> jur Y Y' -> Q v H'
structure Ps (H:Hp) (Z : Rho) (pa x:Addr) (jbz few:Int) (fo ho be ro:Addr) (p:Pt) : Prop where
 tp:H pa = some (.tup [.ref x,.int jbz,.int few,.ref fo,.ref ho,.ref be,.ref ro]) /\ Z pa = none
 fo:Un H Z fo (p.ls.map V.int)
 ho:Un H Z ho (p.hs.map V.int)
 be:Un H Z be (p.ns.map V.int)
 ro:Un H Z ro (p.cs.map V.int)
theorem Ps.fr {P:Role -> Prop} {Z Z':Rho} {H H':Hp} {pa x fo ho be ro:Addr} {jbz few:Int} {p:Pt} (f:Fr P Z H Z' H') (h:Ps H Z pa x jbz few fo ho be ro p) : Ps H' Z' pa x jbz few fo ho be ro p:=⟨jpp f h.tp.1 h.tp.2,h.fo.fr f,h.ho.fr f,h.be.fr f,h.ro.fr f⟩
theorem Un.neT {t:Ad} {H:Hp} {Z : Rho} {W:WA} {Y : Wd} {T F:Nat} {p:Pt} {To R a:Addr} {xs:List V} (u:Un H Z a xs) (x:Sw t H Z W Y T F p To R) : a ≠ To /\ a ≠ R:=⟨neu u.2 x.tr.1,neu u.2 x.tr.2⟩
def j1n (K:W.Frag) : Sp:=λvs H Q _=>∃ (a:Addr) (ns:List Int),vs = [.ref a] /\ SqL K H a (ns.map V.int) /\ ∀ T R H',H T = none -> H R = none -> gh H H' -> jpl T R H' -> Q (.ref T) H'
def j28:Sp:=λvs H Q _=>∃ (T R:Addr) (m:Int),vs = [.ref T,.int m] /\ jpl T R H /\ 1 <= m /\ m < 1073741824 /\ ∀ d H',0 <= d -> d < m -> jpl T R H' -> jpr T R H H' -> Q (.int d) H'
def jya:Sp:=λvs H Q _=>∃ (T R S:Addr) (xs:List V),vs = [.ref T,.ref S] /\ jpl T R H /\ H S = some (.lst xs) /\ S ≠ T /\ S ≠ R /\ 0 < xs.length /\ xs.length <= 1000000 /\
 ∀ (i:Nat) (x:V) (H':Hp),xs[i]? = some x -> jpl T R H' -> jpr T R H H' -> Q x H'
theorem jsu (T:Txt K mg t) : xo P w K mg base CX0 1 t.jjy t.jkb ["_law_script"] (j1n K):=by
 refine T.jjq.okB (N:=["_law_script"]) λ_ A _ s H vs Q E hr h=>?_
 obtain ⟨a,ns,rfl,ha,k⟩:=h
 refine ⟨_,(@jd _ _ _ (j6 (@zd _ _ _ _ (@va _ _ _ _ _ (jq7 (jx (jkq hr.units) (pv 0) (@zd _ _ _ _ jg) (qf _)) (je2 uj rfl T.jlb boot_list (jc (pv 0) jg)) (@zd _ _ _ _ (jc jl jg))) jl rfl rfl)))),?_⟩
 refine ⟨_,rfl,zs0,λp hp=>?_⟩
 have s1:=jf (o:=.lst []) hp
 refine ⟨.lst (ns.map Dt.int),.lst (([] : List Int).map Dt.int),jex (s1.seq ha),jex (SqL.of ja),jkn _,_,rfl,?_⟩
 rw [jx6]
 refine jhq (λh1=>?_) (λh1=>?_)
 .have ne:=nd h1
  refine ⟨_,rfl,a,_,rfl,.inl (s1.seq ha),λR hR=>?_⟩
  refine ⟨zs2,λT' hT=>?_⟩
  have s2:=s1.trans (jf (o:=.lst (ns.map V.int)) hR)
  have nRT:R ≠ T':=jj ja hT
  refine k T' R _ (s2.free hT) (s1.free hR) (s2.trans (jf hT)) ⟨ns,0,ja,by rw [je nRT,ja],?_⟩
  cases ns with
  | nil=>exact absurd rfl ne
  | cons x r=>exact Nat.succ_pos _
 .refine ⟨zs1,λR hR=>?_⟩
  refine ⟨zs2,λT' hT=>?_⟩
  have s2:=s1.trans (jf (o:=.lst [.int 0]) hR)
  have nRT:R ≠ T':=jj ja hT
  exact k T' R _ (s2.free hT) (s1.free hR) (s2.trans (jf hT)) ⟨[0],0,ja,by rw [je nRT,ja]; rfl,Nat.one_pos⟩
theorem jz (T:Txt K mg t) : xo P w K mg base CX0 1 t.jjs t.jjg ["_law_town_here","_law_many"] j28:=by
 refine T.j5.okA ui λ_ A _ s H vs Q E hr h=>?_
 obtain ⟨To,R,m,rfl,hT,m1,m2,k⟩:=h
 have nTR:=hT.ne
 obtain ⟨row,c,h1,h2,h3⟩:=hT
 refine ⟨_,(@jb _ _ _ _ _ (j9 (i:=2) ui.nd rfl (Or.inl rfl) (jbn pf (pv 0) jl (λ_ _=>rfl)))
  (@jb _ _ _ _ _ (jmn (zw jb8 (jbn pf (pv 0) jl (λ_ _=>rfl)) jl) (j0p (pv 0) jl set_list))
  (@jb _ _ _ _ _ (j9 (i:=3) ui.nd rfl (Or.inl rfl) (zw ji4 (jbn pf (pv 0) jl (λ_ _=>rfl)) (jq ju rfl T.jch boot_len (jc (pv 2) jg))))
  (@jb _ _ _ _ _ (j9 (i:=4) ui.nd rfl (Or.inl rfl) (jbn pf (pv 2) (pv 3) (λ_ _=>rfl)))
  (@jb _ _ _ _ _ (zl (jx j5a (pv 4) jl (qf _)) (@jb _ _ _ _ _ (jmn (zw jtp (pv 4) (pv 1)) (j0p (pv 2) (pv 3) set_list))
  (@jd _ _ _ (j6 (zw ji4 (pv 4) (pv 1))))) qc)
  (@jb _ _ _ _ _ (j9 (i:=5) ui.nd rfl (Or.inl rfl) (zw ji4 (zw jb8 (pv 4) (zw juq jl (jbn pf (pv 0) jl (λ_ _=>rfl)))) jl))
  (@jb _ _ _ _ _ (j9 (i:=5) ui.nd rfl (Or.inl rfl) (zw ji4 (zw j3y (pv 5) jl) jl))
  (@jd _ _ _ (j6 (zw ji4 (zw jtp (zw ji4 (zw jb8 (zw juq (zw jtp (pv 5) jl) jl) (pv 5)) jl) jl) (pv 1))))))))))),?_⟩
 refine ⟨_,rfl,To,_,0,.ref R,rfl,rfl,SqL.of h1,rfl,?_⟩
 refine ⟨_,rfl,To,_,1,.int c,rfl,rfl,SqL.of h1,rfl,_,_,rfl,rfl,?_⟩
 refine ⟨_,rfl,To,_,1,1,rfl,rfl,h1,rfl,?_⟩
 have g1:(upd H To (.lst ([V.ref R,V.int c].set 1 (V.int (c + 1))))) To = some (.lst [.ref R,.int (c + 1)]):=ja
 have g2:(upd H To (.lst ([V.ref R,V.int c].set 1 (V.int (c + 1))))) R = some (.lst (row.map V.int)):=by rw [je nTR.symm]; exact h2
 have kp:jpr To R H (upd H To (.lst ([V.ref R,V.int c].set 1 (V.int (c + 1))))):=λb o e n1 _=>by rw [je n1]; exact e
 generalize upd H To (.lst ([V.ref R,V.int c].set 1 (V.int (c + 1)))) = H1 at g1 g2 kp
 have hl:(0:Int) < ((row.map V.int).length:Int):=by rw [length_map]; omega
 refine ⟨_,rfl,To,_,1,.int (c + 1),rfl,rfl,SqL.of g1,rfl,_,rfl,R,_,rfl,.inl (SqL.of g2),_,_,rfl,rfl,hl,?_⟩
 rw [length_map] at hl ⊢
 have b0 : 0 <= (c + 1) % (row.length:Int):=Int.emod_nonneg _ (by omega)
 have b1:(c + 1) % (row.length:Int) < (row.length:Int):=Int.emod_lt_of_pos _ hl
 have b2:((c + 1) % (row.length:Int)).toNat < row.length:=by omega
 refine ⟨_,rfl,_,rfl,R,_,((c + 1) % (row.length:Int)),_,rfl,rfl,SqL.of g2,jiu b0 (get_map b2),?_⟩
 refine ⟨_,rfl,_,_,rfl,rfl,_,rfl,?_⟩
 refine jhq (λh5=>?_) (λh5=>?_)
 .refine ⟨_,rfl,_,rfl,_,_,rfl,rfl,⟨by omega,m2⟩,?_⟩
  refine ⟨_,rfl,_,rfl,R,_,((c + 1) % (row.length:Int)),_,rfl,rfl,g2,jsy b0 (by rw [length_map]; exact b2),?_⟩
  rw [jtk]
  refine ⟨_,rfl,_,rfl,_,_,rfl,rfl,(by show (0:Int) < m; omega),?_⟩
  refine k _ _ (Int.emod_nonneg _ (by omega)) (Int.emod_lt_of_pos _ (by omega)) ⟨_,c + 1,by rw [je nTR]; exact g1,ja,by rw [length_set]; exact h3⟩ λb o e n1 n2=>?_
  rw [je n2]
  exact kp b o e n1 n2
 .have big : ∀ z:Int,(z % 4294967291).natAbs < 2 ^ 64:=λz=>by
   have u1:=Int.emod_nonneg z (show (4294967291:Int) ≠ 0 by decide)
   have u2:=Int.emod_lt_of_pos z (show (0:Int) < 4294967291 by decide)
   omega
  refine ⟨_,rfl,_,rfl,To,_,1,.int (c + 1),rfl,rfl,SqL.of g1,rfl,_,_,rfl,rfl,.inl ⟨by decide,by decide⟩,_,_,rfl,rfl,_,_,rfl,rfl,(by show (0:Int) < 4294967291; decide),?_⟩
  refine ⟨_,rfl,_,_,rfl,rfl,⟨by decide,by decide,big _⟩,_,_,rfl,rfl,(by show (0:Int) < 4294967279; decide),?_⟩
  refine ⟨_,rfl,_,_,rfl,rfl,⟨by decide,by decide⟩,_,_,rfl,rfl,.inr ⟨by decide,by decide⟩,_,rfl,_,_,rfl,rfl,_,_,rfl,rfl,(by show (0:Int) < 4294967231; decide),_,_,rfl,rfl,⟨by decide,by decide⟩,_,rfl,_,_,rfl,rfl,(by show (0:Int) < m; omega),?_⟩
  exact k _ _ (Int.emod_nonneg _ (by omega)) (Int.emod_lt_of_pos _ (by omega)) ⟨row,c + 1,g1,g2,h3⟩ kp
theorem zm (T:Txt K mg t) : xo P w K mg base CX0 2 t.jka t.jke ["_law_town_here","_law_some_here"] jya:=by
 refine T.zi.okB (N:=["_law_town_here","_law_some_here"]) λ_ A _ s H vs Q E hr h=>?_
 obtain ⟨To,R,S,xs,rfl,hT,hS,n1,n2,l0,l1,k⟩:=h
 refine ⟨_,(@jd _ _ _ (j6 (jbn pf (pv 1) (jm (jz T) hr.dn rfl T.j8 T.j5.kp T.j7 .nil jo (@va _ _ _ _ _ (pv 0) (jq ju rfl T.jch boot_len (jc (pv 1) jg)) rfl rfl)) (λ_ _=>rfl)))),?_⟩
 refine ⟨_,rfl,_,rfl,_,rfl,S,xs,rfl,.inl (SqL.of hS),To,R,_,rfl,hT,by omega,by omega,λd H' d0 d1 hT' kp=>?_⟩
 have hd:d.toNat < xs.length:=by omega
 exact ⟨S,xs,d,xs[d.toNat],rfl,rfl,SqL.of (kp _ _ hS n1 n2),jiu d0 (by simp [hd]),k d.toNat _ H' (by simp [hd]) hT' kp⟩
def j1r:Sp:=λvs H Q _=>∃ To R n m,vs = [.ref To,.int n,.int m] /\ jpl To R H /\ 0 <= n /\ n <= 16 /\ ∀ r (ks:List Int) H',H r = none -> jpl To R H' -> jpr To R H H' -> H' r = some (.lst (ks.map V.int)) -> ks.Pairwise (· < ·) -> (∀ k ∈ ks,0 <= k /\ k < n) -> (ks.length:Int) <= (if 0 <= m then m else 0) -> Q (.ref r) H'
theorem jm1 (T:Txt K mg t) : xo P w K mg base CX0 2 t.jjx t.jj7 ["_law_town_here","_law_size","_law_most"] j1r:=by
 refine T.jfn.okA jg7 λ_ A _ s H vs Q E hr h=>?_
 obtain ⟨To,R,n,m,rfl,hT,n0,n6,k⟩:=h
 refine ⟨_,(@jb _ _ _ _ _ (@j9 _ _ 3 _ _ _ _ jg7.nd rfl (Or.inl rfl) (@zd _ _ _ _ jg) (by rfl) (by first | exact .inl rfl | exact .inr rfl))
  (@jb _ _ _ _ _ (jk0 PassesOwn.never rfl (je3 rfl T.jju (jc (pv 1) jg)) (jv (i:=4) jg7.nd rfl (Or.inl rfl)) (@jd _ _ _ (zl (PW.pt (jkt (jx jyz (jq ju rfl T.jch boot_len (jc (pv 3) jg)) (pv 2) (qf _)) (jg5 (jx jnf (jm (jz T) hr.dn rfl T.j8 T.j5.kp T.j7 .nil jo (@va _ _ _ _ _ (pv 0) jl rfl rfl)) jl (qf _))))) (@jd _ _ _ (qa (jij PySem.F.plainAttrs_list PySem.F.slot_list_append PySem.F.type_list_append yr (pv 3) (jc (pv 4) jg)))) qc)))
  (@jd _ _ _ (j6 (pv 3))))),?_⟩
 refine ⟨zs0,λr hr=>?_⟩
 have fr:=hT.fresh hr
 have s1:=jf (o:=.lst []) hr
 refine ⟨_,rfl,n,rfl,by omega,by omega,jpe (lo:=0) (n:=n.toNat) (λi U H'=>∃ (v:Option V) (ks:List Int),U = [some (.ref To),some (.int n),some (.int m),some (.ref r),v] /\ jpl To R H' /\ jpr To R H H' /\ H' r = some (.lst (ks.map V.int)) /\ ks.length <= i /\ (ks.length:Int) <= (if 0 <= m then m else 0) /\ ks.Pairwise (· < ·) /\ ∀ z ∈ ks,0 <= z /\ z < (i:Int))
  ⟨none,[],rfl,hT.same s1,λb o e _ _=>s1 _ _ e,ja,le_refl _,(by show (0:Int) <= _; split <;> omega),.nil,λz hz=>by cases hz⟩ ?_ ?_⟩
 .rintro i U H' hi ⟨v,ks,rfl,hT',kp,hr',l,lm2,up,rg⟩
  have lm:(ks.map V.int).length = ks.length:=length_map ..
  refine ⟨_,rfl,r,_,rfl,.inl (SqL.of hr'),_,rfl,_,_,rfl,rfl,_,rfl,?_⟩
  have old : ∃ (v:Option V) (ks':List Int),[some (.ref To),some (.int n),some (.int m),some (.ref r),some (.int (0 + (i:Int)))] = [some (.ref To),some (.int n),some (.int m),some (.ref r),v] /\ True:=⟨_,[],rfl,trivial⟩
  refine jhq (λh1=>?_) (λh1=>?_)
  .refine ⟨_,rfl,To,R,3,rfl,hT',by decide,by decide,λd H2 d0 d1 hT2 kp2=>?_⟩
   have hr2:=kp2 _ _ hr' fr.1 fr.2
   have kpH:jpr To R H H2:=λb o e x1 x2=>kp2 _ _ (kp b o e x1 x2) x1 x2
   refine ⟨rfl,_,rfl,jhq (λh2=>?_) (λh2=>?_)⟩
   .refine ⟨_,rfl,.inl ⟨rfl,_,SqL.of hr2⟩,_,rfl,r,_,_,rfl,rfl,hr2,xa (by omega),?_⟩
    refine ⟨_,ks ++ [0 + (i:Int)],rfl,?_,λb o e x1 x2=>?_,by rw [ja,map_append]; rfl,?_,?_,?_,λz hz=>?_⟩
    .obtain ⟨row,cc,t1,t2,t3⟩:=hT2
     exact ⟨row,cc,by rw [je (Ne.symm fr.1)]; exact t1,by rw [je (Ne.symm fr.2)]; exact t2,t3⟩
    .rw [je (jj e hr)]
     exact kpH b o e x1 x2
    .rw [length_append]
     show ks.length + 1 <= i + 1
     omega
    .rw [length_append]
     have:(ks.length:Int) < m:=by
      have:=of_decide_eq_true h1
      rw [lm] at this
      exact this
     rw [if_pos (by omega)]
     show ((ks.length + 1:Nat) : Int) <= m
     omega
    .rw [List.pairwise_append]
     refine ⟨up,List.pairwise_singleton _ _,λx hx y hy=>?_⟩
     have:y = 0 + (i:Int):=by simpa using hy
     have:=rg x hx
     omega
    .rcases mem_append.mp hz with y | y
     .have:=rg z y
      omega
     .have:z = 0 + (i:Int):=by simpa using y
      omega
   .exact ⟨_,ks,rfl,hT2,kpH,hr2,by omega,lm2,up,λz hz=>by have:=rg z hz; omega⟩
  .exact gq ⟨_,ks,rfl,hT',kp,hr',by omega,lm2,up,λz hz=>by have:=rg z hz; omega⟩
 .rintro U H' ⟨v,ks,rfl,hT',kp,hr',l,lm2,up,rg⟩
  exact ⟨_,rfl,k r ks H' hr hT' kp hr' up (λz hz=>by have:=rg z hz; omega) lm2⟩
theorem j1g {C a0 a1 a2 a3 a4 a5 a6 a7 a8 a9 a10 a11 a12:Value} {b0 b1 b2 b3 b4 b5 b6 b7 b8 b9 b10 b11 b12:Bool} (h:kinds K C [a0,a1,a2,a3,a4,a5,a6,a7,a8,a9,a10,a11,a12] = [some b0,some b1,some b2,some b3,some b4,some b5,some b6,some b7,some b8,some b9,some b10,some b11,some b12]) :
  W.kitOne K C a0 = some b0 /\ W.kitOne K C a1 = some b1 /\ W.kitOne K C a2 = some b2 /\ W.kitOne K C a3 = some b3 /\ W.kitOne K C a4 = some b4 /\ W.kitOne K C a5 = some b5 /\ W.kitOne K C a6 = some b6 /\ W.kitOne K C a7 = some b7 /\
  W.kitOne K C a8 = some b8 /\ W.kitOne K C a9 = some b9 /\ W.kitOne K C a10 = some b10 /\ W.kitOne K C a11 = some b11 /\ W.kitOne K C a12 = some b12:=by
 unfold kinds at h
 simpa only [map_cons,map_nil,List.cons.injEq,and_true] using h
def words:List V:=[.str "number",.str "order",.str "houses",.str "house",.str "purse",.str "letter",.str "now",.str "much",.str "paper",.str "cut",.str "text"]
def jvq (K:W.Frag) (t:Ad) : Sp:=λvs H Q _=>∃ (ea C:Addr) (b0 b1 b2 b3 b4 b5 b6 b7 b8 b9 b10:Bool) (x:V),vs = [.ref ea] /\ H ea = some (jsx ea (.ref C)) /\ XIs K C /\
 kinds K (.ref C) (asked t) = [some b0,some b1,some b2,some b3,some b4,some b5,some b6,some b7,some b8,some b9,some b10,some true,some true] /\ [b0,b1,b2,b3,b4,b5,b6,b7,b8,b9,b10].count true = 1 /\
 words[[b0,b1,b2,b3,b4,b5,b6,b7,b8,b9,b10].idxOf true]? = some x /\ ∀ H',gh H H' -> Q x H'
set_option maxHeartbeats 0 in
theorem jpa (T:Txt K mg t) : xo P w K mg base CX0 1 t.jeg t.jef ["_law_caught"] (jvq K t):=by
 refine T.jet.okA yc λ_ A _ s H vs Q E hr h=>?_
 obtain ⟨ea,C,b0,b1,b2,b3,b4,b5,b6,b7,b8,b9,b10,x,rfl,he,hX,hk,hc,hw,k⟩:=h
 obtain ⟨k0,k1,k2,k3,k4,k5,k6,k7,k8,k9,k10,k11,k12⟩:=j1g hk
 refine ⟨_,(@jb _ _ _ _ _ (@j9 _ _ 1 _ _ _ _ yc.nd rfl (Or.inl rfl) (@zd _ _ _ _ (@jmm _ _ _ _ _ _ _ (jq zt rfl T.j3 boot_isinstance (@va _ _ _ _ _ (pv 0) (zb (v:=.ref t.jj4) rfl T.jor rfl) rfl rfl)) (jq zt rfl T.j3 boot_isinstance (@va _ _ _ _ _ (pv 0) (zb (v:=.ref t.jlo) rfl T.jqn rfl) rfl rfl)) (jq zt rfl T.j3 boot_isinstance (@va _ _ _ _ _ (pv 0) (zb (v:=.ref t.jjp) rfl T.joa rfl) rfl rfl)) rfl rfl rfl)) (by rfl) (by first | exact .inl rfl | exact .inr rfl))
  (@jb _ _ _ _ _ (j9 (i:=1) yc.nd rfl (Or.inl rfl) (zw jxn (pv 1) (@zd _ _ _ _ (@jmm _ _ _ _ _ _ _ (jq zt rfl T.j3 boot_isinstance (@va _ _ _ _ _ (pv 0) (zb (v:=.ref t.jpi) rfl T.js4 rfl) rfl rfl)) (jq zt rfl T.j3 boot_isinstance (@va _ _ _ _ _ (pv 0) (zb (v:=.ref t.xb) rfl T.jo7 rfl) rfl rfl)) (jq zt rfl T.j3 boot_isinstance (@va _ _ _ _ _ (pv 0) (zb (v:=.ref t.jl4) rfl T.jp9 rfl) rfl rfl)) rfl rfl rfl))))
  (@jb _ _ _ _ _ (j9 (i:=1) yc.nd rfl (Or.inl rfl) (zw jxn (pv 1) (@zd _ _ _ _ (@jmm _ _ _ _ _ _ _ (jq zt rfl T.j3 boot_isinstance (@va _ _ _ _ _ (pv 0) (zb (v:=.ref t.um) rfl T.jq3 rfl) rfl rfl)) (jq zt rfl T.j3 boot_isinstance (@va _ _ _ _ _ (pv 0) (zb (v:=.ref t.vq) rfl T.jnw rfl) rfl rfl)) (jq zt rfl T.j3 boot_isinstance (@va _ _ _ _ _ (pv 0) (zb (v:=.ref t.jma) rfl T.jqe rfl) rfl rfl)) rfl rfl rfl))))
  (@jb _ _ _ _ _ (j9 (i:=1) yc.nd rfl (Or.inl rfl) (zw jxn (pv 1) (@zd _ _ _ _ (@va _ _ _ _ _ (jq zt rfl T.j3 boot_isinstance (@va _ _ _ _ _ (pv 0) (zb (v:=.ref t.jqw) rfl T.ju4 rfl) rfl rfl)) (jq zt rfl T.j3 boot_isinstance (@va _ _ _ _ _ (pv 0) (zb (v:=.ref t.jpb) rfl T.jsw rfl) rfl rfl)) rfl rfl))))
  (@jb _ _ _ _ _ (zl (PW.pt (jif (jx jvh (jij PySem.F.plainAttrs_list PySem.F.slot_list_count PySem.F.type_list_count jx5 (pv 1) (jc jih jg)) jl (qf _)) (jif (ye (zo (jq zt rfl T.j3 boot_isinstance (@va _ _ _ _ _ (pv 0) (zb (v:=.ref t.vc) rfl T.jgq rfl) rfl rfl)))) (jd7 (ye (zo (jq zt rfl T.j3 boot_isinstance (@va _ _ _ _ _ (pv 0) (jg0 (v:=.ty "ValueError") rfl T.jmt jo9 rfl) rfl rfl)))))))) (@jd _ _ _ (j6 y7)) qc)
  (@jb _ _ _ _ _ (@j9 _ _ 2 _ _ _ _ yc.nd rfl (Or.inl rfl) (@zd _ _ _ _ (@j58 _ _ _ _ _ _ _ _ _ _ _ _ _ _ _ _ _ _ _ _ _ _ _ y7 y7 y7 y7 y7 y7 y7 y7 y7 y7 y7 rfl rfl rfl rfl rfl rfl rfl rfl rfl rfl rfl)) (by rfl) (by first | exact .inl rfl | exact .inr rfl))
  (@jd _ _ _ (j6 (jbn pf (pv 2) (jij PySem.F.plainAttrs_list PySem.F.slot_list_index PySem.F.type_list_index jwm (pv 1) (jc jih jg)) (λ_ _=>rfl)))))))))),?_⟩
 refine ⟨_,rfl,ea,C,_,_,b0,rfl,he,hX,rfl,k0,_,rfl,ea,C,_,_,b1,rfl,he,hX,rfl,k1,_,rfl,ea,C,_,_,b2,rfl,he,hX,rfl,k2,zs3,λp1 h1=>?_⟩
 have s1:=jf (o:=.lst [.bl b0,.bl b1,.bl b2]) h1
 have he1:=s1 _ _ he
 refine ⟨_,rfl,_,rfl,ea,C,_,_,b3,rfl,he1,hX,rfl,k3,_,rfl,ea,C,_,_,b4,rfl,he1,hX,rfl,k4,_,rfl,ea,C,_,_,b5,rfl,he1,hX,rfl,k5,zs3,λp2 h2=>?_⟩
 refine ⟨p1,p2,[.bl b0,.bl b1,.bl b2],[.bl b3,.bl b4,.bl b5],rfl,rfl,(by rw [je (jj ja h2)]; exact ja),ja,zs6,λp3 h3=>?_⟩
 have s3:=(s1.trans (jf (o:=.lst [.bl b3,.bl b4,.bl b5]) h2)).trans (jf (o:=.lst ([.bl b0,.bl b1,.bl b2] ++ [.bl b3,.bl b4,.bl b5])) h3)
 have g3:(upd (upd (upd H p1 (.lst [.bl b0,.bl b1,.bl b2])) p2 (.lst [.bl b3,.bl b4,.bl b5])) p3 (.lst ([.bl b0,.bl b1,.bl b2] ++ [.bl b3,.bl b4,.bl b5]))) p3 = some (.lst [.bl b0,.bl b1,.bl b2,.bl b3,.bl b4,.bl b5]):=ja
 generalize upd (upd (upd H p1 (.lst [.bl b0,.bl b1,.bl b2])) p2 (.lst [.bl b3,.bl b4,.bl b5])) p3 (.lst ([.bl b0,.bl b1,.bl b2] ++ [.bl b3,.bl b4,.bl b5])) = H3 at s3 g3
 have he3:=s3 _ _ he
 refine ⟨_,rfl,_,rfl,ea,C,_,_,b6,rfl,he3,hX,rfl,k6,_,rfl,ea,C,_,_,b7,rfl,he3,hX,rfl,k7,_,rfl,ea,C,_,_,b8,rfl,he3,hX,rfl,k8,zs3,λp4 h4=>?_⟩
 refine ⟨p3,p4,[.bl b0,.bl b1,.bl b2,.bl b3,.bl b4,.bl b5],[.bl b6,.bl b7,.bl b8],rfl,rfl,(by rw [je (jj g3 h4)]; exact g3),ja,zs9,λp5 h5=>?_⟩
 have s5:=(s3.trans (jf (o:=.lst [.bl b6,.bl b7,.bl b8]) h4)).trans (jf (o:=.lst ([.bl b0,.bl b1,.bl b2,.bl b3,.bl b4,.bl b5] ++ [.bl b6,.bl b7,.bl b8])) h5)
 have g5:(upd (upd H3 p4 (.lst [.bl b6,.bl b7,.bl b8])) p5 (.lst ([.bl b0,.bl b1,.bl b2,.bl b3,.bl b4,.bl b5] ++ [.bl b6,.bl b7,.bl b8]))) p5 = some (.lst [.bl b0,.bl b1,.bl b2,.bl b3,.bl b4,.bl b5,.bl b6,.bl b7,.bl b8]):=ja
 generalize upd (upd H3 p4 (.lst [.bl b6,.bl b7,.bl b8])) p5 (.lst ([.bl b0,.bl b1,.bl b2,.bl b3,.bl b4,.bl b5] ++ [.bl b6,.bl b7,.bl b8])) = H5 at s5 g5
 have he5:=s5 _ _ he
 refine ⟨_,rfl,_,rfl,ea,C,_,_,b9,rfl,he5,hX,rfl,k9,_,rfl,ea,C,_,_,b10,rfl,he5,hX,rfl,k10,zs2,λp6 h6=>?_⟩
 refine ⟨p5,p6,[.bl b0,.bl b1,.bl b2,.bl b3,.bl b4,.bl b5,.bl b6,.bl b7,.bl b8],[.bl b9,.bl b10],rfl,rfl,(by rw [je (jj g5 h6)]; exact g5),ja,j7d,λp7 h7=>?_⟩
 have s7:=(s5.trans (jf (o:=.lst [.bl b9,.bl b10]) h6)).trans (jf (o:=.lst ([.bl b0,.bl b1,.bl b2,.bl b3,.bl b4,.bl b5,.bl b6,.bl b7,.bl b8] ++ [.bl b9,.bl b10])) h7)
 have g7:(upd (upd H5 p6 (.lst [.bl b9,.bl b10])) p7 (.lst ([.bl b0,.bl b1,.bl b2,.bl b3,.bl b4,.bl b5,.bl b6,.bl b7,.bl b8] ++ [.bl b9,.bl b10]))) p7 = some (.lst ([b0,b1,b2,b3,b4,b5,b6,b7,b8,b9,b10].map V.bl)):=ja
 generalize upd (upd H5 p6 (.lst [.bl b9,.bl b10])) p7 (.lst ([.bl b0,.bl b1,.bl b2,.bl b3,.bl b4,.bl b5,.bl b6,.bl b7,.bl b8] ++ [.bl b9,.bl b10])) = H7 at s7 g7
 have he7:=s7 _ _ he
 have hmem:true ∈ [b0,b1,b2,b3,b4,b5,b6,b7,b8,b9,b10]:=List.count_pos_iff.mp (by rw [hc]; decide)
 generalize [b0,b1,b2,b3,b4,b5,b6,b7,b8,b9,b10] = bs at hc hw g7 hmem
 refine ⟨_,rfl,.inl ⟨rfl,_,SqL.of g7⟩,p7,bs,true,rfl,rfl,SqL.of g7,rfl,_,rfl,?_⟩
 refine jhq (λz=>?_) (λ_=>?_)
 .exfalso
  rw [hc] at z
  exact absurd z (by decide)
 refine ⟨_,rfl,ea,C,_,_,true,rfl,he7,hX,rfl,k11,_,rfl,gq ?_⟩
 refine ⟨_,rfl,ea,C,_,_,true,rfl,he7,hX,rfl,k12,_,rfl,gq ?_⟩
 refine ⟨j7d,λp8 h8=>?_⟩
 have s8:=s7.trans (jf (o:=.lst words) h8)
 have g8:=(jf (o:=.lst words) h8) _ _ g7
 refine ⟨_,rfl,_,rfl,.inl ⟨rfl,_,SqL.of g8⟩,p7,bs,true,rfl,rfl,SqL.of g8,hmem,?_⟩
 exact ⟨p8,words,_,x,rfl,rfl,SqL.of ja,jiu (by omega) (by rw [Int.toNat_natCast]; exact hw),k _ s8⟩
structure Wd.Kin (Y Y':Wd) : Prop where
 n : Y'.n = Y.n
 c : Y'.xx = Y.xx
 h : Y'.ks.map (·.1) = Y.ks.map (·.1)
theorem Wd.jzp.kin {Y Y':Wd} (l : Y.jzp Y') : Y.Kin Y':=⟨l.n,l.c,by rw [l.k]⟩
theorem jzz (Y : Wd) (i:Nat) (l:Bool × Int × O) (B : Kp) : Y.Kin (Y.jv5 i l B):=by
 have k:=wg l.2.1 (B.take l.1 l.2.2).2 { Y with way:=Y.way.eraseIdx i,ks:=jje Y.ks l.2.1 (B.take l.1 l.2.2).1 }
 refine ⟨k.n,k.c,?_⟩
 show (Wd.qo _ _ _).ks.map _ = _
 rw [k.k]
 exact jst _ _ _
section
variable {t:Ad} {H H':Hp} {Z Z':Rho} {W:WA} {Y Y':Wd} {T F:Nat} {p:Pt} {P:Role -> Prop} {To R:Addr} {L:List O}
theorem Wl.next (w:Wl t H Z W Y T F p) (f:Fr P Z H Z' H') (O':qm t H' Z' 0 W Y') (kr:OkR Z' H') {T2 F2:Nat} (g:Gy Y' T2 F2 L p.ls p.ns) (e : Y.Kin Y') : Wl t H' Z' W Y' T2 F2 p:=⟨O',kr,jpp f w.ly.1 w.ly.2,⟨L,g⟩,e.n.trans w.n,e.c.trans w.c,e.h.trans w.h,w.tot⟩
end
theorem jvw (Y : Wd) (i:Nat) (l:Bool × Int × O) (B : Kp) : (Y.jv5 i l B).asked = Y.asked:=(wg l.2.1 (B.take l.1 l.2.2).2 { Y with way:=Y.way.eraseIdx i,ks:=jje Y.ks l.2.1 (B.take l.1 l.2.2).1 }).a
def jxo (t:Ad) : Sp:=λvs H Q _=>∃ Z W Y T F p To R,vs = [.ref To,.ref W.x] /\ Sw t H Z W Y T F p To R /\ p.ls.length <= 5 /\ T <= 46 /\ F <= 2000 /\
 (Y.way = [] -> ∀ H',Sw t H' Z W Y T F p To R -> Fr jwh Z H Z H' -> Q .non H') /\
 (0 < F -> ∀ Z' H' Y' a,Sw t H' Z' W Y' T (F - 1) p To R -> Fr jwh Z H Z' H' -> Y'.asked = Y.asked -> Q (.ref a) H')
theorem jiv (T:Txt K mg t) : xo P w K mg base CX0 9 t.jfp t.jfe ["_law_town_here","_law_world_here"] (jxo t):=by
 refine T.jcj.okA jiz λ_ A _ s H vs Q E hr h=>?_
 obtain ⟨Z,W,Y,T',F,p,To,R,rfl,S,l5,hT,hF,k0,k⟩:=h
 refine ⟨_,(@jb _ _ _ _ _ (j9 (i:=2) jiz.nd rfl (Or.inl rfl) (jq ju rfl T.jch boot_len (jc (xu (pv 1) T.ji T.ze (xi T) hr.dn T.xc .nil jo) jg)))
  (@jd _ _ _ (j6 (jq7 (jx jye (pv 2) jl (qf _)) (qd (pv 1) T.ji T.jki (jrn T) hr.dn T.jm7 .nil jo (jc (jm (jz T) hr.dn rfl T.j8 T.j5.kp T.j7 .nil jo (@va _ _ _ _ _ (pv 0) (pv 2) rfl rfl)) jg)) jon)))),?_⟩
 obtain ⟨L,g⟩:=S.w.g
 have wl:=g.way
 refine ⟨_,rfl,W.x,W.dx,_,rfl,S.w.o.ob.1,qx,Z,0,W,Y,rfl,S.w.o,by omega,λr xs nr px=>?_⟩
 have lx:xs.length = Y.way.length:=Paired.length px
 have s1:=jf (o:=.lst xs) nr
 refine ⟨r,xs,rfl,.inl (SqL.of ja),?_⟩
 have S1:=S.same s1
 have f1:Fr jwh Z H Z (upd H r (.lst xs)):=Fr.same s1
 generalize upd H r (.lst xs) = H1 at S1 f1
 refine ⟨_,rfl,_,_,rfl,rfl,_,rfl,jhq (λz=>?_) (λz=>k0 (List.length_eq_zero_iff.mp (by have : ¬ (0:Int) < (xs.length:Int):=λy=>z (decide_eq_true y); omega)) _ S1 f1)⟩
 have pw : 0 < Y.way.length:=by
  have:=of_decide_eq_true z
  omega
 refine ⟨_,rfl,W.x,W.dx,_,rfl,S1.w.o.ob.1,qx,_,rfl,_,rfl,To,R,(xs.length:Int),rfl,S1.tn,by omega,by omega,λd H2 d0 d1 hT2 k2=>?_⟩
 obtain ⟨S2,f2⟩:=S1.draw hT2 k2
 obtain ⟨l,el⟩ : ∃ l,Y.way[d.toNat]? = some l:=⟨_,getElem?_eq_getElem (by omega)⟩
 obtain ⟨lL,lh,lc⟩:=g.g.y l (mem_of_getElem? el)
 obtain ⟨B,ek,km⟩:=jlz lh
 have ll:(B.take l.1 l.2.2).2.length <= L.length:=g.vn km l.1 lL lc
 have kz:KSz B L.length:=g.ksz km
 have e1:=kz.hd
 have e2:=kz.uc
 have e3:=kz.dw
 have z0:=g.l
 have z1:=g.ok.k1
 refine ⟨Z,0,W,Y,d.toNat,l,B,_,_,_,by rw [Int.toNat_of_nonneg d0]; rfl,S2.w.o,S2.w.kr,el,ek,g.ok.nd,g.ok.ks _ km,g.ok.n8,g.lo _ lL,⟨by omega,by omega,by omega⟩,g.sz,by omega,by omega,by omega,λZ' H' x O' f' kr' ux=>?_⟩
 obtain ⟨S3,f3⟩:=S2.go f' (λ_ z=>z) (S2.w.next f' O' kr' (g.jv5 el ek) (jzz Y d.toNat l B))
 obtain ⟨_,_,rfl,_⟩:=ux
 exact k (by omega) Z' H' _ _ S3 ((f1.trans (jqx f2)).trans f3) (jvw Y d.toNat l B)
def j23 (t:Ad) : Sp:=λvs H Q _=>∃ Z W Y T p To R,Sw t H Z W Y T (30 * T) p To R /\ T <= 46 /\
  ((∃ pu g m row,vs = [.str "ask",.ref W.x,.int pu,.int g,.int m] /\ (0 <= pu /\ pu < (Y.n:Int)) /\ (0 <= g /\ g < (Y.n:Int)) /\ g ≠ pu /\ (1 <= m /\ m <= 1000) /\ Y.asked[pu.toNat]? = some row /\ (∀ H' wd,gh H H' -> (wd = .str "purse" \/ wd = .str "now" \/ wd = .str "much") -> Q wd H') /\
      (pu ∉ Y.xx -> ∀ H' q,Sw t H' Z W (Y.asks ⟨pu,row.length,g,m⟩ row) (T + 1) (30 * (T + 1)) p To R -> Fr jwh Z H Z H' -> qr H' Z (.ref q) ⟨pu,row.length,g,m⟩ -> Q (.ref q) H')) \/
   (∃ h q l,vs = [.str "lie",.ref W.x,.int h,.ref q,.int 0] /\ h ∈ p.ls /\ p.ls.length <= 5 /\ qr H Z (.ref q) l.2.2 /\ l ∈ Y.way /\ Gos t H Z W Y T p To R Q))
set_option maxHeartbeats 0 in
theorem jgz (T:Txt K mg t) : xo P w K mg base CX0 8 t.jj1 t.jjt ["_law_kind","_law_world_here","_law_one","_law_two","_law_three"] (j23 t):=by
 refine T.jdi.ok vo (λvs H Q E h=>?_) (λcdv A outer s H vs Q E hr h=>?_)
 .obtain ⟨Z,W,Y,T',p,To,R,_,_,⟨pu,g,m,row,rfl,_⟩ | ⟨h,q,l,rfl,_⟩⟩:=h
  .rfl
  .rfl
 .obtain ⟨Z,W,Y,T',p,To,R,S,hT,hc⟩:=h
  obtain ⟨L,gn⟩:=S.w.g
  have lway:=gn.way
  have O:=S.w.o
  have kr:=S.w.kr
  refine ⟨_,(@jb _ _ _ _ _ (j9 (i:=5) vo.nd rfl (Or.inl rfl) jon)
   (@jb _ _ _ _ _ (j9 (i:=6) vo.nd rfl (Or.inl rfl) jon)
   (@jb _ _ _ _ _ (j2v (i:=7) rfl rfl rfl rfl T.jgq T.jle vo.nd rfl rfl (λ_ _=>(@jd _ _ _ (zl (jx jnf (pv 0) y7 (qf _)) (@jd _ _ _ (j9 (i:=5) vo.nd rfl (Or.inl rfl) (jz7 (pv 1) T.ji T.jmj (jtc T) hr.dn T.jou .nil (@jmm _ _ _ _ _ _ _ (pv 2) (pv 3) (pv 4) rfl rfl rfl)))) (@jd _ _ _ (zl (jx jnf (pv 0) y7 (qf _)) zk (@jd _ _ _ (zl (jx jnf (pv 0) y7 (qf _)) (@jd _ _ _ (j9 (i:=5) vo.nd rfl (Or.inl rfl) (qd (pv 1) T.ji T.jhk (jmk T) hr.dn T.jjr .nil jo (@va _ _ _ _ _ (pv 2) (pv 3) rfl rfl)))) zk))))))) (λ_=>(@jd _ _ _ (j9 (i:=6) vo.nd rfl (Or.inl rfl) (pv 7)))))
   (@jd _ _ _ (j6 (jq7 (jx j0n (pv 6) jon (qf _)) (pv 5) (jm (jpa T) hr.dn rfl T.ji7 T.jet.kp T.jis .nil jo (jc (pv 6) jg)))))))),?_⟩
  rcases hc with ⟨pu,g,m,row,rfl,hp,hg,ng,hm,erow,old,k⟩ | ⟨h,q,l,rfl,hl,l5,uq,lw,k⟩
  .have lrow:=gn.al row (mem_of_getElem? erow)
   refine ⟨λU' cls dd H'=>U' = [some (.str "ask"),some (.ref W.x),some (.int pu),some (.int g),some (.int m),some .non,some .non,none] /\ gh H H' /\ (cls = .ref t.um \/ cls = .ref t.vq \/ cls = .ref t.xb),?_,?_⟩
   .refine ⟨_,rfl,rfl,_,rfl,jlq ?_⟩
    refine ⟨_,rfl,W.x,W.dx,_,rfl,O.ob.1,qx,_,rfl,_,rfl,_,rfl,Z,0,W,Y,pu,g,m,row,rfl,O,kr,gn.ok,hp,hg,ng,hm,erow,by omega,by omega,λ_ d H' s'=>⟨rfl,s',.inr (.inr rfl)⟩,λo eo ec H' s'=>⟨rfl,s',.inl rfl⟩,λhcar M' eM'=>⟨λlt H' s'=>⟨rfl,s',.inr (.inl rfl)⟩,λle nc H' q O' f' kr' uq=>?_⟩⟩
    refine ⟨_,rfl,rfl,_,rfl,jlq ⟨_,rfl,?_⟩⟩
    have g2:=(gn.ask (by omega) hp hg ng hm erow nc hcar eM' le).mono (T':=T' + 1) (F':=30 * (T' + 1)) (le_refl _) (by omega)
    obtain ⟨S2,f2⟩:=S.go f' (λ_ z=>z) (S.w.next f' O' kr' g2 ⟨rfl,rfl,rfl⟩)
    exact k nc H' q S2 f2 uq
   .rintro U' cls dd H' ea ⟨rfl,sm,hw⟩ hea
    have sx : ∀ {u:HO},gh H (upd H' ea u):=λ{u}=>sm.trans (jf hea)
    rcases hw with rfl | rfl | rfl
    .refine ⟨t.um,rfl,T.jca,?_⟩
     refine ⟨_,rfl,ja,?_⟩
     rw [jtl]
     refine ⟨_,rfl,rfl,_,rfl,gq ?_⟩
     exact ⟨_,rfl,ea,t.um,false,false,false,false,false,false,true,false,false,false,false,.str "now",rfl,ja,T.jsk,T.jsr,by decide,rfl,λH'' s''=>old H'' _ (sx.trans s'') (.inr (.inl rfl))⟩
    .refine ⟨t.vq,rfl,T.jbi,?_⟩
     refine ⟨_,rfl,ja,?_⟩
     rw [jtl]
     refine ⟨_,rfl,rfl,_,rfl,gq ?_⟩
     exact ⟨_,rfl,ea,t.vq,false,false,false,false,false,false,false,true,false,false,false,.str "much",rfl,ja,T.jp5,T.jqg,by decide,rfl,λH'' s''=>old H'' _ (sx.trans s'') (.inr (.inr rfl))⟩
    .refine ⟨t.xb,rfl,T.jbh,?_⟩
     refine ⟨_,rfl,ja,?_⟩
     rw [jtl]
     refine ⟨_,rfl,rfl,_,rfl,gq ?_⟩
     exact ⟨_,rfl,ea,t.xb,false,false,false,false,true,false,false,false,false,false,false,.str "purse",rfl,ja,T.jqb,T.jp8,by decide,rfl,λH'' s''=>old H'' _ (sx.trans s'') (.inl rfl)⟩
  .refine ⟨λU' cls dd H'=>False,?_,λU' cls dd H' ea z=>z.elim⟩
   obtain ⟨lL,lh,lc⟩:=gn.g.y l lw
   have z:=gn.sz
   have z1:=gn.l
   have z2:=gn.ok.k1
   refine ⟨_,rfl,rfl,_,rfl,gq ?_⟩
   refine ⟨_,rfl,rfl,_,rfl,gq ?_⟩
   refine ⟨_,rfl,rfl,_,rfl,jlq ?_⟩
   refine ⟨_,rfl,W.x,W.dx,_,rfl,O.ob.1,qx,_,rfl,_,rfl,Z,0,W,Y,h,q,l.2.2,p.ls,_,_,_,rfl,O,kr,S.w.ly.1,hl,uq,gn.lo _ lL,gn.mw _ lL,z,by omega,by omega,by omega,λZ' H' O' f' kr'=>?_⟩
   refine ⟨_,rfl,rfl,_,rfl,jlq ⟨_,rfl,?_⟩⟩
   have g2:=(gn.lie hl lL).mono (T':=T' + 1) (F':=30 * (T' + 1)) (by omega) (by omega)
   obtain ⟨S2,f2⟩:=S.go f' (λr hr=>by rcases hr with hr | hr | hr <;> rw [hr]) (S.w.next f' O' kr' g2 (wg h [l.2.2] Y).kin)
   exact k Z' H' _ _ S2 f2 (.of (wg h [l.2.2] Y).a)
theorem j17 {p n d:Int} (h0 : 0 <= p) (h1:p < n) (d0 : 0 <= d) (d1:d < n - 1) : 0 <= (p + 1 + d) % n /\ (p + 1 + d) % n < n /\ (p + 1 + d) % n ≠ p:=by
 refine ⟨Int.emod_nonneg _ (by omega),Int.emod_lt_of_pos _ (by omega),λz=>?_⟩
 have e:=Int.mul_ediv_add_emod (p + 1 + d) n
 rw [z] at e
 generalize (p + 1 + d) / n = q at e
 by_cases y:q <= 0
 .have:=Int.mul_le_mul_of_nonneg_left y (show 0 <= n by omega)
  omega
 .have:=Int.mul_le_mul_of_nonneg_left (show 1 <= q by omega) (show 0 <= n by omega)
  omega
def jzk (t:Ad) : Sp:=λvs H Q _=>∃ Z W Y T p To R pa jbz few fo ho be ro pu,vs = [.ref To,.ref pa,.int pu] /\ Sw t H Z W Y T (30 * T) p To R /\ Ps H Z pa W.x jbz few fo ho be ro p /\ p.Ok /\ 0 <= pu /\ pu < (p.ns.length:Int) /\
 ∀ H' q o,Sw t H' Z W Y T (30 * T) p To R -> Fr jn7 Z H Z H' -> qr H' Z (.ref q) o -> zc p.ns.length o = true -> o.p = pu -> Q (.ref q) H'
theorem jqq (T:Txt K mg t) : xo P w K mg base CX0 3 t.jhl t.jhn ["_law_town_here","_law_parts","_law_purse"] (jzk t):=by
 refine T.jhv.okA jff λ_ A _ s H vs Q E hr h=>?_
 obtain ⟨Z,W,Y,T',p,To,R,pa,jbz,few,fo,ho,be,ro,pu,rfl,S,Bq,ok,p0,p1,k⟩:=h
 refine ⟨_,(@jb _ _ _ _ _ (j9 (i:=3) jff.nd rfl (Or.inl rfl) (jq ju rfl T.jch boot_len (jc (jbn jip (pv 1) jl (λ_ _=>rfl)) jg)))
  (@jb _ _ _ _ _ (j9 (i:=4) jff.nd rfl (Or.inl rfl) (zw ji4 (zw jb8 (zw jb8 (pv 2) jl) (jm (jz T) hr.dn rfl T.j8 T.j5.kp T.j7 .nil jo (@va _ _ _ _ _ (pv 0) (zw ji0 (pv 3) jl) rfl rfl))) (pv 3)))
  (@jd _ _ _ (j6 (@jhm _ _ _ _ _ (@j5l _ _ _ _ _ _ _ _ _ (pv 2) (jm (jz T) hr.dn rfl T.j8 T.j5.kp T.j7 .nil jo (@va _ _ _ _ _ (pv 0) jl rfl rfl)) (pv 4) (zw jb8 jl (jm (zm T) hr.dn rfl T.zx T.zi.kp T.xf .nil jo (@va _ _ _ _ _ (pv 0) (@zd _ _ _ _ (@jmm _ _ _ _ _ _ _ jl jl (jm (jz T) hr.dn rfl T.j8 T.j5.kp T.j7 .nil jo (@va _ _ _ _ _ (pv 0) jl rfl rfl)) rfl rfl rfl)) rfl rfl))) rfl rfl rfl rfl)))))),?_⟩
 have l2:=ok.l2
 have l8:=ok.l8
 refine ⟨_,rfl,pa,_,5,.ref be,rfl,rfl,SqT.of Bq.tp.1,rfl,be,_,rfl,.inl (SqL.of Bq.be.1),?_⟩
 rw [length_map]
 refine ⟨_,rfl,_,_,rfl,rfl,_,rfl,_,rfl,_,_,rfl,rfl,To,R,(p.ns.length:Int) - 1,rfl,S.tn,by omega,by omega,λd H1 d0 d1 hT1 k1=>?_⟩
 obtain ⟨S1,f1⟩:=S.draw hT1 k1
 obtain ⟨g0,g1,g2⟩:=j17 p0 p1 d0 d1
 refine ⟨_,_,rfl,rfl,_,rfl,_,_,rfl,rfl,(by show (0:Int) < (p.ns.length:Int); omega),?_⟩
 refine ⟨_,rfl,_,rfl,To,R,3,rfl,S1.tn,by decide,by decide,λn H2 n0 n1 hT2 k2=>?_⟩
 obtain ⟨S2,f2⟩:=S1.draw hT2 k2
 refine ⟨_,rfl,_,rfl,_,rfl,To,R,12,rfl,S2.tn,by decide,by decide,λm H3 m0 m1 hT3 k3=>?_⟩
 obtain ⟨S3,f3⟩:=S2.draw hT3 k3
 refine ⟨zs3,λl nl=>?_⟩
 have s3:=jf (o:=.lst [.int 0,.int 4,.int m]) nl
 have S3':=S3.same s3
 obtain ⟨n1',n2'⟩:=S3.tn.fresh nl
 refine ⟨To,R,l,_,rfl,S3'.tn,ja,n1',n2',by show 0 < 3; decide,by show 3 <= 1000000; decide,λi x H4 ex hT4 k4=>?_⟩
 obtain ⟨S4,f4⟩:=S3'.draw hT4 k4
 obtain ⟨v,rfl,v0,v1⟩ : ∃ v,x = V.int v /\ 0 <= v /\ v <= 12:=by
  have:=mem_of_getElem? ex
  simp only [mem_cons,not_mem_nil,or_false] at this
  rcases this with rfl | rfl | rfl
  .exact ⟨0,rfl,by decide,by decide⟩
  .exact ⟨4,rfl,by decide,by decide⟩
  .exact ⟨m,rfl,m0,by omega⟩
 refine ⟨_,_,rfl,rfl,zs4,λq nq=>?_⟩
 have s5:=jf (o:=.tup [.int pu,.int n,.int ((pu + 1 + d) % (p.ns.length:Int)),.int (1 + v)]) nq
 refine k _ q ⟨pu,n,(pu + 1 + d) % (p.ns.length:Int),1 + v⟩ (S4.same s5) ((((f1.trans f2).trans f3).trans (Fr.same s3)).trans (f4.trans (Fr.same s5))) ⟨q,rfl,S4.w.kr.none nq,ja⟩ (qz.mpr ⟨p0,by show pu <= (p.ns.length:Int) - 1; omega,g0,by show (pu + 1 + d) % (p.ns.length:Int) <= (p.ns.length:Int) - 1; omega,λy=>g2 y.symm,n0,by show n <= 99; omega,by show 1 <= 1 + v; omega,by show 1 + v <= 1000; omega⟩) rfl
theorem int_at {zs:List Int} {i:Nat} {x:V} (e:(zs.map V.int)[i]? = some x) : ∃ z,z ∈ zs /\ x = .int z:=by
 obtain ⟨z,hz,e⟩:=mem_map.mp (mem_of_getElem? e)
 exact ⟨z,hz,e.symm⟩
theorem jvf {t:Ad} {H:Hp} {Z : Rho} {W:WA} {Y : Wd} {T F:Nat} {p:Pt} {To R a:Addr} {zs:List Int} {Q:VK} (S:Sw t H Z W Y T F p To R) (u:Un H Z a (zs.map V.int)) (l0 : 0 < zs.length) (l1:zs.length <= 1000) (k : ∀ z H',z ∈ zs -> Sw t H' Z W Y T F p To R -> Fr jn7 Z H Z H' -> Q (.int z) H') : jya [.ref To,.ref a] H Q E0:=by
 obtain ⟨n1,n2⟩:=u.neT S
 refine ⟨To,R,a,_,rfl,S.tn,u.1,n1,n2,by rw [length_map]; exact l0,by rw [length_map]; omega,λi x H' ex hT kT=>?_⟩
 obtain ⟨z,hz,rfl⟩:=int_at ex
 obtain ⟨S',f'⟩:=S.draw hT kT
 exact k z H' hz S' f'
def j5m (K:PySem.W.Frag) (t:Ad) : Sp:=λvs H Q _=>∃ Z W Y T p To R pa jbz few fo ho be ro sh,vs = [.ref To,.ref pa,.int sh] /\ Sw t H Z W Y T (30 * T) p To R /\ Ps H Z pa W.x jbz few fo ho be ro p /\ p.Ok /\ T <= 46 /\ Gos t H Z W Y T p To R Q
set_option maxHeartbeats 0 in
theorem jwc (T:Txt K mg t) : xo P w K mg base CX0 10 t.jnz t.joq ["_law_town_here","_law_parts","_law_share"] (j5m K t):=by
 refine T.joj.okA zu λ_ A _ s H vs Q E hr h=>?_
 obtain ⟨Z,W,Y,T',p,To,R,pa,jbz,few,fo,ho,be,ro,sh,rfl,S,Bq,ok,hT,k⟩:=h
 refine ⟨_,(@jb _ _ _ _ _ (jmn (pv 1) (jqd rfl (qe (jv (i:=3) zu.nd rfl (Or.inl rfl)) (qe (jv (i:=4) zu.nd rfl (Or.inl rfl)) (qe (jv (i:=5) zu.nd rfl (Or.inl rfl)) (qe (jv (i:=6) zu.nd rfl (Or.inl rfl)) (qe (jv (i:=7) zu.nd rfl (Or.inl rfl)) (qe (jv (i:=8) zu.nd rfl (Or.inl rfl)) (qe (jv (i:=9) zu.nd rfl (Or.inl rfl)) jlm)))))))))
  (@jb _ _ _ _ _ (j9 (i:=10) zu.nd rfl (Or.inl rfl) (jq ju rfl T.jch boot_len (jc (pv 8) jg)))
  (@jb _ _ _ _ _ (j9 (i:=11) zu.nd rfl (Or.inl rfl) (jm (jz T) hr.dn rfl T.j8 T.j5.kp T.j7 .nil jo (@va _ _ _ _ _ (pv 0) jl rfl rfl)))
  (@jd _ _ _ (zl (jx jyz (pv 11) (pv 2) (qf _)) (@jd _ _ _ (qa (jm (jiv T) hr.dn rfl T.jfj T.jcj.kp T.jft .nil jo (@va _ _ _ _ _ (pv 0) (pv 3) rfl rfl)))) (@jd _ _ _ (zl (PW.pt (jkt (jx jnf (zw ji4 (pv 11) jl) jl (qf _)) (jg5 (jx (jkq hr.units) (pv 9) (@zd _ _ _ _ jg) (qf _))))) (@jb _ _ _ _ _ (j9 (i:=12) zu.nd rfl (Or.inl rfl) (jm (jqq T) hr.dn rfl T.jm5 T.jhv.kp T.jml .nil jo (@jmm _ _ _ _ _ _ _ (pv 0) (pv 1) (jm (zm T) hr.dn rfl T.zx T.zi.kp T.xf .nil jo (@va _ _ _ _ _ (pv 0) (pv 9) rfl rfl)) rfl rfl rfl)))
  (@jb _ _ _ _ _ (qa (qd (pv 3) T.ji T.jik (jpn T) hr.dn T.jk6 .nil jo (@va _ _ _ _ _ (pv 12) (jm (zm T) hr.dn rfl T.zx T.zi.kp T.xf .nil jo (@va _ _ _ _ _ (pv 0) (pv 7) rfl rfl)) rfl rfl)))
  (@jd _ _ _ (zl (jx (jkq hr.units) (pv 6) (@zd _ _ _ _ jg) (qf _)) (@jd _ _ _ (qa (qd (pv 3) T.ji T.jhk (jmk T) hr.dn T.jjr .nil jo (@va _ _ _ _ _ (jm (zm T) hr.dn rfl T.zx T.zi.kp T.xf .nil jo (@va _ _ _ _ _ (pv 0) (pv 6) rfl rfl)) (pv 12) rfl rfl)))) qc)))) (@jd _ _ _ (zl (PW.pt (jkt (jx (jkq hr.units) (pv 6) (@zd _ _ _ _ jg) (qf _)) (jkt (jx (jkq hr.units) (xu (pv 3) T.ji T.ze (xi T) hr.dn T.xc .nil jo) (@zd _ _ _ _ jg) (qf _)) (jg5 (jx jnf (jm (jz T) hr.dn rfl T.j8 T.j5.kp T.j7 .nil jo (@va _ _ _ _ _ (pv 0) jl rfl rfl)) jl (qf _)))))) (@jd _ _ _ (qa (jm (jgz T) hr.dn rfl T.jfw T.jdi.kp T.jfm .nil jo (@j5g _ _ _ _ _ _ _ _ _ _ _ y7 (pv 3) (jm (zm T) hr.dn rfl T.zx T.zi.kp T.xf .nil jo (@va _ _ _ _ _ (pv 0) (pv 6) rfl rfl)) (jbn jip (jm (zm T) hr.dn rfl T.zx T.zi.kp T.xf .nil jo (@va _ _ _ _ _ (pv 0) (xu (pv 3) T.ji T.ze (xi T) hr.dn T.xc .nil jo) rfl rfl)) jl (λ_ _=>rfl)) jl rfl rfl rfl rfl rfl)))) (@jd _ _ _ (zl (PW.pt (jkt (jx (jkq hr.units) (xu (pv 3) T.ji T.ur (jcn T) hr.dn T.ja4 .nil jo) (@zd _ _ _ _ jg) (qf _)) (jg5 (jx jnf (jm (jz T) hr.dn rfl T.j8 T.j5.kp T.j7 .nil jo (@va _ _ _ _ _ (pv 0) jl rfl rfl)) jl (qf _))))) (@jd _ _ _ (qa (qd (pv 3) T.ji T.jkv (jq9 T) hr.dn T.jmv .nil jo (@va _ _ _ _ _ (jm (zm T) hr.dn rfl T.zx T.zi.kp T.xf .nil jo (@va _ _ _ _ _ (pv 0) (xu (pv 3) T.ji T.ur (jcn T) hr.dn T.ja4 .nil jo) rfl rfl)) (jm (zm T) hr.dn rfl T.zx T.zi.kp T.xf .nil jo (@va _ _ _ _ _ (pv 0) (pv 7) rfl rfl)) rfl rfl)))) (@jb _ _ _ _ _ (j9 (i:=13) zu.nd rfl (Or.inl rfl) (jm (jz T) hr.dn rfl T.j8 T.j5.kp T.j7 .nil jo (@va _ _ _ _ _ (pv 0) (pv 10) rfl rfl)))
  (@jb _ _ _ _ _ (j9 (i:=14) zu.nd rfl (Or.inl rfl) (zw ji4 (zw jb8 (zw jb8 (pv 13) jl) (jm (jz T) hr.dn rfl T.j8 T.j5.kp T.j7 .nil jo (@va _ _ _ _ _ (pv 0) (zw ji0 (pv 10) jl) rfl rfl))) (pv 10)))
  (@jd _ _ _ (qa (jm (jgz T) hr.dn rfl T.jfw T.jdi.kp T.jfm .nil jo (@j5g _ _ _ _ _ _ _ _ _ _ _ y7 (pv 3) (pv 13) (pv 14) (zw jb8 jl (jm (zm T) hr.dn rfl T.zx T.zi.kp T.xf .nil jo (@va _ _ _ _ _ (pv 0) (@zd _ _ _ _ (@jmm _ _ _ _ _ _ _ jl jl (jm (jz T) hr.dn rfl T.j8 T.j5.kp T.j7 .nil jo (@va _ _ _ _ _ (pv 0) jl rfl rfl)) rfl rfl rfl)) rfl rfl))) rfl rfl rfl rfl rfl))))))))))))))))),?_⟩
 have l2:=ok.l2
 have l8:=ok.l8
 refine je6 λN hN=>⟨_,rfl,pa,_,rfl,SqT.of Bq.tp.1,rfl,_,_,rfl,_,_,rfl,_,_,rfl,_,_,rfl,_,_,rfl,_,_,rfl,_,_,rfl,rfl,?_⟩
 refine hN _ _ (je6 λN hN=>⟨_,rfl,be,_,rfl,.inl (SqL.of Bq.be.1),?_⟩)
 rw [length_map]
 refine hN _ _ (je6 λN hN=>⟨_,rfl,To,R,10,rfl,S.tn,by decide,by decide,λkd H1 kd0 kd1 hT1 k1=>?_⟩)
 obtain ⟨S1,f1⟩:=S.draw hT1 k1
 have B1:=Bq.fr f1
 refine hN [some (.ref To),some (.ref pa),some (.int sh),some (.ref W.x),some (.int jbz),some (.int few),some (.ref fo),some (.ref ho),some (.ref be),some (.ref ro),some (.int (p.ns.length:Int)),some (.int kd),none,none,none] H1 (ifN λN hN=>⟨_,rfl,_,rfl,_,_,rfl,rfl,_,rfl,hN _ _ (jhq (λ_=>?_) (λ_=>?_))⟩)
 .refine ⟨_,rfl,_,rfl,Z,W,Y,T',30 * T',p,To,R,rfl,S1,ok.ll,hT,by omega,λ_ H' S' f'=>k Z H' Y _ S'.wait ((jqx f1).trans f') (.of rfl),λ_ Z' H' Y' a S' f' ea=>k Z' H' Y' _ ⟨S'.w.wait (by omega),S'.tn,S'.tr⟩ ((jqx f1).trans f') (.of ea)⟩
 obtain ⟨L,gn⟩:=S.w.g
 have lway:=gn.way
 have z0:=gn.l
 have z1:=gn.ok.k1
 have z2:=ok.ll
 have bl:=gn.sz.bd
 have bne : ∀ x ∈ Y.bd,x.1 ≠ []:=λx hx z=>by
  obtain ⟨o,_,e⟩:=gn.g.b.ks x hx
  rw [e] at z
  cases z
 have nilU : ∀ {HB e},HB e = none -> qg K (upd HB e (.lst [])) (.lst []) (.ref e):=λn=>by
  rw [qg]
  exact ⟨_,[],rfl,SqL.of ja,by rw [xk]⟩
 refine' (λkey=>_:(∀ HB,Sw t HB Z W Y T' (30 * T') p To R -> Fr jn7 Z H Z HB -> (_:Hp -> Prop) HB) -> _) _
 rotate_left
 .refine ifN λN hN=>⟨_,rfl,_,_,rfl,rfl,(by show (0:Int) < 2; decide),rfl,_,rfl,jhq (λ_=>?_) (λ_=>hN _ _ (gq ?_))⟩
  rotate_left
  .exact key H1 S1 f1
  refine ⟨_,rfl,zs0,λe ne=>?_⟩
  have s2:=jf (o:=.lst []) ne
  have S2:=S1.same s2
  have f2:Fr jn7 Z H Z (upd H1 e (.lst [])):=f1.trans (Fr.same s2)
  have B2:=Bq.fr f2
  refine ⟨.lst (p.cs.map Dt.int),.lst [],jex (SqL.of B2.ro.1),nilU ne,jkn _,_,rfl,?_⟩
  rw [jg8]
  generalize upd H1 e (.lst []) = H2 at S2 f2 B2
  refine hN _ _ (jhq (λz=>?_) (λ_=>?_))
  rotate_left
  .exact key H2 S2 f2
  have nc : 0 < p.cs.length:=length_pos_iff.mpr λy=>by rw [y] at z; cases z
  refine je6 λN hN=>⟨_,rfl,_,rfl,_,rfl,_,rfl,jvf S2 B2.ro nc ok.cl λpu H3 hpu S3 f3=>?_⟩
  have B3:=B2.fr f3
  obtain ⟨pu0,pu1⟩:=ok.c pu hpu
  refine ⟨Z,W,Y,T',p,To,R,pa,jbz,few,fo,ho,be,ro,pu,rfl,S3,B3,ok,pu0,pu1,λH4 q o S4 f4 uq4 io eo=>?_⟩
  have B4:=B3.fr f4
  refine hN _ _ (je6 λN hN=>⟨_,rfl,W.x,W.dx,_,rfl,S4.w.o.ob.1,qx,_,rfl,_,rfl,_,rfl,jvf S4 B4.ho ok.h0 (by have:=ok.h1; omega) λh H5 hh S5 f5=>?_⟩)
  have uq5:=uq4.fr f5
  have B5:=B4.fr f5
  have io':zc Y.n o = true:=by rw [S.w.n]; exact io
  have oc:o.p ∈ Y.xx:=by rw [S.w.c,eo]; exact hpu
  have hk:h ∈ Y.ks.map (·.1):=by rw [S.w.h]; exact hh
  obtain ⟨B,ek,km⟩:=jlz hk
  refine ⟨Z,0,W,Y,q,o,h,B,rfl,S5.w.o,S5.w.kr,uq5,io',oc,ek,by omega,λH6 O6 f6 kr6=>?_⟩
  have gn6:=gn.j6z io' oc hk
  obtain ⟨S6,f6'⟩:=S5.go f6 (λr hr=>by rw [hr]) (S5.w.next f6 O6 kr6 (gn6.mono (T':=T' + 1) (F':=30 * (T' + 1)) (le_refl _) (by omega)) ⟨rfl,rfl,rfl⟩)
  have F6:Fr jwh Z H Z H6:=(jqx (((f2.trans f3).trans f4).trans f5)).trans f6'
  have B6:=B5.fr f6
  have uq6:=uq5.fr f6
  refine hN _ _ (ifN λN hN=>⟨_,rfl,zs0,λe' ne'=>?_⟩)
  have s7:=jf (o:=.lst []) ne'
  have S7:=S6.same s7
  have F7:Fr jwh Z H Z (upd H6 e' (.lst [])):=F6.trans (Fr.same s7)
  have B7:=B6.fr (P:=λ_=>False) (Fr.same s7)
  have uq7:=uq6.fr (P:=λ_=>False) (Fr.same s7)
  refine ⟨.lst (p.ls.map Dt.int),.lst [],jex (SqL.of B7.fo.1),nilU ne',jkn _,_,rfl,?_⟩
  rw [jg8]
  generalize upd H6 e' (.lst []) = H7 at S7 F7 B7 uq7
  refine hN _ _ (jhq (λz=>?_) (λ_=>k Z H7 _ _ S7 F7 (.of rfl)))
  have nl : 0 < p.ls.length:=length_pos_iff.mpr λy=>by rw [y] at z; cases z
  refine ⟨_,rfl,W.x,W.dx,_,rfl,S7.w.o.ob.1,qx,_,rfl,_,rfl,jvf S7 B7.fo nl (by omega) λh' H8 hh' S8 f8=>?_⟩
  have uq8:=uq7.fr f8
  refine ⟨_,rfl,Z,0,W,_,h',q,o,p.ls,_,_,_,rfl,S8.w.o,S8.w.kr,S8.w.ly.1,hh',uq8,gn6.lo _ mem_cons_self,gn6.mw _ mem_cons_self,gn6.sz,(by rw [length_cons]; omega),(by show Y.ks.length + p.ls.length + 1 <= 1000; omega),by omega,λZ9 H9 O9 f9 kr9=>?_⟩
  have g9:=(gn6.lie hh' mem_cons_self).mono (T':=T' + 1) (F':=30 * (T' + 1)) (le_refl _) (by omega)
  obtain ⟨S9,f9'⟩:=S8.go f9 (λr hr=>by rcases hr with hr | hr | hr <;> rw [hr]) (S8.w.next f9 O9 kr9 g9 (wg h' [o] _).kin)
  exact k Z9 H9 _ _ S9 ((F7.trans (jqx f8)).trans f9') (.of (wg h' [o] _).a)
 rintro HA SA fA
 refine' (λkey=>_:(∀ HB,Sw t HB Z W Y T' (30 * T') p To R -> Fr jn7 Z H Z HB -> (_:Hp -> Prop) HB) -> _) _
 rotate_left
 .refine ifN λN hN=>⟨_,rfl,zs0,λe ne=>?_⟩
  have s2:=jf (o:=.lst []) ne
  have S2:=SA.same s2
  have f2:Fr jn7 Z H Z (upd HA e (.lst [])):=fA.trans (Fr.same s2)
  have B2:=Bq.fr f2
  refine ⟨.lst (p.ls.map Dt.int),.lst [],jex (SqL.of B2.fo.1),nilU ne,jkn _,_,rfl,?_⟩
  rw [jg8]
  generalize upd HA e (.lst []) = H2 at S2 f2 B2
  refine jhq (λz=>?_) (λ_=>hN _ _ (gq ?_))
  rotate_left
  .exact key H2 S2 f2
  have nl : 0 < p.ls.length:=length_pos_iff.mpr λy=>by rw [y] at z; cases z
  refine ⟨_,rfl,W.x,W.dx,_,rfl,S2.w.o.ob.1,qx,Z,0,W,Y,rfl,S2.w.o,by omega,λr xs nr px=>⟨zs0,λe' ne'=>?_⟩⟩
  have s3:=jf (o:=.lst xs) nr
  have s4:=jf (o:=.lst []) ne'
  have S3:=(S2.same s3).same s4
  have f3:Fr jn7 Z H Z (upd (upd H2 r (.lst xs)) e' (.lst [])):=f2.trans (Fr.same (s3.trans s4))
  have px2:Paired (jgk (upd (upd H2 r (.lst xs)) e' (.lst [])) Z) xs Y.way:=Paired.vb px λ_ _=>jgk.fr (P:=λ_=>False) (Fr.same (s3.trans s4))
  have hd:qg K (upd (upd H2 r (.lst xs)) e' (.lst [])) (.lst (Y.way.map j1f)) (.ref r):=by
   rw [qg]
   exact ⟨r,xs,rfl,SqL.of (s4 _ _ ja),jh9 (λx a h=>jgk.j7a h) px2⟩
  have dl:=joc Y.way
  refine ⟨_,_,hd,nilU ne',by rw [jhi]; omega,_,rfl,?_⟩
  rw [jg8]
  generalize upd (upd H2 r (.lst xs)) e' (.lst []) = H3 at S3 f3
  refine jhq (λz=>?_) (λ_=>hN _ _ (gq ?_))
  rotate_left
  .exact key H3 S3 f3
  have nw : 0 < Y.way.length:=length_pos_iff.mpr λy=>by rw [y] at z; cases z
  refine ⟨_,rfl,To,R,3,rfl,S3.tn,by decide,by decide,λd H4 d0 d1 hT4 k4=>?_⟩
  obtain ⟨S4,f4⟩:=S3.draw hT4 k4
  have F4:=f3.trans f4
  refine ⟨rfl,_,rfl,hN _ _ (jhq (λ_=>?_) (λ_=>?_))⟩
  rotate_left
  .exact key H4 S4 F4
  have B4:=Bq.fr F4
  refine ⟨_,rfl,_,rfl,_,rfl,jvf S4 B4.fo nl (by omega) λh H5 hh S5 f5=>?_⟩
  refine ⟨_,rfl,_,rfl,W.x,W.dx,_,rfl,S5.w.o.ob.1,qx,Z,0,W,Y,rfl,S5.w.o,by omega,λr' xs' nr' px'=>?_⟩
  have lx:xs'.length = Y.way.length:=Paired.length px'
  have s6:=jf (o:=.lst xs') nr'
  obtain ⟨n1,n2⟩:=S5.tn.fresh nr'
  have S6:=S5.same s6
  have f6:Fr jn7 Z H Z (upd H5 r' (.lst xs')):=(F4.trans f5).trans (Fr.same s6)
  refine ⟨To,R,r',xs',rfl,S6.tn,ja,n1,n2,by omega,by omega,λi x H7 ex hT7 k7=>?_⟩
  obtain ⟨S7,f7⟩:=S6.draw hT7 k7
  obtain ⟨l,el,ul⟩:=qh px' ex
  obtain ⟨a,q,rfl,_,h1,uq⟩:=(ul.fr (P:=λ_=>False) (Fr.same s6)).fr f7
  exact ⟨a,_,2,.ref q,rfl,rfl,SqT.of h1,rfl,Z,W,Y,T',p,To,R,S7,hT,.inr ⟨h,q,l,rfl,hh,ok.ll,uq,mem_of_getElem? el,λZ' H' Y' v S' f' as=>k Z' H' Y' _ S' ((jqx (f6.trans f7)).trans f') as⟩⟩
 rintro HC SC fC
 refine' (λkey=>_:(∀ HB,Sw t HB Z W Y T' (30 * T') p To R -> Fr jn7 Z H Z HB -> (_:Hp -> Prop) HB) -> _) _
 rotate_left
 .refine ifN λN hN=>⟨_,rfl,W.x,W.dx,_,rfl,SC.w.o.ob.1,qx,Z,0,W,Y,rfl,SC.w.o,by omega,gn.g.b.nd,bne,λr vs ts H1 nr s1 q1 q3 h1=>⟨zs0,λe ne=>?_⟩⟩
  have s2:=jf (o:=.lst []) ne
  have S2:=(SC.same s1).same s2
  have f2:Fr jn7 Z H Z (upd H1 e (.lst [])):=fC.trans (Fr.same (s1.trans s2))
  have hd:qg K (upd H1 e (.lst [])) (.lst (ts.map jwi)) (.ref r):=by
   rw [qg]
   exact ⟨r,vs,rfl,SqL.of (s2 _ _ h1),jh9 (λx a h=>by obtain ⟨a',rfl,q⟩:=h; exact jp7 (SqT.of (s2 _ _ q))) q3⟩
  have dl:=jp3 ts
  refine ⟨_,_,hd,nilU ne,by rw [jhi]; omega,_,rfl,?_⟩
  rw [jg8]
  generalize upd H1 e (.lst []) = H2 at S2 f2
  refine jhq (λz=>?_) (λ_=>hN _ _ (gq ?_))
  rotate_left
  .exact key H2 S2 f2
  have nt:ts ≠ []:=λy=>by rw [y] at z; cases z
  have nt2 : 0 < (xq Y.bd Y.en).length:=by
   rw [<- q1.length_eq]
   exact length_pos_iff.mpr nt
  refine ⟨_,rfl,To,R,4,rfl,S2.tn,by decide,by decide,λd H3 d0 d1 hT3 k3=>?_⟩
  obtain ⟨S3,f3⟩:=S2.draw hT3 k3
  have F3:=f2.trans f3
  refine ⟨rfl,_,rfl,hN _ _ (jhq (λ_=>?_) (λ_=>?_))⟩
  rotate_left
  .exact key H3 S3 F3
  refine ⟨_,rfl,W.x,W.dx,_,rfl,S3.w.o.ob.1,qx,_,rfl,_,rfl,W.x,W.dx,_,rfl,S3.w.o.ob.1,qx,Z,0,W,Y,rfl,S3.w.o,by omega,gn.g.b.nd,bne,λr' vs' ts' H4 nr' s4 q1' q3' h4=>?_⟩
  have S4:=S3.same s4
  have F4:Fr jn7 Z H Z H4:=F3.trans (Fr.same s4)
  obtain ⟨n1,n2⟩:=S3.tn.fresh nr'
  have lv:vs'.length = (xq Y.bd Y.en).length:=(Paired.length q3').trans q1'.length_eq
  have lc:(xq Y.bd Y.en).length <= Y.bd.length:=by
   unfold xq
   rw [length_map]
   exact length_filter_le _ _
  refine ⟨To,R,r',vs',rfl,S4.tn,h4,n1,n2,by omega,by omega,λi x H5 ex hT5 k5=>?_⟩
  obtain ⟨S5,f5⟩:=S4.draw hT5 k5
  obtain ⟨ti,eti,a,rfl,ha⟩:=qh q3' ex
  obtain ⟨o,oL,rfl,oc⟩:=gn.joe (q1'.mem_iff.mp (mem_of_getElem? eti))
  have uo:qr H4 Z (.ref a) o:=⟨a,rfl,S4.w.kr.tup ha,ha⟩
  have uo5:=uo.fr f5
  have B5:=Bq.fr (F4.trans f5)
  refine ⟨_,rfl,_,rfl,jvf S5 B5.ho ok.h0 (by have:=ok.h1; omega) λh H6 hh S6 f6=>?_⟩
  have hk:h ∈ Y.ks.map (·.1):=by rw [S.w.h]; exact hh
  obtain ⟨B,ek,km⟩:=jlz hk
  refine ⟨Z,0,W,Y,a,o,h,B,rfl,S6.w.o,S6.w.kr,uo5.fr f6,gn.lo _ oL,ek,oc,by omega,λH7 O7 f7 kr7=>?_⟩
  have g7:=(gn.juf oL hk (b:=false) λ_=>oc).mono (T':=T' + 1) (F':=30 * (T' + 1)) (by omega) (by omega)
  obtain ⟨S7,f7'⟩:=S6.go f7 (λr hr=>by rw [hr]) (S6.w.next f7 O7 kr7 g7 ⟨rfl,rfl,rfl⟩)
  exact k Z H7 _ _ S7 ((jqx ((F4.trans f5).trans f6)).trans f7') (.of rfl)
 rintro HD SD fD
 refine je6 λN hN=>⟨_,rfl,_,rfl,To,R,(p.ns.length:Int),rfl,SD.tn,by omega,by omega,λpu H1 pu0 pu1 hT1 k1=>?_⟩
 obtain ⟨S1,f1⟩:=SD.draw hT1 k1
 refine hN _ _ (je6 λN hN=>⟨_,rfl,_,_,rfl,rfl,_,rfl,_,rfl,_,_,rfl,rfl,To,R,(p.ns.length:Int) - 1,rfl,S1.tn,by omega,by omega,λd H2 d0 d1 hT2 k2=>?_⟩)
 obtain ⟨S2,f2⟩:=S1.draw hT2 k2
 obtain ⟨g0,g1,g2⟩:=j17 pu0 pu1 d0 d1
 refine ⟨_,_,rfl,rfl,_,rfl,_,_,rfl,rfl,(by show (0:Int) < (p.ns.length:Int); omega),?_⟩
 refine hN _ _ ⟨_,rfl,_,rfl,_,rfl,_,rfl,_,rfl,To,R,30,rfl,S2.tn,by decide,by decide,λm H3 m0 m1 hT3 k3=>?_⟩
 obtain ⟨S3,f3⟩:=S2.draw hT3 k3
 refine ⟨zs3,λl nl=>?_⟩
 have s4:=jf (o:=.lst ([0,4,m].map V.int)) nl
 have S4:=S3.same s4
 have u4:Un (upd H3 l (.lst ([0,4,m].map V.int))) Z l ([0,4,m].map V.int):=⟨ja,S3.w.kr.none nl⟩
 refine jvf S4 u4 (by show 0 < 3; decide) (by show 3 <= 1000; decide) λv H5 hv S5 f5=>?_
 have v01 : 0 <= v /\ v <= 30:=by
  simp only [mem_cons,not_mem_nil,or_false] at hv
  rcases hv with rfl | rfl | rfl <;> omega
 have en:(Y.n:Int) = (p.ns.length:Int):=by rw [S.w.n]
 have F5:Fr jn7 Z H Z H5:=(((fD.trans f1).trans f2).trans f3).trans ((Fr.same s4).trans f5)
 obtain ⟨row,er⟩:=gn.row pu0 (by omega)
 refine ⟨_,_,rfl,rfl,Z,W,Y,T',p,To,R,S5,hT,.inl ⟨pu,(pu + 1 + d) % (p.ns.length:Int),1 + v,row,rfl,⟨pu0,by omega⟩,⟨g0,by omega⟩,g2,⟨by omega,by omega⟩,er,λH' _ s' _=>k Z H' Y _ (S5.same s').wait ((jqx F5).trans (Fr.same s')) (.of rfl),λ_ H' q S' f' _=>k Z H' _ _ S' ((jqx F5).trans f') (jve er)⟩⟩
structure Tw (H:Hp) (Z : Rho) (To R:Addr) : Prop where
 kr:OkR Z H
 tn:jpl To R H
 tr:jyj Z To R
section
variable {H H':Hp} {Z : Rho} {To R:Addr}
theorem Tw.same (s:gh H H') (x:Tw H Z To R) : Tw H' Z To R:=⟨x.kr.same s,x.tn.same s,x.tr⟩
theorem Tw.draw (x:Tw H Z To R) (hT:jpl To R H') (k:jpr To R H H') : Tw H' Z To R /\ Fr jn7 Z H Z H':=⟨⟨jxq x.kr hT k,hT,x.tr⟩,jt1 x.tr k⟩
end
def jz6 (t:Ad) : Sp:=λvs H Q _=>∃ Z To R,vs = [.ref To] /\ Tw H Z To R /\
 ∀ Z' H' W Y pa cr few fo ho be ro p,p.Ok -> Sw t H' Z' W Y 0 0 p To R -> Ps H' Z' pa W.x cr few fo ho be ro p -> Q (.ref pa) H'
set_option maxHeartbeats 0 in
theorem jrm (T:Txt K mg t) : xo P w K mg base CX0 8 t.jgx t.jgt ["_law_town_here"] (jz6 t):=by
 refine T.jhr.okA yg λ_ A _ s H vs Q E hr h=>?_
 obtain ⟨Z,To,R,rfl,S,k⟩:=h
 refine ⟨_,(@jb _ _ _ _ _ (j9 (i:=1) yg.nd rfl (Or.inl rfl) (jm (jz T) hr.dn rfl T.j8 T.j5.kp T.j7 .nil jo (@va _ _ _ _ _ (pv 0) jl rfl rfl)))
  (@jb _ _ _ _ _ (j9 (i:=2) yg.nd rfl (Or.inl rfl) (zw jb8 (zw jb8 (zw juq jl (pv 1)) jl) (jm (jz T) hr.dn rfl T.j8 T.j5.kp T.j7 .nil jo (@va _ _ _ _ _ (pv 0) jl rfl rfl))))
  (@jb _ _ _ _ _ (j9 (i:=3) yg.nd rfl (Or.inr rfl) (jm (jm1 T) hr.dn rfl T.jjo T.jfn.kp T.jjn .nil jo (@jmm _ _ _ _ _ _ _ (pv 0) (pv 2) (pv 1) rfl rfl rfl)))
  (@jb _ _ _ _ _ (ju8 (i:=4) yg.nd rfl rfl (N':=["_law_k","_law_town_here"]) (ix:=[none,some 0]) (x8 (by kernel_rfl)) rfl (je3 rfl T.jju (jc (zw jb8 jl (jm (jz T) hr.dn rfl T.j8 T.j5.kp T.j7 .nil jo (@va _ _ _ _ _ (pv 0) jl rfl rfl))) jg)) (λ_ _ _ _=>(jv (i:=0) j80 rfl (Or.inl rfl) (.inr rfl))) (λ_ _ _ _=>jl9) (λ_ _ _ _=>(jm (zm T) hr.dn rfl T.zx T.zi.kp T.xf .nil jo (@va _ _ _ _ _ (pv 1) (@zd _ _ _ _ (@j5g _ _ _ _ _ _ _ _ _ _ _ jl jl jl jl (jm (jz T) hr.dn rfl T.j8 T.j5.kp T.j7 .nil jo (@va _ _ _ _ _ (pv 1) jl rfl rfl)) rfl rfl rfl rfl rfl)) rfl rfl))))
  (@jb _ _ _ _ _ (j9 (i:=5) yg.nd rfl (Or.inl rfl) (jm (jm1 T) hr.dn rfl T.jjo T.jfn.kp T.jjn .nil jo (@jmm _ _ _ _ _ _ _ (pv 0) (jq ju rfl T.jch boot_len (jc (pv 4) jg)) jl rfl rfl rfl)))
  (@jb _ _ _ _ _ (j9 (i:=6) yg.nd rfl (Or.inl rfl) (jzi T.juk (jl1 T) hr.dn rfl T.jwl T.jd8 jo (jc (pv 2) jg) (jdu (pv 1) (jdu (pv 4) (jdu (pv 3) (jdu (pv 5) jo5))))))
  (@jd _ _ _ (j6 (@jhm _ _ _ _ _ (@j8r _ _ _ _ _ _ _ _ _ _ _ _ _ _ _ (pv 6) (pv 2) (pv 1) (pv 3) (ja3 (N':=["_law_k","_law_foes"]) (ix:=[none,some 3]) (x8 (by kernel_rfl)) rfl (je3 rfl T.jju (jc (pv 2) jg)) (λ_ _ _ _=>(jv (i:=0) j8q rfl (Or.inl rfl) (.inr rfl))) (λ_ _ _ _=>(jjh (jx (jkx (K:=K) rfl) (pv 0) (pv 1) (by with_unfolding_all rfl)))) (λ_ _ _ _=>(pv 0))) (pv 4) (pv 5) rfl rfl rfl rfl rfl rfl rfl)))))))))),?_⟩
 refine ⟨_,rfl,To,R,3,rfl,S.tn,by decide,by decide,λf H1 f0 f1 hT1 k1=>?_⟩
 obtain ⟨S1,r1⟩:=S.draw hT1 k1
 refine ⟨_,rfl,_,_,rfl,rfl,.inl ⟨by decide,by decide⟩,_,_,rfl,rfl,_,rfl,To,R,2,rfl,S1.tn,by decide,by decide,λd H2 d0 d1 hT2 k2=>?_⟩
 obtain ⟨S2,r2⟩:=S1.draw hT2 k2
 have F2:=r1.trans r2
 obtain ⟨h,eh⟩ : ∃ h:Int,h = 3 * f + 1 + d:=⟨_,rfl⟩
 refine ⟨_,_,rfl,rfl,?_⟩
 dsimp only
 rw [<- eh]
 have h1 : 1 <= h:=by omega
 have h8:h <= 16:=by omega
 have h8':h <= 8:=by omega
 have lt : 3 * f < h:=by omega
 refine ⟨_,rfl,_,rfl,_,rfl,To,R,h,f,rfl,S2.tn,by omega,by omega,λfo ls H3 nfo hT3 k3 hfo upl rgl lnl=>?_⟩
 rw [if_pos f0] at lnl
 obtain ⟨S3,r3⟩:=S2.draw hT3 k3
 have F3:=F2.trans r3
 have U3:Un H3 Z fo (ls.map V.int):=⟨hfo,S2.kr.none nfo⟩
 show jlu 3 (.ref fo) [some (.ref To),some (.int f),some (.int h),none,none,none,none] H3 _
 refine ⟨_,rfl,To,R,3,rfl,S3.tn,by decide,by decide,λc H4 c0 c1 hT4 k4=>?_⟩
 obtain ⟨S4,r4⟩:=S3.draw hT4 k4
 have U4:=U3.fr r4
 have F4:=F3.trans r4
 refine ⟨_,_,rfl,rfl,2 + c,rfl,by omega,by omega,jul (lo:=0) (n:=(2 + c).toNat) (λi ys U H'=>∃ v zs,U = [v,some (.ref To)] /\ ys = (zs:List Int).map V.int /\ zs.length = i /\ (∀ z ∈ zs,0 <= z /\ z <= 1000) /\ Tw H' Z To R /\ Fr jn7 Z H4 Z H') ⟨none,[],rfl,rfl,rfl,(λ_ z=>by cases z),S4,Fr.refl⟩ ?_ ?_ ?_⟩
 .rintro i ys U H' hi ⟨v,zs,rfl,rfl,lz,_⟩
  rw [length_map]
  exact j5f (by omega)
 .rintro i ys U H' hi ⟨v,zs,rfl,rfl,lz,rz,S5,r5⟩
  dsimp only [jlu,j2a]
  rw [if_pos rfl]
  refine ⟨_,rfl,_,rfl,To,R,40,rfl,S5.tn,by decide,by decide,λm H6 m0 m1 hT6 k6=>?_⟩
  obtain ⟨S6,r6⟩:=S5.draw hT6 k6
  refine ⟨zs5,λl nl=>?_⟩
  have s7:=jf (o:=.lst ([0,5,20,1000,m].map V.int)) nl
  have S7:=S6.same s7
  obtain ⟨n1,n2⟩:=S6.tn.fresh nl
  refine ⟨To,R,l,[0,5,20,1000,m].map V.int,rfl,S7.tn,ja,n1,n2,by show 0 < 5; decide,by show 5 <= 1000000; decide,λj x H8 ex hT8 k8=>?_⟩
  obtain ⟨S8,r8⟩:=S7.draw hT8 k8
  obtain ⟨z,hz,rfl⟩:=int_at ex
  refine ⟨_,zs ++ [z],rfl,by rw [map_append]; rfl,by rw [length_append,lz]; rfl,λy hy=>?_,S8,(r5.trans r6).trans ((Fr.same s7).trans r8)⟩
  rcases mem_append.mp hy with hy | hy
  .exact rz y hy
  .rw [mem_singleton.mp hy]
   simp only [mem_cons,not_mem_nil,or_false] at hz
   rcases hz with rfl | rfl | rfl | rfl | rfl <;> omega
 rintro ys U H5 ⟨v,ns,rfl,rfl,lz,rz,S5,r5⟩ be nbe
 have s6:=jf (o:=.lst (ns.map V.int)) nbe
 have S6:=S5.same s6
 have Ube:Un (upd H5 be (.lst (ns.map V.int))) Z be (ns.map V.int):=⟨ja,S5.kr.none nbe⟩
 have Ufo:Un (upd H5 be (.lst (ns.map V.int))) Z fo (ls.map V.int):=(U4.fr r5).fr (P:=λ_=>False) (Fr.same s6)
 have F6:Fr jn7 Z H Z (upd H5 be (.lst (ns.map V.int))):=(F4.trans r5).trans (Fr.same s6)
 generalize upd H5 be (.lst (ns.map V.int)) = H6 at S6 Ube Ufo F6
 show jlu 4 (.ref be) [some (.ref To),some (.int f),some (.int h),some (.ref fo),none,none,none] H6 _
 refine ⟨_,rfl,_,rfl,be,_,rfl,.inl (SqL.of Ube.1),?_⟩
 rw [length_map]
 refine ⟨To,R,(ns.length:Int),2,rfl,S6.tn,by omega,by omega,λro cs H7 nro hT7 k7 hro upc rgc lnc=>?_⟩
 rw [if_pos (by decide)] at lnc
 obtain ⟨S7,r7⟩:=S6.draw hT7 k7
 have Uro:Un H7 Z ro (cs.map V.int):=⟨hro,S6.kr.none nro⟩
 have Ube7:=Ube.fr r7
 have Ufo7:=Ufo.fr r7
 have F7:=F6.trans r7
 show jlu 5 (.ref ro) [some (.ref To),some (.int f),some (.int h),some (.ref fo),some (.ref be),none,none] H7 _
 refine ⟨_,rfl,_,rfl,_,rfl,_,rfl,_,rfl,λx dx nx ndx ne=>?_⟩
 obtain ⟨fm,krm⟩:=j24 (C:=t.jy) nx ndx ne (r:=(0,.x)) S7.kr
 have Ube8:=Ube7.fr fm
 have Ufo8:=Ufo7.fr fm
 have Uro8:=Uro.fr fm
 have ln:ns.length = (2 + c).toNat:=lz
 refine ⟨jar Z x (0,.x),0,x,dx,h,f,be,ns,fo,ro,cs,ls,rfl,ja,za,krm,⟨h1,h8⟩,⟨f0,by omega⟩,lt,Ube8.1,(λr hr=>by rw [Ube8.2] at hr; cases hr),by omega,by omega,rz,.inl ⟨Ufo8.1,λr hr=>by rw [Ufo8.2] at hr; cases hr⟩,upl,rgl,lnl,.inl ⟨Uro8.1,λr hr=>by rw [Uro8.2] at hr; cases hr⟩,upc,rgc,λZ' H8 W ex etot O ly f8 kr8=>⟨rfl,?_⟩⟩
 have gn:=j6r (cs:=cs) ⟨h1,h8'⟩ f0 lt (by omega:ns.length <= 8) (λx hx=>(rz x hx).1) lnl rgl upl
 have ek:(w0 h f ns cs ls).ks.map (·.1) = jbz ls h.toNat:=by
  show ((jbz ls h.toNat).map λi=>(i,kp0 ns)).map (·.1) = _
  rw [map_map]
  exact List.map_id _
 have lk:(jbz ls h.toNat).length = (w0 h f ns cs ls).ks.length:=by rw [<- ek,length_map]
 have k0:=gn.ok.k0
 have k1:=gn.ok.k1
 obtain ⟨tn8,tr8⟩:=joy f8 (λz=>by cases z) (λz=>by cases z) (S7.tn.same (λb u e=>(fm b u e (λ_ _ z=>z)).1)) ⟨by rw [xh (S7.tn.fresh nx).1.symm]; exact S7.tr.1,by rw [xh (S7.tn.fresh nx).2.symm]; exact S7.tr.2⟩
 have S8:Sw t H8 Z' W (w0 h f ns cs ls) 0 0 ⟨ns,cs,ls,jbz ls h.toNat⟩ To R:=⟨⟨O,kr8,ly,⟨[],gn⟩,rfl,rfl,ek,etot⟩,tn8,tr8⟩
 have Ube9:=Ube8.fr f8
 have Ufo9:=Ufo8.fr f8
 have Uro9:=Uro8.fr f8
 show jlu 6 (V.ref x) [some (.ref To),some (.int f),some (.int h),some (.ref fo),some (.ref be),some (.ref ro),none] H8 _
 refine ⟨_,rfl,_,rfl,_,rfl,_,rfl,_,rfl,h,rfl,by omega,by omega,jul (lo:=0) (n:=h.toNat) (λi ys U H'=>∃ v,U = [v,some (.ref fo)] /\ H' = H8 /\ ys = (jbz ls i).map V.int) ⟨none,rfl,rfl,rfl⟩ ?_ ?_ ?_⟩
 .rintro i ys U H' hi ⟨v,rfl,rfl,rfl⟩
  rw [length_map]
  have:=jnn ls i
  exact j5f (by omega)
 .rintro i ys U H' hi ⟨v,rfl,rfl,rfl⟩
  have e0:(0:Int) + (i:Int) = i:=Int.zero_add _
  rw [e0]
  refine ⟨_,rfl,_,rfl,fo,_,rfl,.inl (SqL.of Ufo9.1),rfl,jbc _,_,rfl,?_⟩
  rw [if_pos rfl,kb]
  by_cases z:(i:Int) ∈ ls
  .rw [decide_eq_true z]
   refine gq ⟨_,rfl,rfl,?_⟩
   rw [jkp,if_pos z,append_nil]
  .rw [decide_eq_false z]
   refine jlq ⟨_,rfl,_,rfl,rfl,?_⟩
   rw [jkp,if_neg z,map_append]
   rfl
 rintro ys U H9 ⟨v,rfl,rfl,rfl⟩ ho nho
 have s10:=jf (o:=.lst ((jbz ls h.toNat).map V.int)) nho
 refine ⟨_,rfl,_,rfl,zs7,λpa npa=>?_⟩
 have s11:=jf (o:=.tup [.ref x,.int h,.int f,.ref fo,.ref ho,.ref be,.ref ro]) npa
 have fs:Fr (λ_=>False) Z' H9 Z' _:=Fr.same (s10.trans s11)
 have S11:=(S8.same s10).same s11
 refine k Z' _ W _ pa h f fo ho be ro _ ⟨by show 2 <= ns.length; omega,by show ns.length <= 8; omega,rgc,by show cs.length <= 1000; omega,by show ls.length <= 5; omega,by show 0 < (jbz ls h.toNat).length; omega,by show (jbz ls h.toNat).length <= 16; omega⟩ S11 ⟨⟨?_,(S8.same s10).w.kr.none npa⟩,Ufo9.fr fs,⟨s11 _ _ ja,S8.w.kr.none nho⟩,Ube9.fr fs,Uro9.fr fs⟩
 rw [ex]
 exact ja
theorem jmb (T:Txt K mg t) : xo P w K mg base CX0 1 t.jb2 t.jb1 ["self"] (λvs H Q _=>∃ Z id W Y,vs = [.ref W.x] /\ qm t H Z id W Y /\ Q (.bl (decide (Y.way = []))) H):=by
 refine T.jf6.okB (N:=["self"]) λ_ A _ s H vs Q E hr h=>?_
 obtain ⟨Z,id,W,Y,rfl,O,k⟩:=h
 refine ⟨_,(@jd _ _ _ (j6 (j2i (qb (pv 0) rfl)))),?_⟩
 obtain ⟨rw_,xs,hw,pw⟩:=O.wy
 refine ⟨_,rfl,W.x,_,W.dx,_,_,rfl,O.ob.1,T.ji,T.qq,jaw,_,.inl ⟨xs,SqL.of hw,rfl⟩,?_⟩
 have e : ∀ {ys:List _},Paired (jgk H Z) xs ys -> (! !xs.isEmpty) = decide (ys = []):=λq=>by
  cases q with
  | nil=>rfl
  | cons _ _=>simp
 rw [e pw]
 exact k
theorem Sw.up {t:Ad} {H:Hp} {Z : Rho} {W:WA} {Y : Wd} {T F F2:Nat} {p:Pt} {To R:Addr} (hF:F <= F2) (x:Sw t H Z W Y T F p To R) : Sw t H Z W Y T F2 p To R:=⟨⟨x.w.o,x.w.kr,x.w.ly,let ⟨L,g⟩:=x.w.g; ⟨L,g.mono (le_refl _) hF⟩,x.w.n,x.w.c,x.w.h,x.w.tot⟩,x.tn,x.tr⟩
def jvo (t:Ad) : Sp:=λvs H Q _=>∃ Z W Y T p To R,vs = [.ref To,.ref W.x] /\ Sw t H Z W Y T (30 * T) p To R /\ p.ls.length <= 5 /\ T <= 40 /\
 ∀ Z' H' Y',Sw t H' Z' W Y' T (30 * T) p To R -> Fr jwh Z H Z' H' -> Y'.asked = Y.asked -> Y'.way = [] -> Q (.bl true) H'
set_option maxHeartbeats 0 in
theorem jne (T:Txt K mg t) : xo P w K mg base CX0 10 t.jcu t.jc7 ["_law_town_here","_law_world_here"] (jvo t):=by
 refine T.jdj.okA jgf λ_ A _ s H vs Q E hr h=>?_
 obtain ⟨Z,W,Y,T',p,To,R,rfl,S,l5,hT,k⟩:=h
 refine ⟨_,(@jb _ _ _ _ _ (jk0 PassesOwn.never rfl (je3 rfl T.jju (jc jl jg)) (jv (i:=2) jgf.nd rfl (Or.inl rfl)) (@jd _ _ _ (zl (jx j0n (jm (jiv T) hr.dn rfl T.jfj T.jcj.kp T.jft .nil jo (@va _ _ _ _ _ (pv 0) (pv 1) rfl rfl)) jon (qf _)) (@jd _ _ _ (j6 (jcw j4c (xu (pv 1) T.ji T.je9 (jmb T) hr.dn T.jfz .nil jo) jih (qf _)))) qc)))
  (@jd _ _ _ (j6 jih))),?_⟩
 refine ⟨1500,rfl,by decide,by decide,jpe (lo:=0) (n:=1500) (λi U H'=>∃ v Z' Y' F,U = [some (.ref To),some (.ref W.x),v] /\ Sw t H' Z' W Y' T' F p To R /\ F + i <= 30 * T' /\ Fr jwh Z H Z' H' /\ Y'.asked = Y.asked) ⟨none,Z,Y,_,rfl,S,by omega,Fr.refl,rfl⟩ ?_ ?_⟩
 .rintro i U H1 hi ⟨v,Z1,Y1,F,rfl,S1,hF,f1,kd⟩
  refine ⟨_,rfl,_,rfl,Z1,W,Y1,T',F,p,To,R,rfl,S1,l5,by omega,by omega,λew H2 S2 f2=>?_,λF0 Z2 H2 Y2 a S2 f2 kd2=>?_⟩
  .refine ⟨rfl,_,rfl,jlq ?_⟩
   refine ⟨_,rfl,W.x,W.dx,_,rfl,S2.w.o.ob.1,qx,Z1,0,W,Y1,rfl,S2.w.o,_,_,rfl,rfl,?_⟩
   rw [decide_eq_true ew]
   exact k Z1 H2 Y1 (S2.up (by omega)) (f1.trans f2) kd ew
  .exact ⟨rfl,_,rfl,gq ⟨_,Z2,Y2,F - 1,rfl,S2,by omega,f1.trans f2,kd2.trans kd⟩⟩
 .rintro U H1 ⟨v,Z1,Y1,F,rfl,S1,hF,f1,kd⟩
  omega
theorem gf (T:Txt K mg t) : xo P w K mg base CX0 4 t.kn t.kj ["self","purse"] (λvs H Q _=>∃ Z id W Y p row,vs = [.ref W.x,.int p] /\ qm t H Z id W Y /\ 0 <= p /\ p < (Y.n:Int) /\ Y.asked[p.toNat]? = some row /\ Q (.int (row.length:Int)) H):=by
 refine T.jds.okB (N:=["self","purse"]) λ_ A _ s H vs Q E hr h=>?_
 obtain ⟨Z,id,W,Y,p,row,rfl,O,p0,p1,erow,k⟩:=h
 refine ⟨_,(@jb _ _ _ _ _ (qa (qd (pv 0) T.ji T.xp (gg T) hr.dn T.yn .nil jo (jc (pv 1) jg)))
  (@jd _ _ _ (j6 (jq ju rfl T.jch boot_len (jc (jbn pf (qb (pv 0) rfl) (pv 1) (λ_ _=>rfl)) jg))))),?_⟩
 obtain ⟨ra,rs,ha,hrows⟩:=O.ak
 obtain ⟨r,er⟩ : ∃ r,rs[p.toNat]? = some r:=⟨_,getElem?_eq_getElem (by rw [hrows.1]; exact (List.getElem?_eq_some_iff.mp erow).1)⟩
 obtain ⟨rr,xs,hr0,px⟩:=hrows.2 _ _ _ er erow
 refine ⟨_,rfl,W.x,W.dx,_,rfl,O.ob.1,qx,_,rfl,Z,id,W,Y,p,rfl,O,p0,p1,?_⟩
 refine ⟨_,rfl,W.x,_,W.dx,_,_,rfl,O.ob.1,T.ji,T.gm,job,_,rfl,W.ak,_,p,.ref r,rfl,rfl,SqL.of ha,jiu p0 (by rw [getElem?_map,er]; rfl),r,xs,rfl,.inl (SqL.of hr0),?_⟩
 rw [Paired.length px]
 exact k
abbrev lsg (a To pa x:Addr) (cr few:Int) (fo ho be ro:Addr) (l:List (Option V)) : St:=[some (.ref a),some (.ref To),some (.ref pa),some (.ref x),some (.int cr),some (.int few),some (.ref fo),some (.ref ho),some (.ref be),some (.ref ro)] ++ l
theorem Ps.same {Z : Rho} {H H':Hp} {pa x fo ho be ro:Addr} {jbz few:Int} {p:Pt} (s:gh H H') (h:Ps H Z pa x jbz few fo ho be ro p) : Ps H' Z pa x jbz few fo ho be ro p:=h.fr (P:=λ_=>False) (Fr.same s)
theorem joh {k:List Int} : ∀ {is:xw},jr is k = [] \/ ∃ x ∈ is,x.1 = k /\ jr is k = x.2
 | []=>.inl rfl
 | p :: ps=>by
  unfold jr
  split
  .rename_i z
   exact .inr ⟨p,mem_cons_self,z,rfl⟩
  .rcases joh (k:=k) (is:=ps) with h | ⟨x,hx,e⟩
   .exact .inl h
   .exact .inr ⟨x,mem_cons_of_mem _ hx,e⟩
theorem Gz.j37 {Y : Wd} {T M:Nat} {L:List O} {ls ns:List Int} (g:Gz Y T M L ls ns) {o:O} (h : Y.carried o = true) : yw o ∈ xq Y.bd Y.en:=by
 have h1:=of_decide_eq_true h
 have h2:=g.e1
 rcases joh (k:=yw o) (is:=Y.bd) with e | ⟨x,hx,ek,e⟩
 .rw [e] at h1
  have : Y.en <= 0:=h1
  omega
 .rw [<- ek]
  exact mem_map_of_mem (mem_filter.mpr ⟨hx,by rw [<- e]; exact h⟩)
theorem jzf {xs:List V} {k:Nat} (h:k <= xs.length) : j3d xs (some (k:Int)) none = xs.drop k:=by
 unfold j3d
 rw [HT.j1o,HT.jzt,Nat.min_eq_left h]
 exact List.take_of_length_le (by rw [List.length_drop]; omega)
theorem jok {α β : Type} {F : α -> β -> Prop} : ∀ (k:Nat) {xs:List α} {ys:List β},Paired F xs ys -> Paired F (xs.drop k) (ys.drop k)
 | 0,_,_,h=>h
 | k + 1,_,_,.nil=>.nil
 | k + 1,_,_,.cons _ t=>jok k t
def jxv (K:W.Frag) : Sp:=λvs H Q _=>∃ (a:Addr) (ns:List Int),vs = [.ref a] /\ SqL K H a (ns.map V.int) /\ ns.length <= 63 /\ ∀ H',Q (.bl true) H'
set_option maxHeartbeats 0 in
theorem j43 (T:Txt K mg t) : xo P w K mg base CX0 12 t.j14 t.j1h ["_law_script"] (jxv K):=by
 refine T.j35.okA (k:=11) wz λ_ A _ s H vs Q E hr h=>?_
 obtain ⟨a,ns,rfl,hS,hn,k⟩:=h
 refine ⟨_,(@jb _ _ _ _ _ (j9 (i:=1) wz.nd rfl (Or.inl rfl) (jm (jsu T) hr.dn rfl T.jod T.jjq.kp T.jpg .nil jo (jc (pv 0) jg)))
  (@jb _ _ _ _ _ (j9 (i:=2) wz.nd rfl (Or.inl rfl) (jm (jrm T) hr.dn rfl T.jmo T.jhr.kp T.jmr .nil jo (jc (pv 1) jg)))
  (@jb _ _ _ _ _ (jmn (pv 2) (jqd rfl (qe (jv (i:=3) wz.nd rfl (Or.inr rfl)) (qe (jv (i:=4) wz.nd rfl (Or.inl rfl)) (qe (jv (i:=5) wz.nd rfl (Or.inl rfl)) (qe (jv (i:=6) wz.nd rfl (Or.inl rfl)) (qe (jv (i:=7) wz.nd rfl (Or.inl rfl)) (qe (jv (i:=8) wz.nd rfl (Or.inl rfl)) (qe (jv (i:=9) wz.nd rfl (Or.inl rfl)) jlm)))))))))
  (@jb _ _ _ _ _ (j9 (i:=10) wz.nd rfl (Or.inl rfl) (jq ju rfl T.jch boot_len (jc (pv 8) jg)))
  (@jb _ _ _ _ _ (@j9 _ _ 11 _ _ _ _ wz.nd rfl (Or.inl rfl) (@zd _ _ _ _ jg) (by rfl) (by first | exact .inl rfl | exact .inr rfl))
  (@jb _ _ _ _ _ (jk0 PassesOwn.never rfl (je3 rfl T.jju (jc jl jg)) (jv (i:=12) wz.nd rfl (Or.inl rfl)) (@jd _ _ _ (zl (jx jnf (jm (jz T) hr.dn rfl T.j8 T.j5.kp T.j7 .nil jo (@va _ _ _ _ _ (pv 1) jl rfl rfl)) jl (qf _)) (@jb _ _ _ _ _ (j9 (i:=13) wz.nd rfl (Or.inl rfl) (jm (jz T) hr.dn rfl T.j8 T.j5.kp T.j7 .nil jo (@va _ _ _ _ _ (pv 1) (pv 10) rfl rfl)))
  (@jb _ _ _ _ _ (j9 (i:=14) wz.nd rfl (Or.inl rfl) (zw ji4 (zw jb8 (zw jb8 (pv 13) jl) (jm (jz T) hr.dn rfl T.j8 T.j5.kp T.j7 .nil jo (@va _ _ _ _ _ (pv 1) (zw ji0 (pv 10) jl) rfl rfl))) (pv 10)))
  (@jb _ _ _ _ _ (j9 (i:=15) wz.nd rfl (Or.inl rfl) (jq ju rfl T.jch boot_len (jc (xu (pv 3) T.ji T.ze (xi T) hr.dn T.xc .nil jo) jg)))
  (@jb _ _ _ _ _ (j9 (i:=16) wz.nd rfl (Or.inl rfl) (qd (pv 3) T.ji T.xt (gf T) hr.dn T.yo .nil jo (jc (pv 13) jg)))
  (@jb _ _ _ _ _ (j9 (i:=17) wz.nd rfl (Or.inl rfl) (zw jb8 jl (jm (jz T) hr.dn rfl T.j8 T.j5.kp T.j7 .nil jo (@va _ _ _ _ _ (pv 1) jl rfl rfl))))
  (@jb _ _ _ _ _ (j9 (i:=18) wz.nd rfl (Or.inr rfl) (jm (jgz T) hr.dn rfl T.jfw T.jdi.kp T.jfm .nil jo (@j5g _ _ _ _ _ _ _ _ _ _ _ y7 (pv 3) (pv 13) (pv 14) (pv 17) rfl rfl rfl rfl rfl)))
  (@jd _ _ _ (zl (jx (j45 hr.units) (pv 18) (@jhm _ _ _ _ _ (@jmm _ _ _ _ _ _ _ y7 y7 y7 rfl rfl rfl)) (by with_unfolding_all rfl)) (@jd _ _ _ (zl (PW.pt (jif (jx jvh (jq ju rfl T.jch boot_len (jc (xu (pv 3) T.ji T.ze (xi T) hr.dn T.xc .nil jo) jg)) (pv 15) (qf _)) (jd7 (jx jvh (qd (pv 3) T.ji T.xt (gf T) hr.dn T.yo .nil jo (jc (pv 13) jg)) (pv 16) (qf _))))) (@jd _ _ _ (j6 jih)) qc)) (@jd _ _ _ (zl (PW.pt (jif (jx (jkq hr.units) (pv 18) (@jhm _ _ _ _ _ (@j5l _ _ _ _ _ _ _ _ _ (pv 13) (pv 16) (pv 14) (pv 17) rfl rfl rfl rfl)) (qf _)) (jif (jx jk9 (pv 13) (pv 9) (by with_unfolding_all rfl)) (jd7 (ye (zo (jq jdf rfl T.j3 boot_isinstance (@va _ _ _ _ _ (pv 18) (jg0 (v:=.ty "tuple") rfl T.jqp boot_tuple rfl) rfl rfl)))))))) (@jd _ _ _ (j6 jih)) (@jb _ _ _ _ _ (qa (jij PySem.F.plainAttrs_list PySem.F.slot_list_append PySem.F.type_list_append yr (pv 11) (jc (pv 18) jg)))
  (@jd _ _ _ (zl (jx (jkq hr.units) (jy4 j19 (xu (pv 3) T.ji T.ze (xi T) hr.dn T.xc .nil jo) (j2f (pv 15)) j1x) (ja3 (N':=["_law_house","_law_told_here"]) (ix:=[none,some 18]) (x8 (by kernel_rfl)) rfl (@jav _ _ _ _ (pv 7)) (λ_ _ _ _=>(jv (i:=0) j5r rfl (Or.inl rfl) (.inr rfl))) (λ_ _ _ _=>jl9) (λ_ _ _ _=>(@jhm _ _ _ _ _ (@jmm _ _ _ _ _ _ _ y7 (pv 0) (pv 1) rfl rfl rfl)))) (qf _)) (@jd _ _ _ (j6 jih)) qc))))))))))))) (@jd _ _ _ (qa (jm (jwc T) hr.dn rfl T.jr3 T.joj.kp T.jr7 .nil jo (@jmm _ _ _ _ _ _ _ (pv 1) (pv 2) jl rfl rfl rfl)))))))
  (@jb _ _ _ _ _ (ju8 (i:=11) wz.nd rfl rfl (N':=["_law_order_here"]) (ix:=[none]) (x8 (by kernel_rfl)) rfl (@jav _ _ _ _ (pv 11)) (λ_ _ _ _=>(jv (i:=0) j6s rfl (Or.inl rfl) (.inr rfl))) (λ_ _ _ _=>jl9) (λ_ _ _ _=>(pv 0)))
  (@jb _ _ _ _ _ (zl (ye (zo (jm (jne T) hr.dn rfl T.jhp T.jdj.kp T.jgl .nil jo (@va _ _ _ _ _ (pv 1) (pv 3) rfl rfl)))) (@jd _ _ _ (j6 jih)) qc)
  (@jb _ _ _ _ _ (jk0 PassesOwn.never rfl (@jav _ _ _ _ (pv 7)) (jv (i:=19) wz.nd rfl (Or.inl rfl)) (@jb _ _ _ _ _ (j9 (i:=20) wz.nd rfl (Or.inr rfl) (qd (pv 3) T.ji T.jf1 (jnb T) hr.dn T.jgo .nil jo (jc (pv 19) jg)))
  (@jd _ _ _ (zl (jx (jkq hr.units) (ja3 (N':=["_law_order_here","_law_done"]) (ix:=[none,some 20]) (x8 (by kernel_rfl)) rfl (@jav _ _ _ _ (pv 11)) (λ_ _ _ _=>(jv (i:=0) j6w rfl (Or.inl rfl) (.inr rfl))) (λ_ _ _ _=>(jjh (jx (jqa (K:=K) rfl hr.units) (pv 0) (pv 1) (by with_unfolding_all rfl)))) (λ_ _ _ _=>(pv 0))) (@zd _ _ _ _ jg) (qf _)) (@jd _ _ _ (j6 jih)) qc))))
  (@jd _ _ _ (j6 (jmu (jcw (j06 hr.units) (ja3 (N':=["_law_order_here","_law_world_here"]) (ix:=[none,some 3]) (x8 (by kernel_rfl)) rfl (@jav _ _ _ _ (pv 11)) (λ_ _ _ _=>(jv (i:=0) j8m rfl (Or.inl rfl) (.inr rfl))) (λ_ _ _ _=>(jjh (jx (jqa (K:=K) rfl hr.units) (pv 0) (xu (pv 1) T.ji T.ur (jcn T) hr.dn T.ja4 .nil jo) (by with_unfolding_all rfl)))) (λ_ _ _ _=>(pv 0))) (@zd _ _ _ _ jg) (qf _)) (jop (jcw (j06 hr.units) (ja3 (N':=["_law_k","_law_world_here"]) (ix:=[none,some 3]) (x8 (by kernel_rfl)) rfl (@jav _ _ _ _ (pv 9)) (λ_ _ _ _=>(jv (i:=0) j8u rfl (Or.inl rfl) (.inr rfl))) (λ_ _ _ _=>(jjh (jx jvh (qd (pv 1) T.ji T.xt (gf T) hr.dn T.yo .nil jo (jc (pv 0) jg)) jl (qf _)))) (λ_ _ _ _=>(pv 0))) (@zd _ _ _ _ jg) (qf _))))))))))))))),?_⟩
 refine je6 λN hN=>⟨_,rfl,a,ns,rfl,hS,λTo R H1 nT nR s1 hT=>?_⟩
 have hTR:To ≠ R:=hT.ne
 obtain ⟨Z0,hZ0⟩ : ∃ Z0:Rho,Z0 = jar (jar (λ_=>none) R (9,.own 1)) To (9,.own 0):=⟨_,rfl⟩
 have S0:Tw H1 Z0 To R:=by
  obtain ⟨row,c,t1,t2,t3⟩:=hT
  refine ⟨?_,⟨row,c,t1,t2,t3⟩,?_⟩
  .rw [hZ0]
   exact OkR.jar (OkR.jar (λ_ _ z=>by cases z) t2 True.intro) t1 True.intro
  .rw [hZ0]
   exact ⟨za,by rw [xh hTR.symm,za]⟩
 refine hN _ _ (je6 λN hN=>⟨_,rfl,Z0,To,R,rfl,S0,λZ1 H2 W Y0 pa cr few fo ho be ro p ok S1 B1=>?_⟩)
 refine hN _ _ (je6 λN hN=>⟨_,rfl,pa,_,rfl,SqT.of B1.tp.1,rfl,_,_,rfl,_,_,rfl,_,_,rfl,_,_,rfl,_,_,rfl,_,_,rfl,_,_,rfl,rfl,?_⟩)
 refine hN _ _ (je6 λN hN=>⟨_,rfl,be,_,rfl,.inl (SqL.of B1.be.1),?_⟩)
 rw [length_map]
 refine hN _ _ (je6 λN hN=>⟨zs0,λak nak=>?_⟩)
 have l2:=ok.l2
 have l8:=ok.l8
 have f0:Fr (λ_=>False) Z1 H2 (jar Z1 ak (9,.own 5)) (upd H2 ak (.lst [])):=Fr.jln nak
 have S2:Sw t (upd H2 ak (.lst [])) (jar Z1 ak (9,.own 5)) W Y0 0 0 p To R:=⟨S1.w.fr f0 (λ_ z=>z) S1.w.kr.jln,(joy f0 (λz=>z) (λz=>z) S1.tn S1.tr).1,(joy f0 (λz=>z) (λz=>z) S1.tn S1.tr).2⟩
 have B2:=B1.fr f0
 have nO : ¬ jwh (9,.own 5):=λz=>by
  rcases z with z | z | z
  .cases z
  .cases z
  .cases z
 have nT5 : ¬ jn7 (9,.own 5):=λz=>nO (.inr z)
 refine hN (lsg a To pa W.x cr few fo ho be ro [some (.int (p.ns.length:Int)),some (.ref ak),none,none,none,none,none,none,none,none,none]) _ (je6 λN hN=>⟨40,rfl,by decide,by decide,jpe (lo:=0) (n:=40) (λi U H'=>∃ Z Y vs os v1 v2 v3 v4 v5 v6 v7,U = lsg a To pa W.x cr few fo ho be ro [some (.int (p.ns.length:Int)),some (.ref ak),v1,v2,v3,v4,v5,v6,v7,none,none] /\ Sw t H' Z W Y i (30 * i) p To R /\ Ps H' Z pa W.x cr few fo ho be ro p /\ (H' ak = some (.lst vs) /\ Z ak = some (9,.own 5)) /\ Paired (qr H' Z) vs os /\ (∀ o ∈ os,∃ row ∈ Y.asked,o ∈ row) /\ vs.length <= i) ⟨_,Y0,[],[],none,none,none,none,none,none,none,rfl,S2,B2,⟨ja,za⟩,.nil,(λ_ z=>by cases z),le_refl _⟩ ?_ ?_⟩)
 .rintro i U H3 hi ⟨Z,Y,vs,os,v1,v2,v3,v4,v5,v6,v7,rfl,S3,B3,A3,pv,hos,lv⟩
  refine ⟨_,rfl,To,R,3,rfl,S3.tn,by decide,by decide,λd0 H4 d00 d01 hT4 k4=>?_⟩
  obtain ⟨S4,f4⟩:=S3.draw hT4 k4
  have B4:=B3.fr f4
  have A4:=jbo f4 A3.1 A3.2 nT5
  have pv4:Paired (qr H4 Z) vs os:=Paired.vb pv λ_ _=>qr.fr f4
  refine ⟨rfl,_,rfl,jhq (λ_=>?_) (λ_=>?_)⟩
  rotate_left
  .refine ⟨_,rfl,_,rfl,Z,W,Y,i,p,To,R,pa,cr,few,fo,ho,be,ro,6,rfl,S4,B4,ok,by omega,λZ5 H5 Y5 v S5 f5 as=>?_⟩
   exact ⟨Z5,Y5,vs,os,_,v2,v3,v4,v5,v6,v7,rfl,S5,B4.fr f5,jbo f5 A4.1 A4.2 nO,Paired.vb pv4 λ_ _=>qr.fr f5,λo ho=>as o (hos o ho),by omega⟩
  refine je6 λG hG=>⟨_,rfl,_,rfl,To,R,(p.ns.length:Int),rfl,S4.tn,by omega,by omega,λpu H5 pu0 pu1 hT5 k5=>?_⟩
  obtain ⟨S5,f5⟩:=S4.draw hT5 k5
  refine hG _ _ (je6 λG hG=>⟨_,rfl,_,_,rfl,rfl,_,rfl,_,rfl,_,_,rfl,rfl,To,R,(p.ns.length:Int) - 1,rfl,S5.tn,by omega,by omega,λd H6 d0 d1 hT6 k6=>?_⟩)
  obtain ⟨S6,f6⟩:=S5.draw hT6 k6
  obtain ⟨g0,g1,g2⟩:=j17 pu0 pu1 d0 d1
  refine ⟨_,_,rfl,rfl,_,rfl,_,_,rfl,rfl,(by show (0:Int) < (p.ns.length:Int); omega),?_⟩
  obtain ⟨gl,egl⟩ : ∃ gl:Int,gl = (pu + 1 + d) % (p.ns.length:Int):=⟨_,rfl⟩
  obtain ⟨L,gn⟩:=S6.w.g
  have wl:=gn.way
  refine hG (lsg a To pa W.x cr few fo ho be ro [some (.int (p.ns.length:Int)),some (.ref ak),some (.int (0 + (i:Int))),some (.int pu),some (.int ((pu + 1 + d) % (p.ns.length:Int))),v4,v5,v6,v7,none,none]) _ (je6 λG hG=>⟨_,rfl,W.x,W.dx,_,rfl,S6.w.o.ob.1,qx,Z,0,W,Y,rfl,S6.w.o,by omega,λr1 xs1 nr1 px1=>?_⟩)
  rw [<- egl] at g0 g1 g2 ⊢
  have lx1:xs1.length = Y.way.length:=Paired.length px1
  have s7:=jf (o:=.lst xs1) nr1
  have S7:=S6.same s7
  refine ⟨r1,xs1,rfl,.inl (SqL.of ja),?_⟩
  rw [lx1]
  have f7:Fr jn7 Z H4 Z (upd H6 r1 (.lst xs1)):=(f5.trans f6).trans (Fr.same s7)
  generalize upd H6 r1 (.lst xs1) = H7 at S7 f7
  have en:(Y.n:Int) = (p.ns.length:Int):=by rw [S7.w.n]
  obtain ⟨row,er⟩:=gn.row pu0 (by omega)
  refine hG _ _ (je6 λG hG=>⟨_,rfl,W.x,W.dx,_,rfl,S7.w.o.ob.1,qx,_,rfl,Z,0,W,Y,pu,row,rfl,S7.w.o,pu0,by omega,er,?_⟩)
  refine hG _ _ (je6 λG hG=>⟨_,rfl,To,R,25,rfl,S7.tn,by decide,by decide,λm H8 m0 m1 hT8 k8=>?_⟩)
  obtain ⟨S8,f8⟩:=S7.draw hT8 k8
  have F8:Fr jn7 Z H4 Z H8:=f7.trans f8
  have B8:=B4.fr F8
  have A8:=jbo F8 A4.1 A4.2 nT5
  have pv8:Paired (qr H8 Z) vs os:=Paired.vb pv4 λ_ _=>qr.fr F8
  refine ⟨_,_,rfl,rfl,?_⟩
  refine hG (lsg a To pa W.x cr few fo ho be ro [some (.int (p.ns.length:Int)),some (.ref ak),some (.int (0 + (i:Int))),some (.int pu),some (.int gl),some (.int (Y.way.length:Int)),some (.int (row.length:Int)),some (.int (1 + m)),v7,none,none]) _ (je6 λG hG=>⟨_,rfl,_,rfl,_,rfl,_,rfl,Z,W,Y,i,p,To,R,S8,by omega,.inl ⟨pu,gl,1 + m,row,rfl,⟨pu0,by omega⟩,⟨g0,by omega⟩,g2,⟨by omega,by omega⟩,er,λH9 wd s9 hw=>?_,λnc H9 q S9 f9 uq=>?_⟩⟩)
  .have hfl:jp2 wd = true /\ inV wd [.str "purse",.str "now",.str "much"] = true:=by
    rcases hw with rfl | rfl | rfl <;> exact ⟨rfl,by decide +kernel⟩
   refine hG (lsg a To pa W.x cr few fo ho be ro [some (.int (p.ns.length:Int)),some (.ref ak),some (.int (0 + (i:Int))),some (.int pu),some (.int gl),some (.int (Y.way.length:Int)),some (.int (row.length:Int)),some (.int (1 + m)),some wd,none,none]) _ ⟨_,rfl,zs3,λtp ntp=>.inl ⟨tp,[.str "purse",.str "now",.str "much"],rfl,.inr (SqT.of ja),hfl.1,rfl,_,rfl,?_⟩⟩
   rw [if_neg (by decide),hfl.2]
   have s10:=s9.trans (jf (o:=.tup [.str "purse",.str "now",.str "much"]) ntp)
   have S10:=S8.same s10
   generalize upd H9 tp (.tup [.str "purse",.str "now",.str "much"]) = H10 at s10 S10
   refine jlq ⟨_,rfl,W.x,W.dx,_,rfl,S10.w.o.ob.1,qx,Z,0,W,Y,rfl,S10.w.o,by omega,λr xs nr px=>⟨r,xs,rfl,.inl (SqL.of ja),_,rfl,rfl,_,rfl,?_⟩⟩
   rw [Paired.length px,decide_eq_true rfl]
   refine gq ?_
   have s11:=s10.trans (jf (o:=.lst xs) nr)
   have S11:=S8.same s11
   generalize upd H10 r (.lst xs) = H11 at s11 S11
   refine ⟨_,rfl,W.x,W.dx,_,rfl,S11.w.o.ob.1,qx,_,rfl,Z,0,W,Y,pu,row,rfl,S11.w.o,pu0,by omega,er,_,rfl,rfl,_,rfl,?_⟩
   rw [decide_eq_true rfl]
   exact gq ⟨Z,Y,vs,os,_,_,_,_,_,_,_,rfl,S11.wait,B8.same s11,⟨s11 _ _ A8.1,A8.2⟩,Paired.vb pv8 λ_ _=>qr.fr (P:=λ_=>False) (Fr.same s11),hos,by omega⟩
  .obtain ⟨o,eo⟩ : ∃ o:O,o = ⟨pu,row.length,gl,1 + m⟩:=⟨_,rfl⟩
   rw [<- eo] at S9 uq
   have A9:=jbo f9 A8.1 A8.2 nO
   have B9:=B8.fr f9
   have pv9:Paired (qr H9 Z) vs os:=Paired.vb pv8 λ_ _=>qr.fr f9
   have uq':=uq
   obtain ⟨_,eq,nq,hq⟩:=uq'
   cases eq
   have hqT:qg K H9 (jwi (yw o)) (.ref q):=jp7 (ts:=yw o) (SqT.of hq)
   refine hG (lsg a To pa W.x cr few fo ho be ro [some (.int (p.ns.length:Int)),some (.ref ak),some (.int (0 + (i:Int))),some (.int pu),some (.int gl),some (.int (Y.way.length:Int)),some (.int (row.length:Int)),some (.int (1 + m)),some (.ref q),none,none]) _ ⟨_,rfl,zs3,λtp ntp=>.inr ⟨tp,[.str "purse",.str "now",.str "much"],jwi (yw o),[.str "purse",.str "now",.str "much"],rfl,SqT.of ja,jp7 (ts:=yw o) (SqT.of (jf ntp _ _ hq)),?_,λe he=>?_,_,rfl,gq ?_⟩⟩
   .rw [xk]
    exact ⟨_,_,rfl,by rw [qg],by rw [xk]; exact ⟨_,_,rfl,by rw [qg],by rw [xk]; exact ⟨_,_,rfl,by rw [qg],by rw [xk]⟩⟩⟩
   .simp only [mem_cons,not_mem_nil,or_false] at he
    rcases he with rfl | rfl | rfl <;> simp [jhi,eqD,jwi]
   have s10:=jf (o:=.tup [.str "purse",.str "now",.str "much"]) ntp
   have S10:=S9.same s10
   have hq10:=s10 _ _ hq
   have sm10:=s10
   generalize upd H9 tp (.tup [.str "purse",.str "now",.str "much"]) = H10 at sm10 S10 hq10
   refine ⟨_,rfl,_,rfl,_,rfl,_,rfl,_,rfl,zs4,λt2 nt2=>?_⟩
   have s11:=jf (o:=.tup [.int pu,.int (row.length:Int),.int gl,.int (1 + m)]) nt2
   have eo' : [V.int pu,.int (row.length:Int),.int gl,.int (1 + m)] = (yw o).map V.int:=by rw [eo]; rfl
   refine ⟨_,_,jp7 (ts:=yw o) (SqT.of (s11 _ _ hq10)),jp7 (ts:=yw o) (by rw [<- eo']; exact SqT.of ja),(by unfold jwi yw; simp [jhi,jcl]),_,rfl,?_⟩
   rw [jic]
   refine gq ?_
   have sm11:=sm10.trans s11
   have S11:=S9.same sm11
   have B11:=B9.same sm11
   have hq11:=s11 _ _ hq10
   have nc':pu ∉ p.cs:=by rw [<- S7.w.c]; exact nc
   generalize upd H10 t2 (.tup [.int pu,.int (row.length:Int),.int gl,.int (1 + m)]) = H11 at sm11 S11 B11 hq11
   refine ⟨_,rfl,_,rfl,ro,_,rfl,.inl (SqL.of B11.ro.1),rfl,jbc _,_,rfl,?_⟩
   rw [if_neg (by decide),kb,decide_eq_false nc']
   refine gq ?_
   refine ⟨_,rfl,_,_,_,true,rfl,.tup hq11,rfl,_,rfl,gq ?_⟩
   have A11:H11 ak = some (.lst vs) /\ Z ak = some (9,.own 5):=⟨sm11 _ _ A9.1,A9.2⟩
   have pv11:Paired (qr H11 Z) vs os:=Paired.vb pv9 λ_ _=>qr.fr (P:=λ_=>False) (Fr.same sm11)
   have uq11:qr H11 Z (.ref q) o:=uq.fr (P:=λ_=>False) (Fr.same sm11)
   refine je6 λG hG=>⟨_,rfl,.inl ⟨rfl,_,SqL.of A11.1⟩,_,rfl,ak,vs,.ref q,rfl,rfl,A11.1,xa (by omega),?_⟩
   have f12:Fr (λr=>r = (9,.own 5)) Z H11 Z (upd H11 ak (.lst (vs ++ [.ref q]))):=Fr.put A11.2 rfl
   have n12 : ∀ q,¬ (λr:Role=>r = (9,.own 5)) (0,q):=λq z=>by cases z
   have T12:=joy f12 (λz=>by cases z) (λz=>by cases z) S11.tn S11.tr
   have S12:Sw t (upd H11 ak (.lst (vs ++ [.ref q]))) Z W (Y.asks o row) (i + 1) (30 * (i + 1)) p To R:=⟨S11.w.fr f12 n12 S11.w.kr.put,T12.1,T12.2⟩
   have B12:=B11.fr f12
   have A12:upd H11 ak (.lst (vs ++ [.ref q])) ak = some (.lst (vs ++ [.ref q])) /\ Z ak = some (9,.own 5):=⟨ja,A11.2⟩
   have uq12:=uq11.fr f12
   have pv12:Paired (qr (upd H11 ak (.lst (vs ++ [.ref q]))) Z) (vs ++ [.ref q]) (os ++ [o]):=qk (Paired.vb pv11 λ_ _=>qr.fr f12) uq12
   generalize upd H11 ak (.lst (vs ++ [.ref q])) = H12 at S12 B12 A12 pv12 uq12
   obtain ⟨L2,gn2⟩:=S12.w.g
   have wl2:=gn2.way
   refine hG _ _ ⟨_,rfl,W.x,W.dx,_,rfl,S12.w.o.ob.1,qx,Z,0,W,_,rfl,S12.w.o,by omega,λr xs nr px=>?_⟩
   have lx:xs.length = Y.way.length + Y.ks.length:=by
    rw [Paired.length px]
    show (Y.way ++ Y.ks.map λc=>(true,c.1,o)).length = _
    rw [length_append,length_map]
   have s13:=jf (o:=.lst xs) nr
   refine ⟨_,rfl,_,rfl,r,xs,rfl,SqL.of ja,λsl nsl=>?_⟩
   rw [jzf (by omega : Y.way.length <= xs.length)]
   have s14:=s13.trans (jf (o:=.lst (xs.drop Y.way.length)) nsl)
   have hsl:upd (upd H12 r (.lst xs)) sl (.lst (xs.drop Y.way.length)) sl = some (.lst (xs.drop Y.way.length)):=ja
   have pd:Paired (jgk (upd (upd H12 r (.lst xs)) sl (.lst (xs.drop Y.way.length))) Z) (xs.drop Y.way.length) (p.hs.map λh=>(true,h,o)):=by
    have q1:=jok Y.way.length (Paired.vb px λ_ _=>jgk.fr (P:=λ_=>False) (Fr.same s14) : Paired (jgk (upd (upd H12 r (.lst xs)) sl (.lst (xs.drop Y.way.length))) Z) xs (Y.asks o row).way)
    have q2:(Y.asks o row).way.drop Y.way.length = p.hs.map λh=>(true,h,o):=by
     show (Y.way ++ Y.ks.map λc=>(true,c.1,o)).drop Y.way.length = _
     rw [List.drop_left' rfl,<- S8.w.h,map_map]
     rfl
    rw [q2] at q1
    exact q1
   have S14:=S12.same s14
   have B14:=B12.same s14
   have uq14:qr _ Z (.ref q) o:=uq12.fr (P:=λ_=>False) (Fr.same s14)
   generalize upd (upd H12 r (.lst xs)) sl (.lst (xs.drop Y.way.length)) = H14 at s14 S14 B14 hsl pd uq14
   have h16:=ok.h1
   refine ⟨_,rfl,ho,rfl,⟨_,SqL.of B14.ho.1⟩,jgp (K:=K) (a:=ho) (xs:=p.hs.map V.int) (λi ys U H'=>∃ v,U = [v,some (.ref q)] /\ gh H14 H' /\ Paired (jgk H' Z) ys ((p.hs.take i).map λh=>(true,h,o))) ⟨none,rfl,gh.refl _,.nil⟩ ?_ ?_ ?_⟩
   .rintro i ys U H' hi ⟨v,rfl,sm,py⟩
    refine ⟨SqL.of (sm _ _ B14.ho.1),j5f ?_⟩
    rw [Paired.length py,length_map,length_take]
    omega
   .rintro i y ys U H' ey ⟨v,rfl,sm,py⟩
    rw [getElem?_map] at ey
    obtain ⟨h,eh,rfl⟩ : ∃ h,p.hs[i]? = some h /\ y = .int h:=by
     cases e:p.hs[i]? with
     | none=>rw [e] at ey; cases ey
     | some h=>rw [e] at ey; exact ⟨h,rfl,(Option.some.inj ey).symm⟩
    dsimp only [jlu,j2a]
    rw [if_pos rfl]
    refine ⟨_,rfl,_,rfl,zs3,λt3 nt3=>⟨_,rfl,sm.trans (jf nt3),?_⟩⟩
    rw [take_snoc eh,map_append]
    refine qk (Paired.vb py λ_ _=>jgk.fr (P:=λ_=>False) (Fr.same (jf nt3))) ⟨t3,q,rfl,(S14.same sm).w.kr.none nt3,ja,uq14.fr (P:=λ_=>False) (Fr.same (sm.trans (jf nt3)))⟩
   rintro ys U H15 ⟨v,rfl,sm,py⟩ r5 nr5
   rw [length_map,take_length] at py
   have s16:=sm.trans (jf (o:=.lst ys) nr5)
   have hasL : ∀ {H:Hp} {r:Addr} {vs:List V},H r = some (.lst vs) -> Paired (jgk H Z) vs (p.hs.map λh=>(true,h,o)) -> qg K H (.lst ((p.hs.map λh=>(true,h,o)).map j1f)) (.ref r):=λh q=>by
    rw [qg]
    exact ⟨_,_,rfl,SqL.of h,jh9 (λx a h=>jgk.j7a h) q⟩
   have dl:=joc (p.hs.map λh=>(true,h,o))
   refine ⟨_,_,hasL (s16 _ _ hsl) (Paired.vb pd λ_ _=>jgk.fr (P:=λ_=>False) (Fr.same s16)),hasL ja (Paired.vb py λ_ _=>jgk.fr (P:=λ_=>False) (Fr.same (jf nr5))),by rw [jhi]; omega,_,rfl,?_⟩
   rw [jic]
   have s17:=s14.trans s16
   have op:o.p = pu:=by rw [eo]
   refine gq ⟨Z,Y.asks o row,vs ++ [.ref q],os ++ [o],_,_,_,_,_,_,_,rfl,S12.same s17,B12.same s17,⟨s17 _ _ A12.1,A12.2⟩,Paired.vb pv12 λ_ _=>qr.fr (P:=λ_=>False) (Fr.same s17),λu hu=>?_,by rw [length_append]; show vs.length + 1 <= i + 1; omega⟩
   rcases mem_append.mp hu with hu | hu
   .exact jve (by rw [op]; exact er) u (hos u hu)
   .rw [mem_singleton.mp hu]
    exact ⟨row ++ [o],by show row ++ [o] ∈ Y.asked.set o.p.toNat (row ++ [o]); rw [op]; exact mem_of_getElem? (getElem?_set_self (List.getElem?_eq_some_iff.mp er).1),mem_append_right _ (mem_singleton.mpr rfl)⟩
 rintro U H3 ⟨Z,Y,vs,os,v1,v2,v3,v4,v5,v6,v7,rfl,S3,B3,A3,pv,hos,lv⟩
 refine hN _ _ (je6 λN hN=>⟨_,rfl,ak,rfl,⟨_,SqL.of A3.1⟩,jgp (K:=K) (a:=ak) (xs:=vs) (λi ys U H'=>∃ v,U = [v] /\ H' = H3 /\ ys = vs.take i) ⟨none,rfl,rfl,rfl⟩ ?_ ?_ ?_⟩)
 .rintro i ys U H' hi ⟨v,rfl,rfl,rfl⟩
  exact ⟨SqL.of A3.1,j5f (by rw [length_take]; omega)⟩
 .rintro i y ys U H' ey ⟨v,rfl,rfl,rfl⟩
  dsimp only [jlu,j2a]
  rw [if_pos rfl]
  exact ⟨_,rfl,_,rfl,rfl,(take_snoc ey).symm⟩
 rintro ys U H' ⟨v,rfl,rfl,rfl⟩ al nal
 rw [take_length]
 have s4:=jf (o:=.lst vs) nal
 have S4:=S3.same s4
 have B4:=B3.same s4
 have A4:Un (upd H' al (.lst vs)) Z al vs:=⟨ja,S3.w.kr.none nal⟩
 have pv4:Paired (qr (upd H' al (.lst vs)) Z) vs os:=Paired.vb pv λ_ _=>qr.fr (P:=λ_=>False) (Fr.same s4)
 generalize upd H' al (.lst vs) = H4 at S4 B4 A4 pv4
 refine hN (lsg a To pa W.x cr few fo ho be ro [some (.int (p.ns.length:Int)),some (.ref al),v1,v2,v3,v4,v5,v6,v7,none,none]) _ (je6 λN hN=>⟨_,rfl,_,rfl,Z,W,Y,40,p,To,R,rfl,S4,ok.ll,by decide,λZ5 H5 Y5 S5 f5 ea st=>⟨_,rfl,gq ?_⟩⟩)
 have B5:=B4.fr f5
 have A5:=A4.fr f5
 have pv5:Paired (qr H5 Z5) vs os:=Paired.vb pv4 λ_ _=>qr.fr f5
 obtain ⟨L,g⟩:=S5.w.g
 have z5:=g.l
 have got : ∀ o ∈ os,∀ c ∈ Y5.ks,o ∈ c.2.done:=λo ho c hc=>by
  obtain ⟨row,hr,hu⟩:=hos o ho
  rw [<- ea] at hr
  obtain ⟨i,hi,e⟩:=mem_iff_getElem.mp hr
  obtain ⟨j,hj,e'⟩:=mem_iff_getElem.mp hu
  exact g.got st (i:=i) (row:=row) (by rw [getElem?_eq_getElem hi,e]) j o (by rw [getElem?_eq_getElem hj,e']) c hc
 have nilD : ∀ {HB:Hp} {e:Addr},HB e = some (.lst []) -> qg K HB (.lst []) (.ref e):=λn=>by
  rw [qg]
  exact ⟨_,[],rfl,SqL.of n,by rw [xk]⟩
 refine hN _ _ (je6 λN hN=>⟨_,rfl,ho,rfl,⟨_,SqL.of B5.ho.1⟩,jk5 (K:=K) (a:=ho) (xs:=p.hs.map V.int) (λj U H'=>∃ w8 w9,U = lsg a To pa W.x cr few fo ho be ro [some (.int (p.ns.length:Int)),some (.ref al),v1,v2,v3,v4,v5,v6,v7,w8,w9] /\ gh H5 H') ⟨none,none,rfl,gh.refl _⟩ (λj U H' _ ⟨_,_,_,sm⟩=>SqL.of (sm _ _ B5.ho.1)) ?_ ?_⟩)
 .rintro j y U H6 ey ⟨w8,w9,rfl,sm⟩
  obtain ⟨h,hh,rfl⟩:=int_at ey
  have S6:=S5.same sm
  obtain ⟨B,ek,km⟩:=jlz (by rw [S5.w.h]; exact hh:h ∈ Y5.ks.map (·.1))
  have dw : B.done.length + B.wait.length <= L.length:=(g.ksz km).dw
  refine je6 λG hG=>⟨_,rfl,W.x,W.dx,_,rfl,S6.w.o.ob.1,qx,_,rfl,Z5,0,W,Y5,h,B,rfl,S6.w.o,ek,by omega,λr xs nr px=>?_⟩
  have s7:=jf (o:=.lst xs) nr
  have sm7:=sm.trans s7
  have h7:upd H6 r (.lst xs) r = some (.lst xs):=ja
  have px7:Paired (qr (upd H6 r (.lst xs)) Z5) xs B.done:=Paired.vb px λ_ _=>qr.fr (P:=λ_=>False) (Fr.same s7)
  have A7:=A5.fr (P:=λ_=>False) (Fr.same sm7)
  have pv7:Paired (qr (upd H6 r (.lst xs)) Z5) vs os:=Paired.vb pv5 λ_ _=>qr.fr (P:=λ_=>False) (Fr.same sm7)
  generalize upd H6 r (.lst xs) = H7 at sm7 h7 px7 A7 pv7
  refine hG (lsg a To pa W.x cr few fo ho be ro [some (.int (p.ns.length:Int)),some (.ref al),v1,v2,v3,v4,v5,v6,v7,some (.int h),some (.ref r)]) _ ⟨_,rfl,al,rfl,⟨_,SqL.of A7.1⟩,jgp (K:=K) (a:=al) (xs:=vs) (λi ys U H'=>∃ v,U = [v,some (.ref r)] /\ H' = H7 /\ ys = []) ⟨none,rfl,rfl,rfl⟩ ?_ ?_ ?_⟩
  .rintro i ys U H' hi ⟨v,rfl,rfl,rfl⟩
   exact ⟨SqL.of A7.1,zero_le _⟩
  .rintro i y ys U H' ey ⟨v,rfl,rfl,rfl⟩
   obtain ⟨o,eo,q,rfl,nq,hq⟩:=qh pv7 ey
   refine ⟨_,rfl,_,rfl,r,xs,yw o,B.done.map yw,rfl,SqL.of h7,⟨q,rfl,SqT.of hq⟩,jsh px7,_,rfl,?_⟩
   rw [if_pos rfl,decide_eq_true (mem_map_of_mem (got o (mem_of_getElem? eo) _ km))]
   exact gq ⟨_,rfl,rfl,rfl⟩
  rintro ys U H' ⟨v,rfl,rfl,rfl⟩ r12 nr12
  refine ⟨zs0,λe12 ne12=>⟨.lst [],.lst [],nilD (jf ne12 _ _ ja),nilD ja,by simp [jhi,jcl],_,rfl,?_⟩⟩
  rw [jic]
  exact gq ⟨_,_,rfl,(sm7.trans (jf nr12)).trans (jf ne12)⟩
 rintro U H6 ⟨w8,w9,rfl,sm⟩
 have A6:=A5.fr (P:=λ_=>False) (Fr.same sm)
 have bne : ∀ x ∈ Y5.bd,x.1 ≠ []:=λx hx z=>by
  obtain ⟨o,_,e⟩:=g.g.b.ks x hx
  rw [e] at z
  cases z
 have bl:=g.sz.bd
 refine hN _ _ ⟨_,rfl,al,rfl,⟨_,SqL.of A6.1⟩,jgp (K:=K) (a:=al) (xs:=vs) (λi ys U H'=>∃ v,U = [v,some (.ref W.x)] /\ gh H6 H' /\ ys = []) ⟨none,rfl,gh.refl _,rfl⟩ ?_ ?_ ?_⟩
 .rintro i ys U H' hi ⟨v,rfl,sm2,rfl⟩
  exact ⟨SqL.of (sm2 _ _ A6.1),zero_le _⟩
 .rintro i y ys U H7 ey ⟨v,rfl,sm2,rfl⟩
  have sm7:=sm.trans sm2
  have S7:=S5.same sm7
  have pv7:Paired (qr H7 Z5) vs os:=Paired.vb pv5 λ_ _=>qr.fr (P:=λ_=>False) (Fr.same sm7)
  obtain ⟨o,eo,q,rfl,nq,hq⟩:=qh pv7 ey
  obtain ⟨c,hc⟩ : ∃ c,c ∈ Y5.ks:=List.exists_mem_of_length_pos g.ok.k0
  have oc:=((g.ks c hc).1.dl o (got o (mem_of_getElem? eo) c hc)).2
  refine ⟨_,rfl,_,rfl,W.x,W.dx,_,rfl,S7.w.o.ob.1,qx,Z5,0,W,Y5,rfl,S7.w.o,by omega,g.g.b.nd,bne,λpl vp ts H8 npl s8 q1 q3 h8=>⟨pl,vp,yw o,ts,rfl,SqL.of h8,⟨q,rfl,SqT.of (s8 _ _ hq)⟩,Paired.vb q3 λ_ _ ⟨a,e,q⟩=>⟨a,e,SqT.of q⟩,_,rfl,?_⟩⟩
  rw [if_pos rfl,decide_eq_true (q1.mem_iff.mpr (g.j37 oc))]
  exact gq ⟨_,rfl,sm2.trans s8,rfl⟩
 rintro ys U H7 ⟨v,rfl,sm2,rfl⟩ r7 nr7
 refine ⟨zs0,λe7 ne7=>⟨.lst [],.lst [],nilD (jf ne7 _ _ ja),nilD ja,by simp [jhi,jcl],_,rfl,?_⟩⟩
 rw [jic]
 have sm8:=((sm.trans sm2).trans (jf (o:=.lst []) nr7)).trans (jf (o:=.lst []) ne7)
 have B8:=B5.same sm8
 refine jlq ⟨_,rfl,ro,rfl,⟨_,SqL.of B8.ro.1⟩,jgp (K:=K) (a:=ro) (xs:=p.cs.map V.int) (λi ys U H'=>∃ v,U = [v,some (.ref W.x)] /\ H' = upd (upd H7 r7 (.lst [])) e7 (.lst []) /\ ys = []) ⟨none,rfl,rfl,rfl⟩ ?_ ?_ ?_⟩
 .rintro i ys U H' hi ⟨v,rfl,rfl,rfl⟩
  exact ⟨SqL.of B8.ro.1,zero_le _⟩
 .rintro i y ys U H' ey ⟨v,rfl,rfl,rfl⟩
  obtain ⟨c,hc,rfl⟩:=int_at ey
  have S8:=S5.same sm8
  obtain ⟨c0,c1⟩:=ok.c c hc
  have en:(Y5.n:Int) = (p.ns.length:Int):=by rw [S5.w.n]
  obtain ⟨row,er⟩:=g.row c0 (by omega)
  have e0:row = []:=g.ra c.toNat row er (by rw [Int.toNat_of_nonneg c0,S5.w.c]; exact hc)
  refine ⟨_,rfl,W.x,W.dx,_,rfl,S8.w.o.ob.1,qx,_,rfl,Z5,0,W,Y5,c,row,rfl,S8.w.o,c0,by omega,er,rfl,_,rfl,?_⟩
  rw [e0]
  exact gq ⟨_,rfl,rfl,rfl⟩
 rintro ys U H' ⟨v,rfl,rfl,rfl⟩ r9 nr9
 refine ⟨zs0,λe9 ne9=>⟨.lst [],.lst [],nilD (jf ne9 _ _ ja),nilD ja,by simp [jhi,jcl],?_⟩⟩
 rw [jic]
 exact k _
end
abbrev aN (K:W.Frag) (x:Str) (v:Option Value) : Prop:=W.nsIn K mainGlobals x = some v
abbrev aF (K:W.Frag) (a:Addr) (x:Str) (v:Option Value) : Prop:=W.findIn K (.ref a) x = some v
abbrev aL (K:W.Frag) (f:Addr) (n q:Str) (s:Stmt) (oc:Value) (od:Option Addr) (kV dc pm:Value) (an:Option Addr) (cd ct:Value) (sl:Array (Option Value)) : Prop:=K.lookup f = some ⟨oc,od,.func (W.fnOf n q (jme s) (jbq s) (jt s) .none kV dc pm an cd ct),sl⟩
set_option maxHeartbeats 4000000 in
theorem all_mk {l:W.OpenLaw} {w:World} {K:W.Frag} {h:Heap} {mg:Str -> Option Value} {fa:Addr} (X:K.In h) (G:h.Ns mainGlobals mg) (hfa:mg "law" = some (.ref fa))
 {ca0 ca1 ca2 ca3 xa0 xa1 xa2 xa3 xa4 xa5 xa6 xa7 xa8 xa9 xa10 xa11 f0 f1 f2 kd2 f3 f4 f5 f6 f7 f8 f9 f10 f11 f12 f13 f14 f15 f16 f17 f18 f19 f20 f21 f22 f23 f24 f25 f26 f27 f28 f29 f30 f31 f32 f33 f34 f35 f36 f37 f38 f39 f40 f41 f42 f43 f44 f45 f46 f47 f48 f49 f50 f51 f52 f53 f54 f55 f56 f57 f58 f59 f60 f61:Addr}
 {o0 v0 d0 p0 q0 t0 o1 v1 d1 p1 q1 t1 o2 d2 p2 q2 t2 o3 v3 d3 p3 q3 t3 o4 v4 d4 p4 q4 t4 o5 v5 d5 p5 q5 t5 o6 v6 d6 p6 q6 t6 o7 v7 d7 p7 q7 t7 o8 v8 d8 p8 q8 t8 o9 v9 d9 p9 q9 t9 o10 v10 d10 p10 q10 t10 o11 v11 d11 p11 q11 t11 o12 v12 d12 p12 q12 t12 o13 v13 d13 p13 q13 t13 o14 v14 d14 p14 q14 t14 o15 v15 d15 p15 q15 t15 o16 v16 d16 p16 q16 t16 o17 v17 d17 p17 q17 t17 o18 v18 d18 p18 q18 t18 o19 v19 d19 p19 q19 t19 o20 v20 d20 p20 q20 t20 o21 v21 d21 p21 q21 t21 o22 v22 d22 p22 q22 t22 o23 v23 d23 p23 q23 t23 o24 v24 d24 p24 q24 t24 o25 v25 d25 p25 q25 t25 o26 v26 d26 p26 q26 t26 o27 v27 d27 p27 q27 t27 o28 v28 d28 p28 q28 t28 o29 v29 d29 p29 q29 t29 o30 v30 d30 p30 q30 t30 o31 v31 d31 p31 q31 t31 o32 v32 d32 p32 q32 t32 o33 v33 d33 p33 q33 t33 o34 v34 d34 p34 q34 t34 o35 v35 d35 p35 q35 t35 o36 v36 d36 p36 q36 t36 o37 v37 d37 p37 q37 t37 o38 v38 d38 p38 q38 t38 o39 v39 d39 p39 q39 t39 o40 v40 d40 p40 q40 t40 o41 v41 d41 p41 q41 t41 o42 v42 d42 p42 q42 t42 o43 v43 d43 p43 q43 t43 o44 v44 d44 p44 q44 t44 o45 v45 d45 p45 q45 t45 o46 v46 d46 p46 q46 t46 o47 v47 d47 p47 q47 t47 o48 v48 d48 p48 q48 t48 o49 v49 d49 p49 q49 t49 o50 v50 d50 p50 q50 t50 o51 v51 d51 p51 q51 t51 o52 v52 d52 p52 q52 t52 o53 v53 d53 p53 q53 t53 o54 v54 d54 p54 q54 t54 o55 v55 d55 p55 q55 t55 o56 v56 d56 p56 q56 t56 o57 v57 d57 p57 q57 t57 o58 v58 d58 p58 q58 t58 o59 v59 d59 p59 q59 t59 o60 v60 d60 p60 q60 t60 o61 v61 d61 p61 q61 t61:Value}
 {r0 s0 r1 s1 r2 s2 r3 s3 r4 s4 r5 s5 r6 s6 r7 s7 r8 s8 r9 s9 r10 s10 r11 s11 r12 s12 r13 s13 r14 s14 r15 s15 r16 s16 r17 s17 r18 s18 r19 s19 r20 s20 r21 s21 r22 s22 r23 s23 r24 s24 r25 s25 r26 s26 r27 s27 r28 s28 r29 s29 r30 s30 r31 s31 r32 s32 r33 s33 r34 s34 r35 s35 r36 s36 r37 s37 r38 s38 r39 s39 r40 s40 r41 s41 r42 s42 r43 s43 r44 s44 r45 s45 r46 s46 r47 s47 r48 s48 r49 s49 r50 s50 r51 s51 r52 s52 r53 s53 r54 s54 r55 s55 r56 s56 r57 s57 r58 s58 r59 s59 r60 s60 r61 s61:Option Addr}
 {u0 u1 u2 u3 u4 u5 u6 u7 u8 u9 u10 u11 u12 u13 u14 u15 u16 u17 u18 u19 u20 u21 u22 u23 u24 u25 u26 u27 u28 u29 u30 u31 u32 u33 u34 u35 u36 u37 u38 u39 u40 u41 u42 u43 u44 u45 u46 u47 u48 u49 u50 u51 u52 u53 u54 u55 u56 u57 u58 u59 u60 u61:Array (Option Value)}
 {kt2 gt0 gt1 gt2 gt3 gt4 gt5 gt6 gt7 gt8:Tok}
 (cm0:aN K "Board" (some (.ref ca0)))
 (cg0:W.plainGet K ca0 Str.empty = true) (ch0:W.hasDictIn K ca0 = true) (co0:W.plainOver K ca0 = true) (cs0:aF K ca0 "__setattr__" (some (.builtin "object.__setattr__")))
 (cn0_0:aF K ca0 "enough" none)
 (cn0_1:aF K ca0 "signers" none)
 (cm1:aN K "Keeper" (some (.ref ca1)))
 (cg1:W.plainGet K ca1 Str.empty = true) (ch1:W.hasDictIn K ca1 = true) (co1:W.plainOver K ca1 = true) (cs1:aF K ca1 "__setattr__" (some (.builtin "object.__setattr__")))
 (cn1_0:aF K ca1 "held" none)
 (cn1_1:aF K ca1 "next_numbers" none)
 (cn1_2:aF K ca1 "done" none)
 (cn1_3:aF K ca1 "heard" none)
 (cn1_4:aF K ca1 "unvoted" none)
 (cn1_5:aF K ca1 "choices" none)
 (cn1_6:aF K ca1 "waiting" none)
 (cm2:aN K "World" (some (.ref ca2)))
 (cg2:W.plainGet K ca2 Str.empty = true) (ch2:W.hasDictIn K ca2 = true) (co2:W.plainOver K ca2 = true) (cs2:aF K ca2 "__setattr__" (some (.builtin "object.__setattr__")))
 (cn2_0:aF K ca2 "purses" none)
 (cn2_1:aF K ca2 "total" none)
 (cn2_2:aF K ca2 "lying" none)
 (cn2_3:aF K ca2 "cheating" none)
 (cn2_4:aF K ca2 "keepers" none)
 (cn2_5:aF K ca2 "board" none)
 (cn2_6:aF K ca2 "asked" none)
 (cn2_7:aF K ca2 "on_way" none)
 (cm3:aN K "Book" (some (.ref ca3)))
 (cg3:W.plainGet K ca3 Str.empty = true) (ch3:W.hasDictIn K ca3 = true) (co3:W.plainOver K ca3 = true) (cs3:aF K ca3 "__setattr__" (some (.builtin "object.__setattr__")))
 (cn3_0:aF K ca3 "held" none)
 (cn3_1:aF K ca3 "next_numbers" none)
 (cn3_2:aF K ca3 "done" none)
 (xm0:aN K "NoPurse" (some (.ref xa0)))
 (xm1:aN K "TooMuch" (some (.ref xa1)))
 (xm2:aN K "NotNow" (some (.ref xa2)))
 (xm3:aN K "PurseError" (some (.ref xa3)))
 (xm4:aN K "BadCut" (some (.ref xa4)))
 (xm5:aN K "BadText" (some (.ref xa5)))
 (xm6:aN K "BadPaper" (some (.ref xa6)))
 (xm7:aN K "NoHouse" (some (.ref xa7)))
 (xm8:aN K "NoLetter" (some (.ref xa8)))
 (xm9:aN K "BadNumber" (some (.ref xa9)))
 (xm10:aN K "BadOrder" (some (.ref xa10)))
 (xm11:aN K "BadHouses" (some (.ref xa11)))
 (a0:aN K "is_whole" (some (.ref f0)))
 (l0:aL K f0 "is_whole" "is_whole" jhz o0 r0 v0 d0 p0 s0 q0 t0 u0)
 (c0:W.codeIn K q0 "is_whole" = true) (k0:W.keepIn K (.ref f0) = true)
 (a1:aN K "is_between" (some (.ref f1)))
 (l1:aL K f1 "is_between" "is_between" jd5 o1 r1 v1 d1 p1 s1 q1 t1 u1)
 (c1:W.codeIn K q1 "is_between" = true) (k1:W.keepIn K (.ref f1) = true)
 (a2:aN K "is_order" (some (.ref f2)))
 (l2:aL K f2 "is_order" "is_order" jh6 o2 r2 (.ref kd2) d2 p2 s2 q2 t2 u2)
 (c2:W.codeIn K q2 "is_order" = true) (k2:W.keepIn K (.ref f2) = true)
 (e2:W.nsIn K kd2 "purses" = some (some (.int 8 kt2)))
 (a3:aN K "place_of" (some (.ref f3)))
 (l3:aL K f3 "place_of" "place_of" jhy o3 r3 v3 d3 p3 s3 q3 t3 u3)
 (c3:W.codeIn K q3 "place_of" = true) (k3:W.keepIn K (.ref f3) = true)
 (a4:aN K "are_rising" (some (.ref f4)))
 (l4:aL K f4 "are_rising" "are_rising" jbe o4 r4 v4 d4 p4 s4 q4 t4 u4)
 (c4:W.codeIn K q4 "are_rising" = true) (k4:W.keepIn K (.ref f4) = true)
 (a5:aN K "is_rising_row" (some (.ref f5)))
 (l5:aL K f5 "is_rising_row" "is_rising_row" jan o5 r5 v5 d5 p5 s5 q5 t5 u5)
 (c5:W.codeIn K q5 "is_rising_row" = true) (k5:W.keepIn K (.ref f5) = true)
 (a6:aN K "is_house_count" (some (.ref f6)))
 (l6:aL K f6 "is_house_count" "is_house_count" kh o6 r6 v6 d6 p6 s6 q6 t6 u6)
 (c6:W.codeIn K q6 "is_house_count" = true) (k6:W.keepIn K (.ref f6) = true)
 (a7:aN K "is_few" (some (.ref f7)))
 (l7:aL K f7 "is_few" "is_few" jnp o7 r7 v7 d7 p7 s7 q7 t7 u7)
 (c7:W.codeIn K q7 "is_few" = true) (k7:W.keepIn K (.ref f7) = true)
 (a8:aN K "outnumber" (some (.ref f8)))
 (l8:aL K f8 "outnumber" "outnumber" jj8 o8 r8 v8 d8 p8 s8 q8 t8 u8)
 (c8:W.codeIn K q8 "outnumber" = true) (k8:W.keepIn K (.ref f8) = true)
 (a9:aN K "enough_of" (some (.ref f9)))
 (l9:aL K f9 "enough_of" "enough_of" jjm o9 r9 v9 d9 p9 s9 q9 t9 u9)
 (c9:W.codeIn K q9 "enough_of" = true) (k9:W.keepIn K (.ref f9) = true)
 (a10:aN K "are_sums" (some (.ref f10)))
 (l10:aL K f10 "are_sums" "are_sums" jhx o10 r10 v10 d10 p10 s10 q10 t10 u10)
 (c10:W.codeIn K q10 "are_sums" = true) (k10:W.keepIn K (.ref f10) = true)
 (a11:aN K "are_first_sums" (some (.ref f11)))
 (l11:aL K f11 "are_first_sums" "are_first_sums" gy o11 r11 v11 d11 p11 s11 q11 t11 u11)
 (c11:W.codeIn K q11 "are_first_sums" = true) (k11:W.keepIn K (.ref f11) = true)
 (a12:aF K xa0 "__init__" (some (.ref f12)))
 (l12:aL K f12 "__init__" "NoPurse.__init__" y4 o12 r12 v12 d12 p12 s12 q12 t12 u12)
 (c12:W.codeIn K q12 "NoPurse.__init__" = true) (k12:W.keepIn K (.ref f12) = true)
 (xrn12:jum K xa0 f12 = true) (xd12a:aF K xa0 "__setattr__" (some (.builtin "object.__setattr__"))) (xd12b:aF K xa0 "__getattribute__" (some (.builtin "BaseException.__getattribute__"))) (xd12c:aF K xa0 "__getattr__" none) (xd12d:aF K xa0 "purse" none)
 (a13:aN K "check_houses" (some (.ref f13)))
 (l13:aL K f13 "check_houses" "check_houses" jem o13 r13 v13 d13 p13 s13 q13 t13 u13)
 (c13:W.codeIn K q13 "check_houses" = true) (k13:W.keepIn K (.ref f13) = true)
 (a14:aN K "check_purses" (some (.ref f14)))
 (l14:aL K f14 "check_purses" "check_purses" jen o14 r14 v14 d14 p14 s14 q14 t14 u14)
 (c14:W.codeIn K q14 "check_purses" = true) (k14:W.keepIn K (.ref f14) = true)
 (a15:aF K ca0 "__init__" (some (.ref f15))) (n15:W.isFn K (.ref f15) = true)
 (mk15:W.makesIn K ca0 = true) (mq15:W.keepIn K (.ref ca0) = true)
 (l15:aL K f15 "__init__" "Board.__init__" g6 o15 r15 v15 d15 p15 s15 q15 t15 u15)
 (c15:W.codeIn K q15 "Board.__init__" = true) (k15:W.keepIn K (.ref f15) = true)
 (a16:aF K ca0 "is_carried" (some (.ref f16))) (n16:W.isFn K (.ref f16) = true)
 (l16:aL K f16 "is_carried" "Board.is_carried" yz o16 r16 v16 d16 p16 s16 q16 t16 u16)
 (c16:W.codeIn K q16 "Board.is_carried" = true) (k16:W.keepIn K (.ref f16) = true)
 (a17:aF K ca0 "put" (some (.ref f17))) (n17:W.isFn K (.ref f17) = true)
 (l17:aL K f17 "put" "Board.put" jdn o17 r17 v17 d17 p17 s17 q17 t17 u17)
 (c17:W.codeIn K q17 "Board.put" = true) (k17:W.keepIn K (.ref f17) = true)
 (a18:aF K ca0 "carried" (some (.ref f18))) (n18:W.isFn K (.ref f18) = true)
 (l18:aL K f18 "carried" "Board.carried" jaq o18 r18 v18 d18 p18 s18 q18 t18 u18)
 (c18:W.codeIn K q18 "Board.carried" = true) (k18:W.keepIn K (.ref f18) = true)
 (a19:aF K ca3 "__init__" (some (.ref f19))) (n19:W.isFn K (.ref f19) = true)
 (mk19:W.makesIn K ca3 = true) (mq19:W.keepIn K (.ref ca3) = true)
 (l19:aL K f19 "__init__" "Book.__init__" uw o19 r19 v19 d19 p19 s19 q19 t19 u19)
 (c19:W.codeIn K q19 "Book.__init__" = true) (k19:W.keepIn K (.ref f19) = true)
 (a20:aF K ca3 "is_past" (some (.ref f20))) (n20:W.isFn K (.ref f20) = true)
 (l20:aL K f20 "is_past" "Book.is_past" ja7 o20 r20 v20 d20 p20 s20 q20 t20 u20)
 (c20:W.codeIn K q20 "Book.is_past" = true) (k20:W.keepIn K (.ref f20) = true)
 (a21:aF K ca3 "is_due" (some (.ref f21))) (n21:W.isFn K (.ref f21) = true)
 (l21:aL K f21 "is_due" "Book.is_due" jal o21 r21 v21 d21 p21 s21 q21 t21 u21)
 (c21:W.codeIn K q21 "Book.is_due" = true) (k21:W.keepIn K (.ref f21) = true)
 (a22:aF K ca3 "settle" (some (.ref f22))) (n22:W.isFn K (.ref f22) = true)
 (l22:aL K f22 "settle" "Book.settle" jai o22 r22 v22 d22 p22 s22 q22 t22 u22)
 (c22:W.codeIn K q22 "Book.settle" = true) (k22:W.keepIn K (.ref f22) = true)
 (a23:aF K ca1 "__init__" (some (.ref f23))) (n23:W.isFn K (.ref f23) = true)
 (mk23:W.makesIn K ca1 = true) (mq23:W.keepIn K (.ref ca1) = true)
 (l23:aL K f23 "__init__" "Keeper.__init__" vz o23 r23 v23 d23 p23 s23 q23 t23 u23)
 (c23:W.codeIn K q23 "Keeper.__init__" = true) (k23:W.keepIn K (.ref f23) = true)
 (a24:aF K ca1 "left_of" (some (.ref f24))) (n24:W.isFn K (.ref f24) = true)
 (l24:aL K f24 "left_of" "Keeper.left_of" ki o24 r24 v24 d24 p24 s24 q24 t24 u24)
 (c24:W.codeIn K q24 "Keeper.left_of" = true) (k24:W.keepIn K (.ref f24) = true)
 (a25:aF K ca1 "give_votes" (some (.ref f25))) (n25:W.isFn K (.ref f25) = true)
 (l25:aL K f25 "give_votes" "Keeper.give_votes" zy o25 r25 v25 d25 p25 s25 q25 t25 u25)
 (c25:W.codeIn K q25 "Keeper.give_votes" = true) (k25:W.keepIn K (.ref f25) = true)
 (a26:aF K ca1 "first_due" (some (.ref f26))) (n26:W.isFn K (.ref f26) = true)
 (l26:aL K f26 "first_due" "Keeper.first_due" xl o26 r26 v26 d26 p26 s26 q26 t26 u26)
 (c26:W.codeIn K q26 "Keeper.first_due" = true) (k26:W.keepIn K (.ref f26) = true)
 (a27:aF K ca1 "go_on" (some (.ref f27))) (n27:W.isFn K (.ref f27) = true)
 (l27:aL K f27 "go_on" "Keeper.go_on" gj o27 r27 v27 d27 p27 s27 q27 t27 u27)
 (c27:W.codeIn K q27 "Keeper.go_on" = true) (k27:W.keepIn K (.ref f27) = true)
 (a28:aF K ca1 "hear" (some (.ref f28))) (n28:W.isFn K (.ref f28) = true)
 (l28:aL K f28 "hear" "Keeper.hear" jcb o28 r28 v28 d28 p28 s28 q28 t28 u28)
 (c28:W.codeIn K q28 "Keeper.hear" = true) (k28:W.keepIn K (.ref f28) = true)
 (a29:aF K ca1 "take_paper" (some (.ref f29))) (n29:W.isFn K (.ref f29) = true)
 (l29:aL K f29 "take_paper" "Keeper.take_paper" yj o29 r29 v29 d29 p29 s29 q29 t29 u29)
 (c29:W.codeIn K q29 "Keeper.take_paper" = true) (k29:W.keepIn K (.ref f29) = true)
 (a30:aF K ca2 "__init__" (some (.ref f30))) (n30:W.isFn K (.ref f30) = true)
 (mk30:W.makesIn K ca2 = true) (mq30:W.keepIn K (.ref ca2) = true)
 (l30:aL K f30 "__init__" "World.__init__" jbl o30 r30 v30 d30 p30 s30 q30 t30 u30)
 (c30:W.codeIn K q30 "World.__init__" = true) (k30:W.keepIn K (.ref f30) = true)
 (a31:aF K ca2 "letters" (some (.ref f31))) (n31:W.isFn K (.ref f31) = true)
 (l31:aL K f31 "letters" "World.letters" uv o31 r31 v31 d31 p31 s31 q31 t31 u31)
 (c31:W.codeIn K q31 "World.letters" = true) (k31:W.keepIn K (.ref f31) = true)
 (a32:aF K ca2 "honest" (some (.ref f32))) (n32:W.isFn K (.ref f32) = true)
 (l32:aL K f32 "honest" "World.honest" jba o32 r32 v32 d32 p32 s32 q32 t32 u32)
 (c32:W.codeIn K q32 "World.honest" = true) (k32:W.keepIn K (.ref f32) = true)
 (a33:aF K ca2 "papers" (some (.ref f33))) (n33:W.isFn K (.ref f33) = true)
 (l33:aL K f33 "papers" "World.papers" ja5 o33 r33 v33 d33 p33 s33 q33 t33 u33)
 (c33:W.codeIn K q33 "World.papers" = true) (k33:W.keepIn K (.ref f33) = true)
 (a34:aF K ca2 "keeper_of" (some (.ref f34))) (n34:W.isFn K (.ref f34) = true)
 (l34:aL K f34 "keeper_of" "World.keeper_of" vy o34 r34 v34 d34 p34 s34 q34 t34 u34)
 (c34:W.codeIn K q34 "World.keeper_of" = true) (k34:W.keepIn K (.ref f34) = true)
 (a35:aF K ca2 "sums" (some (.ref f35))) (n35:W.isFn K (.ref f35) = true)
 (l35:aL K f35 "sums" "World.sums" jea o35 r35 v35 d35 p35 s35 q35 t35 u35)
 (c35:W.codeIn K q35 "World.sums" = true) (k35:W.keepIn K (.ref f35) = true)
 (a36:aF K ca2 "settled" (some (.ref f36))) (n36:W.isFn K (.ref f36) = true)
 (l36:aL K f36 "settled" "World.settled" jab o36 r36 v36 d36 p36 s36 q36 t36 u36)
 (c36:W.codeIn K q36 "World.settled" = true) (k36:W.keepIn K (.ref f36) = true)
 (a37:aF K ca2 "check_purse" (some (.ref f37))) (n37:W.isFn K (.ref f37) = true)
 (l37:aL K f37 "check_purse" "World.check_purse" ym o37 r37 v37 d37 p37 s37 q37 t37 u37)
 (c37:W.codeIn K q37 "World.check_purse" = true) (k37:W.keepIn K (.ref f37) = true)
 (a38:aF K ca2 "check_asker" (some (.ref f38))) (n38:W.isFn K (.ref f38) = true)
 (l38:aL K f38 "check_asker" "World.check_asker" yp o38 r38 v38 d38 p38 s38 q38 t38 u38)
 (c38:W.codeIn K q38 "World.check_asker" = true) (k38:W.keepIn K (.ref f38) = true)
 (a39:aF K ca2 "check_order" (some (.ref f39))) (n39:W.isFn K (.ref f39) = true)
 (l39:aL K f39 "check_order" "World.check_order" yl o39 r39 v39 d39 p39 s39 q39 t39 u39)
 (c39:W.codeIn K q39 "World.check_order" = true) (k39:W.keepIn K (.ref f39) = true)
 (a40:aF K ca2 "check_liar" (some (.ref f40))) (n40:W.isFn K (.ref f40) = true)
 (l40:aL K f40 "check_liar" "World.check_liar" y8 o40 r40 v40 d40 p40 s40 q40 t40 u40)
 (c40:W.codeIn K q40 "World.check_liar" = true) (k40:W.keepIn K (.ref f40) = true)
 (a41:aF K ca2 "write_to_all" (some (.ref f41))) (n41:W.isFn K (.ref f41) = true)
 (l41:aL K f41 "write_to_all" "World.write_to_all" zj o41 r41 v41 d41 p41 s41 q41 t41 u41)
 (c41:W.codeIn K q41 "World.write_to_all" = true) (k41:W.keepIn K (.ref f41) = true)
 (a42:aF K ca2 "put_votes" (some (.ref f42))) (n42:W.isFn K (.ref f42) = true)
 (l42:aL K f42 "put_votes" "World.put_votes" yb o42 r42 v42 d42 p42 s42 q42 t42 u42)
 (c42:W.codeIn K q42 "World.put_votes" = true) (k42:W.keepIn K (.ref f42) = true)
 (a43:aF K ca2 "ask" (some (.ref f43))) (n43:W.isFn K (.ref f43) = true)
 (l43:aL K f43 "ask" "World.ask" jc6 o43 r43 v43 d43 p43 s43 q43 t43 u43)
 (c43:W.codeIn K q43 "World.ask" = true) (k43:W.keepIn K (.ref f43) = true)
 (a44:aF K ca2 "cheat" (some (.ref f44))) (n44:W.isFn K (.ref f44) = true)
 (l44:aL K f44 "cheat" "World.cheat" jcc o44 r44 v44 d44 p44 s44 q44 t44 u44)
 (c44:W.codeIn K q44 "World.cheat" = true) (k44:W.keepIn K (.ref f44) = true)
 (a45:aF K ca2 "lie" (some (.ref f45))) (n45:W.isFn K (.ref f45) = true)
 (l45:aL K f45 "lie" "World.lie" jfi o45 r45 v45 d45 p45 s45 q45 t45 u45)
 (c45:W.codeIn K q45 "World.lie" = true) (k45:W.keepIn K (.ref f45) = true)
 (a46:aF K ca2 "show" (some (.ref f46))) (n46:W.isFn K (.ref f46) = true)
 (l46:aL K f46 "show" "World.show" jd4 o46 r46 v46 d46 p46 s46 q46 t46 u46)
 (c46:W.codeIn K q46 "World.show" = true) (k46:W.keepIn K (.ref f46) = true)
 (a47:aF K ca2 "come" (some (.ref f47))) (n47:W.isFn K (.ref f47) = true)
 (l47:aL K f47 "come" "World.come" jbd o47 r47 v47 d47 p47 s47 q47 t47 u47)
 (c47:W.codeIn K q47 "World.come" = true) (k47:W.keepIn K (.ref f47) = true)
 (a48:aF K ca2 "is_still" (some (.ref f48))) (n48:W.isFn K (.ref f48) = true)
 (l48:aL K f48 "is_still" "World.is_still" gw o48 r48 v48 d48 p48 s48 q48 t48 u48)
 (c48:W.codeIn K q48 "World.is_still" = true) (k48:W.keepIn K (.ref f48) = true)
 (a49:aF K ca2 "next_number" (some (.ref f49))) (n49:W.isFn K (.ref f49) = true)
 (l49:aL K f49 "next_number" "World.next_number" yk o49 r49 v49 d49 p49 s49 q49 t49 u49)
 (c49:W.codeIn K q49 "World.next_number" = true) (k49:W.keepIn K (.ref f49) = true)
 (a50:aN K "_law_town" (some (.ref f50)))
 (l50:aL K f50 "_law_town" "_law_town" jfo o50 r50 v50 d50 p50 s50 q50 t50 u50)
 (c50:W.codeIn K q50 "_law_town" = true) (k50:W.keepIn K (.ref f50) = true)
 (a51:aN K "_law_draw" (some (.ref f51)))
 (l51:aL K f51 "_law_draw" "_law_draw" jct o51 r51 v51 d51 p51 s51 q51 t51 u51)
 (c51:W.codeIn K q51 "_law_draw" = true) (k51:W.keepIn K (.ref f51) = true)
 (a52:aN K "_law_pick" (some (.ref f52)))
 (l52:aL K f52 "_law_pick" "_law_pick" jfu o52 r52 v52 d52 p52 s52 q52 t52 u52)
 (c52:W.codeIn K q52 "_law_pick" = true) (k52:W.keepIn K (.ref f52) = true)
 (a53:aN K "_law_refusal" (some (.ref f53)))
 (l53:aL K f53 "_law_refusal" "_law_refusal" gi o53 r53 v53 d53 p53 s53 q53 t53 u53)
 (c53:W.codeIn K q53 "_law_refusal" = true) (k53:W.keepIn K (.ref f53) = true)
 (a54:aN K "_law_some" (some (.ref f54)))
 (l54:aL K f54 "_law_some" "_law_some" jcq o54 r54 v54 d54 p54 s54 q54 t54 u54)
 (c54:W.codeIn K q54 "_law_some" = true) (k54:W.keepIn K (.ref f54) = true)
 (a55:aN K "_law_world" (some (.ref f55)))
 (l55:aL K f55 "_law_world" "_law_world" jbj o55 r55 v55 d55 p55 s55 q55 t55 u55)
 (c55:W.codeIn K q55 "_law_world" = true) (k55:W.keepIn K (.ref f55) = true)
 (a56:aN K "_law_told" (some (.ref f56)))
 (l56:aL K f56 "_law_told" "_law_told" jcr o56 r56 v56 d56 p56 s56 q56 t56 u56)
 (c56:W.codeIn K q56 "_law_told" = true) (k56:W.keepIn K (.ref f56) = true)
 (a57:aN K "_law_letter" (some (.ref f57)))
 (l57:aL K f57 "_law_letter" "_law_letter" jad o57 r57 v57 d57 p57 s57 q57 t57 u57)
 (c57:W.codeIn K q57 "_law_letter" = true) (k57:W.keepIn K (.ref f57) = true)
 (a58:aN K "_law_order" (some (.ref f58)))
 (l58:aL K f58 "_law_order" "_law_order" jbg o58 r58 v58 d58 p58 s58 q58 t58 u58)
 (c58:W.codeIn K q58 "_law_order" = true) (k58:W.keepIn K (.ref f58) = true)
 (a59:aN K "_law_go" (some (.ref f59)))
 (l59:aL K f59 "_law_go" "_law_go" jg2 o59 r59 v59 d59 p59 s59 q59 t59 u59)
 (c59:W.codeIn K q59 "_law_go" = true) (k59:W.keepIn K (.ref f59) = true)
 (a60:aN K "_law_all_come" (some (.ref f60)))
 (l60:aL K f60 "_law_all_come" "_law_all_come" vm o60 r60 v60 d60 p60 s60 q60 t60 u60)
 (c60:W.codeIn K q60 "_law_all_come" = true) (k60:W.keepIn K (.ref f60) = true)
 (a61:aN K "law" (some (.ref f61)))
 (l61:aL K f61 "law" "law" jxw o61 r61 v61 d61 p61 s61 q61 t61 u61)
 (c61:W.codeIn K q61 "law" = true) (k61:W.keepIn K (.ref f61) = true)
 (ih0:aF K ca1 "is_due" (some (.ref f21)))
 (ih1:aF K ca1 "is_past" (some (.ref f20)))
 (ih2:aF K ca1 "settle" (some (.ref f22)))
 (yp0:W.specialIn K (.ref ca3) "__getattribute__" = some (some (.builtin "type.__getattribute__"))) (yr0:W.readsIn K ca3 (.type "type") = true) (yf0:W.findCls K (.ref ca3) (.type "type") "__init__" = some (.val (.ref f19)))
 (hgc0:aN K "MOST_MUCH" (some (.int 1000 gt0)))
 (hgc1:aN K "LAST_NUMBER" (some (.int 99 gt1)))
 (hgc2:aN K "PAPER_LETTER" (some (.str "paper" gt2)))
 (hgc3:aN K "ORDER_LETTER" (some (.str "order" gt3)))
 (hgc4:aN K "MOST_HOUSES" (some (.int 16 gt4)))
 (hgc5:aN K "MOST_FEW" (some (.int 5 gt5)))
 (hgc6:aN K "MOST_FIRST_SUM" (some (.int 1000 gt6)))
 (hgc7:aN K "LEAST_PURSES" (some (.int 2 gt7)))
 (hgc8:aN K "MOST_PURSES" (some (.int 8 gt8)))
 (xg0:aF K xa0 "__getattribute__" (some (.builtin "BaseException.__getattribute__"))) (xh0:aF K xa0 "__getattr__" none) (xj0:aF K xa0 "__class__" (some (.builtin "object.__class__")))
 (xp0:W.mroIn K xa0 (.type "BaseException") = some true) (xo0:W.mroIn K xa0 (.type "object") = some true) (xs0:(W.clsIn K xa0).isSome = true)
 (xk0:kinds K (.ref xa0) [.ref xa9,.ref xa10,.ref xa11,.ref xa7,.ref xa0,.ref xa8,.ref xa2,.ref xa1,.ref xa6,.ref xa4,.ref xa5,.ref xa3,.type "ValueError"] = [some false,some false,some false,some false,some true,some false,some false,some false,some false,some false,some false,some true,some true])
 (xc0_0:W.kitCls K (.ref xa0) (.ref xa3) = some true)
 (xr1:W.excIn K xa1 j3r "ValueError.__new__" = true)
 (xg1:aF K xa1 "__getattribute__" (some (.builtin "BaseException.__getattribute__"))) (xh1:aF K xa1 "__getattr__" none) (xj1:aF K xa1 "__class__" (some (.builtin "object.__class__")))
 (xp1:W.mroIn K xa1 (.type "BaseException") = some true) (xo1:W.mroIn K xa1 (.type "object") = some true) (xs1:(W.clsIn K xa1).isSome = true)
 (xk1:kinds K (.ref xa1) [.ref xa9,.ref xa10,.ref xa11,.ref xa7,.ref xa0,.ref xa8,.ref xa2,.ref xa1,.ref xa6,.ref xa4,.ref xa5,.ref xa3,.type "ValueError"] = [some false,some false,some false,some false,some false,some false,some false,some true,some false,some false,some false,some true,some true])
 (xc1_0:W.kitCls K (.ref xa1) (.ref xa3) = some true)
 (xr2:W.excIn K xa2 j3r "ValueError.__new__" = true)
 (xg2:aF K xa2 "__getattribute__" (some (.builtin "BaseException.__getattribute__"))) (xh2:aF K xa2 "__getattr__" none) (xj2:aF K xa2 "__class__" (some (.builtin "object.__class__")))
 (xp2:W.mroIn K xa2 (.type "BaseException") = some true) (xo2:W.mroIn K xa2 (.type "object") = some true) (xs2:(W.clsIn K xa2).isSome = true)
 (xk2:kinds K (.ref xa2) [.ref xa9,.ref xa10,.ref xa11,.ref xa7,.ref xa0,.ref xa8,.ref xa2,.ref xa1,.ref xa6,.ref xa4,.ref xa5,.ref xa3,.type "ValueError"] = [some false,some false,some false,some false,some false,some false,some true,some false,some false,some false,some false,some true,some true])
 (xc2_0:W.kitCls K (.ref xa2) (.ref xa3) = some true)
 (xb0:W.mroIn K xa3 (.type "BaseException") = some true)
 (z0:aN K "isinstance" none)
 (z1:aN K "bool" none)
 (z2:aN K "int" none)
 (z3:aN K "len" none)
 (z4:aN K "tuple" none)
 (z5:aN K "sorted" none)
 (z6:aN K "list" none)
 (z7:aN K "sum" none)
 (z8:aN K "max" none)
 (z9:aN K "all" none)
 (z10:aN K "range" none)
 (z11:aN K "ValueError" none) :
 ∃ fd:FuncData,(∀ (s:Shared) (v:Value),BindsTo s fd ⟨[v],[]⟩ [("_law_script",v)]) /\ ∀ base:Heap,K.In base -> base.Ns mainGlobals mg -> xo l.prog w K mg base CX0 12 fa fd ["_law_script"] (jxv K):=by
 have T:Txt K mg ⟨f0,_,f1,_,f2,_,f3,_,f4,_,f5,_,f6,_,f7,_,f8,_,f9,_,f10,_,f11,_,f12,_,f13,_,f14,_,f15,_,f16,_,f17,_,f18,_,f19,_,f20,_,f21,_,f22,_,f23,_,f24,_,f25,_,f26,_,f27,_,f28,_,f29,_,f30,_,f31,_,f32,_,f33,_,f34,_,f35,_,f36,_,f37,_,f38,_,f39,_,f40,_,f41,_,f42,_,f43,_,f44,_,f45,_,f46,_,f47,_,f48,_,f49,_,f50,_,f51,_,f52,_,f53,_,f54,_,f55,_,f56,_,f57,_,f58,_,f59,_,f60,_,f61,_,ca0,ca1,ca2,ca3,xa0,xa1,xa2,xa3,xa4,xa5,xa6,xa7,xa8,xa9,xa10,xa11⟩:={
  je8:=jh (st:=jhz) l0 c0 k0
  jh5:=W.mg_of X G a0
  jh7:=bn1 (jh (st:=jhz) l0 c0 k0) λ_ _ _ _ _ _ _=>rfl
  ql:=jh (st:=jd5) l1 c1 k1
  qv:=W.mg_of X G a1
  qt:=bn3 (jh (st:=jd5) l1 c1 k1) λ_ _ _ _ _ _ _ _ _=>rfl
  jez:=jh (st:=jh6) l2 c2 k2
  jhw:=W.mg_of X G a2
  jgn:=jzb λ_ _ _=>.of_eq rfl
  jm4:=⟨_,j44 e2 rfl rfl rfl rfl rfl rfl rfl (by decide +kernel)⟩
  je4:=jh (st:=jhy) l3 c3 k3
  jh3:=W.mg_of X G a3
  jh2:=bn1 (jh (st:=jhy) l3 c3 k3) λ_ _ _ _ _ _ _=>rfl
  jhg:=jh (st:=jbe) l4 c4 k4
  jm3:=W.mg_of X G a4
  jm2:=bn2 (jh (st:=jbe) l4 c4 k4) λ_ _ _ _ _ _ _ _=>rfl
  jaf:=jh (st:=jan) l5 c5 k5
  jc1:=W.mg_of X G a5
  jdt:=bn2 (jh (st:=jan) l5 c5 k5) λ_ _ _ _ _ _ _ _=>rfl
  jbv:=jh (st:=kh) l6 c6 k6
  jf4:=W.mg_of X G a6
  jga:=bn1 (jh (st:=kh) l6 c6 k6) λ_ _ _ _ _ _ _=>rfl
  jri:=jh (st:=jnp) l7 c7 k7
  juz:=W.mg_of X G a7
  jus:=bn1 (jh (st:=jnp) l7 c7 k7) λ_ _ _ _ _ _ _=>rfl
  jj6:=jh (st:=jj8) l8 c8 k8
  jo0:=W.mg_of X G a8
  jkz:=jzb λ_ _ _=>.of_eq rfl
  jjc:=jh (st:=jjm) l9 c9 k9
  jpj:=W.mg_of X G a9
  jkk:=jzb λ_ _ _=>.of_eq rfl
  jll:=jh (st:=jhx) l10 c10 k10
  jqm:=W.mg_of X G a10
  jp6:=bn1 (jh (st:=jhx) l10 c10 k10) λ_ _ _ _ _ _ _=>rfl
  jbr:=jh (st:=gy) l11 c11 k11
  jgg:=W.mg_of X G a11
  jf7:=bn1 (jh (st:=gy) l11 c11 k11) λ_ _ _ _ _ _ _=>rfl
  jd3:=jh (st:=y4) l12 c12 k12
  jj9:=⟨xrn12,a12,xd12a,xd12b,xd12c,xd12d⟩
  jec:=bn2 (jh (st:=y4) l12 c12 k12) λ_ _ _ _ _ _ _ _=>rfl
  jel:=jh (st:=jem) l13 c13 k13
  ji6:=W.mg_of X G a13
  jgh:=j51 λ_ _ _ _=>.of_eq rfl
  jev:=jh (st:=jen) l14 c14 k14
  jiy:=W.mg_of X G a14
  jgd:=jzb λ_ _ _=>.of_eq rfl
  jge:=jh (st:=g6) l15 c15 k15
  jl7:=⟨a15,n15,k15⟩
  jup:=⟨mk15,a15,n15,mq15⟩
  jgb:=bn2 (jh (st:=g6) l15 c15 k15) λ_ _ _ _ _ _ _ _=>rfl
  jdz:=jh (st:=yz) l16 c16 k16
  yi:=⟨a16,n16,k16⟩
  y6:=bn2 (jh (st:=yz) l16 c16 k16) λ_ _ _ _ _ _ _ _=>rfl
  jpd:=jh (st:=jdn) l17 c17 k17
  jmy:=⟨a17,n17,k17⟩
  jpc:=bn3 (jh (st:=jdn) l17 c17 k17) λ_ _ _ _ _ _ _ _ _=>rfl
  jgu:=jh (st:=jaq) l18 c18 k18
  jf8:=⟨a18,n18,k18⟩
  jg4:=bn1 (jh (st:=jaq) l18 c18 k18) λ_ _ _ _ _ _ _=>rfl
  jhb:=jh (st:=uw) l19 c19 k19
  jnd:=⟨a19,n19,k19⟩
  j2c:=⟨mk19,a19,n19,mq19⟩
  jhc:=bn2 (jh (st:=uw) l19 c19 k19) λ_ _ _ _ _ _ _ _=>rfl
  ji1:=jh (st:=ja7) l20 c20 k20
  jn5:=⟨a20,n20,k20⟩
  jbb:=bn2 (jh (st:=ja7) l20 c20 k20) λ_ _ _ _ _ _ _ _=>rfl
  jld:=jh (st:=jal) l21 c21 k21
  jpm:=⟨a21,n21,k21⟩
  jfg:=bn2 (jh (st:=jal) l21 c21 k21) λ_ _ _ _ _ _ _ _=>rfl
  jko:=jh (st:=jai) l22 c22 k22
  jpw:=⟨a22,n22,k22⟩
  jkw:=bn2 (jh (st:=jai) l22 c22 k22) λ_ _ _ _ _ _ _ _=>rfl
  je1:=jh (st:=vz) l23 c23 k23
  jks:=⟨a23,n23,k23⟩
  jr9:=⟨mk23,a23,n23,mq23⟩
  je5:=bn2 (jh (st:=vz) l23 c23 k23) λ_ _ _ _ _ _ _ _=>rfl
  jf5:=jh (st:=ki) l24 c24 k24
  je7:=⟨a24,n24,k24⟩
  jfx:=bn3 (jh (st:=ki) l24 c24 k24) λ_ _ _ _ _ _ _ _ _=>rfl
  jdc:=jh (st:=zy) l25 c25 k25
  w4:=⟨a25,n25,k25⟩
  ue:=bn1 (jh (st:=zy) l25 c25 k25) λ_ _ _ _ _ _ _=>rfl
  jd1:=jh (st:=xl) l26 c26 k26
  kl:=⟨a26,n26,k26⟩
  jah:=bn1 (jh (st:=xl) l26 c26 k26) λ_ _ _ _ _ _ _=>rfl
  jiw:=jh (st:=gj) l27 c27 k27
  jg6:=⟨a27,n27,k27⟩
  jiq:=bn1 (jh (st:=gj) l27 c27 k27) λ_ _ _ _ _ _ _=>rfl
  jkm:=jh (st:=jcb) l28 c28 k28
  ji3:=⟨a28,n28,k28⟩
  jk2:=bn2 (jh (st:=jcb) l28 c28 k28) λ_ _ _ _ _ _ _ _=>rfl
  jde:=jh (st:=yj) l29 c29 k29
  jb4:=⟨a29,n29,k29⟩
  jc0:=bn2 (jh (st:=yj) l29 c29 k29) λ_ _ _ _ _ _ _ _=>rfl
  jf2:=jh (st:=jbl) l30 c30 k30
  jlt:=⟨a30,n30,k30⟩
  juk:=⟨mk30,a30,n30,mq30⟩
  jd8:=⟨λs us ws _ hl=>match us,ws,hl with | [_,_],[_,_,_,_],_=>.of_eq rfl,λ{vs us zs ws} r1 r2=>jzv r1 r2⟩
  jgs:=jh (st:=uv) l31 c31 k31
  ze:=⟨a31,n31,k31⟩
  xc:=bn1 (jh (st:=uv) l31 c31 k31) λ_ _ _ _ _ _ _=>rfl
  jpu:=jh (st:=jba) l32 c32 k32
  jn2:=⟨a32,n32,k32⟩
  jpx:=bn1 (jh (st:=jba) l32 c32 k32) λ_ _ _ _ _ _ _=>rfl
  ji5:=jh (st:=ja5) l33 c33 k33
  ur:=⟨a33,n33,k33⟩
  ja4:=bn1 (jh (st:=ja5) l33 c33 k33) λ_ _ _ _ _ _ _=>rfl
  jew:=jh (st:=vy) l34 c34 k34
  y9:=⟨a34,n34,k34⟩
  wu:=bn2 (jh (st:=vy) l34 c34 k34) λ_ _ _ _ _ _ _ _=>rfl
  jrw:=jh (st:=jea) l35 c35 k35
  jre:=⟨a35,n35,k35⟩
  jr1:=bn2 (jh (st:=jea) l35 c35 k35) λ_ _ _ _ _ _ _ _=>rfl
  jg9:=jh (st:=jab) l36 c36 k36
  jf1:=⟨a36,n36,k36⟩
  jgo:=bn2 (jh (st:=jab) l36 c36 k36) λ_ _ _ _ _ _ _ _=>rfl
  jcm:=jh (st:=ym) l37 c37 k37
  xp:=⟨a37,n37,k37⟩
  yn:=bn2 (jh (st:=ym) l37 c37 k37) λ_ _ _ _ _ _ _ _=>rfl
  jdm:=jh (st:=yp) l38 c38 k38
  jb6:=⟨a38,n38,k38⟩
  jc5:=bn3 (jh (st:=yp) l38 c38 k38) λ_ _ _ _ _ _ _ _ _=>rfl
  jdk:=jh (st:=yl) l39 c39 k39
  gd:=⟨a39,n39,k39⟩
  pz:=bn2 (jh (st:=yl) l39 c39 k39) λ_ _ _ _ _ _ _ _=>rfl
  jd2:=jh (st:=y8) l40 c40 k40
  jc4:=⟨a40,n40,k40⟩
  jd9:=bn2 (jh (st:=y8) l40 c40 k40) λ_ _ _ _ _ _ _ _=>rfl
  jb7:=jh (st:=zj) l41 c41 k41
  vf:=⟨a41,n41,k41⟩
  gc:=bn3 (jh (st:=zj) l41 c41 k41) λ_ _ _ _ _ _ _ _ _=>rfl
  jfa:=jh (st:=yb) l42 c42 k42
  y3:=⟨a42,n42,k42⟩
  wq:=bn3 (jh (st:=yb) l42 c42 k42) λ_ _ _ _ _ _ _ _ _=>rfl
  jn4:=jh (st:=jc6) l43 c43 k43
  jmj:=⟨a43,n43,k43⟩
  jou:=bn4 (jh (st:=jc6) l43 c43 k43) λ_ _ _ _ _ _ _ _ _ _=>rfl
  jkl:=jh (st:=jcc) l44 c44 k44
  jik:=⟨a44,n44,k44⟩
  jk6:=bn3 (jh (st:=jcc) l44 c44 k44) λ_ _ _ _ _ _ _ _ _=>rfl
  jpf:=jh (st:=jfi) l45 c45 k45
  jhk:=⟨a45,n45,k45⟩
  jjr:=bn3 (jh (st:=jfi) l45 c45 k45) λ_ _ _ _ _ _ _ _ _=>rfl
  jm6:=jh (st:=jd4) l46 c46 k46
  jkv:=⟨a46,n46,k46⟩
  jmv:=bn3 (jh (st:=jd4) l46 c46 k46) λ_ _ _ _ _ _ _ _ _=>rfl
  jmw:=jh (st:=jbd) l47 c47 k47
  jki:=⟨a47,n47,k47⟩
  jm7:=bn2 (jh (st:=jbd) l47 c47 k47) λ_ _ _ _ _ _ _ _=>rfl
  jf6:=jh (st:=gw) l48 c48 k48
  je9:=⟨a48,n48,k48⟩
  jfz:=bn1 (jh (st:=gw) l48 c48 k48) λ_ _ _ _ _ _ _=>rfl
  jds:=jh (st:=yk) l49 c49 k49
  xt:=⟨a49,n49,k49⟩
  yo:=bn2 (jh (st:=yk) l49 c49 k49) λ_ _ _ _ _ _ _ _=>rfl
  jjq:=jh (st:=jfo) l50 c50 k50
  jod:=W.mg_of X G a50
  jpg:=bn1 (jh (st:=jfo) l50 c50 k50) λ_ _ _ _ _ _ _=>rfl
  j5:=jh (st:=jct) l51 c51 k51
  j8:=W.mg_of X G a51
  j7:=bn2 (jh (st:=jct) l51 c51 k51) λ_ _ _ _ _ _ _ _=>rfl
  zi:=jh (st:=jfu) l52 c52 k52
  zx:=W.mg_of X G a52
  xf:=bn2 (jh (st:=jfu) l52 c52 k52) λ_ _ _ _ _ _ _ _=>rfl
  jet:=jh (st:=gi) l53 c53 k53
  ji7:=W.mg_of X G a53
  jis:=bn1 (jh (st:=gi) l53 c53 k53) λ_ _ _ _ _ _ _=>rfl
  jfn:=jh (st:=jcq) l54 c54 k54
  jjo:=W.mg_of X G a54
  jjn:=bn3 (jh (st:=jcq) l54 c54 k54) λ_ _ _ _ _ _ _ _ _=>rfl
  jhr:=jh (st:=jbj) l55 c55 k55
  jmo:=W.mg_of X G a55
  jmr:=bn1 (jh (st:=jbj) l55 c55 k55) λ_ _ _ _ _ _ _=>rfl
  jdi:=jh (st:=jcr) l56 c56 k56
  jfw:=W.mg_of X G a56
  jfm:=bn5 (jh (st:=jcr) l56 c56 k56) λ_ _ _ _ _ _ _ _ _ _ _=>rfl
  jcj:=jh (st:=jad) l57 c57 k57
  jfj:=W.mg_of X G a57
  jft:=bn2 (jh (st:=jad) l57 c57 k57) λ_ _ _ _ _ _ _ _=>rfl
  jhv:=jh (st:=jbg) l58 c58 k58
  jm5:=W.mg_of X G a58
  jml:=bn3 (jh (st:=jbg) l58 c58 k58) λ_ _ _ _ _ _ _ _ _=>rfl
  joj:=jh (st:=jg2) l59 c59 k59
  jr3:=W.mg_of X G a59
  jr7:=bn3 (jh (st:=jg2) l59 c59 k59) λ_ _ _ _ _ _ _ _ _=>rfl
  jdj:=jh (st:=vm) l60 c60 k60
  jhp:=W.mg_of X G a60
  jgl:=bn2 (jh (st:=vm) l60 c60 k60) λ_ _ _ _ _ _ _ _=>rfl
  j35:=jh (st:=jxw) l61 c61 k61
  j48:=W.mg_of X G a61
  j54:=bn1 (jh (st:=jxw) l61 c61 k61) λ_ _ _ _ _ _ _=>rfl
  jkd:=⟨_,W.mg_of X G hgc0⟩
  jfb:=⟨_,W.mg_of X G hgc1⟩
  jed:=⟨_,W.mg_of X G hgc2⟩
  ja6:=⟨_,W.mg_of X G hgc3⟩
  jkr:=⟨_,W.mg_of X G hgc4⟩
  jqj:=⟨_,W.mg_of X G hgc5⟩
  jfy:=⟨_,W.mg_of X G hgc6⟩
  jim:=⟨_,W.mg_of X G hgc7⟩
  jky:=⟨_,W.mg_of X G hgc8⟩
  jyk:=W.mg_of X G cm0
  yh:=⟨cg0,ch0,co0,cs0⟩
  x9:=cn0_0
  yq:=cn0_1
  jvd:=W.mg_of X G cm1
  jn:=⟨cg1,ch1,co1,cs1⟩
  yx:=cn1_0
  qw:=cn1_1
  ja2:=cn1_2
  jak:=cn1_3
  xy:=cn1_4
  zv:=cn1_5
  zr:=cn1_6
  jwl:=W.mg_of X G cm2
  ji:=⟨cg2,ch2,co2,cs2⟩
  vd:=cn2_0
  jix:=cn2_1
  jej:=cn2_2
  ya:=cn2_3
  zg:=cn2_4
  yu:=cn2_5
  gm:=cn2_6
  qq:=cn2_7
  j08:=W.mg_of X G cm3
  j1z:=⟨cg3,ch3,co3,cs3⟩
  jr0:=cn3_0
  jig:=cn3_1
  jrz:=cn3_2
  jbt:=⟨ih0,n21,k21⟩
  wj:=⟨ih1,n20,k20⟩
  jf9:=⟨ih2,n22,k22⟩
  jf0:=⟨yp0,yr0,yf0,k19⟩
  jo7:=W.mg_of X G xm0
  jnw:=W.mg_of X G xm1
  jq3:=W.mg_of X G xm2
  jgq:=W.mg_of X G xm3
  ju4:=W.mg_of X G xm4
  jsw:=W.mg_of X G xm5
  jqe:=W.mg_of X G xm6
  js4:=W.mg_of X G xm7
  jp9:=W.mg_of X G xm8
  jor:=W.mg_of X G xm9
  jqn:=W.mg_of X G xm10
  joa:=W.mg_of X G xm11
  jqb:=⟨xg0,xh0,xj0,xp0,xo0,xs0⟩
  jp8:=xk0
  jbh:=xc0_0
  jsn:=xr1
  jp5:=⟨xg1,xh1,xj1,xp1,xo1,xs1⟩
  jqg:=xk1
  jbi:=xc1_0
  jva:=xr2
  jsk:=⟨xg2,xh2,xj2,xp2,xo2,xs2⟩
  jsr:=xk2
  jca:=xc2_0
  jle:=xb0
  j3:=W.mg_none_of X G z0
  j0x:=W.mg_none_of X G z1
  j4y:=W.mg_none_of X G z2
  jch:=W.mg_none_of X G z3
  jqp:=W.mg_none_of X G z4
  jue:=W.mg_none_of X G z5
  jlb:=W.mg_none_of X G z6
  j10:=W.mg_none_of X G z7
  j41:=W.mg_none_of X G z8
  j4m:=W.mg_none_of X G z9
  jju:=W.mg_none_of X G z10
  jmt:=W.mg_none_of X G z11 }
 have e:=hfa.symm.trans T.j48
 cases e
 exact ⟨_,λs v=>.of_eq rfl,λbase _ _=>j43 T⟩
end M
structure PySem.W.Fast:Prop where (tw6438961080766212991 tw11142494229431497156 tw6116358721251345349 tw1485832639912822742 tw13478997272791001579 tw8769042070777376998 tw5294139887095619397 tw5592596191269787753 tw6555385612743581651 tw152455611656473821 tw12166912756585267617 tw5389153832406046383 tw17552960215293293949 tw12941691347400856748 tw18353036414398147285 tw8464415332862756564 tw14832675847453044103 tw9907525378890703886 tw343811204325152056 tw4812504593452095101 tw6345942948326793951 tw4755748693043142946 tw2058442318501398714 tw13524782106934989356 tw12264116893577512201 tw17130002983899174377 tw3045231936540770132 tw9811512675195851848 tw9147855885565642488 tw5667949189014981031 tw12566130785940556114 tw12882325410018798724 tw14043028472676717455 tw2320240633482316726 tw9428964607227725753 tw11252248889518197033 tw12703074003412246133 tw7435870867177005868 tw16769023044779513425 tw8594501958023407193 tw16004553078778784451 tw3472761289654379365 tw13951073106968500048 tw8111308044335520773 tw15438057573999966506 tw5319571053406241782 tw11639114906866017834 tw12630010452995199427 tw1054205887590793200 tw175478979703179799 tw763444846666746629 tw12002232660034536185 tw1964533575981558222 tw15165264963295558136 tw17518378265480147585 tw2787147457142743219 tw17138420937986121178 tw7737969612363784163 tw9203407937494806792 tw330510952628263511 tw1881205663604421460 tw4032603967385485718 tw2088771854221699195 tw9052842885032110790 tw587304779792963607 tw2689836027982613018 tw6278172056617604528 tw16139685325621168370 tw15629355806753929647 tw3587699744795827030 tw4453912342582663553 tw3214695162027959313 tw2323340002788724275 tw11184635230139243207 tw7423629891905025408 tw2890685836500860591 tw1125829665535631705 tw593899212872636587 tw6004028385854027424 tw494706355949526416 tw12582388789079948527 tw10969644196494028422 tw1598256776699107208 tw16740969680042323675 tw4658960413076040577 tw10677853535196627604 tw7763379642175308216 tw17307852454467882743 tw4047796678409919331 tw17874691111688834701 tw9117565448506460346 tw16351839565544049236 tw686067306286397270 tw15406642447265357694 tw10387028512593313300 tw5456290358485001363 tw13809606047007458337 tw4845378065491897482 tw3217339326425206431 tw18060215789885286201 tw12616276695924367158 tw12460566643428886496 tw9418965131537239242 tw2323295461975687939 tw14471697209979578444 tw13884773561969394672 tw7618922870885878011 tw1650534274042755102 tw1151206965267791684 tw11591066525454230317 tw6775981969813486233 tw16886382452310152268 tw5715944169962516717 tw16787916427248993391 tw12472596082197718080 tw18217469506627890063 tw8816687559307188539 tw546597356328534886 tw10816621495693441801 tw10899082069835208067 tw7992278123688557021 tw14267557590266896934 tw5268628753024817979 tw7416760269611806509 tw16806872458305197776 tw4483958119699120199 tw8325409706730752982 tw2533294081873770378 tw16198167639789159803 tw17230914134028452768 tw7115593602693591414 tw11484291439181935168 tw8290214957735041369 tw4981100487275297210 tw14945763550885398684 tw15139812322751903081 tw18285030887466883836 tw16524062710310393157 tw7767777167518384159 tw6427972958216258933 tw13567459080118412524 tw8478763073218368103 tw2819779776204576233 tw2067590697789524818 tw14667874016703381941 tw10142752093570752836 tw16596625746503917200 tw17720775589252305770 tw9788466985163042160 tw11610017305689987399 tw18320436577318125782 tw15563182914648239151 tw9884193314827465333 tw16301877539517430292 tw246080141228433191 tw8342490695444409702 tw14193188210258753294 tw4286028166345921677 tw13245608724364434202 tw8388315825977741438 tw6391390653431066207 tw73070338106632061 tw3119439073170854340 tw7719875783384944591 tw10224067601532722760 tw3334010857942181088 tw15160118946956994922 tw10490612604028113514 tw9942808319487769909 tw2353742806931109045 tw13452345859605212717 tw17861819651990979693 tw922793612032960433 tw15996347103619969430 tw4622166524892687111 tw5334702403966550960 tw16028116785274126117 tw15854115501878920700 tw945547476520973433 tw11470281477482632174 tw424145472744096552 tw17197930604562810836 tw6386313027197789522 tw4940514788431436377 tw14434349741774793887 tw11747431878702945168 tw10370762181796738456 tw15389995210986991628 tw4002863263905666621 tw6950133522100360389 tw12918875706850651821 tw16207655349986777258 tw743675724963216644 tw1226666941901273909 tw9941042804777163554 tw8326975374198061607 tw17661938321374492477 tw15334672536093832517 tw10594029805327797380 tw13633194468658623159 tw18406649877491218491 tw10911506919654620090 tw8394783535578382171 tw11716070458877240882 tw14053912592631660052 tw12976621225804848968 tw14294471095438341169 tw18085565319850313321 tw9782784796549837437 tw15673809472935026916 tw454681538472511732 tw7814260680578319414 tw12385446784263936521 tw13469219275234429138 tw14251453460480367075 tw17236753955726215257 tw645435442451671008 tw13178380453335095221 tw13233091498625981623 tw7909581522756436275 tw15166211117810187409 tw3592446214174187293 tw16700226734770010708 tw16297006377260144453 tw17823250151474667936 tw29536816577750919 tw7312339255332150773 tw8205058306262457488 tw10538970551618298500 tw1408253006087632087 tw16902180787831174025 tw1166622042653781236 tw5875761927784956312 tw11690841494033084337 tw17006890934277793122 tw13864737682119239852 tw16709758623796154962 tw1651428527756912387 tw13386185841223217646 tw10955062958049909451 tw18329968522435946713 tw437273258959108568 tw15352422677023386520 tw4410653487809349147 tw16149411960067008460 tw14170970116377600804 tw12259970116572657423 tw18342850553210335827 tw5704739944264431256 tw9350846382628633869 tw16890886626959406656 tw13078066064303731056 tw10888385350003966507 tw1079829049619529182 tw10595349022597673637 tw14955006041259739575 tw5260322970808185595 tw229052864605077174 tw6441950959602060785 tw8958512815756363423 tw9644815363472601533 tw2240488803232151791 tw3221633698462882980 tw4355112016238015230 tw11917312424117756167 tw4656108858435970489 tw456443453472029860 tw783423556551855895 tw5047269699470051752 tw12537138859389473323 tw16891966616031640831 tw12686614136122319827 tw16690474034967162842 tw10164488491355711708 tw8297815946968982930 tw2227743280241199941 tw4158553150247966822 tw15007103266895546071 tw8703508273057635660 tw9248083362958263456 tw10092597574488025175 tw17589369394897884887 tw9408163662515381011 tw13121669775963556986 tw18120697077576695336 tw6389366336821098375 tw10882915492450927908 tw16292976661111430359 tw12537613801748680650 tw5350570598961293350 tw637695148134483283 tw2344402944812356701 tw5575788350313419516 tw6088595421128731950 tw12971529143027587549 tw3041060376100294548 tw6803291608375860467 tw6200058522767270849 tw2080791129527781221 tw10031096309954463363 tw4848137942632420357 tw1658369972587716763 tw8184764981044968001 tw12839002254732144294 tw3682809315370393094 tw2313839728730338801 tw17670567406042180438 tw10307217013919372023 tw17755659358061945722 tw18202852692407755121 tw4024227346811119090 tw7758921475949154742 tw10307285327731104513 tw9896181464672920537 tw5950206851916590146 tw3743213397573531931 tw12052324341923569603 tw11404000201564084112 tw3160204922239202192 tw16462765227947799937 tw16028030813592403135 tw2627703402224224083 tw8035449154972078583 tw12844001694144094685 tw7363319103496296757 tw6383791731997164665 tw11711912100274824606 tw10942323161793558727 tw15042931040611330734 tw6114142047856872259 tw5240086807153904453 tw7077096738036887251 tw13549162943768086732 tw14745133566392527291 tw17331255968912675638 tw13891794876877753094 tw2237145777197491015 tw4689484318462833306 tw17080469916296242438 tw10905805794330188215 tw14722913038249360680 tw5015313258086621919 tw3745674917042660375 tw15265919755600929508 tw6415213278091024971 tw4868606089316514120 tw5796505872878607261 tw11458027226446703798 tw13637848151813251445 tw14872528679826685779 tw13758396926075886420 tw5191347443295204401 tw13091964726001104978 tw1506619768270652316 tw11327898153785736643 tw7064057645651597903 tw17062629249844024475 tw7412136057050667486 tw6322441986031140255 tw13972937692941878027 tw7092244084517810272 tw10908349189626688991 tw7551184717464935366 tw5913429159590168795 tw14362915336643997722 tw8353271139910449531 tw8985796415881675247 tw8782250828650587752 tw6067325507524517081 tw15258733869959621273 tw3932288564683577694 tw2622970297995699171 tw17889061697377505704 tw6172307441578465978 tw7429573429707223807 tw18094028756559009481 tw14368106281761915936 tw7283877402571827922 tw16192110407415408634 tw11011400230360562267 tw13529255307890995016 tw12734733809997985064 tw16941706922976101399 tw1911948773583832280 tw119535376559066156 tw11547217431955749115 tw11687646301619092672 tw2487671893268361678 tw9879856954886245527 tw12650956608054765418 tw405030056129264928 tw15173654282489336926 tw18327217239605975923 tw17101827247926376676 tw895471397792323840 tw4306698866315527519 tw960825379406111018 tw6726400443300609864 tw1217727988426579301 tw7256175666377209308 tw9126487363471651326 tw12743107591261745402 tw18181454992258348816 tw15972026669948775878 tw12551955001757078849 tw13609568450140049317 tw3242799605086123089 tw5612422242559865446 tw8425993090057941604 tw16991550696631571460 tw16327521672187728569 tw1301524951711671483 tw4992332029214089837 tw11171793577113032833 tw14768714551046715332 tw1823325752555043927 tw18332797367047297713 tw13601088465813289118 tw13676794627016723698 tw9638411213205928668 tw9451270571850844919 tw2511242204887146683 tw15234994058565405470 tw116377887592503710 tw427448761500146021 tw16527117367761240110 tw14049314552726054746 tw14917602558424882646 tw12552334658343817894 tw13201498827796054957 tw1111131586515002104 tw1707938935710401995 tw13592242296008192991 tw8670831615531627084 tw797636974148418777 tw18097180052213757996 tw7587052186757456484 tw13959198094359634531 tw11367627549383358952 tw13507094156741301224 tw2930864714926503388 tw6490349032028422321 tw14210464926364398134 tw11146627283654517799 tw4553884894820751020 tw1651981041196579293 tw8634663778944229063 tw12382399339572906055 tw13850685931126774267 tw9510528264208673458 tw14812870709379317924 tw3358135693055642520 tw7134854854887510538 tw7891809083373446045 tw15135141036278765603 tw16349136307594284688 tw10816088093926662033 tw2100144794799594521 tw7403944761905193897 tw3391690948738533065 tw8604308976215511177 tw11608803948931821660 tw10650024372365663884 tw8170770917425203011 tw4904972763987810473 tw15523887216024523397 tw15773728930288057675 tw14395250317770941405 tw10407187098377646246 tw2479550211981894312 tw1310403982446854399 tw15563659855984794415 tw757327917130477849 tw12849695207619963409 tw4937554926723056572 tw8490649221056337873 tw9715899102204645995 tw11642698600810759304 tw7961010499055275473 tw1902418070086932070 tw1851444137229510092 tw1467472494884574608 tw10228537557957148884 tw17793578340749600249 tw6916769188335996512 tw2765314322211929081 tw2406524481852620544 tw6626555543243164453 tw18086993270536793854 tw14102765482650964805 tw16072816571163140765 tw13395290212178955544 tw860238871919467570 tw11784212721253167052 tw527046431870605695 tw15694410357337159540 tw17136871185968417983 tw12942128325241983030 tw9777522180069306313 tw3744810034941004906 tw7958810102344456952 tw6379563344343174014 tw10447987126556031894 tw4543364271257661833 tw13623425128335708179 tw16253932484319542818 tw10665265084743299984 tw11810093759781760789 tw7819660043989044577 tw15266611854427157067 tw7094604873383334986 tw10609810524667853012 tw17335460640698498880 tw17506236615371682275 tw656561550392132483 tw13050235283300045276 tw6749965055451441883:True)
open PySem PySem.W PyProof.Rows
set_option maxRecDepth 100000 in
set_option maxHeartbeats 0 in
theorem PySem.Challenge.cw_manypurses_k06_whole_honest_get_holds : PySem.Challenge.rw_manypurses_k06_whole_honest_get.Holds := by
  w_on; o_law; k_head; (case hw=>w_witness2)
  k_fill
  refine L2.j0j (l:=PySem.Challenge.rw_manypurses_k06_whole_honest_get) (n:=63) (k:=12) (x := "_law_script") (CX:=L2.CX0) (sp:=M.jxv) rfl (by decide) rfl ⟨rfl,by decide,by decide⟩ (fun w h Y=>PySem.W.kIn_of Y) ?F ?S ?C
  case F=>
    intro w mg fa h KX G hmg
    refine' M.all_mk KX G hmg ..
    iterate 105 (show _ = _; k_is)
    iterate 1 (show _ = _; kernel_rfl)
    iterate 246 (show _ = _; k_is)
    iterate 3 (show _ = _; kernel_rfl)
    iterate 14 (show _ = _; k_is)
    iterate 4 (show _ = _; kernel_rfl)
    iterate 5 (show _ = _; k_is)
    iterate 4 (show _ = _; kernel_rfl)
    iterate 5 (show _ = _; k_is)
    iterate 3 (show _ = _; kernel_rfl)
    iterate 13 (show _ = _; k_is)
  case S=>exact fun K H a ns hl _ hS=>⟨a,ns,rfl,hS,hl,fun _=>rfl⟩
  case C=>exact fun _ _ _ _ z=>z
