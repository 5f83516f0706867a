import PyProof.Rows.All
import Wide.All
import OpenK.AllK
import Wide.FinOn
import Lean
import PyProof.EqAt
import PyProof.EqKinds
import PyProof.TupleCall
import PyProof.NeKinds
import PySem.Challenge.RW_manypurses_k12_whole_wallets
open List (mem_filter mem_range filterMap_cons mem_cons_self mem_cons_of_mem mem_cons mem_append mem_append_left getElem?_set_self getElem?_set_ne mem_filterMap mem_append_right size_toArray length_cons map_cons length_map append_nil nodup_cons length_take getElem?_map mem_of_getElem? length_append length_replicate map_nil length_set any_cons replicate_succ flatten_cons foldl_cons find?_cons nodup_nil mem_map lookup_cons all_eq_true mem_singleton getElem?_eq_getElem map_append getD_eq_getElem?_getD mem_iff_getElem length_eraseIdx_le length_eq_one_iff length_range nodup_range map_set mem_map_of_mem map_map nodup_append length_filter_le filter_append take_length length_erase_of_mem length_pos_of_mem eq_of_mem_replicate length_pos_iff sum_cons)
open Nat (lt_of_lt_of_le lt_irrefl ne_of_lt le_trans le_of_lt le_refl zero_le lt_succ_self le_succ lt_of_le_of_lt le_succ_of_le)
set_option Elab.async false
set_option genSizeOf false
set_option genInjectivity false
set_option linter.all false
set_option maxRecDepth 100000
noncomputable section
theorem aP (a:True:=by rfl)(b:True:=by decide)(c:True:=by intro _;rfl)(d:True:=by first|exact .inl rfl|exact .inr rfl|assumption)(e:True:=by decide+kernel)(f:True:=by intro vs H Q E h;repeat(first|(obtain⟨rfl,_⟩:=h;rfl)|(obtain⟨_,h⟩:=h)))(g:True:=by exact True.intro)(h:True:=by exact fsc):True:=a
def aP1:=aP._auto_1
def aP2:=aP._auto_2
def aP3:=aP._auto_3
def aP4:=aP._auto_4
def aP5:=aP._auto_5
def aP6:=aP._auto_6
def aP7:=aP._auto_7
def aP8:=aP._auto_8
namespace L2
open PySem PySem.Spec PyProof.Rows
noncomputable abbrev Key:=Sum Int Str
noncomputable def jwb:Key->Value->Bool
 | .inl k,v=>Value.isInt k v
 | .inr x,v=>Value.isStrOf x v
noncomputable def qa2 (w:World):Key->Int
 | .inl k=>hashInt k
 | .inr x=>hashStr w x
theorem x8:∀{k:Key}{v:Value},jwb k v=true->(∃i t,k=Sum.inl i/\v=Value.int i t)\/(∃x t,k=Sum.inr x/\v=Value.str x t)
 | .inl i,v,h=>by obtain⟨t,e⟩:=Value.isInt_shape (k:=i) (v:=v) h;exact .inl ⟨i,t,rfl,e⟩
 | .inr x,v,h=>by obtain⟨t,e⟩:=Value.isStrOf_shape (x:=x) (v:=v) h;exact .inr ⟨x,t,rfl,e⟩
theorem jzr (i:Int)(t:Tok):jwb (.inl i) (.int i t)=true:=by simp[jwb,Value.isInt]
theorem j0j (x:Str)(t:Tok):jwb (.inr x) (.str x t)=true:=by simp[jwb,Value.isStrOf]
theorem j52 (a b:Int):decide ((Sum.inl a:Key)=Sum.inl b)=(a==b):=by
 by_cases e:a=b
 .subst e;simp
 .have h:¬(Sum.inl a:Key)=Sum.inl b:=λq=>e (Sum.inl.inj q);rw[decide_eq_false h];exact(beq_eq_false_iff_ne.mpr e).symm
theorem j7e (a b:Str):decide ((Sum.inr a:Key)=Sum.inr b)=decide (a=b):=by
 by_cases e:a=b
 .subst e;simp
 .have h:¬(Sum.inr a:Key)=Sum.inr b:=λq=>e (Sum.inr.inj q);rw[decide_eq_false h,decide_eq_false e]
theorem j67 (a:Int)(b:Str):decide ((Sum.inl a:Key)=Sum.inr b)=false:=decide_eq_false (λq=>nomatch q)
theorem j64 (a:Str)(b:Int):decide ((Sum.inr a:Key)=Sum.inl b)=false:=decide_eq_false (λq=>nomatch q)
noncomputable def zc (prog:Program)(w:World):PySem.KeyKind prog w Key where
 is:=jwb
 hash:=qa2 w
 inj:=λv a b ha hb=>by
  rcases x8 ha with⟨i,t,rfl,rfl⟩|⟨x,t,rfl,rfl⟩
  .rcases x8 hb with⟨j,u,rfl,e⟩|⟨y,u,rfl,e⟩
   .injection e with e1 _;rw[e1]
   .exact nomatch e
  .rcases x8 hb with⟨j,u,rfl,e⟩|⟨y,u,rfl,e⟩
   .exact nomatch e
   .injection e with e1 _;rw[e1]
 byValue:=λk v h=>by rcases x8 h with⟨i,t,rfl,rfl⟩|⟨x,t,rfl,rfl⟩<;>rfl
 pyHash:=λhv h=>by
  rcases x8 hv with⟨i,t,rfl,rfl⟩|⟨x,t,rfl,rfl⟩
  .exact wpAny_pyHash_int h
  .exact wpAny_pyHash_str h
 eqBool:=λhu hv h=>by
  rcases x8 hu with⟨i,t,rfl,rfl⟩|⟨x,t,rfl,rfl⟩
  .rcases x8 hv with⟨j,u,rfl,rfl⟩|⟨y,u,rfl,rfl⟩
   .rw[j52]at h;exact wpAny_eqBool_int h
   .rw[j67]at h;exact SeqAt.EqAt.int_str i t y u _ _ _ _ h
  .rcases x8 hv with⟨j,u,rfl,rfl⟩|⟨y,u,rfl,rfl⟩
   .rw[j64]at h;exact SeqAt.EqAt.str_int x t j u _ _ _ _ h
   .rw[j7e]at h;exact wpAny_eqBool_str h
 «strs»:=λk x t v h=>by
  rcases x8 h with⟨i,u,rfl,e⟩|⟨y,u,rfl,e⟩
  .exact nomatch e
  .injection e with e1 _;subst e1;cases v<;>rfl
theorem jvv (prog:Program)(w:World)(i:Int)(t:Tok):(zc prog w).is (.inl i) (.int i t)=true:=jzr i t
theorem jwf (prog:Program)(w:World)(x:Str)(t:Tok):(zc prog w).is (.inr x) (.str x t)=true:=j0j x t
set_option genInjectivity true in
inductive V where
 | non | bl (b:Bool) | int (i:Int) | str (x:Str) | byt (b:Array UInt8) | flt (b:UInt64) | ref (a:Addr) | ty (n:String)
 deriving DecidableEq
noncomputable def RelV:V->Value->Prop
 | .non,u=>u=Value.none
 | .bl b,u=>u=Value.bool b
 | .int i,u=>∃t,u=Value.int i t
 | .str x,u=>∃t,u=Value.str x t
 | .byt b,u=>∃t,u=Value.bytes b t
 | .flt b,u=>∃t,u=Value.float b t
 | .ref a,u=>u=Value.ref a
 | .ty n,u=>u=Value.type n
noncomputable abbrev Vals:List V->List Value->Prop:=Paired RelV
theorem Vals.length {xs:List V}{us:List Value}(r:Vals xs us):xs.length=us.length:=Paired.length r
theorem Vals.get:∀{xs:List V}{us:List Value}{i:Nat}{x:V},Vals xs us->xs[i]?=some x->∃u,us[i]?=some u/\RelV x u
 |_,_,_,_,.nil,e=>by simp at e
 |_,_,0,_,.cons r _,e=>by simp at e;subst e;exact⟨_,rfl,r⟩
 |_,_,i+1,x,.cons _ t,e=>by obtain⟨u,h1,h2⟩:=Vals.get (i:=i) (x:=x) t (by simpa using e);exact⟨u,by simpa using h1,h2⟩
theorem Vals.set {x:V}{u:Value}(r:RelV x u):∀{xs:List V}{us:List Value}(i:Nat),Vals xs us->Vals (xs.set i x) (us.set i u)
 |_,_,_,.nil=>.nil
 |_,_,0,.cons _ t=>.cons r t
 |_,_,i+1,.cons q t=>.cons q (Vals.set r i t)
theorem Vals.append:∀{xs ys:List V}{us ws:List Value},Vals xs us->Vals ys ws->Vals (xs++ys) (us++ws)
 |_,_,_,_,.nil,s=>s
 |_,_,_,_,.cons r t,s=>.cons r (Vals.append t s)
noncomputable def jtx:Option V->Option Value->Prop
 |some v,some u=>RelV v u
 |none,none=>True
 |_,_=>False
noncomputable def KV {B:Type}:List (B×V)->List (B×Value)->Prop:=Paired λ(p:B×V)(q:B×Value)=>p.1=q.1/\RelV p.2 q.2
noncomputable def kV:Key->V
 | .inl i=>.int i
 | .inr x=>.str x
set_option genInjectivity true in
inductive HO where
  | lst (xs:List V)
  | tup (xs:List V)
  | dK (kvs:List (Key × V)) | dT (kvs:List (List Key × V))
  | set (S:Int -> Bool) (n:Nat)
  | ins (C dx:Addr) (fs:List (Str × V))
  | own (x:Addr)
  | xd (fs:List (Str × V))
  | met (f x:Addr)
  | rng (lo hi:Int)
  | frz (o:Obj) (u:HO)
  | tbl (ps:Array Value)
  | ext (φ : Heap -> Prop)
noncomputable abbrev Hp:=Addr->Option HO
noncomputable def upd (H:Hp)(a:Addr)(o:HO):Hp:=λb=>if b=a then some o else H b
theorem ja {H:Hp}{a:Addr}{o:HO}:upd H a o a=some o:=by unfold upd;rw[if_pos rfl]
theorem je {H:Hp}{a b:Addr}{o:HO}(h:b≠a):upd H a o b=H b:=by unfold upd;rw[if_neg h]
theorem jkq {H:Hp}{a:Addr}{o u:HO}:upd (upd H a o) a u=upd H a u:=by funext b;unfold upd;split<;>rfl
theorem jm0 {H:Hp}{a b:Addr}{o u:HO}(h:H a=some o)(h':H b=some u)(d:o≠u):a≠b:=by intro e;subst e;rw[h]at h';exact d (Option.some.inj h')
theorem jj {H:Hp}{a b:Addr}{o:HO}(h:H a=some o)(h':H b=none):a≠b:=by intro e;subst e;rw[h]at h';cases h'
section
variable (P:Program)(w:World)
noncomputable def vg (H:Hp)(h:Heap)(a:Addr):HO->Prop
 | .lst xs=>xs.length<=sizeLine/\∃(its:List Value)(n:Nat),Vals xs its/\h.get? a=some {cls:=.type "list",data:=.seq its.toArray n}
 | .tup xs=>xs.length<=sizeLine/\∃its:List Value,Vals xs its/\IsTup h a its.toArray
 | .dK kvs=>kvs.length<=sizeLine/\(a==sysModules)=false/\∃vs,KV kvs vs/\h.DictOf (zc P w) a vs
 | .dT kvs=>kvs.length<=sizeLine/\(a==sysModules)=false/\∃xs:List (List Key×Addr×Value),Paired (λ(p:List Key×V)(q:List Key×Addr×Value)=>p.1=q.1/\H q.2.1=some (.tup (p.1.map kV))/\RelV p.2 q.2.2) kvs xs/\∃o es ep,h.get? a=some o/\o.ExactDict/\o.data= .dict es ep/\es.toList=xs.map (entryOfKey (tupleKind (zc P w)))/\(xs.map (·.1)).Nodup
 | .set S n=>h.SetOf (intKind P w) a S n
 | .ins C dx fs=>H dx=some (.own a)/\fs.length<=1000/\dx≠a/\h.get? a=some (PySem.W.instObj C dx)/\∃mA,h.Ns1 dx mA/\(∀f,jtx (fs.lookup f) (mA f))/\PySem.Within mA (fs.map (·.1))
 | .own _=>∃o,h.get? a=some o
 | .xd fs=>∃mA,h.Ns1 a mA/\∀f,jtx (fs.lookup f) (mA f)
 | .rng lo hi=>∃t u v,h.get? a=some {cls:=.type "range",data:=.fields #[.int lo t,.int hi u,.int 1 v]}
 | .frz o u=>h.get? a=some o/\vg H h a u
 | .tbl ps=>h.get? a=some {cls:=.none,data:=.fields ps}
 | .met f x=>h.get? a=some (PySem.W.methodObj (.ref f) (.ref x))
 | .ext φ=>φ h/\(∃o,h.get? a=some o)/\∀h1 h2:Heap,φ h1->(∀o,h1.get? a=some o->h2.get? a=some o)->φ h2
noncomputable def HOk (H:Hp)(h:Heap):Prop:=∀a o,H a=some o->vg P w H h a o
end
section
variable {P:Program}{w:World}{H H':Hp}{h h':Heap}{a:Addr}{o:HO}
theorem vg.lt (x:vg P w H h a o):a<h.objs.size:=by
 cases o with
 |lst xs=>obtain⟨_,_,_,_,e⟩:=x;exact Heap.lt_size e
 |tup xs=>obtain⟨_,_,_,p⟩:=x;exact p.lt
 |dK kvs=>obtain⟨_,_,_,_,o,_,_,e,_⟩:=x;exact Heap.lt_size e
 |dT kvs=>obtain⟨_,_,_,_,o,_,_,e,_⟩:=x;exact Heap.lt_size e
 |set S n=>obtain⟨o,_,_,_,e,_⟩:=x;exact Heap.lt_size e
 |ins C dx fs=>obtain⟨_,_,_,e,_⟩:=x;exact Heap.lt_size e
 |own y=>obtain⟨_,e⟩:=x;exact Heap.lt_size e
 |xd fs=>obtain⟨_,⟨_,_,_,e,_⟩,_⟩:=x;exact Heap.lt_size e
 |rng lo hi=>obtain⟨_,_,_,e⟩:=x;exact Heap.lt_size e
 |frz ob u=>obtain⟨e,_⟩:=x;exact Heap.lt_size e
 |tbl ps=>exact Heap.lt_size (show h.get? a=some _ from x)
 |met f y=>exact Heap.lt_size (show h.get? a=some _ from x)
 |ext φ=>obtain⟨_,⟨_,e⟩,_⟩:=x;exact Heap.lt_size e
theorem Paired.vf {α β:Type}{F G:α->β->Prop}:∀{l₁:List α}{l₂:List β},Paired F l₁ l₂->(∀a b,F a b->G a b)->Paired G l₁ l₂:=λ{l₁ l₂} q f=>by
 induction q with
 |nil=>exact .nil
 |cons r t ih=>exact .cons (f _ _ r) ih
theorem vg.jrh (x:vg P w H h a o)(k:∀b u,(b=a\/H b=some (.own a))->h.get? b=some u->h'.get? b=some u)(ho:∀b,H b=some (.own a)->H' b=some (.own a))(ht:∀b xs,H b=some (.tup xs)->H' b=some (.tup xs)):vg P w H' h' a o:=by
 induction o with
 |lst xs=>obtain⟨z,its,n,r,e⟩:=x;exact⟨z,its,n,r,k _ _ (.inl rfl) e⟩
 |tup xs=>obtain⟨z,its,r,ob,e,c⟩:=x;exact⟨z,its,r,ob,k _ _ (.inl rfl) e,c⟩
 |dK kvs=>obtain⟨z,y,vs,r,ob,es,ep,e,c⟩:=x;exact⟨z,y,vs,r,ob,es,ep,k _ _ (.inl rfl) e,c⟩
 |dT kvs=>obtain⟨z,y,xs,r,ob,es,ep,e,c⟩:=x;exact⟨z,y,xs,Paired.vf r λp q z=>⟨z.1,ht _ _ z.2.1,z.2.2⟩,ob,es,ep,k _ _ (.inl rfl) e,c⟩
 |set S n=>obtain⟨ob,es,ep,t,e,c⟩:=x;exact⟨ob,es,ep,t,k _ _ (.inl rfl) e,c⟩
 |ins C dx fs=>obtain⟨d,z,ne,e,mA,⟨od,es,ep,e2,c⟩,r⟩:=x;exact⟨ho _ d,z,ne,k _ _ (.inl rfl) e,mA,⟨od,es,ep,k _ _ (.inr d) e2,c⟩,r⟩
 |own y=>obtain⟨ob,e⟩:=x;exact⟨ob,k _ _ (.inl rfl) e⟩
 |xd fs=>obtain⟨mA,⟨od,es,ep,e,c⟩,r⟩:=x;exact⟨mA,⟨od,es,ep,k _ _ (.inl rfl) e,c⟩,r⟩
 |rng lo hi=>obtain⟨t,u,v,e⟩:=x;exact⟨t,u,v,k _ _ (.inl rfl) e⟩
 |frz ob u ih=>obtain⟨e,q⟩:=x;exact⟨k _ _ (.inl rfl) e,ih q⟩
 |tbl ps=>have e:h.get? a=some {cls:=.none,data:=.fields ps}:=x;show h'.get? a=some {cls:=.none,data:=.fields ps};exact k a _ (.inl rfl) e
 |met f y=>have e:h.get? a=some (PySem.W.methodObj (.ref f) (.ref y)):=x;show h'.get? a=some (PySem.W.methodObj (.ref f) (.ref y));exact k a _ (.inl rfl) e
 |ext φ=>obtain⟨p,⟨o,e⟩,st⟩:=x;exact⟨st _ _ p λo q=>k _ _ (.inl rfl) q,⟨o,k _ _ (.inl rfl) e⟩,st⟩
theorem HOk.lt (x:HOk P w H h)(e:H a=some o):a<h.objs.size:=(x a o e).lt
theorem HOk.fresh (x:HOk P w H h)(e:h.objs.size<=a):H a=none:=by
 cases q:H a with
 |none=>rfl
 |some u=>exact absurd (lt_of_lt_of_le (x.lt q) e) (lt_irrefl _)
theorem HOk.kept (x:HOk P w H h)(k:∀b u,h.get? b=some u->h'.get? b=some u):HOk P w H h':=λa o e=>(x a o e).jrh (λb u _ q=>k b u q) (λ_ q=>q) λ_ _ q=>q
theorem HOk.laid (x:HOk P w H h)(k:∀b u,h.get? b=some u->h'.get? b=some u)(hp:h.objs.size<=a)(new:vg P w (upd H a o) h' a o):HOk P w (upd H a o) h':=λb u e=>by
 have hn:=x.fresh hp;by_cases hb:b=a
 .subst hb;rw[ja]at e;cases e;exact new
 .rw[je hb]at e;exact(x b u e).jrh (λc v _ q=>k c v q) (λc q=>by rw[je (jj q hn)];exact q) λc xs q=>by rw[je (jj q hn)];exact q
end
noncomputable def Rd (H:Hp)(a:Addr)(u:HO):Prop:=H a=some u\/∃o,H a=some (.frz o u)
theorem Rd.ok {P:Program}{w:World}{H:Hp}{h:Heap}{a:Addr}{u:HO}(r:Rd H a u)(x:HOk P w H h):vg P w H h a u:=by
 rcases r with r|⟨o,r⟩
 .exact x a u r
 .obtain⟨_,q⟩:=x a _ r;exact q
noncomputable def Mut:Option HO->Prop
 |some (.lst _)=>True
 |some (.dK _)=>True
 |some (.dT _)=>True
 |some (.set _ _)=>True
 |some (.ins _ _ _)=>True
 |some (.ext _)=>True
 |_=>False
section
variable {P:Program}{w:World}{H:Hp}{h h':Heap}{x e:Addr}{o':HO}
theorem HOk.write (ok:HOk P w H h)(mu:Mut (H x))(he:e=x\/H e=some (.own x))(k:∀b u,b≠e->h.get? b=some u->h'.get? b=some u)(heo:∃u,h'.get? e=some u)(new:vg P w (upd H x o') h' x o'):HOk P w (upd H x o') h':=λb u q=>by
 have nown:∀c y,H c=some (.own y)->c≠x:=λc y r z=>by subst z;rw[r]at mu;exact mu
 have ntup:∀c xs,H c=some (.tup xs)->c≠x:=λc xs r z=>by subst z;rw[r]at mu;exact mu
 by_cases hb:b=x
 .subst hb;rw[ja]at q;cases q;exact new
 .rw[je hb]at q;by_cases hbe:b=e
  .have q':H b=some (.own x):=by
    rcases he with z|z
    .exact absurd (hbe.trans z) hb
    .rw[hbe];exact z
   rw[q]at q';cases q';obtain⟨v,hv⟩:=heo;exact⟨v,by rw[hbe];exact hv⟩
  .refine(ok b u q).jrh (λc v hc r=>k c v ?_ r) (λc r=>by rw[je (nown c b r)];exact r) λc xs r=>by rw[je (ntup c xs r)];exact r
   rcases hc with rfl|hc
   .exact hbe
   .rintro rfl
    rcases he with z|z
    .exact nown c b hc z
    .rw[hc]at z;cases z;exact hb rfl
end
structure Un (fs ex:List Addr)(H H':Hp)(h h':Heap):Prop where
 keep:∀b o,h.get? b=some o->H b=none->b∉fs->b∉ex->h'.get? b=some o
 slot:∀b o,h.get? b=some o->H b=none->b∈fs->b∉ex->∃sl,h'.get? b=some {o with slots:=sl}
 free:∀b o,h.get? b=some o->H b=none->b∉ex->H' b=none
 there:∀b o,h.get? b=some o->b∉ex->∃o',h'.get? b=some o'
 jtw:∀b xs,H b=some (.tup xs)->H' b=some (.tup xs)
 jsl:∀b o u,H b=some (.frz o u)->H' b=some (.frz o u)
 ju0:∀b ps,H b=some (.tbl ps)->∃more,H' b=some (.tbl (ps++more))
section
variable {fs fs' ex ex':List Addr}{H H1 H2:Hp}{h h1 h2 h':Heap}{a x e:Addr}{o:HO}
theorem Un.any (u:Un fs ex H H1 h h1){b:Addr}{ob:Obj}(q:h.get? b=some ob)(n:H b=none)(hx:b∉ex):∃sl,h1.get? b=some {ob with slots:=sl}:=by
 by_cases hb:b∈fs
 .exact u.slot b ob q n hb hx
 .exact⟨ob.slots,u.keep b ob q n hb hx⟩
theorem Un.kept (k:∀b u,h.get? b=some u->h'.get? b=some u):Un fs ex H H h h':=⟨λb ob q _ _ _=>k b ob q,λb ob q _ _ _=>⟨ob.slots,k b ob q⟩,λ_ _ _ n _=>n,λb ob q _=>⟨ob,k b ob q⟩,λ_ _ q=>q,λ_ _ _ q=>q,λ_ ps q=>⟨#[],by rw[q];simp⟩⟩
theorem Un.refl:Un fs ex H H h h:=Un.kept λ_ _ q=>q
theorem Un.laid (k:∀b u,h.get? b=some u->h'.get? b=some u)(hp:h.objs.size<=a)(hn:H a=none):Un fs ex H (upd H a o) h h' where
 keep:=λb u q _ _ _=>k b u q
 slot:=λb u q _ _ _=>⟨u.slots,k b u q⟩
 free:=λb u q n _=>by rw[je (ne_of_lt (lt_of_lt_of_le (Heap.lt_size q) hp))];exact n
 there:=λb u q _=>⟨u,k b u q⟩
 jtw:=λb xs q=>by rw[je (jj q hn)];exact q
 jsl:=λb u xs q=>by rw[je (jj q hn)];exact q
 ju0:=λb ps q=>⟨#[],by rw[je (jj q hn),q];simp⟩
theorem Un.write (mu:Mut (H x))(he:e=x\/H e=some (.own x))(k:∀b u,b≠e->h.get? b=some u->h'.get? b=some u)(heo:∃u,h'.get? e=some u):Un fs ex H (upd H x o) h h':=by
 have hx:∀b,H b=none->b≠x:=λb n z=>by subst z;rw[n]at mu;exact mu
 have hb:∀b,H b=none->b≠e:=λb n z=>by
  subst z;rcases he with r|r
  .exact hx b n r
  .rw[n]at r;cases r
 have hm:∀b u,H b=some u->¬Mut (some u)->b≠x:=λb u q nm z=>by subst z;rw[q]at mu;exact nm mu
 refine⟨λb u q n _ _=>k b u (hb b n) q,λb u q n _ _=>⟨u.slots,k b u (hb b n) q⟩,λb u q n _=>by rw[je (hx b n)];exact n,λb u q _=>?_,λb xs q=>by rw[je (hm b _ q λz=>z)];exact q,λb u xs q=>by rw[je (hm b _ q λz=>z)];exact q,λb ps q=>⟨#[],by rw[je (hm b _ q λz=>z),q];simp⟩⟩;by_cases hbe:b=e
 .subst hbe;exact heo
 .exact⟨u,k b u hbe q⟩
end
noncomputable def trk (h:Heap)(H:Hp):List Addr:=(List.range h.objs.size).filter λa=>(H a).isSome
noncomputable def j1z (h:Heap)(H:Hp):Heap:=PySem.W.hideAll h (trk h H)
theorem jzx (h:Heap)(H:Hp):(j1z h H).objs.size=h.objs.size:=PySem.W.hideAll_size _ _
theorem j19 {h:Heap}{H:Hp}{b:Addr}{o:Obj}(e:h.get? b=some o)(n:H b=none):(j1z h H).get? b=some o:=PySem.W.hideAll_get _ e λhm=>by have q:(H b).isSome=true:=(mem_filter.mp hm).2;rw[n]at q;simp at q
theorem j5q {h:Heap}{H:Hp}{b:Addr}{o:Obj}(e:(j1z h H).get? b=some o):h.get? b=some o/\H b=none:=by
 have e':h.get? b=some o:=PySem.W.of_hideAll (trk h H) e;refine⟨e',?_⟩;cases q:H b with
 |none=>rfl
 |some x=>have hm:b∈trk h H:=mem_filter.mpr ⟨mem_range.mpr (Heap.lt_size e'),by simp[q]⟩;have z:(j1z h H).get? b=none:=PySem.W.hideAll_none (trk h H) hm;rw[z]at e;cases e
structure Mod (K:PySem.W.Frag)(mg:Str->Option Value)(base:Heap):Prop where
 kin:K.In base
 glob:base.Ns mainGlobals mg
 blt:∃mb,base.Ns builtinsNs mb/\∀x:Str,x≠"__name__"->mb x=bootBuiltins x
 nolimit:base.NoLimit
structure Cx where
 prog:Program
 w:World
 K:PySem.W.Frag
 mg:Str->Option Value
 base:Heap
 A:Around
 N:List Str
 s₀:Shared
 H₀:Hp
 env:Env
 outer:List Env
 stack:List Env
 ex:List Addr
 fn:Str->Bool
 calm:Bool
 pn:List (Addr×Obj)
 xe:Value->Shared->Prop
noncomputable def frs (l:List Env):List Addr:=l.filterMap (·.frame)
noncomputable abbrev Cx.fs (X:Cx):List Addr:=frs X.outer
noncomputable def Vis (sc:Scope)(x:Str):Prop:=sc.names.lookup x=some .local\/sc.names.lookup x=some .cell\/sc.names.lookup x=some .free
noncomputable def Loc (sc:Scope)(x:Str):Prop:=sc.names.lookup x=some .local\/sc.names.lookup x=some .cell
noncomputable def Look (env:Env)(h:Heap)(m:Str->Option Value)(x:Str)(u:Value):Prop:=(env.kindOf x=some .local/\m x=some u)\/((env.kindOf x=some .cell\/env.kindOf x=some .free)/\∃c,env.cells.lookup x=some c/\h.IsCell c (some u))
structure Cx.Ok (X:Cx):Prop where
 mod:Mod X.K X.mg X.base
 kind:X.env.scope.kind= .function
 glob:X.env.globals=mainGlobals
 blt:X.env.builtins=builtinsNs
 above:X.s₀.heap.objs.size<=X.env.locals
 inj:∀x y c,X.env.cells.lookup x=some c->X.env.cells.lookup y=some c->x=y
 has:∀x,(X.env.kindOf x=some .cell\/X.env.kindOf x=some .free)->∃c,X.env.cells.lookup x=some c
 cab:∀x c,X.fn x=true->X.env.cells.lookup x=some c->X.s₀.heap.objs.size<=c
 hd:X.calm=true->X.A.handled=none
 frames:X.A.frames=some X.stack
 stk:X.stack=X.outer\/(X.stack=X.env::X.outer/\X.env.frame=some X.env.locals)
 exf:∀b∈X.ex,b≠X.env.locals/\∀x c,X.env.cells.lookup x=some c->c≠b
 bs:∀b o,X.base.get? b=some o->X.s₀.heap.get? b=some o/\X.H₀ b=none
 bsz:X.base.objs.size<=X.s₀.heap.objs.size
 j3w:∀b o,X.base.get? b=some o->b∉X.ex
 j5u:∀b∈X.ex,b∉X.fs
 jvq:X.s₀.heap.FunFrames X.base X.outer
 frf:∀b∈X.fs,X.H₀ b=none
structure Inv (X:Cx)(pins:List (Addr×Obj))(U:List (Option V))(H:Hp)(s:Shared):Prop where
 ok:X.Ok
 os:s.os=X.s₀.os
 bare:AllBare s.gens
 base:Un X.fs X.ex X.H₀ H X.s₀.heap s.heap
 loc:∃m,s.heap.Ns X.env.locals m/\∀(i:Nat)(x:Str)(v:V),X.N[i]?=some x->U[i]?=some (some v)->Vis X.env.scope x->∃u,RelV v u/\Look X.env s.heap m x u
 cell:∀x c,X.env.cells.lookup x=some c->∃v,s.heap.IsCell c v
 free:H X.env.locals=none
 jgs:∀x c,X.env.cells.lookup x=some c->H c=none
 pin:∀p∈X.pn++pins,s.heap.get? p.1=some p.2/\H p.1=none/\p.1≠X.env.locals/\p.1∉X.fs/\∀v,p.2.data≠.cell v
 hok:HOk X.prog X.w H s.heap
 len:U.length=X.N.length
section
variable {X:Cx}{pins:List (Addr×Obj)}{U:List (Option V)}{H H':Hp}{s:Shared}{h':Heap}
theorem Cx.Ok.qa9 (ok:X.Ok){b:Addr}{o:Obj}(e:X.base.get? b=some o):b∉X.fs:=λhb=>by have:=(ok.jvq.mem hb).1;rw[e]at this;cases this
theorem Inv.bs (I:Inv X pins U H s):∀b o,X.base.get? b=some o->s.heap.get? b=some o/\H b=none:=λb o e=>⟨I.base.keep b o (I.ok.bs b o e).1 (I.ok.bs b o e).2 (I.ok.qa9 e) (I.ok.j3w b o e),I.base.free b o (I.ok.bs b o e).1 (I.ok.bs b o e).2 (I.ok.j3w b o e)⟩
theorem Inv.bk (I:Inv X pins U H s):∀b o,X.base.get? b=some o->s.heap.get? b=some o:=λb o e=>(I.bs b o e).1
theorem Inv.mod (I:Inv X pins U H s):Mod X.K X.mg X.base:=I.ok.mod
theorem Inv.kIn (I:Inv X pins U H s):X.K.In s.heap:=I.ok.mod.kin.keeps I.bk
theorem Inv.lt (I:Inv X pins U H s):X.env.locals<s.heap.objs.size:=let⟨_,hn,_⟩:=I.loc;hn.lt
theorem Inv.sz (I:Inv X pins U H s):X.s₀.heap.objs.size<=s.heap.objs.size:=le_trans I.ok.above (le_of_lt I.lt)
theorem Inv.j9w (I:Inv X pins U H s){a:Addr}(h:s.heap.objs.size<=a):a∉X.fs:=λhb=>by obtain⟨_,o,ho,_⟩:=I.ok.jvq.mem hb;exact absurd (lt_of_lt_of_le (Heap.lt_size ho) (le_trans I.sz h)) (lt_irrefl _)
theorem Inv.cne (I:Inv X pins U H s):∀x c,X.env.cells.lookup x=some c->c≠X.env.locals:=λx c e z=>by obtain⟨v,o,ho,hd⟩:=I.cell x c e;obtain⟨m,⟨o',es,ep,ho',hd',_⟩,_⟩:=I.loc;rw[z,ho']at ho;cases ho;rw[hd']at hd;cases hd
theorem Inv.jvq (I:Inv X pins U H s):s.heap.FunFrames X.base X.outer:=by
 have all:∀(l:List Env),(∀b∈frs l,b∈X.fs)->X.s₀.heap.FunFrames X.base l->s.heap.FunFrames X.base l:=by
  intro l;induction l with
  |nil=>intro _ _;trivial
  |cons env r ih=>intro hs hl;obtain⟨hk,⟨L,o,hf,hn,ho,hd⟩,hr⟩:=hl;have hL:L∈X.fs:=hs L (by unfold frs;rw[filterMap_cons,hf];exact mem_cons_self);obtain⟨sl,e⟩:=I.base.slot L o ho (I.ok.frf L hL) hL λz=>I.ok.j5u L z hL;exact⟨hk,⟨L,_,hf,hn,e,hd⟩,ih (λb hb=>hs b (by unfold frs;rw[filterMap_cons,hf];exact mem_cons_of_mem _ hb)) hr⟩
 exact all X.outer (λ_ hb=>hb) I.ok.jvq
theorem Inv.stack (I:Inv X pins U H s):s.heap.FunFrames X.base X.stack:=by
 rcases I.ok.stk with e|⟨e,hf⟩
 .rw[e];exact I.jvq
 .rw[e];obtain⟨m,hn,_⟩:=I.loc;refine .cons (by rw[I.ok.kind];decide) hf hn ?_ I.jvq;exact Heap.get?_none_of_le (le_trans I.ok.bsz I.ok.above)
theorem Inv.jqw (I:Inv X pins U H s):∀b∈frs X.stack,b∈X.env.locals::X.fs:=λb hb=>by
 rcases I.ok.stk with e|⟨e,hf⟩
 .rw[e]at hb;exact mem_cons_of_mem _ hb
 .rw[e]at hb;unfold frs at hb;rw[filterMap_cons,hf]at hb;exact hb
theorem Inv.jsm (I:Inv X pins U H s):∀b∈frs X.stack,H b=none:=λb hb=>by
 rcases mem_cons.mp (I.jqw b hb)with e|hb
 .rw[e];exact I.free
 .obtain⟨_,o,ho,_⟩:=I.ok.jvq.mem hb;exact I.base.free b o ho (I.ok.frf b hb) λz=>I.ok.j5u b z hb
theorem Inv.step {g':Array GenState}{t':Nat}{d':Drawn}{ch:List Addr}(I:Inv X pins U H s)(hch:∀b∈ch,(b∈X.ex\/X.s₀.heap.objs.size<=b)/\b≠X.env.locals/\(∀x c,X.env.cells.lookup x=some c->c≠b)/\∀p∈X.pn++pins,p.1≠b)(keep:∀b o,b≠X.env.locals->b∉X.fs->b∉ch->s.heap.get? b=some o->H b=none->h'.get? b=some o)(slot:∀b o,b≠X.env.locals->b∈X.fs->b∉ch->s.heap.get? b=some o->H b=none->∃sl,h'.get? b=some {o with slots:=sl})(free:∀b o,b∉ch->s.heap.get? b=some o->H b=none->H' b=none)(there:∀b o,b∉ch->s.heap.get? b=some o->∃o',h'.get? b=some o')(jtw:∀b xs,H b=some (.tup xs)->H' b=some (.tup xs))(jsl:∀b o u,H b=some (.frz o u)->H' b=some (.frz o u))(ju0:∀b ps,H b=some (.tbl ps)->∃more,H' b=some (.tbl (ps++more)))(ns:∀m,s.heap.Ns X.env.locals m->h'.Ns X.env.locals m)(hok:HOk X.prog X.w H' h')(hg:AllBare g'):
  Inv X pins U H' {s with heap:=h',gens:=g',drawn:=d',toks:=t'}:=by
 have neL:∀b o,X.s₀.heap.get? b=some o->b≠X.env.locals:=λb o e=>ne_of_lt (lt_of_lt_of_le (Heap.lt_size e) I.ok.above);have neC:∀b o,X.s₀.heap.get? b=some o->b∉X.ex->b∉ch:=λb o e hx hb=>by
  rcases(hch b hb).1 with z|z
  .exact hx z
  .exact absurd (lt_of_lt_of_le (Heap.lt_size e) z) (lt_irrefl _)
 have cellK:∀x c,X.env.cells.lookup x=some c->∀v,s.heap.IsCell c v->h'.IsCell c v:=λx c e v ⟨o,ho,hd⟩=>by
  have nch:c∉ch:=λz=>(hch c z).2.2.1 x c e rfl;by_cases hc:c∈X.fs
  .obtain⟨sl,q⟩:=slot c o (I.cne x c e) hc nch ho (I.jgs x c e);exact⟨_,q,hd⟩
  .exact⟨o,keep c o (I.cne x c e) hc nch ho (I.jgs x c e),hd⟩
 refine⟨I.ok,I.os,hg,⟨λb o e n hb hx=>?_,λb o e n hb hx=>?_,λb o e n hx=>?_,λb o e hx=>?_,λb xs e=>jtw b xs (I.base.jtw b xs e),λb o xs e=>jsl b o xs (I.base.jsl b o xs e),λb ps e=>?_⟩,?_,λx c e=>?_,?_,λx c e=>?_,λp hp=>?_,hok,I.len⟩
 .exact keep b o (neL b o e) hb (neC b o e hx) (I.base.keep b o e n hb hx) (I.base.free b o e n hx)
 .obtain⟨sl,e1⟩:=I.base.slot b o e n hb hx;obtain⟨sl',e2⟩:=slot b _ (neL b o e) hb (neC b o e hx) e1 (I.base.free b o e n hx);exact⟨sl',e2⟩
 .obtain⟨o',e1⟩:=I.base.there b o e hx;exact free b o' (neC b o e hx) e1 (I.base.free b o e n hx)
 .obtain⟨o',e1⟩:=I.base.there b o e hx;exact there b o' (neC b o e hx) e1
 .obtain⟨m1,e1⟩:=I.base.ju0 b ps e;obtain⟨m2,e2⟩:=ju0 b _ e1;exact⟨m1++m2,by rw[e2,Array.append_assoc]⟩
 .obtain⟨m,hn,hl⟩:=I.loc;refine⟨m,ns m hn,λi x v e1 e2 e3=>?_⟩;obtain⟨u,r,l⟩:=hl i x v e1 e2 e3;refine⟨u,r,?_⟩;rcases l with l|⟨k,c,e,z⟩
  .exact .inl l
  .exact .inr ⟨k,c,e,cellK x c e _ z⟩
 .obtain⟨v,z⟩:=I.cell x c e;exact⟨v,cellK x c e v z⟩
 .obtain⟨m,⟨o,_,_,ho,_⟩,_⟩:=I.loc;exact free _ o (λz=>(hch _ z).2.1 rfl) ho I.free
 .obtain⟨v,o,ho,hd⟩:=I.cell x c e;exact free c o (λz=>(hch c z).2.2.1 x c e rfl) ho (I.jgs x c e)
 .obtain⟨e,n,ne,nf,d⟩:=I.pin p hp;have nch:p.1∉ch:=λz=>(hch p.1 z).2.2.2 p hp rfl;exact⟨keep p.1 p.2 ne nf nch e n,free p.1 p.2 nch e n,ne,nf,d⟩
theorem Inv.un {t':Nat}(I:Inv X pins U H s)(u:Un X.fs [] H H' s.heap h')(hok:HOk X.prog X.w H' h'):Inv X pins U H' {s with heap:=h',toks:=t'}:=by
 obtain⟨m,⟨o,es,ep,ho,r⟩,_⟩:=id I.loc;obtain⟨sl,hL⟩:=u.any ho I.free (by simp);exact I.step (g':=s.gens) (d':=s.drawn) (ch:=[]) (λ_ z=>nomatch z) (λb o _ hb _ e n=>u.keep b o e n hb (by simp)) (λb o _ hb _ e n=>u.slot b o e n hb (by simp)) (λb o _ e n=>u.free b o e n (by simp)) (λb o _ e=>u.there b o e (by simp)) u.jtw u.jsl u.ju0 (λm' hm=>by obtain⟨o',es',ep',ho',r'⟩:=hm;rw[ho]at ho';cases ho';exact⟨_,es',ep',hL,r'⟩) hok I.bare
theorem Inv.call {g':Array GenState}{t':Nat}{d':Drawn}{ch:List Addr}(I:Inv X pins U H s)(u:Un (frs X.stack) ch H H' s.heap h')(hok:HOk X.prog X.w H' h')(hg:AllBare g')(hch:∀b∈ch,(b∈X.ex\/X.s₀.heap.objs.size<=b)/\b≠X.env.locals/\(∀x c,X.env.cells.lookup x=some c->c≠b)/\∀p∈X.pn++pins,p.1≠b):
  Inv X pins U H' {s with heap:=h',gens:=g',drawn:=d',toks:=t'}:=by
 obtain⟨m,⟨o,es,ep,ho,r⟩,_⟩:=id I.loc;obtain⟨sl,hL⟩:=u.any ho I.free λz=>(hch _ z).2.1 rfl;exact I.step (ch:=ch) hch (λb o hL hb hc e n=>u.keep b o e n (λz=>(mem_cons.mp (I.jqw b z)).elim hL hb) hc) (λb o _ _ hc e n=>u.any e n hc) (λb o hc e n=>u.free b o e n hc) (λb o hc e=>u.there b o e hc) u.jtw u.jsl u.ju0 (λm' hm=>by obtain⟨o',es',ep',ho',r'⟩:=hm;rw[ho]at ho';cases ho';exact⟨_,es',ep',hL,r'⟩) hok hg
theorem Inv.turned {t':Nat}{it:Addr}(I:Inv X pins U H s)(k:∀b o,b≠it->s.heap.get? b=some o->h'.get? b=some o)(hn:H it=none)(hL:it≠X.env.locals)(h1:it∈X.ex\/X.s₀.heap.objs.size<=it)(h2:∀x c,X.env.cells.lookup x=some c->c≠it)(h3:∀p∈X.pn++pins,p.1≠it):Inv X pins U H {s with heap:=h',toks:=t'}:=by
 have nit:∀b u,H b=some u->b≠it:=λb u e z=>by rw[z,hn]at e;cases e
 refine I.step (g':=s.gens) (d':=s.drawn) (ch:=[it]) (λb hb=>?_) (λb o _ _ hc e _=>k b o (λz=>hc (by simp[z])) e) (λb o _ _ hc e _=>⟨o.slots,k b o (λz=>hc (by simp[z])) e⟩) (λ_ _ _ _ n=>n) (λb o hc e=>⟨o,k b o (λz=>hc (by simp[z])) e⟩) (λ_ _ e=>e) (λ_ _ _ e=>e) (λb ps e=>⟨#[],by rw[e];simp⟩) (λm hm=>?_) (λb u e=>?_) I.bare
 .have e:b=it:=by simpa using hb
  subst e;exact⟨h1,hL,h2,h3⟩
 .obtain⟨o,es,ep,ho,r⟩:=hm;exact⟨o,es,ep,k _ o (Ne.symm hL) ho,r⟩
 .refine(I.hok b u e).jrh (λc v hc q=>k c v ?_ q) (λ_ q=>q) λ_ _ q=>q;rcases hc with z|z
  .rw[z];exact nit b u e
  .exact nit c _ z
theorem Inv.tok (I:Inv X pins U H s)(t:Nat):Inv X pins U H {s with toks:=t}:=I.un (h':=s.heap) (t':=t) Un.refl I.hok
theorem Inv.kept {t':Nat}(I:Inv X pins U H s)(k:∀b u,s.heap.get? b=some u->h'.get? b=some u):Inv X pins U H {s with heap:=h',toks:=t'}:=I.un (Un.kept k) (I.hok.kept k)
theorem Inv.laid {a:Addr}{o:HO}{t':Nat}(I:Inv X pins U H s)(k:∀b u,s.heap.get? b=some u->h'.get? b=some u)(hp:s.heap.objs.size<=a)(new:vg X.prog X.w (upd H a o) h' a o):Inv X pins U (upd H a o) {s with heap:=h',toks:=t'}:=I.un (Un.laid k hp (I.hok.fresh hp)) (I.hok.laid k hp new)
theorem Inv.write {x e:Addr}{o:HO}{t':Nat}(I:Inv X pins U H s)(mu:Mut (H x))(he:e=x\/H e=some (.own x))(k:∀b u,b≠e->s.heap.get? b=some u->h'.get? b=some u)(heo:∃u,h'.get? e=some u)(new:vg X.prog X.w (upd H x o) h' x o):Inv X pins U (upd H x o) {s with heap:=h',toks:=t'}:=I.un (Un.write mu he k heo) (I.hok.write mu he k heo new)
theorem Inv.jta {pins':List (Addr×Obj)}(I:Inv X pins U H s)(h:∀p∈pins',s.heap.get? p.1=some p.2/\H p.1=none/\p.1≠X.env.locals/\p.1∉X.fs/\∀v,p.2.data≠.cell v):Inv X pins' U H s:=⟨I.ok,I.os,I.bare,I.base,I.loc,I.cell,I.free,I.jgs,λp hp=>(mem_append.mp hp).elim (λz=>I.pin p (mem_append_left _ z)) (h p),I.hok,I.len⟩
theorem js1 {N:List Str}(hN:N.Nodup){i j:Nat}{x:Str}(a:N[i]?=some x)(b:N[j]?=some x):i=j:=by obtain⟨h1,e1⟩:=List.getElem?_eq_some_iff.mp a;obtain⟨h2,e2⟩:=List.getElem?_eq_some_iff.mp b;exact(List.getElem_inj hN).mp (e1.trans e2.symm)
theorem jur {M:Model}{A:Around}{E:Value->Shared->Prop}{i:Nat}{x:Str}{v:V}{u:Value}{Q:Unit->Shared->Prop}(I:Inv X pins U H s)(hN:X.N.Nodup)(hi:X.N[i]?=some x)(hx:Loc X.env.scope x)(r:RelV v u)(h:∀s',Inv X pins (U.set i (some v)) H s'->(∃a,Heap.SameBut a s.heap s'.heap/\(a=X.env.locals\/X.env.cells.lookup x=some a))->Q () s')(hf:autoParam (X.fn x=true\/X.env.scope.names.lookup x=some .local) aP4):wpAny M A (storeName X.env x u) Q E s:=by
 obtain⟨m,hn,hl⟩:=id I.loc;have hcls:(X.env.scope.kind== .class||(X.env.scope.kind== .module&&X.env.locals != X.env.globals))=false:=by rw[I.ok.kind];rfl
 have hiU:i<U.length:=by rw[I.len];exact(List.getElem?_eq_some_iff.mp hi).1
 have cne:=I.cne;have tracked:∀{a:Addr}{h':Heap},(∃o,s.heap.get? a=some o/\H a=none)->Heap.SameBut a s.heap h'->HOk X.prog X.w H h':=λ{a h'} ha hs b ob e=>by
  obtain⟨_,_,hfree⟩:=ha;refine(I.hok b ob e).jrh (λc w' hc q=>(hs.2 c ?_).trans q) (λ_ q=>q) λ_ _ q=>q
  rintro rfl
  rcases hc with rfl|hc
  .rw[hfree]at e;cases e
  .rw[hfree]at hc;cases hc
 rcases hx with hk|hk
 .refine wpAny_storeName_local hk hn (λh' hn' hs=>?_) hcls;obtain⟨oL,_,_,hoL,_⟩:=id hn;refine h _ ⟨I.ok,I.os,I.bare,⟨λb o e n hb hx=>?_,λb o e n hb hx=>?_,I.base.free,λb o e hx=>?_,I.base.jtw,I.base.jsl,I.base.ju0⟩,⟨_,hn',λj y v' e1 e2 e3=>?_⟩,λy c e=>?_,I.free,I.jgs,λp hp=>?_,tracked ⟨oL,hoL,I.free⟩ hs,by simpa using I.len⟩ ⟨_,hs,.inl rfl⟩
  .exact(hs.2 b (ne_of_lt (lt_of_lt_of_le (Heap.lt_size e) I.ok.above))).trans (I.base.keep b o e n hb hx)
  .obtain⟨sl,e1⟩:=I.base.slot b o e n hb hx;exact⟨sl,(hs.2 b (ne_of_lt (lt_of_lt_of_le (Heap.lt_size e) I.ok.above))).trans e1⟩
  .obtain⟨o',e1⟩:=I.base.there b o e hx;exact⟨o',(hs.2 b (ne_of_lt (lt_of_lt_of_le (Heap.lt_size e) I.ok.above))).trans e1⟩
  .by_cases hj:j=i
   .subst hj;rw[hi]at e1;cases e1;rw[getElem?_set_self hiU]at e2;cases e2;exact⟨u,r,.inl ⟨hk,by simp⟩⟩
   .rw[getElem?_set_ne (Ne.symm hj)]at e2;obtain⟨u',r',q⟩:=hl j y v' e1 e2 e3;refine⟨u',r',?_⟩;rcases q with⟨k,e⟩|⟨k,c,e,z⟩
    .refine .inl ⟨k,?_⟩;have:y≠x:=λe=>hj (js1 hN e1 (e ▸ hi));simp[this,e]
    .exact .inr ⟨k,c,e,z.sameBut hs (cne y c e)⟩
  .obtain⟨w',z⟩:=I.cell y c e;exact⟨w',z.sameBut hs (cne y c e)⟩
  .obtain⟨e,n,ne,nf,d⟩:=I.pin p hp;exact⟨(hs.2 p.1 ne).trans e,n,ne,nf,d⟩
 .have hfn:X.fn x=true:=by
   rcases hf with z|z
   .exact z
   .rw[z]at hk;cases hk
  obtain⟨c,hc⟩:=I.ok.has x (.inl hk);obtain⟨w',z⟩:=I.cell x c hc;refine wpAny_storeName_cell I.ok.kind hk hc z (λh' hc' hs=>?_);obtain⟨oc,hoc,hocd⟩:=id z;refine h {s with heap:=h'} ⟨I.ok,I.os,I.bare,⟨λb o e n hb hx=>?_,λb o e n hb hx=>?_,I.base.free,λb o e hx=>?_,I.base.jtw,I.base.jsl,I.base.ju0⟩,⟨m,hn.sameBut hs (Ne.symm (cne x c hc)),λj y v' e1 e2 e3=>?_⟩,λy c' e=>?_,I.free,I.jgs,λp hp=>?_,tracked ⟨oc,hoc,I.jgs x c hc⟩ hs,by simpa using I.len⟩ ⟨c,hs,.inr hc⟩
  .exact(hs.2 b (ne_of_lt (lt_of_lt_of_le (Heap.lt_size e) (I.ok.cab x c hfn hc)))).trans (I.base.keep b o e n hb hx)
  .obtain⟨sl,e1⟩:=I.base.slot b o e n hb hx;exact⟨sl,(hs.2 b (ne_of_lt (lt_of_lt_of_le (Heap.lt_size e) (I.ok.cab x c hfn hc)))).trans e1⟩
  .obtain⟨o',e1⟩:=I.base.there b o e hx;exact⟨o',(hs.2 b (ne_of_lt (lt_of_lt_of_le (Heap.lt_size e) (I.ok.cab x c hfn hc)))).trans e1⟩
  .by_cases hj:j=i
   .subst hj;rw[hi]at e1;cases e1;rw[getElem?_set_self hiU]at e2;cases e2;exact⟨u,r,.inr ⟨.inl hk,c,hc,hc'⟩⟩
   .rw[getElem?_set_ne (Ne.symm hj)]at e2;obtain⟨u',r',q⟩:=hl j y v' e1 e2 e3;refine⟨u',r',?_⟩;rcases q with q|⟨k,c',e,z'⟩
    .exact .inl q
    .refine .inr ⟨k,c',e,z'.sameBut hs ?_⟩
     rintro rfl
     exact hj (js1 hN e1 (I.ok.inj _ _ _ e hc ▸ hi))
  .by_cases hcc:c'=c
   .subst hcc;exact⟨_,hc'⟩
   .obtain⟨w2,z2⟩:=I.cell y c' e;exact⟨w2,z2.sameBut hs hcc⟩
  .obtain⟨e,n,ne,nf,d⟩:=I.pin p hp;refine⟨(hs.2 p.1 ?_).trans e,n,ne,nf,d⟩;intro q;rw[q,hoc]at e;have q':oc=p.2:=Option.some.inj e;exact d w' (by rw[<-q'];exact hocd)
theorem jml {M:Model}{A:Around}{E:Value->Shared->Prop}{i:Nat}{x:Str}{v:V}{u:Value}{Q:Unit->Shared->Prop}(I:Inv X pins U H s)(hN:X.N.Nodup)(hi:X.N[i]?=some x)(hx:Loc X.env.scope x)(r:RelV v u)(h:∀s',Inv X pins (U.set i (some v)) H s'->Q () s')(hf:autoParam (X.fn x=true\/X.env.scope.names.lookup x=some .local) aP4):wpAny M A (storeName X.env x u) Q E s:=
 jur I hN hi hx r (λs' I' _=>h s' I') hf
theorem Inv.j4p {s':Shared}{ch:List Addr}(I:Inv X pins U H s)(ho:s'.os=s.os)(u:Un (frs X.stack) ch H H' s.heap s'.heap)(hok:HOk X.prog X.w H' s'.heap)(hg:AllBare s'.gens)(hch:∀b∈ch,(b∈X.ex\/X.s₀.heap.objs.size<=b)/\b≠X.env.locals/\(∀x c,X.env.cells.lookup x=some c->c≠b)/\∀p∈X.pn++pins,p.1≠b):Inv X pins U H' s':=by
 obtain⟨h',g',d',t',o'⟩:=s';have e:o'=s.os:=ho;subst e;exact I.call (g':=g') (t':=t') (d':=d') u hok hg hch
end
noncomputable abbrev XK:=Value->Option Addr->Hp->Prop
noncomputable abbrev St:=List (Option V)
noncomputable abbrev VK:=V->Hp->Prop
noncomputable abbrev TE:=St->Hp->VK->Prop
noncomputable abbrev TT:=St->Hp->(Bool->Hp->Prop)->Prop
noncomputable abbrev TA:=St->Hp->(List V->Hp->Prop)->Prop
structure Ends where
 nx:St->Hp->Prop
 rt:VK
 bk:St->Hp->Prop:=λ_ _=>False
 ct:St->Hp->Prop:=λ_ _=>False
noncomputable abbrev TS:=Ends->St->Hp->Prop
noncomputable def EP (X:Cx)(pins:List (Addr×Obj))(U:St)(Q:VK)(u:Value)(s':Shared):Prop:=∃v H',Inv X pins U H' s'/\RelV v u/\Q v H'
noncomputable def TP (X:Cx)(pins:List (Addr×Obj))(U:St)(Q:Bool->Hp->Prop)(b:Bool)(s':Shared):Prop:=∃H',Inv X pins U H' s'/\Q b H'
noncomputable def AP (X:Cx)(pins:List (Addr×Obj))(U:St)(Q:List V->Hp->Prop)(us:List Value)(s':Shared):Prop:=∃vs H',Inv X pins U H' s'/\Vals vs us/\Q vs H'
noncomputable def SP (X:Cx)(pins:List (Addr×Obj))(D:Ends)(f:Flow)(s':Shared):Prop:=match f with
 | .next=>∃U' H',Inv X pins U' H' s'/\D.nx U' H'
 | .brk=>∃U' H',Inv X pins U' H' s'/\D.bk U' H'
 | .cont=>∃U' H',Inv X pins U' H' s'/\D.ct U' H'
 | .ret u=>∃v U' H',Inv X pins U' H' s'/\RelV v u/\D.rt v H'
noncomputable def PE (X:Cx)(e:Expr)(t:TE):Prop:=∀(pins:List (Addr×Obj))(s:Shared)(U:St)(H:Hp)(Q:VK),Inv X pins U H s->t U H Q->wpAny (model X.prog X.w) X.A (eval e X.env) (EP X pins U Q) X.xe s
noncomputable def PT (X:Cx)(e:Expr)(t:TT):Prop:=∀(pins:List (Addr×Obj))(s:Shared)(U:St)(H:Hp)(Q:Bool->Hp->Prop),Inv X pins U H s->t U H Q->wpAny (model X.prog X.w) X.A (isTrue e X.env (eval e X.env)) (TP X pins U Q) X.xe s
noncomputable def PW (X:Cx)(e:Expr)(t:TT):Prop:=∀(whole:Sem Value)(pins:List (Addr×Obj))(s:Shared)(U:St)(H:Hp)(Q:Bool->Hp->Prop),Inv X pins U H s->t U H Q->wpAny (model X.prog X.w) X.A (isTrue e X.env whole) (TP X pins U Q) X.xe s
theorem PW.pt {X:Cx}{e:Expr}{t:TT}(h:PW X e t):PT X e t:=h _
noncomputable def PA (X:Cx)(es:List Expr)(t:TA):Prop:=∀(pos:Pos)(pins:List (Addr×Obj))(s:Shared)(U:St)(H:Hp)(Q:List V->Hp->Prop),Inv X pins U H s->t U H Q->wpAny (model X.prog X.w) X.A (spliced (backTo pos (starEach es X.env))) (AP X pins U Q) X.xe s
noncomputable def PS (X:Cx)(st:Stmt)(t:TS):Prop:=∀(pins:List (Addr×Obj))(s:Shared)(U:St)(H:Hp)(D:Ends),Inv X pins U H s->t D U H->wpAny (model X.prog X.w) X.A (exec st X.env) (SP X pins D) X.xe s
noncomputable def PSs (X:Cx)(st:List Stmt)(t:TS):Prop:=∀(pins:List (Addr×Obj))(s:Shared)(U:St)(H:Hp)(D:Ends),Inv X pins U H s->t D U H->wpAny (model X.prog X.w) X.A (execs st X.env) (SP X pins D) X.xe s
theorem thn {α:Type}{t:Sem α}{Q Q':α->Shared->Prop}{M:Model}{A:Around}{E:Value->Shared->Prop}{s:Shared}(h:wpAny M A t Q E s)(hQ:∀a s,Q a s->Q' a s):wpAny M A t Q' E s:=wpAny_mono h hQ λ_ _ x=>x
section
variable {X:Cx}
theorem bin {a b:Expr}{ta tb:TE}(ha:PE X a ta)(hb:PE X b tb){pins:List (Addr×Obj)}{s:Shared}{U:St}{H:Hp}{R:V->V->Hp->Prop}(I:Inv X pins U H s)(h:ta U H λx H1=>tb U H1 λy H2=>R x y H2){α:Type}{Q:α->Shared->Prop}{f:Value->Value->Sem α}(hf:∀v u s2 x y H2,Inv X pins U H2 s2->RelV x v->RelV y u->R x y H2->wpAny (model X.prog X.w) X.A (f v u) Q X.xe s2):
  wpAny (model X.prog X.w) X.A (eval a X.env) (λv s₁=>wpAny (model X.prog X.w) X.A (eval b X.env) (λu s₂=>wpAny (model X.prog X.w) X.A (f v u) Q X.xe s₂) X.xe s₁) X.xe s:=by
 refine thn (ha pins s U H _ I h) λv s1 zQ=>?_;obtain⟨x,H1,I1,r1,q1⟩:=zQ;refine thn (hb pins s1 U H1 _ I1 q1) λu s2 zQ=>?_;obtain⟨y,H2,I2,r2,q2⟩:=zQ;exact hf v u s2 x y H2 I2 r1 r2 q2
noncomputable def jyw (i:Nat):TE:=λU H Q=>∃v,U[i]?=some (some v)/\Q v H
noncomputable def tC (v:V):TE:=λ_ H Q=>Q v H
theorem j6r {i:Nat}{x:Str}{pos:Pos}(hN:X.N[i]?=some x)(hv:Vis X.env.scope x)(hd:autoParam ((x==("__debug__":Str))=false) aP2)(hcd:autoParam ((x==("__classdict__":Str))=false) aP2):PE X (.Name x pos) (jyw i):=by
 intro pins s U H Q I h;obtain⟨v,e,h⟩:=h;obtain⟨m,hn,hl⟩:=I.loc;obtain⟨u,r,l⟩:=hl i x v hN e hv;have fin:EP X pins U Q u s:=⟨v,H,I,r,h⟩;rcases l with⟨hk,hm⟩|⟨hk,c,hc,hcell⟩
 .exact wpAny_Name (wpAny_loadName_local I.ok.kind hk hn hm fin) hd
 .rcases hk with hk|hk
  .exact wpAny_Name (wpAny_loadName_cell I.ok.kind hk hc hcell fin) hd
  .exact wpAny_Name (wpAny_loadName_free I.ok.kind hk hc hcell fin hcd) hd
theorem jk {i j pos}:PE X (.Constant (.int i) j pos) (tC (.int i)):=λ_ _ _ H _ I h=>wpAny_Constant_int ⟨.int i,H,I.tok _,⟨_,rfl⟩,h⟩
theorem jgd {b j pos}:PE X (.Constant (.bool b) j pos) (tC (.bl b)):=λ_ _ _ H _ I h=>Constant_bool ⟨.bl b,H,I,rfl,h⟩
theorem jmd {j pos}:PE X (.Constant .none j pos) (tC .non):=λ_ _ _ H _ I h=>Constant_none ⟨.non,H,I,rfl,h⟩
theorem gr {x j pos}:PE X (.Constant (.str x) j pos) (tC (.str x)):=λ_ _ _ H _ I h=>Calls.Constant_str ⟨.str x,H,I.tok _,⟨_,rfl⟩,h⟩
noncomputable def Gl (X:Cx)(x:Str):Prop:=X.env.kindOf x=some .globalImplicit
theorem jjd {E:Value->Shared->Prop}{pins:List (Addr×Obj)}{s:Shared}{U:St}{H:Hp}{x:Str}{u:Value}{pos:Pos}{Q:Value->Shared->Prop}(I:Inv X pins U H s)(hg:Gl X x)(hm:X.mg x=some u)(h:Q u s)(hd:autoParam ((x==("__debug__":Str))=false) aP2):wpAny (model X.prog X.w) X.A (eval (.Name x pos) X.env) Q E s:=
 Calls.Name_function_global I.ok.kind hg (Calls.loadGlobal_global (by rw[I.ok.glob];exact I.mod.glob.keeps I.bk) hm h) hd
theorem jw5 {E:Value->Shared->Prop}{pins:List (Addr×Obj)}{s:Shared}{U:St}{H:Hp}{x:Str}{u:Value}{pos:Pos}{Q:Value->Shared->Prop}(I:Inv X pins U H s)(hg:Gl X x)(hm:X.mg x=none)(hv:bootBuiltins x=some u)(h:Q u s)(hn:autoParam (x≠"__name__") aP2)(hd:autoParam ((x==("__debug__":Str))=false) aP2):wpAny (model X.prog X.w) X.A (eval (.Name x pos) X.env) Q E s:=by
 obtain⟨mb,h1,h2⟩:=I.mod.blt;exact Calls.Name_function_global I.ok.kind hg (Calls.loadGlobal_builtin (by rw[I.ok.glob];exact I.mod.glob.keeps I.bk) hm (by rw[I.ok.blt];exact h1.keeps I.bk) ((h2 x hn).trans hv) h) hd
theorem ze {x:Str}{v:V}{u:Value}{pos:Pos}(hg:Gl X x)(hm:X.mg x=some u)(r:RelV v u)(hd:autoParam ((x==("__debug__":Str))=false) aP2):PE X (.Name x pos) (tC v):=λ_ _ _ H _ I h=>jjd I hg hm ⟨v,H,I,r,h⟩ hd
theorem jcn {x:Str}{v:V}{u:Value}{pos:Pos}(hg:Gl X x)(hm:X.mg x=none)(hv:bootBuiltins x=some u)(r:RelV v u)(hn:autoParam (x≠"__name__") aP2)(hd:autoParam ((x==("__debug__":Str))=false) aP2):PE X (.Name x pos) (tC v):=λ_ _ _ H _ I h=>jw5 I hg hm hv ⟨v,H,I,r,h⟩ hn hd
variable {a b:Expr}{ta tb:TE}{pos:Pos}
noncomputable def PC (X:Cx)(op:CmpOp)(a b:Expr)(t:TE):Prop:=∀(pins:List (Addr×Obj))(s:Shared)(U:St)(H:Hp)(Q:VK),Inv X pins U H s->t U H Q->wpAny (model X.prog X.w) X.A (eval a X.env) (λv s₁=>wpAny (model X.prog X.w) X.A (eval b X.env) (λu s₂=>wpAny (model X.prog X.w) X.A (compareOp op v u) (EP X pins U Q) X.xe s₂) X.xe s₁) X.xe s
noncomputable def tB (t:TE):TT:=λU H Q=>t U H λx H1=>∃c,x= .bl c/\Q c H1
theorem jp0 {op:CmpOp}{t:TE}(h:PC X op a b t)(h1:behindInMarks op b=false:=by first|exact nobehind _ (by decide) (by decide)|rfl):PT X (.Compare a [op] [b] pos) (tB t):=by intro pins s U H Q I hw;refine wpAny_isTrue_Compare1 (thn (h pins s U H _ I hw) λv s1 h1=>thn h1 λu s2 h2=>thn h2 λc s3 zQ=>?_) h1;obtain⟨x,H1,I1,r1,q1⟩:=zQ;obtain⟨d,rfl,q⟩:=q1;cases r1;exact wpAny_truthy_bool ⟨H1,I1,q⟩
theorem qr {e:Expr}{t:TE}(h:PE X e t)(he:autoParam (∀whole,isTrue e X.env whole=(do let v<-whole;standAt e.pos;holding [v] (truthy v))) aP3):PT X e (tB t):=by intro pins s U H Q I hw;refine isTrue_plain (thn (h pins s U H _ I hw) λv s1 zQ=>?_) (he _);obtain⟨x,H1,I1,r1,q1⟩:=zQ;obtain⟨d,rfl,q⟩:=q1;cases r1;exact wpAny_truthy_bool ⟨H1,I1,q⟩
variable {tA tB':TT}{rest:List Expr}
noncomputable def qa3 (t u:TT):TT:=λU H Q=>t U H λc H1=>if c=true then u U H1 Q else Q false H1
noncomputable def tOr (t u:TT):TT:=λU H Q=>t U H λc H1=>if c=true then Q true H1 else u U H1 Q
noncomputable def qan (t:TT):TT:=λU H Q=>t U H λc H1=>Q (!c) H1
theorem jgr (ha:PT X a tA):PW X (.BoolOp .And [a] pos) tA:=by
 intro wh pins s U H Q I h;refine isTrue_and (thn (ha pins s U H Q I h) λc s1 e=>?_);cases c with
 |true=>exact isTrue_and_nil e
 |false=>exact e
theorem jb4 (ha:PT X a tA):PW X (.BoolOp .Or [a] pos) tA:=by
 intro wh pins s U H Q I h;refine isTrue_or (thn (ha pins s U H Q I h) λc s1 e=>?_);cases c with
 |false=>exact isTrue_or_nil e
 |true=>exact e
theorem jkk (ha:PT X a tA)(hb:PW X (.BoolOp .And (b::rest) pos) tB'):PW X (.BoolOp .And (a::b::rest) pos) (qa3 tA tB'):=by
 intro wh pins s U H Q I h;refine isTrue_and (thn (ha pins s U H _ I h) λc s1 zQ=>?_);obtain⟨H1,I1,q1⟩:=zQ;cases c with
 |true=>exact hb wh pins s1 U H1 Q I1 q1
 |false=>exact⟨H1,I1,q1⟩
theorem jhx (ha:PT X a tA)(hb:PW X (.BoolOp .Or (b::rest) pos) tB'):PW X (.BoolOp .Or (a::b::rest) pos) (tOr tA tB'):=by
 intro wh pins s U H Q I h;refine isTrue_or (thn (ha pins s U H _ I h) λc s1 zQ=>?_);obtain⟨H1,I1,q1⟩:=zQ;cases c with
 |true=>exact⟨H1,I1,q1⟩
 |false=>exact hb wh pins s1 U H1 Q I1 q1
theorem qz (ha:PT X a tA):PT X (.UnaryOp .Not a pos) (qan tA):=by intro pins s U H Q I h;exact isTrue_not (ha pins s U H (λc H1=>Q (!c) H1) I h)
noncomputable def j9n (ta tb:TE):TE:=λU H Q=>ta U H λx H1=>∃c,x= .bl c/\if c=true then tb U H1 Q else Q (.bl false) H1
noncomputable def j8x (ta:TE):TE:=λU H Q=>ta U H λx H1=>∃c,x= .bl c/\Q (.bl (!c)) H1
theorem jid {op}{t:TE}(h:PE X a t):PE X (.BoolOp op [a] pos) t:=λpins s U H Q I hw=>BoolOp_one (h pins s U H Q I hw)
theorem jhu (ha:PE X a ta)(hb:PE X (.BoolOp .And (b::rest) pos) tb):PE X (.BoolOp .And (a::b::rest) pos) (j9n ta tb):=by
 intro pins s U H Q I h;refine BoolOp_and (thn (ha pins s U H _ I h) λv s1 zQ=>?_);obtain⟨x,H1,I1,r1,q1⟩:=zQ;obtain⟨c,rfl,q1⟩:=q1;cases r1;refine wpAny_truthy_bool ?_;cases c with
 |true=>exact hb pins s1 U H1 Q I1 q1
 |false=>exact⟨.bl false,H1,I1,rfl,q1⟩
theorem j3o (ha:PE X a ta):PE X (.UnaryOp .Not a pos) (j8x ta):=by intro pins s U H Q I h;refine UnaryOp_ (thn (ha pins s U H _ I h) λv s1 zQ=>?_);obtain⟨x,H1,I1,r1,q1⟩:=zQ;obtain⟨c,rfl,q1⟩:=q1;cases r1;exact not_of (wpAny_truthy_bool ⟨.bl (!c),H1,I1,rfl,q1⟩)
noncomputable def tIf (t:TT)(ta tb:TE):TE:=λU H Q=>t U H λc H1=>if c=true then ta U H1 Q else tb U H1 Q
theorem jm7 {c:Expr}(hc:PT X c tA)(ha:PE X a ta)(hb:PE X b tb):PE X (.IfExp c a b pos) (tIf tA ta tb):=by
 intro pins s U H Q I h;refine wpAny_IfExp (thn (hc pins s U H _ I h) λd s1 zQ=>?_);obtain⟨H1,I1,q1⟩:=zQ;cases d with
 |true=>exact ha pins s1 U H1 Q I1 q1
 |false=>exact hb pins s1 U H1 Q I1 q1
end
noncomputable def SqL (K:PySem.W.Frag)(H:Hp)(a:Addr)(xs:List V):Prop:=Rd H a (.lst xs)\/∃(o:Obj)(its:Array Value)(n:Nat),K.lookup a=some o/\o.cls= .type "list"/\o.dict=none/\o.data= .seq its n/\its.size<=sizeLine/\Vals xs its.toList
noncomputable def SqT (K:PySem.W.Frag)(H:Hp)(a:Addr)(xs:List V):Prop:=Rd H a (.tup xs)\/∃(o:Obj)(its:Array Value)(n:Nat),K.lookup a=some o/\o.cls= .type "tuple"/\o.data= .seq its n/\its.size<=sizeLine/\Vals xs its.toList
noncomputable def qau:Value->Option V
 | .none=>some .non
 | .bool b=>some (.bl b)
 | .int i _=>some (.int i)
 | .str x _=>some (.str x)
 | .bytes b _=>some (.byt b)
 | .float b _=>some (.flt b)
 | .ref a=>some (.ref a)
 | .type n=>some (.ty n)
 |_=>none
theorem RelV.abs {x:V}{u:Value}(r:RelV x u):qau u=some x:=by
 cases x with
 |non=>cases r;rfl
 |bl _=>cases r;rfl
 |int _=>obtain⟨t,rfl⟩:=r;rfl
 |str _=>obtain⟨t,rfl⟩:=r;rfl
 |byt _=>obtain⟨t,rfl⟩:=r;rfl
 |flt _=>obtain⟨t,rfl⟩:=r;rfl
 |ref _=>cases r;rfl
 |ty _=>cases r;rfl
theorem RelV.inj {x y:V}{u:Value}(r:RelV x u)(q:RelV y u):x=y:=Option.some.inj (r.abs.symm.trans q.abs)
theorem Vals.inj:∀{xs ys:List V}{us:List Value},Vals xs us->Vals ys us->xs=ys:=λ{xs ys us} p q=>by
 induction p generalizing ys with
 |nil=>cases q;rfl
 |cons r t ih=>
  cases q with
  |cons r' t'=>rw[r.inj r',ih t']
section
variable {X:Cx}{pins:List (Addr×Obj)}{U:St}{H:Hp}{s:Shared}{a:Addr}{xs ys:List V}
theorem SqL.of {K:PySem.W.Frag}(h:H a=some (.lst xs)):SqL K H a xs:=.inl (.inl h)
theorem SqT.of {K:PySem.W.Frag}(h:H a=some (.tup xs)):SqT K H a xs:=.inl (.inl h)
theorem Inv.list (I:Inv X pins U H s)(h:SqL X.K H a xs):∃its:List Value,Vals xs its/\PlainL s.heap a its.toArray/\xs.length<=sizeLine:=by
 rcases h with h|⟨o,its,n,hk,hc,hd,hs,hz,r⟩
 .obtain⟨z,its,n,r,e⟩:=h.ok I.hok;exact⟨its,r,⟨_,n,e,rfl,rfl,rfl⟩,z⟩
 .refine⟨its.toList,r,⟨o,n,I.kIn a o hk,hc,hd,by simpa using hs⟩,?_⟩;have e:=r.length;simp only[Array.length_toList]at e;omega
theorem Inv.tuple (I:Inv X pins U H s)(h:SqT X.K H a xs):∃its:List Value,Vals xs its/\IsTup s.heap a its.toArray/\xs.length<=sizeLine:=by
 rcases h with h|⟨o,its,n,hk,hc,hs,hz,r⟩
 .obtain⟨z,its,r,p⟩:=h.ok I.hok;exact⟨its,r,p,z⟩
 .refine⟨its.toList,r,⟨o,I.kIn a o hk,hc,n,by simpa using hs⟩,?_⟩;have e:=r.length;simp only[Array.length_toList]at e;omega
theorem Inv.jwr (I:Inv X pins U H s)(h:SqL X.K H a xs)(h':SqL X.K H a ys):xs=ys:=by
 obtain⟨its,r,⟨o,n,e,_,_,d⟩,_⟩:=I.list h;obtain⟨its',r',⟨o',n',e',_,_,d'⟩,_⟩:=I.list h';rw[e]at e';cases e';rw[d]at d';injection d' with d1 _;have:its=its':=by simpa using congrArg Array.toList d1
 subst this;exact r.inj r'
theorem Inv.jqf (I:Inv X pins U H s)(h:SqT X.K H a xs)(h':SqT X.K H a ys):xs=ys:=by
 obtain⟨its,r,⟨o,e,_,n,d⟩,_⟩:=I.tuple h;obtain⟨its',r',⟨o',e',_,n',d'⟩,_⟩:=I.tuple h';rw[e]at e';cases e';rw[d]at d';injection d' with d1 _;have:its=its':=by simpa using congrArg Array.toList d1
 subst this;exact r.inj r'
end
noncomputable abbrev Cx.j1c (X:Cx)(E:Value->Shared->Prop):Cx:={X with xe:=E}
noncomputable abbrev Cx.nox (X:Cx):Cx:=X.j1c λ_ _=>False
theorem Cx.Ok.j1c {X:Cx}(ok:X.Ok)(E:Value->Shared->Prop):(X.j1c E).Ok:=⟨ok.mod,ok.kind,ok.glob,ok.blt,ok.above,ok.inj,ok.has,ok.cab,ok.hd,ok.frames,ok.stk,ok.exf,ok.bs,ok.bsz,ok.j3w,ok.j5u,ok.jvq,ok.frf⟩
theorem Cx.Ok.jof {X:Cx}{E:Value->Shared->Prop}(ok:(X.j1c E).Ok):X.Ok:=⟨ok.mod,ok.kind,ok.glob,ok.blt,ok.above,ok.inj,ok.has,ok.cab,ok.hd,ok.frames,ok.stk,ok.exf,ok.bs,ok.bsz,ok.j3w,ok.j5u,ok.jvq,ok.frf⟩
section
variable {X:Cx}{pins:List (Addr×Obj)}{U:St}{H:Hp}{s:Shared}{E:Value->Shared->Prop}
theorem Inv.j1c (I:Inv X pins U H s)(E:Value->Shared->Prop):Inv (X.j1c E) pins U H s:=⟨I.ok.j1c E,I.os,I.bare,I.base,I.loc,I.cell,I.free,I.jgs,I.pin,I.hok,I.len⟩
theorem Inv.jof (I:Inv (X.j1c E) pins U H s):Inv X pins U H s:=⟨I.ok.jof,I.os,I.bare,I.base,I.loc,I.cell,I.free,I.jgs,I.pin,I.hok,I.len⟩
theorem SP.jof {D:Ends}{f:Flow}{s':Shared}(h:SP (X.j1c E) pins D f s'):SP X pins D f s':=by
 cases f with
 |next=>obtain⟨U',H',I,q⟩:=h;exact⟨U',H',I.jof,q⟩
 |brk=>obtain⟨U',H',I,q⟩:=h;exact⟨U',H',I.jof,q⟩
 |cont=>obtain⟨U',H',I,q⟩:=h;exact⟨U',H',I.jof,q⟩
 |ret u=>obtain⟨v,U',H',I,r,q⟩:=h;exact⟨v,U',H',I.jof,r,q⟩
theorem PSs.nox {st:List Stmt}{t:TS}(h:PSs X.nox st t):PSs X st t:=λpins s U H D I hw=>wpAny_mono (h pins s U H D (I.j1c _) hw) (λ_ _ q=>q.jof) λ_ _ z=>False.elim z
end
section
variable {X:Cx}{st:Stmt}{rest:List Stmt}{t u:TS}{e:Expr}{te:TE}{pos:Pos}
noncomputable def j8l:TS:=λD U H=>D.nx U H
noncomputable def j9y (t u:TS):TS:=λD U H=>t {D with nx:=u D} U H
theorem j4:PSs X [] j8l:=λ_ _ U H _ I h=>wpAny_execs_nil ⟨U,H,I,h⟩
theorem jb (h1:PS X st t)(h2:PSs X rest u):PSs X (st::rest) (j9y t u):=by
 intro pins s U H D I h;refine wpAny_execs_cons (thn (h1 pins s U H {D with nx:=u D} I h) λf s1 q=>?_);cases f with
 |next=>obtain⟨U',H',I',q⟩:=q;exact h2 pins s1 U' H' D I' q
 |ret v=>exact q
 |brk=>exact q
 |cont=>exact q
theorem jd (h1:PS X st t):PSs X [st] t:=by
 intro pins s U H D I h;refine wpAny_execs_cons (thn (h1 pins s U H D I h) λf s1 q=>?_);cases f with
 |next=>exact wpAny_execs_nil q
 |ret v=>exact q
 |brk=>exact q
 |cont=>exact q
theorem Inv.quiet {pins:List (Addr×Obj)}{U:St}{H:Hp}{s:Shared}(I:Inv X pins U H s):interactive X.env=false:=by simp[interactive,I.ok.kind]
noncomputable def j87 (te:TE):TS:=λD U H=>te U H λ_ H1=>D.nx U H1
theorem qk (he:PE X e te)(hs:autoParam (swapsWith e none pos.line X.env=pure false) aP1):PS X (.Expr e pos) (j87 te):=by intro pins s U H D I h;exact wpAny_Expr_any (thn (he pins s U H _ I h) λv s1 ⟨x,H1,I1,r1,q1⟩=>⟨U,H1,I1,q1⟩) I.quiet hs
noncomputable def qar (te:TE):TS:=λD U H=>te U H D.rt
theorem jx (he:PE X e te):PS X (.Return (some e) pos) (qar te):=by intro pins s U H D I h;exact wpAny_Return_some (thn (he pins s U H _ I h) λv s1 ⟨x,H1,I1,r1,q1⟩=>⟨x,U,H1,I1,r1,q1⟩)
noncomputable def j90 (c:TT)(t u:TS):TS:=λD U H=>c U H λb H1=>if b=true then t D U H1 else u D U H1
theorem qv {c:Expr}{a b:List Stmt}{tc:TT}(hc:PT X c tc)(ha:PSs X a t)(hb:PSs X b u):PS X (.If c a b pos) (j90 tc t u):=by
 intro pins s U H D I h;refine wpAny_If (thn (hc pins s U H _ I h) λd s1 zQ=>?_);obtain⟨H1,I1,q1⟩:=zQ;cases d with
 |true=>exact ha pins s1 U H1 D I1 q1
 |false=>exact hb pins s1 U H1 D I1 q1
noncomputable def j3q:TS:=λ_ _ _=>False
theorem j2e:PS X st j3q:=λ_ _ _ _ _ _ h=>h.elim
theorem qf {sts:List Stmt}:PSs X sts j3q:=λ_ _ _ _ _ _ h=>h.elim
end
noncomputable abbrev TG:=V->St->Hp->(St->Hp->Prop)->Prop
noncomputable abbrev TGs:=List V->St->Hp->(St->Hp->Prop)->Prop
noncomputable def PG (X:Cx)(target:Expr)(t:TG):Prop:=∀(pins:List (Addr×Obj))(s:Shared)(U:St)(H:Hp)(v:V)(u:Value)(Q:St->Hp->Prop),Inv X pins U H s->RelV v u->t v U H Q->wpAny (model X.prog X.w) X.A (assign target X.env u) (λ_ s'=>∃U' H',Inv X pins U' H' s'/\Q U' H') X.xe s
noncomputable def PGs (X:Cx)(ts:List Expr)(t:TGs):Prop:=∀(pins:List (Addr×Obj))(s:Shared)(U:St)(H:Hp)(vs:List V)(us:List Value)(Q:St->Hp->Prop),Inv X pins U H s->Vals vs us->t vs U H Q->wpAny (model X.prog X.w) X.A (assignInOrder ((assignEach ts X.env).map (·.2)) us) (λ_ s'=>∃U' H',Inv X pins U' H' s'/\Q U' H') X.xe s
noncomputable abbrev j6y:=V->V->V->Hp->(Hp->Prop)->Prop
noncomputable def j8m (X:Cx)(t:j6y):Prop:=∀(pins:List (Addr×Obj))(s:Shared)(U:St)(H:Hp)(o i v:V)(ov iv u:Value)(Q:Hp->Prop),Inv X pins U H s->RelV o ov->RelV i iv->RelV v u->t o i v H Q->wpAny (model X.prog X.w) X.A (setItem ov iv u) (λ_ s'=>∃H',Inv X pins U H' s'/\Q H') X.xe s
noncomputable abbrev TIp:=V->V->Hp->VK->Prop
noncomputable def PIp (X:Cx)(op:Operator)(t:TIp):Prop:=∀(pins:List (Addr×Obj))(s:Shared)(U:St)(H:Hp)(x y:V)(v u:Value)(Q:VK),Inv X pins U H s->RelV x v->RelV y u->t x y H Q->wpAny (model X.prog X.w) X.A (inplaceOp op v u) (EP X pins U Q) X.xe s
section
variable {X:Cx}{pos:Pos}
noncomputable def jh5 (i:Nat):TG:=λv U H Q=>Q (U.set i (some v)) H
theorem ju {i:Nat}{x:Str}(hN:X.N.Nodup)(hi:X.N[i]?=some x)(hx:Loc X.env.scope x)(hf:autoParam (X.fn x=true\/X.env.scope.names.lookup x=some .local) aP4):PG X (.Name x pos) (jh5 i):=by intro pins s U H v u Q I r h;exact wpAny_assign_Name (jml I hN hi hx r (λs' I'=>⟨_,H,I',h⟩) hf)
noncomputable def j95:TGs:=λvs U H Q=>vs=[]/\Q U H
noncomputable def j5m (t:TG)(u:TGs):TGs:=λvs U H Q=>∃v r,vs=v::r/\t v U H λU' H'=>u r U' H' Q
theorem jfo:PGs X [] j95:=by intro pins s U H vs us Q I r h;obtain⟨e,h⟩:=h;subst e;cases r;exact assignInOrder_nil ⟨U,H,I,h⟩
theorem jy {e:Expr}{es:List Expr}{t:TG}{u:TGs}(h1:PG X e t)(h2:PGs X es u)(hs:autoParam ((assignEach (e::es) X.env).map (·.2)=assign e X.env::(assignEach es X.env).map (·.2)) aP1):PGs X (e::es) (j5m t u):=by
 intro pins s U H vs us Q I r h;obtain⟨v,vr,e1,h⟩:=h;subst e1;cases r with
 |cons r rr=>rw[hs];refine assignInOrder_cons (thn (h1 pins s U H _ _ _ I r h) λ_ s1 zQ=>?_);obtain⟨U1,H1,I1,q1⟩:=zQ;exact h2 pins s1 U1 H1 _ _ Q I1 rr q1
noncomputable def j9q (K:PySem.W.Frag)(n:Nat)(t:TGs):TG:=λv U H Q=>∃a xs,v= .ref a/\SqT K H a xs/\xs.length=n/\t xs U H Q
theorem jkl {es:List Expr}{k:Nat}{t:TGs}{n:Nat}(hc:X.calm=true)(h:PGs X es t)(hn:autoParam ((assignEach es X.env).length=n) aP1)(hst:autoParam ((assignEach es X.env).findIdx? (·.1)=none) aP1):PG X (.Tuple es k pos) (j9q X.K n t):=by
 intro pins s U H v u Q I r hw;obtain⟨a,xs,e1,hq,hl,hw⟩:=hw;subst e1;cases r;obtain⟨its,rv,ht,hz⟩:=I.tuple hq;refine assign_Tuple_tuple (I.ok.hd hc) ht (by simp[hn,<-hl,rv.length]) hst λh' hx=>?_;have I1:Inv X pins U H {s with heap:=h'}:=I.kept (t':=s.toks) λb o e=>hx b o (ne_of_lt (Heap.lt_size e)) e;exact h pins _ U H xs _ Q I1 (by simpa using rv) hw
noncomputable def qbc (to ti:TE)(t:j6y):TG:=λv U H Q=>to U H λo H1=>ti U H1 λi H2=>t o i v H2 λH3=>Q U H3
theorem jwz {o i:Expr}{to ti:TE}{t:j6y}(ho:PE X o to)(hi:PE X i ti)(hs:j8m X t)(ha:autoParam (∀v,assign (.Subscript o i pos) X.env v=(do
   let ov<-holding [v] (eval o X.env);let iv<-holding [v,ov] (eval i X.env)
   standAt pos
   holding [v,ov,iv] (setItem ov iv v)
   release [v,ov,iv] [])) aP3):PG X (.Subscript o i pos) (qbc to ti t):=by
 intro pins s U H v u Q I r h;rw[ha];refine wpAny_bind (wpAny_holding (thn (ho pins s U H _ I h) λov s1 zQ=>?_));obtain⟨x,H1,I1,r1,q1⟩:=zQ;refine wpAny_bind (wpAny_holding (thn (hi pins s1 U H1 _ I1 q1) λiv s2 zQ=>?_));obtain⟨y,H2,I2,r2,q2⟩:=zQ;refine wpAny_bind (wpAny_standAt (wpAny_bind (wpAny_holding (thn (hs pins s2 U H2 x y v ov iv u _ I2 r1 r2 r q2) λ_ s3 zQ=>?_))));obtain⟨H3,I3,q3⟩:=zQ;exact wpAny_release ⟨U,H3,I3,q3⟩
noncomputable def j77 (te:TE)(g:TG):TS:=λD U H=>te U H λx H1=>g x U H1 D.nx
theorem jhk {tg e:Expr}{te:TE}{g:TG}(he:PE X e te)(hg:PG X tg g)(hs:autoParam (swapsWithSole [tg] e pos.line X.env=pure false) aP1)(hw:autoParam (swappedStores [tg] e X.env=pure none) aP1)(h1:autoParam ((assignEach [tg] X.env).map (·.2)=[assign tg X.env]) aP1):PS X (.Assign [tg] e pos) (j77 te g):=by
 intro pins s U H D I h;refine wpAny_Assign_stores (thn (he pins s U H _ I h) λv s1 zQ=>?_) hs hw;obtain⟨x,H1,I1,r1,q1⟩:=zQ;rw[h1];exact thn (hg pins s1 U H1 x v _ I1 r1 q1) λ_ s2 q=>q
theorem j6 {i:Nat}{x:Str}{e:Expr}{te:TE}{pos':Pos}(hN:X.N.Nodup)(hi:X.N[i]?=some x)(hx:Loc X.env.scope x)(he:PE X e te)(hs:autoParam (swapsWith e (some (.Name x pos')) pos.line X.env=pure false) aP1)(hf:autoParam (X.fn x=true\/X.env.scope.names.lookup x=some .local) aP4):PS X (.Assign [.Name x pos'] e pos) (j77 te (jh5 i)):=by
 intro pins s U H D I h;refine wpAny_Assign_Name (thn (he pins s U H _ I h) λv s1 zQ=>?_) hs;obtain⟨y,H1,I1,r1,q1⟩:=zQ;exact jml I1 hN hi hx r1 (λs2 I2=>⟨_,H1,I2,q1⟩) hf
noncomputable def qa1 (i:Nat)(te:TE)(ti:TIp):TS:=λD U H=>∃x,U[i]?=some (some x)/\te U H λy H1=>ti x y H1 λz H2=>D.nx (U.set i (some z)) H2
theorem j6a {i:Nat}{x:Str}{e:Expr}{te:TE}{op:Operator}{ti:TIp}{pos':Pos}(hN:X.N.Nodup)(hi:X.N[i]?=some x)(hx:Loc X.env.scope x)(he:PE X e te)(ho:PIp X op ti)(hf:autoParam (X.fn x=true\/X.env.scope.names.lookup x=some .local) aP4):PS X (.AugAssign (.Name x pos') op e pos) (qa1 i te ti):=by
 intro pins s U H D I h;obtain⟨v,e1,h⟩:=h;obtain⟨m,hn,hl⟩:=I.loc;have vis:Vis X.env.scope x:=by rcases hx with k|k;exact .inl k;exact .inr (.inl k)
 obtain⟨u,r,l⟩:=hl i x v hi e1 vis;refine wpAny_AugAssign_Name ?_;have go:wpAny (model X.prog X.w) X.A (eval e X.env) (λw s₂=>wpAny (model X.prog X.w) X.A (inplaceOp op u w) (λr s₃=>wpAny (model X.prog X.w) X.A (storeName X.env x r) (λ_=>SP X pins D .next) X.xe s₃) X.xe s₂) X.xe s:=by refine thn (he pins s U H _ I h) λw s1 zQ=>?_;obtain⟨y,H1,I1,r1,q1⟩:=zQ;refine thn (ho pins s1 U H1 v y u w _ I1 r r1 q1) λz s2 zQ=>?_;obtain⟨zv,H2,I2,r2,q2⟩:=zQ;exact jml I2 hN hi hx r2 (λs3 I3=>⟨_,H2,I3,q2⟩) hf
 rcases l with⟨hk,hm⟩|⟨hk,c,hc,hcell⟩
 .exact wpAny_loadName_local I.ok.kind hk hn hm go
 .rcases hk with hk|hk
  .exact wpAny_loadName_cell I.ok.kind hk hc hcell go
  .rcases hx with k|k
   .have:X.env.scope.names.lookup x=some .free:=hk;rw[k]at this;cases this
   .have:X.env.scope.names.lookup x=some .free:=hk;rw[k]at this;cases this
noncomputable def j76 (to ti te:TE)(tget:V->V->Hp->VK->Prop)(tip:TIp)(tset:j6y):TS:=λD U H=>to U H λo H1=>ti U H1 λi H2=>tget o i H2 λx H3=>te U H3 λy H4=>tip x y H4 λz H5=>tset o i z H5 λH6=>D.nx U H6
noncomputable def j9v (X:Cx)(t:V->V->Hp->VK->Prop):Prop:=∀(pins:List (Addr×Obj))(s:Shared)(U:St)(H:Hp)(o i:V)(ov iv:Value)(Q:VK),Inv X pins U H s->RelV o ov->RelV i iv->t o i H Q->wpAny (model X.prog X.w) X.A (getItem ov iv) (EP X pins U Q) X.xe s
theorem jvw {o i e:Expr}{to ti te:TE}{tget:V->V->Hp->VK->Prop}{tip:TIp}{tset:j6y}{op:Operator}{tpos:Pos}(ho:PE X o to)(hi:PE X i ti)(hg:j9v X tget)(he:PE X e te)(hp:PIp X op tip)(hs:j8m X tset)(ha:∀ov iv new,augStore i ov iv new=(do holding [new,ov,iv] (setItem ov iv new);release [new,ov,iv] [];pure .next):=by intros;rfl):PS X (.AugAssign (.Subscript o i tpos) op e pos) (j76 to ti te tget tip tset):=by
 intro pins s U H D I h;refine wpAny_AugAssign_SubscriptAny (thn (ho pins s U H _ I h) λov s1 zQ=>?_) ha;obtain⟨x1,H1,I1,r1,q1⟩:=zQ;refine thn (hi pins s1 U H1 _ I1 q1) λiv s2 zQ=>?_;obtain⟨x2,H2,I2,r2,q2⟩:=zQ;refine thn (hg pins s2 U H2 x1 x2 ov iv _ I2 r1 r2 q2) λold s3 zQ=>?_;obtain⟨x3,H3,I3,r3,q3⟩:=zQ;refine thn (he pins s3 U H3 _ I3 q3) λv s4 zQ=>?_;obtain⟨x4,H4,I4,r4,q4⟩:=zQ;refine thn (hp pins s4 U H4 x3 x4 old v _ I4 r3 r4 q4) λnew s5 zQ=>?_;obtain⟨x5,H5,I5,r5,q5⟩:=zQ;exact thn (hs pins s5 U H5 x1 x2 x5 ov iv new _ I5 r1 r2 r5 q5) λ_ s6 ⟨H6,I6,q6⟩=>⟨U,H6,I6,q6⟩
noncomputable def ipI (f:Int->Int->Int):TIp:=λx y H Q=>∃i j,x= .int i/\y= .int j/\Q (.int (f i j)) H
theorem jzk:PIp X .Add (ipI λi j=>i+j):=by intro pins s U H x y v u Q I r1 r2 h;obtain⟨i,j,e1,e2,q⟩:=h;subst e1;subst e2;obtain⟨t,rfl⟩:=r1;obtain⟨t',rfl⟩:=r2;exact iadd_int ⟨.int _,H,I.tok _,⟨_,rfl⟩,q⟩
theorem j6n:PIp X .Sub (ipI λi j=>i-j):=by intro pins s U H x y v u Q I r1 r2 h;obtain⟨i,j,e1,e2,q⟩:=h;subst e1;subst e2;obtain⟨t,rfl⟩:=r1;obtain⟨t',rfl⟩:=r2;exact isub_int ⟨.int _,H,I.tok _,⟨_,rfl⟩,q⟩
noncomputable def j3a (c:TT)(tb:TS):TS:=λD U H=>∃W:Nat->St->Hp->Prop,(∃m,W m U H)/\∀m U H,W m U H->c U H λb H1=>if b=true then ∃N:St->Hp->Prop,(∀U' H',N U' H'->∃m',m'<m/\W m' U' H')/\tb {D with nx:=N,ct:=N,bk:=D.nx} U H1 else D.nx U H1
theorem jtg {c:Expr}{body:List Stmt}{tc:TT}{tb:TS}(hp:PassesOwn (model X.prog X.w) X.A X.env X.xe)(hc:PT X c tc)(hb:PSs X body tb):PS X (.While c body [] pos) (j3a tc tb):=by
 intro pins s U H D I h;obtain⟨W,⟨m0,w0⟩,turn⟩:=h;refine wpAny_While (codeAny_whileLoop (λn s'=>∃U' H',Inv X pins U' H' s'/\W n U' H') ?_ m0 ⟨U,H,I,w0⟩)
 rintro n s1 ⟨U1,H1,I1,w1⟩
 refine wpAny_passesOwn hp (thn (hc pins s1 U1 H1 _ I1 (turn n U1 H1 w1)) λb s2 zQ=>?_);obtain⟨H2,I2,q2⟩:=zQ;cases b with
 |true=>
  obtain⟨N,hN,q2⟩:=q2;rw[if_pos rfl];refine wpAny_passesOwn hp (thn (hb pins s2 U1 H2 _ I2 q2) λf s3 q3=>?_);cases f with
  |next=>obtain⟨σ3,H3,I3,n3⟩:=q3;obtain⟨m',hm,w3⟩:=hN σ3 H3 n3;exact⟨m',hm,σ3,H3,I3,w3⟩
  |cont=>obtain⟨σ3,H3,I3,n3⟩:=q3;obtain⟨m',hm,w3⟩:=hN σ3 H3 n3;exact⟨m',hm,σ3,H3,I3,w3⟩
  |brk=>exact q3
  |ret v=>exact q3
 |false=>rw[if_neg Bool.false_ne_true];exact wpAny_execs_nil ⟨U1,H2,I2,q2⟩
end
structure It where
 go:Nat->Hp->Prop
 yld:Nat->Hp->V->Hp->Prop
 stop:Nat->Hp->Prop
noncomputable def jvr (X:Cx)(pins:List (Addr×Obj))(H:Hp)(b:Addr):Prop:=H b=none/\b≠X.env.locals/\b∉X.fs/\(b∈X.ex\/X.s₀.heap.objs.size<=b)/\(∀x c,X.env.cells.lookup x=some c->c≠b)/\∀p∈X.pn++pins,p.1≠b
theorem Inv.j43 {X:Cx}{pins:List (Addr×Obj)}{U:St}{H H':Hp}{s:Shared}{b:Addr}(I:Inv X pins U H s)(hb:s.heap.objs.size<=b)(hn:H' b=none):jvr X pins H' b:=by
 refine⟨hn,Nat.ne_of_gt (lt_of_lt_of_le I.lt hb),I.j9w hb,.inr (le_trans I.sz hb),λx c e z=>?_,λp hp z=>?_⟩
 .obtain⟨v,q⟩:=I.cell x c e;exact absurd (lt_of_lt_of_le q.lt (by rw[z];exact hb)) (lt_irrefl _)
 .exact absurd (lt_of_lt_of_le (Heap.lt_size (I.pin p hp).1) (by rw[z];exact hb)) (lt_irrefl _)
structure Turn (P:Program)(w:World)(K:PySem.W.Frag)(tg:Expr)(J:It)(fp:List Addr)(it:Addr)(tn:Nat->Heap->Prop):Prop where
 mem:it∈fp
 obj:∀i h,tn i h->∀b∈fp,∃o,h.get? b=some o/\∀v,o.data≠.cell v
 keep:∀i h h',tn i h->(∀b∈fp,∀o,h.get? b=some o->h'.get? b=some o)->tn i h'
 item:∀(X:Cx),X.prog=P->X.w=w->X.K=K->X.calm=true->∀(i:Nat)(pins:List (Addr×Obj))(s:Shared)(U:St)(H:Hp)(E:Value->Shared->Prop),Inv X pins U H s->(∀b∈fp,jvr X pins H b)->tn i s.heap->J.go i H->wpAny (model P w) X.A (pyNext (.ref it)) (λr s1=>∃u,r=some u/\wpAny (model P w) X.A (letOwnedTupleGo tg (.ref it) u) (λ_ s2=>∃x H',Inv X pins U H' s2/\RelV x u/\J.yld i H x H'/\tn (i+1) s2.heap/\∀b∈fp,H' b=none) E s1) E s
 done:∀(X:Cx),X.prog=P->X.w=w->X.K=K->X.calm=true->∀(i:Nat)(pins:List (Addr×Obj))(s:Shared)(U:St)(H:Hp)(E:Value->Shared->Prop),Inv X pins U H s->(∀b∈fp,jvr X pins H b)->tn i s.heap->J.stop i H->wpAny (model P w) X.A (pyNext (.ref it)) (λr s1=>r=none/\Inv X pins U H s1) E s
 self:∀(A:Around)(i:Nat)(s:Shared)(Q:Value->Shared->Prop)(E:Value->Shared->Prop),tn i s.heap->Q (.ref it) s->wpAny (model P w) A (pyIter (.ref it)) Q E s
noncomputable abbrev TI:=St->Hp->(It->Hp->Prop)->Prop
noncomputable def PIE (X:Cx)(pins:List (Addr×Obj))(U:St)(tg:Expr)(R:It->Hp->Prop)(itv:Value)(s2:Shared):Prop:=∃(it:Addr)(fp:List Addr)(tn:Nat->Heap->Prop)(J:It)(H':Hp),itv= .ref it/\Inv X pins U H' s2/\Turn X.prog X.w X.K tg J fp it tn/\tn 0 s2.heap/\(∀b∈fp,jvr X pins H' b)/\R J H'
noncomputable def PI (X:Cx)(tg iter:Expr)(wi:TI):Prop:=∀(pins:List (Addr×Obj))(s:Shared)(U:St)(H:Hp)(R:It->Hp->Prop),Inv X pins U H s->wi U H R->wpAny (model X.prog X.w) X.A (eval iter X.env) (λv s1=>wpAny (model X.prog X.w) X.A (pyIter v) (PIE X pins U tg R) X.xe s1) X.xe s
theorem jwn {M:Model}{A:Around}{E:Value->Shared->Prop}{s:Shared}{tg:Expr}{it:Addr}{u:Value}{o:Obj}{n:String}{vs:Array Value}{Q:Unit->Shared->Prop}(ho:s.heap.get? it=some o)(hc:o.cls= .type n)(hd:o.data= .fields vs)(hn:["enumerate","zip","dict_itemiterator","dict_reverseitemiterator","odict_iterator","itertools.zip_longest","itertools.pairwise"].contains n=false)(hQ:Q () s):wpAny M A (letOwnedTupleGo tg (.ref it) u) Q E s:=by
  unfold letOwnedTupleGo;cases tg<;>first
    |exact wpAny_pure hQ
    |(cases u<;>first
        |exact wpAny_pure hQ
        | (refine wpAny_bind (wpAny_load ho ?_)
           rw[hc,hd];show wpAny M A (if(["enumerate","zip","dict_itemiterator","dict_reverseitemiterator","odict_iterator","itertools.zip_longest","itertools.pairwise"].contains n&&vs[0]?==some (rawInt _))=true then _ else _) Q E s;rw[if_neg (by intro h;rw[hn,Bool.false_and]at h;cases h)];exact wpAny_pure hQ))
noncomputable def Itl (K:PySem.W.Frag)(a:Addr):It:=⟨λi H=>∃xs x,SqL K H a xs/\xs[i]?=some x,λi H x H'=>H'=H/\∀xs,SqL K H a xs->xs[i]?=some x,λi H=>∃xs,SqL K H a xs/\xs.length<=i⟩
noncomputable def Itt (K:PySem.W.Frag)(a:Addr):It:=⟨λi H=>∃xs x,SqT K H a xs/\xs[i]?=some x,λi H x H'=>H'=H/\∀xs,SqT K H a xs->xs[i]?=some x,λi H=>∃xs,SqT K H a xs/\xs.length<=i⟩
noncomputable def Itr (lo:Int)(n:Nat):It:=⟨λi _=>i<n,λi H x H'=>H'=H/\x= .int (lo+i),λi _=>n<=i⟩
theorem jy1 {P:Program}{w:World}{K:PySem.W.Frag}{tg:Expr}(a it:Addr):Turn P w K tg (Itl K a) [it] it (λi h=>h.IsListIter it a i) where
 mem:=by simp
 obj:=λi h st b hb=>by
  have e:b=it:=by simpa using hb
  subst e;obtain⟨o,e,c,d⟩:=st;exact⟨o,e,λv z=>by rw[d]at z;cases z⟩
 keep:=λi h h' st k=>st.at λo e=>k it (by simp) o e
 item:=by intro X hP hw hK hc i pins s U H E I hf st hg;subst hP hw hK;obtain⟨xs,x,hq,hx⟩:=hg;obtain⟨its,rv,p,hz⟩:=I.list hq;obtain⟨u,hu,ru⟩:=rv.get hx;obtain⟨f0,f1,f2,f3,f4,f5⟩:=hf it (by simp);refine wpAny_pyNext_list_item st p.isList (x:=u) (by simpa using hu) λh' st' sb=>?_;have I1:Inv X pins U H {s with heap:=h'}:=I.turned (t':=s.toks) (λb o hb e=>(sb.2 b hb).trans e) f0 f1 f3 f4 f5;obtain⟨o,e,c,d⟩:=id st';exact⟨u,rfl,jwn (s:={s with heap:=h'}) e c d (by decide) ⟨x,H,I1,ru,⟨rfl,λys hy=>by rw[I.jwr hy hq];exact hx⟩,st',λb hb=>(hf b hb).1⟩⟩
 done:=by intro X hP hw hK hc i pins s U H E I hf st hg;subst hP hw hK;obtain⟨xs,hq,hx⟩:=hg;obtain⟨its,rv,p,hz⟩:=I.list hq;obtain⟨f0,f1,f2,f3,f4,f5⟩:=hf it (by simp);have hl:=rv.length;exact wpAny_pyNext_list_end (I.ok.hd hc) st p.isList (by simp;omega) λh' eb=>⟨rfl,I.turned (t':=s.toks) (λb o hb e=>eb b o hb e) f0 f1 f3 f4 f5⟩
 self:=λ_ _ _ _ _ st h=>wpAny_pyIter_listiter st h
theorem jx2 {P:Program}{w:World}{K:PySem.W.Frag}{tg:Expr}(a it:Addr):Turn P w K tg (Itt K a) [it] it (λi h=>h.IsTupleIter it a i) where
 mem:=by simp
 obj:=λi h st b hb=>by
  have e:b=it:=by simpa using hb
  subst e;obtain⟨o,e,c,d⟩:=st;exact⟨o,e,λv z=>by rw[d]at z;cases z⟩
 keep:=λi h h' st k=>st.at λo e=>k it (by simp) o e
 item:=by intro X hP hw hK hc i pins s U H E I hf st hg;subst hP hw hK;obtain⟨xs,x,hq,hx⟩:=hg;obtain⟨its,rv,p,hz⟩:=I.tuple hq;obtain⟨u,hu,ru⟩:=rv.get hx;obtain⟨f0,f1,f2,f3,f4,f5⟩:=hf it (by simp);refine wpAny_pyNext_tuple_item st (show s.heap.IsTuple a its.toArray from p) (x:=u) (by simpa using hu) λh' st' sb=>?_;have I1:Inv X pins U H {s with heap:=h'}:=I.turned (t':=s.toks) (λb o hb e=>(sb.2 b hb).trans e) f0 f1 f3 f4 f5;obtain⟨o,e,c,d⟩:=id st';exact⟨u,rfl,jwn (s:={s with heap:=h'}) e c d (by decide) ⟨x,H,I1,ru,⟨rfl,λys hy=>by rw[I.jqf hy hq];exact hx⟩,st',λb hb=>(hf b hb).1⟩⟩
 done:=by intro X hP hw hK hc i pins s U H E I hf st hg;subst hP hw hK;obtain⟨xs,hq,hx⟩:=hg;obtain⟨its,rv,p,hz⟩:=I.tuple hq;obtain⟨f0,f1,f2,f3,f4,f5⟩:=hf it (by simp);have hl:=rv.length;exact wpAny_pyNext_tuple_end (I.ok.hd hc) st (show s.heap.IsTuple a its.toArray from p) (by simp;omega) λh' eb=>⟨rfl,I.turned (t':=s.toks) (λb o hb e=>eb b o hb e) f0 f1 f3 f4 f5⟩
 self:=λ_ _ _ _ _ st h=>wpAny_pyIter_tupleiter st h
theorem jxy {P:Program}{w:World}{K:PySem.W.Frag}{tg:Expr}(it:Addr)(lo:Int)(n:Nat):Turn P w K tg (Itr lo n) [it] it (λi h=>IsRangeIter h it (lo+(i:Nat)*1) ((n:Int)-(i:Nat)) 1) where
 mem:=by simp
 obj:=λi h st b hb=>by
  have e:b=it:=by simpa using hb
  subst e;exact⟨_,st,λv z=>by have z':Data.fields _=Data.cell v:=z;cases z'⟩
 keep:=λi h h' st k=>k it (by simp) _ st
 item:=by intro X hP hw hK hc i pins s U H E I hf st hg;subst hP hw hK;obtain⟨f0,f1,f2,f3,f4,f5⟩:=hf it (by simp);have W:=Walks.range (prog:=X.prog) (w:=X.w) (I.ok.hd hc) it lo 1 n;refine W.item i s _ _ hg st λv h' tk hv st' kk=>?_;obtain⟨t,rfl⟩:=hv;have I1:Inv X pins U H {s with heap:=h',toks:=tk}:=I.turned (λb o hb e=>kk b o (by simpa using hb) e) f0 f1 f3 f4 f5;refine⟨_,rfl,jwn (s:={s with heap:=h',toks:=tk}) (n:="range_iterator") st' rfl rfl (by decide) ⟨.int (lo+i),H,I1,⟨t,?_⟩,⟨rfl,rfl⟩,st',λb hb=>(hf b hb).1⟩⟩;rw[Int.mul_one]
 done:=by intro X hP hw hK hc i pins s U H E I hf st hg;subst hP hw hK;obtain⟨f0,f1,f2,f3,f4,f5⟩:=hf it (by simp);exact wpAny_pyNext_range_end (I.ok.hd hc) st (by have:n<=i:=hg;omega) λh' eb=>⟨rfl,I.turned (t':=s.toks) (λb o hb e=>eb b o hb e) f0 f1 f3 f4 f5⟩
 self:=λ_ _ _ _ _ st h=>wpAny_pyIter_rangeiter st h
section
variable {X:Cx}{tg:Expr}
noncomputable def j1y (K:PySem.W.Frag)(tl:TE):TI:=λU H R=>tl U H λx H1=>∃a,x= .ref a/\(∃xs,SqL K H1 a xs)/\R (Itl K a) H1
noncomputable def j92 (K:PySem.W.Frag)(tl:TE):TI:=λU H R=>tl U H λx H1=>∃a,x= .ref a/\(∃xs,SqT K H1 a xs)/\R (Itt K a) H1
theorem jck {l:Expr}{tl:TE}(hl:PE X l tl):PI X tg l (j1y X.K tl):=by
 intro pins s U H R I h;refine thn (hl pins s U H _ I h) λv s1 zQ=>?_;obtain⟨x,H1,I1,r1,q1⟩:=zQ;obtain⟨a,e,⟨xs,hq⟩,q⟩:=q1;subst e;cases r1;obtain⟨its,rv,p,hz⟩:=I1.list hq;refine wpAny_pyIter_list p.isList ?_;refine⟨s1.heap.objs.size,[s1.heap.objs.size],_,_,H1,rfl,I1.kept (t':=s1.toks) λb o e=>Heap.get?_push_of_some _ e,jy1 a _,⟨_,Heap.get?_push_size _ rfl,rfl,rfl⟩,λb hb=>?_,q⟩;have e:b=s1.heap.objs.size:=by simpa using hb
 subst e;exact I1.j43 (le_refl _) (I1.hok.fresh (le_refl _))
theorem j7q {l:Expr}{tl:TE}(hl:PE X l tl):PI X tg l (j92 X.K tl):=by
 intro pins s U H R I h;refine thn (hl pins s U H _ I h) λv s1 zQ=>?_;obtain⟨x,H1,I1,r1,q1⟩:=zQ;obtain⟨a,e,⟨xs,hq⟩,q⟩:=q1;subst e;cases r1;obtain⟨its,rv,p,hz⟩:=I1.tuple hq;refine wpAny_pyIter_tuple (show s1.heap.IsTuple a its.toArray from p) ?_;refine⟨s1.heap.objs.size,[s1.heap.objs.size],_,_,H1,rfl,I1.kept (t':=s1.toks) λb o e=>Heap.get?_push_of_some _ e,jx2 a _,⟨_,Heap.get?_push_size _ rfl,rfl,rfl⟩,λb hb=>?_,q⟩;have e:b=s1.heap.objs.size:=by simpa using hb
 subst e;exact I1.j43 (le_refl _) (I1.hok.fresh (le_refl _))
theorem j10 {pins:List (Addr×Obj)}{U:St}{H:Hp}{s:Shared}{R:It->Hp->Prop}{E:Value->Shared->Prop}{lo hi:Int}{t u v:Tok}{tk:Nat}(I:Inv X pins U H s)(h1:-(2^62)<=lo)(h2:lo<2^62)(h3:-(2^62)<=hi)(h4:hi<2^62)(q:R (Itr lo (hi-lo).toNat) H):wpAny (model X.prog X.w) X.A (pyIter (.ref s.heap.objs.size)) (PIE X pins U tg R) E {s with heap:=s.heap.push {cls:=.type "range",data:=.fields #[.int lo t,.int hi u,.int 1 v]},toks:=tk}:=by
 refine wpAny_pyIter_range (IsRange.new ..) (small_one h1 h2 h3 h4) ?_;have I1:Inv X pins U H {s with heap:=s.heap.push {cls:=.type "range",data:=.fields #[.int lo t,.int hi u,.int 1 v]},toks:=tk}:=I.kept λb o e=>Heap.get?_push_of_some _ e;refine⟨(s.heap.push {cls:=.type "range",data:=.fields #[.int lo t,.int hi u,.int 1 v]}).objs.size,[(s.heap.push {cls:=.type "range",data:=.fields #[.int lo t,.int hi u,.int 1 v]}).objs.size],_,_,H,rfl,I1.kept (t':=tk) λb o e=>Heap.get?_push_of_some _ e,jxy _ lo (hi-lo).toNat,?_,λb hb=>?_,q⟩
 .have e1:lo+((0:Nat):Int)*1=lo:=by simp
  have e2:(((hi-lo).toNat:Nat):Int)-((0:Nat):Int)=Builtin.Range.rangeSize lo hi 1:=by rw[rangeSize_one];split<;>omega
  show IsRangeIter _ _ (lo+((0:Nat):Int)*1) ((((hi-lo).toNat:Nat):Int)-((0:Nat):Int)) 1;rw[e1,e2];exact Heap.get?_push_size _ rfl
 .have e:b=(s.heap.push {cls:=.type "range",data:=.fields #[.int lo t,.int hi u,.int 1 v]}).objs.size:=by simpa using hb
  subst e;exact I1.j43 (le_refl _) (I1.hok.fresh (le_refl _))
noncomputable def j6m (ta:TA):TI:=λU H R=>ta U H λvs H1=>∃j:Int,vs=[.int j]/\-(2^62)<=j/\j<2^62/\R (Itr 0 j.toNat) H1
theorem jel {a:Expr}{ta:TA}{p pos:Pos}(hg:Gl X "range")(hm:X.mg "range"=none)(ha:PA X [a] ta)(hs:autoParam (starEach [a] X.env=[(false,eval a X.env)]) aP1):PI X tg (.Call (.Name "range" p) [a] [] pos) (j6m ta):=by
 intro pins s U H R I h;refine Call_ (jw5 I hg hm boot_range (PyProof.Rows.callWith_type1 (thn (ha pos pins s U H _ I h) λus s1 zQ=>?_) hs rfl));obtain⟨vs,H1,I1,r1,q1⟩:=zQ;obtain⟨j,e,q1,q2,q⟩:=q1;subst e;cases r1 with
 |cons r rr=>cases rr;obtain⟨t,rfl⟩:=r;exact call_range_1 (j10 I1 (by omega) (by omega) q1 q2 (by simpa using q))
noncomputable def qal (wi:TI)(g:TG)(tb:TS):TS:=λD U H=>wi U H λJ H1=>∃W:Nat->Nat->St->Hp->Prop,(∃m,W 0 m U H1)/\∀i m U H,W i m U H->(J.stop i H/\D.nx U H)\/(J.go i H/\∃N:St->Hp->Prop,(∀U' H',N U' H'->∃m',m'<m/\W (i+1) m' U' H')/\∀x H',J.yld i H x H'->g x U H' λU2 H2=>tb {D with nx:=N,ct:=N,bk:=D.nx} U2 H2)
noncomputable def jl3 (fp:List Addr)(h:Heap):List (Addr×Obj):=fp.filterMap λb=>(h.get? b).map λo=>(b,o)
theorem jjj {fp:List Addr}{h:Heap}{b:Addr}{o:Obj}(hb:b∈fp)(e:h.get? b=some o):(b,o)∈jl3 fp h:=mem_filterMap.mpr ⟨b,hb,by rw[e];rfl⟩
theorem ju3 {fp:List Addr}{h:Heap}{p:Addr×Obj}(hp:p∈jl3 fp h):p.1∈fp/\h.get? p.1=some p.2:=by
 obtain⟨b,hb,e⟩:=mem_filterMap.mp hp;cases q:h.get? b with
 |none=>rw[q]at e;cases e
 |some o=>rw[q]at e;have e':(b,o)=p:=Option.some.inj e;subst e';exact⟨hb,q⟩
theorem Inv.pinned {pins:List (Addr×Obj)}{U:St}{H:Hp}{s:Shared}{fp:List Addr}(I:Inv X pins U H s)(hf:∀b∈fp,jvr X pins H b)(ho:∀b∈fp,∃o,s.heap.get? b=some o/\∀v,o.data≠.cell v):Inv X (pins++jl3 fp s.heap) U H s:=I.jta λp hp=>(mem_append.mp hp).elim (λz=>I.pin p (mem_append_right _ z)) λz=>by obtain⟨hb,e⟩:=ju3 z;obtain⟨f0,f1,f2,_⟩:=hf p.1 hb;obtain⟨o,e',d⟩:=ho p.1 hb;rw[e]at e';cases e';exact⟨e,f0,f1,f2,d⟩
theorem Inv.jl2 {pins pl:List (Addr×Obj)}{U:St}{H:Hp}{s:Shared}(I:Inv X (pins++pl) U H s):Inv X pins U H s:=I.jta λp hp=>I.pin p (mem_append_right _ (mem_append_left _ hp))
theorem jo2 {iter:Expr}{body:List Stmt}{wi:TI}{g:TG}{tb:TS}{pos:Pos}(hp:PassesOwn (model X.prog X.w) X.A X.env X.xe)(hc:X.calm=true)(hi:PI X tg iter wi)(hg:PG X tg g)(hb:PSs X body tb)(hs:autoParam (∀x,foldedSetIterable iter X.env x=pure x) aP3):PS X (.For tg iter body [] pos) (qal wi g tb):=by
 intro pins s U H D I h;refine wpAny_For (thn (hi pins s U H _ I h) λv s1 h1=>thn h1 λitv s2 h2=>?_) hs;obtain⟨it,fp,tn,J,H2,e,I2,T,st2,f2,W,⟨m0,w0⟩,turn⟩:=h2;subst e;have stat:∀{H':Hp},(∀b∈fp,H' b=none)->∀b∈fp,jvr X pins H' b:=λhn b hb=>⟨hn b hb,(f2 b hb).2⟩;refine codeAny_forLoop_any (λn s'=>∃i U' H',Inv X pins U' H' s'/\tn i s'.heap/\(∀b∈fp,H' b=none)/\W i n U' H') ?_ m0 ⟨0,U,H2,I2,st2,λb hb=>(f2 b hb).1,w0⟩
 rintro n s3 ⟨i,σ3,H3,I3,st3,fr3,w3⟩
 rcases turn i n σ3 H3 w3 with⟨stop,qn⟩|⟨go,N,hN,step⟩
 .refine wpAny_passesOwn hp (thn (T.done X rfl rfl rfl hc i pins s3 σ3 H3 X.xe I3 (stat fr3) st3 stop) λr s4 ⟨hr,I4⟩=>?_);subst hr;exact wpAny_execs_nil ⟨σ3,H3,I4,qn⟩
 .refine wpAny_passesOwn hp (thn (T.item X rfl rfl rfl hc i pins s3 σ3 H3 X.xe I3 (stat fr3) st3 go) λr s4 zQ=>?_);obtain⟨u,hr,h4⟩:=zQ;subst hr;refine wpAny_passesOwn hp (thn h4 λ_ s5 zQ=>?_);obtain⟨x,H5,I5,r5,y5,st5,fr5⟩:=zQ;have I5':=I5.pinned (stat fr5) (T.obj _ _ st5);refine wpAny_passesOwn hp (thn (hg _ s5 σ3 H5 x u _ I5' r5 (step x H5 y5)) λ_ s6 zQ=>?_);obtain⟨σ6,H6,I6,q6⟩:=zQ;refine wpAny_passesOwn hp (thn (hb _ s6 σ6 H6 _ I6 q6) λf s7 q7=>?_);have again:∀{σ7:St}{H7:Hp},Inv X (pins++jl3 fp s5.heap) σ7 H7 s7->N σ7 H7->∃m,m<n/\∃i U' H',Inv X pins U' H' s7/\tn i s7.heap/\(∀b∈fp,H' b=none)/\W i m U' H':=λ{σ7 H7} I7 n7=>by
   obtain⟨m',hm,w7⟩:=hN σ7 H7 n7;refine⟨m',hm,i+1,σ7,H7,I7.jl2,T.keep _ _ _ st5 λb hb o e=>(I7.pin (b,o) (mem_append_right _ (mem_append_right _ (jjj hb e)))).1,λb hb=>?_,w7⟩;obtain⟨o,e,d⟩:=T.obj _ _ st5 b hb;exact(I7.pin (b,o) (mem_append_right _ (mem_append_right _ (jjj hb e)))).2.1
  cases f with
  |next=>obtain⟨σ7,H7,I7,n7⟩:=q7;exact again I7 n7
  |cont=>obtain⟨σ7,H7,I7,n7⟩:=q7;exact again I7 n7
  |brk=>obtain⟨σ7,H7,I7,q7⟩:=q7;exact⟨σ7,H7,I7.jl2,q7⟩
  |ret v=>obtain⟨x7,σ7,H7,I7,r7,q7⟩:=q7;exact⟨x7,σ7,H7,I7.jl2,r7,q7⟩
end
theorem jmw {K:PySem.W.Frag}{a:Addr}{xs:List V}{g:TG}{tb:TS}{D:Ends}{U:St}{H:Hp}(Pv:Nat->St->Hp->Prop)(h0:Pv 0 U H)(hl:∀i U H,i<=xs.length->Pv i U H->SqL K H a xs)(hs:∀i x U H,xs[i]?=some x->Pv i U H->g x U H λU2 H2=>tb {D with nx:=Pv (i+1),ct:=Pv (i+1),bk:=D.nx} U2 H2)(hd:∀U H,Pv xs.length U H->D.nx U H):∃W:Nat->Nat->St->Hp->Prop,(∃m,W 0 m U H)/\∀i m U H,W i m U H->((Itl K a).stop i H/\D.nx U H)\/((Itl K a).go i H/\∃N:St->Hp->Prop,(∀U' H',N U' H'->∃m',m'<m/\W (i+1) m' U' H')/\∀x H',(Itl K a).yld i H x H'->g x U H' λU2 H2=>tb {D with nx:=N,ct:=N,bk:=D.nx} U2 H2):=by
 refine⟨λi m U H=>m=xs.length-i/\i<=xs.length/\Pv i U H,⟨xs.length,by simp,zero_le _,h0⟩,?_⟩
 rintro i m U H ⟨rfl,hi,p⟩
 have q:=hl i U H hi p;by_cases hlt:i<xs.length
 .refine .inr ⟨⟨xs,xs[i],q,by simp[hlt]⟩,Pv (i+1),λU' H' p'=>⟨xs.length-(i+1),by omega,rfl,hlt,p'⟩,λx H' y=>?_⟩;obtain⟨e,y⟩:=y;subst e;exact hs i x U _ (y xs q) p
 .have e:i=xs.length:=by omega
  subst e;exact .inl ⟨⟨xs,q,le_refl _⟩,hd U H p⟩
theorem j4v {K:PySem.W.Frag}{a:Addr}{xs:List V}{g:TG}{tb:TS}{D:Ends}{U:St}{H:Hp}(Pv:Nat->St->Hp->Prop)(h0:Pv 0 U H)(hl:∀i U H,i<=xs.length->Pv i U H->SqT K H a xs)(hs:∀i x U H,xs[i]?=some x->Pv i U H->g x U H λU2 H2=>tb {D with nx:=Pv (i+1),ct:=Pv (i+1),bk:=D.nx} U2 H2)(hd:∀U H,Pv xs.length U H->D.nx U H):∃W:Nat->Nat->St->Hp->Prop,(∃m,W 0 m U H)/\∀i m U H,W i m U H->((Itt K a).stop i H/\D.nx U H)\/((Itt K a).go i H/\∃N:St->Hp->Prop,(∀U' H',N U' H'->∃m',m'<m/\W (i+1) m' U' H')/\∀x H',(Itt K a).yld i H x H'->g x U H' λU2 H2=>tb {D with nx:=N,ct:=N,bk:=D.nx} U2 H2):=by
 refine⟨λi m U H=>m=xs.length-i/\i<=xs.length/\Pv i U H,⟨xs.length,by simp,zero_le _,h0⟩,?_⟩
 rintro i m U H ⟨rfl,hi,p⟩
 have q:=hl i U H hi p;by_cases hlt:i<xs.length
 .refine .inr ⟨⟨xs,xs[i],q,by simp[hlt]⟩,Pv (i+1),λU' H' p'=>⟨xs.length-(i+1),by omega,rfl,hlt,p'⟩,λx H' y=>?_⟩;obtain⟨e,y⟩:=y;subst e;exact hs i x U _ (y xs q) p
 .have e:i=xs.length:=by omega
  subst e;exact .inl ⟨⟨xs,q,le_refl _⟩,hd U H p⟩
theorem jt2 {lo:Int}{n:Nat}{g:TG}{tb:TS}{D:Ends}{U:St}{H:Hp}(Pv:Nat->St->Hp->Prop)(h0:Pv 0 U H)(hs:∀i U H,i<n->Pv i U H->g (.int (lo+i)) U H λU2 H2=>tb {D with nx:=Pv (i+1),ct:=Pv (i+1),bk:=D.nx} U2 H2)(hd:∀U H,Pv n U H->D.nx U H):∃W:Nat->Nat->St->Hp->Prop,(∃m,W 0 m U H)/\∀i m U H,W i m U H->((Itr lo n).stop i H/\D.nx U H)\/((Itr lo n).go i H/\∃N:St->Hp->Prop,(∀U' H',N U' H'->∃m',m'<m/\W (i+1) m' U' H')/\∀x H',(Itr lo n).yld i H x H'->g x U H' λU2 H2=>tb {D with nx:=N,ct:=N,bk:=D.nx} U2 H2):=by
 refine⟨λi m U H=>m=n-i/\i<=n/\Pv i U H,⟨n,by simp,zero_le _,h0⟩,?_⟩
 rintro i m U H ⟨rfl,hi,p⟩
 by_cases hlt:i<n
 .refine .inr ⟨hlt,Pv (i+1),λU' H' p'=>⟨n-(i+1),by omega,rfl,hlt,p'⟩,λx H' y=>?_⟩;obtain⟨e,y⟩:=y;subst e y;exact hs i U _ hlt p
 .have e:i=n:=by omega
  subst e;exact .inl ⟨le_refl _,hd U H p⟩
theorem jsz {c:TT}{tb:TS}{D:Ends}{U:St}{H:Hp}(Pv:St->Hp->Prop)(μ:St->Hp->Nat)(h0:Pv U H)(hs:∀U H,Pv U H->c U H λb H1=>if b=true then tb {D with nx:=λU' H'=>Pv U' H'/\μ U' H'<μ U H,ct:=λU' H'=>Pv U' H'/\μ U' H'<μ U H,bk:=D.nx} U H1 else D.nx U H1)(mono:∀U H Q Q',(∀b H1,Q b H1->Q' b H1)->c U H Q->c U H Q'):j3a c tb D U H:=by
 refine⟨λm U H=>m=μ U H/\Pv U H,⟨_,rfl,h0⟩,?_⟩
 rintro m U H ⟨rfl,p⟩
 refine mono U H _ _ (λb H1 q=>?_) (hs U H p);cases b with
 |true=>exact⟨_,λU' H' ⟨p',l⟩=>⟨_,l,rfl,p'⟩,q⟩
 |false=>exact q
noncomputable abbrev R2:=V->V->Hp->VK->Prop
noncomputable def OpR (X:Cx)(f:Value->Value->Sem Value)(r:R2):Prop:=∀(pins:List (Addr×Obj))(s:Shared)(U:St)(H:Hp)(x y:V)(v u:Value)(Q:VK),Inv X pins U H s->RelV x v->RelV y u->r x y H Q->wpAny (model X.prog X.w) X.A (f v u) (EP X pins U Q) X.xe s
noncomputable def UnR (X:Cx)(f:Value->Sem Value)(r:V->Hp->VK->Prop):Prop:=∀(pins:List (Addr×Obj))(s:Shared)(U:St)(H:Hp)(x:V)(v:Value)(Q:VK),Inv X pins U H s->RelV x v->r x H Q->wpAny (model X.prog X.w) X.A (f v) (EP X pins U Q) X.xe s
noncomputable def jmo (X:Cx)(f:Value)(r:List V->Hp->VK->Prop):Prop:=∀(pins:List (Addr×Obj))(s:Shared)(U:St)(H:Hp)(xs:List V)(us:List Value)(Q:VK),Inv X pins U H s->Vals xs us->r xs H Q->wpAny (model X.prog X.w) X.A (call f us) (EP X pins U Q) X.xe s
noncomputable def qaz (X:Cx)(r:V->Hp->(Bool->Hp->Prop)->Prop):Prop:=∀(pins:List (Addr×Obj))(s:Shared)(U:St)(H:Hp)(x:V)(v:Value)(Q:Bool->Hp->Prop),Inv X pins U H s->RelV x v->r x H Q->wpAny (model X.prog X.w) X.A (truthy v) (TP X pins U Q) X.xe s
noncomputable def tOp (r:R2)(ta tb:TE):TE:=λU H Q=>ta U H λx H1=>tb U H1 λy H2=>r x y H2 Q
noncomputable def tUn (r:V->Hp->VK->Prop)(ta:TE):TE:=λU H Q=>ta U H λx H1=>r x H1 Q
noncomputable def rI (C:Int->Int->Prop)(g:Int->Int->V):R2:=λx y H Q=>∃i j,x= .int i/\y= .int j/\C i j/\Q (g i j) H
noncomputable def rI0 (g:Int->Int->V):R2:=λx y H Q=>∃i j,x= .int i/\y= .int j/\Q (g i j) H
noncomputable def rU (g:Int->V):V->Hp->VK->Prop:=λx H Q=>∃i,x= .int i/\Q (g i) H
section
variable {X:Cx}{a b c:Expr}{ta tb tc:TE}{pos:Pos}
theorem j88 (ha:PE X a ta)(hb:PE X b tb){pins:List (Addr×Obj)}{s:Shared}{U:St}{H:Hp}{R:V->V->Hp->Prop}(I:Inv X pins U H s)(h:ta U H λx H1=>tb U H1 λy H2=>R x y H2){Q:Value->Shared->Prop}{f:Value->Value->Sem Value}(hf:∀v u s2 x y H2,Inv X pins U H2 s2->RelV x v->RelV y u->R x y H2->wpAny (model X.prog X.w) X.A (f v u) Q X.xe s2):
  wpAny (model X.prog X.w) X.A (eval a X.env) (λv s₁=>wpAny (model X.prog X.w) X.A (eval b X.env) (λu s₂=>wpAny (model X.prog X.w) X.A (f v u) Q X.xe s₂) X.xe s₁) X.xe s:=by
 refine thn (ha pins s U H _ I h) λv s1 zQ=>?_;obtain⟨x,H1,I1,r1,q1⟩:=zQ;refine thn (hb pins s1 U H1 _ I1 q1) λu s2 zQ=>?_;obtain⟨y,H2,I2,r2,q2⟩:=zQ;exact hf v u s2 x y H2 I2 r1 r2 q2
theorem qy {op:Operator}{r:R2}(ho:OpR X (binaryOp op) r)(ha:PE X a ta)(hb:PE X b tb):PE X (.BinOp a op b pos) (tOp r ta tb):=by intro pins s U H Q I h;exact wpAny_BinOp (j88 ha hb I h λv u s2 x y H2 I2 rx ry q=>ho pins s2 U H2 x y v u Q I2 rx ry q)
theorem j8e {op:UnaryOp}{r:V->Hp->VK->Prop}(ho:UnR X (unaryOp op) r)(ha:PE X a ta):PE X (.UnaryOp op a pos) (tUn r ta):=by intro pins s U H Q I h;exact UnaryOp_ (thn (ha pins s U H _ I h) λv s1 ⟨x,H1,I1,r1,q1⟩=>ho pins s1 U H1 x v Q I1 r1 q1)
theorem opI {f:Value->Value->Sem Value}{C:Int->Int->Prop}{g:Int->Int->Int}(rule:∀(i j:Int)(t u:Tok)(s:Shared)(Q:Value->Shared->Prop)(E:Value->Shared->Prop),C i j->Q (.int (g i j) s.toks) {s with toks:=s.toks+1}->wpAny (model X.prog X.w) X.A (f (.int i t) (.int j u)) Q E s):
  OpR X f (rI C λi j=>.int (g i j)):=by
 intro pins s U H x y v u Q I rx ry h;obtain⟨i,j,rfl,rfl,hc,q⟩:=h;obtain⟨t,rfl⟩:=rx;obtain⟨t',rfl⟩:=ry;exact rule i j t t' s _ _ hc ⟨.int (g i j),H,I.tok _,⟨_,rfl⟩,q⟩
theorem j9r {f:Value->Value->Sem Value}{g:Int->Int->Int}(rule:∀(i j:Int)(t u:Tok)(s:Shared)(Q:Value->Shared->Prop)(E:Value->Shared->Prop),Q (.int (g i j) s.toks) {s with toks:=s.toks+1}->wpAny (model X.prog X.w) X.A (f (.int i t) (.int j u)) Q E s):
  OpR X f (rI0 λi j=>.int (g i j)):=by
 intro pins s U H x y v u Q I rx ry h;obtain⟨i,j,rfl,rfl,q⟩:=h;obtain⟨t,rfl⟩:=rx;obtain⟨t',rfl⟩:=ry;exact rule i j t t' s _ _ ⟨.int (g i j),H,I.tok _,⟨_,rfl⟩,q⟩
theorem j7z {f:Value->Value->Sem Value}{g:Int->Int->Bool}(rule:∀(i j:Int)(t u:Tok)(s:Shared)(Q:Value->Shared->Prop)(E:Value->Shared->Prop),Q (.bool (g i j)) s->wpAny (model X.prog X.w) X.A (f (.int i t) (.int j u)) Q E s):
  OpR X f (rI0 λi j=>.bl (g i j)):=by
 intro pins s U H x y v u Q I rx ry h;obtain⟨i,j,rfl,rfl,q⟩:=h;obtain⟨t,rfl⟩:=rx;obtain⟨t',rfl⟩:=ry;exact rule i j t t' s _ _ ⟨.bl (g i j),H,I,rfl,q⟩
noncomputable def qa7 (i j:Int):Prop:=0<j/\j<1073741824
noncomputable def qah (i j:Int):Prop:=0<=j/\j<=1000000/\i.natAbs<2^64
noncomputable def j8s (i j:Int):Prop:=(-(2^64)<i/\i<2^64)\/(-(2^64)<j/\j<2^64)
theorem j8s.ok {i j:Int}(h:j8s i j):IntMulOk i j:=by
 rcases h with⟨h1,h2⟩|⟨h1,h2⟩
 .exact .of_left (intBits_le_64 h1 h2)
 .exact .of_right (intBits_le_64 h1 h2)
theorem jal:OpR X (binaryOp .Add) (rI0 λi j=>.int (i+j)):=j9r λ_ _ _ _ _ _ _ q=>add_int q
theorem jek:OpR X (binaryOp .Sub) (rI0 λi j=>.int (i-j)):=j9r λ_ _ _ _ _ _ _ q=>sub_int q
theorem jw9:OpR X (binaryOp .Mult) (rI j8s λi j=>.int (i*j)):=opI λ_ _ _ _ _ _ _ hc q=>mul_int q hc.ok
theorem jvx:OpR X (binaryOp .FloorDiv) (rI qa7 λi j=>.int (i / j)):=opI λi j _ _ _ _ _ hc q=>by have h1:(0:Int)<j:=hc.1;have h2:j<1073741824:=hc.2;exact floordiv_int (by omega) (by rw[Int.fdiv_eq_ediv_of_nonneg i (by omega)];exact q) (.inl (PyProof.noPylong_small (by omega)))
theorem jkn:OpR X (binaryOp .Mod) (rI (λ_ j=>0<j) λi j=>.int (i%j)):=opI λi j _ _ _ _ _ hc q=>by have h1:(0:Int)<j:=hc;exact mod_int' (by omega) (by rw[Int.fmod_eq_emod_of_nonneg i (by omega)];exact q)
theorem j68:OpR X (binaryOp .Pow) (rI qah λi j=>.int (i^j.toNat)):=opI λ_ _ _ _ _ _ _ hc q=>pow_int_small hc.1 hc.2.1 hc.2.2 q
theorem unI {f:Value->Sem Value}{g:Int->Int}(rule:∀(i:Int)(t:Tok)(s:Shared)(Q:Value->Shared->Prop)(E:Value->Shared->Prop),Q (.int (g i) s.toks) {s with toks:=s.toks+1}->wpAny (model X.prog X.w) X.A (f (.int i t)) Q E s):
  UnR X f (rU λi=>.int (g i)):=by
 intro pins s U H x v Q I rx h;obtain⟨i,rfl,q⟩:=h;obtain⟨t,rfl⟩:=rx;exact rule i t s _ _ ⟨.int (g i),H,I.tok _,⟨_,rfl⟩,q⟩
theorem j7p:UnR X (unaryOp .USub) (rU λi=>.int (-i)):=unI λ_ _ _ _ _ q=>neg_int q
end
noncomputable def j9u:V->V->Bool
 | .non,.non=>true| .non,.int _=>true| .int _,.non=>true| .non,.bl _=>true| .bl _,.non=>true| .non,.str _=>true| .str _,.non=>true
 | .int _,.int _=>true| .bl _,.bl _=>true| .str _,.str _=>true| .byt _,.byt _=>true
 | .int _,.str _=>true| .str _,.int _=>true| .bl _,.str _=>true| .str _,.bl _=>true
 |_,_=>false
noncomputable def rEq:R2:=λx y H Q=>j9u x y=true/\Q (.bl (decide (x=y))) H
noncomputable def rNe:R2:=λx y H Q=>j9u x y=true/\Q (.bl (!decide (x=y))) H
theorem jzm {i j:Int}:decide (V.int i=V.int j)=(i==j):=by rw[Bool.eq_iff_iff];simp
theorem j3f {i j:Bool}:decide (V.bl i=V.bl j)=(i==j):=by rw[Bool.eq_iff_iff];simp
theorem jy5 {i j:Str}:decide (V.str i=V.str j)=(i==j):=by rw[Bool.eq_iff_iff];simp
theorem jzp {i j:Array UInt8}:decide (V.byt i=V.byt j)=(i.toList==j.toList):=by rw[Bool.eq_iff_iff];cases i;cases j;simp
section
variable {X:Cx}{a b c:Expr}{ta tb tc:TE}{pos:Pos}
theorem xb {pins:List (Addr×Obj)}{U:St}{H:Hp}{s:Shared}{Q:VK}{k k':Bool}(I:Inv X pins U H s)(q:Q (.bl k) H)(e:k=k'):EP X pins U Q (.bool k') s:=by subst e;exact⟨.bl k,H,I,rfl,q⟩
theorem jen:OpR X (compareOp .Eq) rEq:=by
 intro pins s U H x y v u Q I rx ry h;obtain⟨hs,q⟩:=h;cases x with
 |non=>
  cases rx;cases y with
  |non=>cases ry;exact PySem.EqNone.eq_none_none (xb I q (by simp))
  |bl j=>cases ry;exact PySem.EqNone.eq_none_bool (xb I q (by simp))
  |int j=>obtain⟨t',rfl⟩:=ry;exact PySem.EqNone.eq_none_int (xb I q (by simp))
  |str j=>obtain⟨t',rfl⟩:=ry;exact PySem.EqNone.eq_none_str (xb I q (by simp))
  |_=>exact absurd (show false=true from hs) Bool.false_ne_true
 |bl i=>
  cases rx;cases y with
  |non=>cases ry;exact PySem.EqNone.eq_bool_none (xb I q (by simp))
  |bl j=>cases ry;exact eq_bool (xb I q j3f)
  |str j=>obtain⟨t',rfl⟩:=ry;exact PySem.EqMixed.eq_bool_str (xb I q (by simp))
  |_=>exact absurd (show false=true from hs) Bool.false_ne_true
 |int i=>
  obtain⟨t,rfl⟩:=rx;cases y with
  |non=>cases ry;exact PySem.EqNone.eq_int_none (xb I q (by simp))
  |int j=>obtain⟨t',rfl⟩:=ry;exact eq_int (xb I q jzm)
  |str j=>obtain⟨t',rfl⟩:=ry;exact PySem.EqMixed.eq_int_str (xb I q (by simp))
  |_=>exact absurd (show false=true from hs) Bool.false_ne_true
 |str i=>
  obtain⟨t,rfl⟩:=rx;cases y with
  |non=>cases ry;exact PySem.EqNone.eq_str_none (xb I q (by simp))
  |bl j=>cases ry;exact PySem.EqMixed.eq_str_bool (xb I q (by simp))
  |int j=>obtain⟨t',rfl⟩:=ry;exact PySem.EqMixed.eq_str_int (xb I q (by simp))
  |str j=>obtain⟨t',rfl⟩:=ry;exact eq_str (xb I q jy5)
  |_=>exact absurd (show false=true from hs) Bool.false_ne_true
 |byt i=>
  obtain⟨t,rfl⟩:=rx;cases y with
  |byt j=>obtain⟨t',rfl⟩:=ry;exact PySem.W.eq_bytes (xb I q jzp)
  |_=>exact absurd (show false=true from hs) Bool.false_ne_true
 |_=>cases y<;>exact absurd (show false=true from hs) Bool.false_ne_true
theorem jx7:OpR X (compareOp .NotEq) rNe:=by
 intro pins s U H x y v u Q I rx ry h;obtain⟨hs,q⟩:=h;cases x with
 |non=>
  cases rx;cases y with
  |non=>cases ry;exact PySem.EqNone.ne_none_none (xb I q (by simp))
  |bl j=>cases ry;exact PySem.EqNone.ne_none_bool (xb I q (by simp))
  |int j=>obtain⟨t',rfl⟩:=ry;exact PySem.EqNone.ne_none_int (xb I q (by simp))
  |str j=>obtain⟨t',rfl⟩:=ry;exact PySem.EqNone.ne_none_str (xb I q (by simp))
  |_=>exact absurd (show false=true from hs) Bool.false_ne_true
 |bl i=>
  cases rx;cases y with
  |non=>cases ry;exact PySem.EqNone.ne_bool_none (xb I q (by simp))
  |bl j=>cases ry;exact ne_bool (xb I q (congrArg not j3f))
  |str j=>obtain⟨t',rfl⟩:=ry;exact PySem.EqMixed.ne_bool_str (xb I q (by simp))
  |_=>exact absurd (show false=true from hs) Bool.false_ne_true
 |int i=>
  obtain⟨t,rfl⟩:=rx;cases y with
  |non=>cases ry;exact PySem.EqNone.ne_int_none (xb I q (by simp))
  |int j=>obtain⟨t',rfl⟩:=ry;exact ne_int (xb I q (congrArg not jzm))
  |str j=>obtain⟨t',rfl⟩:=ry;exact PySem.EqMixed.ne_int_str (xb I q (by simp))
  |_=>exact absurd (show false=true from hs) Bool.false_ne_true
 |str i=>
  obtain⟨t,rfl⟩:=rx;cases y with
  |non=>cases ry;exact PySem.EqNone.ne_str_none (xb I q (by simp))
  |bl j=>cases ry;exact PySem.EqMixed.ne_str_bool (xb I q (by simp))
  |int j=>obtain⟨t',rfl⟩:=ry;exact PySem.EqMixed.ne_str_int (xb I q (by simp))
  |str j=>obtain⟨t',rfl⟩:=ry;exact ne_str (xb I q (congrArg not jy5))
  |_=>exact absurd (show false=true from hs) Bool.false_ne_true
 |byt i=>
  obtain⟨t,rfl⟩:=rx;cases y with
  |byt j=>obtain⟨t',rfl⟩:=ry;exact PySem.W.ne_bytes (xb I q (congrArg not jzp))
  |_=>exact absurd (show false=true from hs) Bool.false_ne_true
 |_=>cases y<;>exact absurd (show false=true from hs) Bool.false_ne_true
theorem j1u:OpR X (compareOp .Lt) (rI0 λi j=>.bl (decide (i<j))):=j7z λ_ _ _ _ _ _ _ q=>lt_int q
theorem j2d:OpR X (compareOp .LtE) (rI0 λi j=>.bl (decide (i<=j))):=j7z λ_ _ _ _ _ _ _ q=>le_int q
theorem jvz:OpR X (compareOp .Gt) (rI0 λi j=>.bl (decide (j<i))):=j7z λ_ _ _ _ _ _ _ q=>gt_int q
theorem j5d:OpR X (compareOp .GtE) (rI0 λi j=>.bl (decide (j<=i))):=j7z λ_ _ _ _ _ _ _ q=>ge_int q
theorem j3p:OpR X (compareOp .Is) (λx y H Q=>y= .non/\Q (.bl (decide (x= .non))) H):=by
 intro pins s U H x y v u Q I rx ry h;obtain⟨rfl,q⟩:=h;cases ry;refine is_none_gen (xb I q ?_);cases x<;>first
  |(cases rx;rfl)
  |(obtain⟨t,rfl⟩:=rx;rfl)
theorem j46:OpR X (compareOp .IsNot) (λx y H Q=>y= .non/\Q (.bl (!decide (x= .non))) H):=by
 intro pins s U H x y v u Q I rx ry h;obtain⟨rfl,q⟩:=h;cases ry;refine isnot_none_gen (xb I q ?_);cases x<;>first
  |(cases rx;rfl)
  |(obtain⟨t,rfl⟩:=rx;rfl)
theorem qc (b:Expr){op:CmpOp}(h:autoParam (op≠.In) aP2)(h2:autoParam (op≠.NotIn) aP2):behindInMarks op b=false:=by
 have e:(op==CmpOp.In||op==CmpOp.NotIn)=false:=by cases op<;>first|rfl|exact absurd rfl h|exact absurd rfl h2
 cases b<;>first|rfl|(show(_&&_&&_)=false;rw[e,Bool.and_false];rfl)
theorem ja2 {op:CmpOp}{r:R2}(ho:OpR X (compareOp op) r)(ha:PE X a ta)(hb:PE X b tb)(hm:behindInMarks op b=false):PE X (.Compare a [op] [b] pos) (tOp r ta tb):=by intro pins s U H Q I h;exact wpAny_Compare1 (j88 ha hb I h λv u s2 x y H2 I2 rx ry q=>ho pins s2 U H2 x y v u Q I2 rx ry q) hm
noncomputable def j5i (t:TE):TT:=λU H Q=>t U H λx H'=>∃k,x= .bl k/\Q k H'
theorem jv {op:CmpOp}{r:R2}(ho:OpR X (compareOp op) r)(ha:PE X a ta)(hb:PE X b tb)(hm:behindInMarks op b=false):PT X (.Compare a [op] [b] pos) (j5i (tOp r ta tb)):=by
 intro pins s U H Q I h;refine wpAny_isTrue_Compare1 (thn (ha pins s U H _ I h) λv s1 ⟨x,H1,I1,r1,q1⟩=>thn (hb pins s1 U H1 _ I1 q1) λu s2 ⟨y,H2,I2,r2,q2⟩=>thn (ho pins s2 U H2 x y v u _ I2 r1 r2 q2) λc s3 zQ=>?_) hm;obtain⟨z,H3,I3,r3,k,e,q3⟩:=zQ;subst e;cases r3;exact wpAny_truthy_bool ⟨H3,I3,q3⟩
noncomputable def j58 (r r':R2)(ta tb tc:TE):TE:=λU H Q=>ta U H λx H1=>tb U H1 λy H2=>r x y H2 λz H3=>∃k,z= .bl k/\(if k=true then tc U H3 λw' H4=>r' y w' H4 Q else Q (.bl false) H3)
theorem j2t {op op':CmpOp}{r r':R2}(ho:OpR X (compareOp op) r)(ho':OpR X (compareOp op') r')(ha:PE X a ta)(hb:PE X b tb)(hc:PE X c tc)(hm:lastMarks [op,op'] [b,c]=false:=by with_unfolding_all rfl):PE X (.Compare a [op,op'] [b,c] pos) (j58 r r' ta tb tc):=by
 intro pins s U H Q I h;refine Compare_chain (thn (ha pins s U H _ I h) λv s1 ⟨x,H1,I1,r1,q1⟩=>chain_link (thn (hb pins s1 U H1 _ I1 q1) λu s2 ⟨y,H2,I2,r2,q2⟩=>thn (ho pins s2 U H2 x y v u _ I2 r1 r2 q2) λd s3 zQ=>?_)) hm;obtain⟨z,H3,I3,r3,k,e,q3⟩:=zQ;subst e;cases r3;refine wpAny_truthy_bool ?_;cases k with
 |false=>exact ite_ff ⟨.bl false,H3,I3,rfl,q3⟩
 |true=>exact ite_tt (chain_last (thn (hc pins s3 U H3 _ I3 q3) λw' s4 ⟨z',H4,I4,r4,q4⟩=>ho' pins s4 U H4 y z' u w' Q I4 r2 r4 q4))
noncomputable def j9z (K:PySem.W.Frag)(x:V)(H:Hp)(k:Bool):Prop:=match x with
 | .non=>k=false
 | .bl b=>k=b
 | .int i=>k=(i != 0)
 | .str y=>y.length<=sizeLine/\k=((y.length:Int) != 0)
 | .byt y=>y.size<=sizeLine/\k=((y.size:Int) != 0)
 | .ref p=>(∃xs,SqL K H p xs/\k=!xs.isEmpty)\/(∃xs,SqT K H p xs/\k=!xs.isEmpty)\/∃kvs,H p=some (.dK kvs)/\k=!kvs.isEmpty
 |_=>False
theorem jym {B:Type}{kvs:List (B×V)}{vs:List (B×Value)}(r:KV kvs vs):(!vs.isEmpty)=!kvs.isEmpty:=by cases r<;>rfl
theorem jr5 {xs:List V}{its:List Value}(r:Vals xs its):(!its.toArray.isEmpty)=!xs.isEmpty:=by cases r<;>simp
theorem jqz:(sizeLine:Nat)<2^63:=by rw[sizeLine_eq];decide
theorem j7f:qaz X (λx H Q=>∃k,j9z X.K x H k/\Q k H):=by
 intro pins s U H x v Q I rx h;obtain⟨k,e,q⟩:=h;have hl:=jqz;have hs:sizeLine=16777216:=sizeLine_eq;cases x with
 |non=>cases rx;have e':k=false:=e;subst e';exact truthy_none ⟨H,I,q⟩
 |bl b=>cases rx;have e':k=b:=e;subst e';exact wpAny_truthy_bool ⟨H,I,q⟩
 |int i=>obtain⟨t,rfl⟩:=rx;have e':k=(i != 0):=e;subst e';exact PySem.P.truthy_int ⟨H,I,q⟩
 |str y=>obtain⟨t,rfl⟩:=rx;obtain⟨hy,e'⟩:y.length<=sizeLine/\k=((y.length:Int) != 0):=e;subst e';exact PySem.P.truthy_str (by omega) ⟨H,I.tok _,q⟩
 |byt y=>obtain⟨t,rfl⟩:=rx;obtain⟨hy,e'⟩:y.size<=sizeLine/\k=((y.size:Int) != 0):=e;subst e';exact PySem.W.truthy_bytes (by omega) ⟨H,I.tok _,q⟩
 |ref p=>
  cases rx;have e':(∃xs,SqL X.K H p xs/\k=!xs.isEmpty)\/(∃xs,SqT X.K H p xs/\k=!xs.isEmpty)\/∃kvs,H p=some (.dK kvs)/\k=!kvs.isEmpty:=e;rcases e' with⟨xs,hx,e'⟩|⟨xs,hx,e'⟩|⟨kvs,hx,e'⟩
  .subst e';obtain⟨its,r,pl,hz⟩:=I.list hx;have hlen:=r.length;exact wpAny_truthy_list pl.isList (by simp only[size_toArray];omega) ⟨H,I.tok _,by rw[jr5 r];exact q⟩
  .subst e';obtain⟨its,r,pl,hz⟩:=I.tuple hx;have hlen:=r.length;exact truthy_tuple pl (by simp only[size_toArray];omega) ⟨H,I.tok _,by rw[jr5 r];exact q⟩
  .subst e';obtain⟨hz,hS,vs,r,m⟩:kvs.length<=sizeLine/\(p==sysModules)=false/\∃vs,KV kvs vs/\s.heap.DictOf (zc X.prog X.w) p vs:=I.hok p _ hx;have hlen:kvs.length=vs.length:=Paired.length r;exact wpAny_truthy_dict hS m (by omega) ⟨H,I.tok _,by rw[jym r];exact q⟩
 |_=>exact(show False from e).elim
theorem j1r (ha:PE X a ta)(he:∀whole,isTrue a X.env whole=(do let v<-whole;standAt a.pos;holding [v] (truthy v))):PT X a (λU H Q=>ta U H λx H'=>∃k,j9z X.K x H' k/\Q k H'):=by
 intro pins s U H Q I h;exact isTrue_plain (thn (ha pins s U H _ I h) λv s1 ⟨x,H1,I1,r1,q1⟩=>j7f pins s1 U H1 x v Q I1 r1 q1) (he _)
theorem vals1 {x:V}{us:List Value}(r:Vals [x] us):∃u,us=[u]/\RelV x u:=by
 cases r with
 |cons r1 r2=>cases r2;exact⟨_,rfl,r1⟩
theorem vals2 {x y:V}{us:List Value}(r:Vals [x,y] us):∃u w',us=[u,w']/\RelV x u/\RelV y w':=by
 cases r with
 |cons r1 r2=>
  cases r2 with
  |cons r3 r4=>cases r4;exact⟨_,_,rfl,r1,r3⟩
theorem jza (hc:X.calm=true):jmo X (.builtin "min") (λxs H Q=>∃i j,xs=[.int i,.int j]/\Q (.int (if j<i then j else i)) H):=by
 intro pins s U H xs us Q I r h;obtain⟨i,j,rfl,q⟩:=h;obtain⟨u,w',rfl,⟨t,rfl⟩,⟨t',rfl⟩⟩:=vals2 r;refine min_two_ints (I.ok.hd hc) λh' tk k=>⟨_,H,I.kept k,?_,q⟩;by_cases hj:j<i
 .rw[if_pos hj,if_pos hj];exact⟨_,rfl⟩
 .rw[if_neg hj,if_neg hj];exact⟨_,rfl⟩
end
structure j47 (h:Heap)(x dx C:Addr)(mA:Str->Option Value):Prop where
 obj:h.get? x=some (PySem.W.instObj C dx)
 ns:h.Ns1 dx mA
 ne:dx≠x
theorem j06 {h:Heap}{dx:Addr}{mA:Str->Option Value}(n:h.Ns1 dx mA):∃od,h.get? dx=some od/\∀name,PySem.W.lookIn name od=some (mA name):=by
 obtain⟨o,es,ep,ho,hd,hk,_,hm⟩:=n;refine⟨o,ho,λname=>?_⟩;have e:=hm name;unfold nsFind findBy at e;rw[<-Array.find?_toList]at e;unfold PySem.W.lookIn;rw[hd];dsimp only;split
 .rename_i y q;rw[q]at e;exact congrArg some e
 .rename_i q;rw[q]at e;have a:es.toList.any (·.refKey)=false:=by
   rw[List.any_eq_false];intro y hy;obtain⟨z,t,hkey⟩:=hk y (Array.mem_toList_iff.mp hy);simp[DictEntry.refKey,hkey]
  have a':¬es.toList.any (·.refKey)=true:=by rw[a];exact Bool.false_ne_true
  rw[if_neg a'];exact congrArg some e
theorem j47.look {h:Heap}{x dx C:Addr}{mA:Str->Option Value}(I:j47 h x dx C mA):∃od,PySem.W.InstAt h x (PySem.W.instObj C dx) C (some od)/\∀name,PySem.W.lookIn name od=some (mA name):=
 let⟨od,ho,hl⟩:=j06 I.ns
 ⟨od,⟨I.obj,rfl,rfl,ho⟩,hl⟩
section
variable {prog:Program}{w:World}{A:Around}{E:Value->Shared->Prop}{s:Shared}{K:PySem.W.Frag}{x dx C f:Addr}{mA:Str->Option Value}{name:Str}{v:Value}
theorem get_map {expr:Bool}{Q:Value->Shared->Prop}(X:K.In s.heap)(I:j47 s.heap x dx C mA)(hg:PySem.W.plainGet K C name=true)(hh:PySem.W.hasDictIn K C=true)(ha:PySem.W.findIn K (.ref C) name=some none)(hv:mA name=some v)(hv':PySem.W.handedIn v=true)(h:Q v {s with toks:=s.toks+1}):
  wpAny (model prog w) A (getAttr (.ref x) name expr) Q E s:=by
 obtain⟨od,J,hl⟩:=I.look;exact PySem.W.get_value X J (PySem.W.plainGet_of hg).1 (PySem.W.findObj_own hh ha rfl (by rw[hl,hv])) hv' h
theorem j2y {pl:Sem Bool}{Q:Value×List Value->Shared->Prop}(X:K.In s.heap)(I:j47 s.heap x dx C mA)(hg:PySem.W.plainGet K C name=true)(hf:PySem.W.findIn K (.ref C) name=some (some (.ref f)))(ht:PySem.W.isFn K (.ref f)=true)(hv:mA name=none)(h:Q (.ref f,[.ref x]) s):
  wpAny (model prog w) A (getMethod (.ref x) name pl) Q E s:=by
 obtain⟨od,J,hl⟩:=I.look;exact PySem.W.method_fn X J (PySem.W.plainGet_of hg).1 (PySem.W.plainGet_of hg).2 hf (beq_iff_eq.mp ht) (by show(PySem.W.lookIn name od).map (·.isSome)=some false;rw[hl,hv];rfl) h
theorem jv9 {ns:List Str}{Q:Unit->Shared->Prop}(X:K.In s.heap)(I:j47 s.heap x dx C mA)(hs:PySem.W.findIn K (.ref C) "__setattr__"=some (some (.builtin "object.__setattr__")))(hp:PySem.W.plainOver K C=true)(ht:PySem.W.takerIn K C name=some none)(hh:PySem.W.hasDictIn K C=true)(hw:PySem.Within mA ns)(hsz:ns.length<=sizeLine)(h:∀h',j47 h' x dx C (λy=>if y=name then some v else mA y)->Heap.SameBut dx s.heap h'->Q () {s with heap:=h',toks:=s.toks+2}):
  wpAny (model prog w) A (setAttr (.ref x) name v) Q E s:=by
 obtain⟨od,J,hl⟩:=I.look;refine PySem.W.set_plain X J hs (PySem.W.osa_open (s:={s with toks:=s.toks+1}) (r:=none) X J hp ht λb=>?_);obtain⟨cd,hc,hd'⟩:=PySem.W.any_some hh;have hx:s.heap.get? x=some ⟨.ref C,some dx,.plain,#[]⟩:=I.obj;refine wpAny_bind (wpAny_pure (wpAny_bind (wpAny_bind (wpAny_loadPart hx (wpAny_bind (PySem.W.Looks.here (s:={s with toks:=s.toks+1}) (PySem.W.looks_clsIn X hc) ?_))))));rw[hd'];refine wpAny_pure (a:=some dx) (wpAny_bind (wpAny_pure (wpAny_bind ?_)));refine wpAny_nsSet1 (s:={s with toks:=s.toks+1}) I.ns λh' hn2 hs2=>?_;obtain⟨oD,esD,epD,hoD,hdD,hcD⟩:=hn2.count (PySem.Within.cons name v hw);refine wpAny_bind (wpAny_lookBehind hoD (by rw[hdD];exact pastItsLine_dict (le_trans hcD (by rw[length_cons];omega))) ?_);exact wpAny_pure (h _ ⟨(hs2.2 _ (Ne.symm I.ne)).trans I.obj,hn2,I.ne⟩ hs2)
theorem jxk {R:Result->Shared->Prop}{vs:List Value}{kw:List (Str×Value)}(X:K.In s.heap)(hm:PySem.W.makesIn K C=true)(hi:PySem.W.findIn K (.ref C) "__init__"=some (some (.ref f)))(hf:PySem.W.typeIn K (.ref f)=some (.type "function"))(h:codeAny (model prog w) (A.under (.builtin "type.__call__" ⟨.ref C::vs,kw⟩)) (.call (.ref f) ⟨.ref (s.heap.objs.size+1)::vs,kw⟩) (PySem.W.InitBack (s.heap.objs.size+1) R) {s with heap:=(s.heap.push PySem.W.emptyDict).push (PySem.W.instObj C s.heap.objs.size)}):
  codeAny (model prog w) A (.call (.ref C) ⟨vs,kw⟩) R s:=by
 obtain⟨hh,g,d,t,os⟩:=s;exact PySem.W.make_core (PySem.W.makes_of X hm) (PySem.W.looks_findIn X hi) (λself=>PySem.W.bind_fn X self hf) (.inl rfl) h
end
noncomputable def vy (f:Str)(v:V):List (Str×V)->List (Str×V)
 |[]=>[(f,v)]
 |(g,x)::r=>if g=f then(g,v)::r else(g,x)::vy f v r
theorem jh (f g:Str)(v:V):∀fs:List (Str×V),(vy f v fs).lookup g=if g=f then some v else fs.lookup g
 |[]=>by
  show List.lookup g [(f,v)]=_;by_cases h:g=f
  .have hb:(g==f)=true:=beq_iff_eq.mpr h;simp only[List.lookup,hb,if_pos h]
  .have hb:(g==f)=false:=beq_eq_false_iff_ne.mpr h;simp only[List.lookup,hb,if_neg h]
 | (k,x)::r=>by
  have ih:=jh f g v r;rw[show vy f v ((k,x)::r)=(if k=f then(k,v)::r else(k,x)::vy f v r)from rfl];by_cases hk:k=f
  .rw[if_pos hk];by_cases h:g=k
   .have hb:(g==k)=true:=beq_iff_eq.mpr h;simp only[List.lookup,hb,if_pos (h.trans hk)]
   .have hb:(g==k)=false:=beq_eq_false_iff_ne.mpr h;simp only[List.lookup,hb,if_neg (λe:g=f=>h (e.trans hk.symm))]
  .rw[if_neg hk];by_cases h:g=k
   .have hb:(g==k)=true:=beq_iff_eq.mpr h;simp only[List.lookup,hb,if_neg (λe:g=f=>hk (h.symm.trans e))]
   .have hb:(g==k)=false:=beq_eq_false_iff_ne.mpr h;simp only[List.lookup,hb];exact ih
theorem jp4 (f:Str)(v:V):∀fs:List (Str×V),f∈(vy f v fs).map (·.1)/\∀g,g∈fs.map (·.1)->g∈(vy f v fs).map (·.1)
 |[]=>⟨by simp[vy],λg h=>by simp at h⟩
 | (k,x)::r=>by
  obtain⟨i1,i2⟩:=jp4 f v r;rw[show vy f v ((k,x)::r)=(if k=f then(k,v)::r else(k,x)::vy f v r)from rfl];by_cases hk:k=f
  .rw[if_pos hk];subst hk;exact⟨by simp,λg h=>by simpa using h⟩
  .rw[if_neg hk];refine⟨?_,λg h=>?_⟩
   .rw[map_cons];exact mem_cons_of_mem _ i1
   .rw[map_cons]at h⊢;rcases mem_cons.mp h with e|e
    .exact mem_cons.mpr (.inl e)
    .exact mem_cons_of_mem _ (i2 g e)
theorem jqe (f:Str)(v:V):∀fs:List (Str×V),(vy f v fs).length<=fs.length+1
 |[]=>by simp[vy]
 |(k,x)::r=>by
  have ih:=jqe f v r;rw[show vy f v ((k,x)::r)=(if k=f then(k,v)::r else(k,x)::vy f v r)from rfl];by_cases hk:k=f
  .rw[if_pos hk,length_cons,length_cons];omega
  .rw[if_neg hk,length_cons,length_cons];omega
theorem jtx.some_of {v:V}{o:Option Value}(r:jtx (some v) o):∃u,o=some u/\RelV v u:=by
 cases o with
 |none=>exact(show False from r).elim
 |some u=>exact⟨u,rfl,r⟩
theorem jtx.none_of {o:Option Value}(r:jtx none o):o=none:=by
 cases o with
 |none=>rfl
 |some u=>exact(show False from r).elim
theorem j0r {v:V}{u:Value}(r:RelV v u):PySem.W.handedIn u=true:=by
 cases v with
 |non=>cases(show u=Value.none from r);rfl
 |bl b=>cases(show u=Value.bool b from r);rfl
 |int i=>obtain⟨t,e⟩:=(show ∃t,u=Value.int i t from r);cases e;rfl
 |str x=>obtain⟨t,e⟩:=(show ∃t,u=Value.str x t from r);cases e;rfl
 |byt b=>obtain⟨t,e⟩:=(show ∃t,u=Value.bytes b t from r);cases e;rfl
 |flt b=>obtain⟨t,e⟩:=(show ∃t,u=Value.float b t from r);cases e;rfl
 |ref a=>cases(show u=Value.ref a from r);rfl
 |ty n=>cases(show u=Value.type n from r);rfl
section
variable {P:Program}{w:World}{H H':Hp}{h h':Heap}{a C dx:Addr}{fs fs':List (Str×V)}
theorem jtn (hok:HOk P w H h)(e:H a=some (.ins C dx fs)):∃mA,j47 h a dx C mA/\(∀f,jtx (fs.lookup f) (mA f))/\PySem.Within mA (fs.map (·.1))/\fs.length<=1000/\H dx=some (.own a):=by obtain⟨d,z,ne,ob,mA,n,r,q⟩:=(show vg P w H h a (.ins C dx fs)from hok a _ e);exact⟨mA,⟨ob,n,ne⟩,r,q,z,d⟩
end
structure Cls (K:PySem.W.Frag)(C:Addr):Prop where
 pg:PySem.W.plainGet K C Str.empty=true
 hd:PySem.W.hasDictIn K C=true
 po:PySem.W.plainOver K C=true
 sa:PySem.W.findIn K (.ref C) "__setattr__"=some (some (.builtin "object.__setattr__"))
theorem Cls.get {K:PySem.W.Frag}{C:Addr}(c:Cls K C)(f:Str):PySem.W.plainGet K C f=true:=c.pg
noncomputable def zu (K:PySem.W.Frag)(C:Addr)(f:Str):Prop:=PySem.W.findIn K (.ref C) f=some none
theorem zu.j9a {K:PySem.W.Frag}{C:Addr}{f:Str}(n:zu K C f):PySem.W.takerIn K C f=some none:=by unfold PySem.W.takerIn;rw[show PySem.W.findIn K (.ref C) f=some none from n];rfl
structure Meth (K:PySem.W.Frag)(C:Addr)(m:Str)(f:Addr):Prop where
 at_:PySem.W.findIn K (.ref C) m=some (some (.ref f))
 fn:PySem.W.isFn K (.ref f)=true
 kp:PySem.W.keepIn K (.ref f)=true
section
variable {X:Cx}{pins:List (Addr×Obj)}{U:St}{H:Hp}{s:Shared}{a C dx:Addr}{fs:List (Str×V)}{f:Str}{v:V}{A:Around}{E:Value->Shared->Prop}
theorem jya {b:Bool}{Q:Value->Shared->Prop}(I:Inv X pins U H s)(e:H a=some (.ins C dx fs))(c:Cls X.K C)(n:zu X.K C f)(l:fs.lookup f=some v)(h:∀u s',Inv X pins U H s'->RelV v u->Q u s'):wpAny (model X.prog X.w) A (getAttr (.ref a) f b) Q E s:=by
 obtain⟨mA,O,r,_,_,_⟩:=jtn I.hok e;obtain⟨u,hu,ru⟩:=jtx.some_of (v:=v) (o:=mA f) (by rw[<-l];exact r f);exact get_map I.kIn O (c.get f) c.hd n hu (j0r ru) (h u _ (I.tok _) ru)
theorem jjg {m:Str}{g:Addr}{pl:Sem Bool}{Q:Value×List Value->Shared->Prop}(I:Inv X pins U H s)(e:H a=some (.ins C dx fs))(c:Cls X.K C)(k:Meth X.K C m g)(l:fs.lookup m=none)(h:Q (.ref g,[.ref a]) s):wpAny (model X.prog X.w) A (getMethod (.ref a) m pl) Q E s:=by
 obtain⟨mA,O,r,_,_,_⟩:=jtn I.hok e;have hn:mA m=none:=jtx.none_of (by rw[<-l];exact r m);exact j2y I.kIn O (c.get m) k.at_ k.fn hn h
theorem jx4 {y:V}{u:Value}{Q:Unit->Shared->Prop}(I:Inv X pins U H s)(e:H a=some (.ins C dx fs))(c:Cls X.K C)(n:zu X.K C f)(hl:fs.length<1000)(ry:RelV y u)(h:∀s',Inv X pins U (upd H a (.ins C dx (vy f y fs))) s'->Q () s'):wpAny (model X.prog X.w) A (setAttr (.ref a) f u) Q E s:=by
 obtain⟨mA,O,r,wi,_,ho⟩:=jtn I.hok e;have hz:(fs.map (·.1)).length<=sizeLine:=by rw[length_map,sizeLine_eq];omega
 refine jv9 I.kIn O c.sa c.po n.j9a c.hd wi hz λh' O' sb=>h _ ?_;have hd:∃o,h'.get? dx=some o:=let⟨o,_,_,e',_⟩:=O'.ns;⟨o,e'⟩;refine I.write (x:=a) (e:=dx) (by rw[e];exact True.intro) (.inr ho) (λb q hb z=>(sb.2 b hb).trans z) hd ?_;refine⟨by rw[je O.ne];exact ho,?_,O.ne,O'.obj,_,O'.ns,λg=>?_,λg hg=>?_⟩
 .have:=jqe f y fs;omega
 .show jtx ((vy f y fs).lookup g) (if g=f then some u else mA g);rw[jh];by_cases q:g=f
  .rw[if_pos q,if_pos q];exact ry
  .rw[if_neg q,if_neg q];exact r g
 .by_cases q:g=f
  .rw[q];exact(jp4 f y fs).1
  .refine(jp4 f y fs).2 g (wi g λz=>hg ?_);show(if g=f then some u else mA g)=none;rw[if_neg q];exact z
theorem Inv.made (I:Inv X pins U H s):Inv X pins U (upd (upd H s.heap.objs.size (.own (s.heap.objs.size+1))) (s.heap.objs.size+1) (.ins C s.heap.objs.size [])) {s with heap:=(s.heap.push PySem.W.emptyDict).push (PySem.W.instObj C s.heap.objs.size)}:=by
 have e1:(s.heap.push PySem.W.emptyDict).get? s.heap.objs.size=some PySem.W.emptyDict:=Heap.get?_push_size s.heap rfl;have e2:((s.heap.push PySem.W.emptyDict).push (PySem.W.instObj C s.heap.objs.size)).get? (s.heap.objs.size+1)=some (PySem.W.instObj C s.heap.objs.size):=by have:=Heap.get?_push_size (s.heap.push PySem.W.emptyDict) (o:=PySem.W.instObj C s.heap.objs.size) rfl;rwa[Heap.size_push]at this
 have e3:(s.heap.push PySem.W.emptyDict).Ns s.heap.objs.size (λ_=>none):=⟨PySem.W.emptyDict,#[],_,e1,rfl,(λe he=>absurd he (by simp)),λ_=>rfl⟩;have I1:=I.laid (a:=s.heap.objs.size) (o:=.own (s.heap.objs.size+1)) (h':=s.heap.push PySem.W.emptyDict) (t':=s.toks) (λb u q=>Heap.get?_push_of_some _ q) (le_refl _) ⟨_,e1⟩;refine I1.laid (a:=s.heap.objs.size+1) (o:=.ins C s.heap.objs.size []) (t':=s.toks) (λb u q=>Heap.get?_push_of_some _ q) (Nat.le_of_eq (Heap.size_push _ _)) ?_;have ne:s.heap.objs.size≠s.heap.objs.size+1:=ne_of_lt (lt_succ_self _);refine⟨by rw[je ne,ja],zero_le _,ne,e2,λ_=>none,(Heap.Ns1.of_empty e3).at λo q=>Heap.get?_push_of_some _ q,λ_=>True.intro,λy hy=>absurd rfl hy⟩
theorem j34 {prog:Program}{w:World}{env:Env}{e:Expr}{f:Str}{pos:Pos}{s:Shared}{Q:Value->Shared->Prop}(hb:attributeBase e f env (eval e env)=eval e env)(h:wpAny (model prog w) A (eval e env) (λo s₁=>wpAny (model prog w) A (getAttr o f true) Q E s₁) E s):wpAny (model prog w) A (eval (.Attribute e f pos) env) Q E s:=
 Attribute_any_ h (by rw[arm_eval_Attribute,hb])
end
noncomputable def qad (K:PySem.W.Frag)(ta:TE)(f:Str):TE:=λU H Q=>ta U H λx H1=>∃a C dx fs v,x= .ref a/\H1 a=some (.ins C dx fs)/\Cls K C/\zu K C f/\fs.lookup f=some v/\Q v H1
noncomputable def qax (K:PySem.W.Frag)(ta tv:TE)(f:Str):TS:=λD U H=>tv U H λy H1=>ta U H1 λx H2=>∃a C dx fs,x= .ref a/\H2 a=some (.ins C dx fs)/\Cls K C/\zu K C f/\fs.length<1000/\D.nx U (upd H2 a (.ins C dx (vy f y fs)))
section
variable {X:Cx}{o e value:Expr}{f:Str}{pos pos' tpos:Pos}{ta tv:TE}
theorem j5 (he:PE X e ta)(hb:attributeBase e f X.env (eval e X.env)=eval e X.env):PE X (.Attribute e f pos) (qad X.K ta f):=by intro pins s U H Q I h;refine j34 hb (thn (he pins s U H _ I h) λu s1 zQ=>?_);obtain⟨x,H1,I1,rx,a,C,dx,fs,v,ex,ea,c,n,l,q⟩:=zQ;subst ex;obtain rfl:u=Value.ref a:=rx;exact jya I1 ea c n l λu' s2 I2 ru=>⟨v,H1,I2,ru,q⟩
theorem vh (ha:PE X o ta)(hv:PE X value tv)(hs:swapsWith value (some (.Attribute o f pos')) pos.line X.env=pure false):PS X (.Assign [.Attribute o f pos'] value pos) (qax X.K ta tv f):=by intro pins s U H D I h;refine plainObj_wpAny_Assign_Attribute (thn (hv pins s U H _ I h) λu s1 ⟨y,H1,I1,ry,q⟩=>thn (ha pins s1 U H1 _ I1 q) λov s2 zQ=>?_) hs;obtain⟨x,H2,I2,rx,a,C,dx,fs,ex,ea,c,n,l,q2⟩:=zQ;subst ex;obtain rfl:ov=Value.ref a:=rx;exact jx4 I2 ea c n l ry λs3 I3=>⟨U,_,I3,q2⟩
theorem j36 {pl:Sem Bool}{m:Str}{apos:Pos}{args:List Expr}{pins:List (Addr×Obj)}{s:Shared}{U:St}{H:Hp}{Q:Value->Shared->Prop}{te:TE}(he:PE X e te)(I:Inv X pins U H s)(h:te U H λx H1=>∃a C dx fs g,x= .ref a/\H1 a=some (.ins C dx fs)/\Cls X.K C/\Meth X.K C m g/\fs.lookup m=none/\∀s1,Inv X pins U H1 s1->wpAny (model X.prog X.w) X.A (callWith pos (.ref g) [.ref a] (backTo pos (starEach args X.env)) (backToKw pos (keywordEach [] X.env))) Q X.xe s1)(ht:eval (.Call (.Attribute e m apos) args [] pos) X.env=(do
   let ov<-eval e X.env
   standAt apos.atName
   let(f,first)<-holding [ov] (getMethod ov m pl)
   callWith pos f first (backTo pos (starEach args X.env)) (backToKw pos (keywordEach [] X.env)))) :
  wpAny (model X.prog X.w) X.A (eval (.Call (.Attribute e m apos) args [] pos) X.env) Q X.xe s:=by
 refine PySem.W.methodCall_KW (pl:=pl) (thn (he pins s U H _ I h) λu s1 zQ=>?_) ht;obtain⟨x,H1,I1,rx,a,C,dx,fs,g,ex,ea,c,k,l,q⟩:=zQ;subst ex;obtain rfl:u=Value.ref a:=rx;exact jjg I1 ea c k l (q s1 I1)
end
section
variable {X:Cx}{pins:List (Addr×Obj)}{U:St}{H:Hp}{s:Shared}{A:Around}{E:Value->Shared->Prop}{Q:Value->Shared->Prop}{c:Value}{b:Bool}
inductive jye (K:PySem.W.Frag)(H:Hp):V->Value->Prop where
 |non:jye K H .non (.type "NoneType")
 |bl (x:Bool):jye K H (.bl x) (.type "bool")
 |int (i:Int):jye K H (.int i) (.type "int")
 |str (x:Str):jye K H (.str x) (.type "str")
 |flt (x:UInt64):jye K H (.flt x) (.type "float")
 |lst {a:Addr} {xs:List V} (e:H a=some (.lst xs)):jye K H (.ref a) (.type "list")
 |frz {a:Addr} {o:Obj} {xs:List V} (e:H a=some (.frz o (.lst xs))):jye K H (.ref a) (.type "list")
 |tup {a:Addr} {xs:List V} (e:H a=some (.tup xs)):jye K H (.ref a) (.type "tuple")
 |dK {a:Addr} {kvs:List (Key×V)} (e:H a=some (.dK kvs)):jye K H (.ref a) (.type "dict")
 |dT {a:Addr} {kvs:List (List Key×V)} (e:H a=some (.dT kvs)):jye K H (.ref a) (.type "dict")
 |ins {a C dx:Addr} {fs:List (Str×V)} (e:H a=some (.ins C dx fs)) (cl:Cls K C) (ha:PySem.W.findIn K (.ref C) "__class__"=some (some (.builtin "object.__class__"))) (hn:PySem.W.specialIn K (.builtin "object.__class__") "__get__"=some (some (.builtin "getset_descriptor.__get__"))) (htk:PySem.W.takesIn K (.builtin "object.__class__")=some true) (hm:PySem.W.mroIn K C (.type "object")=some true):jye K H (.ref a) (.ref C)
theorem j03 {x:V}{u t:Value}(I:Inv X pins U H s)(rx:RelV x u)(ty:jye X.K H x t)(e:PySem.W.kitOne X.K t c=some b)(h:∀tk,Q (.bool b) {s with toks:=tk}):wpAny (model X.prog X.w) A (call (.builtin "isinstance") [u,c]) Q E s:=by
 cases ty with
 |non=>cases(show u=Value.none from rx);exact PySem.W.kia_one PySem.W.kitx_none I.kIn True.intro e (λz=>nomatch z) h
 |bl y=>cases(show u=Value.bool y from rx);exact PySem.W.kia_one PySem.W.kitx_bool I.kIn True.intro e (λz=>nomatch z) h
 |int i=>obtain⟨t,q⟩:=(show ∃t,u=Value.int i t from rx);cases q;exact PySem.W.kia_one PySem.W.kitx_int I.kIn True.intro e (λz=>nomatch z) h
 |str y=>obtain⟨t,q⟩:=(show ∃t,u=Value.str y t from rx);cases q;exact PySem.W.kia_one PySem.W.kitx_str I.kIn True.intro e (λz=>nomatch z) h
 |flt y=>obtain⟨t,q⟩:=(show ∃t,u=Value.float y t from rx);cases q;exact PySem.W.kia_one PySem.W.kitx_float I.kIn True.intro e (λz=>nomatch z) h
 |@lst a xs ea=>cases(show u=Value.ref a from rx);obtain⟨_,_,n,_,h1⟩:=(show vg X.prog X.w H s.heap a (.lst xs)from I.hok a _ ea);exact PySem.W.kia_one PySem.W.kitx_list I.kIn ⟨_,h1,rfl⟩ e (λz=>nomatch z) h
 |@frz a ob xs ea=>cases(show u=Value.ref a from rx);obtain⟨_,_,_,n,_,h1⟩:=(show vg X.prog X.w H s.heap a (.frz ob (.lst xs))from I.hok a _ ea);exact PySem.W.kia_one PySem.W.kitx_list I.kIn ⟨_,h1,rfl⟩ e (λz=>nomatch z) h
 |@tup a xs ea=>cases(show u=Value.ref a from rx);obtain⟨_,_,_,p⟩:=(show vg X.prog X.w H s.heap a (.tup xs)from I.hok a _ ea);obtain⟨o,h1,h2,_⟩:=p;exact PySem.W.kia_one PySem.W.kitx_tuple I.kIn ⟨o,h1,h2⟩ e (λz=>nomatch z) h
 |@dK a kvs ea=>cases(show u=Value.ref a from rx);obtain⟨_,_,vs,_,p⟩:=(show vg X.prog X.w H s.heap a (.dK kvs)from I.hok a _ ea);obtain⟨o,es,ep,h1,h2,_⟩:=p;exact PySem.W.kia_one PySem.W.kitx_dict I.kIn ⟨o,h1,h2.1⟩ e (λz=>nomatch z) h
 |@dT a kvs ea=>cases(show u=Value.ref a from rx);obtain⟨_,_,xs,_,o,es,ep,h1,h2,_⟩:=(show vg X.prog X.w H s.heap a (.dT kvs)from I.hok a _ ea);exact PySem.W.kia_one PySem.W.kitx_dict I.kIn ⟨o,h1,h2.1⟩ e (λz=>nomatch z) h
 |@ins a C dx fs ea cl ha hn htk hm=>cases(show u=Value.ref a from rx);obtain⟨mA,O,_⟩:=jtn I.hok ea;obtain⟨od,J,_⟩:=O.look;exact PySem.W.kia_one (PySem.W.kitx_own (cl.get _) cl.hd ha hn htk hm) I.kIn J e (λz=>nomatch z) h
end
structure jfe (k:Nat)(A:Around):Prop where
 hd:A.handled=none
 dp:A.depth+3*k+5<recursionLimit
 un:A.units+16*k+200<cLine
theorem jfe.mono {j k:Nat}{A:Around}(r:jfe k A)(h:j<=k):jfe j A:=⟨r.hd,by have:=r.dp;omega,by have:=r.un;omega⟩
theorem jfe.dn {j k:Nat}{A:Around}(r:jfe k A)(h:autoParam (j<=k) aP2):jfe j A:=r.mono h
theorem jfe.deeper {k:Nat}{A:Around}(r:jfe (k+1) A)(env:Env):jfe k (A.deeper env):=⟨r.hd,by have:=r.dp;show A.depth+1+3*k+5<_;omega,by have:=r.un;show A.units+3+16*k+200<_;omega⟩
theorem jyk {A:Around}{C:Addr}{us:List Value}{kw:List (Str×Value)}:(A.under (.builtin "type.__call__" ⟨.ref C::us,kw⟩)).depth=A.depth+1:=by first|rfl|simp[Around.under,Code.weight,Code.isCreation,Code.isGuard,Code.isCaller,Code.frames,Code.isFrame,guardIds]
theorem jx6 {A:Around}{C:Addr}{us:List Value}{kw:List (Str×Value)}:(A.under (.builtin "type.__call__" ⟨.ref C::us,kw⟩)).units=A.units+1:=by first|rfl|simp[Around.under,Code.cUnits,Code.frames,Code.isFrame]
theorem jfe.make {k:Nat}{A:Around}(r:jfe (k+1) A)(C:Addr)(us:List Value)(kw:List (Str×Value)):jfe k (A.under (.builtin "type.__call__" ⟨.ref C::us,kw⟩)):=⟨r.hd,by have:=r.dp;rw[jyk];omega,by have:=r.un;rw[jx6];omega⟩
theorem jfe.depth {k:Nat}{A:Around}(r:jfe k A):A.depth<recursionLimit:=by have:=r.dp;omega
theorem jfe.units {k:Nat}{A:Around}(r:jfe k A):A.units+64<cLine:=by have:=r.un;omega
noncomputable def jz1:TA:=λ_ H Q=>Q [] H
noncomputable def vp (ta:TE)(tr:TA):TA:=λU H Q=>ta U H λx H1=>tr U H1 λxs H2=>Q (x::xs) H2
section
variable {X:Cx}{e:Expr}{es:List Expr}{te:TE}{t:TA}{pos:Pos}
theorem jg:PA X [] jz1:=λ_ _ _ _ H Q I h=>Calls.spliced_nil ⟨[],H,I,.nil,h⟩
theorem j5h (ha:PE X e te)(hr:PA X es t)(hs:autoParam (starEach (e::es) X.env=(false,eval e X.env)::starEach es X.env) aP1):PA X (e::es) (vp te t):=by intro pos pins s U H Q I h;rw[hs];show wpAny _ _ (spliced ((false,eval e X.env)::backTo pos (starEach es X.env))) _ _ s;refine Calls.spliced_cons (thn (ha pins s U H _ I h) λu s1 zQ=>?_);obtain⟨x,H1,I1,r1,q1⟩:=zQ;exact thn (hr pos pins s1 U H1 _ I1 q1) λus s2 ⟨xs,H2,I2,r2,q2⟩=>⟨x::xs,H2,I2,.cons r1 r2,q2⟩
noncomputable def qap (t:TA):TE:=λU H Q=>t U H λxs H1=>xs.length<=sizeLine/\∀p,H1 p=none->Q (.ref p) (upd H1 p (.tup xs))
noncomputable def qa0 (t:TA):TE:=λU H Q=>t U H λxs H1=>xs.length<=sizeLine/\∀p,H1 p=none->Q (.ref p) (upd H1 p (.lst xs))
theorem jgb {x1}(h:PA X es t):PE X (.Tuple es x1 pos) (qap t):=by intro pins s U H Q I hq;refine wpAny_Tuple_spliced (thn (h pos pins s U H _ I hq) λus s1 ⟨xs,H1,I1,r,z,q⟩=>⟨by rw[<-r.length];exact z,?_⟩);have hf:H1 s1.heap.objs.size=none:=I1.hok.fresh (le_refl _);refine⟨.ref s1.heap.objs.size,upd H1 s1.heap.objs.size (.tup xs),I1.laid (t':=s1.toks) (λb u e=>Heap.get?_push_of_some _ e) (le_refl _) ?_,rfl,q _ hf⟩;exact⟨z,us,r,⟨_,Heap.get?_push_size _ rfl,rfl,_,rfl⟩⟩
theorem zf (h:PA X es t):PE X (.List es pos) (qa0 t):=by intro pins s U H Q I hq;refine wpAny_List_spliced (thn (h pos pins s U H _ I hq) λus s1 ⟨xs,H1,I1,r,z,q⟩=>⟨by rw[<-r.length];exact z,?_⟩);have hf:H1 s1.heap.objs.size=none:=I1.hok.fresh (le_refl _);refine⟨.ref s1.heap.objs.size,upd H1 s1.heap.objs.size (.lst xs),I1.laid (t':=s1.toks) (λb u e=>Heap.get?_push_of_some _ e) (le_refl _) ?_,rfl,q _ hf⟩;exact⟨z,us,0,r,Heap.get?_push_size _ rfl⟩
end
noncomputable abbrev Sp:=List V->Hp->VK->XK->Prop
noncomputable abbrev CXT:=List Env->Hp->Shared->XK->Value->Shared->Prop
structure j32 (P:Program)(w:World)(K:PySem.W.Frag)(mg:Str->Option Value)(base:Heap)(A:Around)(outer:List Env)(s:Shared)(H:Hp):Prop where
 frames:A.frames=some outer
 mod:Mod K mg base
 bs:∀b o,base.get? b=some o->s.heap.get? b=some o/\H b=none
 bsz:base.objs.size<=s.heap.objs.size
 jvq:s.heap.FunFrames base outer
 frf:∀b∈frs outer,H b=none
 hok:HOk P w H s.heap
 bare:AllBare s.gens
noncomputable def CE (outer:List Env)(P:Program)(w:World)(H:Hp)(s:Shared)(Q:VK)(u:Value)(s':Shared):Prop:=∃v H',s'.os=s.os/\AllBare s'.gens/\Un (frs outer) [] H H' s.heap s'.heap/\HOk P w H' s'.heap/\RelV v u/\Q v H'
noncomputable def CR (CX:CXT)(outer:List Env)(P:Program)(w:World)(H:Hp)(s:Shared)(Q:VK)(E:XK)(r:Result)(s':Shared):Prop:=match r with
 | .ok (.ret u)=>CE outer P w H s Q u s'
 | .ok _=>False
 | .error e=>CX outer H s E e s'
structure xj (P:Program)(w:World)(K:PySem.W.Frag)(mg:Str->Option Value)(base:Heap)(CX:CXT)(k:Nat)(f:Addr)(fd:FuncData)(ps:List Str)(sp:Sp):Prop where
 len:∀vs H Q E,sp vs H Q E->vs.length=ps.length
 run:∀(A:Around)(outer:List Env)(s:Shared)(H:Hp)(args:Args)(us:List Value)(vs:List V)(Q:VK)(E:XK),jfe k A->j32 P w K mg base A outer s H->BindsTo s fd args (ps.zip us)->Vals vs us->sp vs H Q E->codeAny (model P w) A (.call (.ref f) args) (CR CX outer P w H s Q E) s
theorem j32.make {P:Program}{w:World}{K:PySem.W.Frag}{mg:Str->Option Value}{base:Heap}{A:Around}{outer:List Env}{s:Shared}{H:Hp}(e:j32 P w K mg base A outer s H)(C:Addr)(us:List Value)(kw:List (Str×Value)):j32 P w K mg base (A.under (.builtin "type.__call__" ⟨.ref C::us,kw⟩)) outer s H:=⟨by first|exact e.frames|(simpa[Around.under,Code.envs,Code.isFrame,pushEnvs]using e.frames),e.mod,e.bs,e.bsz,e.jvq,e.frf,e.hok,e.bare⟩
section
variable {X:Cx}{pins:List (Addr×Obj)}{U:St}{H:Hp}{s s':Shared}
theorem Inv.j50 (I:Inv X pins U H s):j32 X.prog X.w X.K X.mg X.base X.A X.stack s H:=⟨I.ok.frames,I.ok.mod,I.bs,le_trans I.ok.bsz I.sz,I.stack,I.jsm,I.hok,I.bare⟩
theorem Inv.after {Q:VK}{u:Value}(I:Inv X pins U H s)(h:CE X.stack X.prog X.w H s Q u s'):EP X pins U Q u s':=by obtain⟨v,H',os,bare,un,hok,r,q⟩:=h;obtain⟨hh,g,d,t,os'⟩:=s';obtain rfl:os'=s.os:=os;exact⟨v,H',I.call (h':=hh) (g':=g) (d':=d) (t':=t) (ch:=[]) un hok bare (λb z=>absurd z (by simp)),r,q⟩
end
noncomputable def j6q (sp:Sp)(dvs:List V)(E:XK)(t:TA):TE:=λU H Q=>t U H λvs H1=>sp (vs++dvs) H1 Q E
noncomputable def j7o (C:Addr)(m:Str)(sp:Sp)(dvs:List V)(E:XK)(ta:TE)(t:TA):TE:=λU H Q=>ta U H λx H1=>∃a dx fs,x= .ref a/\H1 a=some (.ins C dx fs)/\fs.lookup m=none/\t U H1 λvs H2=>sp (x::(vs++dvs)) H2 Q E
noncomputable def j75 (C:Addr)(sp:Sp)(dvs:List V)(E:XK)(t:TA):TE:=λU H Q=>t U H λvs H1=>∀x dx,H1 x=none->H1 dx=none->dx≠x->sp (.ref x::(vs++dvs)) (upd (upd H1 dx (.own x)) x (.ins C dx [])) (λv H2=>v= .non/\Q (.ref x) H2) E
noncomputable def Binds (K:PySem.W.Frag)(fd:FuncData)(ps:List Str)(ds:List Value):Prop:=∀(s:Shared)(us:List Value),K.In s.heap->(us++ds).length=ps.length->BindsTo s fd ⟨us,[]⟩ (ps.zip (us++ds))
theorem Binds.all {K:PySem.W.Frag}{fd:FuncData}{ps:List Str}(h:∀us:List Value,us.length=ps.length->bindArgs fd ⟨us,[]⟩=pure (ps.zip us)):Binds K fd ps []:=λs us _ hl=>by rw[append_nil]at hl⊢;exact .of_eq (h us hl)
noncomputable def Passes (CX:CXT)(X:Cx)(E:XK):Prop:=∀(pins:List (Addr×Obj))(U:St)(H:Hp)(s:Shared)(e:Value)(s':Shared),Inv X pins U H s->CX X.stack H s E e s'->X.xe e s'
section
variable {X:Cx}{CX:CXT}{k:Nat}{f C:Addr}{fd:FuncData}{ps:List Str}{sp:Sp}{dvs:List V}{ds:List Value}{E:XK}{x m:Str}{p pos apos:Pos}{e o:Expr}{es:List Expr}{ta:TE}{t:TA}
theorem jwt {pins:List (Addr×Obj)}{U:St}{H:Hp}{s:Shared}{Q:VK}{us:List Value}{vs:List V}(F:xj X.prog X.w X.K X.mg X.base CX k f fd ps sp)(hr:jfe k X.A)(hb:Binds X.K fd ps ds)(hd:Vals dvs ds)(hx:Passes CX X E)(I:Inv X pins U H s)(r:Vals vs us)(h:sp (vs++dvs) H Q E):wpAny (model X.prog X.w) X.A (call (.ref f) us) (EP X pins U Q) X.xe s:=by
 have r2:Vals (vs++dvs) (us++ds):=r.append hd;have hl:(us++ds).length=ps.length:=by rw[<-r2.length];exact F.len _ _ _ _ h
 refine wpAny_call (codeAny_mono (F.run X.A X.stack s H ⟨us,[]⟩ (us++ds) (vs++dvs) Q E hr I.j50 (hb s us I.kIn hl) r2 h) λr s' hq=>?_);cases r with
 |error e=>exact hx pins U H s e s' I hq
 |ok fl=>
  cases fl with
  |ret u=>exact I.after hq
  |next=>exact False.elim hq
  |brk=>exact False.elim hq
  |cont=>exact False.elim hq
theorem jm (F:xj X.prog X.w X.K X.mg X.base CX k f fd ps sp)(hr:jfe k X.A)(hg:Gl X x)(hm:X.mg x=some (.ref f))(hk:PySem.W.keepIn X.K (.ref f)=true)(hb:Binds X.K fd ps ds)(hd:Vals dvs ds)(hx:Passes CX X E)(ha:PA X (e::es) t)(hdb:autoParam ((x==("__debug__":Str))=false) aP2)(he:autoParam (starEach (e::es) X.env=(false,eval e X.env)::starEach es X.env) aP1)(hpl:autoParam ((backTo pos (starEach es X.env)).any (·.1)=false) aP1):
  PE X (.Call (.Name x p) (e::es) [] pos) (j6q sp dvs E t):=by
 intro pins s U H Q I h;refine wpAny_Call_Name_kw (jjd I hg hm ?_ hdb);refine PySem.W.callWith_K (h₀:=X.base) I.ok.mod.kin hk (thn (ha pos pins s U H _ I h) λus s1 ⟨vs,H1,I1,r,q⟩=>⟨I1.kIn,?_⟩) he hpl;exact jwt F hr hb hd hx I1 r q
theorem qi {pl:Sem Bool}(he:PE X o ta)(c:Cls X.K C)(hm:Meth X.K C m f)(F:xj X.prog X.w X.K X.mg X.base CX k f fd ps sp)(hr:jfe k X.A)(hb:Binds X.K fd ps ds)(hd:Vals dvs ds)(hx:Passes CX X E)(ha:PA X (e::es) t)(hst:autoParam (starEach (e::es) X.env=(false,eval e X.env)::starEach es X.env) aP1)(hpl:autoParam ((backTo pos (starEach es X.env)).any (·.1)=false) aP1)(ht:autoParam (eval (.Call (.Attribute o m apos) (e::es) [] pos) X.env=(do
   let ov<-eval o X.env
   standAt apos.atName
   let(f,first)<-holding [ov] (getMethod ov m pl)
   callWith pos f first (backTo pos (starEach (e :: es) X.env)) (backToKw pos (keywordEach [] X.env)))) aP1) :
  PE X (.Call (.Attribute o m apos) (e::es) [] pos) (j7o C m sp dvs E ta t):=by
 intro pins s U H Q I h;refine PySem.W.methodCall_KW (pl:=pl) (thn (he pins s U H _ I h) λu s1 zQ=>?_) ht;obtain⟨x,H1,I1,rx,a,dx,fs,ex,ea,l,q⟩:=zQ;subst ex;obtain rfl:u=Value.ref a:=rx;refine jjg I1 ea c hm l ?_;refine PySem.W.callWith_K (first:=[.ref a]) (h₀:=X.base) I.ok.mod.kin hm.kp (thn (ha pos pins s1 U H1 _ I1 q) λus s2 ⟨vs,H2,I2,r,q2⟩=>⟨I2.kIn,?_⟩) hst hpl;exact jwt (us:=.ref a::us) (vs:=.ref a::vs) F hr hb hd hx I2 (.cons rfl r) q2
theorem zy {pl:Sem Bool}(he:PE X o ta)(c:Cls X.K C)(hm:Meth X.K C m f)(F:xj X.prog X.w X.K X.mg X.base CX k f fd ps sp)(hr:jfe k X.A)(hb:Binds X.K fd ps ds)(hd:Vals dvs ds)(hx:Passes CX X E)(ht:autoParam (eval (.Call (.Attribute o m apos) [] [] pos) X.env=(do
   let ov<-eval o X.env
   standAt apos.atName
   let(f,first)<-holding [ov] (getMethod ov m pl)
   callWith pos f first (backTo pos (starEach [] X.env)) (backToKw pos (keywordEach [] X.env)))) aP1) :
  PE X (.Call (.Attribute o m apos) [] [] pos) (j7o C m sp dvs E ta jz1):=by
 intro pins s U H Q I h;refine PySem.W.methodCall_KW (pl:=pl) (thn (he pins s U H _ I h) λu s1 zQ=>?_) ht;obtain⟨x,H1,I1,rx,a,dx,fs,ex,ea,l,q⟩:=zQ;subst ex;obtain rfl:u=Value.ref a:=rx;refine jjg I1 ea c hm l ?_;exact PySem.W.callWith_K0 (first:=[.ref a]) I1.kIn hm.kp (jwt (us:=[.ref a]) (vs:=[.ref a]) F hr hb hd hx I1 (.cons rfl .nil) q)
structure Mk (K:PySem.W.Frag)(C f:Addr):Prop where
 makes:PySem.W.makesIn K C=true
 init:PySem.W.findIn K (.ref C) "__init__"=some (some (.ref f))
 fn:PySem.W.isFn K (.ref f)=true
 kp:PySem.W.keepIn K (.ref C)=true
theorem j2g {pins:List (Addr×Obj)}{U:St}{H:Hp}{s:Shared}{Q:VK}{us:List Value}{vs:List V}(M:Mk X.K C f)(F:xj X.prog X.w X.K X.mg X.base CX k f fd ps sp)(hr:jfe (k+1) X.A)(hb:Binds X.K fd ps ds)(hd:Vals dvs ds)(hx:Passes CX X E)(I:Inv X pins U H s)(r:Vals vs us)(h:∀x dx,H x=none->H dx=none->dx≠x->sp (.ref x::(vs++dvs)) (upd (upd H dx (.own x)) x (.ins C dx [])) (λv H2=>v= .non/\Q (.ref x) H2) E):
  wpAny (model X.prog X.w) X.A (call (.ref C) us) (EP X pins U Q) X.xe s:=by
 have hq:=h (s.heap.objs.size+1) s.heap.objs.size (I.hok.fresh (le_succ _)) (I.hok.fresh (le_refl _)) (ne_of_lt (lt_succ_self _));have I2:=Inv.made (C:=C) I;have r2:Vals (V.ref (s.heap.objs.size+1)::(vs++dvs)) (Value.ref (s.heap.objs.size+1)::(us++ds)):=.cons rfl (r.append hd);have hl:(Value.ref (s.heap.objs.size+1)::us++ds).length=ps.length:=by have e:=r2.length;rw[F.len _ _ _ _ hq]at e;exact e.symm
 refine wpAny_call (jxk (f:=f) I.kIn M.makes M.init (beq_iff_eq.mp M.fn) (codeAny_mono (F.run _ X.stack _ _ ⟨Value.ref (s.heap.objs.size+1)::us,[]⟩ (Value.ref (s.heap.objs.size+1)::(us++ds)) _ _ E (hr.make C us []) (I2.j50.make C us []) (hb _ (Value.ref (s.heap.objs.size+1)::us) I2.kIn hl) r2 hq) λr s' hq'=>?_));cases r with
 |error e=>exact hx pins U _ _ e s' I2 hq'
 |ok fl=>
  cases fl with
  |ret u=>obtain⟨v,H',I3,rv,ev,q3⟩:=I2.after hq';subst ev;exact⟨rv,⟨V.ref (s.heap.objs.size+1),H',I3,rfl,q3⟩⟩
  |next=>exact False.elim hq'
  |brk=>exact False.elim hq'
  |cont=>exact False.elim hq'
theorem jy6 (M:Mk X.K C f)(F:xj X.prog X.w X.K X.mg X.base CX k f fd ps sp)(hr:jfe (k+1) X.A)(hg:Gl X x)(hm:X.mg x=some (.ref C))(hb:Binds X.K fd ps ds)(hd:Vals dvs ds)(hx:Passes CX X E)(ha:PA X (e::es) t)(hdb:autoParam ((x==("__debug__":Str))=false) aP2)(he:autoParam (starEach (e::es) X.env=(false,eval e X.env)::starEach es X.env) aP1)(hpl:autoParam ((backTo pos (starEach es X.env)).any (·.1)=false) aP1):
  PE X (.Call (.Name x p) (e::es) [] pos) (j75 C sp dvs E t):=by
 intro pins s U H Q I h;refine wpAny_Call_Name_kw (jjd I hg hm ?_ hdb);refine PySem.W.callWith_K (h₀:=X.base) I.ok.mod.kin M.kp (thn (ha pos pins s U H _ I h) λus s1 ⟨vs,H1,I1,r,q⟩=>⟨I1.kIn,?_⟩) he hpl;exact j2g M F hr hb hd hx I1 r q
end
noncomputable def PK (X:Cx)(kws:List Keyword)(t:TA):Prop:=∀(pos:Pos)(pins:List (Addr×Obj))(s:Shared)(U:St)(H:Hp)(Q:List V->Hp->Prop),Inv X pins U H s->t U H Q->wpAny (model X.prog X.w) X.A (evalAll ((backToKw pos (keywordEach kws X.env)).map (·.2))) (AP X pins U Q) X.xe s
section
variable {X:Cx}{CX:CXT}{k:Nat}{f C:Addr}{fd:FuncData}{ps ks:List Str}{sp:Sp}{E:XK}{x m:Str}{p pos apos kpos:Pos}{e o:Expr}{es:List Expr}{kws:List Keyword}{te ta:TE}{t tk:TA}{nm:Option Str}
theorem jjb:PK X [] jz1:=λ_ _ _ _ H Q I h=>wpAny_evalAll_nil ⟨[],H,I,.nil,h⟩
theorem yt (ha:PE X e te)(hr:PK X kws t):PK X (⟨nm,e,kpos⟩::kws) (vp te t):=by intro pos pins s U H Q I h;show wpAny _ _ (evalAll ((do let v<-eval e X.env;standAt pos;pure v)::(backToKw pos (keywordEach kws X.env)).map (·.2))) _ _ s;refine wpAny_evalAll_cons (wpAny_bind (thn (ha pins s U H _ I h) λu s1 ⟨x,H1,I1,r1,q1⟩=>wpAny_bind (wpAny_standAt (wpAny_pure ?_))));exact thn (hr pos pins s1 U H1 _ I1 q1) λus s2 ⟨xs,H2,I2,r2,q2⟩=>⟨x::xs,H2,I2,.cons r1 r2,q2⟩
structure jex (K:PySem.W.Frag)(fd:FuncData)(ps ks:List Str)(g:List Value->List Value->List Value)(gV:List V->List V->List V):Prop where
 to:∀(s:Shared)(us ws:List Value),K.In s.heap->(g us ws).length=ps.length->BindsTo s fd ⟨us,ks.zip ws⟩ (ps.zip (g us ws))
 rel:∀{vs:List V}{us:List Value}{zs:List V}{ws:List Value},Vals vs us->Vals zs ws->Vals (gV vs zs) (g us ws)
noncomputable def j6s (sp:Sp)(gV:List V->List V->List V)(E:XK)(t tk:TA):TE:=λU H Q=>t U H λvs H1=>tk U H1 λzs H2=>sp (gV vs zs) H2 Q E
variable {g:List Value->List Value->List Value}{gV:List V->List V->List V}
theorem j37 {pins:List (Addr×Obj)}{U:St}{H:Hp}{s:Shared}{Q:VK}{us ws:List Value}{vs zs:List V}(F:xj X.prog X.w X.K X.mg X.base CX k f fd ps sp)(hr:jfe k X.A)(hb:jex X.K fd ps ks g gV)(hx:Passes CX X E)(I:Inv X pins U H s)(r:Vals vs us)(rz:Vals zs ws)(h:sp (gV vs zs) H Q E):wpAny (model X.prog X.w) X.A (call (.ref f) us (ks.zip ws)) (EP X pins U Q) X.xe s:=by
 have r2:=hb.rel r rz;have hl:(g us ws).length=ps.length:=by rw[<-r2.length];exact F.len _ _ _ _ h
 refine wpAny_call (codeAny_mono (F.run X.A X.stack s H ⟨us,ks.zip ws⟩ (g us ws) (gV vs zs) Q E hr I.j50 (hb.to s us ws I.kIn hl) r2 h) λr s' hq=>?_);cases r with
 |error e=>exact hx pins U H s e s' I hq
 |ok fl=>
  cases fl with
  |ret u=>exact I.after hq
  |next=>exact False.elim hq
  |brk=>exact False.elim hq
  |cont=>exact False.elim hq
theorem jde (F:xj X.prog X.w X.K X.mg X.base CX k f fd ps sp)(hr:jfe k X.A)(hg:Gl X x)(hm:X.mg x=some (.ref f))(hk:PySem.W.keepIn X.K (.ref f)=true)(hb:jex X.K fd ps ks g gV)(hx:Passes CX X E)(ha:PA X (e::es) t)(hkw:PK X kws tk)(hall:autoParam ((backToKw pos (keywordEach kws X.env)).all (·.1.isSome)=true) aP1)(hks:autoParam ((backToKw pos (keywordEach kws X.env)).filterMap (·.1)=ks) aP1)(hdb:autoParam ((x==("__debug__":Str))=false) aP2)(he:autoParam (starEach (e::es) X.env=(false,eval e X.env)::starEach es X.env) aP1)(hpl:autoParam (((backTo pos (starEach (e::es) X.env)).any (·.1)||(backToKw pos (keywordEach kws X.env)).any (·.1.isNone))=false) aP1):
  PE X (.Call (.Name x p) (e::es) kws pos) (j6s sp gV E t tk):=by
 intro pins s U H Q I h;refine wpAny_Call_Name_kw (jjd I hg hm ?_ hdb);refine PySem.W.callWith_KW (h₀:=X.base) I.ok.mod.kin hk hall (thn (ha pos pins s U H _ I h) λus s1 zQ=>?_) hpl he;obtain⟨vs,H1,I1,r,q⟩:=zQ;refine thn (hkw pos pins s1 U H1 _ I1 q) λws s2 ⟨zs,H2,I2,rz,q2⟩=>⟨I2.kIn,?_⟩;rw[hks];exact j37 F hr hb hx I2 r rz q2
end
structure qm (N P:List Str)(sc:Scope):Prop where
 kind:sc.kind= .function
 co:sc.isCoroutine=false
 gen:sc.isGenerator=false
 nd:N.Nodup
 pre:N.take P.length=P
 par:∀x∈P,sc.names.lookup x=some .local\/sc.names.lookup x=some .cell
 j6u:∀y∈sc.names,y.2≠.free
theorem fsc {N P:List Str}{sc:Scope}(a:autoParam (sc.kind= .function) aP1)(b:autoParam (sc.isCoroutine=false) aP1)(c:autoParam (sc.isGenerator=false) aP1)(d:autoParam (N.Nodup) aP5)(e:autoParam (N.take P.length=P) aP1)(f:autoParam (∀x∈P,sc.names.lookup x=some .local\/sc.names.lookup x=some .cell) aP5)(g:autoParam (∀y∈sc.names,y.2≠.free) aP5):qm N P sc:=⟨a,b,c,d,e,f,g⟩
theorem ju6 {kindOf:Str->Option NameKind}{x:Str}:∀{binds:List (Str×Value)}{m:Str->Option Value},(∀v,(x,v)∉binds)->bindL kindOf binds m x=m x
 |[],_,_=>rfl
 | (n,v)::r,m,h=>by
  unfold bindL;rw[ju6 λw hw=>h w (mem_cons_of_mem _ hw)];split
  .have:x≠n:=by rintro rfl;exact h v mem_cons_self
   simp[this]
  .rfl
theorem jvc {kindOf:Str->Option NameKind}{x:Str}:∀{binds:List (Str×Value)}{m:Str->Option Value},(∀v,(x,v)∉binds)->bindC kindOf binds m x=m x
 |[],_,_=>rfl
 | (n,v)::r,m,h=>by
  unfold bindC;rw[jvc λw hw=>h w (mem_cons_of_mem _ hw)];split
  .rfl
  .have:x≠n:=by rintro rfl;exact h v mem_cons_self
   simp[this]
theorem juv {kindOf:Str->Option NameKind}{x:Str}{v:Value}:∀{P:List Str}{vs:List Value}{i:Nat}{m:Str->Option Value},P.Nodup->P[i]?=some x->vs[i]?=some v->kindOf x=some .local->bindL kindOf (P.zip vs) m x=some v
 |[],_,_,_,_,h,_,_=>by simp at h
 |_::_,[],_,_,_,_,h,_=>by simp at h
 |p::P,w::vs,0,m,nd,h1,h2,hk=>by simp at h1 h2;subst h1;subst h2;show bindL kindOf ((p,w)::P.zip vs) m p=_;unfold bindL;rw[ju6 λv hv=>(nodup_cons.mp nd).1 (List.of_mem_zip hv).1,if_pos hk];simp
 |p::P,w::vs,i+1,m,nd,h1,h2,hk=>by show bindL kindOf ((p,w)::P.zip vs) m x=_;unfold bindL;exact juv (i:=i) (nodup_cons.mp nd).2 (by simpa using h1) (by simpa using h2) hk
theorem jup {kindOf:Str->Option NameKind}{x:Str}{v:Value}:∀{P:List Str}{vs:List Value}{i:Nat}{m:Str->Option Value},P.Nodup->P[i]?=some x->vs[i]?=some v->kindOf x≠some .local->bindC kindOf (P.zip vs) m x=some v
 |[],_,_,_,_,h,_,_=>by simp at h
 |_::_,[],_,_,_,_,h,_=>by simp at h
 |p::P,w::vs,0,m,nd,h1,h2,hk=>by simp at h1 h2;subst h1;subst h2;show bindC kindOf ((p,w)::P.zip vs) m p=_;unfold bindC;rw[jvc λv hv=>(nodup_cons.mp nd).1 (List.of_mem_zip hv).1,if_neg hk];simp
 |p::P,w::vs,i+1,m,nd,h1,h2,hk=>by show bindC kindOf ((p,w)::P.zip vs) m x=_;unfold bindC;exact jup (i:=i) (nodup_cons.mp nd).2 (by simpa using h1) (by simpa using h2) hk
noncomputable def start (N:List Str)(vs:List V):St:=vs.map some++List.replicate (N.length-vs.length) none
noncomputable def jrs (CX:CXT)(P:Program)(w:World)(K:PySem.W.Frag)(mg:Str->Option Value)(base:Heap)(N:List Str)(qual:Str)(scope:Scope)(f:Addr)(cd:Value)(A:Around)(outer:List Env)(s:Shared)(H:Hp)(E:XK):Cx where
 prog:=P
 w:=w
 K:=K
 mg:=mg
 base:=base
 A:=A.deeper (envOfC qual scope s.heap.objs.size f cd)
 N:=N
 s₀:=s
 H₀:=H
 env:=envOfC qual scope s.heap.objs.size f cd
 outer:=outer
 stack:=envOfC qual scope s.heap.objs.size f cd::outer
 ex:=[]
 calm:=true
 fn:=λ_=>true
 pn:=[]
 xe:=λe s'=>wpAny (model P w) (A.deeper (envOfC qual scope s.heap.objs.size f cd)) (leaving (envOfC qual scope s.heap.objs.size f cd) e) (λ_ s''=>CX outer H s E e s'') (λe' s''=>CX outer H s E e' s'') s'
theorem jwx {sc:Scope}{n:Nat}{x:Str}(h:sc.names.lookup x=some .cell):∃c,(cellsFrom n sc.names []).lookup x=some c:=by have q:=PySem.W.cellsFrom_some sc.names n [] (.inl h);exact Option.isSome_iff_exists.mp q
theorem jz3 {CX:CXT}{P:Program}{w:World}{K:PySem.W.Frag}{mg:Str->Option Value}{base:Heap}{N ps:List Str}{qual:Str}{scope:Scope}{f:Addr}{cd:Value}{A:Around}{outer:List Env}{s s1:Shared}{H:Hp}{E:XK}{us:List Value}{vs:List V}(S:qm N ps scope)(hd:A.handled=none)(e0:j32 P w K mg base A outer s H)(hl:vs.length=ps.length)(r:Vals vs us)(x:InCallC s s.heap.objs.size (bindL (envOfC qual scope s.heap.objs.size f cd).kindOf (ps.zip us) λ_=>none) (cellsFrom (s.heap.objs.size+1) scope.names []) (bindC (envOfC qual scope s.heap.objs.size f cd).kindOf (ps.zip us) λ_=>none) s1):
  Inv (jrs CX P w K mg base N qual scope f cd A outer s H E) [] (start N vs) H s1:=by
 have hpl:ps.length<=N.length:=by have:=congrArg List.length S.pre;rw[length_take]at this;omega
 obtain⟨h1,tk,rfl,hk⟩:=x.done;have noA:∀b:Addr,b∉(jrs CX P w K mg base N qual scope f cd A outer s H E).ex:=λb z=>absurd (show b∈([]:List Addr)from z) (by simp);refine⟨⟨e0.mod,S.kind,rfl,rfl,le_refl _,λy z c h1 h2=>?_,λy hy=>?_,λy c _ h=>?_,λ_=>hd,Around.frames_deeper e0.frames,.inr ⟨rfl,rfl⟩,λb z=>absurd z (noA b),e0.bs,e0.bsz,λb _ _=>noA b,λb z=>absurd z (noA b),e0.jvq,e0.frf⟩,rfl,e0.bare,Un.kept hk,⟨_,x.toInCall.ns,λi y v h1 h2 h3=>?_⟩,λy c h=>⟨_,x.cell y c h⟩,e0.hok.fresh (le_refl _),λy c h=>?_,λp hp=>absurd (show p∈([]:List (Addr×Obj))from hp) (by simp),e0.hok.kept hk,?_⟩
 .exact name_of_addr x.apart (PySem.mem_of_lookup h1) (PySem.mem_of_lookup h2)
 .have hy:scope.names.lookup y=some .cell\/scope.names.lookup y=some .free:=hy;rcases hy with hy|hy
  .exact jwx hy
  .exact absurd rfl (S.j6u _ (PySem.mem_of_lookup hy))
 .exact le_of_lt (x.above y c (PySem.mem_of_lookup h))
 .have hi:i<vs.length:=by
   unfold start at h2;by_cases hi:i<vs.length
   .exact hi
   .rw[List.getElem?_append_right (by simpa using hi)]at h2;rw[List.getElem?_replicate]at h2;split at h2<;>cases h2
  have ha:vs[i]?=some v:=by
   unfold start at h2;rw[List.getElem?_append_left (by simpa using hi),getElem?_map]at h2;cases e:vs[i]? with
   |none=>rw[e]at h2;cases h2
   |some a=>rw[e]at h2;cases h2;rfl
  obtain⟨u,hu,rv⟩:=r.get ha;have hp:ps[i]?=some y:=by rw[<-S.pre,List.getElem?_take_of_lt (by omega)];exact h1
  have ndP:ps.Nodup:=by rw[<-S.pre];exact S.nd.sublist (List.take_sublist _ _)
  refine⟨u,rv,?_⟩;rcases S.par y (mem_of_getElem? hp)with k|k
  .exact .inl ⟨k,juv ndP hp hu k⟩
  .obtain⟨c,e⟩:=jwx (n:=s.heap.objs.size+1) k;refine .inr ⟨.inl k,c,e,?_⟩;have q:=x.cell y c e;rw[jup ndP hp hu (by show scope.names.lookup y≠_;rw[k];decide)]at q;exact q
 .exact e0.hok.fresh (le_of_lt (x.above y c (PySem.mem_of_lookup h)))
 .unfold start;show _=N.length;rw[length_append,length_map,length_replicate];omega
theorem j6c {CX:CXT}{P:Program}{w:World}{K:PySem.W.Frag}{mg:Str->Option Value}{base:Heap}{k:Nat}{f:Addr}{name qual:Str}{params:Arguments}{body:List Stmt}{scope:Scope}{dV kV doc pm cdv ct oc:Value}{an od:Option Addr}{osl:Array (Option Value)}{N ps:List Str}{sp:Sp}(lk:K.lookup f=some ⟨oc,od,.func (PySem.W.fnOf name qual params body scope dV kV doc pm an cdv ct),osl⟩)(hcd:PySem.W.codeIn K cdv qual=true)(S:qm N ps scope)(len:∀vs H Q E,sp vs H Q E->vs.length=ps.length)(hbody:∀(A:Around)(outer:List Env)(s:Shared)(H:Hp)(vs:List V)(Q:VK)(E:XK),jfe k (A.deeper (envOfC qual scope s.heap.objs.size f cdv))->sp vs H Q E->∃t,PSs (jrs CX P w K mg base N qual scope f cdv A outer s H E) body t/\t {nx:=λ_ H'=>Q .non H',rt:=Q} (start N vs) H):
  xj P w K mg base CX (k+1) f (PySem.W.fnOf name qual params body scope dV kV doc pm an cdv ct) ps sp:=by
 refine⟨len,λA outer s H args us vs Q E hr e0 hb r hsp=>?_⟩;have hl:=len _ _ _ _ hsp;have KX:K.In s.heap:=e0.mod.kin.keeps λb o e=>(e0.bs b o e).1;have lim:s.heap.NoLimit:=e0.mod.nolimit.keeps λb o e=>(e0.bs b o e).1;have hkind:∀y∈ps.zip us,scope.names.lookup y.1=some .local\/(scope.names.lookup y.1=some .cell/\((cellsFrom (s.heap.objs.size+1) scope.names []).lookup y.1).isSome=true):=λ⟨n,v⟩ hy=>by
  rcases S.par n (List.of_mem_zip hy).1 with q|q
  .exact .inl q
  .exact .inr ⟨q,PySem.W.cellsFrom_some _ _ _ (.inl q)⟩
 refine codeAny_call_function hr.depth (KX _ _ lk) rfl S.co S.gen rfl (PySem.W.codeRec_of KX hcd) (hb _ _ _ _ ?_);refine wpAny_newFunctionEnv_cells S.kind hkind λenv he s1 x=>?_;subst he;refine⟨lim.keeps x.toInCall.keep,codeAny_func ?_⟩;obtain⟨t,ht,hq⟩:=hbody A outer s H vs Q E (hr.deeper _) hsp;have I:Inv (jrs CX P w K mg base N qual scope f cdv A outer s H E) [] (start N vs) H s1:=jz3 S hr.hd e0 hl r x;refine wpAny_mono (ht [] s1 (start N vs) H _ I hq) (λfl s' hs=>?_) λe s' hs=>hs;have fin:∀{U':St}{H':Hp}{v:V}{u:Value},Inv (jrs CX P w K mg base N qual scope f cdv A outer s H E) [] U' H' s'->RelV v u->Q v H'->CE outer P w H s Q u s':=λ{U' H' v u} J rv q=>⟨v,H',J.os,J.bare,J.base,J.hok,rv,q⟩;cases fl with
 |ret u=>obtain⟨v,U',H',J,rv,q⟩:=hs;exact fin J rv q
 |next=>obtain⟨U',H',J,q⟩:=hs;exact fin (v:=V.non) (u:=Value.none) J rfl q
 |brk=>obtain⟨_,_,_,q⟩:=hs;exact False.elim q
 |cont=>obtain⟨_,_,_,q⟩:=hs;exact False.elim q
section
variable {X:Cx}{x:Str}{p pos:Pos}{e:Expr}{es:List Expr}{t:TA}{id T:String}{r:List V->Hp->VK->Prop}
noncomputable def tCB (r:List V->Hp->VK->Prop)(t:TA):TE:=λU H Q=>t U H λvs H1=>r vs H1 Q
theorem jn (hc:jmo X (.builtin id) r)(hg:Gl X x)(hm:X.mg x=none)(hv:bootBuiltins x=some (.builtin id))(ha:PA X (e::es) t)(hn:autoParam (x≠"__name__") aP2)(hdb:autoParam ((x==("__debug__":Str))=false) aP2)(he:autoParam (starEach (e::es) X.env=(false,eval e X.env)::starEach es X.env) aP1)(hpl:autoParam ((backTo pos (starEach es X.env)).any (·.1)=false) aP1):PE X (.Call (.Name x p) (e::es) [] pos) (tCB r t):=by
 intro pins s U H Q I h;refine wpAny_Call_Name_kw (jw5 I hg hm hv ?_ hn hdb);exact PyProof.Rows.callWith_builtin1 (thn (ha pos pins s U H _ I h) λus s1 ⟨vs,H1,I1,r1,q1⟩=>hc pins s1 U H1 vs us Q I1 r1 q1) he hpl
theorem jea (hc:jmo X (.type T) r)(hg:Gl X x)(hm:X.mg x=none)(hv:bootBuiltins x=some (.type T))(ha:PA X (e::es) t)(hn:autoParam (x≠"__name__") aP2)(hdb:autoParam ((x==("__debug__":Str))=false) aP2)(he:autoParam (starEach (e::es) X.env=(false,eval e X.env)::starEach es X.env) aP1)(hpl:autoParam ((backTo pos (starEach es X.env)).any (·.1)=false) aP1):PE X (.Call (.Name x p) (e::es) [] pos) (tCB r t):=by
 intro pins s U H Q I h;refine wpAny_Call_Name_kw (jw5 I hg hm hv ?_ hn hdb);exact PyProof.Rows.callWith_type1 (thn (ha pos pins s U H _ I h) λus s1 ⟨vs,H1,I1,r1,q1⟩=>hc pins s1 U H1 vs us Q I1 r1 q1) he hpl
end
end L2
namespace HT
open PySem PyProof.Rows
noncomputable def lexLt:List Int->List Int->Bool
 |[],[]=>false
 |[],_::_=>true
 |_::_,[]=>false
 |x::xs,y::ys=>if x=y then lexLt xs ys else decide (x<y)
theorem jn9 (x y:Int)(xs ys:List Int):lexLt (x::xs) (y::ys)=if x=y then lexLt xs ys else decide (x<y):=rfl
end HT
namespace L2
open PySem PySem.Spec PyProof.Rows
theorem intsAre_of {ns:List Int}:∀{us:List Value},Vals (ns.map V.int) us->IntsAre us ns:=by
 induction ns with
 |nil=>intro us r;rw[map_nil]at r;cases r;exact .nil
 |cons n ns ih=>
  intro us r;rw[map_cons]at r;cases r with
  |cons r1 r2=>obtain⟨t,e⟩:=r1;subst e;exact .cons n t (ih r2)
noncomputable def ixN (n:Nat)(i:Int):Option Nat:=if 0<=i then(if i<n then some i.toNat else none)else if-(n:Int)<=i then some (i+n).toNat else none
noncomputable def atI {α:Type}(xs:List α)(i:Int):Option α:=(ixN xs.length i).bind λj=>xs[j]?
theorem j0z {n:Nat}{i:Int}{j:Nat}(h:ixN n i=some j):seqIndex? i n=some j/\j<n/\-(n:Int)<=i/\i<n:=by
 unfold ixN at h;by_cases h0:0<=i
 .rw[if_pos h0]at h;by_cases h1:i<n
  .rw[if_pos h1]at h;have e:i.toNat=j:=Option.some.inj h;exact⟨by rw[seqIndex_of h0 h1,e],by omega,by omega,h1⟩
  .rw[if_neg h1]at h;cases h
 .rw[if_neg h0]at h;by_cases h1:-(n:Int)<=i
  .rw[if_pos h1]at h;have e:(i+n).toNat=j:=Option.some.inj h;exact⟨by rw[seqIndex_neg (by omega) h1,e],by omega,h1,by omega⟩
  .rw[if_neg h1]at h;cases h
theorem j0k {α:Type}{xs:List α}{i:Int}{v:α}(h:atI xs i=some v):∃j,seqIndex? i xs.length=some j/\xs[j]?=some v/\j<xs.length/\-(xs.length:Int)<=i/\i<xs.length:=by
 unfold atI at h;cases e:ixN xs.length i with
 |none=>rw[e]at h;cases h
 |some j=>rw[e]at h;obtain⟨h1,h2,h3,h4⟩:=j0z e;exact⟨j,h1,h,h2,h3,h4⟩
noncomputable def j4a (b:Expr):Prop:=∀o i,subscripted b false o i=operate [o,i] (getItem o i)
noncomputable def IxR (X:Cx)(r:R2):Prop:=∀(value slice:Expr)(pins:List (Addr×Obj))(s:Shared)(U:St)(H:Hp)(x y:V)(v u:Value)(Q:VK),Inv X pins U H s->RelV x v->RelV y u->r x y H Q->subscripted slice false v u=operate [v,u] (getItem v u)->wpAny (model X.prog X.w) X.A (subscriptTail value slice v u) (EP X pins U Q) X.xe s
noncomputable def MtR (X:Cx)(id:String)(r:V->List V->Hp->VK->Prop):Prop:=∀(pins:List (Addr×Obj))(s:Shared)(U:St)(H:Hp)(x:V)(xs:List V)(v:Value)(us:List Value)(Q:VK),Inv X pins U H s->RelV x v->Vals xs us->r x xs H Q->wpAny (model X.prog X.w) X.A (call (.builtin id) (v::us)) (EP X pins U Q) X.xe s
section
variable {X:Cx}{a b:Expr}{ta tb:TE}{pos:Pos}
theorem ya {r:R2}(hr:IxR X r)(ha:PE X a ta)(hb:PE X b tb)(hs:j4a b):PE X (.Subscript a b pos) (tOp r ta tb):=by intro pins s U H Q I h;exact Subscript_ (j88 ha hb I h λv u s2 x y H2 I2 rx ry q=>hr a b pins s2 U H2 x y v u Q I2 rx ry q (hs _ _))
noncomputable def qaf (K:PySem.W.Frag):R2:=λx y H Q=>∃p xs i v,x= .ref p/\y= .int i/\SqL K H p xs/\atI xs i=some v/\Q v H
noncomputable def j72 (K:PySem.W.Frag):R2:=λx y H Q=>∃p xs i v,x= .ref p/\y= .int i/\SqT K H p xs/\atI xs i=some v/\Q v H
theorem yp:IxR X (qaf X.K):=by
 intro value slice pins s U H x y v u Q I rx ry h hs;obtain⟨p,xs,i,z,rfl,rfl,hq,he,q⟩:=h;cases rx;obtain⟨t,rfl⟩:=ry;obtain⟨its,r,pl,hz⟩:=I.list hq;obtain⟨j,h1,h2,h3,h4,h5⟩:=j0k he;obtain⟨w,ew,rw'⟩:=r.get h2;have hl:=r.length;have hn:=jqz;have fin:EP X pins U Q w s:=⟨z,H,I,rw',q⟩;by_cases h0:0<=i
 .have hj:i.toNat=j:=by
   rw[seqIndex_of h0 h5]at h1;exact Option.some.inj h1
  exact item_listR pl.isList h0 (by omega) (by rw[hj];simpa using ew) fin hs
 .have hj:(i+(its.toArray.size:Int)).toNat=j:=by
   rw[seqIndex_neg (by omega) h4]at h1;rw[size_toArray,<-hl];exact Option.some.inj h1
  exact subscriptTail_builtinR (x:=w) pl.isList.typeIs slot_list_getitem.lookup (wpAny_getItem_list_neg (Q:=λr s'=>r=w/\EP X pins U Q r s') pl.isList (by omega) (by rw[size_toArray]<;>omega) (by omega) (by rw[hj];simpa using ew) ⟨rfl,fin⟩) hs
theorem jdm:IxR X (j72 X.K):=by
 intro value slice pins s U H x y v u Q I rx ry h hs;obtain⟨p,xs,i,z,rfl,rfl,hq,he,q⟩:=h;cases rx;obtain⟨t,rfl⟩:=ry;obtain⟨its,r,pl,hz⟩:=I.tuple hq;obtain⟨j,h1,h2,h3,h4,h5⟩:=j0k he;obtain⟨w,ew,rw'⟩:=r.get h2;have hl:=r.length;have hn:=jqz;have fin:EP X pins U Q w s:=⟨z,H,I,rw',q⟩;exact subscriptTail_builtinR (x:=w) pl.typeIs slot_tuple_getitem.lookup (getItem_tuple (j:=j) (Q:=λr s'=>r=w/\EP X pins U Q r s') pl (by omega) (by omega) (by rw[size_toArray,<-hl];exact h1) (by simpa using ew) ⟨rfl,fin⟩) hs
theorem jyf (its:List Value)(n j:Nat)(u:Value):Obj.mapSeq (·.setIfInBounds j u) {cls:=.type "list",data:=.seq its.toArray n}={cls:=.type "list",data:=.seq (its.set j u).toArray n}:=by simp[Obj.mapSeq]
theorem Inv.lst {pins:List (Addr×Obj)}{U:St}{H:Hp}{s:Shared}{p:Addr}{xs:List V}(I:Inv X pins U H s)(h:H p=some (.lst xs)):∃(its:List Value)(n:Nat),Vals xs its/\s.heap.get? p=some {cls:=.type "list",data:=.seq its.toArray n}/\xs.length<=sizeLine:=by
 obtain⟨z,its,n,r,e⟩:=I.hok p _ h;exact⟨its,n,r,e,z⟩
theorem Inv.j6e {pins:List (Addr×Obj)}{U:St}{H:Hp}{s:Shared}{p:Addr}{xs ys:List V}{its its':List Value}{n n':Nat}{f:Obj->Obj}(I:Inv X pins U H s)(h:H p=some (.lst xs))(ho:s.heap.get? p=some {cls:=.type "list",data:=.seq its.toArray n})(hf:f {cls:=.type "list",data:=.seq its.toArray n}={cls:=.type "list",data:=.seq its'.toArray n'})(r:Vals ys its')(hz:ys.length<=sizeLine)(t:Nat):
  Inv X pins U (upd H p (.lst ys)) {s with heap:=s.heap.update p f,toks:=t}:=by
 have e:(s.heap.update p f).get? p=some {cls:=.type "list",data:=.seq its'.toArray n'}:=by rw[Heap.get?_update_self f ho (by rw[hf]<;>rfl),hf]
 refine I.write (x:=p) (e:=p) (by rw[h];trivial) (.inl rfl) (λb u hb q=>(Heap.get?_update_other _ _ (Ne.symm hb)).trans q) ⟨_,e⟩ ?_;exact⟨hz,its',n',r,e⟩
noncomputable def j8k:V->V->V->Hp->(Hp->Prop)->Prop:=λo i v H Q=>∃p xs k j,o= .ref p/\i= .int k/\H p=some (.lst xs)/\ixN xs.length k=some j/\Q (upd H p (.lst (xs.set j v)))
theorem set_list:j8m X j8k:=by
 intro pins s U H o i v ov iv u Q I ro ri rv h;obtain⟨p,xs,k,j,rfl,rfl,hp,hj,q⟩:=h;cases ro;obtain⟨t,rfl⟩:=ri;obtain⟨its,n,r,ho,hz⟩:=I.lst hp;obtain⟨h1,h2,h3,h4⟩:=j0z hj;have hl:=r.length;have hn:=jqz;have I':Inv X pins U (upd H p (.lst (xs.set j v))) {s with heap:=s.heap.update p (Obj.mapSeq (·.setIfInBounds j u))}:=I.j6e hp ho (jyf its n j u) (r.set rv j) (by rw[length_set];exact hz) s.toks;by_cases h0:0<=k
 .have hk:k.toNat=j:=by
   rw[seqIndex_of h0 h4]at h1;exact Option.some.inj h1
  exact PySem.W.ki_setAt ho h0 (by omega) (by rw[size_toArray,<-hl];exact h4) (by rw[hk];exact⟨_,I',q⟩)
 .have hk:(k+(its.toArray.size:Int)).toNat=j:=by
   rw[seqIndex_neg (by omega) h3]at h1;rw[size_toArray,<-hl];exact Option.some.inj h1
  exact PySem.W.ki_setBack ho (by omega) (by rw[size_toArray,<-hl];exact h3) (by omega) (by rw[hk];exact⟨_,I',q⟩)
noncomputable def jti:V->Bool
 | .non=>true
 | .bl _=>true
 | .int _=>true
 | .str _=>true
 |_=>false
noncomputable def eqV:V->V->Bool
 | .non,.non=>true
 | .bl a,.bl b=>a==b
 | .bl a,.int b=>(if a then 1 else 0)==b
 | .int a,.bl b=>a==(if b then 1 else 0)
 | .int a,.int b=>a==b
 | .str a,.str b=>a==b
 |_,_=>false
theorem j7b {A:Around}{s:Shared}{y x:V}{u v:Value}(ry:RelV y u)(rx:RelV x v)(fy:jti y=true)(fx:jti x=true):SeqAt.EqAt A s u v (eqV y x):=by
 cases y with
 |non=>
  cases ry;cases x with
  |non=>cases rx;exact SeqAt.EqAt.same _
  |bl b=>cases rx;exact SeqAt.EqAt.none_bool b
  |int b=>obtain⟨t,rfl⟩:=rx;exact SeqAt.EqAt.none_int b t
  |str b=>obtain⟨t,rfl⟩:=rx;exact SeqAt.EqAt.none_str b t
  |_=>exact absurd (show false=true from fx) Bool.false_ne_true
 |bl a=>
  cases ry;cases x with
  |non=>cases rx;exact SeqAt.EqAt.bool_none a
  |bl b=>cases rx;exact SeqAt.EqAt.bool_bool a b
  |int b=>obtain⟨t,rfl⟩:=rx;exact SeqAt.EqAt.bool_int a b t
  |str b=>obtain⟨t,rfl⟩:=rx;exact SeqAt.EqAt.bool_str a b t
  |_=>exact absurd (show false=true from fx) Bool.false_ne_true
 |int a=>
  obtain⟨t',rfl⟩:=ry;cases x with
  |non=>cases rx;exact SeqAt.EqAt.int_none a t'
  |bl b=>cases rx;exact SeqAt.EqAt.int_bool a t' b
  |int b=>obtain⟨t,rfl⟩:=rx;exact SeqAt.EqAt.int_int a t' b t
  |str b=>obtain⟨t,rfl⟩:=rx;exact SeqAt.EqAt.int_str a t' b t
  |_=>exact absurd (show false=true from fx) Bool.false_ne_true
 |str a=>
  obtain⟨t',rfl⟩:=ry;cases x with
  |non=>cases rx;exact SeqAt.EqAt.str_none a t'
  |bl b=>cases rx;exact SeqAt.EqAt.str_bool a t' b
  |int b=>obtain⟨t,rfl⟩:=rx;exact SeqAt.EqAt.str_int a t' b t
  |str b=>obtain⟨t,rfl⟩:=rx;exact SeqAt.EqAt.str_str a t' b t
  |_=>exact absurd (show false=true from fx) Bool.false_ne_true
 |_=>exact absurd (show false=true from fy) Bool.false_ne_true
noncomputable def eqU (x:V)(u:Value):Bool:=match u with
 | .none=>eqV .non x
 | .bool b=>eqV (.bl b) x
 | .int i _=>eqV (.int i) x
 | .str z _=>eqV (.str z) x
 |_=>false
theorem j3g {x y:V}{u:Value}(r:RelV y u)(f:jti y=true):eqU x u=eqV y x:=by
 cases y with
 |non=>cases r;rfl
 |bl b=>cases r;rfl
 |int i=>obtain⟨t,rfl⟩:=r;rfl
 |str z=>obtain⟨t,rfl⟩:=r;rfl
 |_=>exact absurd (show false=true from f) Bool.false_ne_true
theorem jqk {x:V}:∀{xs:List V}{us:List Value},Vals xs us->xs.all jti=true->us.any (eqU x)=xs.any λy=>eqV y x
 |_,_,.nil,_=>rfl
 |y::xs,u::us,.cons r t,f=>by rw[List.all_cons,Bool.and_eq_true]at f;rw[any_cons,any_cons,j3g r f.1,jqk t f.2]
theorem jmk {A:Around}{s:Shared}{x:V}{v:Value}(rx:RelV x v)(fx:jti x=true):∀{xs:List V}{us:List Value},Vals xs us->xs.all jti=true->∀u∈us,SeqAt.EqAt A s u v (eqU x u)
 |_,_,.nil,_=>λu hu=>by cases hu
 |y::xs,u::us,.cons r t,f=>λu' hu=>by
  rw[List.all_cons,Bool.and_eq_true]at f;rcases mem_cons.mp hu with rfl|hu
  .rw[j3g r f.1];exact j7b r rx f.1 fx
  .exact jmk rx fx t f.2 u' hu
noncomputable def inV (x:V)(xs:List V):Bool:=xs.any λy=>eqV y x
noncomputable def rIn (K:PySem.W.Frag)(neg:Bool):R2:=λx y H Q=>∃p xs,y= .ref p/\(SqL K H p xs\/SqT K H p xs)/\jti x=true/\xs.all jti=true/\Q (.bl (if neg then !inV x xs else inV x xs)) H
theorem jq5:OpR X (compareOp .In) (rIn X.K false):=by
 intro pins s U H x y v u Q I rx ry h;obtain⟨p,xs,rfl,hq,fx,fs,q⟩:=h;cases ry;rcases hq with hq|hq
 .obtain⟨its,r,pl,hz⟩:=I.list hq;refine SeqAt.in_listAt (eqU x) pl.isList (λw hw=>jmk rx fx r fs w (by simpa using hw)) ⟨.bl _,H,I,rfl,?_⟩;rw[show its.toArray.any (eqU x)=its.any (eqU x)by simp,jqk r fs];exact q
 .obtain⟨its,r,pl,hz⟩:=I.tuple hq;refine SeqAt.in_tupleAt (eqU x) pl (λw hw=>jmk rx fx r fs w (by simpa using hw)) ⟨.bl _,H,I,rfl,?_⟩;rw[show its.toArray.any (eqU x)=its.any (eqU x)by simp,jqk r fs];exact q
theorem je7:OpR X (compareOp .NotIn) (rIn X.K true):=by
 intro pins s U H x y v u Q I rx ry h;obtain⟨p,xs,rfl,hq,fx,fs,q⟩:=h;cases ry;rcases hq with hq|hq
 .obtain⟨its,r,pl,hz⟩:=I.list hq;refine SeqAt.notIn_listAt (eqU x) pl.isList (λw hw=>jmk rx fx r fs w (by simpa using hw)) ⟨.bl _,H,I,rfl,?_⟩;rw[show its.toArray.any (eqU x)=its.any (eqU x)by simp,jqk r fs];exact q
 .obtain⟨its,r,pl,hz⟩:=I.tuple hq;refine SeqAt.notIn_tupleAt (eqU x) pl (λw hw=>jmk rx fx r fs w (by simpa using hw)) ⟨.bl _,H,I,rfl,?_⟩;rw[show its.toArray.any (eqU x)=its.any (eqU x)by simp,jqk r fs];exact q
theorem jr:jmo X (.builtin "len") (λxs H Q=>∃p ys,xs=[.ref p]/\(SqL X.K H p ys\/SqT X.K H p ys)/\Q (.int ys.length) H):=by
 intro pins s U H xs us Q I r h;obtain⟨p,ys,rfl,hq,q⟩:=h;obtain⟨u,rfl,rx⟩:=vals1 r;cases rx;have hn:=jqz;rcases hq with hq|hq
 .obtain⟨its,r',pl,hz⟩:=I.list hq;have hlen:=r'.length;exact Calls.call_len_list pl.isList (by simp only[size_toArray]<;>omega) ⟨.int ys.length,H,I.tok _,⟨s.toks+1,by rw[size_toArray,hlen]⟩,q⟩
 .obtain⟨its,r',pl,hz⟩:=I.tuple hq;have hlen:=r'.length;exact len_tuple pl (by simp only[size_toArray]<;>omega) ⟨.int ys.length,H,I.tok _,⟨s.toks+1,by rw[size_toArray,hlen]⟩,q⟩
theorem jac:jmo X (.type "list") (λxs H Q=>∃p ys,xs=[.ref p]/\(SqL X.K H p ys\/SqT X.K H p ys)/\∀l,H l=none->Q (.ref l) (upd H l (.lst ys))):=by
 intro pins s U H xs us Q I r h;obtain⟨p,ys,rfl,hq,q⟩:=h;obtain⟨u,rfl,rx⟩:=vals1 r;cases rx;have fin:∀(its:List Value),Vals ys its->ys.length<=sizeLine->∀(h':Heap)(c':Nat),(∀b o',s.heap.get? b=some o'->h'.get? b=some o')->h'.get? s.heap.objs.size=some {cls:=.type "list",dict:=none,data:=.seq its.toArray c',slots:=#[]}->EP X pins U Q (.ref s.heap.objs.size) {s with heap:=h'}:=λits r' hz h' c' kp e=>⟨.ref s.heap.objs.size,_,I.laid (t':=s.toks) kp (le_refl _) (show vg X.prog X.w _ h' _ (.lst ys)from⟨hz,its,c',r',e⟩),rfl,q _ (I.hok.fresh (le_refl _))⟩;rcases hq with hq|hq
 .obtain⟨its,r',pl,hz⟩:=I.list hq;have hlen:=r'.length;obtain⟨o,ho,hc,n,hd⟩:=pl.isList;exact call_list_seq p (.inl rfl) ho hc hd (λh' c' kp e=>fin its r' hz h' c' kp e) (by simp only[size_toArray]<;>omega)
 .obtain⟨its,r',pl,hz⟩:=I.tuple hq;have hlen:=r'.length;obtain⟨o,ho,hc,n,hd⟩:=pl;exact call_list_seq p (.inr rfl) ho hc hd (λh' c' kp e=>fin its r' hz h' c' kp e) (by simp only[size_toArray]<;>omega)
theorem jsq:jmo X (.type "tuple") (λxs H Q=>∃p ys,xs=[.ref p]/\((SqL X.K H p ys/\∀l,H l=none->Q (.ref l) (upd H l (.tup ys)))\/(SqT X.K H p ys/\Q (.ref p) H))):=by
 intro pins s U H xs us Q I r h;obtain⟨p,ys,rfl,h⟩:=h;obtain⟨u,rfl,rx⟩:=vals1 r;cases rx;rcases h with⟨hq,q⟩|⟨hq,q⟩
 .obtain⟨its,r',pl,hz⟩:=I.list hq;have hlen:=r'.length;refine call_tuple_list pl.isList (λh' kp=>?_) (by simp only[size_toArray]<;>omega);have I1:Inv X pins U H {s with heap:=h'}:=I.kept (t':=s.toks) kp;have I2:Inv X pins U (upd H h'.objs.size (.tup ys)) {s with heap:=h'.push {cls:=.type "tuple",data:=.seq its.toArray}}:=I1.laid (t':=s.toks) (λb o e=>Heap.get?_push_of_some _ e) (le_refl _) (show vg X.prog X.w _ _ _ (.tup ys)from⟨hz,its,r',IsTup.new _ _⟩);exact⟨.ref h'.objs.size,_,I2,rfl,q _ (I1.hok.fresh (le_refl _))⟩
 .obtain⟨its,r',pl,hz⟩:=I.tuple hq;exact call_tuple_same pl ⟨.ref p,H,I,rfl,q⟩
noncomputable def tyV (K:PySem.W.Frag)(T:String)(x:V)(H:Hp):Prop:=match x with
 | .str _=>T="str"
 | .int _=>T="int"
 | .ref p=>(T="list"/\∃xs,SqL K H p xs)\/(T="tuple"/\∃o,K.lookup p=some o/\o.cls= .type "tuple"/\o.dict=none)\/(T="dict"/\((∃kvs,H p=some (.dK kvs))\/∃kvs,H p=some (.dT kvs)))\/(T="set"/\∃S n,H p=some (.set S n))
 |_=>False
theorem j3m {pins:List (Addr×Obj)}{U:St}{H:Hp}{s:Shared}{T:String}{x:V}{v:Value}(I:Inv X pins U H s)(r:RelV x v)(ty:tyV X.K T x H):s.TypeIs v T/\∀a,v= .ref a->∃ob,s.heap.get? a=some ob/\ob.dict=none:=by
 cases x with
 |str z=>obtain⟨t,rfl⟩:=r;cases(show T="str"from ty);exact⟨typeIs_str s z t,λ_ e=>nomatch e⟩
 |int i=>obtain⟨t,rfl⟩:=r;cases(show T="int"from ty);exact⟨typeIs_int s i t,λ_ e=>nomatch e⟩
 | ref p=>
  cases r;rcases ty with⟨rfl,xs,hq⟩|⟨rfl,o,hk,hc,hd⟩|⟨rfl,hk⟩|⟨rfl,S,n,hk⟩
  .obtain⟨its,_,pl,_⟩:=I.list hq;refine⟨pl.isList.typeIs,λa e=>?_⟩;cases e;obtain⟨o,n,e,c,hd,_⟩:=pl;exact⟨o,e,hd⟩
  .refine⟨⟨o,I.kIn p o hk,hc⟩,λa e=>?_⟩;cases e;exact⟨o,I.kIn _ o hk,hd⟩
  .have z:∃o,s.heap.get? p=some o/\o.ExactDict:=by
    rcases hk with⟨kvs,hk⟩|⟨kvs,hk⟩
    .obtain⟨_,_,_,_,o,_,_,e,ex,_⟩:=I.hok p _ hk;exact⟨o,e,ex⟩
    .obtain⟨_,_,_,_,o,_,_,e,ex,_⟩:=I.hok p _ hk;exact⟨o,e,ex⟩
   obtain⟨o,e,ex⟩:=z;refine⟨⟨o,e,ex.1⟩,λa e2=>?_⟩;cases e2;exact⟨o,e,ex.2.1⟩
  .obtain⟨o,_,_,_,e,ex,_⟩:=I.hok p _ hk;refine⟨⟨o,e,ex.1⟩,λa e2=>?_⟩;cases e2;exact⟨o,e,ex.2.1⟩
 |_=>exact False.elim ty
noncomputable def qbg (K:PySem.W.Frag)(T:String)(r:V->List V->Hp->VK->Prop)(to:TE):TE:=λU H Q=>to U H λx H1=>tyV K T x H1/\r x [] H1 Q
noncomputable def tBM (K:PySem.W.Frag)(T:String)(r:V->List V->Hp->VK->Prop)(to:TE)(t:TA):TE:=λU H Q=>to U H λx H1=>tyV K T x H1/\t U H1 λxs H2=>r x xs H2 Q
variable {o e:Expr}{es:List Expr}{to:TE}{t:TA}{name:Str}{apos cpos:Pos}{T id:String}{r:V->List V->Hp->VK->Prop}
theorem j25 (pa:PlainAttrs T)(slot:Slot T name id)(hty:typeOf (.builtin id)=pure (.type "method_descriptor"))(hm:MtR X id r)(ho:PE X o to)(hbase:autoParam (attributeBase o name X.env (eval o X.env)=eval o X.env) aP1)(hline:autoParam ((apos.endLine==cpos.line)=true) aP1):PE X (.Call (.Attribute o name apos) [] [] cpos) (qbg X.K T r to):=by
 intro pins s U H Q I h;refine wpAny_Call_method0_late hbase hline (thn (ho pins s U H _ I h) λv s1 zQ=>?_);obtain⟨x,H1,I1,r1,ty,q1⟩:=zQ;obtain⟨h1,h2⟩:=j3m I1 r1 ty;exact⟨T,id,pa,slot,hty,h1,h2,Calls.callWith_builtin rfl (PySem.evalArgs_none (hm pins s1 U H1 x [] v [] Q I1 r1 .nil q1))⟩
theorem jjx (pa:PlainAttrs T)(slot:Slot T name id)(hty:typeOf (.builtin id)=pure (.type "method_descriptor"))(hm:MtR X id r)(ho:PE X o to)(ha:PA X (e::es) t)(hbase:autoParam (attributeBase o name X.env (eval o X.env)=eval o X.env) aP1)(hfew:autoParam (((backTo cpos (starEach (e::es) X.env)).all (λx=>!x.1)&&(backToKw cpos (keywordEach [] X.env)).all (λx=>x.1.isSome)&&decide ((e::es).length+([]:List Keyword).length+(if([]:List Keyword).isEmpty then 0 else 1)<30))=true) aP1)(hline:autoParam ((apos.endLine==cpos.line)=true) aP1)(hs:autoParam (starEach (e::es) X.env=(false,eval e X.env)::starEach es X.env) aP1)(hplain:autoParam ((backTo cpos (starEach es X.env)).any (·.1)=false) aP1):
  PE X (.Call (.Attribute o name apos) (e::es) [] cpos) (tBM X.K T r to t):=by
 intro pins s U H Q I h;refine wpAny_Call_method_late hbase hfew hline rfl (thn (ho pins s U H _ I h) λv s1 zQ=>?_);obtain⟨x,H1,I1,r1,ty,q1⟩:=zQ;obtain⟨h1,h2⟩:=j3m I1 r1 ty;refine⟨T,id,pa,slot,hty,h1,h2,?_⟩;have hA:=ha cpos pins s1 U H1 _ I1 q1;rw[hs]at hA⊢;refine Calls.callWith_builtin (by show(false||(backTo cpos (starEach es X.env)).any (·.1))=false;rw[hplain]<;>rfl) (Calls.evalArgs_plain ?_);exact thn hA λus s2 ⟨vs,H2,I2,r2,q2⟩=>hm pins s2 U H2 x vs v us Q I2 r1 r2 q2
end
noncomputable def MtM (X:Cx)(id:String)(r:V->List V->Hp->VK->Prop):Prop:=∀(pins:List (Addr×Obj))(s:Shared)(U:St)(H:Hp)(x:V)(xs:List V)(v:Value)(us:List Value)(Q:VK),Inv X pins U H s->RelV x v->Vals xs us->r x xs H Q->wpAny (model X.prog X.w) X.A (call (.builtin id) (v::us)) (EP X pins U Q) X.xe s
theorem Vals.one:∀{x:V}{us:List Value},Vals [x] us->∃u,us=[u]/\RelV x u:=λ{x us} p=>by
 cases p with
 |cons r t=>cases t;exact⟨_,rfl,r⟩
theorem Vals.eraseIdx:∀{xs:List V}{us:List Value}(i:Nat),Vals xs us->Vals (xs.eraseIdx i) (us.eraseIdx i)
 |_,_,_,.nil=>.nil
 |_,_,0,.cons _ t=>t
 |_,_,i+1,.cons r t=>.cons r (Vals.eraseIdx i t)
theorem Vals.rep {xs:List V}{us:List Value}(h:Vals xs us):∀k:Nat,Vals (List.replicate k xs).flatten (List.replicate k us).flatten
 |0=>.nil
 |k+1=>by rw[replicate_succ,replicate_succ,flatten_cons,flatten_cons];exact Vals.append h (Vals.rep h k)
theorem jt8 {α:Type}:∀(l:List α)(i:Nat),(l.eraseIdx i).length<=l.length
 |[],_=>le_refl _
 |_::_,0=>le_succ _
 |_::r,i+1=>Nat.succ_le_succ (jt8 r i)
theorem foldl_rep (its:List Value):∀(k:Nat)(acc:List Value),List.foldl (λx1 x2=>x1++x2) acc.toArray (List.replicate k its.toArray)=(acc++(List.replicate k its).flatten).toArray
 |0,acc=>by simp
 |k+1,acc=>by
  have e:acc.toArray++its.toArray=(acc++its).toArray:=by simp
  have e2:(acc++its)++(List.replicate k its).flatten=acc++(List.replicate (k+1) its).flatten:=by rw[replicate_succ,flatten_cons,List.append_assoc]
  rw[<-e2,<-foldl_rep its k (acc++its),<-e,replicate_succ,foldl_cons]
section
variable {X:Cx}{pins:List (Addr×Obj)}{U:St}{H:Hp}{s:Shared}{l b:Addr}{xs ys zs:List V}
theorem Inv.j9j {its its':List Value}{n:Nat}{f:Array Value->Array Value}{t':Nat}(I:Inv X pins U H s)(hH:H l=some (.lst xs))(e:s.heap.get? l=some {cls:=.type "list",data:=.seq its.toArray n})(hf:f its.toArray=its'.toArray)(hv:Vals ys its')(hz:ys.length<=sizeLine):
  Inv X pins U (upd H l (.lst ys)) {s with heap:=s.heap.update l (Obj.mapSeq f),toks:=t'}:=by
 have q:=PySem.IsL.update e f;rw[hf]at q;refine I.write (x:=l) (e:=l) (by rw[hH];exact trivial) (.inl rfl) (λb' u hb hu=>(Heap.get?_update_other s.heap (Obj.mapSeq f) (Ne.symm hb)).trans hu) ⟨_,q⟩ ?_;exact⟨hz,its',_,hv,q⟩
theorem Inv.j94 {its:List Value}{t':Nat}(I:Inv X pins U H s)(hv:Vals ys its)(hz:ys.length<=sizeLine):Inv X pins U (upd H s.heap.objs.size (.lst ys)) {s with heap:=s.heap.push {cls:=.type "list",data:=.seq its.toArray},toks:=t'}:=
 I.laid (λ_ _ q=>Heap.get?_push_of_some _ q) (le_refl _) ⟨hz,its,0,hv,Heap.get?_push_size _ rfl⟩
theorem Inv.fresh (I:Inv X pins U H s):H s.heap.objs.size=none:=I.hok.fresh (le_refl _)
theorem Inv.j5z (I:Inv X pins U H s)(hH:H l=some (.lst xs)):xs.length<=sizeLine/\∃(its:List Value)(n:Nat),Vals xs its/\xs.length=its.length/\s.heap.get? l=some {cls:=.type "list",data:=.seq its.toArray n}:=by obtain⟨z,its,n,r,e⟩:=I.hok l _ hH;exact⟨z,its,n,r,r.length,e⟩
theorem j16 {n:Nat}(h:n<=sizeLine):Builtin.List.listTooLong n=false:=by unfold Builtin.List.listTooLong;exact decide_eq_false (by omega)
end
section
variable {X:Cx}
noncomputable def j3u:V->List V->Hp->VK->Prop:=λx vs H Q=>∃l xs y,x= .ref l/\vs=[y]/\H l=some (.lst xs)/\xs.length<sizeLine/\Q .non (upd H l (.lst (xs++[y])))
theorem wz:MtM X "list.append" j3u:=by intro pins s U H x vs v us Q I rx rv h;obtain⟨l,xs,y,rfl,rfl,hH,hz,q⟩:=h;cases rx;obtain⟨u,rfl,ru⟩:=rv.one;obtain⟨z,its,n,r,hl,e⟩:=I.j5z hH;refine call_meets F.slot_list_append ⟨_,e,rfl⟩ F.entry_list_append (F.args_list_append_2 _ _) (PySem.list_append l its.toArray n u (by rw[size_toArray];omega)) ⟨e,?_⟩;refine⟨.non,_,I.j9j (its':=its++[u]) hH e (by simp) (r.append (.cons ru .nil)) ?_,rfl,q⟩;rw[length_append,List.length_singleton];omega
noncomputable def j7i:V->List V->Hp->VK->Prop:=λx vs H Q=>∃l xs i k y,x= .ref l/\vs=[.int i]/\H l=some (.lst xs)/\-(2^63)<=i/\i<2^63/\seqIndex? i xs.length=some k/\xs[k]?=some y/\Q y (upd H l (.lst (xs.eraseIdx k)))
theorem jxa:MtM X "list.pop" j7i:=by
 intro pins s U H x vs v us Q I rx rv h;obtain⟨l,xs,i,k,y,rfl,rfl,hH,h1,h2,hk,hy,q⟩:=h;cases rx;obtain⟨u,rfl,ru⟩:=rv.one;obtain⟨t,rfl⟩:=ru;obtain⟨z,its,n,r,hl,e⟩:=I.j5z hH;obtain⟨w,hw,rw'⟩:=r.get hy;refine call_meets F.slot_list_pop ⟨_,e,rfl⟩ F.entry_list_pop (F.args_list_pop_2 _ _) (MeetsSeq.list_pop_at l its.toArray n i t k w (fitsIndex_both h1 h2) (by rw[size_toArray,<-hl];exact hk) (by rw[<-Array.getElem?_toList];exact hw) (by rw[size_toArray];omega)) ⟨e,?_⟩;refine⟨y,_,I.j9j (its':=its.eraseIdx k) hH e ?_ (r.eraseIdx k) ?_,rw',q⟩
 .show its.toArray.eraseIdxIfInBounds k=(its.eraseIdx k).toArray;rw[List.eraseIdxIfInBounds_toArray]
 .have:=jt8 xs k;omega
noncomputable def qa8:R2:=λx y H Q=>∃l b xs zs,x= .ref l/\y= .ref b/\H l=some (.lst xs)/\H b=some (.lst zs)/\xs.length+zs.length<=sizeLine/\∀p,H p=none->Q (.ref p) (upd H p (.lst (xs++zs)))
theorem juw:OpR X (binaryOp .Add) qa8:=by
 intro pins s U H x y v u Q I rx ry h;obtain⟨l,b,xs,zs,rfl,rfl,hH,hB,hz,q⟩:=h;cases rx;cases ry;obtain⟨z,its,n,r,hl,e⟩:=I.j5z hH;obtain⟨z2,its2,n2,r2,hl2,e2⟩:=I.j5z hB;refine PySem.P.add_list e e2 ?_ (by rw[size_toArray,size_toArray];omega);have ea:its.toArray++its2.toArray=(its++its2).toArray:=by simp
 rw[ea];exact⟨.ref _,_,I.j94 (t':=s.toks) (r.append r2) (by rw[length_append];omega),rfl,q _ I.fresh⟩
noncomputable def qaq:R2:=λx y H Q=>∃l k xs,x= .ref l/\y= .int k/\H l=some (.lst xs)/\-(2^63)<=k/\k<2^63/\xs.length*k.toNat<=sizeLine/\∀p,H p=none->Q (.ref p) (upd H p (.lst (List.replicate k.toNat xs).flatten))
theorem len_rep {α:Type}(xs:List α)(k:Nat):(List.replicate k xs).flatten.length=k*xs.length:=by
 induction k with
 |zero=>simp
 |succ k ih=>rw[replicate_succ,flatten_cons,length_append,ih,Nat.succ_mul,Nat.add_comm]
theorem j66:OpR X (binaryOp .Mult) qaq:=by
 intro pins s U H x y v u Q I rx ry h;obtain⟨l,k,xs,rfl,rfl,hH,h1,h2,hz,q⟩:=h;cases rx;obtain⟨t,rfl⟩:=ry;obtain⟨z,its,n,r,hl,e⟩:=I.j5z hH;have hlen:its.toArray.size*k.toNat<=sizeLine:=by rw[size_toArray,<-hl];exact hz
 have hcap:¬its.toArray.size*k.toNat>(2^63-1) / 8:=by
  have:(sizeLine:Nat)<=(2^63-1) / 8:=by decide
  omega
 have hfit:¬(!Builtin.List.listFitsIndex k)=true:=by rw[fitsIndex_both h1 h2];exact Bool.false_ne_true
 have hlong:¬Builtin.List.listTooLong (its.toArray.size*k.toNat)=true:=by rw[j16 hlen];exact Bool.false_ne_true
 have hnew:List.foldl (λx1 x2=>x1++x2) #[] (List.replicate (if its.toArray.isEmpty=true then 0 else k.toNat) its.toArray)=(List.replicate k.toNat its).flatten.toArray:=by
  have f0:∀m:Nat,List.foldl (λx1 x2=>x1++x2) #[] (List.replicate m its.toArray)=(List.replicate m its).flatten.toArray:=λm=>by have:=foldl_rep its m [];rw[List.nil_append]at this;exact this
  rw[f0];cases its with
  |nil=>simp
  |cons a r'=>rw[if_neg (by simp)]
 refine wpAny_binaryOp_repeat_ref (T:="list") (U:="int") (by decide) ⟨_,e,rfl⟩ (λs'=>typeIs_int s' k t) noFill_list_mul F.fills_int_mul F.slot_int_rmul repeat_list F.slot_int_index.lookup (call_meets F.slot_int_rmul (typeIs_int s k t) F.entry_int_rmul (F.args_int_rmul_2 _ _) (int___rmul___int_list k t l its.toArray n) ⟨e,rfl,⟨_,e,rfl⟩,call_meets F.slot_list_mul ⟨_,e,rfl⟩ F.entry_list_mul (F.args_list_mul_2 _ _) (AutoListH.list___mul___list_int_3 l its.toArray n k t hfit hcap hlong) ⟨e,?_⟩⟩);rw[hnew];exact⟨.ref _,_,I.j94 (t':=s.toks) (r.rep k.toNat) (by rw[len_rep,Nat.mul_comm];exact hz),rfl,q _ I.fresh⟩
end
end L2
namespace Att
open PySem PySem.W PySem.Calls PyProof.Rows
theorem jqd {P:Params}{h:Heap}:∀(ns:List Int)(vs:List Value),WellAll P h vs (ns.map WData.int)->IntsAre vs ns:=by
 intro ns;induction ns with
 |nil=>intro vs w;rw[map_nil]at w;cases w;exact .nil
 |cons n ns ih=>
  intro vs w;rw[map_cons]at w;cases w with
  |cons a b=>cases a;exact .cons _ _ (ih _ b)
theorem jz5 {l:OpenLaw}{n:Nat}(hn:l.most=some n){P:Params}{h:Heap}{args:List WData}{vals:List Value}(hpre:l.row.toRowW.claim.pre args=true)(hwl:WellAll P h vals args):∃a vs ns,vals=[Value.ref a]/\args=[WData.list (ns.map WData.int)]/\h.get? a=some {cls:=.type "list",data:=.seq vs.toArray}/\IntsAre vs ns/\ns.length<=n:=by
 have hsh:WShape.hasAll [] args [.list .int]=true:=(pre_splitW hpre).1;have hc:l.pre.holds [] {args:=args}=true:=(pre_splitW hpre).2;obtain⟨d,r,rfl,h1,h2⟩:=hasAllW_cons hsh;obtain rfl:=hasAllW_nil h2;obtain⟨xs,rfl,h3⟩:=hasW_list h1;obtain⟨ns,rfl⟩:=items_int h3;have hlen:ns.length<=n:=by
  unfold OpenLaw.pre at hc;have h4:(WTm.not (.lt (.lit (.int (n:Int))) (.len (.arg 0)))).holds [] {args:=[.list (ns.map .int)]}=true:=by have h4:=(holds_andW hc).1;rw[hn]at h4;exact h4
  have h5:=condW_of h4 (w_not (w_lt w_lit (w_len_list (w_arg rfl))));rw[length_map]at h5;refine Nat.le_of_not_lt λq=>?_;have q':(n:Int)<((ns.length:Nat):Int):=by omega
  first
   |(rw[decide_eq_true q']at h5;exact absurd h5 (by decide))
   |(simp at h5;omega)
 cases hwl with
 |cons w1 w2=>
  cases w2;cases w1 with
  |list ho hall=>exact⟨_,_,ns,rfl,rfl,ho,jqd ns _ hall,hlen⟩
theorem jy9 (l:OpenLaw)(args:List WData):l.row.toRowW.claim.post args (.bool true) args=true:=postW_of (r:=l.row.toRowW) (X:=(true==true)) (show WShape.has [] (.bool true) .bool=true by first|rfl|decide|simp[WShape.has,WShape.arms,WShape.armsAll]) (show(WTm.eq .res (.lit (.bool true))).value [] {args:=args,res:=some (.bool true),after:=args}=some (.bool (true==true))from w_eq_bool (w_res rfl) w_lit) rfl
theorem jwj {l:OpenLaw}{n:Nat}{q:Program}{loose:List Str}{XP:(Str->Option Value)->Heap->Prop}{YP:World->Heap->Prop}{d:DefRec}(hn:l.most=some n)(hdf:d.params.defaults=[])(call:∀(w:World)(s₀ s₁:Shared)(mg mb:Str->Option Value)(fa:Addr)(o:Obj)(pm cd doc:Value)(a:Addr)(vs:List Value)(ns:List Int),Ground q loose [] XP w s₀ mg mb s₁.heap->YP w s₁.heap->
   s₁.heap.get? fa=some o->o.data= .func (docDef d.name d.params d.body d.scope pm cd doc)->s₁.heap.CodeRec cd d.name->mg d.name=some (.ref fa)->
   s₁.heap.get? a=some {cls:=.type "list",data:=.seq vs.toArray}->IntsAre vs ns->ns.length<=n->s₁.gens=#[]->
   codeAny (model l.prog w) callerA (.call (.ref fa) ⟨[.ref a],[]⟩) (λr s'=>r= .ok (.ret (.bool true))/\OldK s₁.heap s'.heap/\s'.os=s₁.os/\AllBare s'.gens) s₁):
  WalkO q loose XP YP l.row.toRowW d [] (λf vs=>PySem.call f vs):=by
 intro w s₀ s₁ mg mb G Yq fa o pm cd doc dV kV ho hd hcd hD hmg hg args vals as hpre hlay hrd hwl hlo;obtain rfl:dV= .none:=Dflts.none hD hdf;obtain rfl:kV= .none:=Dflts.noKw hD;obtain⟨a,vs,ns,rfl,rfl,hobj,hints,hlen⟩:=jz5 hn hpre hwl;refine enter_call (codeAny_mono (call w s₀ s₁ mg mb fa o pm cd doc a vs ns G Yq ho (fd_plain hd) hcd hmg hobj hints hlen hg) λr s' hq=>?_);obtain⟨rfl,h2,h3,h4⟩:=hq;exact⟨.inl ⟨.bool true,.bool true,[],rfl,λ_=>rfl,.bool true,jy9 l _,λ_=>⟨List.Pairwise.nil,λ_ hm=>(nomatch hm)⟩⟩,h2,h3,h4⟩
end Att
namespace L2
open PySem PySem.Spec PyProof.Rows
theorem jua:∀{vs:List Value}{ns:List Int},IntsAre vs ns->Vals (ns.map V.int) vs
 |_,_,.nil=>.nil
 |_,_,.cons n t h=>.cons ⟨t,rfl⟩ (jua h)
noncomputable def j7x (H:Hp):Prop:=∀b,H b=none\/∃o xs,H b=some (.frz o (.lst xs))
theorem j2u {P:Program}{w:World}{K:PySem.W.Frag}{mg mb:Str->Option Value}{CX:CXT}{k:Nat}{fa a:Addr}{fd:FuncData}{x:Str}{sp:Sp}{s₁:Shared}{vs:List Value}{ns:List Int}(KX:K.In s₁.heap)(hns:s₁.heap.Ns mainGlobals mg)(hb:s₁.heap.Ns builtinsNs mb)(hbb:∀x:Str,x≠"__name__"->mb x=bootBuiltins x)(hlim:s₁.heap.NoLimit)(hg:s₁.gens=#[])(ha:s₁.heap.get? a=some {cls:=.type "list",data:=.seq vs.toArray})(hi:IntsAre vs ns)(hl:ns.length<=sizeLine)(hr:jfe k callerA)(F:∀base:Heap,K.In base->base.Ns mainGlobals mg->xj P w K mg base CX k fa fd [x] sp)(hbind:∀(s:Shared)(u:Value),BindsTo s fd ⟨[u],[]⟩ [(x,u)])(hsp:∀H:Hp,j7x H->SqL K H a (ns.map V.int)->sp [.ref a] H (λv _=>v= .bl true) λ_ _ _=>False)(hCX:∀H e s',CX [] H s₁ (λ_ _ _=>False) e s'->False):
  codeAny (model P w) callerA (.call (.ref fa) ⟨[.ref a],[]⟩) (λr s'=>r= .ok (.ret (.bool true))/\OldK s₁.heap s'.heap/\s'.os=s₁.os/\AllBare s'.gens) s₁:=by
 have rv:=jua hi;have lenV:=hi.length;have core:∀H:Hp,j7x H->SqL K H a (ns.map V.int)->HOk P w H s₁.heap->(∀b,H b≠none->b=a)->(H a≠none->K.lookup a=none)->codeAny (model P w) callerA (.call (.ref fa) ⟨[.ref a],[]⟩) (λr s'=>r= .ok (.ret (.bool true))/\OldK s₁.heap s'.heap/\s'.os=s₁.os/\AllBare s'.gens) s₁:=by
  intro H hO hS hok hA hK;have base_of:∀{b:Addr}{o:Obj},s₁.heap.get? b=some o->H b=none->(j1z s₁.heap H).get? b=some o:=λe n=>j19 e n;have noA:∀{b:Addr}{o:Obj}{es:Array DictEntry}{ep:Nat},s₁.heap.get? b=some o->o.data= .dict es ep->H b=none:=λ{b o es ep} e d=>by
   cases q:H b with
   |none=>rfl
   |some u=>have e':b=a:=hA b (by rw[q];simp);subst e';rw[ha]at e;cases e;have d':Data.seq vs.toArray _=Data.dict es ep:=d;cases d'
  have nsK:∀{b:Addr}{m:Str->Option Value},s₁.heap.Ns b m->(j1z s₁.heap H).Ns b m:=λ{b m} ⟨o,es,ep,e,d,r⟩=>⟨o,es,ep,base_of e (noA e d),d,r⟩;have hKb:K.In (j1z s₁.heap H):=λb o e=>base_of (KX b o e) (by
   cases q:H b with
   |none=>rfl
   |some u=>have e':b=a:=hA b (by rw[q];simp);subst e';rw[hK (by rw[q];simp)]at e;cases e)
  have hM:Mod K mg (j1z s₁.heap H):=⟨hKb,nsK hns,⟨mb,nsK hb,hbb⟩,let⟨mc,h1,h2⟩:=hlim;⟨mc,nsK h1,h2⟩⟩;have e0:j32 P w K mg (j1z s₁.heap H) callerA [] s₁ H:=⟨rfl,hM,λb o e=>j5q e,Nat.le_of_eq (jzx _ _),trivial,λb hb=>absurd (show b∈([]:List Addr)from hb) (by simp),hok,.of_eq hg⟩;refine codeAny_mono ((F _ hKb (nsK hns)).run callerA [] s₁ H ⟨[.ref a],[]⟩ [.ref a] [.ref a] _ _ hr e0 (hbind s₁ (.ref a)) (.cons rfl .nil) (hsp H hO hS)) λr s' h=>?_;cases r with
  |error e=>exact(hCX H e s' h).elim
  | ok fl=>
   cases fl with
   |next=>exact False.elim h
   |brk=>exact False.elim h
   |cont=>exact False.elim h
   | ret u=>
    obtain⟨v,H',os,bare,un,hok',r',q⟩:=h;have q':v= .bl true:=q;subst q';obtain rfl:u=Value.bool true:=r';refine⟨rfl,OldK.of_keep λb o e=>?_,os,bare⟩;cases q:H b with
    |none=>exact un.keep b o e q (by intro z;exact absurd (show b∈([]:List Addr)from z) (by simp)) (by simp)
    |some u=>
     rcases hO b with z|⟨ob,xs,z⟩
     .rw[q]at z;cases z
     .have z2:=un.jsl b ob _ z;obtain⟨e1,_⟩:=hok b _ z;obtain⟨e2,_⟩:=hok' b _ z2;rw[e]at e1;cases e1;exact e2
 cases hk:K.lookup a with
 |some o=>have e:=KX a o hk;rw[ha]at e;cases e;refine core (λ_=>none) (λ_=>.inl rfl) (.inr ⟨_,vs.toArray,_,hk,rfl,rfl,rfl,by rw[size_toArray,lenV];exact hl,by simpa using rv⟩) (λb u z=>by have z':(none:Option HO)=some u:=z;cases z') (λb z=>absurd rfl z) λz=>absurd rfl z
 | none=>
  refine core (λb=>if b=a then some (.frz {cls:=.type "list",data:=.seq vs.toArray} (.lst (ns.map V.int)))else none) (λb=>?_) (.inl (.inr ⟨{cls:=.type "list",data:=.seq vs.toArray},if_pos rfl⟩)) (λb u z=>?_) (λb z=>?_) λ_=>hk
  .by_cases hb:b=a
   .exact .inr ⟨_,_,if_pos hb⟩
   .exact .inl (if_neg hb)
  .by_cases hb:b=a
   .have z':=(if_pos hb).symm.trans z;cases z';subst hb;exact⟨ha,by rw[length_map];exact hl,vs,_,rv,ha⟩
   .have z':=(if_neg hb).symm.trans z;cases z'
  .by_cases hb:b=a
   .exact hb
   .exact absurd (if_neg hb) z
theorem j5c {l:PySem.W.OpenLaw}{n k:Nat}{q:Program}{loose:List Str}{XP:(Str->Option Value)->Heap->Prop}{YP:World->Heap->Prop}{d:DefRec}{K:Params->PySem.W.Frag}{CX:World->CXT}{sp:World->Sp}{x:Str}(hn:l.most=some n)(hn2:n<=sizeLine)(hdf:d.params.defaults=[])(hr:jfe k callerA)(hY:∀(w:World)(h:Heap),YP w h->(K w.params).In h)(F:∀(w:World)(mg:Str->Option Value)(fa:Addr)(h:Heap),(K w.params).In h->h.Ns mainGlobals mg->mg d.name=some (.ref fa)->∃fd:FuncData,(∀(s:Shared)(u:Value),BindsTo s fd ⟨[u],[]⟩ [(x,u)])/\∀base:Heap,(K w.params).In base->base.Ns mainGlobals mg->xj l.prog w (K w.params) mg base (CX w) k fa fd [x] (sp w))(hsp:∀(w:World)(H:Hp)(a:Addr)(ns:List Int),ns.length<=n->j7x H->SqL (K w.params) H a (ns.map V.int)->sp w [.ref a] H (λv _=>v= .bl true) λ_ _ _=>False)(hCX:∀(w:World)(H:Hp)(s:Shared)(e:Value)(s':Shared),CX w [] H s (λ_ _ _=>False) e s'->False):
  PySem.W.WalkO q loose XP YP l.row.toRowW d [] (λf vs=>PySem.call f vs):=by
 refine Att.jwj hn hdf λw s₀ s₁ mg mb fa o pm cd doc a vs ns G Yq ho hd hcd hmg hobj hints hlen hg=>?_;have KX:=hY w _ Yq;obtain⟨fd,hb,hF⟩:=F w mg fa _ KX G.T.g hmg;exact j2u KX G.T.g G.T.b G.T.builtins G.T.nolimit hg hobj hints (le_trans hlen hn2) hr hF hb (λH hO hS=>hsp w H a ns hlen hO hS) λH e s'=>hCX w H s₁ e s'
theorem j1v {l:PySem.W.OpenLaw}{n k:Nat}{q:Program}{loose:List Str}{XP:(Str->Option Value)->Heap->Prop}{YP:World->Heap->Prop}{d:DefRec}{K:Params->PySem.W.Frag}{CX:CXT}{sp:PySem.W.Frag->Sp}{x:Str}(hn:l.most=some n)(hn2:n<=sizeLine)(hdf:d.params.defaults=[])(hr:jfe k callerA)(hY:∀(w:World)(h:Heap),YP w h->(K w.params).In h)(F:∀(w:World)(mg:Str->Option Value)(fa:Addr)(h:Heap),(K w.params).In h->h.Ns mainGlobals mg->mg d.name=some (.ref fa)->∃fd:FuncData,(∀(s:Shared)(u:Value),BindsTo s fd ⟨[u],[]⟩ [(x,u)])/\∀base:Heap,(K w.params).In base->base.Ns mainGlobals mg->xj l.prog w (K w.params) mg base CX k fa fd [x] (sp (K w.params)))(hsp:∀(K:PySem.W.Frag)(H:Hp)(a:Addr)(ns:List Int),ns.length<=n->j7x H->SqL K H a (ns.map V.int)->sp K [.ref a] H (λv _=>v= .bl true) λ_ _ _=>False)(hCX:∀(H:Hp)(s:Shared)(e:Value)(s':Shared),CX [] H s (λ_ _ _=>False) e s'->False):
  PySem.W.WalkO q loose XP YP l.row.toRowW d [] (λf vs=>PySem.call f vs):=
 j5c (K:=K) (CX:=λ_=>CX) (sp:=λw=>sp (K w.params)) hn hn2 hdf hr hY F (λw H a ns h1 h2 h3=>hsp (K w.params) H a ns h1 h2 h3) λ_ H s e s'=>hCX H s e s'
noncomputable def inClass (s:Stmt)(j:Nat):Stmt:=match s with
 | .ClassDef _ _ _ body _ _ _ _ _ _ _=>body.getD j (.Pass ⟨0,0,0,0⟩)
 |_=>.Pass ⟨0,0,0,0⟩
noncomputable def jn1 (s:Stmt):Arguments:=match s with
 | .FunctionDef _ a _ _ _ _ _ _ _ _=>a
 |_=>{posonlyargs:=[],args:=[],vararg:=none,kwonlyargs:=[],kw_defaults:=[],kwarg:=none,defaults:=[]}
noncomputable def jcg (s:Stmt):List Stmt:=match s with
 | .FunctionDef _ _ b _ _ _ _ _ _ _=>b
 |_=>[]
noncomputable def jt (s:Stmt):Scope:=match s with
 | .FunctionDef _ _ _ _ _ _ sc _ _ _=>sc
 |_=>{kind:=.function,names:=[],isGenerator:=false,isCoroutine:=false}
noncomputable abbrev CX0:CXT:=λ_ _ _ _ _ _=>False
noncomputable abbrev E0:XK:=λ_ _ _=>False
theorem jo {X:Cx}:Passes CX0 X E0:=λ_ _ _ _ _ _ _ h=>h.elim
structure Fun (K:PySem.W.Frag)(x qual:Str)(st:Stmt)(f:Addr)(fd:FuncData):Prop where
 ex:∃(oc:Value)(od:Option Addr)(kV doc pm:Value)(an:Option Addr)(cdv ct:Value)(osl:Array (Option Value)),fd=PySem.W.fnOf x qual (jn1 st) (jcg st) (jt st) .none kV doc pm an cdv ct/\K.lookup f=some ⟨oc,od,.func fd,osl⟩/\PySem.W.codeIn K cdv qual=true
 kp:PySem.W.keepIn K (.ref f)=true
section
variable {P:Program}{w:World}{K:PySem.W.Frag}{mg:Str->Option Value}{base:Heap}
theorem Fun.ok {x qual:Str}{st:Stmt}{f:Addr}{fd:FuncData}{N ps:List Str}{k:Nat}{sp:Sp}(F:Fun K x qual st f fd)(S:qm N ps (jt st))(len:∀vs H Q E,sp vs H Q E->vs.length=ps.length)(hbody:∀(cdv:Value)(A:Around)(outer:List Env)(s:Shared)(H:Hp)(vs:List V)(Q:VK)(E:XK),jfe k (A.deeper (envOfC qual (jt st) s.heap.objs.size f cdv))->sp vs H Q E->∃t,PSs (jrs CX0 P w K mg base N qual (jt st) f cdv A outer s H E).nox (jcg st) t/\t {nx:=λ_ H'=>Q .non H',rt:=Q} (start N vs) H):xj P w K mg base CX0 (k+1) f fd ps sp:=by
 obtain⟨oc,od,kV,doc,pm,an,cdv,ct,osl,rfl,lk,hcd⟩:=F.ex;refine j6c lk hcd S len λA outer s H vs Q E hr hsp=>?_;obtain⟨t,h,q⟩:=hbody cdv A outer s H vs Q E hr hsp;exact⟨t,h.nox,q⟩
theorem Fun.okA {x qual:Str}{st:Stmt}{f:Addr}{fd:FuncData}{N ps:List Str}{k:Nat}{sp:Sp}(F:Fun K x qual st f fd)(S:qm N ps (jt st))(hbody:∀(cdv:Value)(A:Around)(outer:List Env)(s:Shared)(H:Hp)(vs:List V)(Q:VK)(E:XK),jfe k (A.deeper (envOfC qual (jt st) s.heap.objs.size f cdv))->sp vs H Q E->∃t,PSs (jrs CX0 P w K mg base N qual (jt st) f cdv A outer s H E).nox (jcg st) t/\t {nx:=λ_ H'=>Q .non H',rt:=Q} (start N vs) H)(len:autoParam (∀vs H Q E,sp vs H Q E->vs.length=ps.length) aP6):xj P w K mg base CX0 (k+1) f fd ps sp:=F.ok S len hbody
theorem Fun.okB {x qual:Str}{st:Stmt}{f:Addr}{fd:FuncData}{N ps:List Str}{k:Nat}{sp:Sp}(F:Fun K x qual st f fd)(hbody:∀(cdv:Value)(A:Around)(outer:List Env)(s:Shared)(H:Hp)(vs:List V)(Q:VK)(E:XK),jfe k (A.deeper (envOfC qual (jt st) s.heap.objs.size f cdv))->sp vs H Q E->∃t,PSs (jrs CX0 P w K mg base N qual (jt st) f cdv A outer s H E).nox (jcg st) t/\t {nx:=λ_ H'=>Q .non H',rt:=Q} (start N vs) H)(S:autoParam (qm N ps (jt st)) aP8)(len:autoParam (∀vs H Q E,sp vs H Q E->vs.length=ps.length) aP6):xj P w K mg base CX0 (k+1) f fd ps sp:=F.ok S len hbody
theorem Fun.binds {x qual:Str}{st:Stmt}{f:Addr}{fd:FuncData}{ps:List Str}(F:Fun K x qual st f fd)(h:∀(kV doc pm:Value)(an:Option Addr)(cdv ct:Value)(us:List Value),us.length=ps.length->bindArgs (PySem.W.fnOf x qual (jn1 st) (jcg st) (jt st) .none kV doc pm an cdv ct) ⟨us,[]⟩=pure (ps.zip us)):Binds K fd ps []:=by
 obtain⟨oc,od,kV,doc,pm,an,cdv,ct,osl,rfl,lk,hcd⟩:=F.ex;exact .all (h kV doc pm an cdv ct)
theorem ji {x qual:Str}{st:Stmt}{f:Addr}{oc:Value}{od an:Option Addr}{osl:Array (Option Value)}{kV doc pm cdv ct:Value}(l:K.lookup f=some ⟨oc,od,.func (PySem.W.fnOf x qual (jn1 st) (jcg st) (jt st) .none kV doc pm an cdv ct),osl⟩)(c:PySem.W.codeIn K cdv qual=true)(k:PySem.W.keepIn K (.ref f)=true):Fun K x qual st f (PySem.W.fnOf x qual (jn1 st) (jcg st) (jt st) .none kV doc pm an cdv ct):=⟨⟨oc,od,kV,doc,pm,an,cdv,ct,osl,rfl,l,c⟩,k⟩
end
theorem jic {A:Around}{k:Nat}(hr:jfe k A):A.units+1<cLine:=lt_of_le_of_lt (Nat.add_le_add_left (by decide:1<=64) _) hr.units
theorem zw {n:Nat}(h:n<=1000):n<sizeLine:=lt_of_le_of_lt h (by decide)
section
variable {X:Cx}
theorem pv (i:Nat){x:Str}{pos:Pos}(hN:autoParam (X.N[i]?=some x) aP1)(hv:Vis X.env.scope x:=by first|exact Or.inl rfl|exact Or.inr (Or.inl rfl)|exact Or.inr (Or.inr rfl))(hd:autoParam ((x==("__debug__":Str))=false) aP2)(hcd:autoParam ((x==("__classdict__":Str))=false) aP2):PE X (.Name x pos) (jyw i):=j6r hN hv hd hcd
end
theorem yq {A Bq:Prop}(h:Bq):if false=true then A else Bq:=by rw[if_neg Bool.false_ne_true];exact h
theorem jhy {A Bq:Prop}(h:A):if true=true then A else Bq:=by rw[if_pos rfl];exact h
theorem jhz {c A Bq:Prop}[Decidable c](h1:c->A)(h2:¬c->Bq):if c then A else Bq:=by
 by_cases h:c
 .rw[if_pos h];exact h1 h
 .rw[if_neg h];exact h2 h
noncomputable def vq (H H':Hp):Prop:=∀b o,H b=some o->H' b=some o
theorem vq.refl (H:Hp):vq H H:=λ_ _ h=>h
theorem vq.trans {H H1 H2:Hp}(a:vq H H1)(b:vq H1 H2):vq H H2:=λc o h=>b c o (a c o h)
theorem vq.free {H H':Hp}(e:vq H H'){l:Addr}(h:H' l=Option.none):H l=Option.none:=by
 cases q:H l with
 |none=>rfl
 |some o=>rw[e l o q]at h;cases h
theorem vq.seq {K:PySem.W.Frag}{H H':Hp}{a:Addr}{xs:List V}(e:vq H H')(h:SqL K H a xs):SqL K H' a xs:=by
 rcases h with(h|⟨o,h⟩)|h
 .exact .inl (.inl (e _ _ h))
 .exact .inl (.inr ⟨o,e _ _ h⟩)
 .exact .inr h
section
variable {B:Type}[DecidableEq B]
noncomputable def jc2 (kvs:List (B×V))(k:B):Option V:=(kvs.find? λkv=>decide (kv.1=k)).map (·.2)
noncomputable def putK (kvs:List (B×V))(k:B)(v:V):List (B×V):=if(kvs.any λkv=>decide (kv.1=k))=true then kvs.map (λkv=>if kv.1=k then(kv.1,v)else kv)else kvs++[(k,v)]
theorem jax {p:B×V}{r:List (B×V)}{k:B}(e:p.1=k):jc2 (p::r) k=some p.2:=by simp[jc2,find?_cons,e]
theorem jbe {p:B×V}{r:List (B×V)}{k:B}(e:¬p.1=k):jc2 (p::r) k=jc2 r k:=by simp[jc2,find?_cons,e]
theorem jo8 (k:B):∀kvs:List (B×V),(kvs.any λkv=>decide (kv.1=k))=(jc2 kvs k).isSome
 |[]=>rfl
 |p::r=>by
  rw[any_cons];by_cases e:p.1=k
  .simp only[jax e,decide_eq_true e,Bool.true_or,Option.isSome_some]
  .rw[jbe e,decide_eq_false e,Bool.false_or];exact jo8 k r
theorem jei (kvs:List (B×V))(k:B)(v:V):(putK kvs k v).length<=kvs.length+1:=by
 unfold putK;split
 .rw[length_map];omega
 .rw[length_append,length_cons,List.length_nil];omega
theorem jjq {kvs:List (B×V)}{k:B}(v:V)(h:jc2 kvs k=none):putK kvs k v=kvs++[(k,v)]:=by unfold putK;rw[jo8,h];exact if_neg (by decide)
theorem jtx.jiu {o:Option V}{u:Option Value}(r:jtx o u):o.isSome=u.isSome:=by
 cases o with
 |none=>cases u with
  |none=>rfl
  |some _=>exact(show False from r).elim
 |some _=>cases u with
  |none=>exact(show False from r).elim
  |some _=>rfl
theorem jtx.getD {o:Option V}{u:Option Value}{d:V}{d':Value}(r:jtx o u)(rd:RelV d d'):RelV (o.getD d) (u.getD d'):=by
 cases o with
 |none=>cases u with
  |none=>exact rd
  |some _=>exact(show False from r).elim
 |some _=>cases u with
  |none=>exact(show False from r).elim
  |some _=>exact r
theorem KV.val {kvs:List (B×V)}{vs:List (B×Value)}(r:KV kvs vs)(k:B):jtx (jc2 kvs k) (valueAt vs k):=by
 unfold KV at r;induction r with
 |nil=>exact True.intro
 | @cons p q ps qs h t ih=>
  obtain⟨h1,h2⟩:=h;by_cases e:p.1=k
  .have e':q.1=k:=h1.symm.trans e;have b:valueAt (q::qs) k=some q.2:=by simp[valueAt,find?_cons,e']
   rw[jax e,b];exact h2
  .have e':¬q.1=k:=λz=>e (h1.trans z);have b:valueAt (q::qs) k=valueAt qs k:=by simp[valueAt,find?_cons,e']
   rw[jbe e,b];exact ih
theorem KV.any {kvs:List (B×V)}{vs:List (B×Value)}(r:KV kvs vs)(k:B):(kvs.any λkv=>decide (kv.1=k))=vs.any λkv=>decide (kv.1=k):=by
 unfold KV at r;induction r with
 |nil=>rfl
 |cons h t ih=>rw[any_cons,any_cons,ih,h.1]
theorem KV.j8b {kvs:List (B×V)}{vs:List (B×Value)}(r:KV kvs vs)(k:B){y:V}{u:Value}(ry:RelV y u):KV (kvs.map λkv=>if kv.1=k then(kv.1,y)else kv) (vs.map λkv=>if kv.1=k then(kv.1,u)else kv):=by
 unfold KV at r⊢;induction r with
 |nil=>exact .nil
 |@cons p q ps qs h t ih=>
  rw[map_cons,map_cons];refine .cons ?_ ih;obtain⟨h1,h2⟩:=h;by_cases e:p.1=k
  .rw[if_pos e,if_pos (h1.symm.trans e)];exact⟨h1,ry⟩
  .rw[if_neg e,if_neg (λz=>e (h1.trans z))];exact⟨h1,h2⟩
theorem KV.put {kvs:List (B×V)}{vs:List (B×Value)}(r:KV kvs vs)(k:B){y:V}{u:Value}(ry:RelV y u):KV (putK kvs k y) (stored vs k u):=by
 unfold putK stored;rw[r.any k];by_cases e:(vs.any λkv=>decide (kv.1=k))=true
 .rw[if_pos e,if_pos e];exact r.j8b k ry
 .rw[if_neg e,if_neg e];exact Paired.snoc r ⟨rfl,ry⟩
theorem KV.length {kvs:List (B×V)}{vs:List (B×Value)}(r:KV kvs vs):kvs.length=vs.length:=Paired.length r
end
theorem jv4 {P:Program}{w:World}{k:Key}{u:Value}(r:RelV (kV k) u):(zc P w).is k u=true:=by
 cases k with
 |inl i=>obtain⟨t,e⟩:=(show ∃t,u=Value.int i t from r);subst e;exact jvv P w i t
 |inr x=>obtain⟨t,e⟩:=(show ∃t,u=Value.str x t from r);subst e;exact jwf P w x t
theorem juh {P:Program}{w:World}:∀{ks:List Key}{us:List Value},Vals (ks.map kV) us->ItemsAre (zc P w) ks us
 |[],_,r=>by rw[map_nil]at r;cases r;exact .nil
 |k::ks,_,r=>by
  rw[map_cons]at r;cases r with
  |cons h t=>exact .cons (jv4 h) (juh t)
noncomputable abbrev KT (H:Hp):List (List Key×V)->List (List Key×Addr×Value)->Prop:=Paired λp q=>p.1=q.1/\H q.2.1=some (.tup (p.1.map kV))/\RelV p.2 q.2.2
theorem KT.val {H:Hp}{kvs:List (List Key×V)}{xs:List (List Key×Addr×Value)}(r:KT H kvs xs)(k:List Key):jtx (jc2 kvs k) ((atKey xs k).map (·.2)):=by
 induction r with
 |nil=>exact True.intro
 | @cons p q ps qs h t ih=>
  obtain⟨h1,_,h2⟩:=h;by_cases e:p.1=k
  .have e':q.1=k:=h1.symm.trans e;have b:atKey (q::qs) k=some q.2:=by simp[atKey,find?_cons,e']
   rw[jax e,b];exact h2
  .have e':¬q.1=k:=λz=>e (h1.trans z);have b:atKey (q::qs) k=atKey qs k:=by simp[atKey,find?_cons,e']
   rw[jbe e,b];exact ih
theorem KT.j8b {H:Hp}{kvs:List (List Key×V)}{xs:List (List Key×Addr×Value)}(r:KT H kvs xs)(k:List Key){y:V}{u:Value}(ry:RelV y u):KT H (kvs.map λkv=>if kv.1=k then(kv.1,y)else kv) (xs.map (putAt k u)):=by
 induction r with
 |nil=>exact .nil
 |@cons p q ps qs h t ih=>
  rw[map_cons,map_cons];refine .cons ?_ ih;obtain⟨h1,h2,h3⟩:=h;unfold putAt;by_cases e:p.1=k
  .rw[if_pos e,if_pos (h1.symm.trans e)];exact⟨h1,h2,ry⟩
  .rw[if_neg e,if_neg (λz=>e (h1.trans z))];exact⟨h1,h2,h3⟩
theorem KT.put {H:Hp}{kvs:List (List Key×V)}{xs:List (List Key×Addr×Value)}(r:KT H kvs xs)(k:List Key){b:Addr}{y:V}{u:Value}(hb:H b=some (.tup (k.map kV)))(ry:RelV y u):KT H (putK kvs k y) (storedH xs k b u):=by
 have e:(kvs.any λkv=>decide (kv.1=k))=(atKey xs k).isSome:=by rw[jo8,(r.val k).jiu,Option.isSome_map]
 unfold putK storedH;rw[e];by_cases q:(atKey xs k).isSome=true
 .rw[if_pos q,if_pos q];exact r.j8b k ry
 .rw[if_neg q,if_neg q];exact Paired.snoc r ⟨rfl,hb,ry⟩
theorem KT.keeps {H H':Hp}{kvs:List (List Key×V)}{xs:List (List Key×Addr×Value)}(r:KT H kvs xs)(ht:∀b ys,H b=some (.tup ys)->H' b=some (.tup ys)):KT H' kvs xs:=Paired.vf r λ_ _ z=>⟨z.1,ht _ _ z.2.1,z.2.2⟩
section
variable {P:Program}{w:World}{H:Hp}{h:Heap}{a:Addr}
theorem j6o {u:HO}(ok:HOk P w H h)(e:Rd H a u):vg P w H h a u:=e.ok ok
theorem jv5 {kvs:List (Key×V)}(ok:HOk P w H h)(e:Rd H a (.dK kvs)):kvs.length<=sizeLine/\(a==sysModules)=false/\∃vs,KV kvs vs/\h.DictOf (zc P w) a vs:=show vg P w H h a (.dK kvs)from j6o ok e
theorem j59 {kvs:List (Key×V)}(ok:HOk P w H h)(e:H a=some (.dK kvs)):kvs.length<=sizeLine/\(a==sysModules)=false/\∃vs,KV kvs vs/\h.DictOf (zc P w) a vs:=jv5 ok (.inl e)
theorem jou {ks:List Key}(ok:HOk P w H h)(e:H a=some (.tup (ks.map kV))):(tupleKind (zc P w)).is h ks a:=by obtain⟨_,its,r,o,h1,h2,n,h3⟩:=(show vg P w H h a (.tup (ks.map kV))from ok a _ e);exact⟨o,its.toArray,n,h1,h2,h3,by simpa using juh r⟩
theorem jv1 {kvs:List (List Key×V)}(ok:HOk P w H h)(e:Rd H a (.dT kvs)):kvs.length<=sizeLine/\(a==sysModules)=false/\∃xs,KT H kvs xs/\h.DictOfH (tupleKind (zc P w)) a xs:=by
 obtain⟨z,y,xs,r,o,es,ep,h1,h2,h3,h4,h5⟩:=(show vg P w H h a (.dT kvs)from j6o ok e);refine⟨z,y,xs,r,o,es,ep,h1,h2,h3,h4,λx hx=>?_,h5⟩;have all:∀{l:List (List Key×V)}{m:List (List Key×Addr×Value)},KT H l m->∀x∈m,(tupleKind (zc P w)).is h x.1 x.2.1:=by
  intro l m q;induction q with
  |nil=>intro x hx;exact nomatch hx
  |@cons p q ps qs hq t ih=>
   intro x hx;rcases mem_cons.mp hx with e|hx
   .subst e;exact jou ok (by rw[<-hq.1];exact hq.2.1)
   .exact ih x hx
 exact all r x hx
theorem j40 {kvs:List (List Key×V)}(ok:HOk P w H h)(e:H a=some (.dT kvs)):kvs.length<=sizeLine/\(a==sysModules)=false/\∃xs,KT H kvs xs/\h.DictOfH (tupleKind (zc P w)) a xs:=jv1 ok (.inl e)
end
noncomputable def j2c (H:Hp)(a:Addr)(y:V)(r:Option V):Prop:=(∃kvs k,Rd H a (.dK kvs)/\y=kV k/\r=jc2 kvs k)\/∃kvs k b,Rd H a (.dT kvs)/\y= .ref b/\H b=some (.tup (k.map kV))/\r=jc2 kvs k
noncomputable def jys (H:Hp)(a:Addr)(y v:V)(H':Hp):Prop:=(∃kvs k,H a=some (.dK kvs)/\y=kV k/\kvs.length<sizeLine/\H'=upd H a (.dK (putK kvs k v)))\/∃kvs k b,H a=some (.dT kvs)/\y= .ref b/\H b=some (.tup (k.map kV))/\kvs.length<sizeLine/\H'=upd H a (.dT (putK kvs k v))
theorem jys.k {H:Hp}{a:Addr}{kvs:List (Key×V)}{k:Key}{v:V}(e:H a=some (.dK kvs))(hl:kvs.length<sizeLine):jys H a (kV k) v (upd H a (.dK (putK kvs k v))):=.inl ⟨kvs,k,e,rfl,hl,rfl⟩
theorem jys.t {H:Hp}{a b:Addr}{kvs:List (List Key×V)}{k:List Key}{v:V}(e:H a=some (.dT kvs))(eb:H b=some (.tup (k.map kV)))(hl:kvs.length<sizeLine):jys H a (.ref b) v (upd H a (.dT (putK kvs k v))):=.inr ⟨kvs,k,b,e,rfl,eb,hl,rfl⟩
section
variable {X:Cx}{pins:List (Addr×Obj)}{U:St}{H:Hp}{s:Shared}{a:Addr}{y v:V}{u r:Value}{o:Option V}{A:Around}{E:Value->Shared->Prop}
theorem Inv.big (I:Inv X pins U H s):sysModules<s.heap.objs.size:=by have h:mainGlobals<s.heap.objs.size:=(I.mod.glob.keeps I.bk).lt;exact Nat.lt_trans (by decide) h
theorem jzo {Q:Value->Shared->Prop}(hu:A.units+1<cLine)(I:Inv X pins U H s)(g:j2c H a y (some v))(ry:RelV y u)(h:∀w' s',Inv X pins U H s'->RelV v w'->Q w' s'):wpAny (model X.prog X.w) A (getItem (.ref a) u) Q E s:=by
 rcases g with⟨kvs,k,e,ey,l⟩|⟨kvs,k,b,e,ey,eb,l⟩
 .subst ey;obtain⟨z,hd,vs,rel,dd⟩:=jv5 I.hok e;obtain⟨w',hw,rw'⟩:=jtx.some_of (v:=v) (o:=valueAt vs k) (by rw[l];exact rel.val k);exact wpAny_getItem_of (jv4 ry) dd.mapOf hw (h w' _ (I.tok _) rw')
 .subst ey;cases(show u=Value.ref b from ry);obtain⟨z,hd,xs,rel,dd⟩:=jv1 I.hok e;obtain⟨w',hw,rw'⟩:=jtx.some_of (v:=v) (o:=(atKey xs k).map (·.2)) (by rw[l];exact rel.val k);obtain⟨p,hp,hp2⟩:=Option.map_eq_some_iff.mp hw;refine wpAny_getItem_heap (tupleKind_room_in1 hu) (jou I.hok eb) dd hp ?_;rw[hp2];exact h w' _ (I.tok _) rw'
theorem qa6 {Q:Value->Shared->Prop}(hu:A.units+1<cLine)(I:Inv X pins U H s)(g:j2c H a y o)(ry:RelV y u)(h:∀s',Inv X pins U H s'->Q (.bool o.isSome) s'):wpAny (model X.prog X.w) A (compareOp .In u (.ref a)) Q E s:=by
 rcases g with⟨kvs,k,e,ey,l⟩|⟨kvs,k,b,e,ey,eb,l⟩
 .subst ey;obtain⟨z,hd,vs,rel,dd⟩:=jv5 I.hok e;refine wpAny_in_of (jv4 ry) hd dd.mapOf ?_;rw[<-(rel.val k).jiu,<-l];exact h _ (I.tok _)
 .subst ey;cases(show u=Value.ref b from ry);obtain⟨z,hd,xs,rel,dd⟩:=jv1 I.hok e;refine wpAny_in_heap (tupleKind_room_in1 hu) (jou I.hok eb) hd dd ?_;have q:=(rel.val k).jiu;rw[Option.isSome_map]at q;rw[<-q,<-l];exact h _ (I.tok _)
theorem j4y {Q:Value->Shared->Prop}(hu:A.units+1<cLine)(I:Inv X pins U H s)(g:j2c H a y o)(ry:RelV y u)(h:∀s',Inv X pins U H s'->Q (.bool (!o.isSome)) s'):wpAny (model X.prog X.w) A (compareOp .NotIn u (.ref a)) Q E s:=by
 rcases g with⟨kvs,k,e,ey,l⟩|⟨kvs,k,b,e,ey,eb,l⟩
 .subst ey;obtain⟨z,hd,vs,rel,dd⟩:=jv5 I.hok e;refine wpAny_notIn_of (jv4 ry) hd dd.mapOf ?_;rw[<-(rel.val k).jiu,<-l];exact h _ (I.tok _)
 .subst ey;cases(show u=Value.ref b from ry);obtain⟨z,hd,xs,rel,dd⟩:=jv1 I.hok e;refine wpAny_notIn_heap (tupleKind_room_in1 hu) (jou I.hok eb) hd dd ?_;have q:=(rel.val k).jiu;rw[Option.isSome_map]at q;rw[<-q,<-l];exact h _ (I.tok _)
theorem jpp {h':Heap}{t':Nat}{ob:HO}(I:Inv X pins U H s)(mu:Mut (H a))(hs:Heap.SameBut a s.heap h')(he:∃q,h'.get? a=some q)(new:vg X.prog X.w (upd H a ob) h' a ob):Inv X pins U (upd H a ob) {s with heap:=h',toks:=t'}:=
 I.write (x:=a) (e:=a) mu (.inl rfl) (λb q hb z=>(hs.2 b hb).trans z) he new
theorem j3r {P:Program}{w:World}{H':Hp}{h':Heap}{kvs:List (Key×V)}{vs:List (Key×Value)}(z:kvs.length<=sizeLine)(hd:(a==sysModules)=false)(rel:KV kvs vs)(dd:h'.DictOf (zc P w) a vs):vg P w H' h' a (.dK kvs):=⟨z,hd,vs,rel,dd⟩
theorem j0p {H':Hp}{Q:Unit->Shared->Prop}(hu:A.units+1<cLine)(I:Inv X pins U H s)(g:jys H a y v H')(ry:RelV y u)(rv:RelV v r)(h:∀s',Inv X pins U H' s'->Q () s'):wpAny (model X.prog X.w) A (setItem (.ref a) u r) Q E s:=by
 rcases g with⟨kvs,k,e,ey,l,eH⟩|⟨kvs,k,b,e,ey,eb,l,eH⟩
 .subst ey eH;obtain⟨z,hd,vs,rel,dd⟩:=j59 I.hok e;have hz:vs.length<=sizeLine:=by rw[<-rel.length];exact z
  have hl:(putK kvs k v).length<=sizeLine:=by have:=jei kvs k v;omega
  refine wpAny_setItem_pairs (hsz:=hz) (jv4 ry) dd λh' dd' hs=>h _ ?_;have he:∃q,h'.get? a=some q:=let⟨q,_,_,hq,_⟩:=dd';⟨q,hq⟩;exact jpp I (by rw[e];exact True.intro) hs he (j3r hl hd (rel.put k rv) dd')
 .subst ey eH;cases(show u=Value.ref b from ry);obtain⟨z,hd,xs,rel,dd⟩:=j40 I.hok e;have hz:xs.length<=sizeLine:=by rw[<-Paired.length rel];exact z
  have hl:(putK kvs k v).length<=sizeLine:=by have:=jei kvs k v;omega
  refine wpAny_setItem_heap (hsz:=hz) (tupleKind_room_in1 hu) (jou I.hok eb) dd λh' dd' hs=>h _ ?_;obtain⟨q,es,ep,hq,h2,h3,h4,_,h5⟩:=dd';refine jpp I (by rw[e];exact True.intro) hs ⟨q,hq⟩ ⟨hl,hd,_,(rel.put k eb rv).keeps λc ys ec=>?_,q,es,ep,hq,h2,h3,h4,h5⟩;rw[je (jm0 ec e (λz=>nomatch z))];exact ec
end
noncomputable def j9s (i:Expr):Prop:=∀ov iv,subscripted i false ov iv=operate [ov,iv] (getItem ov iv)
theorem j3z {prog:Program}{w:World}{A:Around}{E:Value->Shared->Prop}{s:Shared}{env:Env}{value slice:Expr}{pos:Pos}{T id:String}{Q:Value->Shared->Prop}(hl:typeLookup (.type T) "__getitem__"=pure (some (.builtin id)))(hs:j9s slice)(h:wpAny (model prog w) A (eval value env) (λo s₁=>wpAny (model prog w) A (eval slice env) (λi s₂=>s₂.TypeIs o T/\wpAny (model prog w) A (getItem o i) Q E s₂) E s₁) E s):
  wpAny (model prog w) A (eval (.Subscript value slice pos) env) Q E s:=by
 refine Subscript_ (wpAny_mono h (λo s₁ h₁=>wpAny_mono h₁ (λi s₂ h₂=>?_) λ_ _ x=>x) λ_ _ x=>x);obtain⟨hT,h₂⟩:=h₂;unfold subscriptTail;refine wpAny_bind ?_;rw[getitemInPython_of_ne hT.not_modules];refine wpAny_bind (wpAny_specialOf hT hl ?_);have fin:wpAny (model prog w) A (subscripted slice false o i) (λr s₃=>wpAny (model prog w) A (letTemporaryGo value o r >>= λ_=>pure r) Q E s₃) E s₂:=by rw[hs o i];exact wpAny_operating (wpAny_mono h₂ (λr s₃ h₃=>wpAny_bind (wpAny_letTemporaryGo (wpAny_pure h₃))) λ_ _ x=>x)
 first
  |exact wpAny_pure (wpAny_bind fin)
  |exact wpAny_bind (wpAny_pure (wpAny_bind fin))
  |exact wpAny_bind fin
theorem jvt {X:Cx}{pins:List (Addr×Obj)}{U:St}{H:Hp}{s:Shared}{a:Addr}{y:V}{o:Option V}(I:Inv X pins U H s)(g:j2c H a y o):s.TypeIs (.ref a) "dict":=by
 rcases g with⟨kvs,k,e,_,_⟩|⟨kvs,k,b,e,_,_,_⟩
 .obtain⟨_,_,vs,_,dd⟩:=jv5 I.hok e;exact dd.typeIs
 .obtain⟨_,_,xs,_,dd⟩:=jv1 I.hok e;exact dd.typeIs
noncomputable def j8g (td ty:TE):TE:=λU H Q=>td U H λx H1=>ty U H1 λy H2=>∃a v,x= .ref a/\j2c H2 a y (some v)/\Q v H2
noncomputable def qao (ty td:TE):TE:=λU H Q=>ty U H λy H1=>td U H1 λx H2=>∃a o,x= .ref a/\j2c H2 a y o/\Q (.bl o.isSome) H2
noncomputable def j5o (ty td:TE):TE:=λU H Q=>ty U H λy H1=>td U H1 λx H2=>∃a o,x= .ref a/\j2c H2 a y o/\Q (.bl (!o.isSome)) H2
noncomputable def j8y (td ty tv:TE):TS:=λD U H=>tv U H λv H1=>td U H1 λx H2=>ty U H2 λy H3=>∃a H4,x= .ref a/\jys H3 a y v H4/\D.nx U H4
section
variable {X:Cx}{o i e value:Expr}{pos pos' tpos:Pos}{td ty tv:TE}
theorem jzd (hu:X.A.units+1<cLine)(ho:PE X o td)(hi:PE X i ty)(hs:j9s i):PE X (.Subscript o i pos) (j8g td ty):=by intro pins s U H Q I h;refine j3z PySem.F.slot_dict_getitem.lookup hs (thn (ho pins s U H _ I h) λu s1 ⟨x,H1,I1,rx,q1⟩=>thn (hi pins s1 U H1 _ I1 q1) λiv s2 zQ=>?_);obtain⟨y,H2,I2,ry,a,v,ex,g,q2⟩:=zQ;subst ex;obtain rfl:u=Value.ref a:=rx;exact⟨jvt I2 g,jzo hu I2 g ry λw' s3 I3 rw'=>⟨v,H2,I3,rw',q2⟩⟩
theorem jw6 (hu:X.A.units+1<cLine)(hi:PE X i ty)(ho:PE X o td):PC X .In i o (qao ty td):=by intro pins s U H Q I h;refine thn (hi pins s U H _ I h) λiv s1 ⟨y,H1,I1,ry,q1⟩=>thn (ho pins s1 U H1 _ I1 q1) λu s2 zQ=>?_;obtain⟨x,H2,I2,rx,a,ov,ex,g,q2⟩:=zQ;subst ex;obtain rfl:u=Value.ref a:=rx;exact qa6 hu I2 g ry λs3 I3=>⟨.bl ov.isSome,H2,I3,rfl,q2⟩
theorem jrg (hu:X.A.units+1<cLine)(hi:PE X i ty)(ho:PE X o td):PC X .NotIn i o (j5o ty td):=by intro pins s U H Q I h;refine thn (hi pins s U H _ I h) λiv s1 ⟨y,H1,I1,ry,q1⟩=>thn (ho pins s1 U H1 _ I1 q1) λu s2 zQ=>?_;obtain⟨x,H2,I2,rx,a,ov,ex,g,q2⟩:=zQ;subst ex;obtain rfl:u=Value.ref a:=rx;exact j4y hu I2 g ry λs3 I3=>⟨.bl (!ov.isSome),H2,I3,rfl,q2⟩
theorem js5 (hu:X.A.units+1<cLine)(ho:PE X o td)(hi:PE X i ty)(hv:PE X value tv)(hs:swapsWith value (some (.Subscript o i pos')) pos.line X.env=pure false):PS X (.Assign [.Subscript o i pos'] value pos) (j8y td ty tv):=by
 intro pins s U H D I h;refine wpAny_Assign_Subscript (thn (hv pins s U H _ I h) λr s1 ⟨v,H1,I1,rv,q1⟩=>thn (ho pins s1 U H1 _ I1 q1) λu s2 ⟨x,H2,I2,rx,q2⟩=>thn (hi pins s2 U H2 _ I2 q2) λiv s3 zQ=>?_) hs;obtain⟨y,H3,I3,ry,a,H4,ex,g,q3⟩:=zQ;subst ex;obtain rfl:u=Value.ref a:=rx;exact j0p hu I3 g ry rv λs4 I4=>⟨U,H4,I4,q3⟩
end
theorem jxd {P:Program}{w:World}{H:Hp}(h:Heap)(hb:sysModules<h.objs.size):vg P w H (h.push {cls:=.type "dict",data:=.dict #[]}) h.objs.size (.dK []):=⟨zero_le _,beq_eq_false_iff_ne.mpr (Ne.symm (ne_of_lt hb)),[],.nil,Heap.DictOf.new h⟩
theorem jxg {P:Program}{w:World}{H:Hp}(h:Heap)(hb:sysModules<h.objs.size):vg P w H (h.push {cls:=.type "dict",data:=.dict #[]}) h.objs.size (.dT []):=⟨zero_le _,beq_eq_false_iff_ne.mpr (Ne.symm (ne_of_lt hb)),[],.nil,_,#[],0,Heap.get?_push_size _ rfl,⟨rfl,rfl,rfl⟩,rfl,rfl,nodup_nil⟩
noncomputable def j51:TE:=λ_ H Q=>∀p,H p=none->Q (.ref p) (upd H p (.dK []))
noncomputable def j61:TE:=λ_ H Q=>∀p,H p=none->Q (.ref p) (upd H p (.dT []))
section
variable {X:Cx}{pos:Pos}
theorem j22:PE X (.Dict [] [] pos) j51:=λpins s U H Q I h=>wpAny_Dict_empty ⟨.ref s.heap.objs.size,_,I.laid (a:=s.heap.objs.size) (o:=.dK []) (t':=s.toks) (λ_ _ q=>Heap.get?_push_of_some _ q) (le_refl _) (jxd s.heap I.big),rfl,h _ (I.hok.fresh (le_refl _))⟩
theorem jo9:PE X (.Dict [] [] pos) j61:=λpins s U H Q I h=>wpAny_Dict_empty ⟨.ref s.heap.objs.size,_,I.laid (a:=s.heap.objs.size) (o:=.dT []) (t':=s.toks) (λ_ _ q=>Heap.get?_push_of_some _ q) (le_refl _) (jxg s.heap I.big),rfl,h _ (I.hok.fresh (le_refl _))⟩
end
structure M2 (X:Cx)(o:Expr)(m:Str)(apos:Pos)(e f:Expr)(cpos:Pos):Prop where
 base:attributeBase o m X.env (eval o X.env)=eval o X.env
 few:((backTo cpos (starEach [e,f] X.env)).all (λx=>!x.1)&&(backToKw cpos (keywordEach [] X.env)).all (λx=>x.1.isSome)&&decide (([e,f]:List Expr).length+([]:List Keyword).length+(if([]:List Keyword).isEmpty then 0 else 1)<30))=true
 line:(apos.endLine==cpos.line)=true
 trees:backTo cpos (starEach [e,f] X.env)=[(false,eval e X.env),(false,eval f X.env)]
noncomputable def IsD (H:Hp)(a:Addr):Prop:=(∃kvs,Rd H a (.dK kvs))\/∃kvs,Rd H a (.dT kvs)
theorem j3i {X:Cx}{pins:List (Addr×Obj)}{U:St}{H:Hp}{s:Shared}{a:Addr}(I:Inv X pins U H s)(d:IsD H a):s.TypeIs (.ref a) "dict"/\(∀b,Value.ref a= .ref b->∃ob,s.heap.get? b=some ob/\ob.dict=none)/\(a==sysModules)=false:=by
 rcases d with⟨kvs,e⟩|⟨kvs,e⟩
 .obtain⟨_,hd,vs,_,dd⟩:=jv5 I.hok e;refine⟨dd.typeIs,λb q=>?_,hd⟩;cases q;obtain⟨ob,_,_,h1,h2,_⟩:=dd;exact⟨ob,h1,h2.2.1⟩
 .obtain⟨_,hd,xs,_,dd⟩:=jv1 I.hok e;refine⟨dd.typeIs,λb q=>?_,hd⟩;cases q;obtain⟨ob,_,_,h1,h2,_⟩:=dd;exact⟨ob,h1,h2.2.1⟩
section
variable {X:Cx}{pins:List (Addr×Obj)}{U:St}{H:Hp}{s:Shared}{a:Addr}{y d:V}{u r:Value}{o:Option V}{A:Around}{E:Value->Shared->Prop}
theorem j6v {Q:Value->Shared->Prop}(hu:A.units+1<cLine)(I:Inv X pins U H s)(g:j2c H a y o)(ry:RelV y u)(rd:RelV d r)(h:∀w' s',Inv X pins U H s'->RelV (o.getD d) w'->Q w' s'):wpAny (model X.prog X.w) A (call (.builtin "dict.get") [.ref a,u,r]) Q E s:=by
 rcases g with⟨kvs,k,e,ey,l⟩|⟨kvs,k,b,e,ey,eb,l⟩
 .subst ey;obtain⟨z,hd,vs,rel,dd⟩:=jv5 I.hok e;refine call_meetsIn PySem.F.slot_dict_get dd.typeIs PySem.F.entry_dict_get (PySem.F.args_dict_get_3 _ _ _) (meets_dict_get_default (zc X.prog X.w) a (jv4 ry) hd r) ⟨_,dd.mapOf,h _ _ (I.tok _) ?_⟩;rw[l];exact(rel.val k).getD rd
 .subst ey;cases(show u=Value.ref b from ry);obtain⟨z,hd,xs,rel,dd⟩:=jv1 I.hok e;refine call_meetsIn PySem.F.slot_dict_get dd.typeIs PySem.F.entry_dict_get (PySem.F.args_dict_get_3 _ _ _) (meetsH_dict_get_default (tupleKind (zc X.prog X.w)) a b hd r) ⟨tupleKind_room_in1 hu,k,xs,jou I.hok eb,dd,h _ _ (I.tok _) ?_⟩;rw[l];exact(rel.val k).getD rd
end
noncomputable def j7s (td ty tx:TE):TE:=λU H Q=>td U H λx H1=>∃a,x= .ref a/\IsD H1 a/\ty U H1 λy H2=>tx U H2 λz H3=>∃o,j2c H3 a y o/\Q (o.getD z) H3
section
variable {X:Cx}{o e f:Expr}{apos cpos:Pos}{td ty tx:TE}
theorem jwp (hu:X.A.units+1<cLine)(ho:PE X o td)(he:PE X e ty)(hf:PE X f tx)(m:M2 X o "get" apos e f cpos):PE X (.Call (.Attribute o "get" apos) [e,f] [] cpos) (j7s td ty tx):=by
 intro pins s U H Q I h;refine wpAny_Call_method m.base m.few m.line PySem.F.plainAttrs_dict PySem.F.slot_dict_get PySem.F.type_dict_get (thn (ho pins s U H _ I h) λu s1 zQ=>?_);obtain⟨x,H1,I1,rx,a,ex,d,q1⟩:=zQ;subst ex;obtain rfl:u=Value.ref a:=rx;obtain⟨t1,t2,_⟩:=j3i I1 d;refine⟨t1,t2,?_⟩;rw[m.trees];refine Calls.callWith_builtin rfl (Calls.evalArgs_plain (Calls.spliced_cons (thn (he pins s1 U H1 _ I1 q1) λiv s2 ⟨y,H2,I2,ry,q2⟩=>Calls.spliced_cons (thn (hf pins s2 U H2 _ I2 q2) λfv s3 ⟨z,H3,I3,rz,ov,g,q3⟩=>Calls.spliced_nil ?_))));exact j6v hu I3 g ry rz λw' s4 I4 rw'=>⟨_,H3,I4,rw',q3⟩
end
section
variable {B:Type}[DecidableEq B]
theorem j35 {kvs:List (B×V)}{k:B}{v:V}(h:jc2 kvs k=some v):k∈kvs.map (·.1):=by
 have q:(kvs.any λkv=>decide (kv.1=k))=true:=by rw[jo8,h];all_goals rfl
 obtain⟨p,hp,e⟩:=List.any_eq_true.mp q;exact mem_map.mpr ⟨p,hp,of_decide_eq_true e⟩
end
noncomputable def jx0 (scope:Scope)(env:Env):List (Str×Addr):=(scope.names.filterMap λp=>if p.2=NameKind.free then(env.cells.lookup p.1).map λc=>(p.1,c)else none).reverse
theorem jil {α:Type}{x:Str}{c:α}:∀{l:List (Str×α)},l.lookup x=some c->(x,c)∈l
 |[],h=>by simp at h
 |(y,d)::r,h=>by
  rw[lookup_cons]at h;cases e:x==y with
  |true=>rw[e]at h;have h':d=c:=Option.some.inj h;rw[h',eq_of_beq e];exact mem_cons_self
  |false=>rw[e]at h;exact mem_cons_of_mem _ (jil h)
theorem jox {α:Type}{x:Str}{c:α}:∀{l:List (Str×α)},(x,c)∈l->∃d,l.lookup x=some d
 |[],h=>by simp at h
 | (y,d)::r,h=>by
  rw[lookup_cons];cases e:x==y with
  |true=>exact⟨d,rfl⟩
  |false=>
   rcases mem_cons.mp h with z|z
   .have z1:x=y:=congrArg Prod.fst z;rw[z1,beq_self_eq_true]at e;cases e
   .exact jox z
theorem jwq {scope:Scope}{env:Env}{x:Str}{c:Addr}:(x,c)∈jx0 scope env↔(x,NameKind.free)∈scope.names/\env.cells.lookup x=some c:=by
 unfold jx0;rw[List.mem_reverse,mem_filterMap];constructor
 .rintro⟨⟨y,k⟩,hm,e⟩
  by_cases hk:k=NameKind.free
  .subst hk;rw[if_pos rfl]at e;cases q:env.cells.lookup y with
   |none=>rw[q]at e;cases e
   |some d=>rw[q]at e;have e':(y,d)=(x,c):=Option.some.inj e;cases e';exact⟨hm,q⟩
  .rw[if_neg hk]at e;cases e
 .rintro⟨hm,q⟩
  exact⟨(x,NameKind.free),hm,by rw[if_pos rfl];rw[q];rfl⟩
theorem ja9 {scope:Scope}{env:Env}{x:Str}{c:Addr}(h:(jx0 scope env).lookup x=some c):env.cells.lookup x=some c:=(jwq.mp (jil h)).2
theorem jth {scope:Scope}{env:Env}{x:Str}{c:Addr}(hm:(x,NameKind.free)∈scope.names)(h:env.cells.lookup x=some c):(jx0 scope env).lookup x=some c:=by obtain⟨d,e⟩:=jox (jwq.mpr ⟨hm,h⟩);rw[e,<-h];exact(ja9 e).symm
theorem jn6 {env:Env}:∀(names:List (Str×NameKind))(cs:List (Str×Addr)),(∀p∈names,p.2= .free->∃c,env.cells.lookup p.1=some c)->(forIn names cs λ(x:Str×NameKind)(cs:List (Str×Addr))=>(match x with
   |(name,kind)=>if(kind== .free)=true then(do let a<-cellOf env name;pure (ForInStep.yield ((name,a)::cs)))else pure (ForInStep.yield cs):Sem (ForInStep (List (Str×Addr)))))
   =pure ((names.filterMap λp=>if p.2=NameKind.free then(env.cells.lookup p.1).map λc=>(p.1,c)else none).reverse++cs)
 |[],cs,_=>rfl
 | (n,k)::r,cs,h=>by
  rw[List.forIn_cons];have hr:∀p∈r,p.2= .free->∃c,env.cells.lookup p.1=some c:=λp hp=>h p (mem_cons_of_mem _ hp);by_cases hk:k=NameKind.free
  .subst hk;obtain⟨c,hc⟩:=h (n,.free) mem_cons_self rfl;have e1:cellOf env n=pure c:=by unfold cellOf;rw[show env.cells.lookup n=some c from hc]
   show((do let a<-cellOf env n;pure (ForInStep.yield ((n,a)::cs)):Sem (ForInStep (List (Str×Addr)))) >>= _)=_;rw[e1];simp only[pure_bind];rw[jn6 r ((n,c)::cs) hr,filterMap_cons,if_pos rfl,show env.cells.lookup n=some c from hc];simp
  .have hb:(k==NameKind.free)=false:=by simpa using hk
   show((if(k==NameKind.free)=true then(do let a<-cellOf env n;pure (ForInStep.yield ((n,a)::cs)))else pure (ForInStep.yield cs):Sem (ForInStep (List (Str×Addr)))) >>= _)=_;rw[hb,if_neg Bool.false_ne_true];simp only[pure_bind];rw[jn6 r cs hr,filterMap_cons,if_neg hk]
theorem jxw {scope:Scope}{env:Env}(h:∀p∈scope.names,p.2= .free->∃c,env.cells.lookup p.1=some c):closureFor scope env=pure (jx0 scope env):=by have e:=jn6 scope.names [] h;rw[append_nil]at e;unfold closureFor jx0;simp only[bind_pure];exact e
theorem kn {env:Env}{x:Str}:∀{names:List (Str×NameKind)}{k:NameKind},(names.map λ(n,k)=>if(k==NameKind.free&&env.scope.kind== .function&&env.kindOf n==some .cell)then(n,NameKind.cell)else(n,k)).lookup x=some k->∃k',(x,k')∈names/\(k'=k\/(k'= .free/\k= .cell))
 |[],_,h=>by simp at h
 | (n,j)::r,k,h=>by
  by_cases hc:(j==NameKind.free&&env.scope.kind== .function&&env.kindOf n==some .cell)=true
  .rw[map_cons]at h;have h':List.lookup x ((if(j==NameKind.free&&env.scope.kind== .function&&env.kindOf n==some .cell)=true then(n,NameKind.cell)else(n,j))::_)=some k:=h;rw[if_pos hc,lookup_cons]at h';cases e:x==n with
   |true=>
    rw[e]at h';have h2:NameKind.cell=k:=Option.some.inj h';have hj:j=NameKind.free:=by have:=hc;rw[Bool.and_eq_true,Bool.and_eq_true]at this;exact eq_of_beq this.1.1
    exact⟨j,by rw[eq_of_beq e];exact mem_cons_self,.inr ⟨hj,h2.symm⟩⟩
   |false=>rw[e]at h';obtain⟨k',hm,q⟩:=kn h';exact⟨k',mem_cons_of_mem _ hm,q⟩
  .rw[map_cons]at h;have h':List.lookup x ((if(j==NameKind.free&&env.scope.kind== .function&&env.kindOf n==some .cell)=true then(n,NameKind.cell)else(n,j))::_)=some k:=h;rw[if_neg hc,lookup_cons]at h';cases e:x==n with
   |true=>rw[e]at h';exact⟨j,by rw[eq_of_beq e];exact mem_cons_self,.inl (Option.some.inj h')⟩
   |false=>rw[e]at h';obtain⟨k',hm,q⟩:=kn h';exact⟨k',mem_cons_of_mem _ hm,q⟩
noncomputable def j3k (N:List Str)(sc scope:Scope)(N':List Str)(ix:List (Option Nat)):Bool:=scope.kind== .function&&scope.names.all (λy=>y.2 != .cell)&&scope.names.all (λy=>y.2 != .local||scope.names.lookup y.1==some .local)&&
 scope.names.all (λy=>y.2 != .free||sc.names.lookup y.1==some .cell||sc.names.lookup y.1==some .free)&&
 decide (ix.length=N'.length)&&decide N'.Nodup&&(N'.zip ix).all λp=>match p.2 with
  |none=>scope.names.all λy=>y.1 != p.1||y.2== .local
  |some k=>N[k]?==some p.1&&scope.names.lookup p.1==some .free&&scope.names.all λy=>y.1 != p.1||y.2== .free
structure jka (N:List Str)(sc scope:Scope)(N':List Str)(ix:List (Option Nat)):Prop where
 kind:scope.kind= .function
 jy4:∀y∈scope.names,y.2≠.cell
 names:∀y∈scope.names,y.2= .local->scope.names.lookup y.1=some .local
 frees:∀y∈scope.names,y.2= .free->sc.names.lookup y.1=some .cell\/sc.names.lookup y.1=some .free
 len:ix.length=N'.length
 nd:N'.Nodup
 own:∀(i:Nat)(x:Str),N'[i]?=some x->ix[i]?=some none->∀y∈scope.names,y.1=x->y.2= .local
 out:∀(i:Nat)(x:Str)(k:Nat),N'[i]?=some x->ix[i]?=some (some k)->N[k]?=some x/\(x,NameKind.free)∈scope.names/\∀y∈scope.names,y.1=x->y.2= .free
theorem xm {N:List Str}{sc scope:Scope}{N':List Str}{ix:List (Option Nat)}(h:j3k N sc scope N' ix=true):jka N sc scope N' ix:=by
 unfold j3k at h;simp only[Bool.and_eq_true,all_eq_true,Bool.or_eq_true,bne_iff_ne,beq_iff_eq,decide_eq_true_eq,ne_eq]at h;obtain⟨⟨⟨⟨⟨⟨h1,h2⟩,h3⟩,h4⟩,h5⟩,h6⟩,h7⟩:=h;have zipAt:∀{i:Nat}{x:Str}{o:Option Nat},N'[i]?=some x->ix[i]?=some o->(x,o)∈N'.zip ix:=λ{i x o} a b=>by refine mem_of_getElem? (i:=i) ?_;rw[List.getElem?_zip_eq_some];exact⟨a,b⟩
 refine⟨h1,λy hy=>h2 y hy,λy hy e=>?_,λy hy e=>?_,h5,h6,λi x a b y hy e=>?_,λi x k a b=>?_⟩
 .rcases h3 y hy with z|z
  .exact absurd e z
  .exact z
 .rcases h4 y hy with(z|z)|z
  .exact absurd e z
  .exact .inl z
  .exact .inr z
 .have q:=h7 _ (zipAt a b);simp only[all_eq_true,Bool.or_eq_true,bne_iff_ne,beq_iff_eq,ne_eq]at q;rcases q y hy with z|z
  .exact absurd e z
  .exact z
 .have q:=h7 _ (zipAt a b);simp only[Bool.and_eq_true,all_eq_true,Bool.or_eq_true,bne_iff_ne,beq_iff_eq,ne_eq]at q;obtain⟨⟨q1,q2⟩,q3⟩:=q;refine⟨q1,jil q2,λy hy e=>?_⟩;rcases q3 y hy with z|z
  .exact absurd e z
  .exact z
noncomputable def jlz (ix:List (Option Nat))(U:St):St:=ix.map λo=>match o with
 |some k=>(U[k]?).join
 |none=>none
noncomputable def blk (X:Cx)(scope:Scope)(N':List Str)(C:Addr)(fp:List Addr)(s₂:Shared)(H₂:Hp):Cx:={X with N:=N',s₀:=s₂,H₀:=H₂,env:=compEnvC scope (jx0 scope X.env) C X.env,outer:=X.stack,stack:=X.stack,ex:=fp,fn:=λ_=>false,pn:=[],xe:=λ_ _=>False}
noncomputable abbrev jug (its:List Value)(n:Nat):Obj:={cls:=.type "list",data:=.seq its.toArray n}
section
variable {X:Cx}{scope:Scope}{N':List Str}{ix:List (Option Nat)}{C:Addr}{fp:List Addr}{s₂:Shared}{H₂:Hp}{pins:List (Addr×Obj)}{U:St}
theorem jzb (I:Inv X pins U H₂ s₂){x:Str}{c:Addr}(h:(jx0 scope X.env).lookup x=some c):c<s₂.heap.objs.size:=by obtain⟨v,q⟩:=I.cell x c (ja9 h);exact q.lt
theorem j29 (I:Inv X pins U H₂ s₂)(co:jka X.N X.env.scope scope N' ix)(hC:@LE.le Nat _ s₂.heap.objs.size C)(hf:∀b∈fp,jvr X pins H₂ b)(hlt:∀b∈fp,b<s₂.heap.objs.size):(blk X scope N' C fp s₂ H₂).Ok where
 mod:=I.ok.mod
 kind:=co.kind
 glob:=I.ok.glob
 blt:=I.ok.blt
 above:=hC
 inj:=λx y c e1 e2=>I.ok.inj x y c (ja9 e1) (ja9 e2)
 has:=λx h=>by
  have h1:∃k,(relabel scope X.env).names.lookup x=some k/\(k= .cell\/k= .free):=by
   rcases h with h|h
   .exact⟨_,h,.inl rfl⟩
   .exact⟨_,h,.inr rfl⟩
  obtain⟨k,h1,h2⟩:=h1;obtain⟨k',hm,q⟩:=kn h1;have hk:k'= .free:=by
   rcases q with q|⟨q,_⟩
   .rcases h2 with z|z
    .exact absurd (q.trans z) (co.jy4 _ hm)
    .exact q.trans z
   .exact q
  rw[hk]at hm;obtain⟨c,hc⟩:=I.ok.has x (co.frees _ hm rfl);exact⟨c,jth hm hc⟩
 cab:=λx c h=>by have h':false=true:=h;cases h'
 hd:=I.ok.hd
 frames:=I.ok.frames
 stk:=.inl rfl
 exf:=λb hb=>⟨ne_of_lt (lt_of_lt_of_le (hlt b hb) hC),λx c e=>(hf b hb).2.2.2.2.1 x c (ja9 e)⟩
 bs:=I.bs
 bsz:=le_trans I.ok.bsz I.sz
 j3w:=λb o e hb=>by
  rcases(hf b hb).2.2.2.1 with z|z
  .exact I.ok.j3w b o e z
  .exact absurd (lt_of_lt_of_le (Heap.lt_size (I.ok.bs b o e).1) z) (lt_irrefl _)
 j5u:=λb hb z=>by
  rcases mem_cons.mp (I.jqw b z)with e|e
  .exact(hf b hb).2.1 e
  .exact(hf b hb).2.2.1 e
 jvq:=I.stack
 frf:=I.jsm
theorem j2n (I:Inv X pins U H₂ s₂){b:Addr}(h:s₂.heap.objs.size<=b):b∉frs X.stack:=λz=>by
 rcases mem_cons.mp (I.jqw b z)with e|e
 .rw[e]at h;exact absurd (lt_of_lt_of_le I.lt h) (lt_irrefl _)
 .exact I.j9w h e
theorem jz4 (I:Inv X pins U H₂ s₂)(co:jka X.N X.env.scope scope N' ix){D:Addr}{h₁:Heap}{t':Nat}(hD:@Eq Nat D s₂.heap.objs.size)(hC:@Eq Nat C (s₂.heap.objs.size+1))(hf:∀b∈fp,jvr X pins H₂ b)(hlt:∀b∈fp,b<s₂.heap.objs.size)(old:∀b o,s₂.heap.get? b=some o->h₁.get? b=some o)(hacc:h₁.get? D=some (jug [] 0)){m:Str->Option Value}(hns:h₁.Ns C m):
  Inv (blk X scope N' C fp s₂ H₂) [(D,jug [] 0)] (jlz ix U) H₂ {s₂ with heap:=h₁,toks:=t'} where
 ok:=j29 I co (by omega) hf hlt
 os:=rfl
 bare:=I.bare
 base:=Un.kept old
 loc :=by
  refine⟨m,hns,λi x v e1 e2 e3=>?_⟩;unfold jlz at e2;rw[getElem?_map]at e2;cases q:ix[i]? with
  |none=>rw[q]at e2;cases e2
  | some o=>
   rw[q]at e2;cases o with
   |none=>cases e2
   | some k=>
    have e2':(U[k]?).join=some v:=Option.some.inj e2;have e2'':U[k]?=some (some v):=by
     cases z:U[k]? with
     |none=>rw[z]at e2';cases e2'
     |some o=>rw[z]at e2';exact congrArg some e2'
    obtain⟨o1,o2,o3⟩:=co.out i x k e1 q;have hk:X.env.kindOf x=some .cell\/X.env.kindOf x=some .free:=co.frees _ o2 rfl;have vis:Vis X.env.scope x:=.inr hk;obtain⟨m0,_,hl⟩:=I.loc;obtain⟨u,r,l⟩:=hl k x v o1 e2'' vis;refine⟨u,r,?_⟩;rcases l with⟨l,_⟩|⟨_,c,ec,hcell⟩
    .rcases hk with z|z
     .rw[z]at l;cases l
     .rw[z]at l;cases l
    .refine .inr ⟨?_,c,jth o2 ec,?_⟩
     .rcases e3 with z|z|z
      .obtain⟨k',hm,q⟩:=kn z;rcases q with q|⟨_,q⟩
       .have:=o3 _ hm rfl;rw[show k'=NameKind.local from q]at this;cases this
       .cases q
      .exact .inl z
      .exact .inr z
     .obtain⟨o,ho,hd⟩:=hcell;exact⟨o,old _ _ ho,hd⟩
 cell:=λx c e=>by obtain⟨v,o,ho,hd⟩:=I.cell x c (ja9 e);exact⟨v,o,old _ _ ho,hd⟩
 free:=I.hok.fresh (by show@LE.le Nat _ s₂.heap.objs.size C;omega)
 jgs:=λx c e=>I.jgs x c (ja9 e)
 pin:=λp hp=>by
  have e:p=(D,jug [] 0):=by simpa[blk]using hp
  subst e;refine⟨hacc,I.hok.fresh (by show@LE.le Nat _ s₂.heap.objs.size D;omega),by show¬@Eq Nat D C;omega,j2n I (by show@LE.le Nat _ s₂.heap.objs.size D;omega),λv z=>?_⟩;have z':Data.seq _ _=Data.cell v:=z;cases z'
 hok:=I.hok.kept old
 len:=by unfold jlz;rw[length_map];exact co.len
theorem j0q (I:Inv X pins U H₂ s₂){D:Addr}(hD:@Eq Nat D s₂.heap.objs.size)(hf:∀b∈fp,jvr X pins H₂ b){ys:List V}{its:List Value}{n:Nat}{U':St}{H':Hp}{s':Shared}(I':Inv (blk X scope N' C fp s₂ H₂) [(D,jug its n)] U' H' s')(hv:Vals ys its)(hz:ys.length<=sizeLine):Inv X pins U (upd H' D (.lst ys)) s':=by
 obtain⟨dp,dn,_,_,_⟩:=I'.pin (D,jug its n) (by simp);have dp':s'.heap.get? D=some (jug its n):=dp;have dn':H' D=none:=dn;have u:=I'.base;have ne:∀b o,s₂.heap.get? b=some o->b≠D:=λb o e z=>by have h1:@LT.lt Nat _ b s₂.heap.objs.size:=Heap.lt_size e;have h2:@Eq Nat b D:=z;omega
 have neH:∀b o,H₂ b=some o->b≠D:=λb o e z=>by have h1:@LT.lt Nat _ b s₂.heap.objs.size:=I.hok.lt e;have h2:@Eq Nat b D:=z;omega
 refine I.j4p (ch:=fp) I'.os ⟨u.keep,u.slot,λb o e q hb=>?_,u.there,λb xs q=>?_,λb o xs q=>?_,λb ps q=>?_⟩ (λb o e=>?_) I'.bare λb hb=>?_
 .rw[je (ne b o e)];exact u.free b o e q hb
 .rw[je (neH b _ q)];exact u.jtw b xs q
 .rw[je (neH b _ q)];exact u.jsl b o xs q
 .rw[je (neH b _ q)];exact u.ju0 b ps q
 .by_cases hb:b=D
  .subst hb;rw[ja]at e;cases e;exact⟨hz,its,n,hv,dp'⟩
  .rw[je hb]at e;exact(I'.hok b o e).jrh (λc v _ q=>q) (λc q=>by rw[je (jj q dn')];exact q) λc xs q=>by rw[je (jj q dn')];exact q
 .obtain⟨_,f1,_,f3,f4,f5⟩:=hf b hb;exact⟨f3,f1,f4,f5⟩
end
noncomputable abbrev NoE:Value->Shared->Prop:=λ_ _=>False
section
variable {prog:Program}{w:World}{A:Around}{R:Result->Shared->Prop}{s:Shared}
theorem ju8 {elt target iter:Expr}{ifs:List Expr}{scope:Scope}{pos:Pos}{it acc:Value}{env:Env}(I:Nat->Shared->Prop)(turn:∀n s,I n s->wpAny (model prog w) A (pyNext it) (λr s₁=>match r with
   |none=>R (.ok .next) s₁
   |some v=>wpAny (model prog w) A (letOwnedTupleGo target it v) (λ_ s₁=>wpAny (model prog w) A (assign target env v) (λ_ s₂=>wpAny (model prog w) A (forIn ifs true λc r=>if r=true then do let ok<-isTrue c env (eval c env);pure (ForInStep.yield ok)else pure (ForInStep.yield r)) (λok s₃=>if ok=true then wpAny (model prog w) A (eval elt env) (λx s₄=>wpAny (model prog w) A (call (.builtin "list.append") [acc,x]) (λ_ s₅=>∃m,m<n/\I m s₅) NoE s₄) NoE s₃
      else ∃m,m<n/\I m s₃) NoE s₂) NoE s₁) NoE s₁) NoE s)(n:Nat)(h:I n s):codeAny (model prog w) A (.compLoop (.ListComp elt [⟨target,iter,ifs,0⟩] scope pos) 0 it acc env) R s:=by
 refine codeAny_loop rfl I (λn s hI=>?_) n h;show wpAny _ A ((compTurn (.ListComp elt [⟨target,iter,ifs,0⟩] scope pos) 0 it acc env).onRaise (λx=>do noteFrame x env;theTreesLotGoes x)) _ _ s;refine wpAny_noted ?_;rw[compTurn_list];refine wpAny_bind (wpAny_standAt (wpAny_bind (wpAny_mono (turn n s hI) (λr s₁ h₁=>?_) λ_ _ h'=>h'.elim)));cases r with
 |none=>exact wpAny_pure h₁
 |some v=>
  refine wpAny_bind (wpAny_mono h₁ (λ_ s₁ h₁=>?_) λ_ _ h'=>h'.elim);refine wpAny_bind (wpAny_mono h₁ (λ_ s₂ h₂=>wpAny_bind (wpAny_mono h₂ (λok s₃ h₃=>?_) λ_ _ h'=>h'.elim)) λ_ _ h'=>h'.elim);cases ok with
  |false=>exact wpAny_pure ⟨rfl,h₃⟩
  |true=>exact wpAny_bind (wpAny_bind (wpAny_mono h₃ (λx s₄ h₄=>wpAny_bind (wpAny_mono h₄ (λ_ s₅ h₅=>wpAny_pure (wpAny_pure ⟨rfl,h₅⟩)) λ_ _ h'=>h'.elim)) λ_ _ h'=>h'.elim))
end
noncomputable def PIf (X:Cx)(ifs:List Expr)(t:TT):Prop:=∀(pins:List (Addr×Obj))(s:Shared)(U:St)(H:Hp)(Q:Bool->Hp->Prop),Inv X pins U H s->t U H Q->wpAny (model X.prog X.w) X.A (forIn ifs true λc r=>if r=true then do let ok<-isTrue c X.env (eval c X.env);pure (ForInStep.yield ok)else pure (ForInStep.yield r)) (TP X pins U Q) X.xe s
noncomputable def j4s:TT:=λ_ H Q=>Q true H
theorem jnz {X:Cx}:PIf X [] j4s:=λ_ _ _ H _ I h=>wpAny_tests_nil ⟨H,I,h⟩
theorem jg8 {X:Cx}{c:Expr}{t:TT}(h:PT X c t):PIf X [c] t:=λpins s U H Q I q=>wpAny_tests_one (h pins s U H Q I q)
noncomputable def jx3 (Q:VK)(ys:List V)(H:Hp):Prop:=∀p,H p=none->Q (.ref p) (upd H p (.lst ys))
noncomputable def tLc (ix:List (Option Nat))(wi:TI)(g:TG)(ti:TT)(te:TE):TE:=λU H Q=>wi U H λJ H1=>∃W:Nat->Nat->List V->St->Hp->Prop,(∃m,W 0 m [] (jlz ix U) H1)/\∀i m ys U H,W i m ys U H->ys.length<=sizeLine/\((J.stop i H/\jx3 Q ys H)\/(J.go i H/\∃N:List V->St->Hp->Prop,(∀ys' U' H',N ys' U' H'->∃m',m'<m/\W (i+1) m' ys' U' H')/\∀x H',J.yld i H x H'->g x U H' λU2 H2=>ti U2 H2 λb H3=>if b=true then te U2 H3 λy H4=>N (ys++[y]) U2 H4 else N ys U2 H3))
structure j7d (X:Cx)(pins:List (Addr×Obj))(H:Hp)(s:Shared)(C:Addr):Prop where
 ns:∃m,s.heap.Ns C m
 fr:H C=none
 nl:C≠X.env.locals
 ab:X.s₀.heap.objs.size<=C
 nc:∀x c,X.env.cells.lookup x=some c->c≠C
 np:∀p∈X.pn++pins,p.1≠C
section
variable {X:Cx}
theorem j0b {scope:Scope}{N':List Str}{ix:List (Option Nat)}{pins:List (Addr×Obj)}{U:St}{tg iter elt:Expr}{ifs:List Expr}{pos:Pos}{g:TG}{ti:TT}{te:TE}{E:Value->Shared->Prop}(co:jka X.N X.env.scope scope N' ix)(hc:X.calm=true)(hg:∀C fp s₂ H₂,PG (blk X scope N' C fp s₂ H₂) tg g)(hi:∀C fp s₂ H₂,PIf (blk X scope N' C fp s₂ H₂) ifs ti)(he:∀C fp s₂ H₂,PE (blk X scope N' C fp s₂ H₂) elt te){H₂:Hp}{s₂:Shared}{J:It}{fp:List Addr}{it:Addr}{tn:Nat->Heap->Prop}{QF:List V->Hp->Prop}(I:Inv X pins U H₂ s₂)(T:Turn X.prog X.w X.K tg J fp it tn)(st:tn 0 s₂.heap)(hf:∀b∈fp,jvr X pins H₂ b){W:Nat->Nat->List V->St->Hp->Prop}(w0:∃m,W 0 m [] (jlz ix U) H₂)(hW:∀i m ys U H,W i m ys U H->ys.length<=sizeLine/\((J.stop i H/\QF ys H)\/(J.go i H/\∃N:List V->St->Hp->Prop,(∀ys' U' H',N ys' U' H'->∃m',m'<m/\W (i+1) m' ys' U' H')/\∀x H',J.yld i H x H'->g x U H' λU2 H2=>ti U2 H2 λb H3=>if b=true then te U2 H3 λy H4=>N (ys++[y]) U2 H4 else N ys U2 H3))){RR:Value->Addr->Result->Shared->Prop}(hRR:∀D C ys H' s',Inv X pins U (upd H' D (.lst ys)) s'->H' D=none->QF ys H'->j7d X pins (upd H' D (.lst ys)) s' C->RR (.ref D) C (.ok .next) s'):
  wpAny (model X.prog X.w) X.A (newList []) (λacc s₃=>wpAny (model X.prog X.w) X.A (newFunctionEnv scope X.env.globals (jx0 scope X.env) [] X.env.qual none .none (some X.env)) (λcenv s₄=>codeAny (model X.prog X.w) X.A (.compStart (.ListComp elt [⟨tg,iter,ifs,0⟩] scope pos) 0 (.ref it) acc {cenv with scope:=relabel scope X.env}) (RR acc cenv.locals) s₄) E s₃) E s₂:=by
 have hlt:∀b∈fp,@LT.lt Nat _ b s₂.heap.objs.size:=λb hb=>by obtain⟨o,e,_⟩:=T.obj _ _ st b hb;exact Heap.lt_size e
 refine wpAny_newObj_type (wpAny_newFunctionEnv co.jy4 (by intro y hy;simp at hy) (λh₁ hns₁ hsb₁=>?_) co.kind);dsimp only at hns₁ hsb₁⊢;generalize hH2:s₂.heap.push {cls:=.type "list",dict:=none,data:=.seq ([]:List Value).toArray}=H2 at hns₁ hsb₁⊢;have hC:@Eq Nat H2.objs.size (s₂.heap.objs.size+1):=by rw[<-hH2,Heap.size_push]
 have below:∀b:Nat,b<s₂.heap.objs.size->¬@Eq Nat b H2.objs.size:=λb hb=>by omega
 have hDC:¬@Eq Nat s₂.heap.objs.size H2.objs.size:=by omega
 have old:∀b o,s₂.heap.get? b=some o->h₁.get? b=some o:=λb o e=>hsb₁.extBut b o (below b (Heap.lt_size e)) (Heap.get?_push_of_some _ (hH2 ▸ Heap.get?_push_of_some _ e));have hacc:h₁.get? s₂.heap.objs.size=some (jug [] 0):=hsb₁.extBut _ _ hDC (Heap.get?_push_of_some _ (hH2 ▸ Heap.get?_push_size _ rfl));have st₁:tn 0 h₁:=T.keep _ _ _ st λb _ o e=>old b o e;generalize hCe:H2.objs.size=C at hns₁ hsb₁ hC below hDC⊢;generalize hDe:s₂.heap.objs.size=D at hacc hDC⊢;have loop:∀s₃:Shared,s₃={s₂ with heap:=h₁,toks:=s₂.toks+([]:List (Str×Value)).length}->codeAny (model X.prog X.w) X.A (.compLoop (.ListComp elt [⟨tg,iter,ifs,0⟩] scope pos) 0 (.ref it) (.ref D) (compEnvC scope (jx0 scope X.env) C X.env)) (RR (.ref D) C) s₃:=by
  rintro s₃ rfl
  obtain⟨m0,w0⟩:=w0;have I3:Inv (blk X scope N' C fp s₂ H₂) [(D,jug [] 0)] (jlz ix U) H₂ {s₂ with heap:=h₁,toks:=s₂.toks+([]:List (Str×Value)).length}:=jz4 I co hDe.symm hC hf hlt old hacc hns₁;refine ju8 (λk s'=>∃i ys its n U' H',Inv (blk X scope N' C fp s₂ H₂) [(D,jug its n)] U' H' s'/\Vals ys its/\tn i s'.heap/\(∀b∈fp,H' b=none)/\W i k ys U' H') ?_ m0 ⟨0,[],[],0,_,_,I3,.nil,st₁,λb hb=>(hf b hb).1,w0⟩
  rintro k s' ⟨i,ys,its,n,U',H',I',hv,st',fr',w'⟩
  have fpok:∀{H':Hp}{o:Obj},(∀b∈fp,H' b=none)->∀b∈fp,jvr (blk X scope N' C fp s₂ H₂) [(D,o)] H' b:=λ{H' o} hn b hb=>by
   refine⟨hn b hb,below b (hlt b hb),λz=>?_,.inl hb,λx c e=>(hf b hb).2.2.2.2.1 x c (ja9 e),λp hp z=>?_⟩
   .rcases mem_cons.mp (I.jqw b z)with e|e
    .exact(hf b hb).2.1 e
    .exact(hf b hb).2.2.1 e
   .have e:p=(D,o):=by simpa[blk]using hp
    subst e;have z':@Eq Nat D b:=z;have z2:=hlt b hb;omega
  obtain⟨hz,hW'⟩:=hW i k ys U' H' w';rcases hW' with⟨stop,q⟩|⟨go,N,hN,step⟩
  .refine thn (T.done (blk X scope N' C fp s₂ H₂) rfl rfl rfl hc i _ s' U' H' NoE I' (fpok fr') st' stop) λr s4 ⟨hr,I4⟩=>?_;subst hr;obtain⟨_,dn,_⟩:=I4.pin (D,jug its n) (by simp);have cf:H' C=none:=I4.free;refine hRR D C ys H' s4 (j0q I hDe.symm hf I4 hv hz) dn q ⟨?_,by rw[je (Ne.symm hDC)];exact cf,?_,?_,λx c e=>?_,λp hp=>?_⟩
   .obtain⟨m,hn,_⟩:=I4.loc;exact⟨m,hn⟩
   .have z:@LT.lt Nat _ X.env.locals s₂.heap.objs.size:=I.lt;show¬@Eq Nat C X.env.locals;omega
   .have z:@LE.le Nat _ X.s₀.heap.objs.size s₂.heap.objs.size:=I.sz;show@LE.le Nat _ X.s₀.heap.objs.size C;omega
   .obtain⟨v,z⟩:=I.cell x c e;have z2:@LT.lt Nat _ c s₂.heap.objs.size:=z.lt;show¬@Eq Nat c C;omega
   .have z2:@LT.lt Nat _ p.1 s₂.heap.objs.size:=Heap.lt_size (I.pin p hp).1;show¬@Eq Nat p.1 C;omega
  .refine thn (T.item (blk X scope N' C fp s₂ H₂) rfl rfl rfl hc i _ s' U' H' NoE I' (fpok fr') st' go) λr s4 zQ=>?_;obtain⟨u,hr,h4⟩:=zQ;subst hr;refine thn h4 λ_ s5 zQ=>?_;obtain⟨x,H5,I5,r5,y5,st5,fr5⟩:=zQ;have I5':=I5.pinned (fpok fr5) (T.obj _ _ st5);refine thn (hg C fp s₂ H₂ _ s5 U' H5 x u _ I5' r5 (step x H5 y5)) λ_ s6 zQ=>?_;obtain⟨σ6,H6,I6,q6⟩:=zQ;refine thn (hi C fp s₂ H₂ _ s6 σ6 H6 _ I6 q6) λok s7 zQ=>?_;obtain⟨H7,I7,q7⟩:=zQ;have fpin:∀{U8:St}{H8:Hp}{s8:Shared},Inv (blk X scope N' C fp s₂ H₂) ([(D,jug its n)]++jl3 fp s5.heap) U8 H8 s8->∀b∈fp,∀o,s5.heap.get? b=some o->s8.heap.get? b=some o/\H8 b=none:=λ{U8 H8 s8} I8 b hb o e=>by
    have z:=I8.pin (b,o) (mem_append_right _ (mem_append_right _ (jjj hb e)));exact⟨z.1,z.2.1⟩
   cases ok with
   |false=>
    have q7':N ys σ6 H7:=by have q7':=q7;rw[if_neg Bool.false_ne_true]at q7';exact q7'
    obtain⟨m',hm,w7⟩:=hN _ _ _ q7';refine⟨m',hm,i+1,ys,its,n,σ6,H7,I7.jl2,hv,T.keep _ _ _ st5 λb hb o e=>(fpin I7 b hb o e).1,λb hb=>?_,w7⟩;obtain⟨o,e,_⟩:=T.obj _ _ st5 b hb;exact(fpin I7 b hb o e).2
   | true=>
    have q7':te σ6 H7 λy H4=>N (ys++[y]) σ6 H4:=by have q7':=q7;rw[if_pos rfl]at q7';exact q7'
    show wpAny _ _ _ _ _ _;refine thn (he C fp s₂ H₂ _ s7 σ6 H7 _ I7 q7') λyv s8 zQ=>?_;obtain⟨y,H8,I8,r8,q8⟩:=zQ;obtain⟨m',hm,w8⟩:=hN _ _ _ q8;obtain⟨z1,z2,z3,z4,z5⟩:=I8.pin (D,jug its n) (by simp);have zD:s8.heap.get? D=some (jug its n):=z1;have lenv:=hv.length;refine append_at (hsz:=by rw[size_toArray];omega) zD λh9 hs9 hD9=>?_;have I8':Inv (blk X scope N' C fp s₂ H₂) (jl3 fp s5.heap) σ6 H8 s8:=I8.jta λp hp=>I8.pin p (mem_append_right _ (mem_append_right _ hp));have I9:Inv (blk X scope N' C fp s₂ H₂) (jl3 fp s5.heap) σ6 H8 {s8 with heap:=h9}:=I8'.turned (it:=D) (t':=s8.toks) (λb o hb e=>(hs9.2 b hb).trans e) z2 z3 (.inr (by show s₂.heap.objs.size<=D;omega)) (λx c e=>by have z:@LT.lt Nat _ c s₂.heap.objs.size:=jzb (scope:=scope) I e;show¬@Eq Nat c D;omega) (λp hp=>by
      have hp':p∈jl3 fp s5.heap:=by simpa[blk]using hp
      have z:=hlt _ (ju3 hp').1;show¬@Eq Nat p.1 D;omega);have hD9':h9.get? D=some (jug (its++[yv]) (n+1)):=by
     rw[hD9];simp[jug]
    have I10:Inv (blk X scope N' C fp s₂ H₂) [(D,jug (its++[yv]) (n+1))] σ6 H8 {s8 with heap:=h9}:=I9.jta λp hp=>by
     have e:p=(D,jug (its++[yv]) (n+1)):=by simpa using hp
     subst e;refine⟨hD9',z2,z3,z4,λv z=>?_⟩;have z':Data.seq _ _=Data.cell v:=z;cases z'
    refine⟨m',hm,i+1,ys++[y],its++[yv],n+1,σ6,H8,I10,hv.append (.cons r8 .nil),T.keep _ _ _ st5 λb hb o e=>?_,λb hb=>?_,w8⟩
    .have hbD:b≠D:=by
      have z:=hlt b hb;show¬@Eq Nat b D;omega
     exact(hs9.2 b hbD).trans (fpin I8 b hb o e).1
    .obtain⟨o,e,_⟩:=T.obj _ _ st5 b hb;exact(fpin I8 b hb o e).2
 exact codeAny_compStart_list (loop _ rfl) (T.self _ 0 _ _ _ st₁ (loop _ rfl))
theorem j7d.go {pins:List (Addr×Obj)}{U:St}{H:Hp}{s:Shared}{C:Addr}{h':Heap}(G:j7d X pins H s C)(I:Inv X pins U H s)(hs:Heap.SameBut C s.heap h'):Inv X pins U H {s with heap:=h'}:=I.turned (it:=C) (t':=s.toks) (λb o hb e=>(hs.2 b hb).trans e) G.fr G.nl (.inr G.ab) G.nc G.np
variable {scope:Scope}{N':List Str}{ix:List (Option Nat)}{tg iter elt:Expr}{ifs:List Expr}{pos:Pos}{wi:TI}{g:TG}{ti:TT}{te:TE}
theorem jq7 (co:jka X.N X.env.scope scope N' ix){pins:List (Addr×Obj)}{U:St}{H:Hp}{s:Shared}(I:Inv X pins U H s):closureFor scope X.env=pure (jx0 scope X.env):=jxw λp hp e=>I.ok.has p.1 (co.frees p hp e)
theorem gk (co:jka X.N X.env.scope scope N' ix)(hc:X.calm=true)(hit:PI X tg iter wi)(hg:∀C fp s₂ H₂,PG (blk X scope N' C fp s₂ H₂) tg g)(hi:∀C fp s₂ H₂,PIf (blk X scope N' C fp s₂ H₂) ifs ti)(he:∀C fp s₂ H₂,PE (blk X scope N' C fp s₂ H₂) elt te)(hs:autoParam (∀x,foldedSetIterable iter X.env x=pure x) aP3):
  PE X (.ListComp elt [⟨tg,iter,ifs,0⟩] scope pos) (tLc ix wi g ti te):=by
 intro pins s U H Q I h;rw[eval_ListComp];refine wpAny_comprehension_free (use:=none) rfl hs (jq7 co I) co.kind co.names (thn (hit pins s U H _ I h) λxv s₁ h₁=>thn h₁ λitv s₂ h₂=>?_);obtain⟨it,fp,tn,J,H₂,e,I₂,T,st,hf,W,w0,hW⟩:=h₂;subst e;refine j0b co hc hg hi he I₂ T st hf w0 hW (RR:=λacc C=>compPost (model X.prog X.w) X.A X.xe none (EP X pins U Q) acc C) λD C ys H' s' I' dn q G=>?_;obtain⟨m,hn⟩:=G.ns;exact⟨m,hn,λh' hs'=>⟨.ref D,_,G.go I' hs',rfl,q D dn⟩⟩
theorem j2v {i:Nat}{y:Str}{py spos:Pos}(hN:X.N.Nodup)(hiy:X.N[i]?=some y)(hy:X.env.scope.names.lookup y=some .local)(co:jka X.N X.env.scope scope N' ix)(hc:X.calm=true)(hit:PI X tg iter wi)(hg:∀C fp s₂ H₂,PG (blk X scope N' C fp s₂ H₂) tg g)(hi:∀C fp s₂ H₂,PIf (blk X scope N' C fp s₂ H₂) ifs ti)(he:∀C fp s₂ H₂,PE (blk X scope N' C fp s₂ H₂) elt te)(hs:autoParam (∀x,foldedSetIterable iter X.env x=pure x) aP3)(hsw:autoParam (swapsWith (.ListComp elt [⟨tg,iter,ifs,0⟩] scope pos) (some (.Name y py)) spos.line X.env=pure true) aP1):
  PS X (.Assign [.Name y py] (.ListComp elt [⟨tg,iter,ifs,0⟩] scope pos) spos) (j77 (tLc ix wi g ti te) (jh5 i)):=by
 intro pins s U H D I h;rw[exec_Assign_Name_used _ _ _ _ hsw];refine wpAny_bind (wpAny_standAt (wpAny_bind ?_));show wpAny _ X.A (do let _<-comprehension (.ListComp elt [⟨tg,iter,ifs,0⟩] scope pos) scope X.env _ (newList []) false (eval iter X.env) (some (assign (.Name y py) X.env))) _ _ s;refine wpAny_bind (wpAny_mono (wpAny_comprehension_free (use:=some (assign (.Name y py) X.env)) (Q:=λ_ s'=>SP X pins D .next s') rfl hs (jq7 co I) co.kind co.names (thn (hit pins s U H _ I h) λxv s₁ h₁=>thn h₁ λitv s₂ h₂=>?_)) (λ_ s' hq=>wpAny_pure (wpAny_pure hq)) λ_ _ e=>e);obtain⟨it,fp,tn,J,H₂,e,I₂,T,st,hf,W,w0,hW⟩:=h₂;subst e;refine j0b co hc hg hi he I₂ T st hf w0 hW (RR:=λacc C=>compPost (model X.prog X.w) X.A X.xe (some (assign (.Name y py) X.env)) (λ_ s'=>SP X pins D .next s') acc C) λDa C ys H' s' I' dn q G=>?_;show wpAny _ _ (assign (.Name y py) X.env (.ref Da)) _ _ s';refine wpAny_assign_Name (jur (v:=.ref Da) I' hN hiy (.inl hy) rfl (λs'' I'' zQ=>?_) (.inr hy));obtain⟨a,sb,ha⟩:=zQ;have hCa:C≠a:=by
  rcases ha with z|z
  .rw[z];exact G.nl
  .exact Ne.symm (G.nc _ _ z)
 obtain⟨m,hn⟩:=G.ns;have hn2:=hn.sameBut sb hCa;have G2:j7d X pins (upd H' Da (.lst ys)) s'' C:=⟨⟨m,hn2⟩,G.fr,G.nl,G.ab,G.nc,G.np⟩;exact⟨m,hn2,λh' hs'=>⟨_,_,G2.go I'' hs',q Da dn⟩⟩
end
theorem jqh {K:PySem.W.Frag}{a:Addr}{xs:List V}{g:TG}{ti:TT}{te:TE}{U0:St}{H0:Hp}{Q:VK}(Pv:Nat->List V->St->Hp->Prop)(h0:Pv 0 [] U0 H0)(hl:∀i ys U H,i<=xs.length->Pv i ys U H->SqL K H a xs/\ys.length<=sizeLine)(hs:∀i x ys U H,xs[i]?=some x->Pv i ys U H->g x U H λU2 H2=>ti U2 H2 λb H3=>if b=true then te U2 H3 λy H4=>Pv (i+1) (ys++[y]) U2 H4 else Pv (i+1) ys U2 H3)(hd:∀ys U H,Pv xs.length ys U H->∀p,H p=none->Q (.ref p) (upd H p (.lst ys))):∃W:Nat->Nat->List V->St->Hp->Prop,(∃m,W 0 m [] U0 H0)/\∀i m ys U H,W i m ys U H->ys.length<=sizeLine/\(((Itl K a).stop i H/\jx3 Q ys H)\/((Itl K a).go i H/\∃N:List V->St->Hp->Prop,(∀ys' U' H',N ys' U' H'->∃m',m'<m/\W (i+1) m' ys' U' H')/\∀x H',(Itl K a).yld i H x H'->g x U H' λU2 H2=>ti U2 H2 λb H3=>if b=true then te U2 H3 λy H4=>N (ys++[y]) U2 H4 else N ys U2 H3)):=by
 refine⟨λi m ys U H=>m=xs.length-i/\i<=xs.length/\Pv i ys U H,⟨xs.length,by simp,zero_le _,h0⟩,?_⟩
 rintro i m ys U H ⟨rfl,hi,p⟩
 obtain⟨q,hz⟩:=hl i ys U H hi p;refine⟨hz,?_⟩;by_cases hlt:i<xs.length
 .refine .inr ⟨⟨xs,xs[i],q,by simp[hlt]⟩,Pv (i+1),λys' U' H' p'=>⟨xs.length-(i+1),by omega,rfl,hlt,p'⟩,λx H' y=>?_⟩;obtain⟨e,y⟩:=y;subst e;exact hs i x ys U _ (y xs q) p
 .have e:i=xs.length:=by omega
  subst e;exact .inl ⟨⟨xs,q,le_refl _⟩,hd ys U H p⟩
theorem jpd {lo:Int}{n:Nat}{g:TG}{ti:TT}{te:TE}{U0:St}{H0:Hp}{Q:VK}(Pv:Nat->List V->St->Hp->Prop)(h0:Pv 0 [] U0 H0)(hl:∀i ys U H,i<=n->Pv i ys U H->ys.length<=sizeLine)(hs:∀i ys U H,i<n->Pv i ys U H->g (.int (lo+i)) U H λU2 H2=>ti U2 H2 λb H3=>if b=true then te U2 H3 λy H4=>Pv (i+1) (ys++[y]) U2 H4 else Pv (i+1) ys U2 H3)(hd:∀ys U H,Pv n ys U H->∀p,H p=none->Q (.ref p) (upd H p (.lst ys))):∃W:Nat->Nat->List V->St->Hp->Prop,(∃m,W 0 m [] U0 H0)/\∀i m ys U H,W i m ys U H->ys.length<=sizeLine/\(((Itr lo n).stop i H/\jx3 Q ys H)\/((Itr lo n).go i H/\∃N:List V->St->Hp->Prop,(∀ys' U' H',N ys' U' H'->∃m',m'<m/\W (i+1) m' ys' U' H')/\∀x H',(Itr lo n).yld i H x H'->g x U H' λU2 H2=>ti U2 H2 λb H3=>if b=true then te U2 H3 λy H4=>N (ys++[y]) U2 H4 else N ys U2 H3)):=by
 refine⟨λi m ys U H=>m=n-i/\i<=n/\Pv i ys U H,⟨n,by simp,zero_le _,h0⟩,?_⟩
 rintro i m ys U H ⟨rfl,hi,p⟩
 refine⟨hl i ys U H hi p,?_⟩;by_cases hlt:i<n
 .refine .inr ⟨hlt,Pv (i+1),λys' U' H' p'=>⟨n-(i+1),by omega,rfl,hlt,p'⟩,λx H' y=>?_⟩;obtain⟨e,y⟩:=y;subst e y;exact hs i ys U _ hlt p
 .have e:i=n:=by omega
  subst e;exact .inl ⟨le_refl _,hd ys U H p⟩
section
variable {X:Cx}
theorem vc:jmo X (.builtin "isinstance") (λxs H Q=>∃x t T b,xs=[x,.ty T]/\jye X.K H x t/\PySem.W.kitOne X.K t (.type T)=some b/\Q (.bl b) H):=by intro pins s U H xs us Q I r h;obtain⟨x,t,T,b,rfl,ty,e,q⟩:=h;obtain⟨u,w,rfl,r1,r2⟩:=vals2 r;obtain rfl:w=Value.type T:=r2;exact j03 I r1 ty e λtk=>⟨.bl b,H,I.tok tk,rfl,q⟩
theorem jx8 {A:Around}{s:Shared}{p:Addr}{its:List Value}(hh:A.handled=none)(hl:s.heap.IsList p its.toArray):∃(fp:List Addr),(∀b∈fp,b<s.heap.objs.size+1)/\Walks X.prog X.w A s.heap.objs.size fp [s.heap.objs.size] its.toArray.size (λi v=>its.toArray[i]?=some v) (λi h=>h.IsListIter s.heap.objs.size p i/\h.IsList p its.toArray)/\((s.heap.push {cls:=.type "list_iterator",data:=.fields #[.ref p,.int 0 0]}).IsListIter s.heap.objs.size p 0/\(s.heap.push {cls:=.type "list_iterator",data:=.fields #[.ref p,.int 0 0]}).IsList p its.toArray):=by
 have hlt:p<s.heap.objs.size:=by obtain⟨_,e,_⟩:=hl;exact Heap.lt_size e
 refine⟨[s.heap.objs.size,p],λb hb=>?_,Walks.list (A:=A) hh _ p (ne_of_lt hlt) its.toArray,⟨_,Heap.get?_push_size _ rfl,rfl,rfl⟩,hl.push _⟩;rcases mem_cons.mp hb with e|e
 .rw[e];exact lt_succ_self _
 .rw[mem_singleton.mp e];exact Nat.lt_succ_of_lt hlt
theorem jxu {s:Shared}{h':Heap}{o:Obj}(hk:∀b x,b∉[s.heap.objs.size]->(s.heap.push o).get? b=some x->h'.get? b=some x):∀b x,s.heap.get? b=some x->h'.get? b=some x:=λb x e=>hk b x (λhm=>by rw[mem_singleton.mp hm]at e;exact lt_irrefl _ (Heap.lt_size e)) (Heap.get?_push_of_some _ e)
theorem jtp:∀{bs:List Bool}{us:List Value},Vals (bs.map V.bl) us->us=bs.map Value.bool
 |[],us,h=>by rw[map_nil]at h;cases h;rfl
 |b::bs,us,h=>by
  rw[map_cons]at h;cases h with
  |cons r1 r2=>cases r1;rw[jtp r2,map_cons]
theorem j17 {A:Around}(bs:List Bool)(d:Bool):∀(i:Nat)(v:Value)(s':Shared)(Q':Bool->Shared->Prop)(E':Value->Shared->Prop),(bs.map Value.bool).toArray[i]?=some v->Q' ((bs[i]?).getD d) s'->wpAny (model X.prog X.w) A (truthy v) Q' E' s':=λi v s' Q' E' hP hQ=>by
  have e:(bs.map Value.bool)[i]?=some v:=by simpa using hP
  rw[getElem?_map]at e;cases q:bs[i]? with
  |none=>rw[q]at e;cases e
  |some b=>rw[q]at e hQ;have e':Value.bool b=v:=Option.some.inj e;subst e';exact wpAny_truthy_bool hQ
theorem j2z (hc:X.calm=true):jmo X (.builtin "all") (λxs H Q=>∃(p:Addr)(bs:List Bool),xs=[.ref p]/\SqL X.K H p (bs.map V.bl)/\Q (.bl (bs.all id)) H):=by
 intro pins s U H xs us Q I r h;obtain⟨p,bs,rfl,hq,q⟩:=h;obtain⟨u,rfl,rx⟩:=vals1 r;cases rx;obtain⟨its,r',pl,hz⟩:=I.list hq;have ei:=jtp r';subst ei;obtain⟨fp,hfp,W,st⟩:=jx8 (X:=X) (A:=X.A.in1) (s:=s) (I.ok.hd hc) pl.isList;refine call_all_walk (wpAny_pyIter_list pl.isList ⟨_,fp,_,_,_,_,λi=>(bs[i]?).getD true,rfl,W,st,j17 bs true,λh' tk hk=>?_⟩);have e:((List.range (bs.map Value.bool).toArray.size).all λi=>(bs[i]?).getD true)=bs.all id:=by rw[size_toArray,length_map];exact LSm.range_all bs
 rw[e];exact⟨.bl (bs.all id),H,I.kept (t':=tk) (jxu hk),rfl,q⟩
theorem jmn (hc:X.calm=true):jmo X (.builtin "sum") (λxs H Q=>∃(p:Addr)(ns:List Int),xs=[.ref p]/\SqL X.K H p (ns.map V.int)/\Q (.int ns.sum) H):=by
 intro pins s U H xs us Q I r h;obtain⟨p,ns,rfl,hq,q⟩:=h;obtain⟨u,rfl,rx⟩:=vals1 r;cases rx;obtain⟨its,r',pl,hz⟩:=I.list hq;have hi:=intsAre_of r';obtain⟨ms,hx⟩:=hi.allInts.items;have hl':s.heap.IsList p (intItems ms):=hx ▸ pl.isList;refine sum_intListG (I.ok.hd hc) hl' λh' tk t' hk=>?_;have e1:ns=ms.toList.map (·.1):=by rw[<-nums_intItems,<-hx];exact(show numsOf its.toArray.toList=ns from hi.numsOf).symm
 have e2:preSum (numAt ms) ms.size=ns.sum:=by rw[preSum_eq,List.take_of_length_le (by simp),e1]
 rw[e2];exact⟨.int ns.sum,H,I.kept (t':=tk) hk,⟨t',rfl⟩,q⟩
end
inductive Dt where
 |non|bl (b:Bool)|int (i:Int)|str (x:Str)|tup (ds:List Dt)|lst (ds:List Dt)
mutual
def qt (K:PySem.W.Frag) (H:Hp):Dt->V->Prop
 | .non,v=>v= .non
 | .bl b,v=>v= .bl b
 | .int i,v=>v= .int i
 | .str x,v=>v= .str x
 | .tup ds,v=>∃a xs,v= .ref a/\SqT K H a xs/\xt K H ds xs
 | .lst ds,v=>∃a xs,v= .ref a/\SqL K H a xs/\xt K H ds xs
def xt (K:PySem.W.Frag) (H:Hp):List Dt->List V->Prop
 |[],xs=>xs=[]
 |d::ds,xs=>∃x r,xs=x::r/\qt K H d x/\xt K H ds r
end
mutual
def eqD:Dt->Dt->Bool
 | .non,.non=>true
 | .bl a,.bl b=>a==b
 | .bl a,.int b=>(if a then 1 else 0)==b
 | .int a,.bl b=>a==(if b then 1 else 0)
 | .int a,.int b=>a==b
 | .str a,.str b=>a==b
 | .tup as,.tup bs=>jri as bs
 | .lst as,.lst bs=>jri as bs
 |_,_=>false
def jri:List Dt->List Dt->Bool
 |[],[]=>true
 |a::as,b::bs=>eqD a b&&jri as bs
 |_,_=>false
end
mutual
def jj0:Dt->Nat
 | .tup ds=>jd8 ds+1
 | .lst ds=>jd8 ds+1
 |_=>0
def jd8:List Dt->Nat
 |[]=>0
 |d::ds=>max (jj0 d) (jd8 ds)
end
noncomputable def jrw (ds es:List Dt)(j:Nat):Bool:=match ds[j]?,es[j]? with
 |some a,some b=>eqD a b
 |_,_=>true
theorem jdf:∀(ds es:List Dt),((List.range (min ds.length es.length)).all (jrw ds es)&&(ds.length==es.length))=jri ds es
 |[],[]=>by simp[jri]
 |[],e::es=>by simp[jri]
 |d::ds,[]=>by simp[jri]
 |d::ds,e::es=>by
  have ih:=jdf ds es;have e1:min (d::ds).length (e::es).length=min ds.length es.length+1:=by simp only[length_cons];omega
  have e2:((d::ds).length==(e::es).length)=(ds.length==es.length):=by simp
  have e3:(jrw (d::ds) (e::es)∘Nat.succ)=jrw ds es:=by funext j;simp[jrw,Function.comp]
  have e4:jrw (d::ds) (e::es) 0=eqD d e:=by simp[jrw]
  rw[e1,e2,List.range_succ_eq_map,List.all_cons,List.all_map,e3,e4,Bool.and_assoc,ih,jri]
theorem xt.length {K:PySem.W.Frag}{H:Hp}:∀{ds:List Dt}{xs:List V},xt K H ds xs->ds.length=xs.length
 |[],xs,h=>by rw[xt]at h;rw[h];rfl
 |d::ds,xs,h=>by rw[xt]at h;obtain⟨x,r,rfl,_,h2⟩:=h;rw[length_cons,length_cons,xt.length h2]
theorem xt.get {K:PySem.W.Frag}{H:Hp}:∀{ds:List Dt}{xs:List V}{j:Nat}{x:V},xt K H ds xs->xs[j]?=some x->∃d,ds[j]?=some d/\qt K H d x
 |[],xs,j,x,h,e=>by rw[xt]at h;subst h;simp at e
 | d::ds,xs,j,x,h,e=>by
  rw[xt]at h;obtain⟨y,r,rfl,h1,h2⟩:=h;cases j with
  |zero=>
   have e':y=x:=by simpa using e
   subst e';exact⟨d,by simp,h1⟩
  |succ j=>obtain⟨d',q1,q2⟩:=xt.get (j:=j) h2 (by simpa using e);exact⟨d',by simpa using q1,q2⟩
theorem j0f:∀{ds:List Dt}{j:Nat}{d:Dt},ds[j]?=some d->jj0 d<=jd8 ds
 |[],j,d,e=>by simp at e
 | c::ds,j,d,e=>by
  rw[jd8];cases j with
  |zero=>
   have e':c=d:=by simpa using e
   subst e';exact Nat.le_max_left _ _
  |succ j=>exact le_trans (j0f (j:=j) (by simpa using e)) (Nat.le_max_right _ _)
section
variable {X:Cx}{pins:List (Addr×Obj)}{U:St}{H:Hp}{s:Shared}
theorem jkf (I:Inv X pins U H s){a:Addr}{xs ys:List V}(h:SqL X.K H a xs)(h':SqT X.K H a ys):False:=by obtain⟨_,_,p,_⟩:=I.list h;obtain⟨_,_,q,_⟩:=I.tuple h';obtain⟨o,e,c,_⟩:=p.isList;obtain⟨o',e',c',_⟩:=q;rw[e]at e';cases e';rw[c]at c';exact absurd c' (by decide)
mutual
theorem jpr (I:Inv X pins U H s):∀(d e:Dt)(x:V),qt X.K H d x->qt X.K H e x->eqD d e=true
 | .non,e,x,h,k=>by rw[qt]at h;subst h;cases e<;>rw[qt]at k<;>first|(obtain⟨_,_,z,_⟩:=k;cases z)|rfl|cases k
 | .bl b,e,x,h,k=>by rw[qt]at h;subst h;cases e<;>rw[qt]at k<;>first|(obtain⟨_,_,z,_⟩:=k;cases z)|(cases k;simp[eqD];done)|cases k
 | .int b,e,x,h,k=>by rw[qt]at h;subst h;cases e<;>rw[qt]at k<;>first|(obtain⟨_,_,z,_⟩:=k;cases z)|(cases k;simp[eqD];done)|cases k
 | .str b,e,x,h,k=>by rw[qt]at h;subst h;cases e<;>rw[qt]at k<;>first|(obtain⟨_,_,z,_⟩:=k;cases z)|(cases k;simp[eqD];done)|cases k
 | .tup ds,e,x,h,k=>by
  rw[qt]at h;obtain⟨a,xs,rfl,h1,h2⟩:=h;cases e with
  |tup es=>rw[qt]at k;obtain⟨b,ys,z,k1,k2⟩:=k;cases z;have e:=I.jqf k1 h1;subst e;rw[eqD];exact jm9 I ds es _ h2 k2
  |lst es=>rw[qt]at k;obtain⟨b,ys,z,k1,k2⟩:=k;cases z;exact(jkf I k1 h1).elim
  |non=>rw[qt]at k;cases k
  |bl b=>rw[qt]at k;cases k
  |int b=>rw[qt]at k;cases k
  |str b=>rw[qt]at k;cases k
 | .lst ds,e,x,h,k=>by
  rw[qt]at h;obtain⟨a,xs,rfl,h1,h2⟩:=h;cases e with
  |lst es=>rw[qt]at k;obtain⟨b,ys,z,k1,k2⟩:=k;cases z;have e:=I.jwr k1 h1;subst e;rw[eqD];exact jm9 I ds es _ h2 k2
  |tup es=>rw[qt]at k;obtain⟨b,ys,z,k1,k2⟩:=k;cases z;exact(jkf I h1 k1).elim
  |non=>rw[qt]at k;cases k
  |bl b=>rw[qt]at k;cases k
  |int b=>rw[qt]at k;cases k
  |str b=>rw[qt]at k;cases k
theorem jm9 (I:Inv X pins U H s):∀(ds es:List Dt)(xs:List V),xt X.K H ds xs->xt X.K H es xs->jri ds es=true
 |[],es,xs,h,k=>by
  rw[xt]at h;subst h;cases es with
  |nil=>rw[jri]
  |cons e es=>rw[xt]at k;obtain⟨_,_,z,_⟩:=k;cases z
 |d::ds,es,xs,h,k=>by
  rw[xt]at h;obtain⟨x,r,rfl,h1,h2⟩:=h;cases es with
  |nil=>rw[xt]at k;cases k
  |cons e es=>rw[xt]at k;obtain⟨y,r',z,k1,k2⟩:=k;cases z;rw[jri,jpr I d e _ h1 k1,jm9 I ds es _ h2 k2];rfl
end
theorem items_eqAt {A:Around}{ds es:List Dt}{xs ys:List V}{is js:List Value}(hd:xt X.K H ds xs)(he:xt X.K H es ys)(vi:Vals xs is)(vj:Vals ys js)(rec:∀d e x y u v,d∈ds->jj0 d<=jd8 ds->qt X.K H d x->qt X.K H e y->RelV x u->RelV y v->SeqAt.EqAt A s u v (eqD d e)):∀j (h1:j<is.toArray.size)(h2:j<js.toArray.size),SeqAt.EqAt A s is.toArray[j] js.toArray[j] (jrw ds es j):=λj h1 h2=>by
 have h1':j<is.length:=by simpa using h1
 have h2':j<js.length:=by simpa using h2
 have lx:j<xs.length:=by rw[vi.length];exact h1'
 have ly:j<ys.length:=by rw[vj.length];exact h2'
 obtain⟨u,eu,ru⟩:=vi.get (i:=j) (x:=xs[j]) (by simp[lx]);obtain⟨v,ev,rv⟩:=vj.get (i:=j) (x:=ys[j]) (by simp[ly]);obtain⟨d,ed,kd⟩:=hd.get (j:=j) (x:=xs[j]) (by simp[lx]);obtain⟨e,ee,ke⟩:=he.get (j:=j) (x:=ys[j]) (by simp[ly]);have e1:is.toArray[j]=u:=by rw[getElem?_eq_getElem h1']at eu;simpa using eu
 have e2:js.toArray[j]=v:=by rw[getElem?_eq_getElem h2']at ev;simpa using ev
 have e3:jrw ds es j=eqD d e:=by simp[jrw,ed,ee]
 rw[e1,e2,e3];exact rec d e _ _ u v (mem_of_getElem? ed) (j0f ed) kd ke ru rv
theorem jjh {ds es:List Dt}{xs ys:List V}{is js:List Value}(hd:xt X.K H ds xs)(he:xt X.K H es ys)(vi:Vals xs is)(vj:Vals ys js):ds.length=is.toArray.size/\es.length=js.toArray.size:=by rw[hd.length,he.length,vi.length,vj.length];simp
theorem jqt {ds es:List Dt}(h:ds.length=es.length):(List.range ds.length).all (jrw ds es)=jri ds es:=by have q:=jdf ds es;rw[<-h,Nat.min_self,beq_self_eq_true,Bool.and_true]at q;exact q
theorem jte {ds es:List Dt}(h:ds.length≠es.length):jri ds es=false:=by have q:=jdf ds es;rw[show(ds.length==es.length)=false from by simpa using h,Bool.and_false]at q;exact q.symm
theorem ju1 (I:Inv X pins U H s):∀(n:Nat)(d e:Dt)(x y:V)(u v:Value)(A:Around),jj0 d<=n->A.units+n<cLine->qt X.K H d x->qt X.K H e y->RelV x u->RelV y v->SeqAt.EqAt A s u v (eqD d e):=by
 intro n;induction n with
 | zero=>
  intro d e x y u v A hn hu hd he ru rv;have hu':A.units<cLine:=by omega
  cases d with
  |tup ds=>rw[jj0]at hn;omega
  |lst ds=>rw[jj0]at hn;omega
  |non=>
   rw[qt]at hd;subst hd;cases ru;cases e<;>rw[qt]at he;case non=>subst he;cases rv;exact SeqAt.EqAt.same _
   case bl b=>subst he;cases rv;exact SeqAt.EqAt.none_bool b
   case int b=>subst he;obtain⟨t,rfl⟩:=rv;exact SeqAt.EqAt.none_int b t
   case str b=>subst he;obtain⟨t,rfl⟩:=rv;exact SeqAt.EqAt.none_str b t
   case tup es=>obtain⟨b,ys,rfl,k1,k2⟩:=he;cases rv;obtain⟨js,vj,pj,_⟩:=I.tuple k1;exact SeqAt.EqAt.none_tuple pj hu'
   case lst es=>obtain⟨b,ys,rfl,k1,k2⟩:=he;cases rv;obtain⟨js,vj,pj,_⟩:=I.list k1;exact SeqAt.EqAt.none_list pj.isList hu'
  |bl a=>
   rw[qt]at hd;subst hd;cases ru;cases e<;>rw[qt]at he;case non=>subst he;cases rv;exact SeqAt.EqAt.bool_none a
   case bl b=>subst he;cases rv;exact SeqAt.EqAt.bool_bool a b
   case int b=>subst he;obtain⟨t,rfl⟩:=rv;exact SeqAt.EqAt.bool_int a b t
   case str b=>subst he;obtain⟨t,rfl⟩:=rv;exact SeqAt.EqAt.bool_str a b t
   case tup es=>obtain⟨b,ys,rfl,k1,k2⟩:=he;cases rv;obtain⟨js,vj,pj,_⟩:=I.tuple k1;exact SeqAt.EqAt.bool_tuple a pj hu'
   case lst es=>obtain⟨b,ys,rfl,k1,k2⟩:=he;cases rv;obtain⟨js,vj,pj,_⟩:=I.list k1;exact SeqAt.EqAt.bool_list a pj.isList hu'
  |int a=>
   rw[qt]at hd;subst hd;obtain⟨t0,rfl⟩:=ru;cases e<;>rw[qt]at he;case non=>subst he;cases rv;exact SeqAt.EqAt.int_none a t0
   case bl b=>subst he;cases rv;exact SeqAt.EqAt.int_bool a t0 b
   case int b=>subst he;obtain⟨t,rfl⟩:=rv;exact SeqAt.EqAt.int_int a t0 b t
   case str b=>subst he;obtain⟨t,rfl⟩:=rv;exact SeqAt.EqAt.int_str a t0 b t
   case tup es=>obtain⟨b,ys,rfl,k1,k2⟩:=he;cases rv;obtain⟨js,vj,pj,_⟩:=I.tuple k1;exact SeqAt.EqAt.int_tuple a t0 pj hu'
   case lst es=>obtain⟨b,ys,rfl,k1,k2⟩:=he;cases rv;obtain⟨js,vj,pj,_⟩:=I.list k1;exact SeqAt.EqAt.int_list a t0 pj.isList hu'
  |str a=>
   rw[qt]at hd;subst hd;obtain⟨t0,rfl⟩:=ru;cases e<;>rw[qt]at he;case non=>subst he;cases rv;exact SeqAt.EqAt.str_none a t0
   case bl b=>subst he;cases rv;exact SeqAt.EqAt.str_bool a t0 b
   case int b=>subst he;obtain⟨t,rfl⟩:=rv;exact SeqAt.EqAt.str_int a t0 b t
   case str b=>subst he;obtain⟨t,rfl⟩:=rv;exact SeqAt.EqAt.str_str a t0 b t
   case tup es=>obtain⟨b,ys,rfl,k1,k2⟩:=he;cases rv;obtain⟨js,vj,pj,_⟩:=I.tuple k1;exact SeqAt.EqAt.str_tuple a t0 pj hu'
   case lst es=>obtain⟨b,ys,rfl,k1,k2⟩:=he;cases rv;obtain⟨js,vj,pj,_⟩:=I.list k1;exact SeqAt.EqAt.str_list a t0 pj.isList hu'
 | succ n ih=>
  intro d e x y u v A hn hu hd he ru rv;have hu':A.units<cLine:=by omega
  have hu1:A.in1.units+n<cLine:=by rw[units_in1];omega
  cases d with
  | tup ds=>
   rw[jj0]at hn;have hd0:=hd;rw[qt]at hd;obtain⟨a,xs,rfl,k1,k2⟩:=hd;cases ru;obtain⟨is,vi,pi,_⟩:=I.tuple k1;cases e with
   |tup es=>
    have he0:=he;rw[qt]at he;obtain⟨b,ys,rfl,l1,l2⟩:=he;cases rv;obtain⟨js,vj,pj,_⟩:=I.tuple l1;by_cases hab:a=b
    .subst hab;rw[jpr I _ _ _ hd0 he0];exact SeqAt.EqAt.same _
    .have q:=SeqAt.RcAt.tuples (A:=A) pi pj hu' (items_eqAt k2 l2 vi vj λd e x y u v _ hdd=>ih d e x y u v A.in1 (by omega) hu1);obtain⟨z1,z2⟩:=jjh k2 l2 vi vj;rw[<-z1,<-z2,jdf]at q;rw[eqD];exact SeqAt.EqAt.of_refs hab q
   |lst es=>rw[qt]at he;obtain⟨b,ys,rfl,l1,l2⟩:=he;cases rv;obtain⟨js,vj,pj,_⟩:=I.list l1;exact SeqAt.EqAt.tuple_list pi pj.isList hu'
   |non=>rw[qt]at he;subst he;cases rv;exact SeqAt.EqAt.tuple_none pi hu'
   |bl b=>rw[qt]at he;subst he;cases rv;exact SeqAt.EqAt.tuple_bool b pi hu'
   |int b=>rw[qt]at he;subst he;obtain⟨t,rfl⟩:=rv;exact SeqAt.EqAt.tuple_int b t pi hu'
   |str b=>rw[qt]at he;subst he;obtain⟨t,rfl⟩:=rv;exact SeqAt.EqAt.tuple_str b t pi hu'
  | lst ds=>
   rw[jj0]at hn;have hd0:=hd;rw[qt]at hd;obtain⟨a,xs,rfl,k1,k2⟩:=hd;cases ru;obtain⟨is,vi,pi,_⟩:=I.list k1;cases e with
   | lst es=>
    have he0:=he;rw[qt]at he;obtain⟨b,ys,rfl,l1,l2⟩:=he;cases rv;obtain⟨js,vj,pj,_⟩:=I.list l1;obtain⟨z1,z2⟩:=jjh k2 l2 vi vj;by_cases hab:a=b
    .subst hab;rw[jpr I _ _ _ hd0 he0];exact SeqAt.EqAt.same _
    .rw[eqD];by_cases hsz:ds.length=es.length
     .have q:=SeqAt.RcAt.lists (A:=A) pi.isList pj.isList (by omega) hu' (items_eqAt k2 l2 vi vj λd e x y u v _ hdd=>ih d e x y u v A.in1 (by omega) hu1);rw[<-z1,jqt hsz]at q;exact SeqAt.EqAt.of_refs hab q
     .rw[jte hsz];exact SeqAt.EqAt.of_refs hab (SeqAt.RcAt.lists_lengths pi.isList pj.isList (by rw[<-z1,<-z2];simpa using hsz) hu')
   |tup es=>rw[qt]at he;obtain⟨b,ys,rfl,l1,l2⟩:=he;cases rv;obtain⟨js,vj,pj,_⟩:=I.tuple l1;exact SeqAt.EqAt.list_tuple pi.isList pj hu'
   |non=>rw[qt]at he;subst he;cases rv;exact SeqAt.EqAt.list_none pi.isList hu'
   |bl b=>rw[qt]at he;subst he;cases rv;exact SeqAt.EqAt.list_bool b pi.isList hu'
   |int b=>rw[qt]at he;subst he;obtain⟨t,rfl⟩:=rv;exact SeqAt.EqAt.list_int b t pi.isList hu'
   |str b=>rw[qt]at he;subst he;obtain⟨t,rfl⟩:=rv;exact SeqAt.EqAt.list_str b t pi.isList hu'
  |non=>exact ih _ _ _ _ _ _ _ (zero_le n) (by omega) hd he ru rv
  |bl b=>exact ih _ _ _ _ _ _ _ (zero_le n) (by omega) hd he ru rv
  |int b=>exact ih _ _ _ _ _ _ _ (zero_le n) (by omega) hd he ru rv
  |str b=>exact ih _ _ _ _ _ _ _ (zero_le n) (by omega) hd he ru rv
theorem j6b (I:Inv X pins U H s){n:Nat}{d e:Dt}{x y:V}{u v:Value}{A:Around}(hn:jj0 d<=n)(hu:A.units+n<cLine)(hd:qt X.K H d x)(he:qt X.K H e y)(ru:RelV x u)(rv:RelV y v):SeqAt.RcAt A s u v (eqD d e):=by
 have hu':A.units<cLine:=by omega
 cases d with
 |non=>
  rw[qt]at hd;subst hd;cases ru;cases e<;>rw[qt]at he;case non=>subst he;cases rv;exact SeqAt.RcAt.none_none
  case bl b=>subst he;cases rv;exact SeqAt.RcAt.none_bool b
  case int b=>subst he;obtain⟨t,rfl⟩:=rv;exact SeqAt.RcAt.none_int b t
  case str b=>subst he;obtain⟨t,rfl⟩:=rv;exact SeqAt.RcAt.none_str b t
  case tup es=>obtain⟨b,ys,rfl,k1,k2⟩:=he;cases rv;obtain⟨js,vj,pj,_⟩:=I.tuple k1;exact SeqAt.RcAt.none_tuple pj hu'
  case lst es=>obtain⟨b,ys,rfl,k1,k2⟩:=he;cases rv;obtain⟨js,vj,pj,_⟩:=I.list k1;exact SeqAt.RcAt.none_list pj.isList hu'
 |bl a=>
  rw[qt]at hd;subst hd;cases ru;cases e<;>rw[qt]at he;case non=>subst he;cases rv;exact SeqAt.RcAt.bool_none a
  case bl b=>subst he;cases rv;exact SeqAt.RcAt.bool_bool a b
  case int b=>subst he;obtain⟨t,rfl⟩:=rv;exact SeqAt.RcAt.bool_int a b t
  case str b=>subst he;obtain⟨t,rfl⟩:=rv;exact SeqAt.RcAt.bool_str a b t
  case tup es=>obtain⟨b,ys,rfl,k1,k2⟩:=he;cases rv;obtain⟨js,vj,pj,_⟩:=I.tuple k1;exact SeqAt.RcAt.bool_tuple a pj hu'
  case lst es=>obtain⟨b,ys,rfl,k1,k2⟩:=he;cases rv;obtain⟨js,vj,pj,_⟩:=I.list k1;exact SeqAt.RcAt.bool_list a pj.isList hu'
 |int a=>
  rw[qt]at hd;subst hd;obtain⟨t0,rfl⟩:=ru;cases e<;>rw[qt]at he;case non=>subst he;cases rv;exact SeqAt.RcAt.int_none a t0
  case bl b=>subst he;cases rv;exact SeqAt.RcAt.int_bool a t0 b
  case int b=>subst he;obtain⟨t,rfl⟩:=rv;exact SeqAt.RcAt.int_int a t0 b t
  case str b=>subst he;obtain⟨t,rfl⟩:=rv;exact SeqAt.RcAt.int_str a t0 b t
  case tup es=>obtain⟨b,ys,rfl,k1,k2⟩:=he;cases rv;obtain⟨js,vj,pj,_⟩:=I.tuple k1;exact SeqAt.RcAt.int_tuple a t0 pj hu'
  case lst es=>obtain⟨b,ys,rfl,k1,k2⟩:=he;cases rv;obtain⟨js,vj,pj,_⟩:=I.list k1;exact SeqAt.RcAt.int_list a t0 pj.isList hu'
 |str a=>
  rw[qt]at hd;subst hd;obtain⟨t0,rfl⟩:=ru;cases e<;>rw[qt]at he;case non=>subst he;cases rv;exact SeqAt.RcAt.str_none a t0
  case bl b=>subst he;cases rv;exact SeqAt.RcAt.str_bool a t0 b
  case int b=>subst he;obtain⟨t,rfl⟩:=rv;exact SeqAt.RcAt.str_int a t0 b t
  case str b=>subst he;obtain⟨t,rfl⟩:=rv;exact SeqAt.RcAt.str_str a t0 b t
  case tup es=>obtain⟨b,ys,rfl,k1,k2⟩:=he;cases rv;obtain⟨js,vj,pj,_⟩:=I.tuple k1;exact SeqAt.RcAt.str_tuple a t0 pj hu'
  case lst es=>obtain⟨b,ys,rfl,k1,k2⟩:=he;cases rv;obtain⟨js,vj,pj,_⟩:=I.list k1;exact SeqAt.RcAt.str_list a t0 pj.isList hu'
 |tup ds=>
  rw[jj0]at hn;have hu1:A.in1.units+(n-1)<cLine:=by rw[units_in1];omega
  rw[qt]at hd;obtain⟨a,xs,rfl,k1,k2⟩:=hd;cases ru;obtain⟨is,vi,pi,_⟩:=I.tuple k1;cases e with
  |tup es=>rw[qt]at he;obtain⟨b,ys,rfl,l1,l2⟩:=he;cases rv;obtain⟨js,vj,pj,_⟩:=I.tuple l1;have q:=SeqAt.RcAt.tuples (A:=A) pi pj hu' (items_eqAt k2 l2 vi vj λd e x y u v _ hdd=>ju1 I (n-1) d e x y u v A.in1 (by omega) hu1);obtain⟨z1,z2⟩:=jjh k2 l2 vi vj;rw[<-z1,<-z2,jdf]at q;rw[eqD];exact q
  |lst es=>rw[qt]at he;obtain⟨b,ys,rfl,l1,l2⟩:=he;cases rv;obtain⟨js,vj,pj,_⟩:=I.list l1;exact SeqAt.RcAt.tuple_list pi pj.isList hu'
  |non=>rw[qt]at he;subst he;cases rv;exact SeqAt.RcAt.tuple_none pi hu'
  |bl b=>rw[qt]at he;subst he;cases rv;exact SeqAt.RcAt.tuple_bool b pi hu'
  |int b=>rw[qt]at he;subst he;obtain⟨t,rfl⟩:=rv;exact SeqAt.RcAt.tuple_int b t pi hu'
  |str b=>rw[qt]at he;subst he;obtain⟨t,rfl⟩:=rv;exact SeqAt.RcAt.tuple_str b t pi hu'
 | lst ds=>
  rw[jj0]at hn;have hu1:A.in1.units+(n-1)<cLine:=by rw[units_in1];omega
  rw[qt]at hd;obtain⟨a,xs,rfl,k1,k2⟩:=hd;cases ru;obtain⟨is,vi,pi,_⟩:=I.list k1;cases e with
  |lst es=>
   rw[qt]at he;obtain⟨b,ys,rfl,l1,l2⟩:=he;cases rv;obtain⟨js,vj,pj,_⟩:=I.list l1;obtain⟨z1,z2⟩:=jjh k2 l2 vi vj;rw[eqD];by_cases hsz:ds.length=es.length
   .have q:=SeqAt.RcAt.lists (A:=A) pi.isList pj.isList (by omega) hu' (items_eqAt k2 l2 vi vj λd e x y u v _ hdd=>ju1 I (n-1) d e x y u v A.in1 (by omega) hu1);rw[<-z1,jqt hsz]at q;exact q
   .rw[jte hsz];exact SeqAt.RcAt.lists_lengths pi.isList pj.isList (by rw[<-z1,<-z2];simpa using hsz) hu'
  |tup es=>rw[qt]at he;obtain⟨b,ys,rfl,l1,l2⟩:=he;cases rv;obtain⟨js,vj,pj,_⟩:=I.tuple l1;exact SeqAt.RcAt.list_tuple pi.isList pj hu'
  |non=>rw[qt]at he;subst he;cases rv;exact SeqAt.RcAt.list_none pi.isList hu'
  |bl b=>rw[qt]at he;subst he;cases rv;exact SeqAt.RcAt.list_bool b pi.isList hu'
  |int b=>rw[qt]at he;subst he;obtain⟨t,rfl⟩:=rv;exact SeqAt.RcAt.list_int b t pi.isList hu'
  |str b=>rw[qt]at he;subst he;obtain⟨t,rfl⟩:=rv;exact SeqAt.RcAt.list_str b t pi.isList hu'
theorem j14 (I:Inv X pins U H s){n:Nat}{d e:Dt}{x y:V}{u v:Value}{A:Around}(hn:jj0 d<=n)(hu:A.units+n<cLine)(hd:qt X.K H d x)(he:qt X.K H e y)(ru:RelV x u)(rv:RelV y v):SeqAt.RcNeAt A s u v (!(eqD d e)):=by
 have hu':A.units<cLine:=by omega
 cases d with
 |non=>
  rw[qt]at hd;subst hd;cases ru;cases e<;>rw[qt]at he;case non=>subst he;cases rv;exact SeqAt.RcNeAt.none_none
  case bl b=>subst he;cases rv;exact SeqAt.RcNeAt.none_bool b
  case int b=>subst he;obtain⟨t,rfl⟩:=rv;exact SeqAt.RcNeAt.none_int b t
  case str b=>subst he;obtain⟨t,rfl⟩:=rv;exact SeqAt.RcNeAt.none_str b t
  case tup es=>obtain⟨b,ys,rfl,k1,k2⟩:=he;cases rv;obtain⟨js,vj,pj,_⟩:=I.tuple k1;exact SeqAt.RcNeAt.none_tuple pj hu'
  case lst es=>obtain⟨b,ys,rfl,k1,k2⟩:=he;cases rv;obtain⟨js,vj,pj,_⟩:=I.list k1;exact SeqAt.RcNeAt.none_list pj.isList hu'
 |bl a=>
  rw[qt]at hd;subst hd;cases ru;cases e<;>rw[qt]at he;case non=>subst he;cases rv;exact SeqAt.RcNeAt.bool_none a
  case bl b=>subst he;cases rv;exact SeqAt.RcNeAt.bool_bool a b
  case int b=>subst he;obtain⟨t,rfl⟩:=rv;exact SeqAt.RcNeAt.bool_int a b t
  case str b=>subst he;obtain⟨t,rfl⟩:=rv;exact SeqAt.RcNeAt.bool_str a b t
  case tup es=>obtain⟨b,ys,rfl,k1,k2⟩:=he;cases rv;obtain⟨js,vj,pj,_⟩:=I.tuple k1;exact SeqAt.RcNeAt.bool_tuple a pj hu'
  case lst es=>obtain⟨b,ys,rfl,k1,k2⟩:=he;cases rv;obtain⟨js,vj,pj,_⟩:=I.list k1;exact SeqAt.RcNeAt.bool_list a pj.isList hu'
 |int a=>
  rw[qt]at hd;subst hd;obtain⟨t0,rfl⟩:=ru;cases e<;>rw[qt]at he;case non=>subst he;cases rv;exact SeqAt.RcNeAt.int_none a t0
  case bl b=>subst he;cases rv;exact SeqAt.RcNeAt.int_bool a t0 b
  case int b=>subst he;obtain⟨t,rfl⟩:=rv;exact SeqAt.RcNeAt.int_int a t0 b t
  case str b=>subst he;obtain⟨t,rfl⟩:=rv;exact SeqAt.RcNeAt.int_str a t0 b t
  case tup es=>obtain⟨b,ys,rfl,k1,k2⟩:=he;cases rv;obtain⟨js,vj,pj,_⟩:=I.tuple k1;exact SeqAt.RcNeAt.int_tuple a t0 pj hu'
  case lst es=>obtain⟨b,ys,rfl,k1,k2⟩:=he;cases rv;obtain⟨js,vj,pj,_⟩:=I.list k1;exact SeqAt.RcNeAt.int_list a t0 pj.isList hu'
 |str a=>
  rw[qt]at hd;subst hd;obtain⟨t0,rfl⟩:=ru;cases e<;>rw[qt]at he;case non=>subst he;cases rv;exact SeqAt.RcNeAt.str_none a t0
  case bl b=>subst he;cases rv;exact SeqAt.RcNeAt.str_bool a t0 b
  case int b=>subst he;obtain⟨t,rfl⟩:=rv;exact SeqAt.RcNeAt.str_int a t0 b t
  case str b=>subst he;obtain⟨t,rfl⟩:=rv;exact SeqAt.RcNeAt.str_str a t0 b t
  case tup es=>obtain⟨b,ys,rfl,k1,k2⟩:=he;cases rv;obtain⟨js,vj,pj,_⟩:=I.tuple k1;exact SeqAt.RcNeAt.str_tuple a t0 pj hu'
  case lst es=>obtain⟨b,ys,rfl,k1,k2⟩:=he;cases rv;obtain⟨js,vj,pj,_⟩:=I.list k1;exact SeqAt.RcNeAt.str_list a t0 pj.isList hu'
 |tup ds=>
  rw[jj0]at hn;have hu1:A.in1.units+(n-1)<cLine:=by rw[units_in1];omega
  rw[qt]at hd;obtain⟨a,xs,rfl,k1,k2⟩:=hd;cases ru;obtain⟨is,vi,pi,_⟩:=I.tuple k1;cases e with
  |tup es=>rw[qt]at he;obtain⟨b,ys,rfl,l1,l2⟩:=he;cases rv;obtain⟨js,vj,pj,_⟩:=I.tuple l1;have q:=SeqAt.RcNeAt.tuples (A:=A) pi pj hu' (items_eqAt k2 l2 vi vj λd e x y u v _ hdd=>ju1 I (n-1) d e x y u v A.in1 (by omega) hu1);obtain⟨z1,z2⟩:=jjh k2 l2 vi vj;rw[<-z1,<-z2,jdf]at q;rw[eqD];exact q
  |lst es=>rw[qt]at he;obtain⟨b,ys,rfl,l1,l2⟩:=he;cases rv;obtain⟨js,vj,pj,_⟩:=I.list l1;exact SeqAt.RcNeAt.tuple_list pi pj.isList hu'
  |non=>rw[qt]at he;subst he;cases rv;exact SeqAt.RcNeAt.tuple_none pi hu'
  |bl b=>rw[qt]at he;subst he;cases rv;exact SeqAt.RcNeAt.tuple_bool b pi hu'
  |int b=>rw[qt]at he;subst he;obtain⟨t,rfl⟩:=rv;exact SeqAt.RcNeAt.tuple_int b t pi hu'
  |str b=>rw[qt]at he;subst he;obtain⟨t,rfl⟩:=rv;exact SeqAt.RcNeAt.tuple_str b t pi hu'
 | lst ds=>
  rw[jj0]at hn;have hu1:A.in1.units+(n-1)<cLine:=by rw[units_in1];omega
  rw[qt]at hd;obtain⟨a,xs,rfl,k1,k2⟩:=hd;cases ru;obtain⟨is,vi,pi,_⟩:=I.list k1;cases e with
  |lst es=>
   rw[qt]at he;obtain⟨b,ys,rfl,l1,l2⟩:=he;cases rv;obtain⟨js,vj,pj,_⟩:=I.list l1;obtain⟨z1,z2⟩:=jjh k2 l2 vi vj;rw[eqD];by_cases hsz:ds.length=es.length
   .have q:=SeqAt.RcNeAt.lists (A:=A) pi.isList pj.isList (by omega) hu' (items_eqAt k2 l2 vi vj λd e x y u v _ hdd=>ju1 I (n-1) d e x y u v A.in1 (by omega) hu1);rw[<-z1,jqt hsz]at q;exact q
   .rw[jte hsz];exact SeqAt.RcNeAt.lists_lengths pi.isList pj.isList (by rw[<-z1,<-z2];simpa using hsz) hu'
  |tup es=>rw[qt]at he;obtain⟨b,ys,rfl,l1,l2⟩:=he;cases rv;obtain⟨js,vj,pj,_⟩:=I.tuple l1;exact SeqAt.RcNeAt.list_tuple pi.isList pj hu'
  |non=>rw[qt]at he;subst he;cases rv;exact SeqAt.RcNeAt.list_none pi.isList hu'
  |bl b=>rw[qt]at he;subst he;cases rv;exact SeqAt.RcNeAt.list_bool b pi.isList hu'
  |int b=>rw[qt]at he;subst he;obtain⟨t,rfl⟩:=rv;exact SeqAt.RcNeAt.list_int b t pi.isList hu'
  |str b=>rw[qt]at he;subst he;obtain⟨t,rfl⟩:=rv;exact SeqAt.RcNeAt.list_str b t pi.isList hu'
end
noncomputable def qbb (K:PySem.W.Frag):R2:=λx y H Q=>∃d e,qt K H d x/\qt K H e y/\jj0 d<=60/\Q (.bl (eqD d e)) H
noncomputable def j93 (K:PySem.W.Frag):R2:=λx y H Q=>∃d e,qt K H d x/\qt K H e y/\jj0 d<=60/\Q (.bl (!eqD d e)) H
section
variable {X:Cx}
theorem j6w (hu:X.A.units+64<cLine):OpR X (compareOp .Eq) (qbb X.K):=by intro pins s U H x y v u Q I rx ry h;obtain⟨d,e,hd,he,hn,q⟩:=h;exact j6b I hn (by omega) hd he rx ry _ _ _ _ ⟨.bl _,H,I,rfl,q⟩
theorem jmb (hu:X.A.units+64<cLine):OpR X (compareOp .NotEq) (j93 X.K):=by intro pins s U H x y v u Q I rx ry h;obtain⟨d,e,hd,he,hn,q⟩:=h;exact j14 I hn (by omega) hd he rx ry _ _ _ _ ⟨.bl _,H,I,rfl,q⟩
end
theorem jnc (K:PySem.W.Frag)(H:Hp):∀ns:List Int,xt K H (ns.map Dt.int) (ns.map V.int)
 |[]=>by rw[map_nil,map_nil,xt]
 |n::ns=>by rw[map_cons,map_cons,xt];exact⟨_,_,rfl,by rw[qt],jnc K H ns⟩
theorem jbj {K:PySem.W.Frag}{H:Hp}{a:Addr}{ns:List Int}(h:SqL K H a (ns.map V.int)):qt K H (.lst (ns.map Dt.int)) (.ref a):=by rw[qt];exact⟨a,_,rfl,h,jnc K H ns⟩
theorem jvd {K:PySem.W.Frag}{H:Hp}{a:Addr}{ns:List Int}(h:SqT K H a (ns.map V.int)):qt K H (.tup (ns.map Dt.int)) (.ref a):=by rw[qt];exact⟨a,_,rfl,h,jnc K H ns⟩
theorem jnn:∀ns:List Int,jd8 (ns.map Dt.int)=0
 |[]=>by rw[map_nil,jd8]
 |n::ns=>by show max (jj0 (Dt.int n)) (jd8 (ns.map Dt.int))=0;rw[jnn ns];rfl
theorem jql:∀ms ns:List Int,jri (ms.map Dt.int) (ns.map Dt.int)=decide (ms=ns)
 |[],[]=>by simp[jri]
 |[],n::ns=>by simp[jri]
 |m::ms,[]=>by simp[jri]
 |m::ms,n::ns=>by
  rw[map_cons,map_cons,jri,jql ms ns,eqD];by_cases h:m=n
  .subst h;simp
  .simp[h]
theorem jt0 (ms ns:List Int):eqD (.lst (ms.map Dt.int)) (.lst (ns.map Dt.int))=decide (ms=ns):=by rw[eqD,jql]
theorem jxe (ms ns:List Int):eqD (.tup (ms.map Dt.int)) (.tup (ns.map Dt.int))=decide (ms=ns):=by rw[eqD,jql]
theorem jh4 (ns:List Int):jj0 (.lst (ns.map Dt.int))<=60:=by rw[jj0,jnn];decide
theorem j1h (ns:List Int):jj0 (.tup (ns.map Dt.int))<=60:=by rw[jj0,jnn];decide
section
variable {X:Cx}
noncomputable def j80 (K:PySem.W.Frag):R2:=λx y H Q=>∃p xs i v,x= .ref p/\y= .int i/\SqL K H p xs/\0<=i/\xs[i.toNat]?=some v/\Q v H
theorem jto:j9v X (j80 X.K):=by intro pins s U H o i ov iv Q I ro ri h;obtain⟨p,xs,k,z,rfl,rfl,hq,h0,he,q⟩:=h;cases ro;obtain⟨t,rfl⟩:=ri;obtain⟨its,r,pl,hz⟩:=I.list hq;obtain⟨w,ew,rw'⟩:=r.get he;have hl:=r.length;have hn:=jqz;have hk:k.toNat<its.length:=(List.getElem?_eq_some_iff.mp ew).1;exact wpAny_getItem_list pl.isList h0 (by omega) (by simpa using ew) ⟨z,H,I,rw',q⟩
end
noncomputable def jyz {α:Type}:List α->List α->List α
 |[u0],[w0]=>[u0,w0]
 |_,_=>[]
theorem j2s {vs:List V}{us:List Value}{zs:List V}{ws:List Value}(r1:Vals vs us)(r2:Vals zs ws):Vals (jyz vs zs) (jyz us ws):=by
 cases r1 with
 |nil=>exact .nil
 | cons a ra=>
  cases ra with
  | nil=>
   cases r2 with
   |nil=>exact .nil
   |cons b rb=>
    cases rb with
    |nil=>exact .cons a (.cons b .nil)
    |cons _ _=>exact .nil
  |cons _ _=>exact .nil
theorem j7a {K:PySem.W.Frag}{fd:FuncData}{p k:Str}{kd:Addr}{v:Value}(e:PySem.W.nsIn K kd k=some (some v))(hp:fd.params.posonlyargs=[])(ha:fd.params.args.map (·.arg)=[p])(hv:fd.params.vararg=none)(hk:fd.params.kwonlyargs.map (·.arg)=[k])(hkw:fd.params.kwarg=none)(hd:fd.defaults= .none)(hkd:fd.kwdefaults= .ref kd)(hpk:(k==p)=false):Binds K fd [p,k] [v]:=by
 intro s us KX hl;obtain⟨u,rfl⟩:∃u,us=[u]:=by match us,hl with
  |[u],_=>exact⟨u,rfl⟩
  |_::_::_,hl=>simp at hl
 intro Mo A E Q hq;have L:=PySem.W.looks_nsIn (M:=Mo) KX e;unfold bindArgs;have hz:seqItems? Value.none=pure none:=rfl;simp only[hp,ha,hv,hk,hkw,hd,hkd,hz,map_nil,List.nil_append,length_cons,List.length_nil,List.zip_cons_cons,List.zip_nil_right,pure_bind,Option.getD_none,List.forIn_nil];simp[lookup_cons,hpk];refine wpAny_bind (L A _ E s (λ_ _ h=>h) ?_);simp[lookup_cons,hpk];exact wpAny_pure hq
theorem vg.there {P:Program}{w:World}{H:Hp}{h:Heap}{a:Addr}{o:HO}(x:vg P w H h a o):∃ob,h.get? a=some ob:=by
 cases o with
 |lst xs=>obtain⟨_,_,_,_,e⟩:=x;exact⟨_,e⟩
 |tup xs=>obtain⟨_,_,_,p⟩:=x;obtain⟨o,e,_⟩:=p;exact⟨_,e⟩
 |dK kvs=>obtain⟨_,_,_,_,o,_,_,e,_⟩:=x;exact⟨_,e⟩
 |dT kvs=>obtain⟨_,_,_,_,o,_,_,e,_⟩:=x;exact⟨_,e⟩
 |set S n=>obtain⟨o,_,_,_,e,_⟩:=x;exact⟨_,e⟩
 |ins C dx fs=>obtain⟨_,_,_,e,_⟩:=x;exact⟨_,e⟩
 |own y=>obtain⟨_,e⟩:=x;exact⟨_,e⟩
 |xd fs=>obtain⟨_,⟨_,_,_,e,_⟩,_⟩:=x;exact⟨_,e⟩
 |rng lo hi=>obtain⟨_,_,_,e⟩:=x;exact⟨_,e⟩
 |frz ob u=>obtain⟨e,_⟩:=x;exact⟨_,e⟩
 |tbl ps=>exact⟨_,(show h.get? a=some _ from x)⟩
 |met f y=>exact⟨_,(show h.get? a=some _ from x)⟩
 |ext φ=>obtain⟨_,⟨_,e⟩,_⟩:=x;exact⟨_,e⟩
structure Fly (P:Program)(w:World)(l:List Env)(H H':Hp)(s s':Shared)(ea:Addr)(cls:Value):Prop where
 os:s'.os=s.os
 bare:AllBare s'.gens
 un:Un (frs l) [] H H' s.heap s'.heap
 hok:HOk P w H' s'.heap
 fly:∃(Bq:Heap)(t:Addr),Heap.FlyingW Bq l ea cls (.ref t) s'.heap/\(∀b o o',s.heap.get? b=some o->s'.heap.get? b=some o'->b∉frs l->Bq.get? b=some o')/\(∀b u o',H' b=some u->s'.heap.get? b=some o'->Bq.get? b=some o')
 new:s.heap.get? ea=none
section
variable {X:Cx}{pins:List (Addr×Obj)}{U:St}{H H':Hp}{s s':Shared}{ea:Addr}{cls:Value}
theorem Inv.jrz (I:Inv X pins U H s){b:Addr}{o:Obj}(e:X.s₀.heap.get? b=some o)(hb:b∉X.fs):b∉frs X.stack:=λz=>by
 rcases mem_cons.mp (I.jqw b z)with q|q
 .have h1:@LT.lt Nat _ b X.s₀.heap.objs.size:=Heap.lt_size e;have h2:@LE.le Nat _ X.s₀.heap.objs.size X.env.locals:=I.ok.above;have h3:@Eq Nat b X.env.locals:=q;omega
 .exact hb q
theorem Inv.j9m (I:Inv X pins U H s){b:Addr}(hb:b∈X.fs):b∈frs X.stack:=by
 rcases I.ok.stk with e|⟨e,hf⟩
 .rw[e];exact hb
 .rw[e];unfold frs;rw[filterMap_cons,hf];exact mem_cons_of_mem _ hb
theorem j6x (I:Inv X pins U H s)(hex:X.ex=[])(F:Fly X.prog X.w X.stack H H' s s' ea cls){h':Heap}{Bq:Heap}{t:Addr}(hf:Heap.FlyingW Bq X.outer ea cls (.ref t) h')(hu:s'.heap.UpToSlots h')(k1:∀b o o',s.heap.get? b=some o->s'.heap.get? b=some o'->b∉frs X.stack->Bq.get? b=some o')(k2:∀b u o',H' b=some u->s'.heap.get? b=some o'->Bq.get? b=some o'):
  Fly X.prog X.w X.outer X.H₀ H' X.s₀ {s' with heap:=h'} ea cls:=by
 have base:=I.base;rw[hex]at base;have noE:∀b:Addr,b∉([]:List Addr):=λb=>by simp
 have lift:∀b o,X.s₀.heap.get? b=some o->b∉X.fs->∃o1 o2,s.heap.get? b=some o1/\s'.heap.get? b=some o2/\h'.get? b=some o2:=λb o e hb=>by obtain⟨o1,e1⟩:=base.there b o e (noE b);obtain⟨o2,e2⟩:=F.un.there b o1 e1 (noE b);exact⟨o1,o2,e1,e2,hf.1 _ _ (k1 b o1 o2 e1 e2 (I.jrz e hb))⟩
 have slots:∀b o,X.s₀.heap.get? b=some o->X.H₀ b=none->b∈X.fs->∃sl,h'.get? b=some {o with slots:=sl}:=λb o e n hb=>by obtain⟨sl,e1⟩:=base.slot b o e n hb (noE b);obtain⟨sl2,e2⟩:=F.un.slot b _ e1 (base.free b o e n (noE b)) (I.j9m hb) (noE b);obtain⟨_,o3,e3,nf⟩:=I.ok.jvq.mem hb;rw[e]at e3;cases e3;obtain⟨sl3,e4⟩:=hu b _ e2 nf;exact⟨sl3,e4⟩
 refine⟨F.os.trans I.os,F.bare,⟨λb o e n hb _=>?_,λb o e n hb _=>slots b o e n hb,λb o e n _=>?_,λb o e _=>?_,λb xs q=>F.un.jtw b xs (base.jtw b xs q),λb o xs q=>F.un.jsl b o xs (base.jsl b o xs q),λb ps q=>?_⟩,λb u e=>?_,⟨Bq,t,hf,λb o o' e e' hb=>?_,λb u o' q e'=>?_⟩,?_⟩
 .have e1:=base.keep b o e n hb (noE b);have e2:=F.un.keep b o e1 (base.free b o e n (noE b)) (I.jrz e hb) (noE b);exact hf.1 _ _ (k1 b o o e1 e2 (I.jrz e hb))
 .obtain⟨o1,e1⟩:=base.there b o e (noE b);exact F.un.free b o1 e1 (base.free b o e n (noE b)) (noE b)
 .by_cases hb:b∈X.fs
  .obtain⟨sl,q⟩:=slots b o e (I.ok.frf b hb) hb;exact⟨_,q⟩
  .obtain⟨_,o2,_,_,q⟩:=lift b o e hb;exact⟨o2,q⟩
 .obtain⟨m1,e1⟩:=base.ju0 b ps q;obtain⟨m2,e2⟩:=F.un.ju0 b _ e1;exact⟨m1++m2,by rw[e2,Array.append_assoc]⟩
 .refine(F.hok b u e).jrh (λc v hc q=>?_) (λ_ q=>q) λ_ _ q=>q;rcases hc with z|z
  .subst z;exact hf.1 _ _ (k2 _ _ _ e q)
  .exact hf.1 _ _ (k2 _ _ _ z q)
 .by_cases hfs:b∈X.fs
  .exact absurd hfs hb
  .obtain⟨o1,o2,e1,e2,q⟩:=lift b o e hfs;have q':h'.get? b=some o':=e';rw[q]at q';cases q';exact k1 b o1 _ e1 e2 (I.jrz e hfs)
 .obtain⟨o2,e2⟩:=(F.hok b u q).there;have z:=k2 b u o2 q e2;have q':h'.get? b=some o':=e';rw[hf.1 _ _ z]at q';cases q';exact z
 .cases q:X.s₀.heap.get? ea with
  |none=>rfl
  |some o=>obtain⟨o1,e1⟩:=base.there ea o q (noE ea);rw[F.new]at e1;cases e1
end
noncomputable def j6j:List Value:=[.type "ValueError",.type "Exception",.type "BaseException",.type "object"]
noncomputable def j7v (K:PySem.W.Frag)(C:Addr):Prop:=PySem.W.excIn K C j6j "ValueError.__new__"=true
theorem j3s {K:PySem.W.Frag}{h:Heap}{C:Addr}{bmB:List Value}{newId:String}(X:K.In h)(q:PySem.W.excIn K C bmB newId=true):∃bm N nm qn bs hdct sn sub ab col dd k0 k1 k2 k3 k5 mN,h.get? C=some (excClassObj nm qn C N bs bm hdct sn sub ab col dd k0 k1 k2 k3 k5 newId)/\h.Ns N mN/\mN "__init__"=none/\OwnTail h bmB bm:=by
 unfold PySem.W.excIn at q;split at q
 .rename_i dd cd sl ho;split at q
  .rename_i C' bm k0 k1 k2 k3 n k5 hm hs;simp only[Bool.and_eq_true,beq_iff_eq,Bool.not_eq_true']at q;obtain⟨⟨⟨⟨⟨rfl,rfl⟩,hdel⟩,ht⟩,hok⟩,hni⟩:=q;obtain⟨nm,bs,mro,ns,qn,hd,sn,sub,ab,col,del⟩:=cd;dsimp only at hm hdel hok hni;subst hm hdel;have hsl:sl=#[k0,k1,k2,k3,some (.builtin n),k5]:=by
    obtain⟨l⟩:=sl;simp only at hs;rw[hs]
   subst hsl;exact⟨bm,ns,nm,qn,bs,hd,sn,sub,ab,col,dd,k0,k1,k2,k3,k5,_,X _ _ ho,.of_isNs (PySem.W.isNs_of_in X hok),PySem.W.nsMap_none_of_in X hok hni,PySem.W.tail_of_in X ht⟩
  .cases q
 .cases q
theorem j07 {K:PySem.W.Frag}{M:Model}{h:Heap}{ea C Pc:Addr}{oe:Obj}{b:Bool}(X:K.In h)(he:h.get? ea=some oe)(hc:oe.cls= .ref C)(m:PySem.W.kitCls K (.ref C) (.ref Pc)=some b)(hb:PySem.W.mroIn K Pc (.type "BaseException")=some true):PySem.W.Looks M h (excMatches (.ref ea) (.ref Pc)) b:=by
 obtain⟨L1,L2,L3⟩:=PySem.W.kit_cls (M:=M) X m;have L4:=PySem.W.looks_mroIn (M:=M) X hb;have L5:PySem.W.Looks M h (typeOf (.ref ea)) (.ref C):=hc ▸ (PySem.W.Looks.ld he).andThen .now;have f:=tc_notTuple;intro A Q E s k q;unfold excMatches isInstance isExcClass;simp only[bind_assoc];refine wpAny_bind (L1 A _ E s k ?_);rw[f];simp only[pure_bind,Bool.false_eq_true,if_false,List.forIn_cons,List.forIn_nil,bind_assoc];refine wpAny_bind (L2 A _ E s k ?_);simp only[if_true];refine wpAny_bind (L4 A _ E s k ?_);simp only[Bool.not_true,Bool.false_eq_true,if_false,pure_bind];refine wpAny_bind (L5 A _ E s k ?_);refine wpAny_bind (L3 A _ E s k ?_);cases b
 .exact wpAny_pure q
 .exact wpAny_pure q
noncomputable def j3l (W:Hp->Prop)(t:TA):TS:=λ_ U H=>t U H λvs H1=>vs.length<=sizeLine/\W H1
section
variable {X:Cx}
theorem j2l {x:Str}{C:Addr}{e:Expr}{es:List Expr}{t:TA}{np cpos pos:Pos}{W:Hp->Prop}(hc:X.calm=true)(hg:Gl X x)(hm:X.mg x=some (.ref C))(hC:j7v X.K C)(ha:PA X (e::es) t)(hxe:∀{pins:List (Addr×Obj)}{U:St}{H:Hp}{s:Shared}{ea:Addr}{vs:List Value}{h1:Heap},Inv X pins U H s->Heap.MadeExcOf s.heap h1 ea (.ref C) vs->W H->X.xe (.ref ea) {s with heap:=h1})(hdb:autoParam ((x==("__debug__":Str))=false) aP2)(he:autoParam (starEach (e::es) X.env=(false,eval e X.env)::starEach es X.env) aP1)(hpl:autoParam ((backTo cpos (starEach es X.env)).any (·.1)=false) aP1):
  PS X (.Raise (some (.Call (.Name x np) (e::es) [] cpos)) none pos) (j3l W t):=by
 intro pins s U H D I h;obtain⟨bm,N,nm,qn,bs,hdct,sn,sub,ab,col,dd,k0,k1,k2,k3,k5,mN,hC,hN,hni,T⟩:=j3s I.mod.kin hC;have FB:=F.excBase_ValueError;refine wpAny_Raise_call_subT (C:=C) (nm:=nm) (q:=qn) (N:=N) (bs:=bs) (bm:=bm) (hdct:=hdct) (sn:=sn) (sub:=sub) (ab:=ab) (col:=col) (dd:=dd) (k0:=k0) (k1:=k1) (k2:=k2) (k3:=k3) (k5:=k5) FB (mN:=mN) (T.hasType FB.hasBase) (I.ok.hd hc) (by rw[he];show(false||(backTo cpos (starEach es X.env)).any (·.1))=false;rw[hpl];rfl) hni (jjd I hg hm ⟨rfl,?_⟩ hdb);have hA:=ha cpos pins s U H _ I h;rw[he]at hA⊢;exact Calls.evalArgs_plain (thn hA λus s2 ⟨vs,H2,I2,r2,hz,q2⟩=>⟨rfl,by rw[<-r2.length];exact hz,I2.bk _ _ hC,hN.keeps I2.bk,T.keeps I2.bk,λh' e hm=>hxe I2 hm q2⟩)
end
noncomputable def jyo (X:Cx)(ea:Addr):Cx:={X with A:=X.A.mark (some (.ref ea)),calm:=false,xe:=λ_ _=>False}
noncomputable def jt1 (ea:Addr)(cls:Value):HO:=.ext λh=>∃o vs,h.get? ea=some o/\o.cls=cls/\o.data= .fields vs
section
variable {X:Cx}{pins pn:List (Addr×Obj)}{U:St}{H H':Hp}{s s':Shared}
theorem Inv.j1a {X Yq:Cx}(I:Inv X pins U H s)(ok:Yq.Ok)(hs:Yq.s₀=X.s₀)(hH:Yq.H₀=X.H₀)(he:Yq.env=X.env)(ho:Yq.outer=X.outer)(hx:Yq.ex=X.ex)(hN:Yq.N=X.N)(hp:Yq.prog=X.prog)(hw:Yq.w=X.w){pins':List (Addr×Obj)}(hpin:∀p∈Yq.pn++pins',p∈X.pn++pins):Inv Yq pins' U H s:=by
 obtain⟨prog,w,K,mg,base,A,N,s₀,H₀,env,outer,stack,ex,fn,calm,pnX,xe⟩:=X;obtain⟨prog',w',K',mg',base',A',N',s₀',H₀',env',outer',stack',ex',fn',calm',pnY,xe'⟩:=Yq;dsimp only at hs hH he ho hx hN hp hw;subst hs hH he ho hx hN hp hw;exact⟨ok,I.os,I.bare,I.base,I.loc,I.cell,I.free,I.jgs,λp hp=>I.pin p (hpin p hp),I.hok,I.len⟩
theorem Cx.Ok.j1a {X Yq:Cx}(ok:X.Ok)(hm:Yq.K=X.K/\Yq.mg=X.mg/\Yq.base=X.base)(he:Yq.env=X.env)(hs:Yq.s₀=X.s₀)(hH:Yq.H₀=X.H₀)(ho:Yq.outer=X.outer)(hst:Yq.stack=X.stack)(hx:Yq.ex=X.ex)(hf:Yq.fn=X.fn)(hd:Yq.calm=true->Yq.A.handled=none)(hfr:Yq.A.frames=some Yq.stack):Yq.Ok:=by
 obtain⟨prog,w,K,mg,base,A,N,s₀,H₀,env,outer,stack,ex,fn,calm,pnX,xe⟩:=X;obtain⟨prog',w',K',mg',base',A',N',s₀',H₀',env',outer',stack',ex',fn',calm',pnY,xe'⟩:=Yq;obtain⟨hm1,hm2,hm3⟩:=hm;dsimp only at hm1 hm2 hm3 he hs hH ho hst hx hf;subst hm1 hm2 hm3 he hs hH ho hst hx hf;exact⟨ok.mod,ok.kind,ok.glob,ok.blt,ok.above,ok.inj,ok.has,ok.cab,hd,hfr,ok.stk,ok.exf,ok.bs,ok.bsz,ok.j3w,ok.j5u,ok.jvq,ok.frf⟩
theorem Inv.j28 {pins':List (Addr×Obj)}(I:Inv {X with pn:=pn} pins' U H s)(h:∀p∈X.pn++pins,p∈pn):Inv X pins U H s:=I.j1a (Yq:=X) (I.ok.j1a (Yq:=X) ⟨rfl,rfl,rfl⟩ rfl rfl rfl rfl rfl rfl rfl I.ok.hd I.ok.frames) rfl rfl rfl rfl rfl rfl rfl rfl λp hp=>mem_append_left _ (h p hp)
theorem Inv.j9e {ea:Addr}(I:Inv X pins U H s):Inv (jyo X ea) pins U H s:=I.j1a (Yq:=jyo X ea) (I.ok.j1a (Yq:=jyo X ea) ⟨rfl,rfl,rfl⟩ rfl rfl rfl rfl rfl rfl rfl (λz=>by have z':false=true:=z;cases z') I.ok.frames) rfl rfl rfl rfl rfl rfl rfl rfl λ_ hp=>hp
theorem Inv.j2r {ea:Addr}(ok:X.Ok)(I:Inv (jyo X ea) pins U H s):Inv X pins U H s:=I.j1a (Yq:=X) ok rfl rfl rfl rfl rfl rfl rfl rfl λ_ hp=>hp
theorem j4q {CX:CXT}{k:Nat}{f:Addr}{fd:FuncData}{ps:List Str}{sp:Sp}{dvs:List V}{ds:List Value}{E:XK}{Q:VK}{us:List Value}{vs:List V}(F:xj X.prog X.w X.K X.mg X.base CX k f fd ps sp)(hr:jfe k X.A)(hb:Binds X.K fd ps ds)(hd:Vals dvs ds)(I:Inv X pins U H s)(hx:∀e s',CX X.stack H s E e s'->X.xe e s')(r:Vals vs us)(h:sp (vs++dvs) H Q E):wpAny (model X.prog X.w) X.A (call (.ref f) us) (EP X pins U Q) X.xe s:=by
 have r2:Vals (vs++dvs) (us++ds):=r.append hd;have hl:(us++ds).length=ps.length:=by rw[<-r2.length];exact F.len _ _ _ _ h
 refine wpAny_call (codeAny_mono (F.run X.A X.stack s H ⟨us,[]⟩ (us++ds) (vs++dvs) Q E hr I.j50 (hb s us I.kIn hl) r2 h) λr s' hq=>?_);cases r with
 |error e=>exact hx e s' hq
 |ok fl=>
  cases fl with
  |ret u=>exact I.after hq
  |next=>exact False.elim hq
  |brk=>exact False.elim hq
  |cont=>exact False.elim hq
theorem jxh {ea:Addr}{cls:Value}(I:Inv X pins U H s)(F:Fly X.prog X.w X.stack H H' s s' ea cls){h':Heap}{Bq:Heap}{t:Addr}(hf:Heap.FlyingW Bq X.stack ea cls (.ref t) h')(hu:s'.heap.UpToSlots h')(k1:∀b o o',s.heap.get? b=some o->s'.heap.get? b=some o'->b∉frs X.stack->Bq.get? b=some o')(k2:∀b u o',H' b=some u->s'.heap.get? b=some o'->Bq.get? b=some o'):
  Inv X pins U H' {s' with heap:=h'}:=by
 have noE:∀b:Addr,b∉([]:List Addr):=λb=>by simp
 have slots:∀b o,s.heap.get? b=some o->H b=none->b∈frs X.stack->∃sl,h'.get? b=some {o with slots:=sl}:=λb o e n hb=>by obtain⟨sl2,e2⟩:=F.un.slot b _ e n hb (noE b);obtain⟨_,o3,e3,nf⟩:=I.stack.mem hb;rw[e]at e3;cases e3;obtain⟨sl3,e4⟩:=hu b _ e2 nf;exact⟨sl3,e4⟩
 refine I.j4p (ch:=[]) F.os ⟨λb o e n hb _=>?_,λb o e n hb _=>slots b o e n hb,λb o e n _=>F.un.free b o e n (noE b),λb o e _=>?_,F.un.jtw,F.un.jsl,F.un.ju0⟩ (λb u e=>?_) F.bare λb z=>absurd z (noE b)
 .have e2:=F.un.keep b o e n hb (noE b);exact hf.1 _ _ (k1 b o o e e2 hb)
 .by_cases hb:b∈frs X.stack
  .obtain⟨sl,q⟩:=slots b o e (I.jsm b hb) hb;exact⟨_,q⟩
  .obtain⟨o2,e2⟩:=F.un.there b o e (noE b);exact⟨o2,hf.1 _ _ (k1 b o o2 e e2 hb)⟩
 .refine(F.hok b u e).jrh (λc v hc q=>?_) (λ_ q=>q) λ_ _ q=>q;rcases hc with z|z
  .subst z;exact hf.1 _ _ (k2 _ _ _ e q)
  .exact hf.1 _ _ (k2 _ _ _ z q)
theorem Inv.j4k {a:Addr}{o:HO}(I:Inv X pins U H s)(hex:X.ex=[])(hn:H a=none)(h0:X.s₀.heap.get? a=none)(hL:a≠X.env.locals)(hc:∀x c,X.env.cells.lookup x=some c->c≠a)(hp:∀p∈X.pn++pins,p.1≠a)(new:vg X.prog X.w (upd H a o) s.heap a o):Inv X pins U (upd H a o) s:=by
 have ne0:∀b ob,X.s₀.heap.get? b=some ob->b≠a:=λb ob e z=>by rw[z,h0]at e;cases e
 refine⟨I.ok,I.os,I.bare,⟨I.base.keep,I.base.slot,λb ob e n hx=>?_,I.base.there,λb xs q=>?_,λb ob u q=>?_,λb ps q=>?_⟩,I.loc,I.cell,?_,λx c e=>?_,λp hpp=>?_,λb u e=>?_,I.len⟩
 .rw[je (ne0 b ob e)];exact I.base.free b ob e n hx
 .rw[je (jj (I.base.jtw b xs q) hn)];exact I.base.jtw b xs q
 .rw[je (jj (I.base.jsl b ob u q) hn)];exact I.base.jsl b ob u q
 .obtain⟨more,z⟩:=I.base.ju0 b ps q;exact⟨more,by rw[je (jj z hn)];exact z⟩
 .rw[je (Ne.symm hL)];exact I.free
 .rw[je (hc x c e)];exact I.jgs x c e
 .obtain⟨q1,q2,q3⟩:=I.pin p hpp;exact⟨q1,by rw[je (hp p hpp)];exact q2,q3⟩
 .by_cases hb:b=a
  .subst hb;rw[ja]at e;cases e;exact new
  .rw[je hb]at e;exact(I.hok b u e).jrh (λ_ _ _ q=>q) (λc q=>by rw[je (jj q hn)];exact q) λc xs q=>by rw[je (jj q hn)];exact q
theorem Inv.unset {i:Nat}{n:Str}(I:Inv X pins U H s)(hN:X.N.Nodup)(hi:X.N[i]?=some n){m:Str->Option Value}(hm:s.heap.Ns X.env.locals m)(hl:∀(i:Nat)(x:Str)(v:V),X.N[i]?=some x->U[i]?=some (some v)->Vis X.env.scope x->∃u,RelV v u/\Look X.env s.heap m x u){h':Heap}{u:Option Value}(hn':h'.Ns X.env.locals (λx=>if x=n then u else m x))(hs:Heap.SameBut X.env.locals s.heap h'):Inv X pins (U.set i none) H {s with heap:=h'}:=by
 obtain⟨oL,_,_,hoL,_⟩:=id hm;have hiU:i<U.length:=by rw[I.len];exact(List.getElem?_eq_some_iff.mp hi).1
 have cne:=I.cne;refine⟨I.ok,I.os,I.bare,⟨λb o e n hb hx=>?_,λb o e n hb hx=>?_,I.base.free,λb o e hx=>?_,I.base.jtw,I.base.jsl,I.base.ju0⟩,⟨_,hn',λj y v' e1 e2 e3=>?_⟩,λy c e=>?_,I.free,I.jgs,λp hp=>?_,λb ob e=>?_,by simpa using I.len⟩
 .exact(hs.2 b (ne_of_lt (lt_of_lt_of_le (Heap.lt_size e) I.ok.above))).trans (I.base.keep b o e n hb hx)
 .obtain⟨sl,e1⟩:=I.base.slot b o e n hb hx;exact⟨sl,(hs.2 b (ne_of_lt (lt_of_lt_of_le (Heap.lt_size e) I.ok.above))).trans e1⟩
 .obtain⟨o',e1⟩:=I.base.there b o e hx;exact⟨o',(hs.2 b (ne_of_lt (lt_of_lt_of_le (Heap.lt_size e) I.ok.above))).trans e1⟩
 .by_cases hj:j=i
  .subst hj;rw[getElem?_set_self hiU]at e2;cases e2
  .rw[getElem?_set_ne (Ne.symm hj)]at e2;obtain⟨u',r',q⟩:=hl j y v' e1 e2 e3;refine⟨u',r',?_⟩;rcases q with⟨k,e⟩|⟨k,c,e,z⟩
   .refine .inl ⟨k,?_⟩;have:y≠n:=λe=>hj (js1 hN e1 (e ▸ hi));simp[this,e]
   .exact .inr ⟨k,c,e,z.sameBut hs (cne y c e)⟩
 .obtain⟨w',z⟩:=I.cell y c e;exact⟨w',z.sameBut hs (cne y c e)⟩
 .obtain⟨e,n,ne,nf,d⟩:=I.pin p hp;exact⟨(hs.2 p.1 ne).trans e,n,ne,nf,d⟩
 .refine(I.hok b ob e).jrh (λc w' hc q=>(hs.2 c ?_).trans q) (λ_ q=>q) λ_ _ q=>q;have fr:=I.free
  rintro rfl
  rcases hc with rfl|hc
  .rw[fr]at e;cases e
  .rw[fr]at hc;cases hc
end
structure XIs (K:PySem.W.Frag)(C:Addr):Prop where
 ga:PySem.W.findIn K (.ref C) "__getattribute__"=some (some (.builtin "BaseException.__getattribute__"))
 gn:PySem.W.findIn K (.ref C) "__getattr__"=some none
 cl:PySem.W.findIn K (.ref C) "__class__"=some (some (.builtin "object.__class__"))
 be:PySem.W.mroIn K C (.type "BaseException")=some true
 ob:PySem.W.mroIn K C (.type "object")=some true
 is:(PySem.W.clsIn K C).isSome=true
section
variable {prog:Program}{w:World}{A:Around}{E:Value->Shared->Prop}{K:PySem.W.Frag}{h:Heap}{g:Array GenState}{d:Drawn}{t:Nat}{os:OsState}{a C:Addr}{o:Obj}
theorem j44 {M:Model}(hx:h.get? a=some o)(hc:o.cls= .ref C):PySem.W.Looks M h (typeOf (.ref a)) (.ref C):=hc ▸ (PySem.W.Looks.ld hx).andThen .now
theorem j62 {R:Result->Shared->Prop}{tp:Value}(X:K.In h)(I:XIs K C)(hx:h.get? a=some o)(hc:o.cls= .ref C)(hq:R (.ok (.ret (.ref C))) ⟨h,g,d,t,os⟩):codeAny (model prog w) A (.call (.builtin "getset_descriptor.__get__") ⟨[.builtin "object.__class__",.ref a,tp],[]⟩) R ⟨h,g,d,t,os⟩:=by
 have L1:=PySem.W.looks_mroIn (M:=model prog w) X I.ob;have hT5:(⟨h,g,d,t,os⟩:Shared).TypeIs (.builtin "object.__class__") "getset_descriptor":=F.typeOf_object_class;refine codeAny_call_builtin F.slot_gs_get.plain F.entry_gs_get (F.slot_gs_get.check _ _ _ _ _ _ _ _ hT5 (F.args_gs_get _ _ _) ?_);have ow:=F.owner_object_class;repeat(any_goals (first|assumption|(with_reducible refine wpAny_loadPart_at hx ?_;rw[hc])|(rw[ow];with_reducible refine L1.at ?_)|(with_reducible refine L1.at ?_)|wp_step))
 refine⟨Code.quiet_builtin _ (by decide+kernel),codeAny_builtin F.entry_object_class ?_⟩;repeat(any_goals (first|assumption|(with_reducible refine wpAny_loadPart_at hx ?_;rw[hc])|wp_step))
theorem j2b {tk:Tok}{Q:Fin->Shared->Prop}(X:K.In h)(I:XIs K C)(hx:h.get? a=some o)(hc:o.cls= .ref C)(hq:Q (.done (.ret (.ref C))) ⟨h,g,d,t,os⟩):wpAny (model prog w) A (Builtin.«object.__getattribute__» ⟨[.ref a,.str "__class__" tk],[]⟩) Q E ⟨h,g,d,t,os⟩:=by
 have hT5:(⟨h,g,d,t,os⟩:Shared).TypeIs (.builtin "object.__class__") "getset_descriptor":=F.typeOf_object_class;have f5:=F.typeOf_object_class;have f6:=F.slot_gs_get.lookup;have f7:=F.slot_gs_set.lookup;have L1:=PySem.W.looks_findIn (M:=model prog w) X I.cl;repeat(any_goals (first|assumption|(with_reducible refine wpAny_loadPart_at hx ?_;rw[hc])|(with_reducible refine L1.at ?_)|wp_step))
 refine j62 X I hx hc ?_;repeat(any_goals (first|assumption|wp_step))
theorem j18 {M:Model}{nameV:Value}{Q:Unit->Shared->Prop}(X:K.In h)(I:XIs K C)(hx:h.get? a=some o)(hc:o.cls= .ref C)(hq:Q () ⟨h,g,d,t,os⟩):wpAny M A (checkBuiltinCall "BaseException.__getattribute__" ⟨[.ref a,nameV],[]⟩) Q E ⟨h,g,d,t,os⟩:=by
 have hk:builtinKind "BaseException.__getattribute__"=some .slot:=by decide+kernel
 have hsplit:splitId "BaseException.__getattribute__"=some ("BaseException","__getattribute__"):=by decide+kernel
 have L1:=PySem.W.looks_mroIn (M:=M) X I.be;have ha:=F.args_bexc_ga (.ref a) nameV;simp only[checkBuiltinCall,hk,hsplit];refine wpAny_bind ?_
 .unfold isInstance;repeat(first|(with_reducible refine wpAny_loadPart_at hx ?_;rw[hc])|(with_reducible refine L1.at ?_)|wp_step)
  exact hq
theorem j4z {tk:Tok}{R:Result->Shared->Prop}(X:K.In h)(I:XIs K C)(hx:h.get? a=some o)(hc:o.cls= .ref C)(hq:R (.ok (.ret (.ref C))) ⟨h,g,d,t,os⟩):codeAny (model prog w) A (.call (.builtin "BaseException.__getattribute__") ⟨[.ref a,.str "__class__" tk],[]⟩) R ⟨h,g,d,t,os⟩:=
 codeAny_call_builtin F.attr_ValueError.ga.plain F.entry_bexc_ga (j18 X I hx hc (j2b X I hx hc hq))
theorem j9b {tk:Tok}{Q:Value->Shared->Prop}(X:K.In h)(I:XIs K C)(hx:h.get? a=some o)(hc:o.cls= .ref C)(hq:Q (.ref C) ⟨h,g,d,t,os⟩):wpAny (model prog w) A (getAttrBy (.ref a) (.str "__class__" tk) false) Q E ⟨h,g,d,t,os⟩:=by
 have f3:=F.attr_ValueError.ga.bind (.ref a);have L1:=PySem.W.looks_findIn (M:=model prog w) X I.ga;have L2:=PySem.W.looks_findIn (M:=model prog w) X I.gn;have hx2:(Value.builtin "BaseException.__getattribute__"==Value.builtin "object.__getattribute__")=false:=by decide+kernel
 have hx1:(onTheHeap (Value.ref C)&&Value.builtin "BaseException.__getattribute__"==Value.builtin "object.__getattribute__")=false:=by rw[hx2];rfl
 repeat(any_goals (first|assumption|(with_reducible refine wpAny_loadPart_at hx ?_;rw[hc])|(with_reducible refine L1.at ?_)|(with_reducible refine L2.at ?_)|wp_step))
 refine j4z X I hx hc ?_;repeat(any_goals (first|assumption|wp_step))
theorem j4d {Q:Option Value->Shared->Prop}(X:K.In h)(I:XIs K C)(hx:h.get? a=some o)(hc:o.cls= .ref C)(hq:Q (some (.ref C)) ⟨h,g,d,t+1,os⟩):wpAny (model prog w) A (getAttr? (.ref a) "__class__") Q E ⟨h,g,d,t,os⟩:=by unfold getAttr? getAttrBy?;repeat(any_goals (first|assumption|with_reducible apply j9b X I hx hc|wp_step))
end
theorem j1m {K:PySem.W.Frag}{ea C:Addr}(I:XIs K C):PySem.W.KitX K (.ref ea) (.ref C) (λh=>∃o vs,h.get? ea=some o/\o.cls= .ref C/\o.data= .fields vs) where
 ty:=λ_ _ _ ⟨o,_,h1,h2,_⟩=>j44 h1 h2
 it:=λ_ _ X _=>by
  have hcD:=I.is;unfold PySem.W.clsIn at hcD;split at hcD
  .rename_i c' d' cd' sl' ho;intro A' Q' E' s' k q;unfold isType loadHead;exact wpAny_bind (wpAny_loadPart (k _ _ (X _ _ ho)) (wpAny_pure q))
  .cases hcD
 ne:=λh tp dd its n sl X htp=>by
  refine Bool.eq_false_iff.mpr λq=>?_;have e:C=tp:=Value.ref.inj (beq_iff_eq.mp q);subst e;have hcD:=I.is;unfold PySem.W.clsIn at hcD;split at hcD
  .rename_i c' d' cd' sl' ho;have z:=(X _ _ ho).symm.trans htp;cases z
  .cases hcD
 ca:=λ{_ _ _ _ _ s} X ⟨o,_,h1,h2,_⟩ k=>by obtain⟨hh,g,d,t,os⟩:=s;exact j4d X I h1 h2 k
section
variable {X:Cx}
theorem xc:jmo X (.builtin "isinstance") (λxs H Q=>∃ea C y c b,xs=[.ref ea,y]/\H ea=some (jt1 ea (.ref C))/\XIs X.K C/\RelV y c/\PySem.W.kitOne X.K (.ref C) c=some b/\Q (.bl b) H):=by
 intro pins s U H xs us Q I r h;obtain⟨ea,C,y,c,b,rfl,hH,hX,ry,hk,q⟩:=h;obtain⟨u,w,rfl,r1,r2⟩:=vals2 r;obtain rfl:u=Value.ref ea:=r1;have hw:w=c:=by
  cases y with
  |ref z=>exact(show w=Value.ref z from r2).trans (show c=Value.ref z from ry).symm
  |ty z=>exact(show w=Value.type z from r2).trans (show c=Value.type z from ry).symm
  |non=>exact(show w=Value.none from r2).trans (show c=Value.none from ry).symm
  |bl z=>exact(show w=Value.bool z from r2).trans (show c=Value.bool z from ry).symm
  |int z=>exfalso;obtain⟨_,rfl⟩:=ry;unfold PySem.W.kitOne PySem.W.kitCls at hk;simp at hk
  |str z=>exfalso;obtain⟨_,rfl⟩:=ry;unfold PySem.W.kitOne PySem.W.kitCls at hk;simp at hk
  |byt z=>exfalso;obtain⟨_,rfl⟩:=ry;unfold PySem.W.kitOne PySem.W.kitCls at hk;simp at hk
  |flt z=>exfalso;obtain⟨_,rfl⟩:=ry;unfold PySem.W.kitOne PySem.W.kitCls at hk;simp at hk
 subst hw;obtain⟨p,_,_⟩:=(show vg X.prog X.w H s.heap ea (jt1 ea (.ref C))from I.hok ea _ hH);exact PySem.W.kia_one (j1m hX) I.kIn p hk (λz=>nomatch z) λtk=>⟨.bl b,H,I.tok tk,rfl,q⟩
end
theorem j0o {A:Around}{s:Shared}(k:Bool)(bs:List Bool):∀y,y∈(bs.map Value.bool).toArray->SeqAt.EqAt A s y (.bool k) (isBoolOf k y):=λy hy=>by
 have hy':y∈bs.map Value.bool:=by simpa using hy
 obtain⟨b,_,rfl⟩:=mem_map.mp hy';exact SeqAt.EqAt.bool_bool b k
theorem jvh (k:Bool):∀bs:List Bool,(bs.map Value.bool).countP (isBoolOf k)=bs.count k
 |[]=>rfl
 |b::bs=>by rw[map_cons,List.countP_cons,List.count_cons,jvh k bs];rfl
noncomputable def j5g (K:PySem.W.Frag):V->List V->Hp->VK->Prop:=λx vs H Q=>∃(l:Addr)(bs:List Bool)(k:Bool),x= .ref l/\vs=[.bl k]/\SqL K H l (bs.map V.bl)/\Q (.int (bs.count k)) H
noncomputable def j4t (K:PySem.W.Frag):V->List V->Hp->VK->Prop:=λx vs H Q=>∃(l:Addr)(bs:List Bool)(k:Bool),x= .ref l/\vs=[.bl k]/\SqL K H l (bs.map V.bl)/\k∈bs/\Q (.int (bs.idxOf k)) H
section
variable {X:Cx}
theorem jz0:MtR X "list.count" (j5g X.K):=by intro pins s U H x vs v us Q I rx rv h;obtain⟨l,bs,k,rfl,rfl,hH,q⟩:=h;cases rx;obtain⟨u,rfl,ru⟩:=rv.one;obtain rfl:u=Value.bool k:=ru;obtain⟨its,r,pl,hz⟩:=I.list hH;have e:=jtp r;subst e;obtain⟨⟨cls,dd,data,sl⟩,ho,hc,n,hd⟩:=pl.isList;simp only at hc hd;subst hc hd;refine call_meets PySem.F.slot_list_count ⟨_,ho,rfl⟩ PySem.F.entry_list_count (PySem.F.args_list_count_2 _ _) (SeqAt.list_countAt l _ n dd sl (.bool k) (isBoolOf k)) ⟨ho,λy hy=>j0o k bs y hy,?_⟩;rw[show(bs.map Value.bool).toArray.toList=bs.map Value.bool from rfl,jvh k bs];exact⟨.int (bs.count k),H,I.tok _,⟨_,rfl⟩,q⟩
theorem jy7:MtR X "list.index" (j4t X.K):=by
 intro pins s U H x vs v us Q I rx rv h;obtain⟨l,bs,k,rfl,rfl,hH,hk,q⟩:=h;cases rx;obtain⟨u,rfl,ru⟩:=rv.one;obtain rfl:u=Value.bool k:=ru;obtain⟨its,r,pl,hz⟩:=I.list hH;have e:=jtp r;subst e;obtain⟨⟨cls,dd,data,sl⟩,ho,hc,n,hd⟩:=pl.isList;simp only at hc hd;subst hc hd;have hj:bs.idxOf k<bs.length:=List.idxOf_lt_length_iff.mpr hk;have hz':bs.length<=sizeLine:=by rw[length_map]at hz;exact hz
 have hs:(sizeLine:Int)<2^63-1:=by decide
 refine call_meets PySem.F.slot_list_index ⟨_,ho,rfl⟩ PySem.F.entry_list_index (PySem.F.args_list_index_2 _ _) (SeqAt.list_indexAt l _ n dd sl (.bool k) (isBoolOf k) (bs.idxOf k) (by simpa using hj) (by omega) ?_ ?_) ⟨ho,λy hy=>j0o k bs y hy,?_⟩
 .have e:(bs.map Value.bool).toArray[bs.idxOf k]'(by simpa using hj)=Value.bool (bs[bs.idxOf k]):=by simp
  rw[e];show(bs[bs.idxOf k]==k)=true;simpa using List.getElem_idxOf hj
 .intro j hjs hlt;have hjl:j<bs.length:=by simpa using hjs
  have e:(bs.map Value.bool).toArray[j]'hjs=Value.bool (bs[j]):=by simp
  rw[e];show(bs[j]==k)=false;exact Bool.eq_false_iff.mpr λz=>by simpa[z]using List.not_of_lt_findIdx (p:=(·==k)) (xs:=bs) (i:=j) hlt
 .exact⟨.int (bs.idxOf k),H,I.tok _,⟨_,rfl⟩,q⟩
end
end L2
namespace L2
open PySem
noncomputable def kinds (K:PySem.W.Frag)(C:Value)(Ds:List Value):List (Option Bool):=Ds.map (PySem.W.kitOne K C)
end L2
namespace L2
open PySem PySem.Spec PyProof.Rows
noncomputable def isStar:Expr->Bool
 | .Starred _ _=>true
 |_=>false
theorem jwm {e:Expr}{es:List Expr}{env:Env}(h:isStar e=false):starEach (e::es) env=(false,eval e env)::starEach es env:=by cases e<;>first|rfl|cases h
section
variable {X:Cx}{e:Expr}{es:List Expr}{te:TE}{t:TA}
theorem jc (ha:PE X e te)(hr:PA X es t)(h:autoParam (isStar e=false) aP1):PA X (e::es) (vp te t):=j5h ha hr (jwm h)
end
noncomputable def j7w {α:Type}:List α->List α->List α
 |[u0],[w0,w1,w2]=>[u0,w0,w1,w2]
 |_,_=>[]
noncomputable def j5x {α:Type}:List α->List α->List α
 |[u0],[w0,w1]=>[u0,w0,w1]
 |_,_=>[]
theorem j12 {vs:List V}{us:List Value}{zs:List V}{ws:List Value}(r1:Vals vs us)(r2:Vals zs ws):Vals (j7w vs zs) (j7w us ws):=by rcases r1 with _|⟨a,_|⟨_,_⟩⟩<;>rcases r2 with _|⟨b,_|⟨c,_|⟨d,_|⟨_,_⟩⟩⟩⟩;all_goals first|exact .nil|exact .cons a (.cons b (.cons c (.cons d .nil)))
theorem j1g {vs:List V}{us:List Value}{zs:List V}{ws:List Value}(r1:Vals vs us)(r2:Vals zs ws):Vals (j5x vs zs) (j5x us ws):=by rcases r1 with _|⟨a,_|⟨_,_⟩⟩<;>rcases r2 with _|⟨b,_|⟨c,_|⟨_,_⟩⟩⟩;all_goals first|exact .nil|exact .cons a (.cons b (.cons c .nil))
section
variable {X:Cx}{pins:List (Addr×Obj)}{U:St}{H:Hp}{s:Shared}{a:Addr}{o:Obj}{u:HO}
theorem Inv.freeze (I:Inv X pins U H s)(hm:Mut (some u))(ha:H a=some u)(ho:s.heap.get? a=some o):Inv X pins U (upd H a (.frz o u)) s:=by
 have new:vg X.prog X.w (upd H a (.frz o u)) s.heap a (.frz o u):=by
  refine⟨ho,(I.hok a u ha).jrh (λ_ _ _ q=>q) (λc q=>?_) λc xs q=>?_⟩
  .have hc:c≠a:=λz=>by
    subst z;rw[ha]at q;cases q;exact hm
   rw[je hc];exact q
  .have hc:c≠a:=λz=>by
    subst z;rw[ha]at q;cases q;exact hm
   rw[je hc];exact q
 exact I.write (t':=s.toks) (x:=a) (e:=a) (o:=.frz o u) (h':=s.heap) (by rw[ha];exact hm) (.inl rfl) (λb v _ q=>q) ⟨o,ho⟩ new
theorem Inv.j8z (I:Inv X pins U H s)(ha:H a=some (.frz o u))(h0:∀o' u',X.H₀ a≠some (.frz o' u'))(hm:Mut (some u)):Inv X pins U (upd H a u) s:=by
 have ne:∀{b:Addr}{v:HO},H b=some v->(∀o' u',v≠.frz o' u')->b≠a:=λ{b v} e h z=>by subst z;rw[ha]at e;exact h _ _ (Option.some.inj e).symm
 have nen:∀{b:Addr},H b=none->b≠a:=λ{b} e z=>by subst z;rw[ha]at e;cases e
 refine⟨I.ok,I.os,I.bare,⟨I.base.keep,I.base.slot,λb ob e n hx=>?_,I.base.there,λb xs q=>?_,λb ob v q=>?_,λb ps q=>?_⟩,I.loc,I.cell,?_,λx c e=>?_,λp hp=>?_,λb v e=>?_,I.len⟩
 .have q:=I.base.free b ob e n hx;rw[je (nen q)];exact q
 .have q':=I.base.jtw b xs q;rw[je (ne q' λ_ _ z=>nomatch z)];exact q'
 .have hb:b≠a:=λz=>by
   subst z;exact h0 _ _ q
  rw[je hb];exact I.base.jsl b ob v q
 .obtain⟨more,z⟩:=I.base.ju0 b ps q;exact⟨more,by rw[je (ne z λ_ _ z=>nomatch z)];exact z⟩
 .rw[je (nen I.free)];exact I.free
 .rw[je (nen (I.jgs x c e))];exact I.jgs x c e
 .obtain⟨q1,q2,q3⟩:=I.pin p hp;exact⟨q1,by rw[je (nen q2)];exact q2,q3⟩
 .have own:∀(c y:Addr),H c=some (.own y)->upd H a u c=some (.own y):=λc y q=>by
   rw[je (ne q λ_ _ z=>nomatch z)];exact q
  have tup:∀(c:Addr)(xs:List V),H c=some (.tup xs)->upd H a u c=some (.tup xs):=λc xs q=>by rw[je (ne q λ_ _ z=>nomatch z)];exact q
  by_cases hb:b=a
  .subst hb;rw[ja]at e;cases e;obtain⟨_,q⟩:=I.hok _ _ ha;exact q.jrh (λ_ _ _ q=>q) (λc q=>own c _ q) tup
  .rw[je hb]at e;exact(I.hok b v e).jrh (λ_ _ _ q=>q) (λc q=>own c _ q) tup
noncomputable def j85 (H0:Hp)(t:TS):TS:=λD U H=>
 let un:(Hp->Prop)->Hp->Prop:=λQ H'=>∃a o u,H' a=some (.frz o u)/\(∀o' u',H0 a≠some (.frz o' u'))/\Mut (some u)/\Q (upd H' a u)
 t {nx:=λU' H'=>un (D.nx U') H',rt:=λv H'=>un (D.rt v) H',bk:=D.bk,ct:=D.ct} U H
theorem j5f {st:Stmt}{t:TS}(h:PS X st t):PS X st (j85 X.H₀ t):=by
 intro pins s U H D I q;refine thn (h pins s U H _ I q) λf s1 q1=>?_;cases f with
 |next=>obtain⟨U1,H1,I1,a,o,u,ha,h0,hm,q⟩:=q1;exact⟨U1,_,I1.j8z ha h0 hm,q⟩
 |ret v=>obtain⟨x,U1,H1,I1,r,a,o,u,ha,h0,hm,q⟩:=q1;exact⟨x,U1,_,I1.j8z ha h0 hm,r,q⟩
 |brk=>exact q1
 |cont=>exact q1
noncomputable def j7h (H0:Hp)(t:TE):TE:=λU H Q=>t U H λv H'=>∃a o u,H' a=some (.frz o u)/\(∀o' u',H0 a≠some (.frz o' u'))/\Mut (some u)/\Q v (upd H' a u)
theorem jv0 {e:Expr}{t:TE}(h:PE X e t):PE X e (j7h X.H₀ t):=by intro pins s U H Q I q;refine thn (h pins s U H _ I q) λv s1 zQ=>?_;obtain⟨x,H1,I1,r,a,o,u,ha,h0,hm,q⟩:=zQ;exact⟨x,_,I1.j8z ha h0 hm,r,q⟩
end
theorem j4o {k:Key}{v:Value}(h:jwb k v=true):RelV (kV k) v:=by
 rcases x8 h with⟨i,t,rfl,rfl⟩|⟨x,t,rfl,rfl⟩
 .exact⟨t,rfl⟩
 .exact⟨t,rfl⟩
noncomputable def Itd (a:Addr)(o:Obj)(kvs:List (Key×V)):It where
 go:=λi H=>i<kvs.length/\H a=some (.frz o (.dK kvs))
 yld:=λi H x H'=>H'=H/\∃kv,kvs[i]?=some kv/\x=kV kv.1
 stop:=λi H=>kvs.length<=i/\H a=some (.frz o (.dK kvs))
theorem jzg {kvs:List (Key×V)}{vs:List (Key×Value)}:∀{i:Nat}{kv:Key×V},KV kvs vs->kvs[i]?=some kv->∃v,vs[i]?=some (kv.1,v)/\RelV kv.2 v:=by
 intro i kv r;unfold KV at r;induction r generalizing i with
 |nil=>intro e;simp at e
 |@cons p q ps qs h t ih=>
  intro e;cases i with
  |zero=>have e':=Option.some.inj e;subst e';exact⟨q.2,by rw[h.1];rfl,h.2⟩
  |succ i=>exact ih e
theorem j30 {P:Program}{w:World}{K:PySem.W.Frag}{tg:Expr}(a it:Addr)(o:Obj)(kvs:List (Key×V))(es:Array DictEntry)(ep:Nat)(hd:o.data= .dict es ep):Turn P w K tg (Itd a o kvs) [it] it (λi h=>h.IsKeyIter it a i kvs.length ep) where
 mem:=by simp
 obj:=λi h st b hb=>by
  have e:b=it:=by simpa using hb
  subst e;obtain⟨o,e,c,d⟩:=st;exact⟨o,e,λv z=>by rw[d]at z;cases z⟩
 keep:=λi h h' st k=>st.at λo e=>k it (by simp) o e
 item:=by
  intro X hP hw hK hc i pins s U H E I hf st hg;subst hP hw hK;obtain⟨hi,hq⟩:=hg;obtain⟨ho,hz,hs,vs,r,o',es',ep',ho',hx',hd',r1,r2,r3⟩:=I.hok a _ hq;have eo:o'=o:=Option.some.inj (ho'.symm.trans ho);subst eo;have ee:ep'=ep:=by rw[hd]at hd';cases hd';rfl
  subst ee;have hlen:kvs.length=vs.length:=Paired.length r;have hm:s.heap.DictAt (zc X.prog X.w) a vs ep':=⟨o',es',ho,hx',hd',r1,r2,r3⟩;obtain⟨kv,ekv⟩:∃kv,kvs[i]?=some kv:=⟨kvs[i],by simp[hi]⟩;obtain⟨v,ev,rv⟩:=jzg r ekv;obtain⟨f0,f1,f2,f3,f4,f5⟩:=hf it (by simp);rw[hlen]at st;refine wpAny_pyNext_dict_item st hm ev λkey h' hk st' sb=>?_;have I1:Inv X pins U H {s with heap:=h'}:=I.turned (t':=s.toks) (λb o hb e=>(sb.2 b hb).trans e) f0 f1 f3 f4 f5;rw[<-hlen]at st';obtain⟨oi,ei,ci,di⟩:=id st';exact⟨key,rfl,jwn (s:={s with heap:=h'}) ei ci di (by decide) ⟨kV kv.1,H,I1,j4o hk,⟨rfl,kv,ekv,rfl⟩,st',λb hb=>(hf b hb).1⟩⟩
 done:=by
  intro X hP hw hK hc i pins s U H E I hf st hg;subst hP hw hK;obtain⟨hi,hq⟩:=hg;obtain⟨ho,hz,hs,vs,r,o',es',ep',ho',hx',hd',r1,r2,r3⟩:=I.hok a _ hq;have eo:o'=o:=Option.some.inj (ho'.symm.trans ho);subst eo;have ee:ep'=ep:=by rw[hd]at hd';cases hd';rfl
  subst ee;have hlen:kvs.length=vs.length:=Paired.length r;have hm:s.heap.DictAt (zc X.prog X.w) a vs ep':=⟨o',es',ho,hx',hd',r1,r2,r3⟩;obtain⟨f0,f1,f2,f3,f4,f5⟩:=hf it (by simp);rw[hlen]at st;exact wpAny_pyNext_dict_end (I.ok.hd hc) st hm (List.getElem?_eq_none_iff.mpr (by omega)) λh' eb=>⟨rfl,I.turned (t':=s.toks) (λb o hb e=>eb b o hb e) f0 f1 f3 f4 f5⟩
 self:=λ_ _ _ _ _ st h=>wpAny_pyIter_keyiter st h
noncomputable def iDk (tl:TE):TI:=λU H R=>tl U H λx H1=>∃a kvs,x= .ref a/\H1 a=some (.dK kvs)/\∀o,R (Itd a o kvs) (upd H1 a (.frz o (.dK kvs)))
theorem j82 {X:Cx}{tg l:Expr}{tl:TE}(hl:PE X l tl):PI X tg l (iDk tl):=by
 intro pins s U H R I h;refine thn (hl pins s U H _ I h) λv s1 zQ=>?_;obtain⟨x,H1,I1,r1,q1⟩:=zQ;obtain⟨a,kvs,e,hq,q⟩:=q1;subst e;cases r1;obtain⟨hz,hs,vs,r,o,es,ep,ho,hx,hd,r1,r2,r3⟩:=I1.hok a _ hq;have hlen:kvs.length=vs.length:=Paired.length r;have hm:s1.heap.DictAt (zc X.prog X.w) a vs ep:=⟨o,es,ho,hx,hd,r1,r2,r3⟩;refine wpAny_pyIter_dict hs hm ?_;have I2:=I1.freeze (show Mut (some (HO.dK kvs))from True.intro) hq ho;have hn:upd H1 a (.frz o (.dK kvs)) s1.heap.objs.size=none:=I2.hok.fresh (le_refl _);refine⟨s1.heap.objs.size,[s1.heap.objs.size],_,_,_,rfl,I2.kept (t':=s1.toks) λb o e=>Heap.get?_push_of_some _ e,j30 a _ o kvs es ep hd,?_,λb hb=>?_,q o⟩
 .rw[hlen];exact⟨_,Heap.get?_push_size _ rfl,rfl,rfl⟩
 .have e:b=s1.heap.objs.size:=by simpa using hb
  subst e;exact I2.j43 (le_refl _) hn
noncomputable def jg6 (v d:Addr):HO:=.ext λh=>h.IsValuesView v d
noncomputable def Itv (a:Addr)(o:Obj)(kvs:List (Key×V)):It where
 go:=λi H=>i<kvs.length/\H a=some (.frz o (.dK kvs))
 yld:=λi H x H'=>H'=H/\∃kv,kvs[i]?=some kv/\x=kv.2
 stop:=λi H=>kvs.length<=i/\H a=some (.frz o (.dK kvs))
section
variable {X:Cx}
theorem j0x:MtR X "dict.values" (λx xs H Q=>∃d kvs,x= .ref d/\xs=[]/\H d=some (.dK kvs)/\∀p,H p=none->Q (.ref p) (upd H p (jg6 p d))):=by intro pins s U H x xs v us Q I rx rs h;obtain⟨d,kvs,rfl,rfl,hq,q⟩:=h;cases rx;cases rs;obtain⟨hz,hs,vs,r,hd⟩:=I.hok d _ hq;refine call_meetsIn PySem.F.slot_dict_values hd.typeIs PySem.F.entry_dict_values (PySem.F.args_dict_values_1 _) (meets_dict_values (zc X.prog X.w) d hs) ⟨⟨vs,hd⟩,?_⟩;refine⟨.ref s.heap.objs.size,_,I.laid (t':=s.toks) (o:=jg6 s.heap.objs.size d) (λb ob q=>Heap.get?_push_of_some _ q) (le_refl _) ?_,rfl,q _ I.fresh⟩;refine⟨⟨_,Heap.get?_push_size _ rfl,rfl,rfl⟩,⟨_,Heap.get?_push_size _ rfl⟩,λh1 h2 p k=>?_⟩;obtain⟨o,e,c,d⟩:=p;exact⟨o,k o e,c,d⟩
end
theorem j5p {P:Program}{w:World}{K:PySem.W.Frag}{tg:Expr}(a it:Addr)(o:Obj)(kvs:List (Key×V))(es:Array DictEntry)(ep:Nat)(hd:o.data= .dict es ep):Turn P w K tg (Itv a o kvs) [it] it (λi h=>h.IsValIter it a i kvs.length ep) where
 mem:=by simp
 obj:=λi h st b hb=>by
  have e:b=it:=by simpa using hb
  subst e;obtain⟨o,e,c,d⟩:=st;exact⟨o,e,λv z=>by rw[d]at z;cases z⟩
 keep:=λi h h' st k=>st.at λo e=>k it (by simp) o e
 item:=by
  intro X hP hw hK hc i pins s U H E I hf st hg;subst hP hw hK;obtain⟨hi,hq⟩:=hg;obtain⟨ho,hz,hs,vs,r,o',es',ep',ho',hx',hd',r1,r2,r3⟩:=I.hok a _ hq;have eo:o'=o:=Option.some.inj (ho'.symm.trans ho);subst eo;have ee:ep'=ep:=by rw[hd]at hd';cases hd';rfl
  subst ee;have hlen:kvs.length=vs.length:=Paired.length r;have hm:s.heap.DictAt (zc X.prog X.w) a vs ep':=⟨o',es',ho,hx',hd',r1,r2,r3⟩;obtain⟨kv,ekv⟩:∃kv,kvs[i]?=some kv:=⟨kvs[i],by simp[hi]⟩;obtain⟨v,ev,rv⟩:=jzg r ekv;obtain⟨f0,f1,f2,f3,f4,f5⟩:=hf it (by simp);rw[hlen]at st;refine wpAny_pyNext_values_item st hm ev λh' st' sb=>?_;have I1:Inv X pins U H {s with heap:=h'}:=I.turned (t':=s.toks) (λb o hb e=>(sb.2 b hb).trans e) f0 f1 f3 f4 f5;rw[<-hlen]at st';obtain⟨oi,ei,ci,di⟩:=id st';exact⟨v,rfl,jwn (s:={s with heap:=h'}) ei ci di (by decide) ⟨kv.2,H,I1,rv,⟨rfl,kv,ekv,rfl⟩,st',λb hb=>(hf b hb).1⟩⟩
 done:=by
  intro X hP hw hK hc i pins s U H E I hf st hg;subst hP hw hK;obtain⟨hi,hq⟩:=hg;obtain⟨ho,hz,hs,vs,r,o',es',ep',ho',hx',hd',r1,r2,r3⟩:=I.hok a _ hq;have eo:o'=o:=Option.some.inj (ho'.symm.trans ho);subst eo;have ee:ep'=ep:=by rw[hd]at hd';cases hd';rfl
  subst ee;have hlen:kvs.length=vs.length:=Paired.length r;have hm:s.heap.DictAt (zc X.prog X.w) a vs ep':=⟨o',es',ho,hx',hd',r1,r2,r3⟩;obtain⟨f0,f1,f2,f3,f4,f5⟩:=hf it (by simp);rw[hlen]at st;exact wpAny_pyNext_values_end (I.ok.hd hc) st hm (List.getElem?_eq_none_iff.mpr (by omega)) λh' eb=>⟨rfl,I.turned (t':=s.toks) (λb o hb e=>eb b o hb e) f0 f1 f3 f4 f5⟩
 self:=λ_ _ _ _ _ st h=>wpAny_pyIter_valiter st h
noncomputable def iVk (tl:TE):TI:=λU H R=>tl U H λx H1=>∃v a kvs,x= .ref v/\H1 v=some (jg6 v a)/\H1 a=some (.dK kvs)/\∀o,R (Itv a o kvs) (upd H1 a (.frz o (.dK kvs)))
theorem j81 {X:Cx}{tg l:Expr}{tl:TE}(hl:PE X l tl):PI X tg l (iVk tl):=by
 intro pins s U H R I h;refine thn (hl pins s U H _ I h) λv s1 zQ=>?_;obtain⟨x,H1,I1,r1,q1⟩:=zQ;obtain⟨v,a,kvs,e,hv,hq,q⟩:=q1;subst e;cases r1;obtain⟨hz,hs,vs,r,o,es,ep,ho,hx,hd,r1,r2,r3⟩:=I1.hok a _ hq;have hlen:kvs.length=vs.length:=Paired.length r;have hm:s1.heap.DictAt (zc X.prog X.w) a vs ep:=⟨o,es,ho,hx,hd,r1,r2,r3⟩;obtain⟨hvv,_,_⟩:=(show vg X.prog X.w H1 s1.heap v (jg6 v a)from I1.hok v _ hv);refine wpAny_pyIter_values hvv hm ?_;have I2:=I1.freeze (show Mut (some (HO.dK kvs))from True.intro) hq ho;have hn:upd H1 a (.frz o (.dK kvs)) s1.heap.objs.size=none:=I2.hok.fresh (le_refl _);refine⟨s1.heap.objs.size,[s1.heap.objs.size],_,_,_,rfl,I2.kept (t':=s1.toks) λb o e=>Heap.get?_push_of_some _ e,j5p a _ o kvs es ep hd,?_,λb hb=>?_,q o⟩
 .rw[hlen];exact⟨_,Heap.get?_push_size _ rfl,rfl,rfl⟩
 .have e:b=s1.heap.objs.size:=by simpa using hb
  subst e;exact I2.j43 (le_refl _) hn
end L2
namespace L2
open PySem PySem.Spec PyProof.Rows PySem.W
section
variable {prog:Program}{w:World}{A:Around}{E:Value->Shared->Prop}{s:Shared}
theorem jxb {Q:Bool->Shared->Prop}:∀{vs us:List Value}{ns ms:List Int}(i:Nat),IntsAre vs ns->IntsAre us ms->Q (HT.lexLt ns ms) s->KatLex prog w A true (decide (ns.length<ms.length)) Q (vs.zip us) i s
 |[],[],[],[],_,_,_,q=>kat_nil (by simpa[HT.lexLt]using q)
 |[],_::_,[],_::_,_,_,_,q=>kat_nil (by simpa[HT.lexLt]using q)
 |_::_,[],_::_,[],_,_,_,q=>kat_nil (by simpa[HT.lexLt]using q)
 | _::vs,_::us,n::ns,m::ms,i,.cons _ t hv,.cons _ t' hu,q=>by
  rw[HT.jn9]at q;refine kat_cons (wpAny_eqBool_int (kat_go (λe=>?_) λe=>?_))
  .have e':n=m:=by simpa using e
   rw[if_pos e']at q;refine kat_yes ?_;show KatLex prog w A true _ Q (vs.zip us) (i+1) s;have h:=jxb (i+1) hv hu q;rw[show decide ((n::ns).length<(m::ms).length)=decide (ns.length<ms.length)by simp];exact h
  .have e':¬n=m:=by simpa using e
   rw[if_neg e']at q;refine kat_no ?_;cases i with
   |zero=>exact oneLt_int q
   |succ i=>exact kat_one _ _ (PyProof.Rows.lt_int q)
theorem j2w {a:Addr}{vs:List Value}{n:Nat}{R:PySem.Fin->Shared->Prop}{Good:Array Nat->Prop}(ho:s.heap.get? a=some (seqObj "list" vs.toArray n))(h64:vs.length<64)(ask:2<=vs.length->∀s':Shared,(∀b o,b≠a->s.heap.get? b=some o->s'.heap.get? b=some o)->wpAny (model prog w) A (keyKind' vs.toArray) (λ B s1=>s1=s'/\(kas_sort vs.length).kasWp (kas_ask prog w A B vs) (λp s2=>s2=s'/\Good p) s') (λ_ _=>False) s')(one:vs.length<2->R (.done (.ret .none)) {s with heap:=sortedHeap s.heap a vs vs.toArray})(more:∀p:Array Nat,p.size=vs.length->Good p->R (.done (.ret .none)) {s with heap:=sortedHeap s.heap a vs (List.toArray (p.toList.map λi=>vs.getD i Value.none))}):
  wpAny (model prog w) A (Builtin.«list.sort» ⟨[.ref a],[]⟩) R E s:=by
 have big:(64:Nat)<=sizeLine:=by decide
 obtain⟨e1,ho1⟩:∃e1,(s.heap.update a (Obj.mapSeq λ_=>#[])).get? a=some (seqObj "list" #[] e1):=⟨_,get?_update_seq ho (λ_=>#[])⟩;have la:a<(s.heap.update a (Obj.mapSeq λ_=>(#[]:Array Value))).objs.size:=Heap.lt_size ho1;have ho6:=Heap.get?_push_of_some (seqObj "list" #[] 0) (Heap.get?_push_of_some (seqObj "tuple" vs.toArray 0) ho1);have old:∀b o,b≠a->s.heap.get? b=some o->(((s.heap.update a (Obj.mapSeq λ_=>#[])).push (seqObj "tuple" vs.toArray 0)).push (seqObj "list" #[] 0)).get? b=some o:=λb o hb e=>Heap.get?_push_of_some _ (Heap.get?_push_of_some _ ((Heap.get?_update_ne _ _ _ _ hb).trans e));rw[list_sort_plain];refine wpAny_bind (listItems_at ho rfl (wpAny_bind (listUpdate_at ho rfl (wpAny_bind (seqEpoch_at ho1 rfl (wpAny_bind (wpAny_newTuple (wpAny_bind (wpAny_newList (wpAny_holding ?_) (zero_le _))) (by show vs.length<=_;omega))))) (by show vs.toArray.size<=_;simp;omega) (zero_le _))));by_cases h2:vs.length<2
 .have h2':vs.toArray.size<2:=by simpa using h2
  have e:((vs.toArray.zip vs.toArray).map λx:Value×Value=>x.2)=vs.toArray:=by apply Array.toList_inj.mp;simp;exact List.map_snd_zip (le_refl _)
  dsimp only;rw[if_pos h2',if_pos h2'];refine wpAny_bind (wpAny_pure ?_);rw[StateT.run_pure];refine wpAny_bind (wpAny_pure (wpAny_bind (seqEpoch_at ho6 rfl (wpAny_bind (listUpdate_at ho6 rfl ?_ (zero_le _) ?_)))))
  .simp only[bne_self_eq_false,Bool.false_eq_true,if_false];have q:=one h2;rw[<-e]at q;exact wpAny_pure q
  .show((vs.toArray.zip vs.toArray).map λx:Value×Value=>x.2).size<=_;rw[e];simp;omega
 .have h2':¬vs.toArray.size<2:=by simpa using h2
  dsimp only;rw[if_neg h2',if_neg h2'];refine wpAny_bind (wpAny_mono (ask (by omega) _ old) (λ B s1 hk=>?_) λ_ _ z=>z.elim);obtain⟨rfl,hk⟩:=hk;refine wpAny_bind (wpAny_mono (kat_run (ks:=vs) (vs:=vs) (Q:=λst' s2=>∃p:Array Nat,p.size=vs.length/\arrOf st'=p.map (kas_item (vs.toArray.zip vs.toArray))/\failedOf st'=none/\s2=_/\Good p) rfl (by omega) h64 (λp st' s2 a1 a2 a3 a4=>⟨p,a1,a2,a3,a4⟩) hk) ?_ λ_ _ z=>z)
  rintro⟨⟨⟩,st⟩ s2 ⟨p,hp,har,hf,rfl,good⟩
  have e:=kat_snds (ks:=vs) (vs:=vs) rfl har;dsimp only;rw[e];refine wpAny_bind (seqEpoch_at ho6 rfl (wpAny_bind (listUpdate_at ho6 rfl ?_ (zero_le _) ?_)))
  .rw[hf];simp only[bne_self_eq_false,Bool.false_eq_true,if_false];exact wpAny_pure (more p hp good)
  .rw[size_toArray,length_map,Array.length_toList,hp];omega
theorem jxt {l:Addr}{vs:List Value}{Q:Value->Shared->Prop}{Good:Array Nat->Prop}(hl:s.heap.IsList l vs.toArray)(h64:vs.length<64)(ask:2<=vs.length->∀s':Shared,(∀b o,s.heap.get? b=some o->s'.heap.get? b=some o)->wpAny (model prog w) A.in1.in1 (keyKind' vs.toArray) (λ B s1=>s1=s'/\(kas_sort vs.length).kasWp (kas_ask prog w A.in1.in1 B vs) (λp s2=>s2=s'/\Good p) s') (λ_ _=>False) s')(one:vs.length<2->Q (.ref (s.heap.objs.size+1)) {s with heap:=sortedAll s.heap vs vs.toArray})(more:∀p:Array Nat,p.size=vs.length->Good p->Q (.ref (s.heap.objs.size+1)) {s with heap:=sortedAll s.heap vs (List.toArray (p.toList.map λi=>vs.getD i Value.none))}):
  wpAny (model prog w) A (call (.builtin "sorted") [.ref l]) Q E s:=by
 have big:(64:Nat)<=sizeLine:=by decide
 have sz:((s.heap.push (seqObj "list" #[] 0)).update s.heap.objs.size (Obj.mapSeq (·++vs.toArray))).objs.size=s.heap.objs.size+1:=(Heap.size_update ..).trans (size_push' ..);have at1:(((s.heap.push (seqObj "list" #[] 0)).update s.heap.objs.size (Obj.mapSeq (·++vs.toArray))).push (seqObj "list" vs.toArray 0)).get? (s.heap.objs.size+1)=some (seqObj "list" vs.toArray 0):=sz ▸ Heap.get?_push_size _ rfl;have old:∀b o,s.heap.get? b=some o->(((s.heap.push (seqObj "list" #[] 0)).update s.heap.objs.size (Obj.mapSeq (·++vs.toArray))).push (seqObj "list" vs.toArray 0)).get? b=some o:=λb o e=>Heap.get?_push_of_some _ ((Heap.get?_update_ne _ _ _ _ (ne_of_lt (Heap.lt_size e))).trans (Heap.get?_push_of_some _ e));have body:=j2w (prog:=prog) (w:=w) (A:=A.in1.in1) (E:=E) (a:=s.heap.objs.size+1) (Good:=Good) (R:=λf s'=>f= .done (.ret .none)/\Q (.ref (s.heap.objs.size+1)) s') (s:={s with heap:=((s.heap.push (seqObj "list" #[] 0)).update s.heap.objs.size (Obj.mapSeq (·++vs.toArray))).push (seqObj "list" vs.toArray 0)}) at1 h64 (λh2 s' k=>ask h2 s' λb o e=>k b o (ne_of_lt (Nat.lt_succ_of_lt (Heap.lt_size e))) (old b o e)) (λh=>⟨rfl,one h⟩) (λp hp g=>⟨rfl,more p hp g⟩);refine Calls.call_function_entry kind_sorted plain_sorted entry_sorted (args_sorted1 _) ?_;show wpAny (model prog w) A.in1 (do checkCount "sorted" 1 1 _;_) _ _ s;refine wpAny_bind (m:=checkCount "sorted" 1 1 _) (wpAny_pure (wpAny_bind (collect_list hl (wpAny_bind (wpAny_newList ?_ (by omega))) (by omega))));show wpAny (model prog w) A.in1 _ _ E {s with heap:=((s.heap.push (seqObj "list" #[] 0)).update s.heap.objs.size (Obj.mapSeq (·++vs.toArray))).push (seqObj "list" vs.toArray 0)};rw[sz];exact wpAny_bind (wpAny_holding (wpAny_call_entry slot_list_sort ⟨_,at1,rfl⟩ entry_list_sort (wpAny_mono body (λf s' z=>⟨_,z.1,wpAny_pure ⟨_,rfl,z.2⟩⟩) λ_ _ z=>z) (args_list_sort _)))
end
theorem j08:∀{a b:List Int},a≠b->HT.lexLt a b=false->HT.lexLt b a=true
 |[],[],h,_=>absurd rfl h
 |[],_::_,_,h=>by cases h
 |_::_,[],_,_=>rfl
 |x::a,y::b,h,h'=>by
  rw[HT.jn9]at h'⊢;by_cases e:x=y
  .subst e;rw[if_pos rfl]at h'⊢;exact j08 (λz=>h (by rw[z])) h'
  .rw[if_neg e]at h';rw[if_neg (λz=>e z.symm)];have:=of_decide_eq_false h';exact decide_eq_true (by omega)
theorem j3b:∀{a b c:List Int},HT.lexLt a b=true->HT.lexLt b c=true->HT.lexLt a c=true
 |[],[],_,h,_=>by cases h
 |[],_::_,[],_,h=>by cases h
 |[],_::_,_::_,_,_=>rfl
 |_::_,[],_,h,_=>by cases h
 |_::_,_::_,[],_,h=>by cases h
 | x::a,y::b,z::c,h,h'=>by
  rw[HT.jn9]at h h'⊢;by_cases e:x=y
  .subst e;rw[if_pos rfl]at h;by_cases e2:x=z
   .rw[if_pos e2]at h'⊢;exact j3b h h'
   .rw[if_neg e2]at h'⊢;exact h'
  .rw[if_neg e]at h;have h1:=of_decide_eq_true h;by_cases e2:y=z
   .subst e2;rw[if_neg e];exact h
   .rw[if_neg e2]at h';have h2:=of_decide_eq_true h';rw[if_neg (by omega)];exact decide_eq_true (by omega)
theorem range_getD {α:Type}(d:α)(l:List α):(List.range l.length).map (λi=>l.getD i d)=l:=by
 apply List.ext_getElem
 .simp
 .intro i h1 h2;simp[h2]
section
variable {X:Cx}{pins:List (Addr×Obj)}{U:St}{H:Hp}{s:Shared}
theorem jms {α β:Type}{F:α->β->Prop}{d:α}{e:β}:∀{xs:List α}{ys:List β}{i:Nat},Paired F xs ys->i<xs.length->F (xs.getD i d) (ys.getD i e)
 |_,_,_,.nil,h=>absurd h (Nat.not_lt_zero _)
 |_,_,0,.cons h _,_=>h
 |_,_,i+1,.cons _ r,h=>jms (i:=i) r (by simpa using h)
theorem jlt {α β:Type}{F:α->β->Prop}{d:α}{e:β}{xs:List α}{ys:List β}(h:Paired F xs ys):∀{l:List Nat},(∀i∈l,i<xs.length)->Paired F (l.map λi=>xs.getD i d) (l.map λi=>ys.getD i e)
 |[],_=>.nil
 |i::l,q=>.cons (jms h (q i (by simp))) (jlt h λj hj=>q j (by simp[hj]))
noncomputable def jxq (K:PySem.W.Frag)(H:Hp)(vs:List V)(ts:List (List Int)):Prop:=Paired (λv t=>∃a,v= .ref a/\SqT K H a (t.map V.int)) vs ts
theorem qat:∀{h:Heap}{its:List Value}{ts:List (List Int)},Paired (λu t=>∃a xs,u=Value.ref a/\IsTup h a xs/\IntsAre xs.toList t) its ts->(∀t∈ts,t≠[])->∃fs,KatTups h its fs/\fs.length=its.length/\∀v∈fs,∃i k,v=Value.int i k:=λ{h its ts} q ne=>by
 induction q with
 |nil=>exact⟨[],KatTups.nil,rfl,λ_ z=>by cases z⟩
 | @cons _ t _ ts a r ih=>
  obtain⟨a,xs,e,⟨o,ho,hc,n,hd⟩,hi⟩:=a;subst e;obtain⟨fs,k,l,q⟩:=ih λz hz=>ne z (by simp[hz]);obtain⟨x,hx⟩:∃x r,xs.toList=x::r:=by
   cases hxs:xs.toList with
   |nil=>rw[hxs]at hi;cases hi;exact absurd rfl (ne [] (by simp))
   |cons x r=>exact⟨x,r,rfl⟩
  obtain⟨rr,hx⟩:=hx;have h0:xs[0]?=some x:=by rw[<-Array.getElem?_toList,hx];rfl
  rw[hx]at hi;refine⟨x::fs,KatTups.cons ho hc hd h0 k,by simp[l],λv hv=>?_⟩;rcases mem_cons.mp hv with rfl|hv
  .cases hi with|cons i k _=>exact⟨i,k,rfl⟩
  .exact q v hv
theorem jxs {α β γ:Type}{F:α->β->Prop}{G:α->γ->Prop}{L:β->γ->Prop}(h:∀v u t,F v u->G v t->L u t):∀{vs:List α}{us:List β}{ts:List γ},Paired F vs us->Paired G vs ts->Paired L us ts:=λ{vs us ts} p q=>by
 induction p generalizing ts with
 |nil=>cases q;exact .nil
 |cons a r ih=>
  cases q with
  |cons b s=>exact .cons (h _ _ _ a b) (ih s)
theorem jsu:∀{vs:List Value}{ns:List Int},IntsAre vs ns->vs.length=ns.length
 |_,_,.nil=>rfl
 |_,_,.cons _ _ r=>by rw[length_cons,length_cons,jsu r]
end
end L2
namespace L2
open PySem PySem.Spec PyProof.Rows
noncomputable def j0t (K:PySem.W.Frag)(H:Hp)(x:V)(ns:List Int):Prop:=∃a,x= .ref a/\SqT K H a (ns.map V.int)
noncomputable def isT (K:PySem.W.Frag)(H:Hp)(n:List Int)(u:Value):Bool:=@decide (∃a,u= .ref a/\SqT K H a (n.map V.int)) (Classical.propDecidable _)
theorem jwg {ns ms:List Int}(h:ns.map V.int=ms.map V.int):ns=ms:=by
 induction ns generalizing ms with
 |nil=>cases ms with
  |nil=>rfl
  |cons _ _=>cases h
 |cons n ns ih=>cases ms with
  |nil=>cases h
  |cons m ms=>rw[map_cons,map_cons]at h;injection h with h1 h2;injection h1 with h1;rw[h1,ih h2]
section
variable {X:Cx}{pins:List (Addr×Obj)}{U:St}{H:Hp}{s:Shared}
theorem jzn (I:Inv X pins U H s){x:V}{u:Value}{ns n:List Int}(h:j0t X.K H x ns)(r:RelV x u):isT X.K H n u=decide (ns=n):=by
 obtain⟨a,rfl,ha⟩:=h;cases r;unfold isT;by_cases e:ns=n
 .subst e;rw[decide_eq_true rfl];exact@decide_eq_true _ (Classical.propDecidable _) ⟨a,rfl,ha⟩
 .rw[decide_eq_false e];refine@decide_eq_false _ (Classical.propDecidable _) λzQ=>?_;obtain⟨b,z,hb⟩:=zQ;cases z;exact e (jwg (I.jqf ha hb))
theorem jqv (I:Inv X pins U H s){A:Around}(hu:A.units+60<cLine){x:V}{v:Value}{n:List Int}(hx:j0t X.K H x n)(rx:RelV x v):∀{xs:List V}{us:List Value}{nss:List (List Int)},Vals xs us->Paired (j0t X.K H) xs nss->∀u∈us,SeqAt.EqAt A s u v (isT X.K H n u):=λ{xs us nss} p q=>by
 induction p generalizing nss with
 |nil=>exact λu hu=>by cases hu
 | @cons y w xs us r t ih=>
  cases q with
  |@cons _ m _ nss h hs=>
   intro u hm;rcases mem_cons.mp hm with rfl|hm
   .rw[jzn I h r];obtain⟨a,rfl,ha⟩:=h;obtain⟨b,rfl,hb⟩:=hx;have q:=ju1 I 60 (.tup (m.map Dt.int)) (.tup (n.map Dt.int)) (.ref a) (.ref b) u v A (j1h _) hu (jvd ha) (jvd hb) r rx;rw[jxe]at q;exact q
   .exact ih hs u hm
theorem jxl (I:Inv X pins U H s){n:List Int}:∀{xs:List V}{us:List Value}{nss:List (List Int)},Vals xs us->Paired (j0t X.K H) xs nss->us.any (isT X.K H n)=decide (n∈nss):=λ{xs us nss} p q=>by
 induction p generalizing nss with
 |nil=>cases q;simp
 | @cons y w xs us r t ih=>
  cases q with
  |@cons _ m _ nss h hs=>
   rw[any_cons,jzn I h r,ih hs];by_cases e:m=n
   .subst e;simp
   .have e':¬n=m:=λz=>e z.symm;simp[e,e']
noncomputable def j98 (K:PySem.W.Frag)(neg:Bool):R2:=λx y H Q=>∃p xs n nss,y= .ref p/\SqL K H p xs/\j0t K H x n/\Paired (j0t K H) xs nss/\Q (.bl (if neg then !decide (n∈nss)else decide (n∈nss))) H
end
section
variable {X:Cx}
theorem j6z (hu:X.A.units+64<cLine):OpR X (compareOp .In) (j98 X.K false):=by
 intro pins s U H x y v u Q I rx ry h;obtain⟨p,xs,n,nss,rfl,hq,hx,hs,q⟩:=h;cases ry;obtain⟨its,r,pl,hz⟩:=I.list hq;refine SeqAt.in_listAt (isT X.K H n) pl.isList (λw hw=>jqv I ?_ hx rx r hs w (by simpa using hw)) ⟨.bl _,H,I,rfl,?_⟩
 .first|(have e:X.A.in1.units=X.A.units+1:=rfl;omega)|(have e:X.A.in1.units=X.A.units:=rfl;omega)|(have e:=Around.units_in1 X.A;omega)
 .rw[show its.toArray.any (isT X.K H n)=its.any (isT X.K H n)by simp,jxl I r hs];exact q
theorem jp1 (hu:X.A.units+64<cLine):OpR X (compareOp .NotIn) (j98 X.K true):=by
 intro pins s U H x y v u Q I rx ry h;obtain⟨p,xs,n,nss,rfl,hq,hx,hs,q⟩:=h;cases ry;obtain⟨its,r,pl,hz⟩:=I.list hq;refine SeqAt.notIn_listAt (isT X.K H n) pl.isList (λw hw=>jqv I ?_ hx rx r hs w (by simpa using hw)) ⟨.bl _,H,I,rfl,?_⟩
 .first|(have e:X.A.in1.units=X.A.units+1:=rfl;omega)|(have e:X.A.in1.units=X.A.units:=rfl;omega)|(have e:=Around.units_in1 X.A;omega)
 .rw[show its.toArray.any (isT X.K H n)=its.any (isT X.K H n)by simp,jxl I r hs];exact q
end
section
variable {X:Cx}{scope:Scope}{N':List Str}{ix:List (Option Nat)}{C:Addr}{fp:List Addr}{s₂:Shared}{H₂:Hp}{pins:List (Addr×Obj)}{U:St}
theorem jyl (I:Inv X pins U H₂ s₂)(hf:∀b∈fp,jvr X pins H₂ b){ps:List (Addr×Obj)}{U':St}{H':Hp}{s':Shared}(I':Inv (blk X scope N' C fp s₂ H₂) ps U' H' s'):Inv X pins U H' s':=I.j4p (ch:=fp) I'.os I'.base I'.hok I'.bare λb hb=>by obtain⟨_,f1,_,f3,f4,f5⟩:=hf b hb;exact⟨f3,f1,f4,f5⟩
end
section
variable {X:Cx}{pins:List (Addr×Obj)}{U:St}{H:Hp}{s:Shared}{a:Addr}{y v:V}{u r:Value}{A:Around}{E:Value->Shared->Prop}
theorem jzz {H':Hp}{Q:Unit->Shared->Prop}(hu:A.units<cLine)(I:Inv X pins U H s)(g:jys H a y v H')(ry:RelV y u)(rv:RelV v r)(h:∀s',Inv X pins U H' s'->Q () s'):wpAny (model X.prog X.w) A (dictSet a u r) Q E s:=by
 rcases g with⟨kvs,k,e,ey,l,eH⟩|⟨kvs,k,b,e,ey,eb,l,eH⟩
 .subst ey eH;obtain⟨z,hd,vs,rel,dd⟩:=j59 I.hok e;have hz:vs.length<=sizeLine:=by rw[<-rel.length];exact z
  have hl:(putK kvs k v).length<=sizeLine:=by have:=jei kvs k v;omega
  refine wpAny_dictSet_pairs (hsz:=hz) (jv4 ry) dd λh' dd' hs=>h _ ?_;have he:∃q,h'.get? a=some q:=let⟨q,_,_,hq,_⟩:=dd';⟨q,hq⟩;exact jpp I (by rw[e];exact True.intro) hs he (j3r hl hd (rel.put k rv) dd')
 .subst ey eH;cases(show u=Value.ref b from ry);obtain⟨z,hd,xs,rel,dd⟩:=j40 I.hok e;have hz:xs.length<=sizeLine:=by rw[<-Paired.length rel];exact z
  have hl:(putK kvs k v).length<=sizeLine:=by have:=jei kvs k v;omega
  refine wpAny_dictSet_heap (hsz:=hz) (knd:=tupleKind (zc X.prog X.w)) hu (jou I.hok eb) dd λh' dd' hs=>h _ ?_;obtain⟨q,es,ep,hq,h2,h3,h4,_,h5⟩:=dd';refine jpp I (by rw[e];exact True.intro) hs ⟨q,hq⟩ ⟨hl,hd,_,(rel.put k eb rv).keeps λc ys ec=>?_,q,es,ep,hq,h2,h3,h4,h5⟩;rw[je (jm0 ec e (λz=>nomatch z))];exact ec
end
section
variable {prog:Program}{w:World}{A:Around}{R:Result->Shared->Prop}{s:Shared}
theorem jyi {kx vx target iter:Expr}{ifs:List Expr}{scope:Scope}{pos:Pos}{it:Value}{D:Addr}{env:Env}(I:Nat->Shared->Prop)(turn:∀n s,I n s->wpAny (model prog w) A (pyNext it) (λr s₁=>match r with
   |none=>R (.ok .next) s₁
   |some v=>wpAny (model prog w) A (letOwnedTupleGo target it v) (λ_ s₁=>wpAny (model prog w) A (assign target env v) (λ_ s₂=>wpAny (model prog w) A (forIn ifs true λc r=>if r=true then do let ok<-isTrue c env (eval c env);pure (ForInStep.yield ok)else pure (ForInStep.yield r)) (λok s₃=>if ok=true then wpAny (model prog w) A (eval kx env) (λkv s₄=>wpAny (model prog w) A (eval vx env) (λvv s₅=>wpAny (model prog w) A (dictSet D kv vv) (λ_ s₆=>∃m,m<n/\I m s₆) NoE s₅) NoE s₄) NoE s₃
      else ∃m,m<n/\I m s₃) NoE s₂) NoE s₁) NoE s₁) NoE s)(n:Nat)(h:I n s):codeAny (model prog w) A (.compLoop (.DictComp kx vx [⟨target,iter,ifs,0⟩] scope pos) 0 it (.ref D) env) R s:=by
 refine codeAny_loop rfl I (λn s hI=>?_) n h;have no:∀{α:Type}{t:Sem α}{Q:α->Shared->Prop}{E:Value->Shared->Prop}{s:Shared},wpAny (model prog w) A t Q NoE s->wpAny (model prog w) A t Q E s:=λh=>wpAny_mono h (λ_ _ q=>q) λ_ _ z=>z.elim;show wpAny _ A ((compTurn (.DictComp kx vx [⟨target,iter,ifs,0⟩] scope pos) 0 it (.ref D) env).onRaise (λx=>do noteFrame x env;theTreesLotGoes x)) _ _ s;rw[compTurn_dict];refine wpAny_noted (wpAny_bind (wpAny_standAt (wpAny_bind (no (thn (turn n s hI) λr s₁ h₁=>?_)))));cases r with
 |none=>exact wpAny_pure h₁
 |some v=>
  refine wpAny_bind (no (thn h₁ λ_ s₁ h₁=>wpAny_bind (no (thn h₁ λ_ s₂ h₂=>wpAny_bind (no (thn h₂ λok s₃ h₃=>?_))))));cases ok with
  |false=>exact wpAny_pure ⟨rfl,h₃⟩
  |true=>refine wpAny_bind (wpAny_bind (no (thn h₃ λkv s₄ h₄=>wpAny_bind (wpAny_holding (no (thn h₄ λvv s₅ h₅=>?_))))));exact wpAny_bind (wpAny_standAt (wpAny_holding (no (thn h₅ λ_ s₆ h₆=>wpAny_pure ⟨rfl,h₆⟩))))
end
section
variable {X:Cx}{scope:Scope}{N':List Str}{ix:List (Option Nat)}{C:Addr}{fp:List Addr}{s₂:Shared}{H₂:Hp}{pins:List (Addr×Obj)}{U:St}
theorem jyv (I:Inv X pins U H₂ s₂)(co:jka X.N X.env.scope scope N' ix){h₁:Heap}{t':Nat}(hC:@Eq Nat C s₂.heap.objs.size)(hf:∀b∈fp,jvr X pins H₂ b)(hlt:∀b∈fp,b<s₂.heap.objs.size)(old:∀b o,s₂.heap.get? b=some o->h₁.get? b=some o){m:Str->Option Value}(hns:h₁.Ns C m):
  Inv (blk X scope N' C fp s₂ H₂) [] (jlz ix U) H₂ {s₂ with heap:=h₁,toks:=t'} where
 ok:=j29 I co (by omega) hf hlt
 os:=rfl
 bare:=I.bare
 base:=Un.kept old
 loc :=by
  refine⟨m,hns,λi x v e1 e2 e3=>?_⟩;unfold jlz at e2;rw[getElem?_map]at e2;cases q:ix[i]? with
  |none=>rw[q]at e2;cases e2
  | some o=>
   rw[q]at e2;cases o with
   |none=>cases e2
   | some k=>
    have e2':(U[k]?).join=some v:=Option.some.inj e2;have e2'':U[k]?=some (some v):=by
     cases z:U[k]? with
     |none=>rw[z]at e2';cases e2'
     |some o=>rw[z]at e2';exact congrArg some e2'
    obtain⟨o1,o2,o3⟩:=co.out i x k e1 q;have hk:X.env.kindOf x=some .cell\/X.env.kindOf x=some .free:=co.frees _ o2 rfl;obtain⟨m0,_,hl⟩:=I.loc;obtain⟨u,r,l⟩:=hl k x v o1 e2'' (.inr hk);refine⟨u,r,?_⟩;rcases l with⟨l,_⟩|⟨_,c,ec,hcell⟩
    .rcases hk with z|z
     .rw[z]at l;cases l
     .rw[z]at l;cases l
    .refine .inr ⟨?_,c,jth o2 ec,?_⟩
     .rcases e3 with z|z|z
      .obtain⟨k',hm,q⟩:=kn z;rcases q with q|⟨_,q⟩
       .have:=o3 _ hm rfl;rw[show k'=NameKind.local from q]at this;cases this
       .cases q
      .exact .inl z
      .exact .inr z
     .obtain⟨o,ho,hd⟩:=hcell;exact⟨o,old _ _ ho,hd⟩
 cell:=λx c e=>by obtain⟨v,o,ho,hd⟩:=I.cell x c (ja9 e);exact⟨v,o,old _ _ ho,hd⟩
 free:=I.hok.fresh (by show@LE.le Nat _ s₂.heap.objs.size C;omega)
 jgs:=λx c e=>I.jgs x c (ja9 e)
 pin:=λp hp=>by
  have hp':p∈([]:List (Addr×Obj)):=by simpa[blk]using hp
  cases hp'
 hok:=I.hok.kept old
 len:=by unfold jlz;rw[length_map];exact co.len
end
noncomputable def DcW (J:It)(g:TG)(ti:TT)(tk tv:TE)(D:Addr)(QF:Hp->Prop)(W:Nat->Nat->St->Hp->Prop):Prop:=∀i m U H,W i m U H->(J.stop i H/\QF H)\/(J.go i H/\∃N:St->Hp->Prop,(∀U' H',N U' H'->∃m',m'<m/\W (i+1) m' U' H')/\∀x H',J.yld i H x H'->g x U H' λU2 H2=>ti U2 H2 λb H3=>if b=true then tk U2 H3 λy H4=>tv U2 H4 λz H5=>∃H6,jys H5 D y z H6/\N U2 H6 else N U2 H3)
noncomputable def tDc (new:HO)(ix:List (Option Nat))(wi:TI)(g:TG)(ti:TT)(tk tv:TE):TE:=λU H Q=>wi U H λJ H1=>∀D,H1 D=none->∃W:Nat->Nat->St->Hp->Prop,(∃m,W 0 m (jlz ix U) (upd H1 D new))/\DcW J g ti tk tv D (λH=>Q (.ref D) H) W
section
variable {X:Cx}
theorem j2o {scope:Scope}{N':List Str}{ix:List (Option Nat)}{pins:List (Addr×Obj)}{U:St}{tg iter kx vx:Expr}{ifs:List Expr}{pos:Pos}{g:TG}{ti:TT}{tk tv:TE}{E:Value->Shared->Prop}{D:Addr}(co:jka X.N X.env.scope scope N' ix)(hc:X.calm=true)(hu:X.A.units<cLine)(hg:∀C fp s₂ H₂,PG (blk X scope N' C fp s₂ H₂) tg g)(hi:∀C fp s₂ H₂,PIf (blk X scope N' C fp s₂ H₂) ifs ti)(hk:∀C fp s₂ H₂,PE (blk X scope N' C fp s₂ H₂) kx tk)(hv:∀C fp s₂ H₂,PE (blk X scope N' C fp s₂ H₂) vx tv){H₂:Hp}{s₂:Shared}{J:It}{fp:List Addr}{it:Addr}{tn:Nat->Heap->Prop}{QF:Hp->Prop}{W:Nat->Nat->St->Hp->Prop}(I:Inv X pins U H₂ s₂)(T:Turn X.prog X.w X.K tg J fp it tn)(st:tn 0 s₂.heap)(hf:∀b∈fp,jvr X pins H₂ b)(w0:∃m,W 0 m (jlz ix U) H₂)(hW:DcW J g ti tk tv D QF W){RR:Addr->Result->Shared->Prop}(hRR:∀C H' s',Inv X pins U H' s'->QF H'->j7d X pins H' s' C->RR C (.ok .next) s'):
  wpAny (model X.prog X.w) X.A (newFunctionEnv scope X.env.globals (jx0 scope X.env) [] X.env.qual none .none (some X.env)) (λcenv s₄=>codeAny (model X.prog X.w) X.A (.compStart (.DictComp kx vx [⟨tg,iter,ifs,0⟩] scope pos) 0 (.ref it) (.ref D) {cenv with scope:=relabel scope X.env}) (RR cenv.locals) s₄) E s₂:=by
 have hlt:∀b∈fp,@LT.lt Nat _ b s₂.heap.objs.size:=λb hb=>by obtain⟨o,e,_⟩:=T.obj _ _ st b hb;exact Heap.lt_size e
 refine wpAny_newFunctionEnv co.jy4 (by intro y hy;simp at hy) (λh₁ hns₁ hsb₁=>?_) co.kind;have below:∀b:Nat,b<s₂.heap.objs.size->¬@Eq Nat b s₂.heap.objs.size:=λb hb=>by omega
 have old:∀b o,s₂.heap.get? b=some o->h₁.get? b=some o:=λb o e=>hsb₁.extBut b o (below b (Heap.lt_size e)) (Heap.get?_push_of_some _ e);have st₁:tn 0 h₁:=T.keep _ _ _ st λb _ o e=>old b o e;generalize hCe:s₂.heap.objs.size=C at hns₁ hsb₁ below⊢;have loop:∀s₃:Shared,s₃={s₂ with heap:=h₁,toks:=s₂.toks+([]:List (Str×Value)).length}->codeAny (model X.prog X.w) X.A (.compLoop (.DictComp kx vx [⟨tg,iter,ifs,0⟩] scope pos) 0 (.ref it) (.ref D) (compEnvC scope (jx0 scope X.env) C X.env)) (RR C) s₃:=by
  rintro s₃ rfl
  obtain⟨m0,w0⟩:=w0;have I3:Inv (blk X scope N' C fp s₂ H₂) [] (jlz ix U) H₂ {s₂ with heap:=h₁,toks:=s₂.toks+([]:List (Str×Value)).length}:=jyv I co hCe.symm hf hlt old hns₁;refine jyi (λk s'=>∃i U' H',Inv (blk X scope N' C fp s₂ H₂) [] U' H' s'/\tn i s'.heap/\(∀b∈fp,H' b=none)/\W i k U' H') ?_ m0 ⟨0,_,_,I3,st₁,λb hb=>(hf b hb).1,w0⟩
  rintro k s' ⟨i,U',H',I',st',fr',w'⟩
  have fpok:∀{H':Hp},(∀b∈fp,H' b=none)->∀b∈fp,jvr (blk X scope N' C fp s₂ H₂) [] H' b:=λ{H'} hn b hb=>by
   refine⟨hn b hb,below b (hCe ▸ hlt b hb),λz=>?_,.inl hb,λx c e=>(hf b hb).2.2.2.2.1 x c (ja9 e),λp hp=>?_⟩
   .rcases mem_cons.mp (I.jqw b z)with e|e
    .exact(hf b hb).2.1 e
    .exact(hf b hb).2.2.1 e
   .have hp':p∈([]:List (Addr×Obj)):=by simpa[blk]using hp
    cases hp'
  rcases hW i k U' H' w' with⟨stop,q⟩|⟨go,N,hN,step⟩
  .refine thn (T.done (blk X scope N' C fp s₂ H₂) rfl rfl rfl hc i _ s' U' H' NoE I' (fpok fr') st' stop) λr s4 ⟨hr,I4⟩=>?_;subst hr;have cf:H' C=none:=I4.free;refine hRR C H' s4 (jyl I hf I4) q ⟨?_,cf,?_,?_,λx c e=>?_,λp hp=>?_⟩
   .obtain⟨m,hn,_⟩:=I4.loc;exact⟨m,hn⟩
   .have z:@LT.lt Nat _ X.env.locals s₂.heap.objs.size:=I.lt;show¬@Eq Nat C X.env.locals;omega
   .have z:@LE.le Nat _ X.s₀.heap.objs.size s₂.heap.objs.size:=I.sz;show@LE.le Nat _ X.s₀.heap.objs.size C;omega
   .obtain⟨v,z⟩:=I.cell x c e;have z2:@LT.lt Nat _ c s₂.heap.objs.size:=z.lt;show¬@Eq Nat c C;omega
   .have z2:@LT.lt Nat _ p.1 s₂.heap.objs.size:=Heap.lt_size (I.pin p hp).1;show¬@Eq Nat p.1 C;omega
  .refine thn (T.item (blk X scope N' C fp s₂ H₂) rfl rfl rfl hc i _ s' U' H' NoE I' (fpok fr') st' go) λr s4 zQ=>?_;obtain⟨u,hr,h4⟩:=zQ;subst hr;refine thn h4 λ_ s5 zQ=>?_;obtain⟨x,H5,I5,r5,y5,st5,fr5⟩:=zQ;have I5':=I5.pinned (fpok fr5) (T.obj _ _ st5);refine thn (hg C fp s₂ H₂ _ s5 U' H5 x u _ I5' r5 (step x H5 y5)) λ_ s6 zQ=>?_;obtain⟨σ6,H6,I6,q6⟩:=zQ;refine thn (hi C fp s₂ H₂ _ s6 σ6 H6 _ I6 q6) λok s7 zQ=>?_;obtain⟨H7,I7,q7⟩:=zQ;have back:∀{U8:St}{H8:Hp}{s8:Shared},Inv (blk X scope N' C fp s₂ H₂) ([]++jl3 fp s5.heap) U8 H8 s8->N U8 H8->∃m',m'<k/\∃i U' H',Inv (blk X scope N' C fp s₂ H₂) [] U' H' s8/\tn i s8.heap/\(∀b∈fp,H' b=none)/\W i m' U' H':=λ{U8 H8 s8} I8 n8=>by
    obtain⟨m',hm,w8⟩:=hN _ _ n8;have fpin:∀b∈fp,∀o,s5.heap.get? b=some o->s8.heap.get? b=some o/\H8 b=none:=λb hb o e=>by have z:=I8.pin (b,o) (mem_append_right _ (mem_append_right _ (jjj hb e)));exact⟨z.1,z.2.1⟩
    refine⟨m',hm,i+1,U8,H8,I8.jl2,T.keep _ _ _ st5 λb hb o e=>(fpin b hb o e).1,λb hb=>?_,w8⟩;obtain⟨o,e,_⟩:=T.obj _ _ st5 b hb;exact(fpin b hb o e).2
   cases ok with
   |false=>have q7':=q7;rw[if_neg Bool.false_ne_true]at q7';exact back I7 q7'
   |true=>have q7':=q7;rw[if_pos rfl]at q7';show wpAny _ _ _ _ _ _;refine thn (hk C fp s₂ H₂ _ s7 σ6 H7 _ I7 q7') λkv s8 zQ=>?_;obtain⟨y,H8,I8,r8,q8⟩:=zQ;refine thn (hv C fp s₂ H₂ _ s8 σ6 H8 _ I8 q8) λvv s9 zQ=>?_;obtain⟨z,H9,I9,r9,H10,dp,q9⟩:=zQ;exact jzz (X:=blk X scope N' C fp s₂ H₂) (A:=X.A) hu I9 dp r8 r9 λs10 I10=>back I10 q9
 exact codeAny_compStart_dict (loop _ rfl) (T.self _ 0 _ _ _ st₁ (loop _ rfl))
variable {scope:Scope}{N':List Str}{ix:List (Option Nat)}{tg iter kx vx:Expr}{ifs:List Expr}{pos:Pos}{wi:TI}{g:TG}{ti:TT}{tk tv:TE}
theorem j11 (new:HO)(hnew:new= .dK []\/new= .dT [])(hu:X.A.units+1<cLine)(co:jka X.N X.env.scope scope N' ix)(hc:X.calm=true)(hit:PI X tg iter wi)(hg:∀C fp s₂ H₂,PG (blk X scope N' C fp s₂ H₂) tg g)(hi:∀C fp s₂ H₂,PIf (blk X scope N' C fp s₂ H₂) ifs ti)(hk:∀C fp s₂ H₂,PE (blk X scope N' C fp s₂ H₂) kx tk)(hv:∀C fp s₂ H₂,PE (blk X scope N' C fp s₂ H₂) vx tv)(hs:autoParam (∀x,foldedSetIterable iter X.env x=pure x) aP3):
  PE X (.DictComp kx vx [⟨tg,iter,ifs,0⟩] scope pos) (tDc new ix wi g ti tk tv):=by
 intro pins s U H Q I h;show wpAny _ _ (comprehension (.DictComp kx vx [⟨tg,iter,ifs,0⟩] scope pos) scope X.env _ newDict false (eval iter X.env)) _ _ s;refine wpAny_comprehension_free (use:=none) rfl hs (jq7 co I) co.kind co.names (thn (hit pins s U H _ I h) λxv s₁ h₁=>thn h₁ λitv s₂ h₂=>?_);obtain⟨it,fp,tn,J,H₂,e,I₂,T,st,hf,hq⟩:=h₂;subst e;refine wpAny_newObj_type ?_;have hn:H₂ s₂.heap.objs.size=none:=I₂.hok.fresh (le_refl _);have hob:vg X.prog X.w (upd H₂ s₂.heap.objs.size new) (s₂.heap.push {cls:=.type "dict",dict:=none,data:=.dict #[]}) s₂.heap.objs.size new:=by
  rcases hnew with z|z
  .rw[z];exact jxd s₂.heap I₂.big
  .rw[z];exact jxg s₂.heap I₂.big
 have I₃:Inv X pins U (upd H₂ s₂.heap.objs.size new) {s₂ with heap:=s₂.heap.push {cls:=.type "dict",dict:=none,data:=.dict #[]}}:=I₂.laid (a:=s₂.heap.objs.size) (o:=new) (t':=s₂.toks) (λ_ _ q=>Heap.get?_push_of_some _ q) (le_refl _) hob;obtain⟨W,w0,hW⟩:=hq s₂.heap.objs.size hn;have hf':∀b∈fp,jvr X pins (upd H₂ s₂.heap.objs.size new) b:=λb hb=>by obtain⟨f0,f⟩:=hf b hb;obtain⟨o,e,_⟩:=T.obj _ _ st b hb;exact⟨by rw[je (ne_of_lt (Heap.lt_size e))];exact f0,f⟩
 refine j2o co hc (Nat.lt_of_succ_lt hu) hg hi hk hv I₃ T (T.keep _ _ _ st λb _ o e=>Heap.get?_push_of_some _ e) hf' w0 hW (RR:=λC=>compPost (model X.prog X.w) X.A X.xe none (EP X pins U Q) (.ref s₂.heap.objs.size) C) λC H' s' I' q G=>?_;obtain⟨m,hn⟩:=G.ns;exact⟨m,hn,λh' hs'=>⟨.ref s₂.heap.objs.size,_,G.go I' hs',rfl,q⟩⟩
end
theorem jr4 (bt:Nat->Nat->Bool):∀k,argBest bt k<=k
 |0=>le_refl _
 |k+1=>by have:=jr4 bt k;unfold argBest;split<;>omega
theorem jqp:∀{vs:List Value}{ns:List Int},IntsAre vs ns->Vals (ns.map V.int) vs
 |_,_,.nil=>.nil
 |_,_,.cons n t r=>.cons ⟨t,rfl⟩ (jqp r)
section
variable {X:Cx}
theorem jtz:jmo X (.builtin "sorted") (λxs H Q=>∃(p:Addr)(ns:List Int),xs=[.ref p]/\SqL X.K H p (ns.map V.int)/\ns.length<64/\∀(q:Addr)(ns':List Int),H q=none->ns'.Perm ns->ns'.Pairwise (·<=·)->Q (.ref q) (upd H q (.lst (ns'.map V.int)))):=by
 intro pins s U H xs us Q I r h;obtain⟨p,ns,rfl,hq,h64,q⟩:=h;obtain⟨u,rfl,rx⟩:=vals1 r;cases rx;obtain⟨its,r',pl,hz⟩:=I.list hq;have hlen:ns.length=its.length:=by have:=r'.length;rw[length_map]at this;exact this
 refine sorted_ints pl.isList (intsAre_of r') (by omega) λout ns' a1 a2 a3=>?_;obtain⟨e,he⟩:=sortedAll_at s.heap its out;have hn:H (s.heap.objs.size+1)=none:=I.hok.fresh (le_succ _);refine⟨.ref (s.heap.objs.size+1),_,I.laid (a:=s.heap.objs.size+1) (o:=.lst (ns'.map V.int)) (t':=s.toks) (λb o z=>sortedAll_old z) (le_succ _) ⟨?_,out.toList,e,jqp a1,he⟩,rfl,q _ ns' hn a2 a3⟩;rw[length_map,a2.length_eq];exact le_trans (le_of_lt h64) (by rw[sizeLine_eq];omega)
end
section
variable {X:Cx}{K:PySem.W.Frag}
theorem j5r {es:List Expr}{k:Nat}{pos:Pos}{t:TGs}(hK:X.K=K)(hc:X.calm=true)(n:Nat)(h:PGs X es t)(hn:(assignEach es X.env).length=n)(hst:(assignEach es X.env).findIdx? (·.1)=none):PG X (.Tuple es k pos) (j9q K n t):=by subst hK;exact jkl hc h hn hst
theorem jir (hK:X.K=K):IxR X (j72 K):=by subst hK;exact jdm
end
end L2
namespace PySem
section
variable {prog:Program}{w:World}{K:Type}[DecidableEq K]{knd:HeapKind prog w K}{A:Around}{E:Value->Shared->Prop}{s:Shared}
theorem j9l {h:Heap}{d a:Addr}{xs:List (K×Addr×Value)}{k:K}{v:Value}{o:Obj}{es:Array DictEntry}{ep:Nat}(ho:h.get? d=some o)(hc:o.ExactDict)(hd:o.data= .dict es ep)(he:es.toList=xs.map (entryOfKey knd))(his:∀x∈xs,knd.is h x.1 x.2.1)(hn:(xs.map (·.1)).Nodup)(hkey:knd.is h k a)(hnot:k∉xs.map (·.1)):(h.update d (Obj.mapDictKeys (·.push ⟨knd.hash k,.ref a,v⟩))).DictOfH knd d (xs++[(k,a,v)]):=by
 refine⟨_,_,ep+1,Heap.get?_update_self _ ho (Obj.isFreed_of_dict (Obj.data_mapDictKeys hd _)),hc.mapDictKeys _,Obj.data_mapDictKeys hd _,by simp[he,entryOfKey],λx hx=>?_,?_⟩
 .have old:knd.is h x.1 x.2.1:=(mem_append.mp hx).elim (his x) λz=>by
   rw[mem_singleton.mp z];exact hkey
  exact knd.keeps old ho hd (Heap.SameBut.update ..)
 .have p:((xs++[(k,a,v)]).map (·.1)).Perm (k::xs.map (·.1)):=by
   rw[map_append];exact List.perm_append_comm
  exact p.nodup_iff.mpr (nodup_cons.mpr ⟨hnot,hn⟩)
theorem j31 {d a:Addr}{xs:List (K×Addr×Value)}{k:K}{dflt:Value}{Q:Value->Shared->Prop}(hu:knd.room A)(hkey:knd.is s.heap k a)(hm:s.heap.DictOfH knd d xs)(hsz:xs.length<=sizeLine)(h1:∀p,atKey xs k=some p->Q p.2 {s with toks:=s.toks+knd.draws k})(h2:atKey xs k=none->∀h',h'.DictOfH knd d (xs++[(k,a,dflt)])->Heap.SameBut d s.heap h'->Q dflt {s with heap:=h',toks:=s.toks+knd.draws k}):
  wpAny (model prog w) A (dictSetDefault d (.ref a) dflt) Q E s:=by
 obtain⟨o,es,ep,ho,hc,hd,he,his,hn⟩:=hm;have sz:es.size=xs.length:=by have:=congrArg List.length he;simpa using this
 unfold dictSetDefault;refine wpAny_holding (wpAny_bind (knd.pyHash hu hkey (wpAny_bind (wpAny_dictFind_heap (s:={s with toks:=s.toks+knd.draws k}) hu hkey ho hd he his hn (λhno=>?_) (λj p hj=>?_)))))
 .refine wpAny_bind (wpAny_rule (wpAny_bind (wpAny_updateDictKeys (hz:=by omega) (s:={s with toks:=s.toks+knd.draws k}) ho hd (wpAny_pure (h2 (atKey_none_of_get hno) _ (j9l ho hc hd he his hn hkey (not_mem_keys_of_get hno)) (Heap.SameBut.update ..))))))
 .refine wpAny_bind (wpAny_dictEntries (s:={s with toks:=s.toks+knd.draws k}) ho hd ?_);rw[entry_at he j,hj];exact wpAny_bind (wpAny_rule (wpAny_pure (h1 _ (atKey_of_get hn hj))))
theorem jnx (knd:HeapKind prog w K)(d a:Addr)(hd:(d==sysModules)=false)(dflt:Value):MeetsIn prog w (Builtin.«dict.setdefault» ⟨[.ref d,.ref a,dflt],[]⟩) (λA R s=>knd.room A.in1/\∃k xs,knd.is s.heap k a/\s.heap.DictOfH knd d xs/\xs.length<=sizeLine/\(∀p,atKey xs k=some p->R (.ok (.ret p.2)) {s with toks:=s.toks+knd.draws k})/\(atKey xs k=none->∀h',h'.DictOfH knd d (xs++[(k,a,dflt)])->Heap.SameBut d s.heap h'->R (.ok (.ret dflt)) {s with heap:=h',toks:=s.toks+knd.draws k})):=
 .of_wp λA R s ⟨hu,k,xs,hkey,hm,hz,h1,h2⟩=>by have run:=j31 (prog:=prog) (w:=w) (E:=λe s'=>R (.error e) s') (Q:=λv s'=>R (.ok (.ret v)) s') hu hkey hm hz h1 h2;unfold Builtin.«dict.setdefault» Builtin.Dict.keyAndDefault;refine wpAny_bind (wpAny_bind (wpAny_notOrdered_dict hm.typeIs ?_));show wpAny _ _ (pure (d,Value.ref a,some dflt)) _ _ s;refine wpAny_pure ?_;show wpAny _ _ (if(d==sysModules)=true then _ else(dictSetDefault d (.ref a) dflt >>= _)) _ _ s;rw[if_neg (by rw[hd];exact Bool.false_ne_true)];exact wpAny_bind (wpAny_mono run (λv s' q=>wpAny_pure ⟨v,rfl,q⟩) λ_ _ z=>z)
end
end PySem
namespace L2
open PySem PySem.Spec PyProof.Rows
noncomputable def j1w (td ty tx:TE):TE:=λU H Q=>td U H λx H1=>∃a,x= .ref a/\IsD H1 a/\ty U H1 λy H2=>tx U H2 λz H3=>∃kvs k b,H3 a=some (.dT kvs)/\y= .ref b/\H3 b=some (.tup (k.map kV))/\kvs.length<sizeLine/\(∀v,jc2 kvs k=some v->Q v H3)/\(jc2 kvs k=none->Q z (upd H3 a (.dT (putK kvs k z))))
section
variable {X:Cx}{o e f:Expr}{apos cpos:Pos}{td ty tx:TE}
theorem jyp (hu:X.A.units+1<cLine)(ho:PE X o td)(he:PE X e ty)(hf:PE X f tx)(m:M2 X o "setdefault" apos e f cpos):PE X (.Call (.Attribute o "setdefault" apos) [e,f] [] cpos) (j1w td ty tx):=by
 intro pins s U H Q I h;refine wpAny_Call_method m.base m.few m.line PySem.F.plainAttrs_dict PySem.F.slot_dict_setdefault PySem.F.type_dict_setdefault (thn (ho pins s U H _ I h) λu s1 zQ=>?_);obtain⟨x,H1,I1,rx,a,ex,d,q1⟩:=zQ;subst ex;obtain rfl:u=Value.ref a:=rx;obtain⟨t1,t2,_⟩:=j3i I1 d;refine⟨t1,t2,?_⟩;rw[m.trees];refine Calls.callWith_builtin rfl (Calls.evalArgs_plain (Calls.spliced_cons (thn (he pins s1 U H1 _ I1 q1) λiv s2 ⟨y,H2,I2,ry,q2⟩=>Calls.spliced_cons (thn (hf pins s2 U H2 _ I2 q2) λfv s3 ⟨z,H3,I3,rz,kvs,k,b,ea,ey,eb,hl,g1,g2⟩=>Calls.spliced_nil ?_))));subst ey;cases(show iv=Value.ref b from ry);obtain⟨hz,hd,xs,rel,dd⟩:=j40 I3.hok ea;have hz':xs.length<=sizeLine:=by rw[<-Paired.length rel];exact hz
 refine call_meetsIn PySem.F.slot_dict_setdefault dd.typeIs PySem.F.entry_dict_setdefault (PySem.F.args_dict_setdefault_3 _ _ _) (jnx (tupleKind (zc X.prog X.w)) a b hd fv) ⟨tupleKind_room_in1 hu,k,xs,jou I3.hok eb,dd,hz',λp hp=>?_,λhn h' dd' hs=>?_⟩
 .have rv:=rel.val k;rw[hp]at rv;cases hv:jc2 kvs k with
  |none=>rw[hv]at rv;cases rv
  |some v=>rw[hv]at rv;exact⟨v,H3,I3.tok _,rv,g1 v hv⟩
 .have rv:=rel.val k;rw[hn]at rv;have hv:jc2 kvs k=none:=by
   cases hv:jc2 kvs k with
   |none=>rfl
   |some v=>rw[hv]at rv;cases rv
  have hl2:(putK kvs k z).length<=sizeLine:=by have:=jei kvs k z;omega
  have rel':=rel.put k eb rz;rw[storedH_new hn]at rel';obtain⟨q,es,ep,hq,h2,h3,h4,_,h5⟩:=dd';refine⟨z,_,jpp (ob:=.dT (putK kvs k z)) I3 (by rw[ea];exact True.intro) hs ⟨q,hq⟩ ⟨hl2,hd,_,rel'.keeps λc ys ec=>?_,q,es,ep,hq,h2,h3,h4,h5⟩,rz,g2 hv⟩;rw[je (jm0 ec ea (λz=>nomatch z))];exact ec
end
end L2
namespace PySem
section
variable {prog:Program}{w:World}{A:Around}{E:Value->Shared->Prop}{s:Shared}
theorem j1s {it d:Addr}{i ep:Nat}{es:Array DictEntry}{od:Obj}{Q:Option Value->Shared->Prop}(hit:s.heap.IsKeyIter it d i es.size ep)(hod:s.heap.get? d=some od)(hdd:od.data= .dict es ep)(hlt:i<es.size)(hQ:∀h',h'.IsKeyIter it d (i+1) es.size ep->Heap.SameBut it s.heap h'->Q (some es[i].key) {s with heap:=h'}):wpAny (model prog w) A (pyNext (.ref it)) Q E s:=by
 obtain⟨o,ho,hc,hd⟩:=id hit;have hT:=hit.typeIs;unfold pyNext;refine wpAny_bind (wpAny_attempt ?_);refine wpAny_callSpecial?_slot hT F.slot_dict_keyiterator_next ?_;refine wpAny_call_entry F.slot_dict_keyiterator_next hT F.entry_dict_keyiterator_next ?_ (F.args_dict_keyiterator_next_1 _);unfold Builtin.«dict_keyiterator.__next__»;wp_walk using wpAny_typeNameOfWhole_keyiter hT,wpAny_fieldsOf ho hd,wpAny_dictEntries hod hdd,wpAny_dictEpoch hod hdd,wpAny_isOneOf_keyiter hT;rw[if_neg (show¬(i:Int)<0 by omega),Int.toNat_natCast,Array.getElem?_eq_getElem hlt];have hown:Builtin.Dict_items.ownsTuple "dict_keyiterator"=false:=by decide
 have hit':(s.heap.update it (Obj.mapFields (·.setIfInBounds 1 (rawInt ((i:Int)+1))))).IsKeyIter it d (i+1) es.size ep:=⟨_,Heap.get?_update_self _ ho (Obj.isFreed_of_fields (Obj.data_mapFields hd _)),(Obj.cls_mapFields ..).trans hc,by rw[Obj.data_mapFields hd];simp[rawInt]⟩;refine wpAny_bind ?_;wp_walk using wpAny_typeNameOfWhole_keyiter hT;rw[hd];show wpAny _ _ (update it (Obj.mapFields (·.setIfInBounds 1 (rawInt ((i:Int)+1))))) _ _ s;refine wpAny_update ho (wpAny_bind (wpAny_holding ?_));wp_walk using wpAny_isOneOf_keyiter (s:={s with heap:=s.heap.update it (Obj.mapFields (·.setIfInBounds 1 (rawInt ((i:Int)+1))))}) hit'.typeIs;exact⟨_,rfl,wpAny_pure (hQ _ hit' (Heap.SameBut.update ..))⟩
theorem jvb {it d:Addr}{i ep:Nat}{es:Array DictEntry}{od:Obj}{Q:Option Value->Shared->Prop}(hh:A.handled=none)(hit:s.heap.IsKeyIter it d i es.size ep)(hod:s.heap.get? d=some od)(hdd:od.data= .dict es ep)(hge:es.size<=i)(hQ:∀h',Heap.ExtBut it s.heap h'->Q none {s with heap:=h'}):wpAny (model prog w) A (pyNext (.ref it)) Q E s:=by
  obtain⟨o,ho,hc,hd⟩:=id hit;have hT:=hit.typeIs;unfold pyNext;refine wpAny_bind (wpAny_attempt ?_);refine wpAny_callSpecial?_slot hT F.slot_dict_keyiterator_next ?_;refine wpAny_call_entry F.slot_dict_keyiterator_next hT F.entry_dict_keyiterator_next ?_ (F.args_dict_keyiterator_next_1 _);unfold Builtin.«dict_keyiterator.__next__»;wp_walk using wpAny_typeNameOfWhole_keyiter hT,wpAny_fieldsOf ho hd,wpAny_dictEntries hod hdd,wpAny_dictEpoch hod hdd,wpAny_isOneOf_keyiter hT;rw[if_neg (show¬(i:Int)<0 by omega),Int.toNat_natCast,Array.getElem?_eq_none hge];wp_walk using wpAny_typeNameOfWhole_keyiter hT;rw[hd];show wpAny _ _ (update it (Obj.mapFields (·.setIfInBounds 0 .none))) _ _ s;refine wpAny_update ho ?_;unfold newExc raiseNew newTuple firstArgMember;wp_walk using wpAny_newObj_type;all_goals first
    | (show wpAny _ _ (isSubtype (.type "StopIteration") (.type "StopIteration")) _ _ _
       rw[isSubtype_stop];exact wpAny_pure (wpAny_pure (hQ _ (((Heap.SameBut.update ..).extBut.push _).push _))))
    |(unfold autoParam;size_fits)
    |size_fits
theorem j1q {d:Addr}{es:Array DictEntry}{ep:Nat}{od:Obj}{Q:Value->Shared->Prop}(hd:(d==sysModules)=false)(hod:s.heap.get? d=some od)(hx:od.ExactDict)(hdd:od.data= .dict es ep)(hQ:Q (.ref s.heap.objs.size) {s with heap:=s.heap.push {cls:=.type "dict_keyiterator",data:=.fields #[.ref d,.int 0 0,.int es.size 0,.int ep 0]}}):wpAny (model prog w) A (pyIter (.ref d)) Q E s:=by
 have hT:s.TypeIs (.ref d) "dict":=⟨od,hod,hx.1⟩;have run:wpAny (model prog w) A.in1 (Builtin.«dict.__iter__» ⟨[.ref d],[]⟩) (λfin s'=>fin= .done (.ret (.ref s.heap.objs.size))/\s'={s with heap:=s.heap.push {cls:=.type "dict_keyiterator",data:=.fields #[.ref d,.int 0 0,.int es.size 0,.int ep 0]}}) E s:=by unfold Builtin.«dict.__iter__» Builtin.Dict.dictSlotNone Builtin.Dict.showsAll;wp_walk using wpAny_notOrdered_dict hT,wpAny_dictEntries hod hdd,wpAny_dictEpoch hod hdd;exact⟨rfl,rfl⟩
 refine wpAny_pyIter_slot hT F.slot_dict_iter (wpAny_call_entry F.slot_dict_iter hT F.entry_dict_iter (wpAny_mono run (λf s' z=>?_) λ_ _ z=>z) (F.args_dict_iter_1 _));obtain⟨rfl,rfl⟩:=z;exact⟨_,rfl,"dict_keyiterator",_,⟨_,Heap.get?_push_size _ rfl,rfl⟩,F.slot_dict_keyiterator_next.lookup,hQ⟩
end
end PySem
namespace L2
open PySem PySem.Spec PyProof.Rows
noncomputable def j7c (a:Addr)(o:Obj)(kvs:List (List Key×V)):It where
 go:=λi H=>i<kvs.length/\H a=some (.frz o (.dT kvs))
 yld:=λi H x H'=>H'=H/\∃kv b,kvs[i]?=some kv/\x= .ref b/\H b=some (.tup (kv.1.map kV))
 stop:=λi H=>kvs.length<=i/\H a=some (.frz o (.dT kvs))
theorem qg {α β:Type}{F:α->β->Prop}:∀{xs:List α}{ys:List β}{i:Nat}{x:α},Paired F xs ys->xs[i]?=some x->∃y,ys[i]?=some y/\F x y:=λ{xs ys i x} q e=>by
 induction q generalizing i with
 |nil=>simp at e
 |cons h _ ih=>
  cases i with
  |zero=>cases Option.some.inj e;exact⟨_,rfl,h⟩
  |succ i=>exact ih (i:=i) e
theorem j49 {P:Program}{w:World}{K:PySem.W.Frag}{tg:Expr}(a it:Addr)(o:Obj)(kvs:List (List Key×V))(es:Array DictEntry)(ep:Nat)(hd:o.data= .dict es ep):Turn P w K tg (j7c a o kvs) [it] it (λi h=>h.IsKeyIter it a i kvs.length ep) where
 mem:=by simp
 obj:=λi h st b hb=>by
  have e:b=it:=by simpa using hb
  subst e;obtain⟨o,e,c,d⟩:=st;exact⟨o,e,λv z=>by rw[d]at z;cases z⟩
 keep:=λi h h' st k=>st.at λo e=>k it (by simp) o e
 item:=by
  intro X hP hw hK hc i pins s U H E I hf st hg;subst hP hw hK;obtain⟨hi,hq⟩:=hg;obtain⟨ho,hz,hs,xs,r,o',es',ep',ho',hx',hd',he,nd⟩:=I.hok a _ hq;cases Option.some.inj (ho'.symm.trans ho);rw[hd]at hd';cases hd';have hsz:es.size=kvs.length:=by have e1:=congrArg List.length he;rw[length_map,<-Paired.length r]at e1;simpa using e1
  obtain⟨kv,ekv⟩:∃kv,kvs[i]?=some kv:=⟨kvs[i],by simp[hi]⟩;obtain⟨x,ex,e1,e2,e3⟩:=qg r ekv;have hlt:i<es.size:=by omega
  have hkey:es[i].key= .ref x.2.1:=by
   have h1:es.toList[i]?=some es[i]:=by simp[hlt]
   rw[he,getElem?_map,ex]at h1;rw[<-Option.some.inj h1];rfl
  obtain⟨f0,f1,f2,f3,f4,f5⟩:=hf it (by simp);rw[<-hsz]at st;refine j1s st ho hd hlt λh' st' sb=>?_;have I1:Inv X pins U H {s with heap:=h'}:=I.turned (t':=s.toks) (λb o hb e=>(sb.2 b hb).trans e) f0 f1 f3 f4 f5;rw[hsz]at st';rw[hkey];obtain⟨oi,ei,ci,di⟩:=id st';exact⟨_,rfl,jwn (s:={s with heap:=h'}) ei ci di (by decide) ⟨.ref x.2.1,H,I1,rfl,⟨rfl,kv,x.2.1,ekv,rfl,by rw[e1];rw[e1]at e2;exact e2⟩,st',λb hb=>(hf b hb).1⟩⟩
 done:=by
  intro X hP hw hK hc i pins s U H E I hf st hg;subst hP hw hK;obtain⟨hi,hq⟩:=hg;obtain⟨ho,hz,hs,xs,r,o',es',ep',ho',hx',hd',he,nd⟩:=I.hok a _ hq;cases Option.some.inj (ho'.symm.trans ho);rw[hd]at hd';cases hd';have hsz:es.size=kvs.length:=by have e1:=congrArg List.length he;rw[length_map,<-Paired.length r]at e1;simpa using e1
  obtain⟨f0,f1,f2,f3,f4,f5⟩:=hf it (by simp);rw[<-hsz]at st;exact jvb (I.ok.hd hc) st ho hd (by omega) λh' eb=>⟨rfl,I.turned (t':=s.toks) (λb o hb e=>eb b o hb e) f0 f1 f3 f4 f5⟩
 self:=λ_ _ _ _ _ st h=>wpAny_pyIter_keyiter st h
noncomputable def iDt (tl:TE):TI:=λU H R=>tl U H λx H1=>∃a kvs,x= .ref a/\H1 a=some (.dT kvs)/\∀o,R (j7c a o kvs) (upd H1 a (.frz o (.dT kvs)))
theorem j8c {X:Cx}{tg l:Expr}{tl:TE}(hl:PE X l tl):PI X tg l (iDt tl):=by
 intro pins s U H R I h;refine thn (hl pins s U H _ I h) λv s1 zQ=>?_;obtain⟨x,H1,I1,r1,q1⟩:=zQ;obtain⟨a,kvs,e,hq,q⟩:=q1;subst e;cases r1;obtain⟨hz,hs,xs,r,o,es,ep,ho,hx,hd,he,nd⟩:=I1.hok a _ hq;have hsz:es.size=kvs.length:=by have e1:=congrArg List.length he;rw[length_map,<-Paired.length r]at e1;simpa using e1
 refine j1q hs ho hx hd ?_;have I2:=I1.freeze (show Mut (some (HO.dT kvs))from True.intro) hq ho;have hn:upd H1 a (.frz o (.dT kvs)) s1.heap.objs.size=none:=I2.hok.fresh (le_refl _);refine⟨s1.heap.objs.size,[s1.heap.objs.size],_,_,_,rfl,I2.kept (t':=s1.toks) λb o e=>Heap.get?_push_of_some _ e,j49 a _ o kvs es ep hd,?_,λb hb=>?_,q o⟩
 .rw[<-hsz];exact⟨_,Heap.get?_push_size _ rfl,rfl,rfl⟩
 .have e:b=s1.heap.objs.size:=by simpa using hb
  subst e;exact I2.j43 (le_refl _) hn
section
variable {X:Cx}
theorem jxv:jmo X (.builtin "isinstance") (λxs H Q=>∃x q,xs=[.ref x,.ref q]/\H q=some (.tup [.ty "list",.ty "tuple"])/\((∃ys,SqL X.K H x ys)\/∃ys,SqT X.K H x ys)/\Q (.bl true) H):=by
 intro pins s U H xs us Q I r h;obtain⟨x,q,rfl,hq,hx,k⟩:=h;obtain⟨u,w,rfl,r1,r2⟩:=vals2 r;cases r1;cases r2;obtain⟨ts,rt,ht,_⟩:=I.tuple (SqT.of hq);obtain⟨a,b,rfl,ra,rb⟩:=vals2 rt;obtain rfl:a=Value.type "list":=ra;obtain rfl:b=Value.type "tuple":=rb;obtain⟨⟨c,dd,dt,sl⟩,ho,hc,n,hd⟩:=ht;simp only at hc hd;subst hc hd;have fin:∀tk,EP X pins U Q (.bool true) {s with toks:=tk}:=λtk=>⟨.bl true,H,I.tok tk,rfl,k⟩;rcases hx with⟨ys,hy⟩|⟨ys,hy⟩
 .obtain⟨its,_,pl,_⟩:=I.list hy;obtain⟨o,ho2,hc2,_⟩:=pl.isList;exact PySem.W.kia_tup (its:=[.type "list",.type "tuple"]) PySem.W.kitx_list I.kIn ⟨o,ho2,hc2⟩ ho rfl (λz=>nomatch z) fin
 .obtain⟨its,_,⟨o,ho2,hc2,_⟩,_⟩:=I.tuple hy;exact PySem.W.kia_tup (its:=[.type "list",.type "tuple"]) PySem.W.kitx_tuple I.kIn ⟨o,ho2,hc2⟩ ho rfl (λz=>nomatch z) fin
noncomputable def iOr (a b:TI):TI:=λU H R=>a U H R\/b U H R
theorem j8h {tg l:Expr}{a b:TI}(h1:PI X tg l a)(h2:PI X tg l b):PI X tg l (iOr a b):=by
 intro pins s U H R I h;rcases h with h|h
 .exact h1 pins s U H R I h
 .exact h2 pins s U H R I h
theorem j60 {tg l:Expr}{tl:TE}(hl:PE X l tl):PI X tg l (iOr (j1y X.K tl) (j92 X.K tl)):=j8h (jck hl) (j7q hl)
end
noncomputable def j70 {α:Type}:List α->List α->List α
 |[u0,u1],[w0,w1,w2]=>[u0,u1,w0,w1,w2]
 |_,_=>[]
theorem j1p {vs:List V}{us:List Value}{zs:List V}{ws:List Value}(r1:Vals vs us)(r2:Vals zs ws):Vals (j70 vs zs) (j70 us ws):=by rcases r1 with _|⟨a,_|⟨a2,_|⟨_,_⟩⟩⟩<;>rcases r2 with _|⟨b,_|⟨c,_|⟨d,_|⟨_,_⟩⟩⟩⟩;all_goals first|exact .nil|exact .cons a (.cons a2 (.cons b (.cons c (.cons d .nil))))
section
variable {X:Cx}{CX:CXT}{k:Nat}{C f:Addr}{fd:FuncData}{ps ks:List Str}{sp:Sp}{E:XK}{g:List Value->List Value->List Value}{gV:List V->List V->List V}{x:Str}{p pos:Pos}{e:Expr}{es:List Expr}{kws:List Keyword}{t tk:TA}
theorem j05 {pins:List (Addr×Obj)}{U:St}{H:Hp}{s:Shared}{Q:VK}{us ws:List Value}{vs zs:List V}(M:Mk X.K C f)(F:xj X.prog X.w X.K X.mg X.base CX k f fd ps sp)(hr:jfe (k+1) X.A)(hb:jex X.K fd ps ks g gV)(hx:Passes CX X E)(I:Inv X pins U H s)(r:Vals vs us)(rz:Vals zs ws)(h:∀x dx,H x=none->H dx=none->dx≠x->sp (gV (.ref x::vs) zs) (upd (upd H dx (.own x)) x (.ins C dx [])) (λv H2=>v= .non/\Q (.ref x) H2) E):
  wpAny (model X.prog X.w) X.A (call (.ref C) us (ks.zip ws)) (EP X pins U Q) X.xe s:=by
 have hq:=h (s.heap.objs.size+1) s.heap.objs.size (I.hok.fresh (le_succ _)) (I.hok.fresh (le_refl _)) (ne_of_lt (lt_succ_self _));have I2:=Inv.made (C:=C) I;have r2:=hb.rel (Paired.cons (show RelV (V.ref (s.heap.objs.size+1)) (Value.ref (s.heap.objs.size+1))from rfl) r) rz;have hl:(g (Value.ref (s.heap.objs.size+1)::us) ws).length=ps.length:=by rw[<-Paired.length r2];exact F.len _ _ _ _ hq
 refine wpAny_call (jxk (f:=f) I.kIn M.makes M.init (beq_iff_eq.mp M.fn) (codeAny_mono (F.run _ X.stack _ _ ⟨Value.ref (s.heap.objs.size+1)::us,ks.zip ws⟩ _ _ _ E (hr.make C us (ks.zip ws)) (I2.j50.make C us (ks.zip ws)) (hb.to _ _ _ I2.kIn hl) r2 hq) λr s' hq'=>?_));cases r with
 |error e=>exact hx pins U _ _ e s' I2 hq'
 |ok fl=>
  cases fl with
  |ret u=>obtain⟨v,H',I3,rv,ev,q3⟩:=I2.after hq';subst ev;exact⟨rv,⟨V.ref (s.heap.objs.size+1),H',I3,rfl,q3⟩⟩
  |next=>exact False.elim hq'
  |brk=>exact False.elim hq'
  |cont=>exact False.elim hq'
noncomputable def j6d (C:Addr)(sp:Sp)(gV:List V->List V->List V)(E:XK)(t tk:TA):TE:=λU H Q=>t U H λvs H1=>tk U H1 λzs H2=>∀x dx,H2 x=none->H2 dx=none->dx≠x->sp (gV (.ref x::vs) zs) (upd (upd H2 dx (.own x)) x (.ins C dx [])) (λv H3=>v= .non/\Q (.ref x) H3) E
theorem jw2 (M:Mk X.K C f)(F:xj X.prog X.w X.K X.mg X.base CX k f fd ps sp)(hr:jfe (k+1) X.A)(hg:Gl X x)(hm:X.mg x=some (.ref C))(hb:jex X.K fd ps ks g gV)(hx:Passes CX X E)(ha:PA X (e::es) t)(hkw:PK X kws tk)(hall:autoParam ((backToKw pos (keywordEach kws X.env)).all (·.1.isSome)=true) aP1)(hks:autoParam ((backToKw pos (keywordEach kws X.env)).filterMap (·.1)=ks) aP1)(hdb:autoParam ((x==("__debug__":Str))=false) aP2)(he:autoParam (starEach (e::es) X.env=(false,eval e X.env)::starEach es X.env) aP1)(hpl:autoParam (((backTo pos (starEach (e::es) X.env)).any (·.1)||(backToKw pos (keywordEach kws X.env)).any (·.1.isNone))=false) aP1):
  PE X (.Call (.Name x p) (e::es) kws pos) (j6d C sp gV E t tk):=by
 intro pins s U H Q I h;refine wpAny_Call_Name_kw (jjd I hg hm ?_ hdb);refine PySem.W.callWith_KW (h₀:=X.base) I.ok.mod.kin M.kp hall (thn (ha pos pins s U H _ I h) λus s1 zQ=>?_) hpl he;obtain⟨vs,H1,I1,r,q⟩:=zQ;refine thn (hkw pos pins s1 U H1 _ I1 q) λws s2 ⟨zs,H2,I2,rz,q2⟩=>⟨I2.kIn,?_⟩;rw[hks];exact j05 M F hr hb hx I2 r rz q2
end
section
variable {X:Cx}{K:PySem.W.Frag}
theorem jhd (hK:X.K=K):OpR X (compareOp .NotIn) (rIn K true):=by subst hK;exact je7
theorem j48 (hK:X.K=K)(hu:X.A.units+64<cLine):OpR X (compareOp .NotEq) (j93 K):=by subst hK;exact jmb hu
end
noncomputable def DK {α:Type}:Sem α->Prop
 | .pure _=>True
 | .raise _=>True
 | .unsupported _=>True
 | .finish _=>True
 | .rule _ k=>DK (k ())
 | .at _ k=>DK (k ())
 | .load _ _ k=>∀o,DK (k o)
 | .update _ _ f k=>(∀o:Obj,(f o).dict=o.dict/\(o.isFreed=false->(f o).isFreed=false))/\DK (k ())
 | .loadIfAlive _ k=>∀o,DK (k o)
 | .point _ k=>DK (k ())
 | .register _ _=>True
 | .alloc _ k=>∀a,DK (k a)
 | .fresh k=>∀t,DK (k t)
 | .ask k=>∀x,DK (k x)
 | .handled _ k=>∀x,DK (k x)
 | .stack k=>∀x,DK (k x)
 |_=>False
theorem j1j {α β:Type}{f:α->Sem β}(hf:∀a,DK (f a))(m:Sem α)(h:DK m):DK (m.bind f):=by
 induction m with
 |pure a=>exact hf a
 |raise _=>exact True.intro
 |unsupported _=>exact True.intro
 |finish _=>exact True.intro
 |rule _ k ih=>exact ih () h
 |«at» _ k ih=>exact ih () h
 |load _ _ k ih=>exact λo=>ih o (h o)
 |update _ _ _ k ih=>exact⟨h.1,ih () h.2⟩
 |loadIfAlive _ k ih=>exact λo=>ih o (h o)
 |point _ k ih=>exact ih () h
 |register _ _ _=>exact True.intro
 |alloc _ k ih=>exact λa=>ih a (h a)
 |fresh k ih=>exact λa=>ih a (h a)
 |ask k ih=>exact λa=>ih a (h a)
 |handled _ k ih=>exact λa=>ih a (h a)
 |stack k ih=>exact λa=>ih a (h a)
 |choose _ _ _ _=>exact False.elim h
 |os _ _ _ _=>exact False.elim h
 |call _ _ _ _ _ _=>exact False.elim h
 |newGen _ _ _=>exact False.elim h
 |genState _ _ _=>exact False.elim h
 |resume _ _ _ _ _=>exact False.elim h
 |yield _ _ _ _ _=>exact False.elim h
 |fork _ _ _=>exact False.elim h
 |thread _ _=>exact False.elim h
 |await _ _ _ _ _ _=>exact False.elim h
theorem zo {α β:Type}{m:Sem α}{f:α->Sem β}(hm:DK m)(hf:∀a,DK (f a)):DK (m >>= f):=j1j hf m hm
theorem jv2 {a:Addr}:DK (load a):=λ_=>True.intro
theorem j1l {o:Obj}:DK (alloc o):=λ_=>True.intro
theorem jsr:DK stack:=λ_=>True.intro
theorem jum {a:Addr}{f:Obj->Obj}(h:∀o:Obj,(f o).dict=o.dict/\(o.isFreed=false->(f o).isFreed=false)):DK (update a f):=⟨h,True.intro⟩
noncomputable def KD (h h':Heap):Prop:=∀b o,h.get? b=some o->∃o',h'.get? b=some o'/\o'.dict=o.dict
theorem KD.refl (h:Heap):KD h h:=λ_ o e=>⟨o,e,rfl⟩
theorem KD.trans {a b c:Heap}(x:KD a b)(y:KD b c):KD a c:=λi o e=>by obtain⟨o1,e1,d1⟩:=x i o e;obtain⟨o2,e2,d2⟩:=y i o1 e1;exact⟨o2,e2,d2.trans d1⟩
theorem KD.push (h:Heap)(o:Obj):KD h (h.push o):=λ_ o' e=>⟨o',Heap.get?_push_of_some o e,rfl⟩
theorem KD.update {h:Heap}{a:Addr}{f:Obj->Obj}(hf:∀o:Obj,(f o).dict=o.dict/\(o.isFreed=false->(f o).isFreed=false)):KD h (h.update a f):=λb o e=>by
 by_cases z:a=b
 .subst z;exact⟨f o,Heap.get?_update_self f e ((hf o).2 (Heap.get?_some_iff.mp e).2),(hf o).1⟩
 .exact⟨o,by rw[Heap.get?_update_other h f z];exact e,rfl⟩
theorem j79 {α:Type}{M:Model}{Γ:PySem.Ctx}{Q:α->Pos->Shared->Prop}{E:Value->Pos->Shared->Prop}(t:Sem α)(p:Pos)(s:Shared)(d:DK t)(h:Sem.wp M Γ t Q E p s):Sem.wp M Γ t (λa p' s'=>Q a p' s'/\KD s.heap s'.heap) (λe p' s'=>E e p' s'/\KD s.heap s'.heap) p s:=by
 induction t generalizing p s with
 |pure a=>rw[Sem.wp]at h⊢;exact⟨h,KD.refl _⟩
 |raise _=>rw[Sem.wp]at h⊢;exact⟨h,KD.refl _⟩
 |unsupported _=>rw[Sem.wp]at h;exact h.elim
 |finish _=>rw[Sem.wp]at h;exact h.elim
 |rule _ k ih=>rw[Sem.wp]at h⊢;exact ih () p s d h
 |«at» p' k ih=>rw[Sem.wp]at h⊢;exact ih () p' s d h
 |load a x k ih=>rw[Sem.wp]at h⊢;obtain⟨o,e,h⟩:=h;exact⟨o,e,ih o p s (d o) h⟩
 |update a x f k ih=>rw[Sem.wp]at h⊢;obtain⟨e,h⟩:=h;exact⟨e,Sem.wp_mono M Γ (k ()) (λ_ _ s' q=>⟨q.1,(KD.update d.1).trans q.2⟩) (λ_ _ s' q=>⟨q.1,(KD.update d.1).trans q.2⟩) p _ (ih () p _ d.2 h)⟩
 |loadIfAlive a k ih=>rw[Sem.wp]at h⊢;exact ih _ p s (d _) h
 |point _ k ih=>rw[Sem.wp]at h⊢;exact ih () p s d h
 |register _ _ _=>rw[Sem.wp]at h;exact h.elim
 |alloc o k ih=>rw[Sem.wp]at h⊢;exact Sem.wp_mono M Γ (k s.heap.objs.size) (λ_ _ s' q=>⟨q.1,(KD.push _ o).trans q.2⟩) (λ_ _ s' q=>⟨q.1,(KD.push _ o).trans q.2⟩) p _ (ih _ p _ (d _) h)
 |fresh k ih=>rw[Sem.wp]at h⊢;exact ih _ p _ (d _) h
 |ask k ih=>rw[Sem.wp]at h⊢;exact ih _ p s (d _) h
 |handled own k ih=>rw[Sem.wp]at h⊢;exact ih _ p s (d _) h
 |stack k ih=>rw[Sem.wp]at h⊢;exact ih _ p s (d _) h
 |choose _ _ _ _=>exact False.elim d
 |os _ _ _ _=>exact False.elim d
 |call _ _ _ _ _ _=>exact False.elim d
 |newGen _ _ _=>exact False.elim d
 |genState _ _ _=>exact False.elim d
 |resume _ _ _ _ _=>exact False.elim d
 |yield _ _ _ _ _=>exact False.elim d
 |fork _ _ _=>exact False.elim d
 |thread _ _=>exact False.elim d
 |await _ _ _ _ _ _=>exact False.elim d
theorem jmg {α:Type}{M:Model}{A:Around}{t:Sem α}{Q:α->Shared->Prop}{E:Value->Shared->Prop}{s:Shared}(d:DK t)(h:wpAny M A t Q E s):wpAny M A t (λa s'=>Q a s'/\KD s.heap s'.heap) (λe s'=>E e s'/\KD s.heap s'.heap) s:=λΓ p hΓ=>j79 t p s d (h Γ p hΓ)
theorem jv3 {v:Value}:DK (fieldsOf v):=by
 unfold fieldsOf;split
 .refine zo jv2 λo=>?_;split<;>exact True.intro
 .exact True.intro
theorem jpi {v:Value}{i:Nat}:DK (field v i):=by unfold field;refine zo jv3 λvs=>?_;split<;>exact True.intro
theorem jvn (f:Array Value->Array Value)(o:Obj):(Obj.mapFields f o).dict=o.dict/\(o.isFreed=false->(Obj.mapFields f o).isFreed=false):=by obtain⟨c,d,dt,sl⟩:=o;cases dt<;>exact⟨rfl,λh=>h⟩
theorem jk7 {v x:Value}{i:Nat}:DK (setField v i x):=by
 unfold setField;split
 .unfold updateField;refine zo jv2 λo=>?_;split
  .split
   .exact jum (jvn _)
   .exact True.intro
  .exact True.intro
 .exact True.intro
theorem ji0 {e:Value}{f:Option Addr}:DK (setFlight e f):=by
 unfold setFlight;refine zo jpi λtb=>?_;split
 .exact jk7
 .exact True.intro
theorem jkg:∀l:List Env,DK (readyFrames l)
 |[]=>True.intro
 | env::outer=>by
  unfold readyFrames;split
  .refine zo jv2 λo=>?_;split
   .exact True.intro
   .refine zo ?_ λim=>zo ?_ λback=>zo (jum λo=>⟨rfl,λh=>?_⟩) λ_=>jkg outer
    .unfold behindIsImport;split
     .exact True.intro
     .split
      .exact True.intro
      .exact zo jpi λ_=>True.intro
    .unfold keptBack;split
     .split
      .exact True.intro
      .refine zo ?_ λ_=>True.intro;unfold underTheClaimsCaller;exact zo jsr λ_=>True.intro
     .exact True.intro
    .obtain⟨c,d,dt,sl⟩:=o;cases dt<;>exact h
  .exact True.intro
theorem jyd {env:Env}:DK (PySem.frameOf env):=by
 unfold PySem.frameOf;refine zo (zo jsr λ_=>True.intro) λes=>zo ?_ λr=>?_
 .cases es.dropWhile (·.frame != env.frame)with
  |nil=>exact True.intro
  |cons e r=>unfold frameObject;exact zo (jkg _) λ_=>True.intro
 .split<;>exact True.intro
theorem jt9 {ty:String}{vs:List Value}:DK (newFields ty vs):=by
 unfold newFields newObj;dsimp only;have rest:DK (newObjAsIs (Value.type ty) (Data.fields vs.toArray)):=by unfold newObjAsIs;exact zo j1l λ_=>True.intro
 split
 .exact zo True.intro λ_=>rest
 .exact rest
theorem js2 {f:Addr}{b:Bool}:DK (entryPlaceOf f b):=by unfold entryPlaceOf;refine zo jsr λacts=>?_;split<;>exact True.intro
theorem joc {e:Value}{env:Env}:DK (noteFrame e env):=by
 unfold noteFrame;split
 .have rest:∀{head:Value}{f:Addr},DK (do setField e 1 (<-EntryCells.newEntry head (<-PySem.frameOf env) .none (rawInt f) .none (<-entryPlaceOf f (head != .none)))):=λ{head f}=>zo jyd λa=>zo js2 λpl=>zo jt9 λb=>jk7;refine zo jpi λhead=>?_;split
  .refine zo jpi λx=>?_;split
   .exact True.intro
   .exact zo jk7 λ_=>rest
  .exact rest
 .exact True.intro
theorem jsa {env:Env}{e:Value}:DK (leaving env e):=zo joc λ_=>ji0
end L2
namespace PySem
section
variable {prog:Program}{w:World}{A:Around}{E:Value->Shared->Prop}{h:Heap}{g:Array GenState}{d:Drawn}{t:Nat}{os:OsState}
variable {nm q:Str}{C N:Addr}{bs bm bmB:List Value}{hdct:Bool}{sn:List Str}{sub:List Value}{ab:Bool}{col:Option Bool}{dd:Option Addr}{k0 k1 k2 k3 k5:Option Value}{Bq newId initId:String}
theorem jrx (F:ExcBaseFacts Bq newId initId bmB)(T:OwnTail h bmB bm){rest:List Value}{fI:Addr}{oI:Obj}{Q:Fin->Shared->Prop}(hC:h.get? C=some (excClassObj nm q C N bs bm hdct sn sub ab col dd k0 k1 k2 k3 k5 newId))(L:PySem.W.Looks (model prog w) h (typeLookup (.ref C) "__init__") (some (.ref fI)))(hfI:h.get? fI=some oI)(hfc:oI.cls= .type "function")(hrest:rest.length<=sizeLine)(hq:∀h' e,Heap.MadeExcOf h h' e (.ref C) rest->wpAny (model prog w) A (call (.ref fI) (.ref e::rest)) (λr s'=>r= .none/\Q (.done (.ret (.ref e))) s') E ⟨h',g,d,t,os⟩):
  wpAny (model prog w) A (Builtin.«type.__call__» ⟨.ref C::rest,[]⟩) Q E ⟨h,g,d,t,os⟩:=by
 repeat(first|with_reducible refine wpAny_loadPart_at hC ?_|with_reducible refine wpAny_madeBy_exc hC ?_|wp_step)
 refine codeAny_call_builtin_code (Code.quiet_builtin _ F.quiet) (wpAny_check_new_subT F T hC (codeAny_exc_new_subT F T hC ?_ hrest));show wpAny _ _ _ _ _ _;have hk:∀b o,h.get? b=some o->((h.push {cls:=.type "tuple",data:=.seq rest.toArray}).push {cls:=.ref C,data:=.fields #[.ref h.objs.size,.none,.none,.none,.bool false,.none]}).get? b=some o:=λb o e=>Heap.get?_push_of_some _ (Heap.get?_push_of_some _ e);have hget:((h.push {cls:=.type "tuple",data:=.seq rest.toArray}).push {cls:=.ref C,data:=.fields #[.ref h.objs.size,.none,.none,.none,.bool false,.none]}).get? (h.objs.size+1)=some {cls:=.ref C,data:=.fields #[.ref h.objs.size,.none,.none,.none,.bool false,.none]}:=by heap_get
 have hm:Heap.MadeExcOf h ((h.push {cls:=.type "tuple",data:=.seq rest.toArray}).push {cls:=.ref C,data:=.fields #[.ref h.objs.size,.none,.none,.none,.bool false,.none]}) (h.objs.size+1) (.ref C) rest:=⟨hk,Heap.get?_none_of_le (le_succ _),h.objs.size,hget,Heap.get?_none_of_le (le_refl _),Heap.get?_push_of_some _ (Heap.get?_push_at rfl rfl)⟩;have hq':=hq _ _ hm;have hC1:=hk _ _ hC;have hfI1:=hk _ _ hfI;have hcC:(Value.ref C::bm).contains (.ref C)=true:=by simp
 unfold isInstance;repeat(first|with_reducible refine wpAny_loadPart_at hget ?_|(with_reducible refine wpAny_isSubtype_exc hC1 ?_;rw[hcC])|wp_step)
 show wpAny _ _ (typeLookup (.ref C) _) _ _ _;refine L _ _ _ _ hk (wpAny_holding (wpAny_bind ?_));unfold bindSpecial;refine wpAny_bind (wpAny_typeOf (T:="function") ⟨_,hfI1,hfc⟩ ?_);rw[if_pos (by decide)];refine wpAny_pure (wpAny_bind (wpAny_mono hq' (λr s' hr=>?_) λ_ _ x=>x));obtain⟨rfl,hQ⟩:=hr;wp_walk;exact hQ
theorem j0c (F:ExcBaseFacts Bq newId initId bmB)(T:OwnTail h bmB bm){rest:List Value}{fI:Addr}{oI:Obj}{Q:Value->Shared->Prop}(hC:h.get? C=some (excClassObj nm q C N bs bm hdct sn sub ab col dd k0 k1 k2 k3 k5 newId))(L:PySem.W.Looks (model prog w) h (typeLookup (.ref C) "__init__") (some (.ref fI)))(hfI:h.get? fI=some oI)(hfc:oI.cls= .type "function")(hrest:rest.length<=sizeLine)(hq:∀h' e,Heap.MadeExcOf h h' e (.ref C) rest->wpAny (model prog w) (A.under (.builtin "type.__call__" ⟨.ref C::rest,[]⟩)) (call (.ref fI) (.ref e::rest)) (λr s'=>r= .none/\Q (.ref e) s') E ⟨h',g,d,t,os⟩):
  wpAny (model prog w) A (call (.ref C) rest) Q E ⟨h,g,d,t,os⟩:=by
 have f1:=tc_lookup;have f2:=tc_bind (.ref C);have hT:(⟨h,g,d,t,os⟩:Shared).TypeIs (.ref C) "type":=⟨_,hC,rfl⟩;refine wpAny_call (codeAny_of_tree ?_);show wpAny _ _ (callAny (.ref C) _) _ _ _;repeat(any_goals (first|assumption|with_reducible refine wpAny_loadPart_at hC ?_|wp_step))
 refine⟨rfl,?_⟩;exact codeAny_call_builtin_at (Code.quiet_builtin _ (by decide+kernel)) entry_typeCall (wpAny_check_type_call_sub hC (jrx F T hC L hfI hfc hrest λh' e hm=>hq h' e hm))
theorem jxr {s:Shared}{env:Env}{x:Sem Value}{Q:Flow->Shared->Prop}(hbase:bm.contains (.type "BaseException")=true)(hh:A.handled=none)(hx:wpAny (model prog w) A x (λv s1=>∃e oe t,v= .ref e/\s1.heap.get? C=some (excClassObj nm q C N bs bm hdct sn sub ab col dd k0 k1 k2 k3 k5 newId)/\s1.heap.get? e=some oe/\oe.cls= .ref C/\oe.data= .fields #[.ref t,.none,.none,.none,.bool false,.none]/\E (.ref e) s1) E s):
  wpAny (model prog w) A (raiseStmt env (some x) none) Q E s:=by
 have hcB:(Value.ref C::bm).contains (.type "BaseException")=true:=by rw[List.contains_cons,hbase,Bool.or_true]
 unfold raiseStmt;refine wpAny_bind (wpAny_mono hx (λv s1 q1=>?_) λ_ _ z=>z);obtain⟨e,oe,t,rfl,hC,he,hc,hd,hE⟩:=q1;obtain⟨hp,g,dr,tk,os⟩:=s1;obtain⟨c0,di,da,sl⟩:=oe;dsimp only at hc hd;subst hc hd;repeat(first|with_reducible refine wpAny_loadPart_at he ?_|with_reducible refine wpAny_loadPart_at hC ?_|(with_reducible refine wpAny_isSubtype_exc hC ?_;rw[hcB])|wp_step)
 exact wpAny_raiseNew_none hh hE
end
end PySem
namespace PySem
open Builtin Builtin.ObjectAttr
noncomputable abbrev j73:List Value:=[.type "ValueError",.type "Exception",.type "BaseException",.type "object"]
section
variable {prog:Program}{w:World}{A:Around}{E:Value->Shared->Prop}{h:Heap}{g:Array GenState}{d:Drawn}{t:Nat}{os:OsState}
variable {nm q:Str}{C N x:Addr}{bs bm:List Value}{hdct:Bool}{sn:List Str}{sub:List Value}{ab:Bool}{col:Option Bool}{dd:Option Addr}{k0 k1 k2 k3 k5:Option Value}{newId:String}{name:Str}{v:Value}{o:Obj}
theorem j6l {M:Model}{α:Type}{p:Sem α}{r:α}{Q:α->Shared->Prop}(L:PySem.W.Looks M h p r)(hq:Q r ⟨h,g,d,t,os⟩):wpAny M A p Q E ⟨h,g,d,t,os⟩:=L _ _ _ _ (λ_ _ e=>e) hq
theorem jwl {self:Value}(T:OwnTail h j73 bm):refuseLoop self "__setattr__" bm=pure ():=by
 induction T with
 |base=>exact F.store_ValueError.passes self
 |own _ _ _ _ ih=>rw[refuseLoop_ref];exact ih
theorem jq6 {tk:Tok}{Q:Fin->Shared->Prop}(T:OwnTail h j73 bm)(hC:h.get? C=some (excClassObj nm q C N bs bm true sn sub ab col dd k0 k1 k2 k3 k5 newId))(Ln:PySem.W.Looks (model prog w) h (typeLookup (.ref C) name) none)(hx:h.get? x=some o)(hc:o.cls= .ref C)(hnc:∀c,o.data≠.cls c)(hdn:o.dict=none)(hq:∀h' tk' dx,h.get? dx=none->dx≠x->h'.get? x=some {o with dict:=some dx}->h'.Ns1 dx (λy=>if y=name then some v else none)->(∀b ob,b≠x->h.get? b=some ob->h'.get? b=some ob)->Q (.done (.ret .none)) ⟨h',g,d,tk',os⟩):
  wpAny (model prog w) A (Builtin.«object.__setattr__» ⟨[.ref x,.str name tk,v],[]⟩) Q E ⟨h,g,d,t,os⟩:=by
 have hpass:=jwl (self:=.ref x) T;unfold Builtin.«object.__setattr__»;repeat(first|rw[refuse_eq]|(rw[refuseLoop_ref,hpass])|(with_reducible refine wpAny_loadPart_at hx ?_;rw[hc])|with_reducible refine wpAny_mroOf_exc hC ?_|with_reducible refine j6l Ln ?_|wp_step)
 rw[hdn,if_neg (by simp[typeHasDict])];split
 .rename_i hcd;cases hcd
 split
 .rename_i c hcd;exact absurd hcd (hnc c)
 have hx1:(h.push {cls:=.type "dict",data:=.dict #[]}).get? x=some o:=Heap.get?_push_of_some _ hx;have hxs:x≠h.objs.size:=ne_of_lt (Heap.lt_size hx);refine wpAny_bind (wpAny_alloc' (wpAny_bind (wpAny_update' hx1 (wpAny_pure ?_))));have hgd:((h.push {cls:=.type "dict",data:=.dict #[]}).update x λo=>{cls:=o.cls,dict:=some h.objs.size,data:=o.data,slots:=o.slots}).get? h.objs.size=some {cls:=.type "dict",data:=.dict #[]}:=(Heap.get?_update_ne _ _ _ _ hxs.symm).trans (Heap.get?_push_at rfl rfl);show wpAny _ _ (storeInDict h.objs.size (.str name tk) name v) _ _ _;unfold storeInDict newKeyGuard;refine wpAny_bind (wpAny_pure (wpAny_bind (wpAny_nsSet1 (Heap.Ns1.of_empty ⟨_,#[],_,hgd,rfl,λe he=>absurd he (by simp),λ_=>rfl⟩) λh' hn' hs=>?_)));obtain⟨oD,esD,epD,hoD,hdD,hcD⟩:=hn'.count (Within.cons name v Within.nil);refine wpAny_bind (wpAny_lookBehind hoD (by rw[hdD];exact pastItsLine_dict (le_trans hcD (by rw[length_cons,List.length_nil,sizeLine_eq];omega))) ?_);wp_walk;refine hq h' _ h.objs.size (Heap.get?_none_of_le (le_refl _)) hxs.symm ?_ hn' λb ob hbx hb=>(hs.2 b (ne_of_lt (Heap.lt_size hb))).trans ((Heap.get?_update_ne _ _ _ _ hbx).trans (Heap.get?_push_of_some _ hb));refine(hs.2 x hxs).trans (Heap.get?_update_self _ hx1 ?_);have hfr:=(Heap.get?_some_iff.mp hx).2;obtain⟨oc,od,odt,osl⟩:=o;cases odt<;>first|rfl|exact hfr
theorem j01 {M:Model}{nameV:Value}{Q:Unit->Shared->Prop}(T:OwnTail h j73 bm)(hC:h.get? C=some (excClassObj nm q C N bs bm hdct sn sub ab col dd k0 k1 k2 k3 k5 newId))(hx:h.get? x=some o)(hc:o.cls= .ref C)(hq:Q () ⟨h,g,d,t,os⟩):wpAny M A (checkBuiltinCall "object.__setattr__" ⟨[.ref x,nameV,v],[]⟩) Q E ⟨h,g,d,t,os⟩:=by
 have hcB:(Value.ref C::bm).contains (.type "object")=true:=by rw[List.contains_cons,T.hasType F.store_ValueError.hasOwner,Bool.or_true]
 have ha:=F.store_ValueError.args (.ref x) nameV v;simp only[checkBuiltinCall,F.store_ValueError.kind,F.store_ValueError.split];refine wpAny_bind ?_;unfold isInstance;repeat(first|(with_reducible refine wpAny_loadPart_at hx ?_;rw[hc])|(with_reducible refine wpAny_isSubtype_exc hC ?_;rw[hcB])|wp_step)
 exact hq
theorem j0s {Q:Unit->Shared->Prop}(T:OwnTail h j73 bm)(hC:h.get? C=some (excClassObj nm q C N bs bm true sn sub ab col dd k0 k1 k2 k3 k5 newId))(Ls:PySem.W.Looks (model prog w) h (typeLookup (.ref C) "__setattr__") (some (.builtin "object.__setattr__")))(Ln:PySem.W.Looks (model prog w) h (typeLookup (.ref C) name) none)(hx:h.get? x=some o)(hc:o.cls= .ref C)(hnc:∀c,o.data≠.cls c)(hdn:o.dict=none)(hq:∀h' tk' dx,h.get? dx=none->dx≠x->h'.get? x=some {o with dict:=some dx}->h'.Ns1 dx (λy=>if y=name then some v else none)->(∀b ob,b≠x->h.get? b=some ob->h'.get? b=some ob)->Q () ⟨h',g,d,tk',os⟩):
  wpAny (model prog w) A (setAttr (.ref x) name v) Q E ⟨h,g,d,t,os⟩:=by
 have f3:=F.store_ValueError.slot.bind (.ref x);unfold setAttr callSpecial? specialOf;repeat(any_goals (first|assumption|(with_reducible refine wpAny_loadPart_at hx ?_;rw[hc])|with_reducible refine j6l Ls ?_|wp_step))
 refine codeAny_call_builtin F.store_ValueError.slot.plain F.store_ValueError.entry (j01 T hC hx hc (jq6 T hC Ln hx hc hnc hdn λh' tk' dx a1 a2 a3 a4 a5=>?_));repeat(any_goals (first|assumption|wp_step))
 exact hq h' tk' dx a1 a2 a3 a4 a5
end
end PySem
namespace L2
open PySem PySem.Spec PyProof.Rows
noncomputable def jw1 (K:PySem.W.Frag)(C f:Addr):Bool:=(match K.lookup f with
 |some o=>o.cls== .type "function"
 |none=>false)&&match K.lookup C with
 |some ⟨.type "type",_,.cls cd,sl⟩=>(match cd.mro,sl.toList with
  | .ref C'::bm,[_,_,_,_,some (.builtin n),_]=>C'==C&&n=="ValueError.__new__"&&!cd.hasDel&&cd.hasDict&&PySem.W.tailIn K j6j bm
  |_,_=>false)
 |_=>false
theorem jtc {K:PySem.W.Frag}{h:Heap}{C f:Addr}(X:K.In h)(q:jw1 K C f=true):(∃oI,h.get? f=some oI/\oI.cls= .type "function")/\∃bm N nm qn bs sn sub ab col dd k0 k1 k2 k3 k5,h.get? C=some (excClassObj nm qn C N bs bm true sn sub ab col dd k0 k1 k2 k3 k5 "ValueError.__new__")/\OwnTail h j6j bm:=by
 unfold jw1 at q;rw[Bool.and_eq_true]at q;obtain⟨q0,q⟩:=q;refine⟨?_,?_⟩
 .split at q0
  .rename_i o ho;exact⟨o,X _ _ ho,beq_iff_eq.mp q0⟩
  .cases q0
 split at q
 .rename_i dd cd sl ho;split at q
  .rename_i C' bm k0 k1 k2 k3 n k5 hm hs;simp only[Bool.and_eq_true,beq_iff_eq,Bool.not_eq_true']at q;obtain⟨⟨⟨⟨rfl,rfl⟩,hdel⟩,hdc⟩,ht⟩:=q;obtain⟨nm,bs,mro,ns,qn,hd,sn,sub,ab,col,del⟩:=cd;dsimp only at hm hdel hdc;subst hm hdel hdc;have hsl:sl=#[k0,k1,k2,k3,some (.builtin "ValueError.__new__"),k5]:=by
    obtain⟨l⟩:=sl;simp only at hs;rw[hs]
   subst hsl;exact⟨bm,ns,nm,qn,bs,sn,sub,ab,col,dd,k0,k1,k2,k3,k5,X _ _ ho,PySem.W.tail_of_in X ht⟩
  .cases q
 .cases q
structure j21 (K:PySem.W.Frag)(C f:Addr)(x:Str):Prop where
 cls:jw1 K C f=true
 ini:PySem.W.findIn K (.ref C) "__init__"=some (some (.ref f))
 sa:PySem.W.findIn K (.ref C) "__setattr__"=some (some (.builtin "object.__setattr__"))
 ga:PySem.W.findIn K (.ref C) "__getattribute__"=some (some (.builtin "BaseException.__getattribute__"))
 gn:PySem.W.findIn K (.ref C) "__getattr__"=some none
 no:PySem.W.findIn K (.ref C) x=some none
noncomputable def jvm (ea C:Addr):HO:=.ext λh=>∃t sl,h.get? ea=some ⟨.ref C,none,.fields #[.ref t,.none,.none,.none,.bool false,.none],sl⟩
noncomputable def jpm (ea C d:Addr):HO:=.ext λh=>∃t sl,h.get? ea=some ⟨.ref C,some d,.fields #[.ref t,.none,.none,.none,.bool false,.none],sl⟩
section
variable {X:Cx}{pins:List (Addr×Obj)}{U:St}{H:Hp}{s:Shared}
theorem Inv.j55 (I:Inv X pins U H s)(hex:X.ex=[]){b:Addr}(e:s.heap.get? b=none):X.s₀.heap.get? b=none:=by
 cases q:X.s₀.heap.get? b with
 |none=>rfl
 |some o=>have base:=I.base;rw[hex]at base;obtain⟨o1,e1⟩:=base.there b o q (by simp);rw[e]at e1;cases e1
noncomputable def j84 (C:Addr)(ta tv:TE)(f:Str):TS:=λD U H=>tv U H λy H1=>ta U H1 λx H2=>∃a,x= .ref a/\H2 a=some (jvm a C)/\∀d,H2 d=none->D.nx U (upd (upd H2 a (jpm a C d)) d (.xd [(f,y)]))
theorem j4x {C fi:Addr}{o value:Expr}{f:Str}{pos pos':Pos}{ta tv:TE}(hI:j21 X.K C fi f)(hex:X.ex=[])(ha:PE X o ta)(hv:PE X value tv)(hs:swapsWith value (some (.Attribute o f pos')) pos.line X.env=pure false):PS X (.Assign [.Attribute o f pos'] value pos) (j84 C ta tv f):=by
 intro pins s U H D I h;refine plainObj_wpAny_Assign_Attribute (thn (hv pins s U H _ I h) λu s1 ⟨y,H1,I1,ry,q⟩=>thn (ha pins s1 U H1 _ I1 q) λov s2 zQ=>?_) hs;obtain⟨x,H2,I2,rx,a,ex,ea,q2⟩:=zQ;subst ex;obtain rfl:ov=Value.ref a:=rx;obtain⟨⟨t,sl,hx⟩,_,_⟩:=I2.hok a _ ea;obtain⟨_,bm,N,nm,qn,bs,sn,sub,ab,col,dd,k0,k1,k2,k3,k5,hC,T⟩:=jtc I2.kIn hI.cls;obtain⟨hp,g,dr,tk,os⟩:=s2;refine j0s T hC (PySem.W.looks_findIn I2.kIn hI.sa) (PySem.W.looks_findIn I2.kIn hI.no) hx rfl (λc z=>by cases z) rfl λh' tk' d n1 n2 e1 e2 kp=>?_;have hd0:H2 d=none:=by
  cases z:H2 d with
  |none=>rfl
  |some u=>obtain⟨o',e'⟩:=(I2.hok d u z).there;rw[show hp.get? d=none from n1]at e';cases e'
 have I3:Inv X pins U (upd H2 a (jpm a C d)) ⟨h',g,dr,tk',os⟩:=by refine I2.write (x:=a) (e:=a) (h':=h') (t':=tk') (by rw[ea];exact True.intro) (.inl rfl) (λb u hb e=>kp b u hb e) ⟨_,e1⟩ ⟨⟨t,sl,e1⟩,⟨_,e1⟩,λh1 h2 p k=>?_⟩;obtain⟨t',sl',e'⟩:=p;exact⟨t',sl',k _ e'⟩
 have hd1:hp.get? d=none:=n1;have ne0:∀b o,hp.get? b=some o->b≠d:=λb o e z=>by rw[z,hd1]at e;cases e
 have I4:Inv X pins U (upd (upd H2 a (jpm a C d)) d (.xd [(f,y)])) ⟨h',g,dr,tk',os⟩:=by
  refine I3.j4k hex (by rw[je n2];exact hd0) (I2.j55 hex hd1) ?_ (λz c e=>?_) (λp hp'=>?_) ⟨_,e2,λz=>?_⟩
  .obtain⟨m,⟨o',_,_,ho',_⟩,_⟩:=I2.loc;exact(ne0 _ _ ho').symm
  .obtain⟨v',o',ho',_⟩:=I2.cell z c e;exact ne0 _ _ ho'
  .exact ne0 _ _ (I2.pin p hp').1
  .rw[lookup_cons];by_cases hz:z=f
   .subst hz;simp only[beq_self_eq_true,if_true];exact ry
   .have:(z==f)=false:=by simpa using hz
    rw[this,if_neg hz];exact True.intro
 exact⟨U,_,I4,q2 d hd0⟩
theorem Inv.drop {a:Addr}{φ:Heap->Prop}(I:Inv X pins U H s)(ha:H a=some (.ext φ)):Inv X pins U (λb=>if b=a then none else H b) s:=by
 have ne:∀{b:Addr}{u:HO},H b=some u->(∀ψ,u≠.ext ψ)->b≠a:=λ{b u} e h z=>by subst z;rw[ha]at e;exact h _ (Option.some.inj e).symm
 have at_:∀{b:Addr},b≠a->(λb=>if b=a then none else H b) b=H b:=λh=>if_neg h;have nn:∀{b:Addr},H b=none->(λb=>if b=a then none else H b) b=none:=λ{b} h=>by
  by_cases z:b=a
  .exact if_pos z
  .exact(if_neg z).trans h
 refine⟨I.ok,I.os,I.bare,⟨I.base.keep,I.base.slot,λb ob e n hx=>nn (I.base.free b ob e n hx),I.base.there,λb xs q=>?_,λb ob v q=>?_,λb ps q=>?_⟩,I.loc,I.cell,nn I.free,λx c e=>nn (I.jgs x c e),λp hp=>?_,λb v e=>?_,I.len⟩
 .have q':=I.base.jtw b xs q;exact(at_ (ne q' λ_ z=>nomatch z)).trans q'
 .have q':=I.base.jsl b ob v q;exact(at_ (ne q' λ_ z=>nomatch z)).trans q'
 .obtain⟨more,z⟩:=I.base.ju0 b ps q;exact⟨more,(at_ (ne z λ_ z=>nomatch z)).trans z⟩
 .obtain⟨q1,q2,q3⟩:=I.pin p hp;exact⟨q1,nn q2,q3⟩
 .by_cases z:b=a
  .have e':(if b=a then none else H b)=some v:=e;rw[if_pos z]at e';cases e'
  .have e':H b=some v:=(at_ z).symm.trans e;exact(I.hok b v e').jrh (λ_ _ _ q=>q) (λc q=>(at_ (ne q λ_ z=>nomatch z)).trans q) λc xs q=>(at_ (ne q λ_ z=>nomatch z)).trans q
end
noncomputable def CX2 (P:Program)(w:World):CXT:=λl H s E e s'=>∃ea cls dd H',e= .ref ea/\Fly P w l H H' s s' ea cls/\(∃oe,s'.heap.get? ea=some oe/\oe.dict=dd)/\E cls dd H'
section
variable {P:Program}{w:World}{K:PySem.W.Frag}{mg:Str->Option Value}{base:Heap}{N:List Str}{qual:Str}{scope:Scope}{f:Addr}{cd:Value}{A:Around}{outer:List Env}{s:Shared}{H:Hp}{E:XK}
theorem j8u:Passes (CX2 P w) (jrs (CX2 P w) P w K mg base N qual scope f cd A outer s H E) E:=by
 intro pins U H1 s1 e s' I h;obtain⟨ea,cls,dd,H',rfl,F,⟨oe,he,hdd⟩,q⟩:=h;obtain⟨Bq,t,hf,k1,k2⟩:=F.fly;show wpAny (model P w) (A.deeper (envOfC qual scope s.heap.objs.size f cd)) (leaving (envOfC qual scope s.heap.objs.size f cd) (.ref ea)) _ _ s';refine wpAny_mono (jmg jsa (wpAny_leaves_onW (E:=λ_ _=>False) (Q:=λ_ s''=>∃h',s''={s' with heap:=h'}/\Heap.FlyingW Bq outer ea cls (.ref t) h'/\s'.heap.UpToSlots h') I.ok.frames (L:=s.heap.objs.size) rfl hf λh' hf' hu=>⟨h',rfl,hf',hu⟩)) (λ_ s'' zQ=>?_) (λ_ _ c=>c.1.elim);obtain⟨⟨h',e1,hf',hu⟩,kd⟩:=zQ;subst e1;obtain⟨o2,e2,d2⟩:=kd ea oe he;exact⟨ea,cls,dd,H',rfl,j6x I rfl F hf' hu k1 k2,⟨o2,e2,d2.trans hdd⟩,q⟩
theorem j3c {pins:List (Addr×Obj)}{U:St}{H1:Hp}{s1:Shared}{ea t:Addr}{oe:Obj}(I:Inv (jrs (CX2 P w) P w K mg base N qual scope f cd A outer s H E) pins U H1 s1)(he:s1.heap.get? ea=some oe)(hd:oe.data= .fields #[.ref t,.none,.none,.none,.bool false,.none])(new:s.heap.get? ea=none)(hn:H1 ea=none)(q:E oe.cls oe.dict H1):(jrs (CX2 P w) P w K mg base N qual scope f cd A outer s H E).xe (.ref ea) s1:=by
 have noE:∀b:Addr,b∉([]:List Addr):=λb=>by simp
 have ib:Un (frs outer) [] H H1 s.heap s1.heap:=I.base;obtain⟨stk,estk⟩:∃stk,stk=envOfC qual scope s.heap.objs.size f cd::outer:=⟨_,rfl⟩;have hin:∀env∈stk,∀b,env.frame=some b->b∈ea::frs stk:=λenv he b hb=>mem_cons_of_mem _ (mem_filterMap.mpr ⟨env,he,hb⟩);have hideg:∀b o,s1.heap.get? b=some o->b≠ea->b∉frs stk->(PySem.W.hideAll s1.heap (ea::frs stk)).get? b=some o:=λb o e h1 h2=>PySem.W.hideAll_get _ e λz=>(mem_cons.mp z).elim h1 h2;have jrz:∀b o,s.heap.get? b=some o->b∉frs outer->b∉frs stk:=λb o e hb=>by rw[estk];exact I.jrz e hb
 have neS:∀b o,s.heap.get? b=some o->b≠ea:=λb o e z=>by rw[z,new]at e;cases e
 have neH:∀b u,H1 b=some u->b≠ea:=λb u e z=>by rw[z,hn]at e;cases e
 have trk:∀b u,H1 b=some u->b∉frs stk:=λb u e z=>by rw[estk]at z;have:=I.jsm b z;rw[e]at this;cases this
 have IS:s1.heap.FunFrames (PySem.W.hideAll s1.heap (ea::frs stk)) (envOfC qual scope s.heap.objs.size f cd::outer):=by rw[estk];exact PySem.W.funFrames_hide I.stack (by rw[estk]at hin;exact hin)
 show wpAny (model P w) (A.deeper (envOfC qual scope s.heap.objs.size f cd)) (leaving (envOfC qual scope s.heap.objs.size f cd) (.ref ea)) _ _ s1;refine wpAny_mono (jmg jsa (wpAny_leaving_firstW (E:=λ_ _=>False) (base:=PySem.W.hideAll s1.heap (ea::frs stk)) (a0:=.ref t) (Q:=λ_ s''=>∃h',s''={s1 with heap:=h'}/\Heap.LeftW (PySem.W.hideAll s1.heap (ea::frs stk)) (envOfC qual scope s.heap.objs.size f cd::outer) ea oe.cls (.ref t) s1.heap h') I.ok.frames IS rfl he (λb o q=>PySem.W.of_hideAll _ q) (PySem.W.hideAll_none _ (by simp)) hd rfl rfl λh' hL=>⟨h',rfl,hL⟩)) (λ_ s'' ⟨⟨h',e1,hL⟩,kd⟩=>?_) (λ_ _ c=>c.1.elim);subst e1;obtain⟨o2,e2,d2⟩:=kd ea oe he;obtain⟨x1,⟨_,_,x2⟩,x3,x4⟩:=hL;have jrh:∀b o,s1.heap.get? b=some o->b≠ea->b∉frs stk->h'.get? b=some o:=λb o e h1 h2=>x1 _ _ (hideg b o e h1 h2);have slots:∀b o,s.heap.get? b=some o->H b=none->b∈frs outer->∃sl,h'.get? b=some {o with slots:=sl}:=λb o e n hb=>by
  obtain⟨sl,e1⟩:=ib.slot b o e n hb (noE b);obtain⟨_,o3,e3,nf⟩:=I.ok.jvq.mem hb;have e3':s.heap.get? b=some o3:=e3;rw[e]at e3';cases e3';obtain⟨sl3,e4⟩:=x4 b _ e1 nf;exact⟨sl3,e4⟩
 refine⟨ea,oe.cls,oe.dict,H1,rfl,⟨I.os,I.bare,⟨λb o e n hb _=>?_,λb o e n hb _=>slots b o e n hb,λb o e n _=>ib.free b o e n (noE b),λb o e _=>?_,ib.jtw,ib.jsl,ib.ju0⟩,λb u e=>?_,⟨PySem.W.hideAll s1.heap (ea::frs stk),t,⟨x1,PySem.W.hideAll_none _ (by simp),x2,x3⟩,λb o o' e e' hb=>?_,λb u o' q e'=>?_⟩,new⟩,⟨o2,e2,d2⟩,q⟩
 .exact jrh b o (ib.keep b o e n hb (noE b)) (neS b o e) (jrz b o e hb)
 .by_cases hb:b∈frs outer
  .obtain⟨sl,q⟩:=slots b o e (I.ok.frf b hb) hb;exact⟨_,q⟩
  .obtain⟨o1,e1⟩:=ib.there b o e (noE b);exact⟨o1,jrh b o1 e1 (neS b o e) (jrz b o e hb)⟩
 .refine(I.hok b u e).jrh (λc v hc q=>?_) (λ_ q=>q) λ_ _ q=>q;rcases hc with z|z
  .subst z;exact jrh _ _ q (neH _ _ e) (trk _ _ e)
  .exact jrh _ _ q (neH _ _ z) (trk _ _ z)
 .obtain⟨o1,e1⟩:=ib.there b o e (noE b);have z:=jrh b o1 e1 (neS b o e) (jrz b o e hb);have e2:h'.get? b=some o':=e';rw[z]at e2;cases e2;exact hideg b _ e1 (neS b o e) (jrz b o e hb)
 .obtain⟨o1,e1⟩:=(I.hok b u q).there;have z:=jrh b o1 e1 (neH _ _ q) (trk _ _ q);have e2:h'.get? b=some o':=e';rw[z]at e2;cases e2;exact hideg b _ e1 (neH _ _ q) (trk _ _ q)
end
section
variable {P:Program}{w:World}{K:PySem.W.Frag}{mg:Str->Option Value}{base:Heap}
theorem Fun.okY {x qual:Str}{st:Stmt}{f:Addr}{fd:FuncData}{N ps:List Str}{k:Nat}{sp:Sp}(F:Fun K x qual st f fd)(S:qm N ps (jt st))(len:∀vs H Q E,sp vs H Q E->vs.length=ps.length)(hbody:∀(cdv:Value)(A:Around)(outer:List Env)(s:Shared)(H:Hp)(vs:List V)(Q:VK)(E:XK),jfe k (A.deeper (envOfC qual (jt st) s.heap.objs.size f cdv))->sp vs H Q E->∃t,PSs (jrs (CX2 P w) P w K mg base N qual (jt st) f cdv A outer s H E) (jcg st) t/\t {nx:=λ_ H'=>Q .non H',rt:=Q} (start N vs) H):xj P w K mg base (CX2 P w) (k+1) f fd ps sp:=by
 obtain⟨oc,od,kV,doc,pm,an,cdv,ct,osl,rfl,lk,hcd⟩:=F.ex;exact j6c lk hcd S len λA outer s H vs Q E hr hsp=>hbody cdv A outer s H vs Q E hr hsp
theorem Fun.qay {x qual:Str}{st:Stmt}{f:Addr}{fd:FuncData}{N ps:List Str}{k:Nat}{sp:Sp}(F:Fun K x qual st f fd)(S:qm N ps (jt st))(hbody:∀(cdv:Value)(A:Around)(outer:List Env)(s:Shared)(H:Hp)(vs:List V)(Q:VK)(E:XK),jfe k (A.deeper (envOfC qual (jt st) s.heap.objs.size f cdv))->sp vs H Q E->∃t,PSs (jrs (CX2 P w) P w K mg base N qual (jt st) f cdv A outer s H E) (jcg st) t/\t {nx:=λ_ H'=>Q .non H',rt:=Q} (start N vs) H)(len:autoParam (∀vs H Q E,sp vs H Q E->vs.length=ps.length) aP6):xj P w K mg base (CX2 P w) (k+1) f fd ps sp:=F.okY S len hbody
theorem Fun.qa4 {x qual:Str}{st:Stmt}{f:Addr}{fd:FuncData}{N ps:List Str}{k:Nat}{sp:Sp}(F:Fun K x qual st f fd)(hbody:∀(cdv:Value)(A:Around)(outer:List Env)(s:Shared)(H:Hp)(vs:List V)(Q:VK)(E:XK),jfe k (A.deeper (envOfC qual (jt st) s.heap.objs.size f cdv))->sp vs H Q E->∃t,PSs (jrs (CX2 P w) P w K mg base N qual (jt st) f cdv A outer s H E) (jcg st) t/\t {nx:=λ_ H'=>Q .non H',rt:=Q} (start N vs) H)(S:autoParam (qm N ps (jt st)) aP8)(len:autoParam (∀vs H Q E,sp vs H Q E->vs.length=ps.length) aP6):xj P w K mg base (CX2 P w) (k+1) f fd ps sp:=F.okY S len hbody
theorem Inv.j26 {X:Cx}{pins:List (Addr×Obj)}{U:St}{H:Hp}{s:Shared}(I:Inv X pins U H s){a:Addr}(e:s.heap.get? a=none):H a=none:=by
 cases z:H a with
 |none=>rfl
 |some u=>obtain⟨o,q⟩:=(I.hok a u z).there;rw[e]at q;cases q
theorem jvk {N:List Str}{qual:Str}{scope:Scope}{f:Addr}{cd:Value}{A:Around}{outer:List Env}{s:Shared}{H:Hp}{E:XK}{x:Str}{C:Addr}{e:Expr}{es:List Expr}{t:TA}{np cpos pos:Pos}(hg:Gl (jrs (CX2 P w) P w K mg base N qual scope f cd A outer s H E) x)(hm:mg x=some (.ref C))(hC:j7v K C)(ha:PA (jrs (CX2 P w) P w K mg base N qual scope f cd A outer s H E) (e::es) t)(hdb:autoParam ((x==("__debug__":Str))=false) aP2)(he:autoParam (starEach (e::es) (envOfC qual scope s.heap.objs.size f cd)=(false,eval e (envOfC qual scope s.heap.objs.size f cd))::starEach es (envOfC qual scope s.heap.objs.size f cd)) aP1)(hpl:autoParam ((backTo cpos (starEach es (envOfC qual scope s.heap.objs.size f cd))).any (·.1)=false) aP1):
  PS (jrs (CX2 P w) P w K mg base N qual scope f cd A outer s H E) (.Raise (some (.Call (.Name x np) (e::es) [] cpos)) none pos) (j3l (E (.ref C) none) t):=
 j2l rfl hg hm hC ha (λ{pins U H1 s1 ea vs h1} I hx q=>by obtain⟨t,h2,_,_⟩:=hx.there;exact j3c (I.kept (t':=s1.toks) hx.keeps) h2 rfl (I.j55 rfl hx.new) (I.j26 hx.new) q) hdb he hpl
end
noncomputable def jzu (C:Addr)(sp:Sp)(W:Option Addr->Hp->Prop)(t:TA):TS:=λ_ U H=>t U H λvs H1=>vs.length<=sizeLine/\∀ea,H1 ea=none->sp (.ref ea::vs) (upd H1 ea (jvm ea C)) (λv H2=>v= .non/\∃d,H2 ea=some (jpm ea C d)/\W (some d) (λb=>if b=ea then none else H2 b)) E0
section
variable {X:Cx}
theorem j0e {k:Nat}{fI C:Addr}{fd:FuncData}{ps:List Str}{sp:Sp}{fld x:Str}{e:Expr}{es:List Expr}{t:TA}{np cpos pos:Pos}{W:Option Addr->Hp->Prop}(hc:X.calm=true)(hex:X.ex=[])(hg:Gl X x)(hm:X.mg x=some (.ref C))(hI:j21 X.K C fI fld)(Fn:xj X.prog X.w X.K X.mg X.base CX0 k fI fd ps sp)(hr:jfe (k+1) X.A)(hb:Binds X.K fd ps [])(ha:PA X (e::es) t)(hxe:∀{pins:List (Addr×Obj)}{U:St}{H:Hp}{s:Shared}{ea t:Addr}{oe:Obj},Inv X pins U H s->s.heap.get? ea=some oe->oe.data= .fields #[.ref t,.none,.none,.none,.bool false,.none]->X.s₀.heap.get? ea=none->H ea=none->oe.cls= .ref C->W oe.dict H->X.xe (.ref ea) s)(hdb:autoParam ((x==("__debug__":Str))=false) aP2)(he:autoParam (starEach (e::es) X.env=(false,eval e X.env)::starEach es X.env) aP1)(hpl:autoParam ((backTo cpos (starEach es X.env)).any (·.1)=false) aP1):
  PS X (.Raise (some (.Call (.Name x np) (e::es) [] cpos)) none pos) (jzu C sp W t):=by
 intro pins s U H D I h;have FB:=F.excBase_ValueError;obtain⟨_,bm,N,nm,qn,bs,sn,sub,ab,col,dd,k0,k1,k2,k3,k5,hC0,T0⟩:=jtc I.mod.kin hI.cls;have hpl':((backTo cpos (starEach (e::es) X.env)).any λx=>x.fst)=false:=by rw[he];show(false||(backTo cpos (starEach es X.env)).any (·.1))=false;rw[hpl];rfl
 rw[arm_exec_Raise];refine wpAny_bind (wpAny_standAt ?_);refine jxr (C:=C) (nm:=nm) (q:=qn) (N:=N) (bs:=bs) (bm:=bm) (hdct:=true) (sn:=sn) (sub:=sub) (ab:=ab) (col:=col) (dd:=dd) (k0:=k0) (k1:=k1) (k2:=k2) (k3:=k3) (k5:=k5) (newId:="ValueError.__new__") (T0.hasType FB.hasBase) (I.ok.hd hc) (wpAny_bind (wpAny_mono (wpAny_Call_ofName (jjd I hg hm ?_ hdb)) (λv s3 h3=>wpAny_bind (wpAny_standAt (wpAny_pure h3))) λ_ _ x=>x));have h1:wpAny (model X.prog X.w) X.A (evalArgs (.ref C) true (backTo cpos (starEach (e::es) X.env)) []) (λa s2=>∃us vs H2,a=⟨us,[]⟩/\Inv X pins U H2 s2/\Vals vs us/\vs.length<=sizeLine/\∀ea,H2 ea=none->sp (.ref ea::vs) (upd H2 ea (jvm ea C)) (λv H3=>v= .non/\∃d,H3 ea=some (jpm ea C d)/\W (some d) (λb=>if b=ea then none else H3 b)) E0) X.xe s:=by
  have hA:=ha cpos pins s U H _ I h;rw[he]at hA⊢;exact Calls.evalArgs_plain (thn hA λus s2 ⟨vs,H2,I2,r2,hz,q2⟩=>⟨us,vs,H2,rfl,I2,r2,hz,q2⟩)
 delta callWith;refine wpAny_bind (wpAny_holding (wpAny_mono h1 (λa s2 h2=>wpAny_bind (wpAny_standAt ?_)) λ_ _ x=>x));obtain⟨us,vs,H2,rfl,I2,r2,hz,q2⟩:=h2;have hC:=I2.bk _ _ hC0;have T:=T0.keeps I2.bk;obtain⟨⟨oI,hoI,hoc⟩,_⟩:=jtc I2.kIn hI.cls;obtain⟨hp,g,dr,tk,os⟩:=s2;simp only[hpl'];refine wpAny_bind (wpAny_keeperOf_exc hC ?_);refine wpAny_bind (j0c FB T hC (PySem.W.looks_findIn I2.kIn hI.ini) hoI hoc (by show us.length<=sizeLine;rw[<-r2.length];exact hz) λh' ea hmd=>?_);have hna:hp.get? ea=none:=hmd.new;have ne0:∀b o,hp.get? b=some o->b≠ea:=λb o e z=>by rw[z,hna]at e;cases e
 obtain⟨t0,het,_,_⟩:=hmd.there;have I3:Inv X pins U H2 ⟨h',g,dr,tk,os⟩:=I2.kept (t':=tk) hmd.keeps;have hH2:H2 ea=none:=I2.j26 hna;have I4:Inv X pins U (upd H2 ea (jvm ea C)) ⟨h',g,dr,tk,os⟩:=by
  refine I3.j4k hex hH2 (I2.j55 hex hna) ?_ (λz c e=>?_) (λp hp'=>?_) ⟨⟨t0,_,het⟩,⟨_,het⟩,λh1 h2 p k=>?_⟩
  .obtain⟨m,⟨o',_,_,ho',_⟩,_⟩:=I2.loc;exact(ne0 _ _ ho').symm
  .obtain⟨v',o',ho',_⟩:=I2.cell z c e;exact ne0 _ _ ho'
  .exact ne0 _ _ (I2.pin p hp').1
  .obtain⟨t',sl',e'⟩:=p;exact⟨t',sl',k _ e'⟩
 have hq:=q2 ea hH2;have r3:Vals (V.ref ea::vs) (Value.ref ea::us):=.cons rfl r2;have hl:(Value.ref ea::us++[]).length=ps.length:=by have e:=r3.length;rw[Fn.len _ _ _ _ hq]at e;rw[append_nil];exact e.symm
 have hbt:=hb ⟨h',g,dr,tk,os⟩ (Value.ref ea::us) I4.kIn hl;rw[append_nil]at hbt;refine wpAny_call (codeAny_mono (Fn.run _ X.stack _ _ ⟨Value.ref ea::us,[]⟩ (Value.ref ea::us) _ _ E0 (hr.make C us []) (I4.j50.make C us []) hbt r3 hq) λr s' hq'=>?_);cases r with
 |error e'=>exact False.elim hq'
 |ok fl=>
  cases fl with
  |ret u=>obtain⟨v,H5,I5,rv,⟨ev,d,hd5,w5⟩⟩:=I4.after hq';subst ev;refine⟨rv,wpAny_bind (wpAny_holding (wpAny_point (wpAny_pure ?_)))⟩;obtain⟨⟨t5,sl5,he5⟩,_,_⟩:=I5.hok ea _ hd5;exact⟨ea,_,t5,rfl,I5.bk _ _ hC0,he5,rfl,rfl,hxe (I5.drop hd5) he5 rfl (I2.j55 hex hna) (if_pos rfl) rfl w5⟩
  |next=>exact False.elim hq'
  |brk=>exact False.elim hq'
  |cont=>exact False.elim hq'
end
noncomputable def j3j (ea:Addr)(cls:Value)(dd:Option Addr):HO:=.ext λh=>∃o vs,h.get? ea=some o/\o.cls=cls/\o.data= .fields vs/\o.dict=dd
noncomputable def jqx (X:Cx)(pn:List (Addr×Obj))(W:St->Value->Option Addr->Hp->Prop):Cx:={X with pn:=pn,xe:=λe s'=>∃(pins:List (Addr×Obj))(U:St)(H:Hp)(s0:Shared)(ea:Addr)(cls:Value)(dd:Option Addr)(H':Hp),e= .ref ea/\Inv {X with pn:=pn} pins U H s0/\Fly X.prog X.w X.stack H H' s0 s' ea cls/\(∃oe,s'.heap.get? ea=some oe/\oe.dict=dd)/\W U cls dd H'}
section
variable {X:Cx}{pins pn:List (Addr×Obj)}{U:St}{H H':Hp}{s s':Shared}
theorem Inv.j57 {W:St->Value->Option Addr->Hp->Prop}(I:Inv X pins U H s)(h:∀p∈pn,p∈X.pn++pins):Inv (jqx X pn W) pins U H s:=I.j1a (Yq:=jqx X pn W) (I.ok.j1a (Yq:=jqx X pn W) ⟨rfl,rfl,rfl⟩ rfl rfl rfl rfl rfl rfl rfl I.ok.hd I.ok.frames) rfl rfl rfl rfl rfl rfl rfl rfl λp hp=>(mem_append.mp hp).elim (h p) λz=>mem_append_right _ z
theorem Inv.j24 {W:St->Value->Option Addr->Hp->Prop}(I:Inv (jqx X pn W) pins U H s):Inv {X with pn:=pn} pins U H s:=I.j1a (Yq:={X with pn:=pn}) (I.ok.j1a (Yq:={X with pn:=pn}) ⟨rfl,rfl,rfl⟩ rfl rfl rfl rfl rfl rfl rfl I.ok.hd I.ok.frames) rfl rfl rfl rfl rfl rfl rfl rfl λ_ hp=>hp
theorem j4g {W:St->Value->Option Addr->Hp->Prop}(I:Inv (jqx X pn W) pins U H s)(e:Value)(s':Shared)(h:CX2 X.prog X.w X.stack H s (λcls dd H'=>W U cls dd H') e s'):(jqx X pn W).xe e s':=by obtain⟨ea,cls,dd,H',rfl,F,hd,q⟩:=h;exact⟨pins,U,H,s,ea,cls,dd,H',rfl,I.j24,F,hd,q⟩
theorem Inv.less {a:Addr}{φ ψ:Heap->Prop}(I:Inv X pins U H s)(ha:H a=some (.ext φ))(h:∀h,φ h->ψ h)(st:∀h1 h2:Heap,ψ h1->(∀o,h1.get? a=some o->h2.get? a=some o)->ψ h2):Inv X pins U (upd H a (.ext ψ)) s:=by obtain⟨p,⟨o,e⟩,_⟩:=I.hok a _ ha;exact I.write (t':=s.toks) (x:=a) (e:=a) (h':=s.heap) (by rw[ha];exact True.intro) (.inl rfl) (λb u _ q=>q) ⟨o,e⟩ ⟨h _ p,⟨o,e⟩,st⟩
noncomputable def j9t (D:Ends)(i:Nat)(ea:Addr)(cls:Value)(dd:Option Addr):Ends:=
  { nx:=λU2 H2=>H2 ea=some (j3j ea cls dd)/\D.nx (U2.set i none) (upd H2 ea (jt1 ea cls))
    rt:=λv H2=>H2 ea=some (j3j ea cls dd)/\D.rt v (upd H2 ea (jt1 ea cls))
    bk:=λU2 H2=>H2 ea=some (j3j ea cls dd)/\D.bk (U2.set i none) (upd H2 ea (jt1 ea cls))
    ct:=λU2 H2=>H2 ea=some (j3j ea cls dd)/\D.ct (U2.set i none) (upd H2 ea (jt1 ea cls))}
theorem j13 {s0 s1:Shared}{H1:Hp}{D:Ends}{x n:Str}{i:Nat}{np hpos:Pos}{b₀:Stmt}{suite:List Stmt}{rest:List ExceptHandler}{Pc C ea t:Addr}{dd:Option Addr}{ts:TS}{h₅ Bq:Heap}{U':St}(hstk:X.stack=X.env::X.outer)(hex:X.ex=[])(hg:Gl X x)(hm:X.mg x=some (.ref Pc))(hB:PySem.W.mroIn X.K Pc (.type "BaseException")=some true)(hN:X.N.Nodup)(hi:X.N[i]?=some n)(hn:X.env.scope.names.lookup n=some .local)(hs:∀ea,PSs (jyo X ea) (b₀::suite) ts)(hdb:(x==("__debug__":Str))=false)(IX:Inv X pins U' H1 s0)(F:Fly X.prog X.w X.stack H1 H' s0 s1 ea (.ref C))(hfl5:Heap.FlyingW Bq X.stack ea (.ref C) (.ref t) h₅)(hu:s1.heap.UpToSlots h₅)(k1:∀b o o',s0.heap.get? b=some o->s1.heap.get? b=some o'->b∉frs X.stack->Bq.get? b=some o')(k2:∀b u o',H' b=some u->s1.heap.get? b=some o'->Bq.get? b=some o')(hea:H' ea=none)(hdd:∃oe,h₅.get? ea=some oe/\oe.dict=dd)(hsub:PySem.W.kitCls X.K (.ref C) (.ref Pc)=some true)(hts:ts (j9t D i ea (.ref C) dd) (U'.set i (some (.ref ea))) (upd H' ea (j3j ea (.ref C) dd))):
  wpAny (model X.prog X.w) X.A (handleBy (.ref ea) X.env (.ExceptHandler (some (.Name x np)) (some n) (b₀::suite) hpos::rest)) (SP X pins D) X.xe {s1 with heap:=h₅}:=by
 have noE:∀b:Addr,b∉([]:List Addr):=λb=>by simp
 have I5:Inv X pins U' H' {s1 with heap:=h₅}:=jxh IX F hfl5 hu k1 k2;obtain⟨oe,ve,hoe,hoec,hoed,_⟩:=hfl5.first;refine wpAny_handleBy_cons (codeAny_handlers_test (Calls.Name_function_global I5.ok.kind hg (Calls.loadGlobal_global (by rw[I5.ok.glob];exact I5.mod.glob.keeps I5.bk) hm ?_) hdb)) (by intro q;cases q);refine j07 (K:=X.K) (h:=h₅) I5.kIn hoe hoec hsub hB _ _ _ _ (λ_ _ q=>q) ?_;show codeAny _ _ _ _ _;refine codeAny_handlers_suite_as ?_;refine wpAny_mono (jmg ji0 (lands_againW (E:=λ_ _=>False) (Q:=λ_ s''=>∃h₆,s''={s1 with heap:=h₆}/\Heap.FlyingW Bq X.stack ea (.ref C) (.ref t) h₆/\h₅.UpToSlots h₆) hfl5 λh₆ hfl₆ hsm₆=>⟨h₆,rfl,hfl₆,hsm₆⟩)) (λ_ s'' zQ=>?_) (λ_ _ z=>z.1.elim);obtain⟨⟨h₆,e6,hfl₆,hsm₆⟩,kd⟩:=zQ;subst e6;have I6:Inv X pins U' H' {s1 with heap:=h₆}:=jxh IX F hfl₆ (hu.trans hsm₆) k1 k2;obtain⟨oe6,ve6,hoe6,hoec6,hoed6,_⟩:=hfl₆.first;have hd6:oe6.dict=dd:=by obtain⟨o5,e5,d5⟩:=hdd;obtain⟨o6,e6,d6⟩:=kd ea o5 e5;have e6':h₆.get? ea=some o6:=e6;rw[hoe6]at e6';cases e6';exact d6.trans d5
 have new0:X.s₀.heap.get? ea=none:=IX.j55 hex F.new;have ne0:∀b o,s0.heap.get? b=some o->b≠ea:=λb o e z=>by rw[z,F.new]at e;cases e
 have I7:Inv X pins U' (upd H' ea (j3j ea (.ref C) dd)) {s1 with heap:=h₆}:=by
  refine I6.j4k hex hea new0 ?_ (λy c e=>?_) (λp hp=>?_) ⟨⟨oe6,ve6,hoe6,hoec6,hoed6,hd6⟩,⟨oe6,hoe6⟩,λh1 h2 p k=>?_⟩
  .obtain⟨m,⟨o,_,_,ho,_⟩,_⟩:=IX.loc;exact(ne0 _ _ ho).symm
  .obtain⟨v,o,ho,_⟩:=IX.cell y c e;exact ne0 _ _ ho
  .exact ne0 _ _ (IX.pin p hp).1
  .obtain⟨o,vs,e1,e2,e3,e4⟩:=p;exact⟨o,vs,k o e1,e2,e3,e4⟩
 refine jml (v:=.ref ea) I7 hN hi (.inl hn) rfl (λs8 I8=>?_) (.inr hn);refine wpAny_mono (hs ea pins s8 _ _ _ I8.j9e hts) (λf s9 q=>?_) (λ_ _ z=>z.elim);have wk:∀{σ9:St}{H9:Hp},Inv X pins σ9 H9 s9->H9 ea=some (j3j ea (.ref C) dd)->Inv X pins σ9 (upd H9 ea (jt1 ea (.ref C))) s9:=λJ e=>J.less e (λh ⟨o,vs,a1,a2,a3,_⟩=>⟨o,vs,a1,a2,a3⟩) λh1 h2 p k=>by obtain⟨o,vs,e1,e2,e3⟩:=p;exact⟨o,vs,k o e1,e2,e3⟩
 have behind:∀{σ9:St}{H9:Hp},Inv X pins σ9 H9 s9->(∀s10,Inv X pins (σ9.set i none) H9 s10->SP X pins D f s10)->wpAny (model X.prog X.w) X.A (do bindName X.env n .none;unbindBehindTheSuite X.env n hpos) (λ_ s₃=>SP X pins D f s₃) X.xe s9:=λ{σ9 H9} J k=>by
  refine wpAny_bind (wpAny_bindName (jml (v:=.non) J hN hi (.inl hn) rfl (λs10 I10=>?_) (.inr hn)));obtain⟨m,hm10,hl10⟩:=id I10.loc;have hiU:i<σ9.length:=by rw[J.len];exact(List.getElem?_eq_some_iff.mp hi).1
  obtain⟨u,ru,lk⟩:=hl10 i n .non hi (by rw[getElem?_set_self hiU]) (.inl hn);have hmn:m n=some u:=by
   rcases lk with⟨_,q⟩|⟨q,_⟩
   .exact q
   .rcases q with q|q
    .have q':X.env.scope.names.lookup n=some .cell:=q;rw[hn]at q';cases q'
    .have q':X.env.scope.names.lookup n=some .free:=q;rw[hn]at q';cases q'
  unfold unbindBehindTheSuite;refine wpAny_onRaise (wpAny_unbindName_local (env:=X.env) hn hm10 hmn (by rw[J.ok.kind];rfl) λh' u' hn' hs'=>?_);have I11:=I10.unset hN hi hm10 hl10 hn' hs';rw[List.set_set]at I11;exact k _ I11
 show wpAny _ _ _ _ _ _;cases f with
 |next=>obtain⟨σ9,H9,I9,e9,q⟩:=q;exact behind (wk (I9.j2r I8.ok) e9) λs10 I10=>⟨_,_,I10,q⟩
 |brk=>obtain⟨σ9,H9,I9,e9,q⟩:=q;exact behind (wk (I9.j2r I8.ok) e9) λs10 I10=>⟨_,_,I10,q⟩
 |cont=>obtain⟨σ9,H9,I9,e9,q⟩:=q;exact behind (wk (I9.j2r I8.ok) e9) λs10 I10=>⟨_,_,I10,q⟩
 |ret u=>obtain⟨v,σ9,H9,I9,r,e9,q⟩:=q;exact behind (wk (I9.j2r I8.ok) e9) λs10 I10=>⟨v,_,_,I10,r,q⟩
end
theorem jz8 {P:Program}{w:World}{K:PySem.W.Frag}{mg:Str->Option Value}{base:Heap}{N:List Str}{qual:Str}{scope:Scope}{f:Addr}{cd:Value}{A:Around}{outer:List Env}{s:Shared}{H:Hp}{E:XK}{k:Nat}{fI C:Addr}{fd:FuncData}{ps:List Str}{sp:Sp}{fld x:Str}{e:Expr}{es:List Expr}{t:TA}{np cpos pos:Pos}(hg:Gl (jrs (CX2 P w) P w K mg base N qual scope f cd A outer s H E) x)(hm:mg x=some (.ref C))(hI:j21 K C fI fld)(Fn:xj P w K mg base CX0 k fI fd ps sp)(hr:jfe (k+1) (jrs (CX2 P w) P w K mg base N qual scope f cd A outer s H E).A)(hb:Binds K fd ps [])(ha:PA (jrs (CX2 P w) P w K mg base N qual scope f cd A outer s H E) (e::es) t)(hdb:autoParam ((x==("__debug__":Str))=false) aP2)(he:autoParam (starEach (e::es) (envOfC qual scope s.heap.objs.size f cd)=(false,eval e (envOfC qual scope s.heap.objs.size f cd))::starEach es (envOfC qual scope s.heap.objs.size f cd)) aP1)(hpl:autoParam ((backTo cpos (starEach es (envOfC qual scope s.heap.objs.size f cd))).any (·.1)=false) aP1):
  PS (jrs (CX2 P w) P w K mg base N qual scope f cd A outer s H E) (.Raise (some (.Call (.Name x np) (e::es) [] cpos)) none pos) (jzu C sp (E (.ref C)) t):=
 j0e rfl rfl hg hm hI Fn hr hb ha (λI he hd new hn hc q=>j3c I he hd new hn (by rw[hc];exact q)) hdb he hpl
section
variable {X:Cx}{pn:List (Addr×Obj)}
noncomputable def j56 (C:Addr)(m:Str)(sp:Sp)(dvs:List V)(W:St->Value->Option Addr->Hp->Prop)(ta:TE)(t:TA):TE:=λU H Q=>ta U H λx H1=>∃a dx fs,x= .ref a/\H1 a=some (.ins C dx fs)/\fs.lookup m=none/\t U H1 λvs H2=>sp (x::(vs++dvs)) H2 Q λcls dd H'=>W U cls dd H'
theorem jxi {W:St->Value->Option Addr->Hp->Prop}{k:Nat}{f C:Addr}{fd:FuncData}{ps:List Str}{sp:Sp}{dvs:List V}{ds:List Value}{m:Str}{apos pos:Pos}{o e:Expr}{es:List Expr}{ta:TE}{t:TA}{pl:Sem Bool}(he:PE (jqx X pn W) o ta)(c:Cls X.K C)(hm:Meth X.K C m f)(F:xj X.prog X.w X.K X.mg X.base (CX2 X.prog X.w) k f fd ps sp)(hr:jfe k X.A)(hb:Binds X.K fd ps ds)(hd:Vals dvs ds)(ha:PA (jqx X pn W) (e::es) t)(hst:autoParam (starEach (e::es) X.env=(false,eval e X.env)::starEach es X.env) aP1)(hpl:autoParam ((backTo pos (starEach es X.env)).any (·.1)=false) aP1)(ht:autoParam (eval (.Call (.Attribute o m apos) (e::es) [] pos) X.env=(do
   let ov<-eval o X.env
   standAt apos.atName
   let(f,first)<-holding [ov] (getMethod ov m pl)
   callWith pos f first (backTo pos (starEach (e :: es) X.env)) (backToKw pos (keywordEach [] X.env)))) aP1) :
  PE (jqx X pn W) (.Call (.Attribute o m apos) (e::es) [] pos) (j56 C m sp dvs W ta t):=by
 intro pins s U H Q I h;refine PySem.W.methodCall_KW (pl:=pl) (thn (he pins s U H _ I h) λu s1 zQ=>?_) ht;obtain⟨x,H1,I1,rx,a,dx,fs,ex,ea,l,q⟩:=zQ;subst ex;obtain rfl:u=Value.ref a:=rx;refine jjg I1 ea c hm l ?_;refine PySem.W.callWith_K (first:=[.ref a]) (h₀:=X.base) I.ok.mod.kin hm.kp (thn (ha pos pins s1 U H1 _ I1 q) λus s2 ⟨vs,H2,I2,r,q2⟩=>⟨I2.kIn,?_⟩) hst hpl;exact j4q (us:=.ref a::us) (vs:=.ref a::vs) F hr hb hd I2 (j4g I2) (.cons rfl r) q2
end
noncomputable def j8a (K:PySem.W.Frag)(P1:Addr)(i:Nat)(tb:(St->Value->Option Addr->Hp->Prop)->TS)(ts:TS):TS:=λD U H=>∃W:St->Value->Option Addr->Hp->Prop,tb W D U H/\∀U' cls dd H' ea,W U' cls dd H'->H' ea=none->∃C,cls= .ref C/\PySem.W.kitCls K (.ref C) (.ref P1)=some true/\ts (j9t D i ea cls dd) (U'.set i (some (.ref ea))) (upd H' ea (j3j ea cls dd))
section
variable {X:Cx}
theorem jzs {body:List Stmt}{x1 n:Str}{i:Nat}{np1 hp1 pos:Pos}{b1:Stmt}{su1:List Stmt}{P1:Addr}{tb:(St->Value->Option Addr->Hp->Prop)->TS}{ts1:TS}(hstk:X.stack=X.env::X.outer)(hfr:X.env.frame=some X.env.locals)(hex:X.ex=[])(hg1:Gl X x1)(hm1:X.mg x1=some (.ref P1))(hB1:PySem.W.mroIn X.K P1 (.type "BaseException")=some true)(hN:X.N.Nodup)(hi:X.N[i]?=some n)(hn:X.env.scope.names.lookup n=some .local)(hb:∀pn W,PSs (jqx X pn W) body (tb W))(hs1:∀ea,PSs (jyo X ea) (b1::su1) ts1)(hd1:autoParam ((x1==("__debug__":Str))=false) aP2):
  PS X (.Try body [.ExceptHandler (some (.Name x1 np1)) (some n) (b1::su1) hp1] [] [] pos) (j8a X.K P1 i tb ts1):=by
 intro pins s U H D I h;obtain⟨W,h1,h2⟩:=h;refine wpAny_Try_except ?_;have back:∀{pins':List (Addr×Obj)}{U':St}{H':Hp}{s':Shared},Inv (jqx X (X.pn++pins) W) pins' U' H' s'->Inv X pins U' H' s':=λJ=>J.j24.j28 λ_ hp=>hp;refine wpAny_mono (hb (X.pn++pins) W pins s U H D (I.j57 λ_ hp=>hp) h1) (λf s1 q=>?_) (λe s1 q=>?_)
 .cases f with
  |next=>obtain⟨U1,H1,I1,q⟩:=q;exact wpAny_execs_nil ⟨U1,H1,back I1,q⟩
  |brk=>obtain⟨U1,H1,I1,q⟩:=q;exact⟨U1,H1,back I1,q⟩
  |cont=>obtain⟨U1,H1,I1,q⟩:=q;exact⟨U1,H1,back I1,q⟩
  |ret u=>obtain⟨v,U1,H1,I1,r,q⟩:=q;exact⟨v,U1,H1,back I1,r,q⟩
 .obtain⟨pins',U',H1,s0,ea,cls,dd,H',rfl,I0,F,⟨oe,hoe,hdd⟩,wW⟩:=q;have IX:Inv X pins U' H1 s0:=I0.j28 λ_ hp=>hp;obtain⟨Bq,t,hf,k1,k2⟩:=F.fly;have hea:H' ea=none:=by
   cases q:H' ea with
   |none=>rfl
   |some u=>obtain⟨o,e⟩:=(F.hok ea u q).there;have z:=k2 ea u o q e;rw[hf.2.1]at z;cases z
  obtain⟨C,rfl,m1,q1⟩:=h2 U' cls dd H' ea wW hea;have frames:X.A.frames=some (X.env::X.outer):=by rw[IX.ok.frames,hstk]
  have hf':Heap.FlyingW Bq (X.env::X.outer) ea (.ref C) (.ref t) s1.heap:=by rw[<-hstk];exact hf
  refine wpAny_mono (jmg joc (wpAny_looks_onW (E:=λ_ _=>False) (Q:=λ_ s''=>∃h₄,s''={s1 with heap:=h₄}/\Heap.HeldW Bq (X.env::X.outer) ea (.ref C) (.ref t) X.env.locals h₄/\s1.heap.UpToSlots h₄) frames hfr hf' λh₄ a b=>⟨h₄,rfl,a,b⟩)) (λ_ s'' zQ=>?_) (λ_ _ z=>z.1.elim);obtain⟨⟨h₄,e4,hheld₄,hsm₄⟩,kd4⟩:=zQ;subst e4;refine wpAny_mono (jmg ji0 (wpAny_landsW (E:=λ_ _=>False) (Q:=λ_ s''=>∃h₅,s''={s1 with heap:=h₅}/\Heap.FlyingW Bq (X.env::X.outer) ea (.ref C) (.ref t) h₅/\h₄.UpToSlots h₅) hheld₄ λh₅ a b=>⟨h₅,rfl,a,b⟩)) (λ_ s'' zQ=>?_) (λ_ _ z=>z.1.elim);obtain⟨⟨h₅,e5,hfl₅,hsm₅⟩,kd5⟩:=zQ;subst e5;have hfl5:Heap.FlyingW Bq X.stack ea (.ref C) (.ref t) h₅:=by rw[hstk];exact hfl₅
  obtain⟨o4,e4,d4⟩:=kd4 ea oe hoe;obtain⟨o5,e5,d5⟩:=kd5 ea o4 e4;exact j13 hstk hex hg1 hm1 hB1 hN hi hn hs1 hd1 IX F hfl5 (hsm₄.trans hsm₅) k1 k2 hea ⟨o5,e5,(d5.trans d4).trans hdd⟩ m1 q1
end
noncomputable def j7y {α:Type}:List α->List α->List α
 |[a,b],[c,d,e,f]=>[a,b,c,d,e,f]
 |_,_=>[]
theorem j2x {vs:List V}{us:List Value}{zs:List V}{ws:List Value}(r1:Vals vs us)(r2:Vals zs ws):Vals (j7y vs zs) (j7y us ws):=by
 cases r1 with
 |nil=>exact .nil
 | cons a r1=>
  cases r1 with
  |nil=>exact .nil
  | cons b r1=>
   cases r1 with
   |cons _ _=>exact .nil
   | nil=>
    cases r2 with
    |nil=>exact .nil
    | cons c r2=>
     cases r2 with
     |nil=>exact .nil
     | cons d r2=>
      cases r2 with
      |nil=>exact .nil
      | cons e r2=>
       cases r2 with
       |nil=>exact .nil
       |cons f r2=>
        cases r2 with
        |nil=>exact .cons a (.cons b (.cons c (.cons d (.cons e (.cons f .nil)))))
        |cons _ _=>exact .nil
theorem j2h {lo:Int}{n:Nat}{D:Addr}{g:TG}{ti:TT}{tk tv:TE}{U0:St}{H0:Hp}{QF:Hp->Prop}(Pv:Nat->St->Hp->Prop)(h0:Pv 0 U0 H0)(hs:∀i U H,i<n->Pv i U H->g (.int (lo+i)) U H λU2 H2=>ti U2 H2 λb H3=>if b=true then tk U2 H3 λy H4=>tv U2 H4 λz H5=>∃H6,jys H5 D y z H6/\Pv (i+1) U2 H6 else Pv (i+1) U2 H3)(hd:∀U H,Pv n U H->QF H):∃W:Nat->Nat->St->Hp->Prop,(∃m,W 0 m U0 H0)/\DcW (Itr lo n) g ti tk tv D QF W:=by
 refine⟨λi m U H=>m=n-i/\i<=n/\Pv i U H,⟨n,by simp,zero_le _,h0⟩,?_⟩
 rintro i m U H ⟨rfl,hi,p⟩
 by_cases hlt:i<n
 .refine .inr ⟨hlt,Pv (i+1),λU' H' p'=>⟨n-(i+1),by omega,rfl,hlt,p'⟩,λx H' y=>?_⟩;obtain⟨e,y⟩:=y;subst e y;exact hs i U _ hlt p
 .have e:i=n:=by omega
  subst e;exact .inl ⟨le_refl _,hd U H p⟩
theorem jqa (val:Nat->Int):∀k i,i<=k->val i<=val (argBest (λi j=>decide (val i>val j)) k)
 |0,i,h=>by
  have:i=0:=by omega
  subst this;exact Int.le_refl _
 | k+1,i,h=>by
  have ih:=jqa val k;unfold argBest;by_cases z:val (k+1)>val (argBest (λi j=>decide (val i>val j)) k)
  .rw[if_pos (decide_eq_true z)];by_cases q:i=k+1
   .rw[q];exact Int.le_refl _
   .have:=ih i (by omega);omega
  .rw[if_neg (by simpa using z)];by_cases q:i=k+1
   .rw[q];omega
   .exact ih i (by omega)
theorem jg9 {α β:Type}{R:α->β->Prop}:∀{xs:List α}{ys:List β}{i:Nat}{y:β},Paired R xs ys->ys[i]?=some y->∃x,xs[i]?=some x/\R x y:=λ{xs ys i y} q e=>by
 induction q generalizing i with
 |nil=>simp at e
 |cons h _ ih=>
  cases i with
  |zero=>cases Option.some.inj e;exact⟨_,rfl,h⟩
  |succ i=>exact ih (i:=i) e
section
variable {X:Cx}
theorem jy2 (hc:X.calm=true):jmo X (.builtin "max") (λxs H Q=>∃(p:Addr)(ns:List Int),xs=[.ref p]/\SqL X.K H p (ns.map V.int)/\0<ns.length/\∀M,M∈ns->(∀a∈ns,a<=M)->Q (.int M) H):=by
 intro pins s U H xs us Q I r h;obtain⟨p,ns,rfl,hq,hne,q⟩:=h;obtain⟨u,rfl,rx⟩:=vals1 r;cases rx;obtain⟨its,r',pl,hz⟩:=I.list hq;have hlen:ns.length=its.length:=by have:=r'.length;rw[length_map]at this;exact this
 have hv:∀i v,its.toArray[i]?=some v->∃t,v=Value.int (ns.getD i 0) t:=λi v e=>by
  have e':its[i]?=some v:=by simpa using e
  obtain⟨y,ey,ry⟩:=jg9 r' e';rw[getElem?_map]at ey;cases hn:ns[i]? with
  |none=>rw[hn]at ey;cases ey
  |some n=>rw[hn]at ey;cases ey;obtain⟨t,et⟩:=ry;refine⟨t,?_⟩;rw[et,getD_eq_getElem?_getD,hn];rfl
 have hp:p≠s.heap.objs.size:=by obtain⟨o,ho,_⟩:=pl.isList;exact ne_of_lt (Heap.lt_size ho)
 refine call_max_walk (wpAny_pyIter_list pl.isList ⟨s.heap.objs.size,_,_,_,_,_,_,rfl,Walks.list (A:=X.A.in1) (show X.A.in1.handled=none from I.ok.hd hc) s.heap.objs.size p hp its.toArray,⟨⟨_,Heap.get?_push_size _ rfl,rfl,rfl⟩,?_⟩,λb hb=>?_,by simpa using(by omega:0<its.length),CmpOf.ints_gt (λi=>ns.getD i 0) hv,λv h' tk hP hk=>?_⟩)
 .obtain⟨o,ho,hr⟩:=pl.isList;exact⟨o,Heap.get?_push_of_some _ ho,hr⟩
 .rw[Heap.size_push];rcases mem_cons.mp hb with rfl|hb
  .exact lt_succ_self _
  .rw[mem_singleton.mp hb];obtain⟨o,ho,_⟩:=pl.isList;exact Nat.lt_succ_of_lt (Heap.lt_size ho)
 .obtain⟨t,rfl⟩:=hv _ _ hP;refine⟨V.int (ns.getD (argBest (λi j=>decide (ns.getD i 0>ns.getD j 0)) (its.toArray.size-1)) 0),H,I.kept (t':=tk) λb o e=>hk b o (λz=>?_) (Heap.get?_push_of_some _ e),⟨t,rfl⟩,q _ ?_ λa ha=>?_⟩
  .have:b=s.heap.objs.size:=by simpa using z
   have lt:=Heap.lt_size e;rw[this]at lt;exact lt_irrefl _ lt
  .have hb:=jr4 (λi j=>decide (ns.getD i 0>ns.getD j 0)) (its.toArray.size-1);have hs:its.toArray.size=its.length:=by simp
   generalize argBest (λi j=>decide (ns.getD i 0>ns.getD j 0)) (its.toArray.size-1)=j at hb;have hj:j<ns.length:=by omega
   rw[getD_eq_getElem?_getD,getElem?_eq_getElem hj];exact List.getElem_mem hj
  .obtain⟨i,hi,rfl⟩:=mem_iff_getElem.mp ha;have:=jqa (λi=>ns.getD i 0) (its.toArray.size-1) i (by simp;omega);rw[show ns.getD i 0=ns[i]by rw[getD_eq_getElem?_getD,getElem?_eq_getElem hi];rfl]at this;exact this
end
structure j96 (K:PySem.W.Frag)(C:Addr)(m:Str)(f:Addr):Prop where
 sp:PySem.W.specialIn K (.ref C) "__getattribute__"=some (some (.builtin "type.__getattribute__"))
 rd:PySem.W.readsIn K C (.type "type")=true
 at_:PySem.W.findCls K (.ref C) (.type "type") m=some (.val (.ref f))
 kp:PySem.W.keepIn K (.ref f)=true
section
variable {X:Cx}{CX:CXT}{E:XK}{k:Nat}{f C:Addr}{fd:FuncData}{ps:List Str}{sp:Sp}{dvs:List V}{ds:List Value}{x m:Str}{p apos pos:Pos}{e:Expr}{es:List Expr}{t:TA}
theorem j4j {pl:Sem Bool}(hg:Gl X x)(hC:X.mg x=some (.ref C))(hm:j96 X.K C m f)(F:xj X.prog X.w X.K X.mg X.base CX k f fd ps sp)(hr:jfe k X.A)(hb:Binds X.K fd ps ds)(hd:Vals dvs ds)(hx:Passes CX X E)(ha:PA X (e::es) t)(hdb:autoParam ((x==("__debug__":Str))=false) aP2)(hst:autoParam (starEach (e::es) X.env=(false,eval e X.env)::starEach es X.env) aP1)(hpl:autoParam ((backTo pos (starEach es X.env)).any (·.1)=false) aP1)(ht:autoParam (eval (.Call (.Attribute (.Name x p) m apos) (e::es) [] pos) X.env=(do
   let ov<-eval (.Name x p) X.env
   standAt apos.atName
   let(f,first)<-holding [ov] (getMethod ov m pl)
   callWith pos f first (backTo pos (starEach (e :: es) X.env)) (backToKw pos (keywordEach [] X.env)))) aP1) :
  PE X (.Call (.Attribute (.Name x p) m apos) (e::es) [] pos) (j6q sp dvs E t):=by
 intro pins s U H Q I h;refine PySem.W.methodCall_KW (pl:=pl) (thn (jjd (Q:=EP X pins U λv H'=>v=V.ref C/\H'=H) I hg hC ⟨V.ref C,H,I,rfl,rfl,rfl⟩ hdb) λu s1 zQ=>?_) ht;obtain⟨y,H1,I1,ry,ey,eH⟩:=zQ;subst ey eH;obtain rfl:u=Value.ref C:=ry;refine PySem.W.method_cls I1.kIn hm.sp (PySem.W.cls_value I1.kIn hm.rd hm.at_ rfl ?_);have I2:=I1.tok (s1.toks+1);refine PySem.W.callWith_K (first:=[]) (h₀:=X.base) I.ok.mod.kin hm.kp (thn (ha pos pins _ U H1 _ I2 h) λus s2 ⟨vs,H2,I3,r,q2⟩=>⟨I3.kIn,?_⟩) hst hpl;exact jwt F hr hb hd hx I3 r q2
end
open AutoSeq1 (wpAny_loadPart')
theorem j0l {l:Addr}{its:List Value}{n:Nat}{x:Value}{e:Value->Bool}{j:Nat}{y:Value}(hj:its[j]?=some y)(hit:e y=true)(hz:its.length<=sizeLine):∀(d i:Nat),i+d=j->(∀m z,i<=m->m<j->its[m]?=some z->e z=false)->Meets (Builtin.«list.remove.loop» ⟨[.ref l,x,rawInt i],[]⟩) (λA R s=>s.heap.get? l=some {cls:=.type "list",dict:=none,data:=.seq its.toArray n,slots:=#[]}/\(∀u∈its,SeqAt.EqAt A.in1 s u x (e u))/\R (.ok (.ret .none)) {s with heap:=s.heap.update l (Obj.mapSeq λxs=>xs.eraseIdxIfInBounds j)})
 | d,i,hd,hno=>by
  intro prog w A R s h;obtain⟨hp,g,dp,tk,os⟩:=s;obtain⟨hl,he,h⟩:=h;have lt:i<its.length:=by have:=(List.getElem?_eq_some_iff.mp hj).1;omega
  obtain⟨v,hv⟩:∃v,its[i]?=some v:=⟨_,getElem?_eq_getElem lt⟩;have hi:its.toArray[((i:Nat):Int).toNat]?=some v:=by simpa using hv
  have hs1:its.toArray.size<=sizeLine:=by rw[size_toArray];exact hz
  wp_walk using wpAny_loadPart' hl;rw[hi];refine wpAny_bind (he v (mem_of_getElem? hv) prog w _ _ ?_);cases d with
  |zero=>
   have e1:i=j:=by omega
   subst e1;rw[hj]at hv;cases hv;rw[hit];wp_walk using wpAny_loadPart' hl;have small:(Obj.mapSeq (λx=>x.eraseIdxIfInBounds ((i:Nat):Int).toNat) {cls:=Value.type "list",data:=Data.seq its.toArray n}).data.pastItsLine=none:=by refine pastItsLine_seq (le_trans ?_ (le_succ_of_le hz));show(its.toArray.eraseIdxIfInBounds ((i:Nat):Int).toNat).size<=its.length;rw[List.eraseIdxIfInBounds_toArray,size_toArray];exact length_eraseIdx_le _ _
   rw[small];wp_walk;exact h
  |succ d=>
   rw[hno i v (le_refl _) (by omega) hv];wp_walk;have ec:((i:Int)+1)=((i+1:Nat):Int):=by push_cast;rfl
   rw[ec];refine⟨plainId_quiet MeetsSeq.plain_remove_loop _,codeAny_builtin MeetsSeq.entry_remove_loop ?_⟩;rw[Around.under_plainId MeetsSeq.plain_remove_loop _];exact j0l hj hit hz d (i+1) (by omega) (λm z h1 h2=>hno m z (by omega) h2) prog w A R _ ⟨hl,he,h⟩
theorem j33 {l:Addr}{its:List Value}{n:Nat}{x:Value}{e:Value->Bool}{j:Nat}{y:Value}(hj:its[j]?=some y)(hit:e y=true)(hz:its.length<=sizeLine)(hno:∀m z,m<j->its[m]?=some z->e z=false):Meets (Builtin.«list.remove» ⟨[.ref l,x],[]⟩) (λA R s=>s.heap.get? l=some {cls:=.type "list",dict:=none,data:=.seq its.toArray n,slots:=#[]}/\(∀u∈its,SeqAt.EqAt A.in1 s u x (e u))/\R (.ok (.ret .none)) {s with heap:=s.heap.update l (Obj.mapSeq λxs=>xs.eraseIdxIfInBounds j)}):=by
 intro prog w A R s h;obtain⟨hp,g,dp,tk,os⟩:=s;have go:=j0l (l:=l) (n:=n) (x:=x) hj hit hz j 0 (Nat.zero_add j) (λm z _ h2=>hno m z h2) prog w A R _ h;wp_walk using wpAny_loadPart' h.1;refine⟨plainId_quiet MeetsSeq.plain_remove_loop _,codeAny_builtin MeetsSeq.entry_remove_loop ?_⟩;rw[Around.under_plainId MeetsSeq.plain_remove_loop _];exact go
noncomputable def j83 (K:PySem.W.Frag):V->List V->Hp->VK->Prop:=λx vs H Q=>∃l xs y n nss,x= .ref l/\vs=[y]/\H l=some (.lst xs)/\j0t K H y n/\Paired (j0t K H) xs nss/\n∈nss/\Q .non (upd H l (.lst (xs.eraseIdx (nss.idxOf n))))
section
variable {X:Cx}
theorem jxx (hu:X.A.units+64<cLine):MtM X "list.remove" (j83 X.K):=by
 intro pins s U H x vs v us Q I rx rv h;obtain⟨l,xs,y,n,nss,rfl,rfl,hH,hy,hs,hm,q⟩:=h;cases rx;obtain⟨u,rfl,ru⟩:=rv.one;obtain⟨z,its,k,r,hl,e⟩:=I.j5z hH;have lx:=Paired.length hs;have hi:nss.idxOf n<nss.length:=List.idxOf_lt_length_iff.mpr hm;obtain⟨w,hw,rw'⟩:=r.get (getElem?_eq_getElem (show nss.idxOf n<xs.length by omega));have is:∀(m:Nat)(v:Value),its[m]?=some v->∃t,nss[m]?=some t/\isT X.K H n v=decide (t=n):=λm v hv=>by obtain⟨x',hx',rv'⟩:=jg9 r hv;obtain⟨t,ht,q'⟩:=qg hs hx';exact⟨t,ht,jzn I q' rv'⟩
 have yes:isT X.K H n w=true:=by obtain⟨t,ht,q'⟩:=is _ _ hw;rw[getElem?_eq_getElem hi,List.getElem_idxOf hi]at ht;rw[q',<-Option.some.inj ht];exact decide_eq_true rfl
 refine call_meets F.slot_list_remove ⟨_,e,rfl⟩ F.entry_list_remove (F.args_list_remove_2 _ _) (j33 (e:=isT X.K H n) hw yes (by omega) (λm v hlt hv=>?_)) ⟨e,λv hv=>jqv I ?_ hy ru r hs v hv,?_⟩
 .obtain⟨t,ht,q'⟩:=is _ _ hv;rw[q'];refine decide_eq_false λz=>?_;subst z;obtain⟨a1,b1⟩:=List.getElem?_eq_some_iff.mp ht;have no:=List.not_of_lt_findIdx (p:=(·==t)) (xs:=nss) (i:=m) hlt;rw[b1]at no;simp at no
 .first|(have e:X.A.in1.units=X.A.units+1:=rfl;omega)|(have e:X.A.in1.units=X.A.units:=rfl;omega)|(have e:=Around.units_in1 X.A;omega)
 .refine⟨.non,_,I.j9j (its':=its.eraseIdx (nss.idxOf n)) hH e ?_ (r.eraseIdx _) ?_,rfl,q⟩
  .show its.toArray.eraseIdxIfInBounds _=(its.eraseIdx _).toArray;rw[List.eraseIdxIfInBounds_toArray]
  .have:=length_eraseIdx_le xs (nss.idxOf n);omega
end
section
variable {K:PySem.W.Frag}{x qual:Str}{st:Stmt}{f:Addr}{fd:FuncData}{p1 p2 p3 p4 p5:Str}
noncomputable abbrev jzq (x qual:Str)(st:Stmt)(ps:List Str)(us:List Value):Prop:=∀(kV doc pm:Value)(an:Option Addr)(cdv ct:Value),bindArgs (PySem.W.fnOf x qual (jn1 st) (jcg st) (jt st) .none kV doc pm an cdv ct) ⟨us,[]⟩=pure (ps.zip us)
theorem bn1 (F:Fun K x qual st f fd)(h:∀a,jzq x qual st [p1] [a]:=by exact λ_ _ _ _ _ _ _=>rfl):Binds K fd [p1] []:=F.binds λkV doc pm an cdv ct us hl=>by obtain⟨a,rfl⟩:=length_eq_one_iff.mp hl;exact h a kV doc pm an cdv ct
theorem jbr {us:List Value}{n:Nat}(h:us.length=n+1):∃a r,us=a::r/\r.length=n:=by
 cases us with
 |nil=>cases h
 |cons a r=>exact⟨a,r,rfl,Nat.succ.inj h⟩
theorem bn2 (F:Fun K x qual st f fd)(h:∀a b,jzq x qual st [p1,p2] [a,b]:=by exact λ_ _ _ _ _ _ _ _=>rfl):Binds K fd [p1,p2] []:=F.binds λkV doc pm an cdv ct us hl=>by obtain⟨a,r1,rfl,h1⟩:=jbr hl;obtain⟨b,rfl⟩:=length_eq_one_iff.mp h1;exact h a b kV doc pm an cdv ct
theorem bn3 (F:Fun K x qual st f fd)(h:∀a b c,jzq x qual st [p1,p2,p3] [a,b,c]:=by exact λ_ _ _ _ _ _ _ _ _=>rfl):Binds K fd [p1,p2,p3] []:=F.binds λkV doc pm an cdv ct us hl=>by obtain⟨a,r1,rfl,h1⟩:=jbr hl;obtain⟨b,r2,rfl,h2⟩:=jbr h1;obtain⟨c,rfl⟩:=length_eq_one_iff.mp h2;exact h a b c kV doc pm an cdv ct
theorem bn4 (F:Fun K x qual st f fd)(h:∀a b c d,jzq x qual st [p1,p2,p3,p4] [a,b,c,d]:=by exact λ_ _ _ _ _ _ _ _ _ _=>rfl):Binds K fd [p1,p2,p3,p4] []:=F.binds λkV doc pm an cdv ct us hl=>by obtain⟨a,r1,rfl,h1⟩:=jbr hl;obtain⟨b,r2,rfl,h2⟩:=jbr h1;obtain⟨c,r3,rfl,h3⟩:=jbr h2;obtain⟨d,rfl⟩:=length_eq_one_iff.mp h3;exact h a b c d kV doc pm an cdv ct
theorem bn5 (F:Fun K x qual st f fd)(h:∀a b c d e,jzq x qual st [p1,p2,p3,p4,p5] [a,b,c,d,e]:=by exact λ_ _ _ _ _ _ _ _ _ _ _=>rfl):Binds K fd [p1,p2,p3,p4,p5] []:=F.binds λkV doc pm an cdv ct us hl=>by obtain⟨a,r1,rfl,h1⟩:=jbr hl;obtain⟨b,r2,rfl,h2⟩:=jbr h1;obtain⟨c,r3,rfl,h3⟩:=jbr h2;obtain⟨d,r4,rfl,h4⟩:=jbr h3;obtain⟨e,rfl⟩:=length_eq_one_iff.mp h4;exact h a b c d e kV doc pm an cdv ct
theorem j2m {k1:Str}(h:∀(s:Shared) a b,BindsTo s fd ⟨[a],[(k1,b)]⟩ [(p1,a),(p2,b)]):jex K fd [p1,p2] [k1] jyz jyz:=⟨λs us ws _ hl=>by rcases us with _|⟨a,_|⟨_,_⟩⟩<;>rcases ws with _|⟨b,_|⟨_,_⟩⟩;all_goals first|exact h s a b|(cases hl),λr1 r2=>j2s r1 r2⟩
theorem j8i {k1 k2:Str}(h:∀(s:Shared) a b c,BindsTo s fd ⟨[a],[(k1,b),(k2,c)]⟩ [(p1,a),(p2,b),(p3,c)]):jex K fd [p1,p2,p3] [k1,k2] j5x j5x:=⟨λs us ws _ hl=>by rcases us with _|⟨a,_|⟨_,_⟩⟩<;>rcases ws with _|⟨b,_|⟨c,_|⟨_,_⟩⟩⟩;all_goals first|exact h s a b c|(cases hl),λr1 r2=>j1g r1 r2⟩
end
end L2
namespace SortQ
open PySem PyProof.Rows PySem.W
noncomputable def Wq (f:Nat->Nat->Bool)(n:Nat){α:Type}:KasT α->(α->Prop)->Prop
 | .ret a,R=>R a
 | .ask i j k,R=>i<n/\j<n/\i≠j/\Wq f n (k (f i j)) R
theorem Wq.mono {f:Nat->Nat->Bool}{n:Nat}{α:Type}{R R':α->Prop}(h:∀a,R a->R' a):∀{t:KasT α},Wq f n t R->Wq f n t R'
 | .ret a,q=>h a q
 | .ask _ _ _,⟨a,b,c,q⟩=>⟨a,b,c,Wq.mono h q⟩
theorem Wq.bind {f:Nat->Nat->Bool}{n:Nat}{α β:Type}{g:α->KasT β}{R:β->Prop}:∀{t:KasT α},Wq f n t (λa=>Wq f n (g a) R)->Wq f n (t.bind g) R
 | .ret _,q=>q
 | .ask _ _ _,⟨a,b,c,q⟩=>⟨a,b,c,Wq.bind q⟩
structure Tq (f:Nat->Nat->Bool)(n:Nat):Prop where
 tot:∀i j,i<n->j<n->i≠j->f i j=false->f j i=true
 tr:∀i j k,i<n->j<n->k<n->f i j=true->f j k=true->f i k=true
noncomputable def Pq (n:Nat)(p:Array Nat):Prop:=p.toList.Perm (List.range n)
section
variable {n:Nat}{p:Array Nat}
theorem Pq.size (h:Pq n p):p.size=n:=by have:=h.length_eq;rw[length_range]at this;simpa using this
theorem j74 {k:Nat}(h:k<p.size):p.getD k 0=p[k]:=by simp[Array.getD,h]
theorem Pq.lt (h:Pq n p){k:Nat}(hk:k<n):p.getD k 0<n:=by have hs:=h.size;rw[j74 (by omega)];exact mem_range.mp (h.mem_iff.mp (by simp))
theorem Pq.inj (h:Pq n p){a b:Nat}(ha:a<n)(hb:b<n)(e:p.getD a 0=p.getD b 0):a=b:=by have hs:=h.size;rw[j74 (by omega),j74 (by omega)]at e;have nd:p.toList.Nodup:=h.nodup_iff.mpr nodup_range;exact(List.getElem_inj (h₀:=by simp;omega) (h₁:=by simp;omega) nd).mp (by simpa using e)
noncomputable def Uq (f:Nat->Nat->Bool)(p:Array Nat)(m:Nat):Prop:=∀a b,a<b->b<m->f (p.getD a 0) (p.getD b 0)=true
variable {f:Nat->Nat->Bool}
theorem Uq.more (T:Tq f n)(hp:Pq n p){m:Nat}(h1:1<=m)(hm:m<n)(u:Uq f p m)(h:f (p.getD (m-1) 0) (p.getD m 0)=true):Uq f p (m+1):=by
 intro a b ab bm;by_cases e:b=m
 .subst e;by_cases e2:a=b-1
  .subst e2;exact h
  .exact T.tr _ _ _ (hp.lt (by omega)) (hp.lt (by omega)) (hp.lt hm) (u a (b-1) (by omega) (by omega)) h
 .exact u a b ab (by omega)
theorem j91 (T:Tq f n)(hp:Pq n p):∀(c m:Nat),1<=m->m+c<=n->Uq f p m->Wq f n (kas_asc p c m) λr=>m<=r/\r<=m+c/\Uq f p r/\(r<m+c->f (p.getD r 0) (p.getD (r-1) 0)=true)
 |0,m,_,_,u=>⟨le_refl _,le_refl _,u,λh=>absurd h (by omega)⟩
 |c+1,m,h1,hm,u=>by
  refine⟨hp.lt (by omega),hp.lt (by omega),λe=>?_,?_⟩
  .have:=hp.inj (by omega) (by omega) e;omega
  cases h:f (p.getD m 0) (p.getD (m-1) 0)with
  |true=>exact⟨le_refl _,by omega,u,λ_=>h⟩
  |false=>have u':=u.more T hp h1 (by omega) (T.tot _ _ (hp.lt (by omega)) (hp.lt (by omega)) (λe=>by have:=hp.inj (by omega) (by omega) e;omega) h);show Wq f n (kas_asc p c (m+1)) _;refine(j91 T hp c (m+1) (by omega) (by omega) u').mono λr q=>?_;exact⟨by omega,by omega,q.2.2.1,λz=>q.2.2.2 (by omega)⟩
theorem j7n (T:Tq f n)(hp:Pq n p):∀(c m:Nat),2<=m->m+c<=n->Wq f n (kas_desc c p m 0) λr=>r.1=p/\r.2.2=0/\m<=r.2.1/\r.2.1<=m+c
 |0,m,_,_=>⟨rfl,rfl,le_refl _,le_refl _⟩
 | c+1,m,h1,hm=>by
  refine⟨hp.lt (by omega),hp.lt (by omega),λe=>?_,?_⟩
  .have:=hp.inj (by omega) (by omega) e;omega
  cases h:f (p.getD m 0) (p.getD (m-1) 0)with
  |true=>show Wq f n (kas_desc c p (m+1) 0) _;refine(j7n T hp c (m+1) (by omega) (by omega)).mono λr q=>?_;exact⟨q.1,q.2.1,by omega,by omega⟩
  |false=>
   have h':=T.tot _ _ (hp.lt (by omega)) (hp.lt (by omega)) (λe=>by have:=hp.inj (by omega) (by omega) e;omega) h;refine⟨hp.lt (by omega),hp.lt (by omega),λe=>?_,?_⟩
   .have:=hp.inj (by omega) (by omega) e;omega
   rw[h'];exact⟨rfl,rfl,le_refl _,Nat.le_add_right _ _⟩
theorem j9o (hp:Pq n p):∀(c m:Nat),1<=m->m+c<=n->Wq f n (kas_asc p c m) λr=>m<=r/\r<=m+c
 |0,m,_,_=>⟨le_refl _,le_refl _⟩
 |c+1,m,h1,hm=>by
  refine⟨hp.lt (by omega),hp.lt (by omega),λe=>?_,?_⟩
  .have:=hp.inj (by omega) (by omega) e;omega
  cases h:f (p.getD m 0) (p.getD (m-1) 0)with
  |true=>exact⟨le_refl _,by omega⟩
  |false=>show Wq f n (kas_asc p c (m+1)) _;exact(j9o hp c (m+1) (by omega) (by omega)).mono λr q=>⟨by omega,by omega⟩
theorem qab (hp:Pq n p)(m:Nat):Pq n (kas_rev p 0 m):=(Array.perm_iff_toList_perm.mp (mirror_perm p 0 m _)).trans hp
theorem j8f (hp:Pq n p){m:Nat}(h1:1<=m)(hm:m<=n):Wq f n (kas_tail3 m n p) λr=>1<=r.1/\r.1<=n/\Pq n r.2:=Wq.bind ((j9o (qab hp m) (n-m) m h1 (by omega)).mono λr q=>⟨by omega,by omega,qab hp m⟩)
theorem j7g (T:Tq f n)(hp:Pq n p)(h1:1<=n):Wq f n (kas_count n p) λr=>1<=r.1/\r.1<=n/\Pq n r.2:=by
 refine Wq.bind ((j91 T hp (n-1) 1 (le_refl _) (by omega) (λa b ab hb=>absurd hb (by omega))).mono λm q=>?_);obtain⟨q1,q2,q3,q4⟩:=q;by_cases e:m=n
 .rw[if_pos (by simp[e])];exact⟨q1,by omega,hp⟩
 .rw[if_neg (by simp[e])];by_cases e2:m>1
  .rw[if_pos e2];refine⟨hp.lt (by omega),hp.lt (by omega),λz=>?_,?_⟩
   .have:=hp.inj (by omega) (by omega) z;omega
   rw[q3 0 (m-1) (by omega) (by omega)];exact⟨q1,by omega,hp⟩
  .rw[if_neg e2];have e3:m=1:=by omega
   subst e3;refine Wq.bind ((j7n T hp (n-2) 2 (le_refl _) (by omega)).mono λr q=>?_);obtain⟨r1,r2,r3,r4⟩:=q;rw[if_neg (by omega),r1];exact j8f hp (by omega) (by omega)
theorem j0h (hp:Pq n p){k:Nat}(hk:k<n):∀(c l r:Nat),l<=r->r<=k->r-l<=c->Wq f n (kas_place p k c l r) λq=>q<=k
 |0,l,r,h1,h2,h3=>by show l<=k;omega
 | c+1,l,r,h1,h2,h3=>by
  show Wq f n (if l>=r then .ret l else _) _;by_cases e:l>=r
  .rw[if_pos e];show l<=k;omega
  .rw[if_neg e];refine⟨hp.lt hk,hp.lt (by omega),λz=>?_,?_⟩
   .have:=hp.inj hk (by omega) z;omega
   cases h:f (p.getD k 0) (p.getD ((l+r) / 2) 0)with
   |true=>show Wq f n (kas_place p k c l ((l+r) / 2)) _;exact j0h hp hk c l _ (by omega) (by omega) (by omega)
   |false=>show Wq f n (kas_place p k c ((l+r) / 2+1) r) _;exact j0h hp hk c _ r (by omega) h2 (by omega)
theorem qaj (hp:Pq n p)(k d:Nat):Pq n (bubble p k d):=(Array.perm_iff_toList_perm.mp (bubble_perm p k d)).trans hp
end
theorem qaa {f:Nat->Nat->Bool}{n:Nat}:∀(c:Nat)(p:Array Nat)(k:Nat),Pq n p->k+c<=n->Wq f n (kas_bin c p k) (Pq n)
 |0,_,_,hp,_=>hp
 |c+1,p,k,hp,hk=>Wq.bind ((j0h hp (k:=k) (by omega) k 0 k (zero_le _) (le_refl _) (by omega)).mono λl _=>qaa c _ (k+1) (qaj hp k _) (by omega))
theorem j7j (n:Nat):Pq n (List.toArray (List.range n)):=by unfold Pq;rw[List.toList_toArray]
theorem j8o {f:Nat->Nat->Bool}{n:Nat}(T:Tq f n)(h1:1<=n):Wq f n (kas_sort n) (Pq n):=by
 refine Wq.bind ((j7g T (j7j n) h1).mono λr q=>?_);by_cases e:r.1<n
 .rw[if_pos e];exact qaa _ _ _ q.2.2 (by omega)
 .rw[if_neg e];exact q.2.2
end SortQ
namespace L2
open PySem PySem.Spec PyProof.Rows PySem.W
theorem jz9 {f:Nat->Nat->Bool}{n:Nat}{s:Shared}{cmp:Nat->Nat->(Bool->Shared->Prop)->Shared->Prop}{α:Type}{R:α->Prop}(hc:∀i j C,i<n->j<n->C (f i j) s->cmp i j C s):∀{t:KasT α},SortQ.Wq f n t R->t.kasWp cmp (λp s2=>s2=s/\R p) s
 | .ret _,h=>⟨rfl,h⟩
 | .ask i j _,⟨a,b,_,h⟩=>hc i j _ a b (jz9 hc h)
section
variable {X:Cx}{pins:List (Addr×Obj)}{U:St}{H:Hp}{s:Shared}
theorem jyh {ts:List (List Int)}(nd:ts.Nodup):SortQ.Tq (λi j=>HT.lexLt (ts.getD i []) (ts.getD j [])) ts.length where
 tot:=λi j hi hj ne h=>j08 (λe=>ne (by rw[getD_eq_getElem?_getD,getD_eq_getElem?_getD,getElem?_eq_getElem hi,getElem?_eq_getElem hj]at e;exact(List.getElem_inj nd).mp e)) h
 tr:=λ_ _ _ _ _ _ h1 h2=>j3b h1 h2
theorem jva:jmo X (.builtin "sorted") (λxs H Q=>∃(p:Addr)(vs:List V)(ts:List (List Int)),xs=[.ref p]/\SqL X.K H p vs/\jxq X.K H vs ts/\vs.length<64/\ts.Nodup/\(∀t∈ts,t≠[])/\∀(q:Addr)(vs':List V)(ts':List (List Int))(ix:List Nat),H q=none->ix.Perm (List.range vs.length)->vs'=ix.map (λi=>vs.getD i .non)->ts'=ix.map (λi=>ts.getD i [])->vs'.Perm vs->ts'.Perm ts->jxq X.K H vs' ts'->Q (.ref q) (upd H q (.lst vs'))):=by
 intro pins s U H xs us Q I r h;obtain⟨p,vs,ts,rfl,hq,ht,h64,nd,ne,q⟩:=h;obtain⟨u,rfl,rx⟩:=vals1 r;cases rx;obtain⟨its,r',pl,hz⟩:=I.list hq;have l1:vs.length=its.length:=r'.length;have l2:vs.length=ts.length:=Paired.length ht;have hn:H (s.heap.objs.size+1)=none:=I.hok.fresh (le_succ _);have end_:∀(out:List Value)(vs':List V)(ts':List (List Int))(ix:List Nat),ix.Perm (List.range vs.length)->vs'=ix.map (λi=>vs.getD i .non)->ts'=ix.map (λi=>ts.getD i [])->Vals vs' out->vs'.Perm vs->ts'.Perm ts->jxq X.K H vs' ts'->EP X pins U Q (.ref (s.heap.objs.size+1)) {s with heap:=sortedAll s.heap its out.toArray}:=λout vs' ts' ix b1 b2 b3 a1 a2 a3 a4=>by
  obtain⟨e,he⟩:=sortedAll_at s.heap its out.toArray;refine⟨.ref (s.heap.objs.size+1),_,I.laid (a:=s.heap.objs.size+1) (o:=.lst vs') (t':=s.toks) (λb o z=>sortedAll_old z) (le_succ _) ⟨?_,out,e,a1,he⟩,rfl,q _ vs' ts' ix hn b1 b2 b3 a2 a3 a4⟩;rw[a2.length_eq];exact hz
 have tt:Paired (λu t=>∃a xs,u=Value.ref a/\IsTup s.heap a xs/\IntsAre xs.toList t) its ts:=jxs (λv u t hv hu=>by obtain⟨a,rfl,ha⟩:=hu;cases hv;obtain⟨ys,ry,hy,_⟩:=I.tuple ha;exact⟨a,ys.toArray,rfl,hy,intsAre_of ry⟩) r' ht;refine jxt pl.isList (by omega) (Good:=SortQ.Pq its.length) (λh2 s' k=>?_) (λh=>?_) (λp hp g=>?_)
 .have tt':Paired (λu t=>∃a xs,u=Value.ref a/\IsTup s'.heap a xs/\IntsAre xs.toList t) its ts:=Paired.vf tt λu t ⟨a,xs,e,⟨o,ho,hr⟩,hi⟩=>⟨a,xs,e,⟨o,k a o ho,hr⟩,hi⟩;obtain⟨fs,kt,lf,hf⟩:=qat tt' ne;refine kat_kind (T:=Value.type "int") kt (by omega) (λv hv=>?_) rfl ⟨rfl,?_⟩
  .obtain⟨i,t,rfl⟩:=hf v hv;exact .now
  have hs:=SortQ.j8o (jyh nd) (by omega);rw[<-l2,l1]at hs;refine jz9 (λi j C hi hj c=>?_) hs;obtain⟨a,xs,ea,⟨o,ho,hc,n,hd⟩,ia⟩:=jms (d:=Value.none) (e:=[]) tt' hi;obtain⟨b,ys,eb,⟨o',ho',hc',n',hd'⟩,ib⟩:=jms (d:=Value.none) (e:=[]) tt' hj;unfold kas_ask;rw[ea,eb];have q:=jxb (prog:=X.prog) (w:=X.w) (A:=X.A.in1.in1) 0 ia ib c;rw[<-jsu ia,<-jsu ib]at q;refine kat_lt ho hd ho' hd' ?_;rw[show(Value.type "int" != Value.type "tuple")=true from rfl];simpa using q
 .refine end_ its vs ts (List.range vs.length) (List.Perm.refl _) (range_getD ..).symm (by rw[l2];exact(range_getD ..).symm) r' (List.Perm.refl _) (List.Perm.refl _) ht
 .have g1:=g;have hm:∀i∈p.toList,i<vs.length:=λi hi=>by
   rw[l1];exact mem_range.mp (g1.mem_iff.mp hi)
  refine end_ _ (p.toList.map λi=>vs.getD i .non) (p.toList.map λi=>ts.getD i []) p.toList (by rw[l1];exact g1) rfl rfl (jlt r' hm) ?_ ?_ (jlt ht hm)
  .refine(g1.map _).trans ?_;rw[<-l1,range_getD]
  .refine(g1.map _).trans ?_;rw[<-l1,l2,range_getD]
end
end L2
namespace PySem
section
variable {prog:Program}{w:World}{A:Around}{E:Value->Shared->Prop}{s:Shared}
theorem j2j {it d:Addr}{i ep:Nat}{es:Array DictEntry}{od:Obj}{Q:Option Value->Shared->Prop}(hit:s.heap.IsValIter it d i es.size ep)(hod:s.heap.get? d=some od)(hdd:od.data= .dict es ep)(hlt:i<es.size)(hQ:∀h',h'.IsValIter it d (i+1) es.size ep->Heap.SameBut it s.heap h'->Q (some es[i].val) {s with heap:=h'}):wpAny (model prog w) A (pyNext (.ref it)) Q E s:=by
 obtain⟨o,ho,hc,hd⟩:=id hit;have hT:=hit.typeIs;unfold pyNext;refine wpAny_bind (wpAny_attempt ?_);refine wpAny_callSpecial?_slot hT F.slot_dict_valueiterator_next ?_;refine wpAny_call_entry F.slot_dict_valueiterator_next hT F.entry_dict_valueiterator_next ?_ (F.args_dict_valueiterator_next_1 _);unfold Builtin.«dict_valueiterator.__next__»;wp_walk using wpAny_typeNameOfWhole_valiter hT,wpAny_fieldsOf ho hd,wpAny_dictEntries hod hdd,wpAny_dictEpoch hod hdd,wpAny_isOneOf_valiter hT;rw[if_neg (show¬(i:Int)<0 by omega),Int.toNat_natCast,Array.getElem?_eq_getElem hlt];have hit':(s.heap.update it (Obj.mapFields (·.setIfInBounds 1 (rawInt ((i:Int)+1))))).IsValIter it d (i+1) es.size ep:=⟨_,Heap.get?_update_self _ ho (Obj.isFreed_of_fields (Obj.data_mapFields hd _)),(Obj.cls_mapFields ..).trans hc,by rw[Obj.data_mapFields hd];simp[rawInt]⟩;refine wpAny_bind ?_;wp_walk using wpAny_typeNameOfWhole_valiter hT;rw[hd];show wpAny _ _ (update it (Obj.mapFields (·.setIfInBounds 1 (rawInt ((i:Int)+1))))) _ _ s;refine wpAny_update ho (wpAny_bind (wpAny_holding ?_));wp_walk using wpAny_isOneOf_valiter (s:={s with heap:=s.heap.update it (Obj.mapFields (·.setIfInBounds 1 (rawInt ((i:Int)+1))))}) hit'.typeIs;exact⟨_,rfl,wpAny_pure (hQ _ hit' (Heap.SameBut.update ..))⟩
theorem ju2 {it d:Addr}{i ep:Nat}{es:Array DictEntry}{od:Obj}{Q:Option Value->Shared->Prop}(hh:A.handled=none)(hit:s.heap.IsValIter it d i es.size ep)(hod:s.heap.get? d=some od)(hdd:od.data= .dict es ep)(hge:es.size<=i)(hQ:∀h',Heap.ExtBut it s.heap h'->Q none {s with heap:=h'}):wpAny (model prog w) A (pyNext (.ref it)) Q E s:=by
  obtain⟨o,ho,hc,hd⟩:=id hit;have hT:=hit.typeIs;unfold pyNext;refine wpAny_bind (wpAny_attempt ?_);refine wpAny_callSpecial?_slot hT F.slot_dict_valueiterator_next ?_;refine wpAny_call_entry F.slot_dict_valueiterator_next hT F.entry_dict_valueiterator_next ?_ (F.args_dict_valueiterator_next_1 _);unfold Builtin.«dict_valueiterator.__next__»;wp_walk using wpAny_typeNameOfWhole_valiter hT,wpAny_fieldsOf ho hd,wpAny_dictEntries hod hdd,wpAny_dictEpoch hod hdd,wpAny_isOneOf_valiter hT;rw[if_neg (show¬(i:Int)<0 by omega),Int.toNat_natCast,Array.getElem?_eq_none hge];wp_walk using wpAny_typeNameOfWhole_valiter hT;rw[hd];show wpAny _ _ (update it (Obj.mapFields (·.setIfInBounds 0 .none))) _ _ s;refine wpAny_update ho ?_;unfold newExc raiseNew newTuple firstArgMember;wp_walk using wpAny_newObj_type;all_goals first
    | (show wpAny _ _ (isSubtype (.type "StopIteration") (.type "StopIteration")) _ _ _
       rw[isSubtype_stop];exact wpAny_pure (wpAny_pure (hQ _ (((Heap.SameBut.update ..).extBut.push _).push _))))
    |(unfold autoParam;size_fits)
    |size_fits
theorem j1o {v d:Addr}{es:Array DictEntry}{ep:Nat}{od:Obj}{Q:Value->Shared->Prop}(hv:s.heap.IsValuesView v d)(hod:s.heap.get? d=some od)(hdd:od.data= .dict es ep)(hQ:Q (.ref s.heap.objs.size) {s with heap:=s.heap.push {cls:=.type "dict_valueiterator",data:=.fields #[.ref d,.int 0 0,.int es.size 0,.int ep 0]}}):wpAny (model prog w) A (pyIter (.ref v)) Q E s:=by
 obtain⟨ov,hov,hcv,hdv⟩:=id hv;have hT:=hv.typeIs;have run:wpAny (model prog w) A.in1 (Builtin.«dict_values.__iter__» ⟨[.ref v],[]⟩) (λfin s'=>fin= .done (.ret (.ref s.heap.objs.size))/\s'={s with heap:=s.heap.push {cls:=.type "dict_valueiterator",data:=.fields #[.ref d,.int 0 0,.int es.size 0,.int ep 0]}}) E s:=by unfold Builtin.«dict_values.__iter__» Builtin.Dict_items.dictOf Builtin.Dict_items.newIterator;wp_walk using wpAny_field hov hdv (x:=.ref d) rfl,wpAny_dictEntries hod hdd,wpAny_dictEpoch hod hdd;exact⟨rfl,by simp[rawInt,Builtin.Dict_items.ownedTupleFields,show Builtin.Dict_items.ownsTuple "dict_valueiterator"=false by decide]⟩
 refine wpAny_pyIter_slot hT F.slot_dict_values_iter (wpAny_call_entry F.slot_dict_values_iter hT F.entry_dict_values_iter (wpAny_mono run (λf s' z=>?_) λ_ _ z=>z) (F.args_dict_values_iter_1 _));obtain⟨rfl,rfl⟩:=z;exact⟨_,rfl,"dict_valueiterator",_,⟨_,Heap.get?_push_size _ rfl,rfl⟩,F.slot_dict_valueiterator_next.lookup,hQ⟩
theorem jpo (d:Addr)(hd:(d==sysModules)=false):Meets (Builtin.«dict.values» ⟨[.ref d],[]⟩) (λ_ R s=>(∃o es ep,s.heap.get? d=some o/\o.ExactDict/\o.data= .dict es ep)/\R (.ok (.ret (.ref s.heap.objs.size))) {s with heap:=s.heap.push {cls:=.type "dict_values",data:=.fields #[.ref d]}}):=
 .of_wp λprog w A R s h=>by obtain⟨hp,g,dr,tk,os⟩:=s;obtain⟨⟨o,es,ep,ho,hx,hdd⟩,h⟩:=h;have hT:Shared.TypeIs ⟨hp,g,dr,tk,os⟩ (.ref d) "dict":=⟨o,ho,hx.1⟩;show wpAny (model prog w) A.in1 (_ >>= _) _ _ _;unfold Builtin.Dict.noArgs;wp_walk using wpAny_notOrdered_dict hT;exact⟨_,rfl,h⟩
end
end PySem
namespace L2
open PySem PySem.Spec PyProof.Rows
noncomputable def jrt (u:HO)(vs:List V):Prop:=(∃kvs:List (Key×V),u= .dK kvs/\vs=kvs.map (·.2))\/∃kvs:List (List Key×V),u= .dT kvs/\vs=kvs.map (·.2)
theorem jrt.obj {X:Cx}{H:Hp}{h:Heap}{a:Addr}{u:HO}{vs:List V}(hv:jrt u vs)(hq:vg X.prog X.w H h a u):(a==sysModules)=false/\∃o es ep,h.get? a=some o/\o.ExactDict/\o.data= .dict es ep/\es.size=vs.length/\∀(i:Nat)(h:i<es.size),∃x,vs[i]?=some x/\RelV x es[i].val:=by
 rcases hv with⟨kvs,rfl,rfl⟩|⟨kvs,rfl,rfl⟩
 .obtain⟨hz,hs,ws,r,o,es,ep,ho,hx,hd,r1,r2,r3⟩:=hq;have len:∀{l:List DictEntry}{ws:List (Key×Value)},Pairs (zc X.prog X.w) l ws->l.length=ws.length/\∀(i:Nat) e,l[i]?=some e->∃kv,ws[i]?=some kv/\e.val=kv.2:=λ{l ws} p=>by
   induction p with
   |nil=>exact⟨rfl,λi e h=>by cases h⟩
   |cons h1 h2 _ ih=>
    refine⟨by rw[length_cons,length_cons,ih.1],λi e he=>?_⟩;cases i with
    |zero=>cases he;exact⟨_,rfl,h2⟩
    |succ i=>exact ih.2 i e he
  obtain⟨l1,l2⟩:=len r2;have lk:kvs.length=ws.length:=Paired.length r;have lz:es.size=kvs.length:=by rw[lk,<-l1];simp
  refine⟨hs,o,es,ep,ho,hx,hd,by rw[length_map];exact lz,λi hi=>?_⟩;obtain⟨kv,ekv⟩:∃kv,kvs[i]?=some kv:=⟨kvs[i]'(by omega),by simp[lz ▸ hi]⟩;obtain⟨v,ev,rv⟩:=jzg r ekv;obtain⟨kv',e1,e2⟩:=l2 i es[i] (by simp[hi]);refine⟨kv.2,by rw[getElem?_map,ekv];rfl,?_⟩;rw[ev]at e1;cases e1;rw[e2];exact rv
 .obtain⟨hz,hs,xs,r,o,es,ep,ho,hx,hd,he,nd⟩:=hq;have hsz:es.size=kvs.length:=by
   have e1:=congrArg List.length he;rw[length_map,<-Paired.length r]at e1;simpa using e1
  refine⟨hs,o,es,ep,ho,hx,hd,by rw[length_map];exact hsz,λi hi=>?_⟩;obtain⟨kv,ekv⟩:∃kv,kvs[i]?=some kv:=⟨kvs[i]'(by omega),by simp[hsz ▸ hi]⟩;obtain⟨x,ex,e1,e2,e3⟩:=qg r ekv;have hent:es[i]=entryOfKey (tupleKind (zc X.prog X.w)) x:=by
   have h1:es.toList[i]?=some es[i]:=by simp[hi]
   rw[he,getElem?_map,ex]at h1;exact(Option.some.inj h1).symm
  refine⟨kv.2,by rw[getElem?_map,ekv];rfl,?_⟩;rw[hent];exact e3
noncomputable def j6g (a:Addr)(o:Obj)(u:HO)(vs:List V):It where
 go:=λi H=>i<vs.length/\H a=some (.frz o u)
 yld:=λi H x H'=>H'=H/\vs[i]?=some x
 stop:=λi H=>vs.length<=i/\H a=some (.frz o u)
theorem jyn {X:Cx}:MtR X "dict.values" (λx xs H Q=>∃d u vs,x= .ref d/\xs=[]/\H d=some u/\jrt u vs/\∀p,H p=none->Q (.ref p) (upd H p (jg6 p d))):=by intro pins s U H x xs v us Q I rx rs h;obtain⟨d,u,vs,rfl,rfl,hq,hv,q⟩:=h;cases rx;cases rs;obtain⟨hs,o,es,ep,ho,hx,hd,_⟩:=hv.obj (I.hok d _ hq);refine call_meets PySem.F.slot_dict_values ⟨o,ho,hx.1⟩ PySem.F.entry_dict_values (PySem.F.args_dict_values_1 _) (jpo d hs) ⟨⟨o,es,ep,ho,hx,hd⟩,?_⟩;refine⟨.ref s.heap.objs.size,_,I.laid (t':=s.toks) (o:=jg6 s.heap.objs.size d) (λb ob q=>Heap.get?_push_of_some _ q) (le_refl _) ?_,rfl,q _ I.fresh⟩;refine⟨⟨_,Heap.get?_push_size _ rfl,rfl,rfl⟩,⟨_,Heap.get?_push_size _ rfl⟩,λh1 h2 p k=>?_⟩;obtain⟨o,e,c,d⟩:=p;exact⟨o,k o e,c,d⟩
theorem jrt.mut {u:HO}{vs:List V}(hv:jrt u vs):Mut (some u):=by
 rcases hv with⟨_,rfl,_⟩|⟨_,rfl,_⟩
 .exact True.intro
 .exact True.intro
theorem jrt.frz {X:Cx}{pins:List (Addr×Obj)}{U:St}{H:Hp}{s:Shared}{a:Addr}{o:Obj}{u:HO}{vs:List V}{es:Array DictEntry}{ep:Nat}(hv:jrt u vs)(I:Inv X pins U H s)(hd:o.data= .dict es ep)(hq:H a=some (.frz o u)):s.heap.get? a=some o/\es.size=vs.length/\∀(i:Nat)(h:i<es.size),∃x,vs[i]?=some x/\RelV x es[i].val:=by
 have hok:=I.hok a _ hq;have key:s.heap.get? a=some o/\vg X.prog X.w H s.heap a u:=by
  rcases hv with⟨_,rfl,_⟩|⟨_,rfl,_⟩
  .exact hok
  .exact hok
 obtain⟨ho,hr⟩:=key;obtain⟨_,o',es',ep',ho',_,hd',h1,h2⟩:=hv.obj hr;cases Option.some.inj (ho'.symm.trans ho);rw[hd]at hd';cases hd';exact⟨ho,h1,h2⟩
theorem j41 {P:Program}{w:World}{K:PySem.W.Frag}{tg:Expr}(a it:Addr)(o:Obj){u:HO}{vs:List V}(hv:jrt u vs)(es:Array DictEntry)(ep:Nat)(hd:o.data= .dict es ep):Turn P w K tg (j6g a o u vs) [it] it (λi h=>h.IsValIter it a i vs.length ep) where
 mem:=by simp
 obj:=λi h st b hb=>by
  have e:b=it:=by simpa using hb
  subst e;obtain⟨o,e,c,d⟩:=st;exact⟨o,e,λv z=>by rw[d]at z;cases z⟩
 keep:=λi h h' st k=>st.at λo e=>k it (by simp) o e
 item:=by
  intro X hP hw hK hc i pins s U H E I hf st hg;subst hP hw hK;obtain⟨hi,hq⟩:=hg;obtain⟨ho,hsz,hval⟩:=hv.frz I hd hq;have hlt:i<es.size:=by omega
  obtain⟨x,ex,rx⟩:=hval i hlt;obtain⟨f0,f1,f2,f3,f4,f5⟩:=hf it (by simp);rw[<-hsz]at st;refine j2j st ho hd hlt λh' st' sb=>?_;have I1:Inv X pins U H {s with heap:=h'}:=I.turned (t':=s.toks) (λb o hb e=>(sb.2 b hb).trans e) f0 f1 f3 f4 f5;rw[hsz]at st';obtain⟨oi,ei,ci,di⟩:=id st';exact⟨_,rfl,jwn (s:={s with heap:=h'}) ei ci di (by decide) ⟨x,H,I1,rx,⟨rfl,ex⟩,st',λb hb=>(hf b hb).1⟩⟩
 done:=by intro X hP hw hK hc i pins s U H E I hf st hg;subst hP hw hK;obtain⟨hi,hq⟩:=hg;obtain⟨ho,hsz,_⟩:=hv.frz I hd hq;obtain⟨f0,f1,f2,f3,f4,f5⟩:=hf it (by simp);rw[<-hsz]at st;exact ju2 (I.ok.hd hc) st ho hd (by omega) λh' eb=>⟨rfl,I.turned (t':=s.toks) (λb o hb e=>eb b o hb e) f0 f1 f3 f4 f5⟩
 self:=λ_ _ _ _ _ st h=>wpAny_pyIter_valiter st h
noncomputable def iVd (tl:TE):TI:=λU H R=>tl U H λx H1=>∃v a u vs,x= .ref v/\H1 v=some (jg6 v a)/\H1 a=some u/\jrt u vs/\∀o,R (j6g a o u vs) (upd H1 a (.frz o u))
theorem j8n {X:Cx}{tg l:Expr}{tl:TE}(hl:PE X l tl):PI X tg l (iVd tl):=by
 intro pins s U H R I h;refine thn (hl pins s U H _ I h) λv s1 zQ=>?_;obtain⟨x,H1,I1,r1,q1⟩:=zQ;obtain⟨v,a,u,vs,e,hvw,hq,hv,q⟩:=q1;subst e;cases r1;obtain⟨hs,o,es,ep,ho,hx,hd,hsz,_⟩:=hv.obj (I1.hok a _ hq);obtain⟨hvv,_,_⟩:=(show vg X.prog X.w H1 s1.heap v (jg6 v a)from I1.hok v _ hvw);refine j1o hvv ho hd ?_;have I2:=I1.freeze hv.mut hq ho;have hn:upd H1 a (.frz o u) s1.heap.objs.size=none:=I2.hok.fresh (le_refl _);refine⟨s1.heap.objs.size,[s1.heap.objs.size],_,_,_,rfl,I2.kept (t':=s1.toks) λb o e=>Heap.get?_push_of_some _ e,j41 a _ o hv es ep hd,?_,λb hb=>?_,q o⟩
 .rw[<-hsz];exact⟨_,Heap.get?_push_size _ rfl,rfl,rfl⟩
 .have e:b=s1.heap.objs.size:=by simpa using hb
  subst e;exact I2.j43 (le_refl _) hn
theorem j86 {a:Addr}{o:Obj}{u:HO}{vs:List V}{g:TG}{ti:TT}{te:TE}{U0:St}{H0:Hp}{Q:VK}(Pv:Nat->List V->St->Hp->Prop)(h0:Pv 0 [] U0 H0)(hl:∀i ys U H,i<=vs.length->Pv i ys U H->H a=some (.frz o u)/\ys.length<=sizeLine)(hs:∀i x ys U H,vs[i]?=some x->Pv i ys U H->g x U H λU2 H2=>ti U2 H2 λc H3=>if c=true then te U2 H3 λy H4=>Pv (i+1) (ys++[y]) U2 H4 else Pv (i+1) ys U2 H3)(hd:∀ys U H,Pv vs.length ys U H->∀p,H p=none->Q (.ref p) (upd H p (.lst ys))):∃W:Nat->Nat->List V->St->Hp->Prop,(∃m,W 0 m [] U0 H0)/\∀i m ys U H,W i m ys U H->ys.length<=sizeLine/\(((j6g a o u vs).stop i H/\jx3 Q ys H)\/((j6g a o u vs).go i H/\∃N:List V->St->Hp->Prop,(∀ys' U' H',N ys' U' H'->∃m',m'<m/\W (i+1) m' ys' U' H')/\∀x H',(j6g a o u vs).yld i H x H'->g x U H' λU2 H2=>ti U2 H2 λb H3=>if b=true then te U2 H3 λy H4=>N (ys++[y]) U2 H4 else N ys U2 H3)):=by
 refine⟨λi m ys U H=>m=vs.length-i/\i<=vs.length/\Pv i ys U H,⟨vs.length,by simp,zero_le _,h0⟩,?_⟩
 rintro i m ys U H ⟨rfl,hi,p⟩
 obtain⟨q,hz⟩:=hl i ys U H hi p;refine⟨hz,?_⟩;by_cases hlt:i<vs.length
 .refine .inr ⟨⟨hlt,q⟩,Pv (i+1),λys' U' H' p'=>⟨vs.length-(i+1),by omega,rfl,hlt,p'⟩,λx H' y=>?_⟩;obtain⟨e,ex⟩:=y;subst e;exact hs i x ys U _ ex p
 .have e:i=vs.length:=by omega
  subst e;exact .inl ⟨⟨le_refl _,q⟩,hd ys U H p⟩
end L2
set_option Elab.async false
set_option linter.all false
set_option maxRecDepth 100000
namespace M
structure O where
 p:Int
 n:Int
 g:Int
 m:Int
 deriving DecidableEq
noncomputable def ye (q:Int)(o:O):Bool:=decide (0<=o.p/\o.p<=q-1/\0<=o.g/\o.g<=q-1/\o.p≠o.g/\0<=o.n/\o.n<=99/\1<=o.m/\o.m<=1000)
theorem jam {q:Int}{o:O}:ye q o=true↔(0<=o.p/\o.p<=q-1/\0<=o.g/\o.g<=q-1/\o.p≠o.g/\0<=o.n/\o.n<=99/\1<=o.m/\o.m<=1000):=by unfold ye;rw[decide_eq_true_iff]
end M
namespace M
open PySem L2
theorem zs0:0<=sizeLine:=by decide
theorem zs1:1<=sizeLine:=by decide
theorem zs2:2<=sizeLine:=by decide
theorem zs3:3<=sizeLine:=by decide
theorem zs4:4<=sizeLine:=by decide
theorem zs5:5<=sizeLine:=by decide
theorem zs6:6<=sizeLine:=by decide
theorem zs7:7<=sizeLine:=by decide
theorem zs9:9<=sizeLine:=by decide
theorem j97:11<=sizeLine:=by decide
theorem yk {X:Cx}{e0 e1:Expr}{t0 t1:TE}(h0:PE X e0 t0)(h1:PE X e1 t1)(s0:autoParam (isStar e0=false) aP1)(s1:autoParam (isStar e1=false) aP1):PA X [e0,e1] (vp t0 (vp t1 jz1)):=by refine jc h0 ?_ s0;refine jc h1 ?_ s1;exact jg
theorem jlv {X:Cx}{e0 e1 e2:Expr}{t0 t1 t2:TE}(h0:PE X e0 t0)(h1:PE X e1 t1)(h2:PE X e2 t2)(s0:autoParam (isStar e0=false) aP1)(s1:autoParam (isStar e1=false) aP1)(s2:autoParam (isStar e2=false) aP1):PA X [e0,e1,e2] (vp t0 (vp t1 (vp t2 jz1))):=by refine jc h0 ?_ s0;refine jc h1 ?_ s1;refine jc h2 ?_ s2;exact jg
theorem j71 {X:Cx}{e0 e1 e2 e3:Expr}{t0 t1 t2 t3:TE}(h0:PE X e0 t0)(h1:PE X e1 t1)(h2:PE X e2 t2)(h3:PE X e3 t3)(s0:autoParam (isStar e0=false) aP1)(s1:autoParam (isStar e1=false) aP1)(s2:autoParam (isStar e2=false) aP1)(s3:autoParam (isStar e3=false) aP1):PA X [e0,e1,e2,e3] (vp t0 (vp t1 (vp t2 (vp t3 jz1)))):=by refine jc h0 ?_ s0;refine jc h1 ?_ s1;refine jc h2 ?_ s2;refine jc h3 ?_ s3;exact jg
theorem j78 {X:Cx}{e0 e1 e2 e3 e4:Expr}{t0 t1 t2 t3 t4:TE}(h0:PE X e0 t0)(h1:PE X e1 t1)(h2:PE X e2 t2)(h3:PE X e3 t3)(h4:PE X e4 t4)(s0:autoParam (isStar e0=false) aP1)(s1:autoParam (isStar e1=false) aP1)(s2:autoParam (isStar e2=false) aP1)(s3:autoParam (isStar e3=false) aP1)(s4:autoParam (isStar e4=false) aP1):PA X [e0,e1,e2,e3,e4] (vp t0 (vp t1 (vp t2 (vp t3 (vp t4 jz1))))):=by refine jc h0 ?_ s0;refine jc h1 ?_ s1;refine jc h2 ?_ s2;refine jc h3 ?_ s3;refine jc h4 ?_ s4;exact jg
theorem qbd {X:Cx}{e0 e1 e2 e3 e4 e5 e6:Expr}{t0 t1 t2 t3 t4 t5 t6:TE}(h0:PE X e0 t0)(h1:PE X e1 t1)(h2:PE X e2 t2)(h3:PE X e3 t3)(h4:PE X e4 t4)(h5:PE X e5 t5)(h6:PE X e6 t6)(s0:autoParam (isStar e0=false) aP1)(s1:autoParam (isStar e1=false) aP1)(s2:autoParam (isStar e2=false) aP1)(s3:autoParam (isStar e3=false) aP1)(s4:autoParam (isStar e4=false) aP1)(s5:autoParam (isStar e5=false) aP1)(s6:autoParam (isStar e6=false) aP1):PA X [e0,e1,e2,e3,e4,e5,e6] (vp t0 (vp t1 (vp t2 (vp t3 (vp t4 (vp t5 (vp t6 jz1))))))):=by refine jc h0 ?_ s0;refine jc h1 ?_ s1;refine jc h2 ?_ s2;refine jc h3 ?_ s3;refine jc h4 ?_ s4;refine jc h5 ?_ s5;refine jc h6 ?_ s6;exact jg
theorem j8q {X:Cx}{e0 e1 e2 e3 e4 e5 e6 e7 e8 e9 e10:Expr}{t0 t1 t2 t3 t4 t5 t6 t7 t8 t9 t10:TE}(h0:PE X e0 t0)(h1:PE X e1 t1)(h2:PE X e2 t2)(h3:PE X e3 t3)(h4:PE X e4 t4)(h5:PE X e5 t5)(h6:PE X e6 t6)(h7:PE X e7 t7)(h8:PE X e8 t8)(h9:PE X e9 t9)(h10:PE X e10 t10)(s0:autoParam (isStar e0=false) aP1)(s1:autoParam (isStar e1=false) aP1)(s2:autoParam (isStar e2=false) aP1)(s3:autoParam (isStar e3=false) aP1)(s4:autoParam (isStar e4=false) aP1)(s5:autoParam (isStar e5=false) aP1)(s6:autoParam (isStar e6=false) aP1)(s7:autoParam (isStar e7=false) aP1)(s8:autoParam (isStar e8=false) aP1)(s9:autoParam (isStar e9=false) aP1)(s10:autoParam (isStar e10=false) aP1):PA X [e0,e1,e2,e3,e4,e5,e6,e7,e8,e9,e10] (vp t0 (vp t1 (vp t2 (vp t3 (vp t4 (vp t5 (vp t6 (vp t7 (vp t8 (vp t9 (vp t10 jz1))))))))))):=by refine jc h0 ?_ s0;refine jc h1 ?_ s1;refine jc h2 ?_ s2;refine jc h3 ?_ s3;refine jc h4 ?_ s4;refine jc h5 ?_ s5;refine jc h6 ?_ s6;refine jc h7 ?_ s7;refine jc h8 ?_ s8;refine jc h9 ?_ s9;refine jc h10 ?_ s10;exact jg
noncomputable def top (i:Nat):Stmt:=PySem.Challenge.pw_manypurses_k12_whole_wallets.main.body.getD i (.Pass ⟨0,0,0,0⟩)
noncomputable abbrev jjn:Stmt:=top 2
noncomputable abbrev jev:Stmt:=top 3
noncomputable abbrev jji:Stmt:=top 30
noncomputable abbrev jjp:Stmt:=top 31
noncomputable abbrev jb7:Stmt:=top 4
noncomputable abbrev jav:Stmt:=top 5
noncomputable abbrev ua:Stmt:=top 9
noncomputable abbrev jpj:Stmt:=top 10
noncomputable abbrev jlc:Stmt:=top 11
noncomputable abbrev jld:Stmt:=top 12
noncomputable abbrev jjo:Stmt:=top 38
noncomputable abbrev ky:Stmt:=top 39
noncomputable abbrev wd:Stmt:=inClass (top 19) 0
noncomputable abbrev jmi:Stmt:=top 33
noncomputable abbrev jff:Stmt:=top 51
noncomputable abbrev jfs:Stmt:=top 52
noncomputable abbrev kz:Stmt:=inClass (top 34) 0
noncomputable abbrev wc:Stmt:=inClass (top 34) 4
noncomputable abbrev jdo:Stmt:=inClass (top 34) 1
noncomputable abbrev jap:Stmt:=inClass (top 34) 5
noncomputable abbrev wa:Stmt:=inClass (top 34) 2
noncomputable abbrev ja6:Stmt:=inClass (top 45) 0
noncomputable abbrev jbs:Stmt:=inClass (top 45) 1
noncomputable abbrev jae:Stmt:=inClass (top 45) 2
noncomputable abbrev jaw:Stmt:=inClass (top 45) 3
noncomputable abbrev gq:Stmt:=inClass (top 47) 0
noncomputable abbrev ud:Stmt:=inClass (top 47) 2
noncomputable abbrev xl:Stmt:=inClass (top 47) 8
noncomputable abbrev xy:Stmt:=inClass (top 47) 7
noncomputable abbrev kh:Stmt:=inClass (top 47) 6
noncomputable abbrev jdb:Stmt:=inClass (top 47) 3
noncomputable abbrev yy:Stmt:=inClass (top 47) 4
noncomputable abbrev jct:Stmt:=inClass (top 53) 0
noncomputable abbrev jao:Stmt:=inClass (top 53) 7
noncomputable abbrev jb1:Stmt:=inClass (top 53) 1
noncomputable abbrev jb0:Stmt:=inClass (top 53) 13
noncomputable abbrev jc7:Stmt:=inClass (top 53) 15
noncomputable abbrev gi:Stmt:=inClass (top 53) 20
noncomputable abbrev va:Stmt:=inClass (top 53) 22
noncomputable abbrev yz:Stmt:=inClass (top 53) 23
noncomputable abbrev vb:Stmt:=inClass (top 53) 24
noncomputable abbrev we:Stmt:=inClass (top 53) 21
noncomputable abbrev zx:Stmt:=inClass (top 53) 19
noncomputable abbrev yj:Stmt:=inClass (top 53) 18
noncomputable abbrev jd3:Stmt:=inClass (top 53) 3
noncomputable abbrev jda:Stmt:=inClass (top 53) 4
noncomputable abbrev jgo:Stmt:=inClass (top 53) 5
noncomputable abbrev jeu:Stmt:=inClass (top 53) 6
noncomputable abbrev jcb:Stmt:=inClass (top 53) 8
noncomputable abbrev jje:Stmt:=top 41
noncomputable abbrev jpa:Stmt:=top 42
noncomputable abbrev jbg:Stmt:=inClass (top 43) 0
noncomputable abbrev jb5:Stmt:=inClass (top 43) 1
noncomputable abbrev je8:Stmt:=inClass (top 43) 2
noncomputable abbrev zt:Stmt:=inClass (top 43) 3
noncomputable abbrev jbw:Stmt:=inClass (top 43) 4
noncomputable abbrev jgk:Stmt:=top 55
noncomputable abbrev jdl:Stmt:=top 56
noncomputable abbrev jgf:Stmt:=top 57
noncomputable abbrev je9:Stmt:=top 58
noncomputable abbrev jl1:Stmt:=top 59
noncomputable abbrev ku:Stmt:=top 60
noncomputable abbrev jd2:Stmt:=top 61
noncomputable abbrev jb8:Stmt:=top 62
noncomputable abbrev jd9:Stmt:=top 63
noncomputable abbrev jat:Stmt:=top 64
noncomputable abbrev jce:Stmt:=top 65
noncomputable abbrev jie:Stmt:=top 66
noncomputable abbrev jan:Stmt:=top 67
noncomputable abbrev j0n:Stmt:=top 68
theorem jdp:qm ["thing","purses","purse","number","goal","much"] ["thing","purses"] (jt jji):=fsc
theorem jc9:qm ["things","bound","least","thing"] ["things","bound"] (jt jb7):=fsc
theorem jnl:qm ["paper","houses","few","purses","order","signers"] ["paper","houses","few","purses"] (jt jmi):=fsc
theorem joh:qm ["self","house","thing","houses"] ["self","house","thing"] (jt jdo):=fsc
theorem kj:qm ["self","order","purse","number","goal","much"] ["self","order"] (jt jae):=fsc
theorem kq:qm ["self","order","purse","number","goal","much"] ["self","order"] (jt jaw):=fsc
theorem yb:qm ["self","votes","later","order"] ["self"] (jt xl):=fsc
theorem jeg:qm ["self","order"] ["self"] (jt xy):=fsc
theorem jeb:qm ["self","order"] ["self"] (jt kh):=fsc
theorem jca:qm ["self","word","order","house"] ["self","word","order"] (jt zx):=fsc
theorem je5:qm ["self","house","orders","order"] ["self","house","orders"] (jt yj):=fsc
theorem jix:qm ["self","purse","goal","much","asked","order"] ["self","purse","goal","much"] (jt jd3):=fsc
theorem gf:qm ["self","at","letter","word","house","order","keeper"] ["self","at"] (jt jcb):=fsc
theorem jyg:qm ["papers","key","paper"] ["papers","key","paper"] (jt jje):=fsc
theorem jaf:qm ["self","paper","purse","number","goal","much"] ["self","paper"] (jt jb5):=fsc
theorem wo:qm ["self","number"] ["self"] (jt zt):=fsc
theorem jab:qm ["_law_town_here","_law_many","_law_row","_law_at","_law_cell","_law_mixed"] ["_law_town_here","_law_many"] (jt jdl):=fsc
theorem yn:qm ["_law_caught","_law_kinds","_law_words"] ["_law_caught"] (jt ku):=fsc
theorem jh9:qm ["_law_town_here","_law_size","_law_most","_law_found","_law_one"] ["_law_town_here","_law_size","_law_most"] (jt jd2):=fsc
theorem yu:qm ["_law_town_here","_law_some_here","_law_crew","_law_foes","_law_begin","_law_rogues","_law_world_here"] ["_law_town_here"] (jt jb8):=fsc
theorem qw:qm ["_law_kind","_law_world_here","_law_one","_law_two","_law_three","_law_told_here","_law_caught","e"] ["_law_kind","_law_world_here","_law_one","_law_two","_law_three"] (jt jd9):=fsc
theorem jj6:qm ["_law_town_here","_law_world_here","_law_there"] ["_law_town_here","_law_world_here"] (jt jat):=fsc
theorem jg5:qm ["_law_town_here","_law_parts","_law_purse","_law_many","_law_goal"] ["_law_town_here","_law_parts","_law_purse"] (jt jce):=fsc
theorem xg:qm ["_law_town_here","_law_parts","_law_share","_law_world_here","_law_crew","_law_some_here","_law_foes","_law_honest","_law_begin","_law_rogues","_law_many","_law_kind","_law_order_here","_law_purse","_law_goal"] ["_law_town_here","_law_parts","_law_share"] (jt jie):=fsc
theorem vk:qm ["_law_orders","_law_begin","_law_found","_law_purse","_law_number","_law_goal","_law_much"] ["_law_orders","_law_begin"] (jt jan):=fsc
theorem yr:qm ["_law_script","_law_town_here","_law_parts","_law_world_here","_law_crew","_law_some_here","_law_foes","_law_honest","_law_begin","_law_rogues","_law_turn","_law_papers","_law_purse","_law_shutet","_law_rest","_law_got","_law_paper","_law_order_here","_law_mine","_law_left","_law_numbers","_law_due","_law_goal","_law_much"] ["_law_script"] (jt j0n):=fsc
theorem qa5:(["thing","self"]:List Str).Nodup:=by decide+kernel
theorem qai:(["order","self"]:List Str).Nodup:=by decide+kernel
theorem qav:(["keeper","purse","asked"]:List Str).Nodup:=by decide+kernel
theorem qaw:(["each"]:List Str).Nodup:=by decide+kernel
theorem qbe:(["each"]:List Str).Nodup:=by decide+kernel
theorem qac:(["house","sums","liars"]:List Str).Nodup:=by decide+kernel
theorem qba:(["_law_k","_law_foes"]:List Str).Nodup:=by decide+kernel
theorem qam:(["_law_k","_law_town_here"]:List Str).Nodup:=by decide+kernel
theorem j9p:(["order","signers"]:List Str).Nodup:=by decide+kernel
theorem qbf:(["_law_k","_law_numbers"]:List Str).Nodup:=by decide+kernel
theorem j8d:(["_law_one","_law_purse"]:List Str).Nodup:=by decide+kernel
theorem j9g:(["_law_one","_law_purse"]:List Str).Nodup:=by decide+kernel
theorem j9d:(["_law_one","_law_purse"]:List Str).Nodup:=by decide+kernel
theorem j9k:(["_law_k","_law_town_here","_law_papers"]:List Str).Nodup:=by decide+kernel
theorem j9f:(["_law_order_here","_law_world_here"]:List Str).Nodup:=by decide+kernel
theorem boot_isinstance:bootBuiltins "isinstance"=some (.builtin "isinstance"):=by decide+kernel
theorem boot_bool:bootBuiltins "bool"=some (.type "bool"):=by decide+kernel
theorem boot_int:bootBuiltins "int"=some (.type "int"):=by decide+kernel
theorem boot_len:bootBuiltins "len"=some (.builtin "len"):=by decide+kernel
theorem boot_tuple:bootBuiltins "tuple"=some (.type "tuple"):=by decide+kernel
theorem boot_sorted:bootBuiltins "sorted"=some (.builtin "sorted"):=by decide+kernel
theorem boot_list:bootBuiltins "list"=some (.type "list"):=by decide+kernel
theorem boot_sum:bootBuiltins "sum"=some (.builtin "sum"):=by decide+kernel
theorem boot_max:bootBuiltins "max"=some (.builtin "max"):=by decide+kernel
theorem boot_all:bootBuiltins "all"=some (.builtin "all"):=by decide+kernel
theorem jq3:bootBuiltins "ValueError"=some (.type "ValueError"):=by decide+kernel
theorem boot_min:bootBuiltins "min"=some (.builtin "min"):=by decide+kernel
set_option genInjectivity false in
structure Ad where
 jnw:Addr
 jne:FuncData
 jh8:Addr
 jih:FuncData
 jn3:Addr
 jju:FuncData
 jn4:Addr
 jn2:FuncData
 jh7:Addr
 jig:FuncData
 jds:Addr
 jdy:FuncData
 jcl:Addr
 jcm:FuncData
 js3:Addr
 js6:FuncData
 jku:Addr
 jll:FuncData
 jk9:Addr
 jlu:FuncData
 jn7:Addr
 jnj:FuncData
 jcs:Addr
 jco:FuncData
 jaq:Addr
 jbf:FuncData
 jpv:Addr
 jqj:FuncData
 jfq:Addr
 jfw:FuncData
 jfh:Addr
 jf0:FuncData
 pe:Addr
 jcr:FuncData
 ja0:Addr
 jah:FuncData
 jkp:Addr
 jlg:FuncData
 jec:Addr
 jd4:FuncData
 jbb:Addr
 jaj:FuncData
 wm:Addr
 jdj:FuncData
 jbu:Addr
 jfl:FuncData
 jdc:Addr
 jgy:FuncData
 jdd:Addr
 jgm:FuncData
 gj:Addr
 jbm:FuncData
 jci:Addr
 jcv:FuncData
 uv:Addr
 ur:FuncData
 ja8:Addr
 ja7:FuncData
 jfj:Addr
 jfv:FuncData
 jgg:Addr
 jhf:FuncData
 ug:Addr
 uj:FuncData
 pf:Addr
 jcp:FuncData
 jdz:Addr
 jem:FuncData
 jkj:Addr
 jkm:FuncData
 jfr:Addr
 jfd:FuncData
 jgu:Addr
 jhb:FuncData
 jbk:Addr
 jbq:FuncData
 uy:Addr
 um:FuncData
 uf:Addr
 ui:FuncData
 uu:Addr
 uw:FuncData
 jag:Addr
 jai:FuncData
 gw:Addr
 kc:FuncData
 jbh:Addr
 jbi:FuncData
 jlq:Addr
 jk2:FuncData
 jg3:Addr
 jgp:FuncData
 jlh:Addr
 jks:FuncData
 jik:Addr
 jh2:FuncData
 jiw:Addr
 ji5:FuncData
 jp5:Addr
 jp9:FuncData
 jts:Addr
 jsp:FuncData
 gd:Addr
 jbp:FuncData
 ji2:Addr
 jit:FuncData
 jh1:Addr
 jis:FuncData
 gu:Addr
 g6:FuncData
 jfy:Addr
 jfn:FuncData
 jli:Addr
 jkv:FuncData
 jlj:Addr
 jkr:FuncData
 jk5:Addr
 jls:FuncData
 jiq:Addr
 jiy:FuncData
 jqm:Addr
 jqu:FuncData
 jfz:Addr
 jft:FuncData
 jky:Addr
 jk0:FuncData
 ji8:Addr
 jh6:FuncData
 jlo:Addr
 jkz:FuncData
 jgv:Addr
 jgj:FuncData
 jia:Addr
 jib:FuncData
 jpz:Addr
 jqo:FuncData
 jgw:Addr
 jgi:FuncData
 j4f:Addr
 j3x:FuncData
 ja1:Addr
 j8:Addr
 qa:Addr
 jin:Addr
 zk:Addr
 xk:Addr
 wu:Addr
 jbc:Addr
 wq:Addr
 jtu:Addr
 jpn:Addr
 jnu:Addr
 jra:Addr
 jnm:Addr
 jkt:Addr
 jn5:Addr
 jk4:Addr
noncomputable def asked (t:Ad):List Value:=[.ref t.jkt,.ref t.jn5,.ref t.jk4,.ref t.jra,.ref t.xk,.ref t.jnm,.ref t.jbc,.ref t.wu,.ref t.jnu,.ref t.jtu,.ref t.jpn,.ref t.wq,.type "ValueError"]
structure Txt (K:W.Frag)(mg:Str->Option Value)(t:Ad):Prop where
 jf4:Fun K "is_whole" "is_whole" jjn t.jnw t.jne
 jjt:mg "is_whole"=some (.ref t.jnw)
 jjr:Binds K t.jne ["thing"] []
 qj:Fun K "is_between" "is_between" jev t.jh8 t.jih
 qo:mg "is_between"=some (.ref t.jh8)
 qp:Binds K t.jih ["thing","low","high"] []
 jdh:Fun K "is_order" "is_order" jji t.jn3 t.jju
 jf7:mg "is_order"=some (.ref t.jn3)
 jew:jex K t.jju ["thing","purses"] ["purses"] jyz jyz
 joz:∃tk,Binds K t.jju ["thing","purses"] [.int 8 tk]
 jge:Fun K "place_of" "place_of" jjp t.jn4 t.jn2
 jjl:mg "place_of"=some (.ref t.jn4)
 jjk:Binds K t.jn2 ["order"] []
 jet:Fun K "are_rising" "are_rising" jb7 t.jh7 t.jig
 jh3:mg "are_rising"=some (.ref t.jh7)
 ji1:Binds K t.jig ["things","bound"] []
 jau:Fun K "is_rising_row" "is_rising_row" jav t.jds t.jdy
 jdn:mg "is_rising_row"=some (.ref t.jds)
 jdq:Binds K t.jdy ["thing","bound"] []
 pd:Fun K "is_house_count" "is_house_count" ua t.jcl t.jcm
 jcx:mg "is_house_count"=some (.ref t.jcl)
 jcy:Binds K t.jcm ["thing"] []
 jpc:Fun K "is_few" "is_few" jpj t.js3 t.js6
 js7:mg "is_few"=some (.ref t.js3)
 jtv:Binds K t.js6 ["thing"] []
 jk8:Fun K "outnumber" "outnumber" jlc t.jku t.jll
 jq9:mg "outnumber"=some (.ref t.jku)
 jl8:jex K t.jll ["houses","few"] ["few"] jyz jyz
 jg0:Fun K "enough_of" "enough_of" jld t.jk9 t.jlu
 jla:mg "enough_of"=some (.ref t.jk9)
 jhe:jex K t.jlu ["houses","few"] ["few"] jyz jyz
 jjm:Fun K "are_sums" "are_sums" jjo t.jn7 t.jnj
 jnd:mg "are_sums"=some (.ref t.jn7)
 jnv:Binds K t.jnj ["thing"] []
 jcu:Fun K "are_first_sums" "are_first_sums" ky t.jcs t.jco
 jhs:mg "are_first_sums"=some (.ref t.jcs)
 jhw:Binds K t.jco ["thing"] []
 jfa:Fun K "__init__" "NoPurse.__init__" wd t.jaq t.jbf
 jkw:j21 K t.xk t.jaq "purse"
 jez:Binds K t.jbf ["self","purse"] []
 jq1:Fun K "checked" "checked" jmi t.jpv t.jqj
 jud:mg "checked"=some (.ref t.jpv)
 jp2:jex K t.jqj ["paper","houses","few","purses"] ["houses","few","purses"] j7w j7w
 jfg:Fun K "check_houses" "check_houses" jff t.jfq t.jfw
 jj1:mg "check_houses"=some (.ref t.jfq)
 jho:jex K t.jfw ["houses","few","liars"] ["few","liars"] j5x j5x
 jfx:Fun K "check_purses" "check_purses" jfs t.jfh t.jf0
 jki:mg "check_purses"=some (.ref t.jfh)
 jhv:jex K t.jf0 ["sums","cheats"] ["cheats"] jyz jyz
 jhq:Fun K "__init__" "Board.__init__" kz t.pe t.jcr
 jns:Meth K t.ja1 "__init__" t.pe
 jwu:Mk K t.ja1 t.pe
 jhr:Binds K t.jcr ["self","enough"] []
 je4:Fun K "is_carried" "Board.is_carried" wc t.ja0 t.jah
 xn:Meth K t.ja1 "is_carried" t.ja0
 xx:Binds K t.jah ["self","thing"] []
 jp7:Fun K "put" "Board.put" jdo t.jkp t.jlg
 jok:Meth K t.ja1 "put" t.jkp
 jpx:Binds K t.jlg ["self","house","thing"] []
 ji7:Fun K "carried" "Board.carried" jap t.jec t.jd4
 jht:Meth K t.ja1 "carried" t.jec
 jif:Binds K t.jd4 ["self"] []
 je2:Fun K "houses_for" "Board.houses_for" wa t.jbb t.jaj
 jd7:Meth K t.ja1 "houses_for" t.jbb
 jfc:Binds K t.jaj ["self","thing"] []
 jim:Fun K "__init__" "Book.__init__" ja6 t.wm t.jdj
 jo5:Meth K t.jin "__init__" t.wm
 j45:Mk K t.jin t.wm
 jja:Binds K t.jdj ["self","sums"] []
 jke:Fun K "is_past" "Book.is_past" jbs t.jbu t.jfl
 jp8:Meth K t.jin "is_past" t.jbu
 jbz:Binds K t.jfl ["self","order"] []
 jm2:Fun K "is_due" "Book.is_due" jae t.jdc t.jgy
 jrp:Meth K t.jin "is_due" t.jdc
 jgh:Binds K t.jgy ["self","order"] []
 jm1:Fun K "settle" "Book.settle" jaw t.jdd t.jgm
 jrv:Meth K t.jin "settle" t.jdd
 jma:Binds K t.jgm ["self","order"] []
 jf6:Fun K "__init__" "Keeper.__init__" gq t.gj t.jbm
 jlx:Meth K t.j8 "__init__" t.gj
 juo:Mk K t.j8 t.gj
 jf2:Binds K t.jbm ["self","sums"] []
 jhm:Fun K "left_of" "Keeper.left_of" ud t.jci t.jcv
 jgc:Meth K t.j8 "left_of" t.jci
 jhn:Binds K t.jcv ["self","purse","orders"] []
 jd0:Fun K "give_votes" "Keeper.give_votes" xl t.uv t.ur
 gz:Meth K t.j8 "give_votes" t.uv
 uh:Binds K t.ur ["self"] []
 jfb:Fun K "first_due" "Keeper.first_due" xy t.ja8 t.ja7
 uk:Meth K t.j8 "first_due" t.ja8
 jba:Binds K t.ja7 ["self"] []
 jj2:Fun K "go_on" "Keeper.go_on" kh t.jfj t.jfv
 ji6:Meth K t.j8 "go_on" t.jfj
 jj7:Binds K t.jfv ["self"] []
 jmt:Fun K "hear" "Keeper.hear" jdb t.jgg t.jhf
 jj8:Meth K t.j8 "hear" t.jgg
 jmv:Binds K t.jhf ["self","order"] []
 jdw:Fun K "take_paper" "Keeper.take_paper" yy t.ug t.uj
 jc0:Meth K t.j8 "take_paper" t.ug
 jdi:Binds K t.uj ["self","order"] []
 jhi:Fun K "__init__" "World.__init__" jct t.pf t.jcp
 jny:Meth K t.qa "__init__" t.pf
 jws:Mk K t.qa t.pf
 jeq:jex K t.jcp ["self","houses","few","sums","liars","cheats"] ["few","sums","liars","cheats"] j7y j7y
 jh0:Fun K "letters" "World.letters" jao t.jdz t.jem
 ub:Meth K t.qa "letters" t.jdz
 ja3:Binds K t.jem ["self"] []
 jro:Fun K "honest" "World.honest" jb1 t.jkj t.jkm
 jpk:Meth K t.qa "honest" t.jkj
 jrk:Binds K t.jkm ["self"] []
 jj9:Fun K "papers" "World.papers" jb0 t.jfr t.jfd
 w9:Meth K t.qa "papers" t.jfr
 kl:Binds K t.jfd ["self"] []
 jm6:Fun K "paper" "World.paper" jc7 t.jgu t.jhb
 jj3:Meth K t.qa "paper" t.jgu
 jm3:Binds K t.jhb ["self","order"] []
 jf9:Fun K "keeper_of" "World.keeper_of" gi t.jbk t.jbq
 jar:Meth K t.qa "keeper_of" t.jbk
 jbl:Binds K t.jbq ["self","house"] []
 jed:Fun K "check_purse" "World.check_purse" va t.uy t.um
 gy:Meth K t.qa "check_purse" t.uy
 jaa:Binds K t.um ["self","purse"] []
 jdt:Fun K "check_asker" "World.check_asker" yz t.uf t.ui
 jc3:Meth K t.qa "check_asker" t.uf
 jdr:Binds K t.ui ["self","purse","goal"] []
 jd6:Fun K "check_order" "World.check_order" vb t.uu t.uw
 yc:Meth K t.qa "check_order" t.uu
 yw:Binds K t.uw ["self","order"] []
 je6:Fun K "check_liar" "World.check_liar" we t.jag t.jai
 jdx:Meth K t.qa "check_liar" t.jag
 jes:Binds K t.jai ["self","liar"] []
 jc6:Fun K "write_to_all" "World.write_to_all" zx t.gw t.kc
 gb:Meth K t.qa "write_to_all" t.gw
 kg:Binds K t.kc ["self","word","order"] []
 jf8:Fun K "put_votes" "World.put_votes" yj t.jbh t.jbi
 vz:Meth K t.qa "put_votes" t.jbh
 gp:Binds K t.jbi ["self","house","orders"] []
 jpl:Fun K "ask" "World.ask" jd3 t.jlq t.jk2
 jiz:Meth K t.qa "ask" t.jlq
 jlk:Binds K t.jk2 ["self","purse","goal","much"] []
 jl9:Fun K "cheat" "World.cheat" jda t.jg3 t.jgp
 jkc:Meth K t.qa "cheat" t.jg3
 jl6:Binds K t.jgp ["self","order","house"] []
 jqc:Fun K "lie" "World.lie" jgo t.jlh t.jks
 je0:Meth K t.qa "lie" t.jlh
 jhc:Binds K t.jks ["self","liar","order"] []
 jol:Fun K "show" "World.show" jeu t.jik t.jh2
 jmc:Meth K t.qa "show" t.jik
 jo0:Binds K t.jh2 ["self","order","house"] []
 jog:Fun K "come" "World.come" jcb t.jiw t.ji5
 jlw:Meth K t.qa "come" t.jiw
 jon:Binds K t.ji5 ["self","at"] []
 jm8:Fun K "put_new" "put_new" jje t.jp5 t.jp9
 jpq:mg "put_new"=some (.ref t.jp5)
 jrb:Binds K t.jp9 ["papers","key","paper"] []
 jph:Fun K "sum_of" "sum_of" jpa t.jts t.jsp
 jtf:mg "sum_of"=some (.ref t.jts)
 jsw:Binds K t.jsp ["papers"] []
 jga:Fun K "__init__" "Wallet.__init__" jbg t.gd t.jbp
 jmh:Meth K t.zk "__init__" t.gd
 jt3:Mk K t.zk t.gd
 jej:jex K t.jbp ["self","purse","sums","houses","few"] ["sums","houses","few"] j70 j70
 jom:Fun K "add" "Wallet.add" jb5 t.ji2 t.jit
 jl5:Meth K t.zk "add" t.ji2
 job:Binds K t.jit ["self","paper"] []
 jor:Fun K "has" "Wallet.has" je8 t.jh1 t.jis
 ja5:Meth K t.zk "has" t.jh1
 jb9:Binds K t.jis ["self"] []
 jc4:Fun K "next_number" "Wallet.next_number" zt t.gu t.g6
 wg:Meth K t.zk "next_number" t.gu
 kb:Binds K t.g6 ["self"] []
 jj5:Fun K "order" "Wallet.order" jbw t.jfy t.jfn
 ji4:Meth K t.zk "order" t.jfy
 jkd:Binds K t.jfn ["self","goal","much"] []
 jk6:Fun K "_law_town" "_law_town" jgk t.jli t.jkv
 jp3:mg "_law_town"=some (.ref t.jli)
 jq8:Binds K t.jkv ["_law_script"] []
 qb:Fun K "_law_draw" "_law_draw" jdl t.jlj t.jkr
 qe:mg "_law_draw"=some (.ref t.jlj)
 qd:Binds K t.jkr ["_law_town_here","_law_many"] []
 zb:Fun K "_law_pick" "_law_pick" jgf t.jk5 t.jls
 zr:mg "_law_pick"=some (.ref t.jk5)
 zq:Binds K t.jls ["_law_town_here","_law_some_here"] []
 jio:Fun K "_law_whole" "_law_whole" je9 t.jiq t.jiy
 joa:mg "_law_whole"=some (.ref t.jiq)
 joj:Binds K t.jiy ["_law_thing"] []
 jpu:Fun K "_law_is" "_law_is" jl1 t.jqm t.jqu
 ju7:mg "_law_is"=some (.ref t.jqm)
 jue:Binds K t.jqu ["_law_told_here","_law_due"] []
 jby:Fun K "_law_refusal" "_law_refusal" ku t.jfz t.jft
 jfk:mg "_law_refusal"=some (.ref t.jfz)
 jfi:Binds K t.jft ["_law_caught"] []
 jg1:Fun K "_law_some" "_law_some" jd2 t.jky t.jk0
 jlf:mg "_law_some"=some (.ref t.jky)
 jkx:Binds K t.jk0 ["_law_town_here","_law_size","_law_most"] []
 jii:Fun K "_law_world" "_law_world" jb8 t.ji8 t.jh6
 joo:mg "_law_world"=some (.ref t.ji8)
 joq:Binds K t.jh6 ["_law_town_here"] []
 jgq:Fun K "_law_told" "_law_told" jd9 t.jlo t.jkz
 jlb:mg "_law_told"=some (.ref t.jlo)
 jlr:Binds K t.jkz ["_law_kind","_law_world_here","_law_one","_law_two","_law_three"] []
 jgz:Fun K "_law_letter" "_law_letter" jat t.jgv t.jgj
 jmy:mg "_law_letter"=some (.ref t.jgv)
 jm4:Binds K t.jgj ["_law_town_here","_law_world_here"] []
 jip:Fun K "_law_order" "_law_order" jce t.jia t.jib
 joy:mg "_law_order"=some (.ref t.jia)
 jod:Binds K t.jib ["_law_town_here","_law_parts","_law_purse"] []
 jp6:Fun K "_law_go" "_law_go" jie t.jpz t.jqo
 jt6:mg "_law_go"=some (.ref t.jpz)
 jvo:Binds K t.jqo ["_law_town_here","_law_parts","_law_share"] []
 jg2:Fun K "_law_summed" "_law_summed" jan t.jgw t.jgi
 jmu:mg "_law_summed"=some (.ref t.jgw)
 jmm:Binds K t.jgi ["_law_orders","_law_begin"] []
 j7k:Fun K "law" "law" j0n t.j4f t.j3x
 j65:mg "law"=some (.ref t.j4f)
 j8t:Binds K t.j3x ["_law_script"] []
 jg7:∃tk,mg "MOST_MUCH"=some (.int 1000 tk)
 jg4:∃tk,mg "LAST_NUMBER"=some (.int 99 tk)
 jfp:∃tk,mg "PAPER_LETTER"=some (.str "paper" tk)
 jbv:∃tk,mg "ORDER_LETTER"=some (.str "order" tk)
 jl4:∃tk,mg "MOST_HOUSES"=some (.int 16 tk)
 jr1:∃tk,mg "MOST_FEW"=some (.int 5 tk)
 jhp:∃tk,mg "MOST_FIRST_SUM"=some (.int 1000 tk)
 jko:∃tk,mg "LEAST_PURSES"=some (.int 2 tk)
 jmj:∃tk,mg "MOST_PURSES"=some (.int 8 tk)
 jzi:mg "Board"=some (.ref t.ja1)
 xp:Cls K t.ja1
 ym:zu K t.ja1 "enough"
 xu:zu K t.ja1 "signers"
 jxf:mg "Keeper"=some (.ref t.j8)
 jq:Cls K t.j8
 vn:zu K t.j8 "held"
 za:zu K t.j8 "next_numbers"
 jfu:zu K t.j8 "done"
 jak:zu K t.j8 "heard"
 yg:zu K t.j8 "unvoted"
 xh:zu K t.j8 "choices"
 xf:zu K t.j8 "waiting"
 j0y:mg "World"=some (.ref t.qa)
 jl:Cls K t.qa
 wj:zu K t.qa "purses"
 jkb:zu K t.qa "total"
 jfm:zu K t.qa "lying"
 yf:zu K t.qa "cheating"
 zm:zu K t.qa "keepers"
 xa:zu K t.qa "board"
 jbx:zu K t.qa "asked"
 zh:zu K t.qa "on_way"
 j3d:mg "Book"=some (.ref t.jin)
 j5a:Cls K t.jin
 jt4:zu K t.jin "held"
 jjy:zu K t.jin "next_numbers"
 jun:zu K t.jin "done"
 jwv:mg "Wallet"=some (.ref t.zk)
 j7:Cls K t.zk
 yh:zu K t.zk "purse"
 ph:zu K t.zk "purses"
 jcj:zu K t.zk "houses"
 jgt:zu K t.zk "few"
 jdu:zu K t.zk "first"
 jaz:zu K t.zk "own"
 gg:zu K t.zk "brought"
 jcf:Meth K t.j8 "is_due" t.jdc
 gh:Meth K t.j8 "is_past" t.jbu
 jhj:Meth K t.j8 "settle" t.jdd
 jhl:j96 K t.jin "__init__" t.wm
 jqg:mg "NoPurse"=some (.ref t.xk)
 jqi:mg "TooMuch"=some (.ref t.wu)
 jss:mg "NotNow"=some (.ref t.jbc)
 je1:mg "PurseError"=some (.ref t.wq)
 jw4:mg "BadCut"=some (.ref t.jtu)
 jux:mg "BadText"=some (.ref t.jpn)
 jsd:mg "BadPaper"=some (.ref t.jnu)
 juf:mg "NoHouse"=some (.ref t.jra)
 jsj:mg "NoLetter"=some (.ref t.jnm)
 jpy:mg "BadNumber"=some (.ref t.jkt)
 jsb:mg "BadOrder"=some (.ref t.jn5)
 jrc:mg "BadHouses"=some (.ref t.jk4)
 jse:XIs K t.xk
 jsf:kinds K (.ref t.xk) (asked t)=[some false,some false,some false,some false,some true,some false,some false,some false,some false,some false,some false,some true,some true]
 jb6:W.kitCls K (.ref t.xk) (.ref t.wq)=some true
 juk:j7v K t.wu
 jr2:XIs K t.wu
 jr9:kinds K (.ref t.wu) (asked t)=[some false,some false,some false,some false,some false,some false,some false,some true,some false,some false,some false,some true,some true]
 jb2:W.kitCls K (.ref t.wu) (.ref t.wq)=some true
 jxj:j7v K t.jbc
 juc:XIs K t.jbc
 juy:kinds K (.ref t.jbc) (asked t)=[some false,some false,some false,some false,some false,some false,some true,some false,some false,some false,some false,some true,some true]
 jc5:W.kitCls K (.ref t.jbc) (.ref t.wq)=some true
 jgn:W.mroIn K t.wq (.type "BaseException")=some true
 jw:mg "isinstance"=none
 jw3:mg "bool"=none
 j5b:mg "int"=none
 jbd:mg "len"=none
 jnb:mg "tuple"=none
 jtm:mg "sorted"=none
 jm5:mg "list"=none
 jyt:mg "sum"=none
 j7m:mg "max"=none
 j69:mg "all"=none
 jjc:mg "range"=none
 jos:mg "ValueError"=none
 j6f:mg "min"=none
noncomputable def jna (o:O):List V:=[.int o.p,.int o.n,.int o.g,.int o.m]
noncomputable def j9i (H:Hp)(x:V)(o:O):Prop:=∃a,x= .ref a/\H a=some (.tup (jna o))
theorem jf {H:Hp}{p:Addr}{o:HO}(h:H p=none):vq H (upd H p o):=λb u e=>by rw[je (jj e h)];exact e
theorem nd {c:Prop}[Decidable c](h:(!decide c)=true):¬c:=λz=>by rw[decide_eq_true z]at h;cases h
theorem yd {c:Prop}[Decidable c](h:¬(!decide c)=true):c:=by
 by_cases z:c
 .exact z
 .exact absurd (by rw[decide_eq_false z];rfl) h
theorem j63 {b:Bool}{A Bq:Prop}(e:b=true)(h:Bq):if(!b)=true then A else Bq:=by subst e;exact yq h
theorem take_snoc {α:Type}{l:List α}{i:Nat}{x:α}(h:l[i]?=some x):l.take (i+1)=l.take i++[x]:=by rw[List.take_add_one,h];rfl
theorem jv9 (s:List Int)(i:Nat)(z:Int):(s.map V.int).set i (.int z)=(s.set i z).map V.int:=by rw[map_set]
theorem get_map {s:List Int}{i:Nat}(h:i<s.length):(s.map V.int)[i]?=some (.int (s.getD i 0)):=by rw[getElem?_map,getElem?_eq_getElem h,getD_eq_getElem?_getD,getElem?_eq_getElem h];rfl
theorem jre {n:Nat}{i:Int}(h0:0<=i)(h1:i.toNat<n):ixN n i=some i.toNat:=by unfold ixN;rw[if_pos h0,if_pos (by omega)]
theorem jef {α:Type}{xs:List α}{i:Int}{v:α}(h0:0<=i)(h:xs[i.toNat]?=some v):atI xs i=some v:=by unfold atI;rw[jre h0 (List.getElem?_eq_some_iff.mp h).1];exact h
theorem jng {n:Nat}(h:n<=1000):n<=sizeLine:=le_of_lt (zw h)
noncomputable def jqs (T R:Addr)(H:Hp):Prop:=∃(row:List Int)(c:Int),H T=some (.lst [.ref R,.int c])/\H R=some (.lst (row.map V.int))/\0<row.length
noncomputable def jqy (T R:Addr)(H H':Hp):Prop:=∀b o,H b=some o->b≠T->b≠R->H' b=some o
theorem jqs.ne {T R:Addr}{H:Hp}(h:jqs T R H):T≠R:=by
 obtain⟨row,c,h1,h2,h3⟩:=h;refine jm0 h1 h2 λe=>?_;have e':=HO.lst.inj e;cases row with
 |nil=>cases h3
 |cons x r=>rw[map_cons]at e';cases(List.cons.inj e').1
theorem jqs.same {T R:Addr}{H H':Hp}(h:jqs T R H)(s:vq H H'):jqs T R H':=by obtain⟨row,c,h1,h2,h3⟩:=h;exact⟨row,c,s _ _ h1,s _ _ h2,h3⟩
theorem jqs.fresh {T R b:Addr}{H:Hp}(h:jqs T R H)(hb:H b=none):b≠T/\b≠R:=by obtain⟨row,c,h1,h2,h3⟩:=h;exact⟨(jj h1 hb).symm,(jj h2 hb).symm⟩
noncomputable def jwe:Sp:=λvs H Q _=>∃i,vs=[.int i]/\Q (.bl true) H
noncomputable def js9:Sp:=λvs H Q _=>∃i l h,vs=[.int i,.int l,.int h]/\Q (.bl (decide (l<=i/\i<=h))) H
noncomputable def jwd:Sp:=λvs H Q _=>∃a o q,vs=[.ref a,.int q]/\H a=some (.tup (jna o))/\Q (.bl (ye q o)) H
noncomputable def jwk:Sp:=λvs H Q _=>∃a o,vs=[.ref a]/\H a=some (.tup (jna o))/\ye 8 o=true/\∀p,H p=none->Q (.ref p) (upd H p (.tup [.int o.p,.int o.n]))
theorem jle (T:Txt K mg t):xj P w K mg base CX0 1 t.jnw t.jne ["thing"] jwe:=by refine T.jf4.okB (N:=["thing"]) λ_ A _ s H vs Q E hr h=>?_;obtain⟨i,rfl,q⟩:=h;refine⟨_,(@jd _ _ _ (jx (jhu (jn vc rfl T.jw boot_isinstance (@yk _ _ _ _ _ (pv 0) (jcn (v:=.ty "int") rfl T.j5b boot_int rfl) rfl rfl)) (jid (j3o (jn vc rfl T.jw boot_isinstance (@yk _ _ _ _ _ (pv 0) (jcn (v:=.ty "bool") rfl T.jw3 boot_bool rfl) rfl rfl))))))),?_⟩;refine⟨_,rfl,_,_,_,true,rfl,.int _,rfl,_,rfl,jhy ?_⟩;exact⟨_,rfl,_,_,_,false,rfl,.int _,rfl,_,rfl,q⟩
theorem ql (T:Txt K mg t):xj P w K mg base CX0 2 t.jh8 t.jih ["thing","low","high"] js9:=by
 refine T.qj.okB (N:=["thing","low","high"]) λ_ A _ s H vs Q E hr h=>?_;obtain⟨i,l,u,rfl,q⟩:=h;refine⟨_,(@jd _ _ _ (jx (jhu (jm (jle T) hr.dn rfl T.jjt T.jf4.kp T.jjr .nil jo (jc (pv 0) jg)) (jid (j2t j2d j2d (pv 1) (pv 0) (pv 2)))))),?_⟩;refine⟨_,rfl,i,rfl,_,rfl,jhy ?_⟩;refine⟨_,rfl,_,rfl,_,_,rfl,rfl,_,rfl,?_⟩;refine jhz (λh1=>?_) (λh1=>?_)
 .refine⟨_,rfl,_,_,rfl,rfl,?_⟩;have e:decide (l<=i/\i<=u)=decide (i<=u):=by
   have h1':=of_decide_eq_true h1;simp[h1']
  rw[e]at q;exact q
 .have e:decide (l<=i/\i<=u)=false:=by
   have h1':¬l<=i:=λz=>h1 (decide_eq_true z);simp[h1']
  rw[e]at q;exact q
theorem jhg (T:Txt K mg t):xj P w K mg base CX0 3 t.jn3 t.jju ["thing","purses"] jwd:=by
 refine T.jdh.okA jdp λ_ A _ s H vs Q E hr h=>?_;obtain⟨a,o,q,rfl,ha,k⟩:=h;refine⟨_,(@jb _ _ _ _ _ (qv (PW.pt (jhx (qz (qr (jn vc rfl T.jw boot_isinstance (@yk _ _ _ _ _ (pv 0) (jcn (v:=.ty "tuple") rfl T.jnb boot_tuple rfl) rfl rfl)))) (jb4 (jv jx7 (jn jr rfl T.jbd boot_len (jc (pv 0) jg)) jk (qc _))))) (@jd _ _ _ (jx jgd)) j4) (@jb _ _ _ _ _ (jhk (pv 0) (jkl rfl (jy (ju (i:=2) jdp.nd rfl (Or.inl rfl)) (jy (ju (i:=3) jdp.nd rfl (Or.inl rfl)) (jy (ju (i:=4) jdp.nd rfl (Or.inl rfl)) (jy (ju (i:=5) jdp.nd rfl (Or.inl rfl)) jfo)))))) (@jb _ _ _ _ _ (qv (PW.pt (jhx (qz (qr (jm (ql T) hr.dn rfl T.qo T.qj.kp T.qp .nil jo (@jlv _ _ _ _ _ _ _ (pv 2) jk (qy jek (pv 1) jk) rfl rfl rfl)))) (jb4 (qz (qr (jm (ql T) hr.dn rfl T.qo T.qj.kp T.qp .nil jo (@jlv _ _ _ _ _ _ _ (pv 4) jk (qy jek (pv 1) jk) rfl rfl rfl))))))) (@jd _ _ _ (jx jgd)) j4) (@jd _ _ _ (jx (jhu (ja2 jx7 (pv 2) (pv 4) (qc _)) (jhu (jm (ql T) hr.dn rfl T.qo T.qj.kp T.qp .nil jo (@jlv _ _ _ _ _ _ _ (pv 3) jk (ze (v:=.int 99) rfl T.jg4.choose_spec ⟨_,rfl⟩) rfl rfl rfl)) (jid (jm (ql T) hr.dn rfl T.qo T.qj.kp T.qp .nil jo (@jlv _ _ _ _ _ _ _ (pv 5) jk (ze (v:=.int 1000) rfl T.jg7.choose_spec ⟨_,rfl⟩) rfl rfl rfl)))))))))),?_⟩;refine⟨_,rfl,_,_,_,true,rfl,.tup ha,rfl,_,rfl,?_⟩;refine yq ?_;refine⟨_,rfl,a,jna o,rfl,.inr (SqT.of ha),rfl,_,rfl,?_⟩;refine yq ?_;refine⟨_,rfl,a,jna o,rfl,SqT.of ha,rfl,_,_,rfl,_,_,rfl,_,_,rfl,_,_,rfl,rfl,?_⟩;have fin:∀b,b=ye q o->Q (.bl b) H:=λb e=>e ▸ k;refine⟨_,rfl,_,rfl,_,_,rfl,rfl,_,_,_,rfl,_,rfl,?_⟩;refine jhz (λh1=>fin _ ?_) (λh1=>?_)
 .have z:=nd h1;unfold ye;exact(decide_eq_false (λh=>z ⟨h.1,h.2.1⟩)).symm
 have z1:=yd h1;refine⟨_,rfl,_,rfl,_,_,rfl,rfl,_,_,_,rfl,_,rfl,?_⟩;refine jhz (λh2=>fin _ ?_) (λh2=>?_)
 .have z:=nd h2;unfold ye;exact(decide_eq_false (λh=>z ⟨h.2.2.1,h.2.2.2.1⟩)).symm
 have z2:=yd h2;refine⟨_,rfl,_,rfl,rfl,_,rfl,?_⟩;refine jhz (λh3=>?_) (λh3=>fin _ ?_)
 .have z3:¬o.p=o.g:=by simpa using h3
  refine⟨_,rfl,_,_,_,rfl,_,rfl,?_⟩;refine jhz (λh4=>?_) (λh4=>fin _ ?_)
  .have z4:=of_decide_eq_true h4;refine⟨_,rfl,_,_,_,rfl,fin _ ?_⟩;unfold ye;rw[Bool.eq_iff_iff,decide_eq_true_iff,decide_eq_true_iff];exact⟨λh=>⟨z1.1,z1.2,z2.1,z2.2,z3,z4.1,z4.2,h.1,h.2⟩,λh=>h.2.2.2.2.2.2.2⟩
  .have z4:¬(0<=o.n/\o.n<=99):=λh=>h4 (decide_eq_true h);unfold ye;exact(decide_eq_false (λh=>z4 ⟨h.2.2.2.2.2.1,h.2.2.2.2.2.2.1⟩)).symm
 .have z3:o.p=o.g:=by simpa using h3
  unfold ye;exact(decide_eq_false (λh=>h.2.2.2.2.1 z3)).symm
theorem jlm (T:Txt K mg t):xj P w K mg base CX0 4 t.jn4 t.jn2 ["order"] jwk:=by
 refine T.jge.okB (N:=["order"]) λ_ A _ s H vs Q E hr h=>?_;obtain⟨a,o,rfl,ha,ho,k⟩:=h;refine⟨_,(@jb _ _ _ _ _ (qv (qz (qr (jm (jhg T) hr.dn rfl T.jf7 T.jdh.kp T.joz.choose_spec (show Vals [.int 8] _ from .cons ⟨_,rfl⟩ .nil) jo (jc (pv 0) jg)))) (@jd _ _ _ (j2e)) j4) (@jd _ _ _ (jx (@jgb _ _ _ _ _ (@yk _ _ _ _ _ (ya jdm (pv 0) jk (λ_ _=>rfl)) (ya jdm (pv 0) jk (λ_ _=>rfl)) rfl rfl))))),?_⟩;refine⟨_,rfl,a,o,8,rfl,ha,_,rfl,j63 ho ?_⟩;exact⟨_,rfl,a,jna o,0,.int o.p,rfl,rfl,SqT.of ha,rfl,_,rfl,a,jna o,1,.int o.n,rfl,rfl,SqT.of ha,rfl,zs2,λp hp=>k p hp⟩
theorem jmx {H:Hp}{a b:Addr}{o:HO}(h:upd H a o b=none):b≠a/\H b=none:=by
 have hb:b≠a:=λz=>by rw[z,ja]at h;cases h
 rw[je hb]at h;exact⟨hb,h⟩
noncomputable def brd (S:Addr)(en:Int):List (Str×V):=vy "signers" (.ref S) (vy "enough" (.int en) [])
theorem jgx (S:Addr)(en:Int):(brd S en).lookup ("signers":Str)=some (.ref S):=by unfold brd;rw[jh,if_pos rfl]
theorem jjs (S:Addr)(en:Int):(brd S en).lookup ("enough":Str)=some (.int en):=by unfold brd;rw[jh,if_neg (by decide+kernel),jh,if_pos rfl]
theorem jqn (S:Addr)(en:Int){m:Str}(h1:¬m="signers")(h2:¬m="enough"):(brd S en).lookup m=none:=by unfold brd;rw[jh,if_neg h1,jh,if_neg h2];rfl
noncomputable abbrev jdv:=List (List Key×List Int)
noncomputable def jy0 (H:Hp)(kv:List Key×V)(p:List Key×List Int):Prop:=kv.1=p.1/\∃b,kv.2= .ref b/\H b=some (.lst (p.2.map V.int))
structure vu (t:Ad)(H:Hp)(p dx S:Addr)(en:Int)(kvs:List (List Key×V))(ps:jdv):Prop where
 ob:H p=some (.ins t.ja1 dx (brd S en))
 sg:H S=some (.dT kvs)
 hs:Paired (jy0 H) kvs ps
 un:(kvs.map (·.2)).Nodup
theorem vu.same {t:Ad}{H H':Hp}{p dx S:Addr}{en:Int}{kvs:List (List Key×V)}{ps:jdv}(s:vq H H')(b:vu t H p dx S en kvs ps):vu t H' p dx S en kvs ps:=⟨s _ _ b.ob,s _ _ b.sg,Paired.vf b.hs λ_ _ ⟨e,c,ec,h⟩=>⟨e,c,ec,s _ _ h⟩,b.un⟩
structure jtt (t:Ad)(H:Hp)(p dx S:Addr)(en:Int)(kvs:List (List Key×V))(ps:jdv):Prop where
 ob:H p=some (.ins t.ja1 dx (brd S en))
 sg:Rd H S (.dT kvs)
 hs:Paired (jy0 H) kvs ps
theorem vu.rd {t:Ad}{H:Hp}{p dx S:Addr}{en:Int}{kvs:List (List Key×V)}{ps:jdv}(b:vu t H p dx S en kvs ps):jtt t H p dx S en kvs ps:=⟨b.ob,.inl b.sg,b.hs⟩
theorem jtk {H H':Hp}{a:Addr}{u:HO}(s:vq H H')(h:Rd H a u):Rd H' a u:=by
 rcases h with h|⟨o,h⟩
 .exact .inl (s _ _ h)
 .exact .inr ⟨o,s _ _ h⟩
noncomputable def qh:jdv->List Key->List Int
 |[],_=>[]
 |p::ps,k=>if p.1=k then p.2 else qh ps k
theorem jjf {H:Hp}{k:List Key}:∀{kvs:List (List Key×V)}{ps:jdv},Paired (jy0 H) kvs ps->(jc2 kvs k=none/\qh ps k=[]/\k∉ps.map (·.1))\/∃b,jc2 kvs k=some (.ref b)/\H b=some (.lst ((qh ps k).map V.int)):=λ{kvs ps} q=>by
 induction q with
 |nil=>exact .inl ⟨rfl,rfl,by simp⟩
 | @cons kv p kvs ps a r ih=>
  obtain⟨e,b,eb,h⟩:=a;by_cases z:p.1=k
  .refine .inr ⟨b,?_,?_⟩
   .rw[jax (e.trans z),eb]
   .rw[qh,if_pos z];exact h
  .have z':¬kv.1=k:=λq=>z (e.symm.trans q);rw[qh,if_neg z,jbe z'];rcases ih with⟨h1,h2,h3⟩|h
   .exact .inl ⟨h1,h2,by rw[map_cons,mem_cons];exact λq=>q.elim (λq=>z q.symm) h3⟩
   .exact .inr h
noncomputable def j0m (t:Ad):Sp:=λvs H Q _=>∃x dx en,vs=[.ref x,.int en]/\H x=some (.ins t.ja1 dx [])/\∀S H',H S=none->vu t H' x dx S en [] []->(∀b o,H b=some o->b≠x->H' b=some o)->Q .non H'
noncomputable def jvp (t:Ad):Sp:=λvs H Q _=>∃p dx S en kvs ps b k,vs=[.ref p,.ref b]/\jtt t H p dx S en kvs ps/\H b=some (.tup (k.map kV))/\(qh ps k).length<64/\∀(r:Addr)(ns:List Int)(H':Hp),H r=none->vq H H'->ns.Perm (qh ps k)->ns.Pairwise (·<=·)->H' r=some (.lst (ns.map V.int))->Q (.ref r) H'
noncomputable def jus (t:Ad):Sp:=λvs H Q _=>∃p dx S en kvs ps b k,vs=[.ref p,.ref b]/\jtt t H p dx S en kvs ps/\H b=some (.tup (k.map kV))/\∀H',vq H H'->Q (.bl (decide (en<=((qh ps k).length:Int)))) H'
noncomputable def jtd:jdv->List Key->Int->jdv
 |[],k,h=>[(k,[h])]
 |p::ps,k,h=>if p.1=k then(p.1,p.2++[h])::ps else p::jtd ps k h
noncomputable def NotIn (kvs:List (List Key×V))(c:Addr):Prop:=∀kv∈kvs,kv.2≠.ref c
noncomputable def j7r (t:Ad):Sp:=λvs H Q _=>∃p dx S en kvs ps b k h,vs=[.ref p,.int h,.ref b]/\vu t H p dx S en kvs ps/\H b=some (.tup (k.map kV))/\kvs.length<=1000/\(qh ps k).length<=1000/\(h∈qh ps k->∀H',vq H H'->Q (.bl false) H')/\(h∉qh ps k->∀kvs' H',vu t H' p dx S en kvs' (jtd ps k h)->(∀c u,H c=some u->c≠S->NotIn kvs c->H' c=some u)->(∀c u,H c=some u->NotIn kvs c->NotIn kvs' c)->Q (.bl (decide (((qh ps k).length:Int)+1=en))) H')
theorem jvj:∀{ps:jdv}{k:List Key}{h:Int},k∉ps.map (·.1)->jtd ps k h=ps++[(k,[h])]
 |[],_,_,_=>rfl
 |p::ps,k,h,z=>by rw[map_cons,mem_cons]at z;rw[jtd,if_neg (λe=>z (.inl e.symm)),jvj λe=>z (.inr e)];rfl
theorem qq {α β:Type}{F:α->β->Prop}:∀{xs:List α}{ys:List β}{x:α}{y:β},Paired F xs ys->F x y->Paired F (xs++[x]) (ys++[y]):=λ{xs ys x y} q h=>by
 induction q with
 |nil=>exact .cons h .nil
 |cons a _ ih=>exact .cons a ih
theorem jzv {k:List Key}{v:V}{kvs:List (List Key×V)}(ev:jc2 kvs k=some v):v∈kvs.map (·.2):=by
 unfold jc2 at ev;cases hf:kvs.find? (λkv=>decide (kv.1=k))with
 |none=>rw[hf]at ev;cases ev
 |some q=>rw[hf]at ev;have e3:q.2=v:=Option.some.inj ev;rw[<-e3];exact mem_map_of_mem (List.mem_of_find?_eq_some hf)
theorem gc {h:Int}:∀{hs:List Int},inV (.int h) (hs.map V.int)=decide (h∈hs)
 |[]=>rfl
 |x::hs=>by
  have ih:=gc (h:=h) (hs:=hs);simp only[map_cons,inV,any_cons]at ih⊢;rw[ih];show(x==h||decide (h∈hs))=_;by_cases e:h=x
  .simp[e]
  .have e':¬x=h:=λz=>e z.symm;simp[e,e']
theorem jcc (hs:List Int):(hs.map V.int).all jti=true:=by rw[all_eq_true];intro y hy;obtain⟨i,_,rfl⟩:=mem_map.mp hy;rfl
theorem j2k {H:Hp}{r:Addr}(hr:H r=none):∀{kvs:List (List Key×V)}{ps:jdv},Paired (jy0 H) kvs ps->V.ref r∉kvs.map (·.2):=λ{kvs ps} q=>by
 induction q with
 |nil=>simp
 |@cons kv p kvs ps a r ih=>
  obtain⟨_,b,eb,hb⟩:=a;rw[map_cons,mem_cons]
  rintro(z|z)
  .rw[eb]at z;cases z;rw[hr]at hb;cases hb
  .exact ih z
theorem grown {H:Hp}{k:List Key}{h:Int}{c:Addr}:∀{kvs:List (List Key×V)}{ps:jdv},Paired (jy0 H) kvs ps->(kvs.map (·.2)).Nodup->jc2 kvs k=some (.ref c)->Paired (jy0 (upd H c (.lst ((qh ps k++[h]).map V.int)))) kvs (jtd ps k h):=λ{kvs ps} q nd ev=>by
 induction q with
 |nil=>cases ev
 | @cons kv p kvs ps a r ih=>
  obtain⟨e,b,eb,hb⟩:=a;rw[map_cons,nodup_cons]at nd;have keep:∀{kvs:List (List Key×V)}{ps:jdv}{o:HO}{a:Addr},V.ref a∉kvs.map (·.2)->Paired (jy0 H) kvs ps->Paired (jy0 (upd H a o)) kvs ps:=λ{kvs ps o a} ha r=>by
   induction r with
   |nil=>exact .nil
   |cons q _ ih=>rw[map_cons,mem_cons]at ha;obtain⟨q1,b,q2,q3⟩:=q;refine .cons ⟨q1,b,q2,?_⟩ (ih λz=>ha (.inr z));rw[je (λz=>ha (.inl (by rw[q2,z])))];exact q3
  by_cases z:p.1=k
  .rw[jax (e.trans z),eb]at ev;cases ev;rw[jtd,if_pos z,qh,if_pos z];rw[eb]at nd;exact .cons ⟨e,c,eb,ja⟩ (keep nd.1 r)
  .have z':¬kv.1=k:=λq=>z (e.symm.trans q);rw[jbe z']at ev;rw[jtd,if_neg z,qh,if_neg z];have hm:V.ref c∈kvs.map (·.2):=jzv ev;have hbc:b≠c:=λq=>nd.1 (by rw[eb,q];exact hm);exact .cons ⟨e,b,eb,by rw[je hbc];exact hb⟩ (ih nd.2 ev)
theorem j8j {a:Addr}{o:Obj}{kvs:List (List Key×V)}{g:TG}{ti:TT}{te:TE}{U0:St}{H0:Hp}{Q:VK}(Pv:Nat->List V->St->Hp->Prop)(h0:Pv 0 [] U0 H0)(hl:∀i ys U H,i<=kvs.length->Pv i ys U H->H a=some (.frz o (.dT kvs))/\ys.length<=sizeLine)(hs:∀i kv b ys U H,kvs[i]?=some kv->H b=some (.tup (kv.1.map kV))->Pv i ys U H->g (.ref b) U H λU2 H2=>ti U2 H2 λc H3=>if c=true then te U2 H3 λy H4=>Pv (i+1) (ys++[y]) U2 H4 else Pv (i+1) ys U2 H3)(hd:∀ys U H,Pv kvs.length ys U H->∀p,H p=none->Q (.ref p) (upd H p (.lst ys))):∃W:Nat->Nat->List V->St->Hp->Prop,(∃m,W 0 m [] U0 H0)/\∀i m ys U H,W i m ys U H->ys.length<=sizeLine/\(((j7c a o kvs).stop i H/\jx3 Q ys H)\/((j7c a o kvs).go i H/\∃N:List V->St->Hp->Prop,(∀ys' U' H',N ys' U' H'->∃m',m'<m/\W (i+1) m' ys' U' H')/\∀x H',(j7c a o kvs).yld i H x H'->g x U H' λU2 H2=>ti U2 H2 λb H3=>if b=true then te U2 H3 λy H4=>N (ys++[y]) U2 H4 else N ys U2 H3)):=by
 refine⟨λi m ys U H=>m=kvs.length-i/\i<=kvs.length/\Pv i ys U H,⟨kvs.length,by simp,zero_le _,h0⟩,?_⟩
 rintro i m ys U H ⟨rfl,hi,p⟩
 obtain⟨q,hz⟩:=hl i ys U H hi p;refine⟨hz,?_⟩;by_cases hlt:i<kvs.length
 .refine .inr ⟨⟨hlt,q⟩,Pv (i+1),λys' U' H' p'=>⟨kvs.length-(i+1),by omega,rfl,hlt,p'⟩,λx H' y=>?_⟩;obtain⟨e,kv,b,ek,ex,eb⟩:=y;subst e ex;exact hs i kv b ys U _ ek eb p
 .have e:i=kvs.length:=by omega
  subst e;exact .inl ⟨⟨le_refl _,q⟩,hd ys U H p⟩
noncomputable abbrev xr:=List (List Int×List Int)
noncomputable def jo6 (t:List Int):List Key:=t.map Sum.inl
noncomputable def thP (is:xr):jdv:=is.map λp=>(jo6 p.1,p.2)
theorem j20 (t:List Int):(jo6 t).map kV=t.map V.int:=by unfold jo6;rw[map_map];rfl
theorem jtq {t u:List Int}(h:jo6 t=jo6 u):t=u:=(List.map_inj_right (λ_ _ z=>Sum.inl.inj z)).mp h
noncomputable def xo (is:xr)(en:Int):List (List Int):=(is.filter λp=>decide (en<=(p.2.length:Int))).map (·.1)
theorem jqr:∀{is:xr}{i:Nat}{p:List Int×List Int},(is.map (·.1)).Nodup->is[i]?=some p->qh (thP is) (jo6 p.1)=p.2
 |[],_,_,_,e=>by simp at e
 |x::is,0,p,_,e=>by cases Option.some.inj e;show(if jo6 x.1=jo6 x.1 then x.2 else _)=_;rw[if_pos rfl]
 |x::is,i+1,p,nd,e=>by rw[map_cons,nodup_cons]at nd;have hm:p∈is:=mem_of_getElem? (by simpa using e);show(if jo6 x.1=jo6 p.1 then x.2 else qh (thP is) (jo6 p.1))=_;rw[if_neg λz=>nd.1 (by rw[jtq z];exact mem_map_of_mem hm)];exact jqr nd.2 (by simpa using e)
section
variable {P:Program}{w:World}{K:W.Frag}{mg:Str->Option Value}{base:Heap}{t:Ad}
theorem yx (T:Txt K mg t):xj P w K mg base CX0 1 t.ja0 t.jah ["self","thing"] (jus t):=by
 refine T.je4.okB (N:=["self","thing"]) λ_ A _ s H vs Q E hr h=>?_;obtain⟨p,dx,S,en,kvs,ps,b,k,rfl,Bq,hb,q⟩:=h;refine⟨_,(@jd _ _ _ (jx (ja2 j5d (jn jr rfl T.jbd boot_len (jc (jwp (jic hr) (j5 (pv 0) rfl) (pv 1) (@zf _ _ _ _ jg) ⟨rfl,rfl,rfl,rfl⟩) jg)) (j5 (pv 0) rfl) (qc _)))),?_⟩;refine⟨_,rfl,p,_,dx,_,_,rfl,Bq.ob,T.xp,T.xu,jgx _ _,S,rfl,.inr ⟨kvs,Bq.sg⟩,_,rfl,zs0,λr hr=>?_⟩;have s1:=jf (o:=.lst []) hr;refine⟨_,.inr ⟨kvs,k,b,jtk s1 Bq.sg,rfl,s1 _ _ hb,rfl⟩,?_⟩;rcases jjf (k:=k) Bq.hs with⟨h1,h2,h3⟩|⟨c,h1,h2⟩
 .rw[h1];refine⟨r,[],rfl,.inl (SqL.of ja),_,rfl,p,_,dx,_,_,rfl,s1 _ _ Bq.ob,T.xp,T.ym,jjs _ _,_,_,rfl,rfl,?_⟩;have:=q _ s1;rw[h2]at this;exact this
 .rw[h1];refine⟨c,_,rfl,.inl (SqL.of (s1 _ _ h2)),_,rfl,p,_,dx,_,_,rfl,s1 _ _ Bq.ob,T.xp,T.ym,jjs _ _,_,_,rfl,rfl,?_⟩;rw[length_map];exact q _ s1
theorem jvg (T:Txt K mg t):xj P w K mg base CX0 1 t.jkp t.jlg ["self","house","thing"] (j7r t):=by
 refine T.jp7.okA joh λ_ A _ s H vs Q E hr h=>?_;obtain⟨p,dx,S,en,kvs,ps,b,k,h,rfl,Bq,hb,l1,l2,q1,q2⟩:=h;refine⟨_,(@jb _ _ _ _ _ (j6 (i:=3) joh.nd rfl (Or.inl rfl) (jyp (jic hr) (j5 (pv 0) rfl) (pv 2) (@zf _ _ _ _ jg) ⟨rfl,rfl,rfl,rfl⟩)) (@jb _ _ _ _ _ (qv (jv jq5 (pv 1) (pv 3) (by with_unfolding_all rfl)) (@jd _ _ _ (jx jgd)) j4) (@jb _ _ _ _ _ (qk (jjx PySem.F.plainAttrs_list PySem.F.slot_list_append PySem.F.type_list_append wz (pv 3) (jc (pv 1) jg))) (@jd _ _ _ (jx (ja2 jen (jn jr rfl T.jbd boot_len (jc (pv 3) jg)) (j5 (pv 0) rfl) (qc _))))))),?_⟩;refine⟨_,rfl,p,_,dx,_,_,rfl,Bq.ob,T.xp,T.xu,jgx _ _,S,rfl,.inr ⟨kvs,.inl Bq.sg⟩,_,rfl,zs0,λr hr=>?_⟩;have s1:=jf (o:=.lst []) hr;have B1:=Bq.same s1;refine⟨kvs,k,b,B1.sg,rfl,s1 _ _ hb,zw l1,λv hv=>?_,λhv=>?_⟩
 .rcases jjf (k:=k) B1.hs with⟨z,_⟩|⟨c,h1,h2⟩
  .rw[hv]at z;cases z
  cases Option.some.inj (hv.symm.trans h1);refine⟨_,rfl,_,rfl,c,_,rfl,.inl (SqL.of h2),rfl,jcc _,_,rfl,jhz (λz=>?_) (λz=>?_)⟩
  .rw[if_neg (by decide),gc]at z;exact q1 (of_decide_eq_true z) _ s1
  rw[if_neg (by decide),gc]at z;have nh:h∉qh ps k:=λy=>z (decide_eq_true y);have pc:p≠c:=jm0 B1.ob h2 (by intro z;cases z);have Sc:S≠c:=jm0 B1.sg h2 (by intro z;cases z);refine⟨_,rfl,.inl ⟨rfl,_,SqL.of h2⟩,_,rfl,c,_,_,rfl,rfl,h2,zw (by rw[length_map];exact l2),?_⟩;refine⟨_,rfl,c,_,rfl,.inl (SqL.of ja),_,rfl,p,_,dx,_,_,rfl,(by rw[je pc];exact B1.ob),T.xp,T.ym,jjs _ _,rfl,?_⟩;have G:=grown (h:=h) B1.hs B1.un h1;rw[map_append]at G;have e:decide (V.int (((qh ps k).map V.int++[V.int h]).length:Nat)=V.int en)=decide (((qh ps k).length:Int)+1=en):=by rw[length_append,length_map];simp
  have goal:=q2 nh kvs _ ⟨by rw[je pc];exact B1.ob,by rw[je Sc];exact B1.sg,G,B1.un⟩ λc' u hc cS cN=>by
   have ne:c'≠c:=λy=>by obtain⟨kv,hm,ek⟩:=mem_map.mp (jzv h1);exact cN kv hm (by rw[ek,y])
   rw[je ne];exact s1 _ _ hc
  have goal:=goal λ_ _ _ z=>z;rw[<-e]at goal;exact goal
 .rcases jjf (k:=k) B1.hs with⟨_,h2,h3⟩|⟨c,z,_⟩;case inr=>rw[hv]at z;cases z
  have rS:r≠S:=(jj Bq.sg hr).symm;have rp:r≠p:=(jj Bq.ob hr).symm;have Sp:S≠p:=jm0 Bq.sg Bq.ob (by intro z;cases z);rw[jjq _ hv];have hr1:upd (upd H r (.lst [])) S (.dT (kvs++[(k,.ref r)])) r=some (.lst []):=by rw[je rS];exact ja
  refine⟨_,rfl,_,rfl,r,[],rfl,.inl (SqL.of hr1),rfl,rfl,_,rfl,yq ?_⟩;refine⟨_,rfl,.inl ⟨rfl,_,SqL.of hr1⟩,_,rfl,r,[],_,rfl,rfl,hr1,(by show 0<sizeLine;decide),?_⟩;have ob2:upd (upd (upd H r (.lst [])) S (.dT (kvs++[(k,.ref r)]))) r (.lst ([]++[.int h])) p=some (.ins t.ja1 dx (brd S en)):=by rw[je rp.symm,je Sp.symm];exact B1.ob
  refine⟨_,rfl,r,_,rfl,.inl (SqL.of ja),_,rfl,p,_,dx,_,_,rfl,ob2,T.xp,T.ym,jjs _ _,rfl,?_⟩;have goal:=q2 (by rw[h2];simp) (kvs++[(k,.ref r)]) (upd (upd (upd H r (.lst [])) S (.dT (kvs++[(k,.ref r)]))) r (.lst ([]++[.int h]))) ⟨ob2,by rw[je rS.symm];exact ja,by
   rw[jvj h3];refine qq (Paired.vf Bq.hs λkv pp ⟨e1,c,e2,e3⟩=>⟨e1,c,e2,?_⟩) ⟨rfl,r,rfl,ja⟩;rw[je (jj e3 hr),je (jm0 e3 Bq.sg (by intro z;cases z)),je (jj e3 hr)];exact e3,by
   rw[map_append,nodup_append];refine⟨Bq.un,by simp,λx hx y hy e=>?_⟩;rw[map_cons,map_nil,mem_singleton]at hy;rw[e,hy]at hx;exact j2k hr Bq.hs hx⟩ λc' u hc cS _=>by rw[je (jj hc hr),je cS,je (jj hc hr)];exact hc
  have goal:=goal λc u hc z kv hm=>by
   rcases mem_append.mp hm with y|y
   .exact z kv y
   .have y':kv=(k,.ref r):=by simpa using y
    rw[y'];intro w;have w':r=c:=by simpa using w
    rw[<-w',hr]at hc;cases hc
  rw[h2]at goal;have e:decide (V.int ((([]:List V)++[V.int h]).length:Nat)=V.int en)=decide ((([]:List Int).length:Int)+1=en):=by simp
  rw[<-e]at goal;exact goal
noncomputable def jyx (H:Hp)(v:V)(t:List Int):Prop:=∃a,v= .ref a/\H a=some (.tup (t.map V.int))
theorem jyx.same {H H':Hp}(s:vq H H'){v:V}{t:List Int}(h:jyx H v t):jyx H' v t:=let⟨a,e,q⟩:=h;⟨a,e,s _ _ q⟩
theorem jyx.at_ {K:W.Frag}{H:Hp}{vs:List V}{ts:List (List Int)}(h:Paired (jyx H) vs ts):jxq K H vs ts:=Paired.vf h λ_ _ ⟨a,e,q⟩=>⟨a,e,SqT.of q⟩
theorem jul {F:V->List Int->Prop}{vs:List V}{ts:List (List Int)}(p:Paired F vs ts):∀{ix:List Nat},(∀i∈ix,i<vs.length)->Paired F (ix.map λi=>vs.getD i .non) (ix.map λi=>ts.getD i [])
 |[],_=>.nil
 |i::ix,h=>by obtain⟨t,e,q⟩:=qg p (getElem?_eq_getElem (h i mem_cons_self));rw[map_cons,map_cons];refine .cons ?_ (jul p λj hj=>h j (mem_cons_of_mem _ hj));rw[getD_eq_getElem?_getD,getD_eq_getElem?_getD,e,getElem?_eq_getElem (h i mem_cons_self)];exact q
noncomputable def jv6 (t:Ad):Sp:=λvs H Q _=>∃p dx S en kvs is,vs=[.ref p]/\vu t H p dx S en kvs (thP is)/\kvs.length<64/\(is.map (·.1)).Nodup/\(∀x∈is,x.1≠[])/\∀(r:Addr)(vs':List V)(ts':List (List Int))(H':Hp),H r=none->vq H H'->ts'.Perm (xo is en)->Paired (jyx H') vs' ts'->H' r=some (.lst vs')->Q (.ref r) H'
theorem jo3 (T:Txt K mg t):xj P w K mg base CX0 2 t.jec t.jd4 ["self"] (jv6 t):=by
 refine T.ji7.okB (N:=["self"]) λ_ A _ s H vs Q E hr h=>?_;obtain⟨p,dx,S,en,kvs,is,rfl,Bq,l64,nd,ne,q⟩:=h;refine⟨_,(@jd _ _ _ (jx (jn jva rfl T.jtm boot_sorted (jc (jv0 (gk (N':=["thing","self"]) (ix:=[none,some 0]) (xm (by kernel_rfl)) rfl (j8c (j5 (pv 0) rfl)) (λ_ _ _ _=>(ju (i:=0) qa5 rfl (Or.inl rfl) (.inr rfl))) (λ_ _ _ _=>(jg8 (qr (qi (pv 1) T.xp T.xn (yx T) hr.dn T.xx .nil jo (jc (pv 0) jg))))) (λ_ _ _ _=>(pv 0)))) jg)))),?_⟩;have len:kvs.length=is.length:=by have:=Paired.length Bq.hs;rwa[thP,length_map]at this
 refine⟨_,rfl,p,_,dx,_,_,rfl,Bq.ob,T.xp,T.xu,jgx _ _,S,kvs,rfl,Bq.sg,λo=>j8j (λi ys U H'=>∃v,U=[v,some (.ref p)]/\vq (upd H S (.frz o (.dT kvs))) H'/\Paired (jyx H') ys (xo (is.take i) en)) ⟨none,rfl,vq.refl _,.nil⟩ ?_ ?_ ?_⟩
 .rintro i ys U H' hi ⟨v,rfl,sm,tu⟩
  refine⟨sm _ _ ja,?_⟩;rw[Paired.length tu,xo,length_map];exact jng (le_trans (length_filter_le _ _) (by rw[length_take];omega))
 .rintro i kv b ys U H' ek eb ⟨v,rfl,sm,tu⟩
  obtain⟨pp,ep,e1,c,e2,e3⟩:=qg Bq.hs ek;obtain⟨x,ex,rfl⟩:∃x,is[i]?=some x/\(jo6 x.1,x.2)=pp:=by
   rw[thP,getElem?_map]at ep;cases hx:is[i]? with
   |none=>rw[hx]at ep;cases ep
   |some x=>rw[hx]at ep;exact⟨x,rfl,Option.some.inj ep⟩
  have hfr:∀c u,H c=some u->c≠S->H' c=some u:=λc u hc cS=>sm _ _ (by rw[je cS];exact hc);have hS':H' S=some (.frz o (.dT kvs)):=sm _ _ ja;have R:jtt t H' p dx S en kvs (thP is):=⟨hfr _ _ Bq.ob (jm0 Bq.ob Bq.sg (by intro z;cases z)),.inr ⟨o,hS'⟩,Paired.vf Bq.hs λ_ _ ⟨a1,c,a2,a3⟩=>⟨a1,c,a2,hfr _ _ a3 (jm0 a3 Bq.sg (by intro z;cases z))⟩⟩;have hk:kv.1=jo6 x.1:=e1;rw[hk]at eb;have hh:=jqr nd ex;have tk:xo (is.take (i+1)) en=xo (is.take i) en++(if en<=(x.2.length:Int)then[x.1]else[]):=by unfold xo;rw[take_snoc ex,filter_append,map_append];by_cases z:en<=(x.2.length:Int)<;>simp[z]
  refine⟨_,rfl,p,dx,_,rfl,R.ob,jqn _ _ (by decide+kernel) (by decide+kernel),_,rfl,p,dx,S,en,kvs,thP is,b,jo6 x.1,rfl,R,eb,λH3 s3=>⟨_,rfl,?_⟩⟩;rw[hh];have eb3:H3 b=some (.tup (x.1.map V.int)):=by have:=s3 _ _ eb;rwa[j20]at this
  refine jhz (λz=>?_) (λz=>?_)
  .refine⟨_,rfl,_,rfl,sm.trans s3,?_⟩;rw[tk,if_pos (of_decide_eq_true z)];exact qq (Paired.vf tu λ_ _ h=>h.same s3) ⟨b,rfl,eb3⟩
  .refine⟨_,rfl,sm.trans s3,?_⟩;rw[tk,if_neg (λy=>z (decide_eq_true y)),append_nil];exact Paired.vf tu λ_ _ h=>h.same s3
 .rintro ys U H' ⟨v,rfl,sm,tu⟩ r hr
  rw[len,take_length]at tu;have hS':H' S=some (.frz o (.dT kvs)):=sm _ _ ja;have rS:r≠S:=(jj hS' hr).symm;have keepE:∀c u,H' c=some u->c≠S->upd (upd H' r (.lst ys)) S (.dT kvs) c=some u:=λc u hc cS=>by rw[je cS,je (jj hc hr)];exact hc
  have tu2:Paired (jyx (upd (upd H' r (.lst ys)) S (.dT kvs))) ys (xo is en):=Paired.vf tu λ_ _ ⟨a,e,h⟩=>⟨a,e,keepE _ _ h (jm0 h hS' (by intro z;cases z))⟩;refine⟨S,o,.dT kvs,(by rw[je rS.symm];exact hS'),(λo' u' z=>?_),True.intro,r,ys,xo is en,rfl,SqL.of (by rw[je rS];exact ja),jyx.at_ tu2,?_,?_,?_,λq' vs' ts' ix hq pix ev et _ pt _=>?_⟩
  .have z':H S=some (.frz o' u'):=z;rw[Bq.sg]at z';cases z'
  .rw[Paired.length tu,xo,length_map];exact lt_of_le_of_lt (length_filter_le _ _) (by omega)
  .exact nd.sublist (List.filter_sublist.map _)
  .intro u hu;obtain⟨x,hx,rfl⟩:=mem_map.mp hu;exact ne x (mem_filter.mp hx).1
  .obtain⟨n1,n2⟩:=jmx hq;obtain⟨n3,n4⟩:=jmx n2;have h0:=(jmx (sm.free n4)).2;have tu3:Paired (jyx (upd (upd (upd H' r (.lst ys)) S (.dT kvs)) q' (.lst vs'))) vs' ts':=by
    have:=jul (Paired.vf tu2 λ_ _ h=>h.same (jf (o:=.lst vs') hq)) (ix:=ix) (λi hi=>mem_range.mp (pix.mem_iff.mp hi));rw[ev,et];rw[ev]at this;exact this
   refine q q' vs' ts' _ h0 (λc u hc=>?_) pt tu3 ja;rw[je (jj hc h0)];by_cases cS:c=S
   .subst cS;rw[ja,<-hc,Bq.sg]
   .exact keepE c u (sm _ _ (by rw[je cS];exact hc)) cS
theorem jnr (T:Txt K mg t):xj P w K mg base CX0 1 t.pe t.jcr ["self","enough"] (j0m t):=by
 refine T.jhq.okB (N:=["self","enough"]) λ_ A _ s H vs Q E hr h=>?_;obtain⟨x,dx,en,rfl,hx,k⟩:=h;refine⟨_,(@jb _ _ _ _ _ (vh (pv 0) (pv 1) rfl) (@jd _ _ _ (vh (pv 0) jo9 rfl))),?_⟩;refine⟨_,rfl,_,rfl,x,_,dx,_,rfl,hx,T.xp,T.ym,(by show 0<1000;decide),λS hS=>?_⟩;obtain⟨Sx,hS0⟩:=jmx hS;refine⟨_,rfl,x,_,dx,_,rfl,(by rw[je (Ne.symm Sx),ja]),T.xp,T.xu,(by show 1<1000;decide),?_⟩;refine k S _ hS0 ⟨ja,by rw[je Sx];exact ja,.nil,.nil⟩ λb o e bx=>?_;rw[je bx,je (jj e hS0),je bx];exact e
theorem jlp (T:Txt K mg t):xj P w K mg base CX0 1 t.jaq t.jbf ["self","purse"] (λvs H Q _=>∃x v,vs=[.ref x,v]/\H x=some (jvm x t.xk)/\∀d,H d=none->Q .non (upd (upd H x (jpm x t.xk d)) d (.xd [("purse",v)]))):=by refine T.jfa.okB (N:=["self","purse"]) λ_ A _ s H vs Q E hr h=>?_;obtain⟨x,v,rfl,hx,k⟩:=h;refine⟨_,(@jd _ _ _ (j4x T.jkw rfl (pv 0) (pv 1) rfl)),?_⟩;exact⟨_,rfl,_,rfl,x,rfl,hx,k⟩
theorem j9c {H:Hp}{ea d:Addr}{X Yq Zq:HO}(h:H ea=none)(hd:upd H ea X d=none):H d=none/\upd (upd (upd H ea X) ea Yq) d Zq ea=some Yq/\vq H (λb=>if b=ea then none else upd (upd (upd H ea X) ea Yq) d Zq b)/\(λb=>if b=ea then none else upd (upd (upd H ea X) ea Yq) d Zq b) d=some Zq:=by
 have n1:d≠ea:=λz=>by rw[z,ja]at hd;cases hd
 have n2:H d=none:=by rw[je n1]at hd;exact hd
 refine⟨n2,by rw[je (Ne.symm n1),ja],λb u e=>?_,?_⟩
 .have be:=jj e h;show(if b=ea then none else upd (upd (upd H ea X) ea Yq) d Zq b)=some u;rw[if_neg be,je (jj e n2),je be,je be];exact e
 .show(if d=ea then none else upd (upd (upd H ea X) ea Yq) d Zq d)=some Zq;rw[if_neg n1,ja]
theorem ko {a b:TS}{D:Ends}{U:St}{H:Hp}(h:∀N:St->Hp->Prop,(∀U' H',b D U' H'->N U' H')->a {D with nx:=N} U H):j9y a b D U H:=h _ λ_ _ x=>x
theorem ifN {c:TT}{a b:TS}{D:Ends}{U:St}{H:Hp}(h:∀N:Bool->Hp->Prop,(∀k H',(if k=true then a D U H' else b D U H')->N k H')->c U H N):j90 c a b D U H:=h _ λ_ _ x=>x
structure Kp where
 held:List Int
 jep:List Int
 done:List O
 jf5:List O
 unv:List O
 cho:List ((Int×Int)×O)
 wait:List O
noncomputable def gI (xs:List Int)(i:Int):Int:=(xs[i.toNat]?).getD 0
noncomputable def jbn (xs:List Int)(i d:Int):List Int:=xs.set i.toNat (gI xs i+d)
theorem jer (xs:List Int)(i d:Int):(jbn xs i d).length=xs.length:=length_set ..
theorem juz {xs:List Int}{i:Int}(h0:0<=i)(h:i<xs.length):xs[i.toNat]?=some (gI xs i):=by unfold gI;rw[getElem?_eq_getElem (by omega)];rfl
noncomputable def Kp.past (k:Kp)(o:O):Bool:=decide (o.n<gI k.jep o.p)
noncomputable def Kp.due (k:Kp)(o:O):Bool:=decide (o.n=gI k.jep o.p)&&decide (o.m<=gI k.held o.p)
noncomputable def Kp.settle (k:Kp)(o:O):Kp:={k with held:=jbn (jbn k.held o.p (-o.m)) o.g o.m,jep:=jbn k.jep o.p 1,done:=k.done++[o]}
noncomputable def jry (c:List ((Int×Int)×O))(o:O):Bool:=c.any λx=>decide (x.1=(o.p,o.n))
noncomputable abbrev Gv:=List ((Int×Int)×O)×List O×List O
noncomputable def gvS (k:Kp)(o:O)(a:Gv):Gv:=if(k.due o&&!jry a.1 o)=true then(a.1++[((o.p,o.n),o)],a.2.1++[o],a.2.2)else if(!k.past o&&!jry a.1 o)=true then(a.1,a.2.1,a.2.2++[o])else a
noncomputable def gv (k:Kp)(os:List O)(a:Gv):Gv:=os.foldl (λa o=>gvS k o a) a
noncomputable def Kp.zj (k:Kp):Kp×List O:=({k with cho:=(gv k k.unv (k.cho,[],[])).1,unv:=(gv k k.unv (k.cho,[],[])).2.2},(gv k k.unv (k.cho,[],[])).2.1)
noncomputable def Kp.first (k:Kp):Option O:=k.wait.find? k.due
noncomputable def Kp.step (k:Kp)(o:O):Kp:={k with wait:=k.wait.erase o}.settle o
noncomputable def Kp.go:Nat->Kp->Kp
 |0,k=>k
 |n+1,k=>match k.first with
  |none=>k
  |some o=>Kp.go n (k.step o)
noncomputable def Kp.j1d (k:Kp):Kp:=Kp.go k.wait.length k
noncomputable def Kp.j5n (k:Kp)(o:O):Kp×List O:=if o∈k.jf5 then(k,[])else Kp.zj {k with jf5:=k.jf5++[o],unv:=k.unv++[o]}
noncomputable def Kp.jqq (k:Kp)(o:O):Kp×List O:=if(k.past o||decide (o∈k.wait))=true then(k,[])else(Kp.j1d {k with wait:=k.wait++[o]}).zj
structure Kp.Ok (n:Nat)(k:Kp):Prop where
 h:k.held.length=n
 x:k.jep.length=n
 u:∀o∈k.unv,ye n o=true
 w:∀o∈k.wait,ye n o=true
 nd:k.wait.Nodup
theorem Kp.Ok.settle {n:Nat}{k:Kp}(q:k.Ok n)(o:O):(k.settle o).Ok n:=⟨by show(jbn (jbn _ _ _) _ _).length=n;rw[jer,jer];exact q.h,by show(jbn _ _ _).length=n;rw[jer];exact q.x,q.u,q.w,q.nd⟩
theorem Kp.Ok.step {n:Nat}{k:Kp}(q:k.Ok n)(o:O):(k.step o).Ok n:=Kp.Ok.settle (k:={k with wait:=k.wait.erase o}) ⟨q.h,q.x,q.u,λo' h=>q.w o' (List.mem_of_mem_erase h),q.nd.erase o⟩ o
theorem jsv (k:Kp){P:O->Prop}:∀(os:List O)(a:Gv),(∀o∈os,P o)->(∀o∈a.2.2,P o)->∀o∈(gv k os a).2.2,P o
 |[],a,_,h=>h
 | o::os,a,h1,h2=>by
  unfold gv;rw[foldl_cons];refine jsv k os _ (λo' h=>h1 o' (mem_cons_of_mem _ h)) ?_;unfold gvS;split
  .exact h2
  .split
   .intro o' h;rcases mem_append.mp h with h|h
    .exact h2 o' h
    .rw[mem_singleton.mp h];exact h1 o mem_cons_self
   .exact h2
theorem Kp.Ok.zj {n:Nat}{k:Kp}(q:k.Ok n):k.zj.1.Ok n:=⟨q.h,q.x,jsv k k.unv _ q.u (λo h=>by cases h),q.w,q.nd⟩
set_option genInjectivity true in
inductive Part where
 | x | wy | ak | bd | sd | sg | kd
 | row (i:Nat)
 | kp (h:Int) (f:Nat)
 | own (i:Nat)
 deriving DecidableEq
noncomputable abbrev Role:=Nat×Part
noncomputable abbrev Rho:=Addr->Option Role
noncomputable def jwc:HO->Prop
 | .tup _=>False
 | .frz _ (.tup _)=>False
 |_=>True
noncomputable def OkR (Z:Rho)(H:Hp):Prop:=∀a r,Z a=some r->∃u,H a=some u/\jwc u
noncomputable def Fr (P:Role->Prop)(Z:Rho)(H:Hp)(Z':Rho)(H':Hp):Prop:=∀a u,H a=some u->(∀r,Z a=some r->¬P r)->H' a=some u/\Z' a=Z a
noncomputable def jad (Z:Rho)(p:Addr)(r:Role):Rho:=λa=>if a=p then some r else Z a
theorem qx {Z:Rho}{p:Addr}{r:Role}:jad Z p r p=some r:=if_pos rfl
theorem zd {Z:Rho}{p a:Addr}{r:Role}(h:a≠p):jad Z p r a=Z a:=if_neg h
theorem Fr.refl {P:Role->Prop}{Z:Rho}{H:Hp}:Fr P Z H Z H:=λ_ _ e _=>⟨e,rfl⟩
theorem Fr.trans {P:Role->Prop}{Z Z' Z'':Rho}{H H' H'':Hp}(f:Fr P Z H Z' H')(g:Fr P Z' H' Z'' H''):Fr P Z H Z'' H'':=λa u e n=>by obtain⟨e1,r1⟩:=f a u e n;obtain⟨e2,r2⟩:=g a u e1 (λr h=>n r (r1 ▸ h));exact⟨e2,r2.trans r1⟩
theorem Fr.mono {P P':Role->Prop}{Z Z':Rho}{H H':Hp}(h:∀r,P r->P' r)(f:Fr P Z H Z' H'):Fr P' Z H Z' H':=λa u e n=>f a u e λr hr p=>n r hr (h r p)
theorem Fr.same {P:Role->Prop}{Z:Rho}{H H':Hp}(s:vq H H'):Fr P Z H Z H':=λ_ _ e _=>⟨s _ _ e,rfl⟩
theorem OkR.same {Z:Rho}{H H':Hp}(s:vq H H')(o:OkR Z H):OkR Z H':=λa r h=>let⟨u,e,n⟩:=o a r h;⟨u,s _ _ e,n⟩
theorem OkR.none {Z:Rho}{H:Hp}{p:Addr}(o:OkR Z H)(h:H p=none):Z p= .none:=by
 cases e:Z p with
 |none=>rfl
 |some r=>obtain⟨u,q,_⟩:=o p r e;rw[h]at q;cases q
theorem OkR.tup {Z:Rho}{H:Hp}{p:Addr}{xs:List V}(o:OkR Z H)(h:H p=some (.tup xs)):Z p= .none:=by
 cases e:Z p with
 |none=>rfl
 |some r=>obtain⟨u,q,n⟩:=o p r e;rw[h]at q;cases q;exact n.elim
theorem Fr.put {P:Role->Prop}{Z:Rho}{H:Hp}{a:Addr}{r:Role}{o:HO}(h:Z a=some r)(p:P r):Fr P Z H Z (upd H a o):=λb u e n=>by have:b≠a:=λz=>n r (z ▸ h) p;exact⟨by rw[je this];exact e,rfl⟩
theorem OkR.put {Z:Rho}{H:Hp}{a:Addr}{o:HO}(k:OkR Z H)(ho:autoParam (jwc o) aP7):OkR Z (upd H a o):=λb r h=>by
 by_cases z:b=a
 .subst z;exact⟨_,ja,ho⟩
 .obtain⟨u,e,n⟩:=k b r h;exact⟨u,by rw[je z];exact e,n⟩
theorem Fr.jnh {P:Role->Prop}{Z:Rho}{H:Hp}{p:Addr}{r:Role}{o:HO}(n:H p=none):Fr P Z H (jad Z p r) (upd H p o):=λb u e _=>by have:b≠p:=jj e n;exact⟨by rw[je this];exact e,zd this⟩
theorem OkR.jnh {Z:Rho}{H:Hp}{p:Addr}{r:Role}{o:HO}(k:OkR Z H)(ho:autoParam (jwc o) aP7):OkR (jad Z p r) (upd H p o):=λb r' h=>by
 by_cases z:b=p
 .subst z;exact⟨_,ja,ho⟩
 .rw[zd z]at h;obtain⟨u,e,n⟩:=k b r' h;exact⟨u,by rw[je z];exact e,n⟩
theorem ner {Z:Rho}{a b:Addr}{r r':Role}(ha:Z a=some r)(hb:Z b=some r')(n:r≠r'):a≠b:=λz=>by subst z;rw[ha]at hb;exact n (Option.some.inj hb)
theorem neu {Z:Rho}{a b:Addr}{r:Role}(ha:Z a=none)(hb:Z b=some r):a≠b:=λz=>by subst z;rw[ha]at hb;cases hb
noncomputable def xi (H:Hp)(Z:Rho)(x:V)(o:O):Prop:=∃a,x= .ref a/\Z a=none/\H a=some (.tup (jna o))
theorem xi.fr {P:Role->Prop}{Z Z':Rho}{H H':Hp}{x:V}{o:O}(f:Fr P Z H Z' H')(h:xi H Z x o):xi H' Z' x o:=by
 obtain⟨a,e,n,q⟩:=h;obtain⟨q',n'⟩:=f a _ q λr hr=>by rw[n]at hr;cases hr
 exact⟨a,e,n'.trans n,q'⟩
theorem xi.at_ {H:Hp}{Z:Rho}{x:V}{o:O}(h:xi H Z x o):j9i H x o:=let⟨a,e,_,q⟩:=h;⟨a,e,q⟩
noncomputable def jl0 (o:O):List Key:=[.inl o.p,.inl o.n,.inl o.g,.inl o.m]
theorem j15 {o u:O}(h:jl0 o=jl0 u):o=u:=by cases o;cases u;unfold jl0 at h;simp at h;simp[h]
noncomputable def bkf (he nn dn:Addr):List (Str×V):=vy "done" (.ref dn) (vy "next_numbers" (.ref nn) (vy "held" (.ref he) []))
noncomputable def kf (he nn dn hd un cs wt:Addr):List (Str×V):=vy "waiting" (.ref wt) (vy "choices" (.ref cs) (vy "unvoted" (.ref un) (vy "heard" (.ref hd) (bkf he nn dn))))
noncomputable abbrev kfA (A:Nat->Addr):List (Str×V):=kf (A 1) (A 2) (A 3) (A 4) (A 5) (A 6) (A 7)
noncomputable def jty (H:Hp)(Z:Rho)(B:Kp)(f:Nat)(u:HO):Prop:=match f with
 |1=>u= .lst (B.held.map V.int)
 |2=>u= .lst (B.jep.map V.int)
 |3=>∃xs,u= .lst xs/\Paired (xi H Z) xs B.done
 |4=>∃kvs,u= .dT kvs/\kvs.map (·.1)=B.jf5.map jl0
 |5=>∃xs,u= .lst xs/\Paired (xi H Z) xs B.unv
 |6=>∃kvs,u= .dT kvs/\Paired (λkv (c:(Int×Int)×O)=>kv.1=[.inl c.1.1,.inl c.1.2]/\xi H Z kv.2 c.2) kvs B.cho
 |7=>∃xs,u= .lst xs/\Paired (xi H Z) xs B.wait
 |_=>True
theorem jty.fr {P:Role->Prop}{Z Z':Rho}{H H':Hp}{B:Kp}{f:Nat}{u:HO}(fr:Fr P Z H Z' H')(h:jty H Z B f u):jty H' Z' B f u:=by
 unfold jty at h⊢;split at h
 .exact h
 .exact h
 .obtain⟨xs,e,p⟩:=h;exact⟨xs,e,Paired.vf p λ_ _=>xi.fr fr⟩
 .exact h
 .obtain⟨xs,e,p⟩:=h;exact⟨xs,e,Paired.vf p λ_ _=>xi.fr fr⟩
 .obtain⟨xs,e,p⟩:=h;exact⟨xs,e,Paired.vf p λ_ _ ⟨a,b⟩=>⟨a,b.fr fr⟩⟩
 .obtain⟨xs,e,p⟩:=h;exact⟨xs,e,Paired.vf p λ_ _=>xi.fr fr⟩
 .trivial
structure xq (t:Ad)(H:Hp)(Z:Rho)(id:Nat)(h:Int)(k:Addr)(A:Nat->Addr)(dk:Addr)(B:Kp):Prop where
 ob:H k=some (.ins t.j8 dk (kfA A))
 r0:Z k=some (id,.kp h 0)
 fl:∀f,1<=f->f<=7->Z (A f)=some (id,.kp h f)/\∃u,H (A f)=some u/\jty H Z B f u
noncomputable def isK (id:Nat)(h:Int):Role->Prop:=λr=>∃f,r=(id,.kp h f)
section
variable {t:Ad}{H H':Hp}{Z Z':Rho}{id:Nat}{h:Int}{k dk:Addr}{A:Nat->Addr}{B κ':Kp}{P:Role->Prop}
theorem xq.fr (hP:∀f,¬P (id,.kp h f))(f:Fr P Z H Z' H')(K:xq t H Z id h k A dk B):xq t H' Z' id h k A dk B:=by
 obtain⟨e1,r1⟩:=f _ _ K.ob λr hr=>by rw[K.r0]at hr;cases hr;exact hP 0
 refine⟨e1,r1.trans K.r0,λi h1 h7=>?_⟩;obtain⟨ri,u,hu,q⟩:=K.fl i h1 h7;obtain⟨e2,r2⟩:=f _ _ hu λr hr=>by rw[ri]at hr;cases hr;exact hP i
 exact⟨r2.trans ri,u,e2,q.fr f⟩
theorem xq.put (K:xq t H Z id h k A dk B){f0:Nat}(h1:1<=f0)(h7:f0<=7){u0:HO}(q0:jty (upd H (A f0) u0) Z κ' f0 u0)(hs:∀f u,f≠f0->jty H Z B f u->jty H Z κ' f u):xq t (upd H (A f0) u0) Z id h k A dk κ'/\Fr (isK id h) Z H Z (upd H (A f0) u0):=by
 obtain⟨r0,_⟩:=K.fl f0 h1 h7;have fr:Fr (isK id h) Z H Z (upd H (A f0) u0):=Fr.put r0 ⟨f0,rfl⟩;refine⟨⟨?_,K.r0,λf a b=>?_⟩,fr⟩
 .rw[je (ner K.r0 r0 (by intro z;cases z;omega))];exact K.ob
 .obtain⟨rf,u,hu,q⟩:=K.fl f a b;by_cases z:f=f0
  .subst z;exact⟨rf,_,ja,q0⟩
  .refine⟨rf,u,?_,(hs f u z q).fr fr⟩;rw[je (ner rf r0 (by intro y;cases y;exact z rfl))];exact hu
end
theorem yi (A:Nat->Addr):(kfA A).lookup ("held":Str)=some (.ref (A 1))/\(kfA A).lookup ("next_numbers":Str)=some (.ref (A 2))/\(kfA A).lookup ("done":Str)=some (.ref (A 3))/\(kfA A).lookup ("heard":Str)=some (.ref (A 4))/\(kfA A).lookup ("unvoted":Str)=some (.ref (A 5))/\(kfA A).lookup ("choices":Str)=some (.ref (A 6))/\(kfA A).lookup ("waiting":Str)=some (.ref (A 7)):=by unfold kfA kf bkf;refine⟨?_,?_,?_,?_,?_,?_,?_⟩<;>repeat(first|rw[jh,if_pos rfl]|rw[jh,if_neg (by decide+kernel)])
theorem jd5 (A:Nat->Addr){m:Str}(h:autoParam (¬m="waiting"/\¬m="choices"/\¬m="unvoted"/\¬m="heard"/\¬m="done"/\¬m="next_numbers"/\¬m="held") aP5):(kfA A).lookup m=none:=by obtain⟨h1,h2,h3,h4,h5,h6,h7⟩:=h;unfold kfA kf bkf;rw[jh,if_neg h1,jh,if_neg h2,jh,if_neg h3,jh,if_neg h4,jh,if_neg h5,jh,if_neg h6,jh,if_neg h7];rfl
theorem xq.he {t:Ad}{H:Hp}{Z:Rho}{id:Nat}{h:Int}{k dk:Addr}{A:Nat->Addr}{B:Kp}(K:xq t H Z id h k A dk B):H (A 1)=some (.lst (B.held.map V.int)):=by obtain⟨_,u,hu,q⟩:=K.fl 1 (by decide) (by decide);rw[hu,show u=_ from q]
theorem xq.nn {t:Ad}{H:Hp}{Z:Rho}{id:Nat}{h:Int}{k dk:Addr}{A:Nat->Addr}{B:Kp}(K:xq t H Z id h k A dk B):H (A 2)=some (.lst (B.jep.map V.int)):=by obtain⟨_,u,hu,q⟩:=K.fl 2 (by decide) (by decide);rw[hu,show u=_ from q]
theorem xq.dn {t:Ad}{H:Hp}{Z:Rho}{id:Nat}{h:Int}{k dk:Addr}{A:Nat->Addr}{B:Kp}(K:xq t H Z id h k A dk B):∃xs,H (A 3)=some (.lst xs)/\Paired (xi H Z) xs B.done:=by obtain⟨_,u,hu,xs,rfl,q⟩:=K.fl 3 (by decide) (by decide);exact⟨xs,hu,q⟩
theorem xq.hd {t:Ad}{H:Hp}{Z:Rho}{id:Nat}{h:Int}{k dk:Addr}{A:Nat->Addr}{B:Kp}(K:xq t H Z id h k A dk B):∃kvs,H (A 4)=some (.dT kvs)/\kvs.map (·.1)=B.jf5.map jl0:=by obtain⟨_,u,hu,xs,rfl,q⟩:=K.fl 4 (by decide) (by decide);exact⟨xs,hu,q⟩
theorem xq.un {t:Ad}{H:Hp}{Z:Rho}{id:Nat}{h:Int}{k dk:Addr}{A:Nat->Addr}{B:Kp}(K:xq t H Z id h k A dk B):∃xs,H (A 5)=some (.lst xs)/\Paired (xi H Z) xs B.unv:=by obtain⟨_,u,hu,xs,rfl,q⟩:=K.fl 5 (by decide) (by decide);exact⟨xs,hu,q⟩
theorem xq.cs {t:Ad}{H:Hp}{Z:Rho}{id:Nat}{h:Int}{k dk:Addr}{A:Nat->Addr}{B:Kp}(K:xq t H Z id h k A dk B):∃kvs,H (A 6)=some (.dT kvs)/\Paired (λkv (c:(Int×Int)×O)=>kv.1=[.inl c.1.1,.inl c.1.2]/\xi H Z kv.2 c.2) kvs B.cho:=by obtain⟨_,u,hu,xs,rfl,q⟩:=K.fl 6 (by decide) (by decide);exact⟨xs,hu,q⟩
theorem xq.wt {t:Ad}{H:Hp}{Z:Rho}{id:Nat}{h:Int}{k dk:Addr}{A:Nat->Addr}{B:Kp}(K:xq t H Z id h k A dk B):∃xs,H (A 7)=some (.lst xs)/\Paired (xi H Z) xs B.wait:=by obtain⟨_,u,hu,xs,rfl,q⟩:=K.fl 7 (by decide) (by decide);exact⟨xs,hu,q⟩
theorem jvi {n:Nat}{o:O}{xs:List Int}(h:ye n o=true)(l:xs.length=n):xs[o.p.toNat]?=some (gI xs o.p)/\0<=o.p/\o.p<n:=by obtain⟨a1,a2,_⟩:=jam.mp h;exact⟨juz a1 (by omega),a1,by omega⟩
theorem jee (T:Txt K mg t):xj P w K mg base CX0 1 t.jbu t.jfl ["self","order"] (λvs H Q _=>∃Z id h k A dk B n q o,vs=[.ref k,.ref q]/\xq t H Z id h k A dk B/\H q=some (.tup (jna o))/\ye (n:Nat) o=true/\B.jep.length=n/\Q (.bl (B.past o)) H):=by refine T.jke.okB (N:=["self","order"]) λ_ A _ s H vs Q E hr h=>?_;obtain⟨Z,id,h,k,A',dk,B,n,q,o,rfl,R,hq,ho,l,g⟩:=h;refine⟨_,(@jd _ _ _ (jx (ja2 j1u (ya jdm (pv 1) jk (λ_ _=>rfl)) (ya yp (j5 (pv 0) rfl) (ya jdm (pv 1) jk (λ_ _=>rfl)) (λ_ _=>rfl)) (qc _)))),?_⟩;obtain⟨e,p0,_⟩:=jvi ho l;refine⟨_,rfl,q,jna o,1,.int o.n,rfl,rfl,SqT.of hq,rfl,_,rfl,k,_,dk,_,_,rfl,R.ob,T.jq,T.za,(yi A').2.1,_,rfl,q,jna o,0,.int o.p,rfl,rfl,SqT.of hq,rfl,A' 2,_,o.p,.int (gI B.jep o.p),rfl,rfl,SqL.of R.nn,jef p0 (by rw[getElem?_map,e];rfl),_,_,rfl,rfl,g⟩
theorem jkh (T:Txt K mg t):xj P w K mg base CX0 1 t.jdc t.jgy ["self","order"] (λvs H Q _=>∃Z id h k A dk B n q o,vs=[.ref k,.ref q]/\xq t H Z id h k A dk B/\H q=some (.tup (jna o))/\ye (n:Nat) o=true/\B.jep.length=n/\B.held.length=n/\Q (.bl (B.due o)) H):=by
 refine T.jm2.okA kj λ_ A _ s H vs Q E hr h=>?_;obtain⟨Z,id,h,k,A',dk,B,n,q,o,rfl,R,hq,ho,l,l2,g⟩:=h;refine⟨_,(@jb _ _ _ _ _ (jhk (pv 1) (jkl rfl (jy (ju (i:=2) kj.nd rfl (Or.inl rfl)) (jy (ju (i:=3) kj.nd rfl (Or.inl rfl)) (jy (ju (i:=4) kj.nd rfl (Or.inl rfl)) (jy (ju (i:=5) kj.nd rfl (Or.inl rfl)) jfo)))))) (@jd _ _ _ (jx (jhu (ja2 jen (pv 3) (ya yp (j5 (pv 0) rfl) (pv 2) (λ_ _=>rfl)) (qc _)) (jid (ja2 j2d (pv 5) (ya yp (j5 (pv 0) rfl) (pv 2) (λ_ _=>rfl)) (qc _))))))),?_⟩;obtain⟨e,p0,_⟩:=jvi ho l;obtain⟨e2,_,_⟩:=jvi ho l2;refine⟨_,rfl,q,_,rfl,SqT.of hq,rfl,_,_,rfl,_,_,rfl,_,_,rfl,_,_,rfl,rfl,?_⟩;refine⟨_,rfl,_,rfl,k,_,dk,_,_,rfl,R.ob,T.jq,T.za,(yi A').2.1,_,rfl,A' 2,_,o.p,.int (gI B.jep o.p),rfl,rfl,SqL.of R.nn,jef p0 (by rw[getElem?_map,e];rfl),rfl,_,rfl,?_⟩;unfold Kp.due at g;refine jhz (λz=>?_) (λz=>?_)
 .refine⟨_,rfl,_,rfl,k,_,dk,_,_,rfl,R.ob,T.jq,T.vn,(yi A').1,_,rfl,A' 1,_,o.p,.int (gI B.held o.p),rfl,rfl,SqL.of R.he,jef p0 (by rw[getElem?_map,e2];rfl),_,_,rfl,rfl,?_⟩;rw[decide_eq_true (V.int.inj (of_decide_eq_true z)),Bool.true_and]at g;exact g
 .rw[decide_eq_false (λy=>z (by rw[y];exact decide_eq_true rfl)),Bool.false_and]at g;exact g
theorem jrr (T:Txt K mg t):xj P w K mg base CX0 1 t.jdd t.jgm ["self","order"] (λvs H Q _=>∃Z id h k A dk B n q o,vs=[.ref k,.ref q]/\xq t H Z id h k A dk B/\xi H Z (.ref q) o/\ye (n:Nat) o=true/\B.jep.length=n/\B.held.length=n/\B.done.length<=1000/\OkR Z H/\∀H',xq t H' Z id h k A dk (B.settle o)->Fr (isK id h) Z H Z H'->OkR Z H'->Q .non H'):=by
 refine T.jm1.okA kq λ_ A _ s H vs Q E hr h=>?_;obtain⟨Z,id,h,k,A',dk,B,n,q,o,rfl,R,uq,ho,l,l2,ld,kr,g⟩:=h;refine⟨_,(@jb _ _ _ _ _ (jhk (pv 1) (jkl rfl (jy (ju (i:=2) kq.nd rfl (Or.inl rfl)) (jy (ju (i:=3) kq.nd rfl (Or.inl rfl)) (jy (ju (i:=4) kq.nd rfl (Or.inl rfl)) (jy (ju (i:=5) kq.nd rfl (Or.inl rfl)) jfo)))))) (@jb _ _ _ _ _ (jvw (j5 (pv 0) rfl) (pv 2) jto (pv 5) j6n set_list) (@jb _ _ _ _ _ (jvw (j5 (pv 0) rfl) (pv 4) jto (pv 5) jzk set_list) (@jb _ _ _ _ _ (jvw (j5 (pv 0) rfl) (pv 2) jto jk jzk set_list) (@jd _ _ _ (qk (jjx PySem.F.plainAttrs_list PySem.F.slot_list_append PySem.F.type_list_append wz (j5 (pv 0) rfl) (jc (pv 1) jg)))))))),?_⟩;obtain⟨_,eq,nq,hq⟩:=uq;cases eq;obtain⟨e,p0,p1⟩:=jvi ho l;obtain⟨e2,_,_⟩:=jvi ho l2;refine⟨_,rfl,q,_,rfl,SqT.of hq,rfl,_,_,rfl,_,_,rfl,_,_,rfl,_,_,rfl,rfl,?_⟩;obtain⟨g0,g1⟩:=(λa=>⟨a.2.2.1,a.2.2.2.1⟩:_->0<=o.g/\o.g<=(n:Int)-1) (jam.mp ho);refine⟨_,rfl,k,_,dk,_,_,rfl,R.ob,T.jq,T.vn,(yi A').1,_,rfl,A' 1,_,o.p,.int (gI B.held o.p),rfl,rfl,SqL.of R.he,p0,(by rw[getElem?_map,e2];rfl),_,rfl,_,_,rfl,rfl,A' 1,_,o.p,_,rfl,rfl,R.he,jre p0 (by rw[length_map];omega),?_⟩;have m1:((B.held.map V.int).set o.p.toNat (.int (gI B.held o.p-o.m)))=(jbn B.held o.p (-o.m)).map V.int:=by
  rw[jbn,map_set];rfl
 dsimp only;rw[m1];obtain⟨R1,f1⟩:=R.put (κ':={B with held:=jbn B.held o.p (-o.m)}) (f0:=1) (by decide) (by decide) (u0:=.lst ((jbn B.held o.p (-o.m)).map V.int)) rfl (λf u hf q=>by unfold jty at q⊢;split at q<;>first|exact q|exact absurd rfl hf);have kr1:=kr.put (a:=A' 1) (o:=.lst ((jbn B.held o.p (-o.m)).map V.int));generalize upd H (A' 1) (.lst ((jbn B.held o.p (-o.m)).map V.int))=H1 at R1 f1 kr1;have l3:(jbn B.held o.p (-o.m)).length=n:=(jer ..).trans l2;have e3:(jbn B.held o.p (-o.m))[o.g.toNat]?=some (gI (jbn B.held o.p (-o.m)) o.g):=juz g0 (by omega);refine⟨_,rfl,k,_,dk,_,_,rfl,R1.ob,T.jq,T.vn,(yi A').1,_,rfl,A' 1,_,o.g,.int (gI (jbn B.held o.p (-o.m)) o.g),rfl,rfl,SqL.of R1.he,g0,(by rw[getElem?_map,e3];rfl),_,rfl,_,_,rfl,rfl,A' 1,_,o.g,_,rfl,rfl,R1.he,jre g0 (by rw[length_map];show o.g.toNat<(jbn B.held o.p (-o.m)).length;omega),?_⟩;have m2:((jbn B.held o.p (-o.m)).map V.int).set o.g.toNat (.int (gI (jbn B.held o.p (-o.m)) o.g+o.m))=(jbn (jbn B.held o.p (-o.m)) o.g o.m).map V.int:=by rw[jbn.eq_def (jbn B.held o.p (-o.m)),map_set]
 dsimp only;rw[m2];obtain⟨R2,f2⟩:=R1.put (κ':={B with held:=jbn (jbn B.held o.p (-o.m)) o.g o.m}) (f0:=1) (by decide) (by decide) (u0:=.lst ((jbn (jbn B.held o.p (-o.m)) o.g o.m).map V.int)) rfl (λf u hf q=>by unfold jty at q⊢;split at q<;>first|exact q|exact absurd rfl hf);have kr2:=kr1.put (a:=A' 1) (o:=.lst ((jbn (jbn B.held o.p (-o.m)) o.g o.m).map V.int));generalize upd H1 (A' 1) (.lst ((jbn (jbn B.held o.p (-o.m)) o.g o.m).map V.int))=H2 at R2 f2 kr2;refine⟨_,rfl,k,_,dk,_,_,rfl,R2.ob,T.jq,T.za,(yi A').2.1,_,rfl,A' 2,_,o.p,.int (gI B.jep o.p),rfl,rfl,SqL.of R2.nn,p0,(by rw[getElem?_map,e];rfl),_,_,rfl,rfl,A' 2,_,o.p,_,rfl,rfl,R2.nn,jre p0 (by rw[length_map];show o.p.toNat<B.jep.length;rw[l];omega),?_⟩;have m3:(B.jep.map V.int).set o.p.toNat (.int (gI B.jep o.p+1))=(jbn B.jep o.p 1).map V.int:=by rw[jbn,map_set]
 dsimp only;rw[m3];obtain⟨R3,f3⟩:=R2.put (κ':={B with held:=jbn (jbn B.held o.p (-o.m)) o.g o.m,jep:=jbn B.jep o.p 1}) (f0:=2) (by decide) (by decide) (u0:=.lst ((jbn B.jep o.p 1).map V.int)) rfl (λf u hf q=>by unfold jty at q⊢;split at q<;>first|exact q|exact absurd rfl hf);have kr3:=kr2.put (a:=A' 2) (o:=.lst ((jbn B.jep o.p 1).map V.int));generalize upd H2 (A' 2) (.lst ((jbn B.jep o.p 1).map V.int))=H3 at R3 f3 kr3;obtain⟨xs,hx,px⟩:=R3.dn;have fr:=(f1.trans f2).trans f3;have uq3:xi H3 Z (.ref q) o:=xi.fr fr ⟨q,rfl,nq,hq⟩;have lx:xs.length<=1000:=by rw[Paired.length px];exact ld
 refine⟨_,rfl,k,_,dk,_,_,rfl,R3.ob,T.jq,T.jfu,(yi A').2.2.1,.inl ⟨rfl,_,SqL.of hx⟩,_,rfl,A' 3,xs,.ref q,rfl,rfl,hx,zw lx,?_⟩;obtain⟨r3,_⟩:=R3.fl 3 (by decide) (by decide);obtain⟨R4,f4⟩:=R3.put (κ':=B.settle o) (f0:=3) (by decide) (by decide) (u0:=.lst (xs++[.ref q])) ⟨_,rfl,qq (Paired.vf px λ_ _=>xi.fr (Fr.put (P:=isK id h) r3 ⟨3,rfl⟩)) (uq3.fr (Fr.put (P:=isK id h) r3 ⟨3,rfl⟩))⟩ (λf u hf q=>by unfold jty at q⊢;split at q<;>first|exact q|exact absurd rfl hf);exact g _ R4 (fr.trans f4) kr3.put
theorem xi.ref {H:Hp}{Z:Rho}{x:V}{o:O}(h:xi H Z x o):∃q,x= .ref q/\H q=some (.tup (jna o)):=let⟨q,e,_,h⟩:=h;⟨q,e,h⟩
theorem jdk (T:Txt K mg t):xj P w K mg base CX0 2 t.ja8 t.ja7 ["self"] (λvs H Q _=>∃Z id h k A dk B n,vs=[.ref k]/\xq t H Z id h k A dk B/\B.Ok n/\∀v,((B.first=none/\v= .non)\/∃o,B.first=some o/\xi H Z v o)->Q v H):=by
 refine T.jfb.okA jeg λ_ A _ s H vs Q E hr h=>?_;obtain⟨Z,id,h,k,A',dk,B,n,rfl,R,hok,g⟩:=h;refine⟨_,(@jb _ _ _ _ _ (jo2 PassesOwn.never rfl (@jck _ _ _ _ (j5 (pv 0) rfl)) (ju (i:=1) jeg.nd rfl (Or.inl rfl)) (@jd _ _ _ (qv (qr (qi (pv 0) T.jq T.jcf (jkh T) hr.dn T.jgh .nil jo (jc (pv 1) jg))) (@jd _ _ _ (jx (pv 1))) j4))) (@jd _ _ _ (jx jmd))),?_⟩;obtain⟨xs,hx,px⟩:=R.wt;refine⟨_,rfl,k,_,dk,_,_,rfl,R.ob,T.jq,T.xf,(yi A').2.2.2.2.2.2,A' 7,rfl,⟨_,SqL.of hx⟩,jmw (K:=K) (a:=A' 7) (xs:=xs) (λi U H'=>∃v,U=[some (.ref k),v]/\H'=H/\(B.wait.take i).find? B.due=none) ⟨none,rfl,rfl,rfl⟩ (λi U H' _ ⟨_,_,e,_⟩=>SqL.of (by rw[e];exact hx)) ?_ ?_⟩
 .rintro i x U H' ex ⟨v,rfl,rfl,hf⟩
  obtain⟨o,eo,uo⟩:=qg px ex;obtain⟨q,rfl,hq⟩:=uo.ref;have om:o∈B.wait:=mem_of_getElem? eo;refine⟨_,rfl,k,dk,_,rfl,R.ob,jd5 A',_,rfl,Z,id,h,k,A',dk,B,n,q,o,rfl,R,hq,hok.w o om,hok.x,hok.h,_,rfl,?_⟩;cases hd:B.due o with
  |true=>
   refine jhy ⟨_,rfl,g _ (.inr ⟨o,?_,uo⟩)⟩;have:(B.wait.take (i+1)).find? B.due=some o:=by rw[take_snoc eo,List.find?_append,hf,find?_cons,hd];rfl
   unfold Kp.first;rw[<-List.take_append_drop (i+1) B.wait,List.find?_append,this];rfl
  |false=>refine yq ⟨_,rfl,rfl,?_⟩;rw[take_snoc eo,List.find?_append,hf,find?_cons,hd];rfl
 .rintro U H' ⟨v,rfl,rfl,hf⟩
  refine g _ (.inl ⟨?_,rfl⟩);rw[Paired.length px,take_length]at hf;exact hf
theorem Fr.reR {P:Role->Prop}{Z:Rho}{H:Hp}{a:Addr}{r r':Role}(h:Z a=some r)(p:P r):Fr P Z H (jad Z a r') H:=λb u e n=>by have:b≠a:=λz=>n r (z ▸ h) p;exact⟨e,zd this⟩
theorem OkR.reR {Z:Rho}{H:Hp}{a:Addr}{r r':Role}(h:Z a=some r)(k:OkR Z H):OkR (jad Z a r') H:=λb r'' hb=>by
 by_cases z:b=a
 .subst z;exact k _ _ h
 .rw[zd z]at hb;exact k _ _ hb
theorem j5l {H:Hp}{Z:Rho}{o:O}:∀{kvs:List (List Key×V)}{c:List ((Int×Int)×O)},Paired (λkv (c:(Int×Int)×O)=>kv.1=[.inl c.1.1,.inl c.1.2]/\xi H Z kv.2 c.2) kvs c->(jc2 kvs [.inl o.p,.inl o.n]).isSome=jry c o:=λ{kvs c} q=>by
 induction q with
 |nil=>rfl
 |@cons kv c kvs cs a r ih=>
  obtain⟨e,_⟩:=a;unfold jry at ih⊢;rw[any_cons];by_cases z:c.1=(o.p,o.n)
  .rw[jax (show kv.1=_ by rw[e,z]),decide_eq_true z];rfl
  .rw[jbe (λy=>z ?_),ih,decide_eq_false z,Bool.false_or];rw[e]at y;have y1:=(List.cons.inj y).1;have y2:=(List.cons.inj (List.cons.inj y).2).1;exact Prod.ext (Sum.inl.inj y1) (Sum.inl.inj y2)
theorem qae {n:Nat}{o:O}(h:ye n o=true)(l:n<=8):ye 8 o=true:=by rw[jam]at h⊢;omega
theorem j4w (B:Kp){os:List O}{i:Nat}{o:O}(e:os[i]?=some o)(a:Gv):gv B (os.take (i+1)) a=gvS B o (gv B (os.take i) a):=by unfold gv;rw[take_snoc e,List.foldl_append];rfl
theorem j4r (B:Kp)(o:O)(a:Gv):(gvS B o a).1.length<=a.1.length+1/\(gvS B o a).2.1.length<=a.2.1.length+1/\(gvS B o a).2.2.length<=a.2.2.length+1:=by
 unfold gvS;split
 .simp
 .split
  .simp
  .simp
theorem jzf (B:Kp):∀(os:List O)(a:Gv),(gv B os a).1.length<=a.1.length+os.length/\(gv B os a).2.1.length<=a.2.1.length+os.length/\(gv B os a).2.2.length<=a.2.2.length+os.length
 |[],a=>by simp[gv]
 |o::os,a=>by have h1:=jzf B os (gvS B o a);have h2:=j4r B o a;unfold gv at h1⊢;rw[foldl_cons,length_cons];omega
structure GvJ (t:Ad)(Z:Rho)(id:Nat)(h:Int)(k:Addr)(A:Nat->Addr)(dk:Addr)(B:Kp)(Vt Lt:Addr)(xs:List V)(H0:Hp)(a:Gv)(H:Hp):Prop where
 fr:Fr (isK id h) Z H0 Z H
 kr:OkR Z H
 R:xq t H Z id h k A dk {B with cho:=a.1}
 hv:∃vs,H Vt=some (.lst vs)/\Paired (xi H Z) vs a.2.1
 hl:∃ls,H Lt=some (.lst ls)/\Paired (xi H Z) ls a.2.2
 hx:H (A 5)=some (.lst xs)
 px:Paired (xi H Z) xs B.unv
theorem GvJ.same {t:Ad}{Z:Rho}{id:Nat}{h:Int}{k:Addr}{A:Nat->Addr}{dk:Addr}{B:Kp}{Vt Lt:Addr}{xs:List V}{H0 H H':Hp}{a:Gv}(s:vq H H')(J:GvJ t Z id h k A dk B Vt Lt xs H0 a H):GvJ t Z id h k A dk B Vt Lt xs H0 a H':=by have f:Fr (λ_=>False) Z H Z H':=Fr.same s;obtain⟨vs,v1,v2⟩:=J.hv;obtain⟨ls,l1,l2⟩:=J.hl;exact⟨J.fr.trans (Fr.same s),J.kr.same s,J.R.fr (λ_ z=>z) f,⟨vs,s _ _ v1,Paired.vf v2 λ_ _=>xi.fr f⟩,⟨ls,s _ _ l1,Paired.vf l2 λ_ _=>xi.fr f⟩,s _ _ J.hx,Paired.vf J.px λ_ _=>xi.fr f⟩
theorem GvJ.putL {t:Ad}{Z:Rho}{id:Nat}{h:Int}{k:Addr}{A:Nat->Addr}{dk:Addr}{B:Kp}{Vt Lt:Addr}{xs ls ls':List V}{H0 H:Hp}{a:Gv}{later:List O}(J:GvJ t Z id h k A dk B Vt Lt xs H0 a H)(hl:H Lt=some (.lst ls))(rL:Z Lt=some (id,.kp h 9))(rV:Z Vt=some (id,.kp h 8))(LV:Lt≠Vt)(fL:Fr (isK id h) Z H Z (upd H Lt (.lst ls')))(pl:Paired (xi (upd H Lt (.lst ls')) Z) ls' later):GvJ t Z id h k A dk B Vt Lt xs H0 (a.1,a.2.1,later) (upd H Lt (.lst ls')):=by
 have f9:Fr (λr=>r=(id,.kp h 9)) Z H Z (upd H Lt (.lst ls')):=Fr.put rL rfl;obtain⟨vs,v1,v2⟩:=J.hv;have nf:∀{f:Nat},f<=7->∀{b:Addr},Z b=some (id,.kp h f)->b≠Lt:=λ{f} hf {b} hb=>ner hb rL (by intro z;cases z;omega);refine⟨J.fr.trans fL,J.kr.put,⟨?_,J.R.r0,λf a1 b1=>?_⟩,⟨vs,?_,Paired.vf v2 λ_ _=>xi.fr fL⟩,⟨ls',ja,pl⟩,?_,Paired.vf J.px λ_ _=>xi.fr fL⟩
 .rw[je (nf (by decide) J.R.r0)];exact J.R.ob
 .obtain⟨rf,u,hu,q⟩:=J.R.fl f a1 b1;exact⟨rf,u,by rw[je (nf b1 rf)];exact hu,q.fr fL⟩
 .rw[je LV.symm];exact v1
 .rw[je (nf (by decide) (J.R.fl 5 (by decide) (by decide)).1)];exact J.hx
theorem GvJ.qag {t:Ad}{Z:Rho}{id:Nat}{h:Int}{k:Addr}{A:Nat->Addr}{dk:Addr}{B:Kp}{Vt Lt:Addr}{xs vs':List V}{H0 H:Hp}{a:Gv}{zj:List O}(J:GvJ t Z id h k A dk B Vt Lt xs H0 a H)(rV:Z Vt=some (id,.kp h 8))(LV:Lt≠Vt)(fL:Fr (isK id h) Z H Z (upd H Vt (.lst vs')))(pv:Paired (xi (upd H Vt (.lst vs')) Z) vs' zj):GvJ t Z id h k A dk B Vt Lt xs H0 (a.1,zj,a.2.2) (upd H Vt (.lst vs')):=by
 obtain⟨ls,l1,l2⟩:=J.hl;have nf:∀{f:Nat},f<=7->∀{b:Addr},Z b=some (id,.kp h f)->b≠Vt:=λ{f} hf {b} hb=>ner hb rV (by intro z;cases z;omega);refine⟨J.fr.trans fL,J.kr.put,⟨?_,J.R.r0,λf a1 b1=>?_⟩,⟨vs',ja,pv⟩,⟨ls,?_,Paired.vf l2 λ_ _=>xi.fr fL⟩,?_,Paired.vf J.px λ_ _=>xi.fr fL⟩
 .rw[je (nf (by decide) J.R.r0)];exact J.R.ob
 .obtain⟨rf,u,hu,q⟩:=J.R.fl f a1 b1;exact⟨rf,u,by rw[je (nf b1 rf)];exact hu,q.fr fL⟩
 .rw[je LV];exact l1
 .rw[je (nf (by decide) (J.R.fl 5 (by decide) (by decide)).1)];exact J.hx
theorem GvJ.qak {t:Ad}{Z:Rho}{id:Nat}{h:Int}{k:Addr}{A:Nat->Addr}{dk:Addr}{B:Kp}{Vt Lt:Addr}{xs:List V}{H0 H:Hp}{a:Gv}{cho:List ((Int×Int)×O)}{kvs:List (List Key×V)}(J:GvJ t Z id h k A dk B Vt Lt xs H0 a H)(rL:Z Lt=some (id,.kp h 9))(rV:Z Vt=some (id,.kp h 8))(pc:Paired (λkv (c:(Int×Int)×O)=>kv.1=[.inl c.1.1,.inl c.1.2]/\xi (upd H (A 6) (.dT kvs)) Z kv.2 c.2) kvs cho):GvJ t Z id h k A dk B Vt Lt xs H0 (cho,a.2.1,a.2.2) (upd H (A 6) (.dT kvs)):=by
 obtain⟨R,fL⟩:=J.R.put (κ':={B with cho:=cho}) (f0:=6) (by decide) (by decide) (u0:=.dT kvs) ⟨kvs,rfl,pc⟩ (λf u hf q=>by unfold jty at q⊢;split at q<;>first|exact q|exact absurd rfl hf);obtain⟨vs,v1,v2⟩:=J.hv;obtain⟨ls,l1,l2⟩:=J.hl;have r6:=(J.R.fl 6 (by decide) (by decide)).1;refine⟨J.fr.trans fL,J.kr.put,R,⟨vs,?_,Paired.vf v2 λ_ _=>xi.fr fL⟩,⟨ls,?_,Paired.vf l2 λ_ _=>xi.fr fL⟩,?_,Paired.vf J.px λ_ _=>xi.fr fL⟩
 .rw[je (ner rV r6 (by intro z;cases z))];exact v1
 .rw[je (ner rL r6 (by intro z;cases z))];exact l1
 .rw[je (ner (J.R.fl 5 (by decide) (by decide)).1 r6 (by intro z;cases z))];exact J.hx
theorem j7l (A:Nat->Addr)(p:Addr):vy "unvoted" (.ref p) (kfA A)=kfA (λf=>if f=5 then p else A f):=by unfold kfA kf bkf;rfl
theorem jc1 (T:Txt K mg t):xj P w K mg base CX0 5 t.uv t.ur ["self"] (λvs H Q _=>∃Z id h k A dk B n,vs=[.ref k]/\xq t H Z id h k A dk B/\B.Ok n/\n<=8/\B.unv.length+B.cho.length<=1000/\OkR Z H/\∀Z' H' A' r xs,xq t H' Z' id h k A' dk B.zj.1->Fr (isK id h) Z H Z' H'->OkR Z' H'->Z' r=some (id,.kp h 8)->H' r=some (.lst xs)->Paired (xi H' Z') xs B.zj.2->Q (.ref r) H'):=by
 refine T.jd0.okA yb λ_ A _ s H vs Q E hr h=>?_;obtain⟨Z,id,h,k,A',dk,B,n,rfl,R,hok,n8,ll,kr,g⟩:=h;refine⟨_,(@jb _ _ _ _ _ (@j6 _ _ 1 _ _ _ _ yb.nd rfl (Or.inl rfl) (@zf _ _ _ _ jg) (by rfl) (by first|exact .inl rfl|exact .inr rfl)) (@jb _ _ _ _ _ (@j6 _ _ 2 _ _ _ _ yb.nd rfl (Or.inl rfl) (@zf _ _ _ _ jg) (by rfl) (by first|exact .inl rfl|exact .inr rfl)) (@jb _ _ _ _ _ (jo2 PassesOwn.never rfl (@jck _ _ _ _ (j5 (pv 0) rfl)) (ju (i:=3) yb.nd rfl (Or.inl rfl)) (@jd _ _ _ (qv (PW.pt (jkk (qr (qi (pv 0) T.jq T.jcf (jkh T) hr.dn T.jgh .nil jo (jc (pv 3) jg))) (jgr (jp0 (jrg (jic hr) (jm (jlm T) hr.dn rfl T.jjl T.jge.kp T.jjk .nil jo (jc (pv 3) jg)) (j5 (pv 0) rfl)))))) (@jb _ _ _ _ _ (js5 (jic hr) (j5 (pv 0) rfl) (jm (jlm T) hr.dn rfl T.jjl T.jge.kp T.jjk .nil jo (jc (pv 3) jg)) (pv 3) rfl) (@jd _ _ _ (qk (jjx PySem.F.plainAttrs_list PySem.F.slot_list_append PySem.F.type_list_append wz (pv 1) (jc (pv 3) jg))))) (@jd _ _ _ (qv (PW.pt (jkk (qz (qr (qi (pv 0) T.jq T.gh (jee T) hr.dn T.jbz .nil jo (jc (pv 3) jg)))) (jgr (jp0 (jrg (jic hr) (jm (jlm T) hr.dn rfl T.jjl T.jge.kp T.jjk .nil jo (jc (pv 3) jg)) (j5 (pv 0) rfl)))))) (@jd _ _ _ (qk (jjx PySem.F.plainAttrs_list PySem.F.slot_list_append PySem.F.type_list_append wz (pv 2) (jc (pv 3) jg)))) j4))))) (@jb _ _ _ _ _ (vh (pv 0) (pv 2) rfl) (@jd _ _ _ (jx (pv 1))))))),?_⟩;refine⟨zs0,λVt nV=>⟨zs0,λLt nL=>?_⟩⟩;have kf0:∀f,isK id h (id,.kp h f):=λf=>⟨f,rfl⟩;have f1:Fr (isK id h) Z H (jad Z Vt (id,.kp h 8)) (upd H Vt (.lst [])):=Fr.jnh nV;have kr1:OkR (jad Z Vt (id,.kp h 8)) (upd H Vt (.lst [])):=kr.jnh;have f2:Fr (isK id h) (jad Z Vt (id,.kp h 8)) (upd H Vt (.lst [])) (jad (jad Z Vt (id,.kp h 8)) Lt (id,.kp h 9)) (upd (upd H Vt (.lst [])) Lt (.lst [])):=Fr.jnh nL;have kr2:OkR (jad (jad Z Vt (id,.kp h 8)) Lt (id,.kp h 9)) (upd (upd H Vt (.lst [])) Lt (.lst [])):=kr1.jnh;generalize eZ:jad (jad Z Vt (id,.kp h 8)) Lt (id,.kp h 9)=Z2 at f2 kr2;have f12:=f1.trans f2;have LV:Lt≠Vt:=λz=>by
  rw[z,ja]at nL;cases nL
 have rV:Z2 Vt=some (id,.kp h 8):=by rw[<-eZ,zd LV.symm,qx]
 have rL:Z2 Lt=some (id,.kp h 9):=by rw[<-eZ,qx]
 have hV2:upd (upd H Vt (.lst [])) Lt (.lst []) Vt=some (.lst []):=by rw[je LV.symm,ja]
 have hL2:upd (upd H Vt (.lst [])) Lt (.lst []) Lt=some (.lst []):=ja;have R2:xq t (upd (upd H Vt (.lst [])) Lt (.lst [])) Z2 id h k A' dk B:=by
  have s2:=(jf (o:=.lst []) nV).trans (jf (o:=.lst []) nL);have nv2:∀{a:Addr}{u:HO},H a=some u->Z2 a=Z a:=λ{a u} e=>by rw[<-eZ,zd (jj ((jf (o:=.lst []) nV) _ _ e) nL),zd (jj e nV)]
  refine⟨s2 _ _ R.ob,(nv2 R.ob).trans R.r0,λf a b=>?_⟩;obtain⟨rf,u,hu,q⟩:=R.fl f a b;exact⟨(nv2 hu).trans rf,u,s2 _ _ hu,q.fr f12⟩
 generalize upd (upd H Vt (.lst [])) Lt (.lst [])=H2 at f12 kr2 R2 hV2 hL2;obtain⟨xs,hx,px⟩:=R2.un;have lx:xs.length=B.unv.length:=Paired.length px;clear f1 f2 kr1 nV nL R;refine⟨_,rfl,k,_,dk,_,_,rfl,R2.ob,T.jq,T.yg,(yi A').2.2.2.2.1,A' 5,rfl,⟨_,SqL.of hx⟩,jmw (K:=K) (a:=A' 5) (xs:=xs) (λi U H'=>∃v,U=[some (.ref k),some (.ref Vt),some (.ref Lt),v]/\GvJ t Z2 id h k A' dk B Vt Lt xs H2 (gv B (B.unv.take i) (B.cho,[],[])) H') ⟨none,rfl,Fr.refl,kr2,R2,⟨_,hV2,.nil⟩,⟨_,hL2,.nil⟩,hx,px⟩ (λi U H' _ ⟨_,_,J⟩=>SqL.of J.hx) ?_ ?_⟩
 .rintro i x U H3 ex ⟨v,rfl,J⟩
  obtain⟨o,eo,uo⟩:=qg J.px ex;have gl:=jzf B (B.unv.take i) (B.cho,[],[]);have li:(B.unv.take i).length<=B.unv.length:=by rw[length_take];omega
  rw[j4w B eo];generalize gv B (B.unv.take i) (B.cho,[],[])=a at J gl⊢;obtain⟨q,rfl,hq⟩:=uo.ref;have om:o∈B.unv:=mem_of_getElem? eo;have ho:=hok.u o om;have ho8:=qae ho n8;obtain⟨kvs,hk,pk⟩:=J.R.cs;have ck:=j5l (o:=o) pk;refine⟨_,rfl,k,dk,_,rfl,J.R.ob,jd5 A',_,rfl,Z2,id,h,k,A',dk,_,n,q,o,rfl,J.R,hq,ho,hok.x,hok.h,_,rfl,?_⟩;show(if B.due o=true then _ else _);have Js:vq H3 H3:=vq.refl _;cases hd:B.due o with
  | false=>
   refine yq ?_;have no:¬(B.due o&&!jry a.1 o)=true:=by simp[hd]
   refine⟨_,rfl,k,dk,_,rfl,J.R.ob,jd5 A',_,rfl,Z2,id,h,k,A',dk,_,n,q,o,rfl,J.R,hq,ho,hok.x,_,rfl,?_⟩;show(if(!B.past o)=true then _ else _);cases hp:B.past o with
   |true=>refine yq ⟨_,rfl,?_⟩;rw[gvS,if_neg no,if_neg (by simp[hp])];exact J
   | false=>
    refine jhy ⟨_,rfl,q,o,rfl,hq,ho8,λp np=>?_⟩;have sp:=jf (o:=.tup [.int o.p,.int o.n]) np;have Jp:=J.same sp;refine⟨_,rfl,k,_,dk,_,_,rfl,Jp.R.ob,T.jq,T.xh,(yi A').2.2.2.2.2.1,A' 6,jc2 kvs [.inl o.p,.inl o.n],rfl,.inr ⟨kvs,[.inl o.p,.inl o.n],p,.inl (sp _ _ hk),rfl,ja,rfl⟩,_,rfl,?_⟩;rw[ck];cases hc:jry a.1 o with
    |true=>refine yq ⟨_,rfl,?_⟩;rw[gvS,if_neg no,if_neg (by rw[hc,Bool.not_true,Bool.and_false];decide)];exact Jp
    |false=>
     obtain⟨ls,hl,pl⟩:=Jp.hl;have ll2:ls.length<=1000:=by rw[Paired.length pl];have:=gl.2.2;simp at this;omega
     refine jhy ⟨_,rfl,.inl ⟨rfl,_,SqL.of hl⟩,_,rfl,Lt,ls,.ref q,rfl,rfl,hl,zw ll2,⟨_,rfl,?_⟩⟩;rw[gvS,if_neg no,if_pos (by rw[hp,hc];rfl)];have fL:Fr (isK id h) Z2 (upd H3 p (.tup [.int o.p,.int o.n])) Z2 (upd (upd H3 p (.tup [.int o.p,.int o.n])) Lt (.lst (ls++[.ref q]))):=Fr.put rL ⟨9,rfl⟩;have uq:=(uo.fr (Fr.same (P:=λ_=>False) ((Js).trans sp))).fr fL;exact Jp.putL hl rL rV LV fL (qq (Paired.vf pl λ_ _=>xi.fr fL) uq)
  | true=>
   refine jhy ⟨_,rfl,q,o,rfl,hq,ho8,λp0 np0=>?_⟩;have sp0:=jf (o:=.tup [.int o.p,.int o.n]) np0;have J0:=J.same sp0;have J0s:=sp0;have hk0:=sp0 _ _ hk;have hq0:=sp0 _ _ hq;refine⟨_,rfl,k,_,dk,_,_,rfl,J0.R.ob,T.jq,T.xh,(yi A').2.2.2.2.2.1,A' 6,jc2 kvs [.inl o.p,.inl o.n],rfl,.inr ⟨kvs,[.inl o.p,.inl o.n],p0,.inl hk0,rfl,ja,rfl⟩,_,rfl,?_⟩;rw[ck];cases hc0:jry a.1 o with
   | true=>
    refine yq ?_;have no:¬(B.due o&&!jry a.1 o)=true:=by rw[hc0,Bool.not_true,Bool.and_false];decide
    generalize upd H3 p0 (.tup [.int o.p,.int o.n])=H4 at sp0 J0 J0s hk0 hq0;refine⟨_,rfl,k,dk,_,rfl,J0.R.ob,jd5 A',_,rfl,Z2,id,h,k,A',dk,_,n,q,o,rfl,J0.R,hq0,ho,hok.x,_,rfl,?_⟩;show(if(!B.past o)=true then _ else _);cases hp:B.past o with
    |true=>refine yq ⟨_,rfl,?_⟩;rw[gvS,if_neg no,if_neg (by simp[hp])];exact J0
    | false=>
     refine jhy ⟨_,rfl,q,o,rfl,hq0,ho8,λp np=>?_⟩;have sp:=jf (o:=.tup [.int o.p,.int o.n]) np;have Jp:=J0.same sp;refine⟨_,rfl,k,_,dk,_,_,rfl,Jp.R.ob,T.jq,T.xh,(yi A').2.2.2.2.2.1,A' 6,jc2 kvs [.inl o.p,.inl o.n],rfl,.inr ⟨kvs,[.inl o.p,.inl o.n],p,.inl (sp _ _ hk0),rfl,ja,rfl⟩,_,rfl,?_⟩;rw[ck];cases hc:jry a.1 o with
     |true=>refine yq ⟨_,rfl,?_⟩;rw[gvS,if_neg no,if_neg (by rw[hc,Bool.not_true,Bool.and_false];decide)];exact Jp
     |false=>
      obtain⟨ls,hl,pl⟩:=Jp.hl;have ll2:ls.length<=1000:=by rw[Paired.length pl];have:=gl.2.2;simp at this;omega
      refine jhy ⟨_,rfl,.inl ⟨rfl,_,SqL.of hl⟩,_,rfl,Lt,ls,.ref q,rfl,rfl,hl,zw ll2,⟨_,rfl,?_⟩⟩;rw[gvS,if_neg no,if_pos (by rw[hp,hc];rfl)];have fL:Fr (isK id h) Z2 (upd H4 p (.tup [.int o.p,.int o.n])) Z2 (upd (upd H4 p (.tup [.int o.p,.int o.n])) Lt (.lst (ls++[.ref q]))):=Fr.put rL ⟨9,rfl⟩;have uq:=(uo.fr (Fr.same (P:=λ_=>False) ((J0s).trans sp))).fr fL;exact Jp.putL hl rL rV LV fL (qq (Paired.vf pl λ_ _=>xi.fr fL) uq)
   | false=>
    refine jhy ?_;generalize upd H3 p0 (.tup [.int o.p,.int o.n])=H4 at sp0 J0 J0s hk0 hq0;refine⟨_,rfl,_,rfl,k,_,dk,_,_,rfl,J0.R.ob,T.jq,T.xh,(yi A').2.2.2.2.2.1,_,rfl,q,o,rfl,hq0,ho8,λp np=>?_⟩;have sp:=jf (o:=.tup [.int o.p,.int o.n]) np;have Jp:=J0.same sp;have lk:kvs.length<=1000:=by rw[Paired.length pk];have:=gl.1;show a.1.length<=1000;simp at this;omega
    have nk:jc2 kvs [.inl o.p,.inl o.n]=none:=by
     cases e:jc2 kvs [.inl o.p,.inl o.n]with
     |none=>rfl
     |some v=>rw[e,hc0]at ck;cases ck
    refine⟨A' 6,_,rfl,jys.t (k:=[.inl o.p,.inl o.n]) (sp _ _ hk0) ja (zw lk),?_⟩;rw[jjq _ nk];have r6:=(Jp.R.fl 6 (by decide) (by decide)).1;have f6:Fr (isK id h) Z2 (upd H4 p (.tup [.int o.p,.int o.n])) Z2 (upd (upd H4 p (.tup [.int o.p,.int o.n])) (A' 6) (.dT (kvs++[([.inl o.p,.inl o.n],.ref q)]))):=Fr.put r6 ⟨6,rfl⟩;have u4:=uo.fr (Fr.same (P:=λ_=>False) (J0s.trans sp));have pk4:=Paired.vf pk λ_ _ ⟨e,b⟩=>(⟨e,(b.fr (Fr.same (P:=λ_=>False) (J0s.trans sp))).fr f6⟩:_/\xi _ Z2 _ _);have J5:=Jp.qak rL rV (cho:=a.1++[((o.p,o.n),o)]) (qq pk4 ⟨rfl,u4.fr f6⟩);have u5:=u4.fr f6;generalize upd (upd H4 p (.tup [.int o.p,.int o.n])) (A' 6) (.dT (kvs++[([.inl o.p,.inl o.n],.ref q)]))=H5 at J5 u5;obtain⟨vs,hv,pv⟩:=J5.hv;have lv:vs.length<=1000:=by rw[Paired.length pv];have:=gl.2.1;show a.2.1.length<=1000;simp at this;omega
    refine⟨_,rfl,.inl ⟨rfl,_,SqL.of hv⟩,_,rfl,Vt,vs,.ref q,rfl,rfl,hv,zw lv,⟨_,rfl,?_⟩⟩;rw[gvS,if_pos (by simp[hd,hc0])];have fV:Fr (isK id h) Z2 H5 Z2 (upd H5 Vt (.lst (vs++[.ref q]))):=Fr.put rV ⟨8,rfl⟩;exact J5.qag rV LV fV (qq (Paired.vf pv λ_ _=>xi.fr fV) (u5.fr fV))
 .rintro U H3 ⟨v,rfl,J⟩
  rw[lx,take_length]at J;obtain⟨vs,hv,pv⟩:=J.hv;obtain⟨ls,hl,pl⟩:=J.hl;refine⟨_,rfl,_,rfl,k,_,dk,_,rfl,J.R.ob,T.jq,T.yg,(by show 7<1000;decide),⟨_,rfl,?_⟩⟩;rw[j7l];have fo:Fr (isK id h) Z2 H3 Z2 (upd H3 k (.ins t.j8 dk (kfA λf=>if f=5 then Lt else A' f))):=Fr.put J.R.r0 ⟨0,rfl⟩;have fo':Fr (isK id h) Z2 (upd H3 k (.ins t.j8 dk (kfA λf=>if f=5 then Lt else A' f))) (jad Z2 Lt (id,.kp h 5)) (upd H3 k (.ins t.j8 dk (kfA λf=>if f=5 then Lt else A' f))):=Fr.reR rL ⟨9,rfl⟩;have ff:=fo.trans fo';have kL:Lt≠k:=ner rL J.R.r0 (by intro z;cases z);have Vk:Vt≠k:=ner rV J.R.r0 (by intro z;cases z);refine g (jad Z2 Lt (id,.kp h 5)) _ (λf=>if f=5 then Lt else A' f) Vt vs ⟨ja,?_,λf a1 b1=>?_⟩ (f12.trans (J.fr.trans ff)) ?_ ?_ ?_ (Paired.vf pv λ_ _=>xi.fr ff)
  .rw[zd kL.symm];exact J.R.r0
  .by_cases z:f=5
   .subst z;exact⟨qx,.lst ls,(by show upd H3 k _ Lt=_;rw[je kL];exact hl),ls,rfl,Paired.vf pl λ_ _=>xi.fr ff⟩
   .obtain⟨rf,u,hu,q⟩:=J.R.fl f a1 b1;have nL:A' f≠Lt:=ner rf rL (by intro y;cases y;omega);show jad Z2 Lt (id,.kp h 5) (if f=5 then Lt else A' f)=_/\∃u,upd H3 k _ (if f=5 then Lt else A' f)=_/\_;rw[if_neg z];refine⟨by rw[zd nL];exact rf,u,by rw[je (ner rf J.R.r0 (by intro y;cases y;omega))];exact hu,?_⟩;have q':=q.fr ff;unfold jty at q'⊢;split at q'<;>first|exact q'|exact absurd rfl z
  .exact OkR.reR rL J.kr.put
  .rw[zd LV.symm];exact rV
  .rw[je Vk];exact hv
theorem jd1 {α β:Type}{F:α->β->Prop}:∀{xs:List α}{ys:List β}{j:Nat},Paired F xs ys->Paired F (xs.eraseIdx j) (ys.eraseIdx j)
 |_,_,_,.nil=>.nil
 |_,_,0,.cons _ t=>t
 |_,_,j+1,.cons h t=>.cons h (jd1 t)
theorem jvf {α:Type}[DecidableEq α](a:α):∀l:List α,l.erase a=l.eraseIdx (l.idxOf a)
 |[]=>rfl
 | b::l=>by
  by_cases z:b=a
  .subst z;simp
  .have e:(b::l).idxOf a=l.idxOf a+1:=by
    rw[List.idxOf_cons,show(b==a)=false by simpa using z];rfl
   rw[List.erase_cons_tail (by simpa using z),e,List.eraseIdx_cons_succ,jvf a l]
noncomputable def x9 (o:O):List Int:=[o.p,o.n,o.g,o.m]
theorem jl7 {o u:O}(h:x9 o=x9 u):o=u:=by cases o;cases u;unfold x9 at h;simp at h;simp[h]
theorem jxp (o:O):∀l:List O,(l.map x9).idxOf (x9 o)=l.idxOf o
 |[]=>rfl
 |b::l=>by
  rw[map_cons];by_cases z:b=o
  .subst z;simp
  .rw[List.idxOf_cons,List.idxOf_cons,show(b==o)=false by simpa using z,show(x9 b==x9 o)=false by simpa using λy=>z (jl7 y),jxp o l]
theorem juj {K:W.Frag}{H:Hp}{Z:Rho}:∀{xs:List V}{os:List O},Paired (xi H Z) xs os->Paired (j0t K H) xs (os.map x9):=λ{xs os} q=>by
 induction q with
 |nil=>exact .nil
 |cons a _ ih=>obtain⟨a,e,_,h⟩:=a;exact .cons ⟨a,e,SqT.of h⟩ ih
theorem jmr {B:Kp}{o:O}(h:B.first=some o):o∈B.wait:=List.mem_of_find?_eq_some h
theorem j4l {B:Kp}(h:B.first=none):∀m,Kp.go m B=B
 |0=>rfl
 |m+1=>by unfold Kp.go;rw[h]
theorem j38 {B:Kp}{o:O}(h:B.first=some o):Kp.go B.wait.length B=Kp.go (B.step o).wait.length (B.step o):=by have e:(B.step o).wait.length=B.wait.length-1:=length_erase_of_mem (jmr h);have p:0<B.wait.length:=length_pos_of_mem (jmr h);obtain⟨m,hm⟩:∃m,B.wait.length=m+1:=⟨B.wait.length-1,by omega⟩;rw[e,hm];show(match B.first with|none=>B|some o=>Kp.go m (B.step o))=_;rw[h];rfl
theorem jrf (T:Txt K mg t):xj P w K mg base CX0 6 t.jfj t.jfv ["self"] (λvs H Q _=>∃Z id h k A dk B n,vs=[.ref k]/\xq t H Z id h k A dk B/\B.Ok n/\n<=8/\B.unv.length+B.cho.length<=1000/\B.done.length+B.wait.length<=1000/\OkR Z H/\∀Z' H' A' r xs,xq t H' Z' id h k A' dk B.j1d.zj.1->Fr (isK id h) Z H Z' H'->OkR Z' H'->Z' r=some (id,.kp h 8)->H' r=some (.lst xs)->Paired (xi H' Z') xs B.j1d.zj.2->Q (.ref r) H'):=by
 refine T.jj2.okA jeb λ_ A _ s H vs Q E hr h=>?_;obtain⟨Z,id,h,k,A',dk,B,n,rfl,R,hok,n8,ll,ld,kr,g⟩:=h;refine⟨_,(@jb _ _ _ _ _ (j6 (i:=1) jeb.nd rfl (Or.inl rfl) (zy (pv 0) T.jq T.uk (jdk T) hr.dn T.jba .nil jo)) (@jb _ _ _ _ _ (jtg PassesOwn.never (jv j46 (pv 1) jmd (qc _)) (@jb _ _ _ _ _ (qk (jjx PySem.F.plainAttrs_list PySem.F.slot_list_remove PySem.F.type_list_remove (jxx hr.units) (j5 (pv 0) rfl) (jc (pv 1) jg))) (@jb _ _ _ _ _ (qk (qi (pv 0) T.jq T.jhj (jrr T) hr.dn T.jma .nil jo (jc (pv 1) jg))) (@jd _ _ _ (j6 (i:=1) jeb.nd rfl (Or.inl rfl) (zy (pv 0) T.jq T.uk (jdk T) hr.dn T.jba .nil jo)))))) (@jd _ _ _ (jx (zy (pv 0) T.jq T.gz (jc1 T) hr.dn T.uh .nil jo))))),?_⟩;refine⟨_,rfl,k,dk,_,rfl,R.ob,jd5 A',Z,id,h,k,A',dk,B,n,rfl,R,hok,λv0 h0=>?_⟩;refine jsz (λU H'=>∃κ' v,U=[some (.ref k),some v]/\xq t H' Z id h k A' dk κ'/\κ'.Ok n/\Fr (isK id h) Z H Z H'/\OkR Z H'/\Kp.go κ'.wait.length κ'=B.j1d/\κ'.unv=B.unv/\κ'.cho=B.cho/\κ'.done.length+κ'.wait.length<=1000/\((κ'.first=none/\v= .non)\/∃o,κ'.first=some o/\xi H' Z v o)) (λ_ H'=>match H' (A' 7)with|some (.lst xs)=>xs.length|_=>0) ⟨B,v0,rfl,R,hok,Fr.refl,kr,rfl,rfl,rfl,ld,h0⟩ ?_ ?_
 .rintro U H1 ⟨κ',v,rfl,R1,hok1,f1,kr1,eg,eu,ec,ld1,hv⟩
  refine⟨_,rfl,rfl,_,rfl,?_⟩;rcases hv with⟨e,rfl⟩|⟨o,e,uo⟩
  .refine yq ?_;rw[j4l e]at eg;subst eg;refine⟨_,rfl,k,dk,_,rfl,R1.ob,jd5 A',Z,id,h,k,A',dk,_,n,rfl,R1,hok1,n8,by rw[eu,ec];exact ll,kr1,λZ' H' A'' r xs q1 q2 q3 q4 q5 q6=>g Z' H' A'' r xs q1 (f1.trans q2) q3 q4 q5 q6⟩
  .obtain⟨q,rfl,nq,hq⟩:=uo;refine jhy ?_;obtain⟨xs,hx,px⟩:=R1.wt;have om:=jmr e;refine⟨_,rfl,k,_,dk,_,_,rfl,R1.ob,T.jq,T.xf,(yi A').2.2.2.2.2.2,.inl ⟨rfl,_,SqL.of hx⟩,_,rfl,A' 7,xs,.ref q,x9 o,κ'.wait.map x9,rfl,rfl,hx,⟨q,rfl,SqT.of hq⟩,juj px,mem_map_of_mem om,?_⟩;rw[jxp];obtain⟨r7,_⟩:=R1.fl 7 (by decide) (by decide);obtain⟨R2,f2⟩:=R1.put (κ':={κ' with wait:=κ'.wait.erase o}) (f0:=7) (by decide) (by decide) (u0:=.lst (xs.eraseIdx (κ'.wait.idxOf o))) ⟨_,rfl,by show Paired _ _ (κ'.wait.erase o);rw[jvf];exact jd1 (Paired.vf px λ_ _=>xi.fr (Fr.put (P:=isK id h) r7 ⟨7,rfl⟩))⟩ (λf u hf q=>by unfold jty at q⊢;split at q<;>first|exact q|exact absurd rfl hf);have kr2:=kr1.put (a:=A' 7) (o:=.lst (xs.eraseIdx (κ'.wait.idxOf o)));have uq2:xi (upd H1 (A' 7) (.lst (xs.eraseIdx (κ'.wait.idxOf o)))) Z (.ref q) o:=xi.fr f2 ⟨q,rfl,nq,hq⟩;have ho:=hok1.w o om;generalize upd H1 (A' 7) (.lst (xs.eraseIdx (κ'.wait.idxOf o)))=H2 at R2 f2 kr2 uq2;refine⟨_,rfl,k,dk,_,rfl,R2.ob,jd5 A',_,rfl,Z,id,h,k,A',dk,_,n,q,o,rfl,R2,uq2,ho,hok1.x,hok1.h,by show κ'.done.length<=1000;omega,kr2,λH3 R3 f3 kr3=>?_⟩;have ok3:(κ'.step o).Ok n:=hok1.step o;refine⟨_,rfl,k,dk,_,rfl,R3.ob,jd5 A',Z,id,h,k,A',dk,κ'.step o,n,rfl,R3,ok3,λv1 hv1=>⟨⟨κ'.step o,v1,rfl,R3,ok3,(f1.trans f2).trans f3,kr3,by rw[<-j38 e];exact eg,eu,ec,?_,hv1⟩,?_⟩⟩
   .have l1:(κ'.step o).done.length=κ'.done.length+1:=by show(κ'.done++[o]).length=_;rw[length_append];rfl
    have l2:(κ'.step o).wait.length=κ'.wait.length-1:=length_erase_of_mem om;have:=length_pos_of_mem om;omega
   .obtain⟨ys,hy,py⟩:=R3.wt;have l2:(κ'.step o).wait.length=κ'.wait.length-1:=length_erase_of_mem om;have:=length_pos_of_mem om;have e1:=Paired.length px;have e2:ys.length=(κ'.step o).wait.length:=Paired.length py;rw[hy,hx];show ys.length<xs.length;omega
 .intro U H Q Q' hQ h;obtain⟨v,e1,e2,c,e3,q⟩:=h;exact⟨v,e1,e2,c,e3,hQ _ _ q⟩
theorem jui {o:O}:∀{kvs:List (List Key×V)}{os:List O},kvs.map (·.1)=os.map jl0->(jc2 kvs (jl0 o)).isSome=decide (o∈os)
 |[],[],_=>rfl
 |[],_::_,e=>by simp at e
 |_::_,[],e=>by simp at e
 |kv::kvs,u::os,e=>by
  rw[map_cons,map_cons]at e;obtain⟨e1,e2⟩:=List.cons.inj e;have ih:=jui (o:=o) e2;by_cases z:u=o
  .subst z;rw[jax e1];simp
  .rw[jbe (λy=>z (j15 (e1.symm.trans y))),ih];simp[Ne.symm z]
theorem xq.jnh {t:Ad}{H:Hp}{Z:Rho}{id:Nat}{h:Int}{k dk:Addr}{A:Nat->Addr}{B:Kp}{r:Addr}{ro:Role}{o:HO}(R:xq t H Z id h k A dk B)(kr:OkR Z H)(nr:H r=none):xq t (upd H r o) (jad Z r ro) id h k A dk B:=R.fr (P:=λ_=>False) (λ_ z=>z) (Fr.jnh nr)
noncomputable def jwy (t:Ad)(κ':Kp->O->Kp×List O):Sp:=λvs H Q _=>∃Z id h k A dk B n q o,vs=[.ref k,.ref q]/\xq t H Z id h k A dk B/\xi H Z (.ref q) o/\B.Ok n/\n<=8/\ye (n:Nat) o=true/\B.jf5.length<=900/\B.unv.length+B.cho.length<=900/\B.done.length+B.wait.length<=900/\OkR Z H/\∀Z' H' A' r xs,xq t H' Z' id h k A' dk (κ' B o).1->Fr (isK id h) Z H Z' H'->OkR Z' H'->Z' r=some (id,.kp h 8)->H' r=some (.lst xs)->Paired (xi H' Z') xs (κ' B o).2->Q (.ref r) H'
theorem jrn (T:Txt K mg t):xj P w K mg base CX0 6 t.jgg t.jhf ["self","order"] (jwy t Kp.j5n):=by
 refine T.jmt.okB (N:=["self","order"]) λ_ A _ s H vs Q E hr h=>?_;obtain⟨Z,id,h,k,A',dk,B,n,q,o,rfl,R,uq,hok,n8,ho,lh,lu,ld,kr,g⟩:=h;refine⟨_,(@jb _ _ _ _ _ (qv (jp0 (jw6 (jic hr) (pv 1) (j5 (pv 0) rfl))) (@jd _ _ _ (jx (@zf _ _ _ _ jg))) j4) (@jb _ _ _ _ _ (js5 (jic hr) (j5 (pv 0) rfl) (pv 1) jgd rfl) (@jb _ _ _ _ _ (qk (jjx PySem.F.plainAttrs_list PySem.F.slot_list_append PySem.F.type_list_append wz (j5 (pv 0) rfl) (jc (pv 1) jg))) (@jd _ _ _ (jx (zy (pv 0) T.jq T.gz (jc1 T) hr.dn T.uh .nil jo)))))),?_⟩;obtain⟨_,eq,nq,hq⟩:=uq;cases eq;obtain⟨kvs,hk,ek⟩:=R.hd;have hv:=jui (o:=o) ek;refine⟨_,rfl,_,rfl,k,_,dk,_,_,rfl,R.ob,T.jq,T.jak,(yi A').2.2.2.1,A' 4,jc2 kvs (jl0 o),rfl,.inr ⟨kvs,jl0 o,q,.inl hk,rfl,hq,rfl⟩,_,rfl,?_⟩;rw[hv];unfold Kp.j5n at g;refine jhz (λz=>?_) (λz=>?_)
 .have z':o∈B.jf5:=of_decide_eq_true z;rw[if_pos z']at g;refine⟨zs0,λr nr=>?_⟩;have f1:Fr (isK id h) Z H (jad Z r (id,.kp h 8)) (upd H r (.lst [])):=Fr.jnh nr;refine g _ _ A' r [] (xq.jnh R kr nr) f1 kr.jnh qx ja .nil
 .have z':¬o∈B.jf5:=λy=>z (decide_eq_true y);rw[if_neg z']at g;have nk:jc2 kvs (jl0 o)=none:=by
   cases e:jc2 kvs (jl0 o)with
   |none=>rfl
   |some v=>rw[e,decide_eq_false z']at hv;cases hv
  have lk:kvs.length<=1000:=by have:=congrArg List.length ek;rw[length_map,length_map]at this;omega
  refine⟨_,rfl,k,_,dk,_,_,rfl,R.ob,T.jq,T.jak,(yi A').2.2.2.1,_,rfl,A' 4,_,rfl,jys.t (k:=jl0 o) hk hq (zw lk),?_⟩;rw[jjq _ nk];obtain⟨R1,f1⟩:=R.put (κ':={B with jf5:=B.jf5++[o]}) (f0:=4) (by decide) (by decide) (u0:=.dT (kvs++[(jl0 o,.bl true)])) ⟨_,rfl,by rw[map_append,ek,map_append];rfl⟩ (λf u hf q=>by unfold jty at q⊢;split at q<;>first|exact q|exact absurd rfl hf);have kr1:=kr.put (a:=A' 4) (o:=.dT (kvs++[(jl0 o,.bl true)]));have uq1:xi _ Z (.ref q) o:=xi.fr f1 ⟨q,rfl,nq,hq⟩;generalize upd H (A' 4) (.dT (kvs++[(jl0 o,.bl true)]))=H1 at R1 f1 kr1 uq1;obtain⟨xs,hx,px⟩:=R1.un;have lx:xs.length<=1000:=by rw[Paired.length px];show B.unv.length<=1000;omega
  refine⟨_,rfl,k,_,dk,_,_,rfl,R1.ob,T.jq,T.yg,(yi A').2.2.2.2.1,.inl ⟨rfl,_,SqL.of hx⟩,_,rfl,A' 5,xs,.ref q,rfl,rfl,hx,zw lx,?_⟩;obtain⟨r5,_⟩:=R1.fl 5 (by decide) (by decide);obtain⟨R2,f2⟩:=R1.put (κ':={B with jf5:=B.jf5++[o],unv:=B.unv++[o]}) (f0:=5) (by decide) (by decide) (u0:=.lst (xs++[.ref q])) ⟨_,rfl,qq (Paired.vf px λ_ _=>xi.fr (Fr.put (P:=isK id h) r5 ⟨5,rfl⟩)) (uq1.fr (Fr.put (P:=isK id h) r5 ⟨5,rfl⟩))⟩ (λf u hf q=>by unfold jty at q⊢;split at q<;>first|exact q|exact absurd rfl hf);have kr2:=kr1.put (a:=A' 5) (o:=.lst (xs++[.ref q]));dsimp only;generalize upd H1 (A' 5) (.lst (xs++[.ref q]))=H2 at R2 f2 kr2;have ok2:Kp.Ok n {B with jf5:=B.jf5++[o],unv:=B.unv++[o]}:=⟨hok.h,hok.x,λu hu=>by
   rcases mem_append.mp hu with hu|hu
   .exact hok.u u hu
   .rw[mem_singleton.mp hu];exact ho,hok.w,hok.nd⟩;exact⟨_,rfl,k,dk,_,rfl,R2.ob,jd5 A',Z,id,h,k,A',dk,_,n,rfl,R2,ok2,n8,by show(B.unv++[o]).length+B.cho.length<=1000;rw[length_append];show B.unv.length+1+B.cho.length<=1000;omega,kr2,λZ' H' A'' r ys q1 q2 q3 q4 q5 q6=>g Z' H' A'' r ys q1 ((f1.trans f2).trans q2) q3 q4 q5 q6⟩
theorem jjz (T:Txt K mg t):xj P w K mg base CX0 7 t.ug t.uj ["self","order"] (jwy t Kp.jqq):=by
 refine T.jdw.okB (N:=["self","order"]) λ_ A _ s H vs Q E hr h=>?_;obtain⟨Z,id,h,k,A',dk,B,n,q,o,rfl,R,uq,hok,n8,ho,lh,lu,ld,kr,g⟩:=h;refine⟨_,(@jb _ _ _ _ _ (qv (PW.pt (jhx (qr (qi (pv 0) T.jq T.gh (jee T) hr.dn T.jbz .nil jo (jc (pv 1) jg))) (jb4 (jv (j6z hr.units) (pv 1) (j5 (pv 0) rfl) (by with_unfolding_all rfl))))) (@jd _ _ _ (jx (@zf _ _ _ _ jg))) j4) (@jb _ _ _ _ _ (qk (jjx PySem.F.plainAttrs_list PySem.F.slot_list_append PySem.F.type_list_append wz (j5 (pv 0) rfl) (jc (pv 1) jg))) (@jd _ _ _ (jx (zy (pv 0) T.jq T.ji6 (jrf T) hr.dn T.jj7 .nil jo))))),?_⟩;obtain⟨_,eq,nq,hq⟩:=uq;cases eq;obtain⟨xs,hx,px⟩:=R.wt;unfold Kp.jqq at g;have none_:(B.past o||decide (o∈B.wait))=true->∀r H1,vq H H1->H1 r=none->Q (.ref r) (upd H1 r (.lst [])):=λz r H1 s1 nr=>by
  rw[if_pos z]at g;have f0:Fr (isK id h) Z H Z H1:=Fr.same s1;have f1:Fr (isK id h) Z H1 (jad Z r (id,.kp h 8)) (upd H1 r (.lst [])):=Fr.jnh nr;exact g _ _ A' r [] (xq.jnh (R.fr (P:=λ_=>False) (λ_ z=>z) (Fr.same s1)) (kr.same s1) nr) (f0.trans f1) (kr.same s1).jnh qx ja .nil
 refine⟨_,rfl,k,dk,_,rfl,R.ob,jd5 A',_,rfl,Z,id,h,k,A',dk,B,n,q,o,rfl,R,hq,ho,hok.x,_,rfl,?_⟩;cases hp:B.past o with
 |true=>refine jhy (jhy ⟨zs0,λr nr=>none_ (by rw[hp];rfl) r H (vq.refl _) nr⟩)
 | false=>
  refine yq ⟨_,rfl,_,rfl,k,_,dk,_,_,rfl,R.ob,T.jq,T.xf,(yi A').2.2.2.2.2.2,A' 7,xs,x9 o,B.wait.map x9,rfl,SqL.of hx,⟨q,rfl,SqT.of hq⟩,juj px,_,rfl,jhz (λz=>?_) (λz=>?_)⟩
  .have z':o∈B.wait:=by
    obtain⟨u,hu,e⟩:=mem_map.mp (of_decide_eq_true z);rw[<-jl7 e];exact hu
   exact⟨zs0,λr nr=>none_ (by rw[decide_eq_true z',Bool.or_true]) r H (vq.refl _) nr⟩
  .have z':¬o∈B.wait:=λy=>z (decide_eq_true (mem_map_of_mem y));rw[if_neg (by rw[hp,decide_eq_false z'];decide)]at g;have lx:xs.length<=1000:=by rw[Paired.length px];omega
   refine⟨_,rfl,k,_,dk,_,_,rfl,R.ob,T.jq,T.xf,(yi A').2.2.2.2.2.2,.inl ⟨rfl,_,SqL.of hx⟩,_,rfl,A' 7,xs,.ref q,rfl,rfl,hx,zw lx,?_⟩;obtain⟨r7,_⟩:=R.fl 7 (by decide) (by decide);obtain⟨R2,f2⟩:=R.put (κ':={B with wait:=B.wait++[o]}) (f0:=7) (by decide) (by decide) (u0:=.lst (xs++[.ref q])) ⟨_,rfl,qq (Paired.vf px λ_ _=>xi.fr (Fr.put (P:=isK id h) r7 ⟨7,rfl⟩)) (xi.fr (Fr.put (P:=isK id h) r7 ⟨7,rfl⟩) ⟨q,rfl,nq,hq⟩)⟩ (λf u hf q=>by unfold jty at q⊢;split at q<;>first|exact q|exact absurd rfl hf);have kr2:=kr.put (a:=A' 7) (o:=.lst (xs++[.ref q]));dsimp only;generalize upd H (A' 7) (.lst (xs++[.ref q]))=H2 at R2 f2 kr2;have ok2:Kp.Ok n {B with wait:=B.wait++[o]}:=⟨hok.h,hok.x,hok.u,λu hu=>by
    rcases mem_append.mp hu with hu|hu
    .exact hok.w u hu
    .rw[mem_singleton.mp hu];exact ho,nodup_append.mpr ⟨hok.nd,by simp,λx hx y hy e=>by rw[mem_singleton.mp hy]at e;subst e;exact z' hx⟩⟩;exact⟨_,rfl,k,dk,_,rfl,R2.ob,jd5 A',Z,id,h,k,A',dk,_,n,rfl,R2,ok2,n8,by show B.unv.length+B.cho.length<=1000;omega,by show B.done.length+(B.wait++[o]).length<=1000;rw[length_append];show B.done.length+(B.wait.length+1)<=1000;omega,kr2,λZ' H' A'' r ys q1 q2 q3 q4 q5 q6=>g Z' H' A'' r ys q1 (f2.trans q2) q3 q4 q5 q6⟩
noncomputable def wof (n tot:Int)(ly ch kd bd ak wy:Addr):List (Str×V):=vy "on_way" (.ref wy) (vy "asked" (.ref ak) (vy "board" (.ref bd) (vy "keepers" (.ref kd) (vy "cheating" (.ref ch) (vy "lying" (.ref ly) (vy "total" (.int tot) (vy "purses" (.int n) [])))))))
theorem jnt {n tot:Int}{ly ch kd bd ak wy:Addr}:(wof n tot ly ch kd bd ak wy).lookup ("purses":Str)=some (.int n):=by unfold wof;repeat(first|rw[jh,if_pos rfl]|rw[jh,if_neg (by decide+kernel)])
theorem j00 {n tot:Int}{ly ch kd bd ak wy:Addr}:(wof n tot ly ch kd bd ak wy).lookup ("lying":Str)=some (.ref ly):=by unfold wof;repeat(first|rw[jh,if_pos rfl]|rw[jh,if_neg (by decide+kernel)])
theorem ji3 {n tot:Int}{ly ch kd bd ak wy:Addr}:(wof n tot ly ch kd bd ak wy).lookup ("cheating":Str)=some (.ref ch):=by unfold wof;repeat(first|rw[jh,if_pos rfl]|rw[jh,if_neg (by decide+kernel)])
theorem jeh {n tot:Int}{ly ch kd bd ak wy:Addr}:(wof n tot ly ch kd bd ak wy).lookup ("keepers":Str)=some (.ref kd):=by unfold wof;repeat(first|rw[jh,if_pos rfl]|rw[jh,if_neg (by decide+kernel)])
theorem jf1 {n tot:Int}{ly ch kd bd ak wy:Addr}:(wof n tot ly ch kd bd ak wy).lookup ("board":Str)=some (.ref bd):=by unfold wof;repeat(first|rw[jh,if_pos rfl]|rw[jh,if_neg (by decide+kernel)])
theorem jt5 {n tot:Int}{ly ch kd bd ak wy:Addr}:(wof n tot ly ch kd bd ak wy).lookup ("asked":Str)=some (.ref ak):=by unfold wof;repeat(first|rw[jh,if_pos rfl]|rw[jh,if_neg (by decide+kernel)])
theorem jdg {n tot:Int}{ly ch kd bd ak wy:Addr}:(wof n tot ly ch kd bd ak wy).lookup ("on_way":Str)=some (.ref wy):=by unfold wof;repeat(first|rw[jh,if_pos rfl]|rw[jh,if_neg (by decide+kernel)])
theorem xw {n tot:Int}{ly ch kd bd ak wy:Addr}{m:Str}(h:autoParam (¬m="on_way"/\¬m="asked"/\¬m="board"/\¬m="keepers"/\¬m="cheating"/\¬m="lying"/\¬m="total"/\¬m="purses") aP5):(wof n tot ly ch kd bd ak wy).lookup m=none:=by obtain⟨h1,h2,h3,h4,h5,h6,h7,h8⟩:=h;unfold wof;rw[jh,if_neg h1,jh,if_neg h2,jh,if_neg h3,jh,if_neg h4,jh,if_neg h5,jh,if_neg h6,jh,if_neg h7,jh,if_neg h8];rfl
structure Wd where
 n:Nat
 ki:List Int
 ks:List (Int×Kp)
 bd:xr
 en:Int
 asked:List (List O)
 way:List (Bool×Int×O)
noncomputable def jnq (ks:List (Int×Kp))(h:Int)(B:Kp):List (Int×Kp):=ks.map λc=>if c.1=h then(h,B)else c
noncomputable def Wd.post (w:Wd)(b:Bool)(o:O):Wd:={w with way:=w.way++w.ks.map λc=>(b,c.1,o)}
noncomputable def jz:xr->List Int->List Int
 |[],_=>[]
 |p::ps,k=>if p.1=k then p.2 else jz ps k
noncomputable def jeo:xr->List Int->Int->xr
 |[],k,h=>[(k,[h])]
 |p::ps,k,h=>if p.1=k then(p.1,p.2++[h])::ps else p::jeo ps k h
noncomputable def Wd.put (w:Wd)(h:Int)(o:O):Wd×Bool:=if h∈jz w.bd (x9 o)then(w,false)else({w with bd:=jeo w.bd (x9 o) h},decide (((jz w.bd (x9 o)).length:Int)+1=w.en))
noncomputable def Wd.jj4 (h:Int)(w:Wd)(o:O):Wd:=if(w.put h o).2=true then(w.put h o).1.post false o else(w.put h o).1
noncomputable def Wd.zj (w:Wd)(h:Int)(os:List O):Wd:=os.foldl (Wd.jj4 h) w
noncomputable def Wd.keep (w:Wd)(h:Int):Option Kp:=(w.ks.find? λc=>decide (c.1=h)).map (·.2)
noncomputable def Kp.take (B:Kp)(b:Bool)(o:O):Kp×List O:=if b=true then B.j5n o else B.jqq o
noncomputable def Wd.jze (w:Wd)(i:Nat)(l:Bool×Int×O)(B:Kp):Wd:=Wd.zj {w with way:=w.way.eraseIdx i,ks:=jnq w.ks l.2.1 (B.take l.1 l.2.2).1} l.2.1 (B.take l.1 l.2.2).2
theorem jbo (k:List Int):∀is:xr,qh (thP is) (jo6 k)=jz is k
 |[]=>rfl
 |p::ps=>by
  show(if jo6 p.1=jo6 k then p.2 else qh (thP ps) (jo6 k))=if p.1=k then p.2 else jz ps k;by_cases z:p.1=k
  .rw[if_pos z,if_pos (by rw[z])]
  .rw[if_neg z,if_neg (λy=>z (jtq y)),jbo k ps]
theorem jw8 (k:List Int)(h:Int):∀is:xr,jtd (thP is) (jo6 k) h=thP (jeo is k h)
 |[]=>rfl
 |p::ps=>by
  show(if jo6 p.1=jo6 k then(jo6 p.1,p.2++[h])::thP ps else(jo6 p.1,p.2)::jtd (thP ps) (jo6 k) h)=thP (if p.1=k then(p.1,p.2++[h])::ps else p::jeo ps k h);by_cases z:p.1=k
  .rw[if_pos z,if_pos (by rw[z])];rfl
  .rw[if_neg z,if_neg (λy=>z (jtq y)),jw8 k h ps];rfl
noncomputable def jx1 (b:Bool):V:=.str (if b=true then"order"else"paper")
noncomputable def joi (H:Hp)(Z:Rho)(x:V)(l:Bool×Int×O):Prop:=∃a q,x= .ref a/\Z a=none/\H a=some (.tup [jx1 l.1,.int l.2.1,.ref q])/\xi H Z (.ref q) l.2.2
theorem joi.fr {P:Role->Prop}{Z Z':Rho}{H H':Hp}{x:V}{l:Bool×Int×O}(f:Fr P Z H Z' H')(h:joi H Z x l):joi H' Z' x l:=by
 obtain⟨a,q,e,n,h1,h2⟩:=h;obtain⟨h1',n'⟩:=f a _ h1 λr hr=>by rw[n]at hr;cases hr
 exact⟨a,q,e,n'.trans n,h1',h2.fr f⟩
structure WA where
 x:Addr
 dx:Addr
 tot:Int
 ly:Addr
 ch:Addr
 kd:Addr
 bd:Addr
 ak:Addr
 wy:Addr
 db:Addr
 S:Addr
noncomputable abbrev WA.fs (W:WA)(n:Nat):List (Str×V):=wof n W.tot W.ly W.ch W.kd W.bd W.ak W.wy
noncomputable def yl (t:Ad)(H:Hp)(Z:Rho)(id:Nat)(kvs:List (Key×V))(ks:List (Int×Kp)):Prop:=Paired (λkv (c:Int×Kp)=>kv.1= .inl c.1/\∃k A dk,kv.2= .ref k/\xq t H Z id c.1 k A dk c.2) kvs ks
noncomputable def jsn (H:Hp)(Z:Rho)(id:Nat)(rs:List Addr)(asked:List (List O)):Prop:=rs.length=asked.length/\∀(i:Nat)(r:Addr)(os:List O),rs[i]?=some r->asked[i]?=some os->Z r=some (id,.row i)/\∃xs,H r=some (.lst xs)/\Paired (xi H Z) xs os
noncomputable def j23 (Z:Rho)(id:Nat)(kvs:List (List Key×V)):Prop:=∀kv∈kvs,∃c,kv.2= .ref c/\Z c=some (id,.sg)
structure qu (t:Ad)(H:Hp)(Z:Rho)(id:Nat)(W:WA)(w:Wd):Prop where
 ob:H W.x=some (.ins t.qa W.dx (W.fs w.n))/\Z W.x=some (id,.x)
 ch:H W.ch=some (.lst (w.ki.map V.int))/\Z W.ch=none
 kd:Z W.kd=some (id,.kd)/\∃kvs,H W.kd=some (.dK kvs)/\yl t H Z id kvs w.ks
 bd:Z W.bd=some (id,.bd)/\Z W.S=some (id,.sd)/\∃kvs,vu t H W.bd W.db W.S w.en kvs (thP w.bd)/\j23 Z id kvs
 ak:Z W.ak=some (id,.ak)/\∃rs,H W.ak=some (.lst (rs.map V.ref))/\jsn H Z id rs w.asked
 wy:Z W.wy=some (id,.wy)/\∃xs,H W.wy=some (.lst xs)/\Paired (joi H Z) xs w.way
section
variable {t:Ad}{H H':Hp}{Z Z':Rho}{id:Nat}{W:WA}{w:Wd}{P:Role->Prop}
theorem jch {a:Addr}{u:HO}{r:Role}(f:Fr P Z H Z' H')(e:H a=some u)(er:Z a=some r)(n:¬P r):H' a=some u/\Z' a=some r:=by
 obtain⟨e1,r1⟩:=f a u e λr' hr=>by rw[er]at hr;cases hr;exact n
 exact⟨e1,r1.trans er⟩
theorem jjv {a:Addr}{u:HO}(f:Fr P Z H Z' H')(e:H a=some u)(er:Z a=none):H' a=some u/\Z' a=none:=by
 obtain⟨e1,r1⟩:=f a u e λr' hr=>by rw[er]at hr;cases hr
 exact⟨e1,r1.trans er⟩
theorem yl.fr {kvs:List (Key×V)}{ks:List (Int×Kp)}(f:Fr P Z H Z' H')(hP:∀h i,¬P (id,.kp h i))(k:yl t H Z id kvs ks):yl t H' Z' id kvs ks:=Paired.vf k λ_ c ⟨e,k,A,dk,ek,q⟩=>⟨e,k,A,dk,ek,q.fr (hP c.1) f⟩
theorem jsn.fr {rs:List Addr}{asked:List (List O)}(f:Fr P Z H Z' H')(hP:∀i,¬P (id,.row i))(k:jsn H Z id rs asked):jsn H' Z' id rs asked:=⟨k.1,λi r os e1 e2=>by obtain⟨rr,xs,h,p⟩:=k.2 i r os e1 e2;obtain⟨h',r'⟩:=jch f h rr (hP i);exact⟨r',xs,h',Paired.vf p λ_ _=>xi.fr f⟩⟩
theorem vu.fr {p dx S:Addr}{en:Int}{kvs:List (List Key×V)}{ps:jdv}(f:Fr P Z H Z' H')(rp:Z p=some (id,.bd))(rS:Z S=some (id,.sd))(sg:j23 Z id kvs)(n1:¬P (id,.bd))(n2:¬P (id,.sd))(n3:¬P (id,.sg))(Bq:vu t H p dx S en kvs ps):vu t H' p dx S en kvs ps/\Z' p=some (id,.bd)/\Z' S=some (id,.sd)/\j23 Z' id kvs:=by
 obtain⟨e1,r1⟩:=jch f Bq.ob rp n1;obtain⟨e2,r2⟩:=jch f Bq.sg rS n2;have hs:∀{kv:List Key×V}{q:List Key×List Int},kv∈kvs->jy0 H kv q->jy0 H' kv q/\∃c,kv.2= .ref c/\Z' c=some (id,.sg):=λ{kv q} m ⟨a,c,ec,hc⟩=>by obtain⟨c',ec',rc⟩:=sg kv m;rw[ec]at ec';cases ec';obtain⟨h1,h2⟩:=jch f hc rc n3;exact⟨⟨a,c,ec,h1⟩,c,ec,h2⟩
 have all:∀{xs:List (List Key×V)}{ys:jdv},(∀x∈xs,x∈kvs)->Paired (jy0 H) xs ys->Paired (jy0 H') xs ys/\j23 Z' id xs:=λ{xs ys} m q=>by
  induction q with
  |nil=>exact⟨.nil,λ_ z=>by cases z⟩
  |cons h _ ih=>
   obtain⟨i1,i2⟩:=ih λx hx=>m x (mem_cons_of_mem _ hx);obtain⟨j1,j2⟩:=hs (m _ mem_cons_self) h;refine⟨.cons j1 i1,λx hx=>?_⟩;rcases mem_cons.mp hx with rfl|hx
   .exact j2
   .exact i2 x hx
 obtain⟨a1,a2⟩:=all (λ_ h=>h) Bq.hs;exact⟨⟨e1,e2,a1,Bq.un⟩,r1,r2,a2⟩
theorem qu.fr (hP:∀p,¬P (id,p))(f:Fr P Z H Z' H')(w1:qu t H Z id W w):qu t H' Z' id W w:=by obtain⟨rk,kvs,hk,ks⟩:=w1.kd;obtain⟨rb,rS,bvs,Bq,sg⟩:=w1.bd;obtain⟨ra,rs,ha,rows⟩:=w1.ak;obtain⟨rw_,xs,hw,pw⟩:=w1.wy;obtain⟨hk',rk'⟩:=jch f hk rk (hP _);obtain⟨B',rb',rS',sg'⟩:=Bq.fr f rb rS sg (hP _) (hP _) (hP _);obtain⟨ha',ra'⟩:=jch f ha ra (hP _);obtain⟨hw',rw'⟩:=jch f hw rw_ (hP _);exact⟨jch f w1.ob.1 w1.ob.2 (hP _),jjv f w1.ch.1 w1.ch.2,⟨rk',kvs,hk',ks.fr f λ_ _=>hP _⟩,⟨rb',rS',bvs,B',sg'⟩,⟨ra',rs,ha',rows.fr f λ_=>hP _⟩,⟨rw',xs,hw',Paired.vf pw λ_ _=>joi.fr f⟩⟩
theorem qu.but (f:Fr P Z H Z' H')(w1:qu t H Z id W w)(w':Wd)(n1:¬P (id,.x))(en:w'.n=w.n)(ec:w'.ki=w.ki)(kd:(Z W.kd=some (id,.kd)->(∃kvs,H W.kd=some (.dK kvs)/\yl t H Z id kvs w.ks)->Z' W.kd=some (id,.kd)/\∃kvs,H' W.kd=some (.dK kvs)/\yl t H' Z' id kvs w'.ks))(bd:(Z W.bd=some (id,.bd)->Z W.S=some (id,.sd)->(∃kvs,vu t H W.bd W.db W.S w.en kvs (thP w.bd)/\j23 Z id kvs)->Z' W.bd=some (id,.bd)/\Z' W.S=some (id,.sd)/\∃kvs,vu t H' W.bd W.db W.S w'.en kvs (thP w'.bd)/\j23 Z' id kvs))(ak:(Z W.ak=some (id,.ak)->(∃rs,H W.ak=some (.lst (rs.map V.ref))/\jsn H Z id rs w.asked)->Z' W.ak=some (id,.ak)/\∃rs,H' W.ak=some (.lst (rs.map V.ref))/\jsn H' Z' id rs w'.asked))(wy:(Z W.wy=some (id,.wy)->(∃xs,H W.wy=some (.lst xs)/\Paired (joi H Z) xs w.way)->Z' W.wy=some (id,.wy)/\∃xs,H' W.wy=some (.lst xs)/\Paired (joi H' Z') xs w'.way)):qu t H' Z' id W w':=by
 refine⟨?_,?_,kd w1.kd.1 w1.kd.2,bd w1.bd.1 w1.bd.2.1 w1.bd.2.2,ak w1.ak.1 w1.ak.2,wy w1.wy.1 w1.wy.2⟩
 .rw[en];exact jch f w1.ob.1 w1.ob.2 n1
 .rw[ec];exact jjv f w1.ch.1 w1.ch.2
theorem jay (f:Fr P Z H Z' H')(n1:¬P (id,.kd))(n2:∀h i,¬P (id,.kp h i)){kd:Addr}{ks:List (Int×Kp)}(r:Z kd=some (id,.kd))(h:∃kvs,H kd=some (.dK kvs)/\yl t H Z id kvs ks):Z' kd=some (id,.kd)/\∃kvs,H' kd=some (.dK kvs)/\yl t H' Z' id kvs ks:=by obtain⟨kvs,hk,q⟩:=h;obtain⟨h',r'⟩:=jch f hk r n1;exact⟨r',kvs,h',q.fr f n2⟩
theorem jcw (f:Fr P Z H Z' H')(n1:¬P (id,.bd))(n2:¬P (id,.sd))(n3:¬P (id,.sg)){b db S:Addr}{en:Int}{is:xr}(rb:Z b=some (id,.bd))(rS:Z S=some (id,.sd))(h:∃kvs,vu t H b db S en kvs (thP is)/\j23 Z id kvs):Z' b=some (id,.bd)/\Z' S=some (id,.sd)/\∃kvs,vu t H' b db S en kvs (thP is)/\j23 Z' id kvs:=by obtain⟨kvs,Bq,sg⟩:=h;obtain⟨B',rb',rS',sg'⟩:=Bq.fr f rb rS sg n1 n2 n3;exact⟨rb',rS',kvs,B',sg'⟩
theorem jha (f:Fr P Z H Z' H')(n1:¬P (id,.ak))(n2:∀i,¬P (id,.row i)){ak:Addr}{asked:List (List O)}(r:Z ak=some (id,.ak))(h:∃rs,H ak=some (.lst (rs.map V.ref))/\jsn H Z id rs asked):Z' ak=some (id,.ak)/\∃rs,H' ak=some (.lst (rs.map V.ref))/\jsn H' Z' id rs asked:=by obtain⟨rs,hk,q⟩:=h;obtain⟨h',r'⟩:=jch f hk r n1;exact⟨r',rs,h',q.fr f n2⟩
theorem jv8 (f:Fr P Z H Z' H')(n1:¬P (id,.wy)){wy:Addr}{way:List (Bool×Int×O)}(r:Z wy=some (id,.wy))(h:∃xs,H wy=some (.lst xs)/\Paired (joi H Z) xs way):Z' wy=some (id,.wy)/\∃xs,H' wy=some (.lst xs)/\Paired (joi H' Z') xs way:=by obtain⟨rs,hk,q⟩:=h;obtain⟨h',r'⟩:=jch f hk r n1;exact⟨r',rs,h',Paired.vf q λ_ _=>joi.fr f⟩
end
theorem jsc {α β:Type}{F:α->β->Prop}:∀{xs xs':List α}{ys ys':List β},Paired F xs ys->Paired F xs' ys'->Paired F (xs++xs') (ys++ys'):=λ{xs xs' ys ys'} q h=>by
 induction q with
 |nil=>exact h
 |cons a _ ih=>exact .cons a ih
theorem big {n:Nat}(h:n<=1000000):n<sizeLine:=lt_of_le_of_lt h (by decide)
theorem j1e {n:Nat}(h:n<=1000000):n<=sizeLine:=le_of_lt (big h)
noncomputable abbrev Frm (H:Hp)(x:Addr)(G:Hp):Prop:=∀b u,H b=some u->b≠x->G b=some u
theorem Fr.j5e {P:Role->Prop}{Z:Rho}{H G:Hp}{x:Addr}{r:Role}(h:Z x=some r)(p:P r)(f:Frm H x G):Fr P Z H Z G:=λb u e n=>⟨f b u e λz=>n r (z ▸ h) p,rfl⟩
theorem OkR.j5e {Z:Rho}{H G:Hp}{x:Addr}{u:HO}(k:OkR Z H)(f:Frm H x G)(hx:G x=some u)(nu:jwc u):OkR Z G:=λb r h=>by
 by_cases z:b=x
 .subst z;exact⟨u,hx,nu⟩
 .obtain⟨v,e,n⟩:=k b r h;exact⟨v,f b v e z,n⟩
noncomputable def isP (id:Nat)(p:Part):Role->Prop:=λr=>r=(id,p)
theorem j3 {id:Nat}{p q:Part}(h:q≠p:=by intro z;cases z):¬isP id p (id,q):=λz=>h (Prod.mk.inj z).2
theorem j6k {a:Addr}{o:Obj}{kvs:List (Key×V)}{g:TG}{tb:TS}{D:Ends}{U:St}{H:Hp}(Pv:Nat->St->Hp->Prop)(h0:Pv 0 U H)(hl:∀i U H,i<=kvs.length->Pv i U H->H a=some (.frz o (.dK kvs)))(hs:∀i kv U H,kvs[i]?=some kv->Pv i U H->g (kV kv.1) U H λU2 H2=>tb {D with nx:=Pv (i+1),ct:=Pv (i+1),bk:=D.nx} U2 H2)(hd:∀U H,Pv kvs.length U H->D.nx U H):∃W:Nat->Nat->St->Hp->Prop,(∃m,W 0 m U H)/\∀i m U H,W i m U H->((Itd a o kvs).stop i H/\D.nx U H)\/((Itd a o kvs).go i H/\∃N:St->Hp->Prop,(∀U' H',N U' H'->∃m',m'<m/\W (i+1) m' U' H')/\∀x H',(Itd a o kvs).yld i H x H'->g x U H' λU2 H2=>tb {D with nx:=N,ct:=N,bk:=D.nx} U2 H2):=by
 refine⟨λi m U H=>m=kvs.length-i/\i<=kvs.length/\Pv i U H,⟨kvs.length,by simp,zero_le _,h0⟩,?_⟩
 rintro i m U H ⟨rfl,hi,p⟩
 have q:=hl i U H hi p;by_cases hlt:i<kvs.length
 .refine .inr ⟨⟨hlt,q⟩,Pv (i+1),λU' H' p'=>⟨kvs.length-(i+1),by omega,rfl,hlt,p'⟩,λx H' y=>?_⟩;obtain⟨e,kv,ek,ex⟩:=y;subst e ex;exact hs i kv U _ ek p
 .have e:i=kvs.length:=by omega
  subst e;exact .inl ⟨⟨le_refl _,q⟩,hd U H p⟩
theorem jcq (T:Txt K mg t):xj P w K mg base CX0 1 t.jdz t.jem ["self"] (λvs H Q _=>∃Z id W Y,vs=[.ref W.x]/\qu t H Z id W Y/\Y.way.length<=100000/\∀r xs,H r=none->Paired (joi H Z) xs Y.way->Q (.ref r) (upd H r (.lst xs))):=by refine T.jh0.okB (N:=["self"]) λ_ A _ s H vs Q E hr h=>?_;obtain⟨Z,id,W,Y,rfl,O,l,k⟩:=h;refine⟨_,(@jd _ _ _ (jx (jea jac rfl T.jm5 boot_list (jc (j5 (pv 0) rfl) jg)))),?_⟩;obtain⟨rw_,xs,hw,pw⟩:=O.wy;exact⟨_,rfl,W.x,_,W.dx,_,_,rfl,O.ob.1,T.jl,T.zh,jdg,W.wy,xs,rfl,.inl (SqL.of hw),λr nr=>k r xs nr pw⟩
theorem jcd (T:Txt K mg t):xj P w K mg base CX0 1 t.gw t.kc ["self","word","order"] (λvs H Q _=>∃Z id W Y b q o,vs=[.ref W.x,jx1 b,.ref q]/\qu t H Z id W Y/\OkR Z H/\xi H Z (.ref q) o/\Y.way.length<=100000/\Y.ks.length<=16/\∀H',qu t H' Z id W (Y.post b o)->Fr (isP id .wy) Z H Z H'->OkR Z H'->Q .non H'):=by
 refine T.jc6.okA jca λ_ A _ s H vs Q E hr h=>?_;obtain⟨Z,id,W,Y,b,q,o,rfl,O,kr,uq,l,l2,k⟩:=h;refine⟨_,(@jd _ _ _ (j5f (jo2 PassesOwn.never rfl (j82 (j5 (pv 0) rfl)) (ju (i:=3) jca.nd rfl (Or.inl rfl)) (@jd _ _ _ (qk (jjx PySem.F.plainAttrs_list PySem.F.slot_list_append PySem.F.type_list_append wz (j5 (pv 0) rfl) (jc (@jgb _ _ _ _ _ (@jlv _ _ _ _ _ _ _ (pv 1) (pv 3) (pv 2) rfl rfl rfl)) jg))))))),?_⟩;obtain⟨rk,kvs,kd,ks⟩:=O.kd;obtain⟨rw_,way,wy,pw⟩:=O.wy;have ob:=O.ob.1;have kw:W.kd≠W.wy:=ner rk rw_ (by intro z;cases z);have kx:W.x≠W.kd:=ner O.ob.2 rk (by intro z;cases z);have wx:W.x≠W.wy:=ner O.ob.2 rw_ (by intro z;cases z);have lk:kvs.length=Y.ks.length:=Paired.length ks;have lw:way.length=Y.way.length:=Paired.length pw;refine⟨_,rfl,W.x,_,W.dx,_,_,rfl,ob,T.jl,T.zm,jeh,W.kd,kvs,rfl,kd,λoo=>j6k (λi U H'=>∃v ts,U=[some (.ref W.x),some (jx1 b),some (.ref q),v]/\ts.length=i/\H' W.wy=some (.lst (way++ts))/\Frm (upd H W.kd (.frz oo (.dK kvs))) W.wy H'/\Paired (λx (c:Int×Kp)=>∃a,x= .ref a/\H a=none/\H' a=some (.tup [jx1 b,.int c.1,.ref q])) ts (Y.ks.take i)) ?_ ?_ ?_ ?_⟩
 .exact⟨none,[],rfl,rfl,(by rw[append_nil,je kw.symm];exact wy),(λb u e _=>e),.nil⟩
 .rintro i U H' _ ⟨v,ts,_,_,_,f,_⟩
  exact f _ _ ja kw
 .rintro i kv U H' ek ⟨v,ts,rfl,lt,hw,f,pt⟩
  obtain⟨c,ec,e1,_⟩:=qg ks ek;have ob':H' W.x=some (.ins t.qa W.dx (W.fs Y.n)):=f _ _ (by rw[je kx];exact ob) wx;have hi:=(List.getElem?_eq_some_iff.mp ek).1;refine⟨_,rfl,W.x,_,W.dx,_,_,rfl,ob',T.jl,T.zh,jdg,.inl ⟨rfl,_,SqL.of hw⟩,_,rfl,_,rfl,_,rfl,zs3,λp np=>?_⟩;have sp:=jf (o:=.tup [jx1 b,kV kv.1,.ref q]) np;have np0:H p=none:=by
   cases e:H p with
   |none=>rfl
   | some u=>
    exfalso;by_cases z:p=W.wy
    .rw[z,hw]at np;cases np
    .by_cases z2:p=W.kd
     .rw[z2,f _ _ ja kw]at np;cases np
     .have:=f p u (by rw[je z2];exact e) z;rw[np]at this;cases this
  have pw_:p≠W.wy:=λz=>by rw[z,hw]at np;cases np
  refine⟨W.wy,_,_,rfl,rfl,sp _ _ hw,big (by rw[length_append,lt];omega),_,ts++[.ref p],rfl,?_,?_,λb' u e bw=>?_,?_⟩
  .rw[length_append,lt];rfl
  .rw[ja,List.append_assoc]
  .rw[je bw];exact sp _ _ (f _ _ e bw)
  .rw[take_snoc ec];refine qq (Paired.vf pt λ_ _ ⟨a,e,n,h'⟩=>⟨a,e,n,?_⟩) ⟨p,rfl,np0,?_⟩
   .rw[je (λz=>by rw[z,hw]at h';cases h')];exact sp _ _ h'
   .rw[je pw_,ja,e1];rfl
 .rintro U H' ⟨v,ts,rfl,lt,hw,f,pt⟩
  have fin:Frm H W.wy (upd H' W.kd (.dK kvs)):=λb' u e bw=>by
   by_cases z:b'=W.kd
   .subst z;rw[kd]at e;rw[ja,<-e]
   .rw[je z];exact f _ _ (by rw[je z];exact e) bw
  have hw':upd H' W.kd (.dK kvs) W.wy=some (.lst (way++ts)):=by rw[je kw.symm];exact hw
  refine⟨W.kd,oo,.dK kvs,f _ _ ja kw,λo' u' z=>?_,True.intro,?_⟩
  .have z':H W.kd=some (.frz o' u'):=z;rw[kd]at z';cases z'
  have fr:Fr (isP id .wy) Z H Z (upd H' W.kd (.dK kvs)):=Fr.j5e rw_ rfl fin;rw[lk,take_length]at pt;refine k _ (O.but fr (Y.post b o) j3 rfl rfl (jay fr j3 (λ_ _=>j3)) (jcw fr j3 j3 j3) (jha fr j3 (λ_=>j3)) (λ_ _=>⟨rw_,_,hw',?_⟩)) fr (kr.j5e fin hw' (by exact True.intro));have up:=uq.fr fr;have q2:Paired (joi (upd H' W.kd (.dK kvs)) Z) ts (Y.ks.map λc=>(b,c.1,o)):=by
   clear hw' lt hw;have gen:∀{xs:List V}{cs:List (Int×Kp)},Paired (λx (c:Int×Kp)=>∃a,x= .ref a/\H a=none/\H' a=some (.tup [jx1 b,.int c.1,.ref q])) xs cs->Paired (joi (upd H' W.kd (.dK kvs)) Z) xs (cs.map λc=>(b,c.1,o)):=λ{xs cs} h=>by
    induction h with
    |nil=>exact .nil
    |cons a _ ih=>obtain⟨p,e,n,hp⟩:=a;refine .cons ⟨p,q,e,kr.none n,?_,up⟩ ih;rw[je (λz=>by rw[z,kd]at n;cases n)];exact hp
   exact gen pt
  exact jsc (Paired.vf pw λ_ _=>joi.fr fr) q2
noncomputable def j5y (id:Nat):Role->Prop:=λr=>r=(id,.wy)\/r=(id,.sd)\/r=(id,.sg)
theorem jwh {id:Nat}{p:Part}(h1:p≠.wy)(h2:p≠.sd)(h3:p≠.sg):¬j5y id (id,p):=λz=>by
 rcases z with z|z|z
 .exact h1 (Prod.mk.inj z).2
 .exact h2 (Prod.mk.inj z).2
 .exact h3 (Prod.mk.inj z).2
structure Sz (Y:Wd)(a b c:Nat):Prop where
 bd:Y.bd.length<=a
 hs:∀x∈Y.bd,x.2.length<=b
 wy:Y.way.length<=c
 ks:Y.ks.length<=16
theorem jxn {k:List Int}{h:Int}:∀{is:xr}{a b:Nat},is.length<=a->(∀x∈is,x.2.length<=b)->(jeo is k h).length<=a+1/\∀x∈jeo is k h,x.2.length<=b+1
 |[],a,b,_,_=>⟨by show 1<=a+1;omega,λx hx=>by rw[mem_singleton.mp hx];show 1<=b+1;omega⟩
 | p::ps,a,b,h1,h2=>by
  unfold jeo;split
  .refine⟨by rw[length_cons]at h1⊢;omega,λx hx=>?_⟩;rcases mem_cons.mp hx with rfl|hx
   .have:=h2 p mem_cons_self;show(p.2++[h]).length<=b+1;rw[length_append];show p.2.length+1<=b+1;omega
   .have:=h2 x (mem_cons_of_mem _ hx);omega
  .rw[length_cons]at h1;obtain⟨i1,i2⟩:=jxn (k:=k) (h:=h) (is:=ps) (a:=a-1) (b:=b) (by omega) (λx hx=>h2 x (mem_cons_of_mem _ hx));refine⟨by rw[length_cons];omega,λx hx=>?_⟩;rcases mem_cons.mp hx with rfl|hx
   .have:=h2 x mem_cons_self;omega
   .exact i2 x hx
theorem Sz.put {Y:Wd}{a b c:Nat}(z:Sz Y a b c)(h:Int)(o:O):Sz (Y.put h o).1 (a+1) (b+1) c:=by
 unfold Wd.put;split
 .exact⟨le_succ_of_le z.bd,λx hx=>le_succ_of_le (z.hs x hx),z.wy,z.ks⟩
 .obtain⟨i1,i2⟩:=jxn (k:=x9 o) (h:=h) z.bd z.hs;exact⟨i1,i2,z.wy,z.ks⟩
theorem Sz.jj4 {Y:Wd}{a b c:Nat}(z:Sz Y a b c)(h:Int)(o:O):Sz (Y.jj4 h o) (a+1) (b+1) (c+16):=by
 have p:=z.put h o;unfold Wd.jj4;split
 .refine⟨p.bd,p.hs,?_,p.ks⟩;show((Y.put h o).1.way++_).length<=c+16;rw[length_append,length_map];have:=p.wy;have:=p.ks;omega
 .exact⟨p.bd,p.hs,by have:=p.wy;omega,p.ks⟩
theorem Sz.mono {Y:Wd}{a b c a' b' c':Nat}(z:Sz Y a b c)(h1:a<=a')(h2:b<=b')(h3:c<=c'):Sz Y a' b' c':=⟨le_trans z.bd h1,λx hx=>le_trans (z.hs x hx) h2,le_trans z.wy h3,z.ks⟩
theorem jsg (Y:Wd)(h:Int){os:List O}{i:Nat}{o:O}(e:os[i]?=some o):Y.zj h (os.take (i+1))=(Y.zj h (os.take i)).jj4 h o:=by unfold Wd.zj;rw[take_snoc e,List.foldl_append];rfl
theorem Sz.zj {Y:Wd}{a b c:Nat}(z:Sz Y a b c)(h:Int){os:List O}:∀i,i<=os.length->Sz (Y.zj h (os.take i)) (a+i) (b+i) (c+16*i)
 |0,_=>z
 |i+1,hi=>by rw[jsg Y h (getElem?_eq_getElem (show i<os.length by omega))];exact((Sz.zj z h i (by omega)).jj4 h _).mono (by omega) (by omega) (by omega)
theorem jsi {k:List Int}:∀{is:xr},jz is k=[]\/∃x∈is,jz is k=x.2
 |[]=>.inl rfl
 | p::ps=>by
  unfold jz;split
  .exact .inr ⟨p,mem_cons_self,rfl⟩
  .rcases jsi (k:=k) (is:=ps)with h|⟨x,hx,e⟩
   .exact .inl h
   .exact .inr ⟨x,mem_cons_of_mem _ hx,e⟩
theorem Sz.hl {Y:Wd}{a b c:Nat}(z:Sz Y a b c)(k:List Int):(jz Y.bd k).length<=b:=by
 rcases jsi (k:=k) (is:=Y.bd)with h|⟨x,hx,e⟩
 .rw[h];exact zero_le _
 .rw[e];exact z.hs x hx
open Classical in
noncomputable def jrj (Z : Rho) (id:Nat) (kvs kvs':List (List Key × V)) : Rho:=λa=>if ∃ kv ∈ kvs',kv.2 = .ref a then some (id,.sg) else if ∃ kv ∈ kvs,kv.2 = .ref a then none else Z a
theorem jas (T:Txt K mg t):xj P w K mg base CX0 2 t.jbh t.jbi ["self","house","orders"] (λvs H Q _=>∃Z id W Y h r xs os a b c,vs=[.ref W.x,.int h,.ref r]/\qu t H Z id W Y/\OkR Z H/\H r=some (.lst xs)/\(∀ro,Z r=some ro->¬j5y id ro)/\Paired (xi H Z) xs os/\Sz Y a b c/\a+os.length<=1000/\b+os.length<=1000/\c+16*os.length<=100000/\∀Z' H',qu t H' Z' id W (Y.zj h os)->Fr (j5y id) Z H Z' H'->OkR Z' H'->Q .non H'):=by
 refine T.jf8.okA je5 λ_ A _ s H vs Q E hr h=>?_;obtain⟨Z,id,W,Y,h,r,xs,os,a,b,c,rfl,O,kr,hx,nr,px,sz,la,lb,lc,k⟩:=h;refine⟨_,(@jd _ _ _ (jo2 PassesOwn.never rfl (@jck _ _ _ _ (pv 2)) (ju (i:=3) je5.nd rfl (Or.inl rfl)) (@jd _ _ _ (qv (qr (qi (j5 (pv 0) rfl) T.xp T.jok (jvg T) hr.dn T.jpx .nil jo (@yk _ _ _ _ _ (pv 1) (pv 3) rfl rfl))) (@jd _ _ _ (qk (qi (pv 0) T.jl T.gb (jcd T) hr.dn T.kg .nil jo (@yk _ _ _ _ _ (ze (v:=.str "paper") rfl T.jfp.choose_spec ⟨_,rfl⟩) (pv 3) rfl rfl)))) j4)))),?_⟩;have lx:xs.length=os.length:=Paired.length px;refine⟨_,rfl,r,rfl,⟨_,SqL.of hx⟩,jmw (K:=K) (a:=r) (xs:=xs) (λi U H'=>∃v Z',U=[some (.ref W.x),some (.int h),some (.ref r),v]/\qu t H' Z' id W (Y.zj h (os.take i))/\Fr (j5y id) Z H Z' H'/\OkR Z' H') ⟨none,Z,rfl,O,Fr.refl,kr⟩ (λi U H' _ ⟨_,Z',_,_,f,_⟩=>SqL.of (f _ _ hx nr).1) ?_ ?_⟩
 .rintro i x U H1 ex ⟨v,Z1,rfl,O1,f1,kr1⟩
  obtain⟨o,eo,uo⟩:=qg px ex;have uo1:=uo.fr f1;obtain⟨q,rfl,nq,hq⟩:=uo1;have hi:=(List.getElem?_eq_some_iff.mp eo).1;have z1:=sz.zj h (os:=os) i (by omega);rw[jsg Y h eo];generalize Y.zj h (os.take i)=Y1 at O1 z1⊢;obtain⟨rb,rS,kvs,Bq,sg⟩:=O1.bd;have ek:qh (thP Y1.bd) (jl0 o)=jz Y1.bd (x9 o):=jbo (x9 o) Y1.bd;have lk:kvs.length<=1000:=by rw[Paired.length Bq.hs,thP,length_map];have:=z1.bd;omega
  have lh:=z1.hl (x9 o);refine⟨_,rfl,W.x,_,W.dx,_,_,rfl,O1.ob.1,T.jl,T.xa,jf1,W.bd,W.db,_,rfl,Bq.ob,jqn _ _ (by decide+kernel) (by decide+kernel),_,rfl,_,rfl,W.bd,W.db,W.S,Y1.en,kvs,thP Y1.bd,q,jl0 o,h,rfl,Bq,hq,lk,by rw[ek];omega,λhm H2 s2=>?_,λhm kvs' H2 B2 k2 nn2=>?_⟩
  .rw[ek]at hm;refine⟨_,rfl,yq ⟨_,Z1,rfl,?_,f1.trans (Fr.same s2),kr1.same s2⟩⟩;have e:Y1.jj4 h o=Y1:=by
    unfold Wd.jj4 Wd.put;rw[if_pos hm];rfl
   rw[e];exact O1.fr (P:=λ_=>False) (λ_ z=>z) (Fr.same s2)
  .rw [ek]at hm;rw[ek];have inS:∀{a:Addr},(∃kv∈kvs,kv.2= .ref a)->Z1 a=some (id,.sg):=λ{a} ⟨kv,m,e⟩=>by
    obtain⟨c,ec,rc⟩:=sg kv m;rw[e]at ec;cases ec;exact rc
   have f2:Fr (j5y id) Z1 H1 (jrj Z1 id kvs kvs') H2:=λa u e n=>by have n1:¬∃kv∈kvs,kv.2= .ref a:=λz=>n _ (inS z) (.inr (.inr rfl));have n2:NotIn kvs a:=λkv m e=>n1 ⟨kv,m,e⟩;have n3:¬∃kv∈kvs',kv.2= .ref a:=λ⟨kv,m,e'⟩=>nn2 a u e n2 kv m e';refine⟨k2 a u e (λz=>n _ (z ▸ rS) (.inr (.inl rfl))) n2,?_⟩;unfold jrj;rw[if_neg n3,if_neg n1]
   have kr2:OkR (jrj Z1 id kvs kvs') H2:=λa ro e=>by
    unfold jrj at e;split at e
    .rename_i hm';obtain⟨kv,m,ev⟩:=hm';obtain⟨j,hj,ej⟩:=mem_iff_getElem.mp m;obtain⟨pp,_,_,c,ec,hc⟩:=qg B2.hs (by rw[getElem?_eq_getElem hj,ej]);rw[ev]at ec;cases ec;exact⟨_,hc,True.intro⟩
    .split at e
     .cases e
     .rename_i n1;obtain⟨u,hu,nu⟩:=kr1 a ro e;by_cases z:a=W.S
      .subst z;exact⟨_,B2.sg,True.intro⟩
      .exact⟨u,k2 a u hu z (λkv m e=>n1 ⟨kv,m,e⟩),nu⟩
   have O2:qu t H2 (jrj Z1 id kvs kvs') id W {Y1 with bd:=jeo Y1.bd (x9 o) h}:=by
    refine O1.but f2 _ (jwh (by intro z;cases z) (by intro z;cases z) (by intro z;cases z)) rfl rfl (jay f2 (jwh (by intro z;cases z) (by intro z;cases z) (by intro z;cases z)) λ_ _=>jwh (by intro z;cases z) (by intro z;cases z) (by intro z;cases z)) (λrb' rS' _=>?_) (jha f2 (jwh (by intro z;cases z) (by intro z;cases z) (by intro z;cases z)) λ_=>jwh (by intro z;cases z) (by intro z;cases z) (by intro z;cases z)) (λrw' hw'=>?_)
    .have e:=jw8 (x9 o) h Y1.bd;rw[show jo6 (x9 o)=jl0 o from rfl]at e;rw[e]at B2;have nS:∀{a:Addr}{r:Role}{u:HO},Z1 a=some r->H1 a=some u->r≠(id,.sg)->jrj Z1 id kvs kvs' a=some r:=λ{a r u} er eu n=>by
      have n1:¬∃kv∈kvs,kv.2= .ref a:=λz=>n (Option.some.inj (er.symm.trans (inS z)));have n3:¬∃kv∈kvs',kv.2= .ref a:=λ⟨kv,m,e'⟩=>nn2 a u eu (λkv m e=>n1 ⟨kv,m,e⟩) kv m e';unfold jrj;rw[if_neg n3,if_neg n1];exact er
     refine⟨nS rb Bq.ob (by intro z;cases z),nS rS Bq.sg (by intro z;cases z),kvs',B2,λkv m=>?_⟩;obtain⟨j,hj,ej⟩:=mem_iff_getElem.mp m;obtain⟨pp,_,_,c,ec,hc⟩:=qg B2.hs (by rw[getElem?_eq_getElem hj,ej]);refine⟨c,ec,?_⟩;unfold jrj;rw[if_pos ⟨kv,m,ec⟩]
    .obtain⟨ws,h1,p1⟩:=hw';have n1:¬∃kv∈kvs,kv.2= .ref W.wy:=λz=>by
      have:=inS z;rw[rw']at this;cases this
     have n2:NotIn kvs W.wy:=λkv m e=>n1 ⟨kv,m,e⟩;have n3:¬∃kv∈kvs',kv.2= .ref W.wy:=λ⟨kv,m,e'⟩=>nn2 _ _ h1 n2 kv m e';refine⟨?_,ws,k2 _ _ h1 (ner rw' rS (by intro z;cases z)) n2,Paired.vf p1 λ_ _=>joi.fr f2⟩;unfold jrj;rw[if_neg n3,if_neg n1];exact rw'
   have ev:Y1.put h o=({Y1 with bd:=jeo Y1.bd (x9 o) h},decide (((jz Y1.bd (x9 o)).length:Int)+1=Y1.en)):=by unfold Wd.put;rw[if_neg hm]
   refine⟨_,rfl,jhz (λz=>?_) (λz=>?_)⟩
   .have zp:=z1.put h o;rw[ev]at zp;have hq2:xi H2 (jrj Z1 id kvs kvs') (.ref q) o:=xi.fr f2 ⟨q,rfl,nq,hq⟩;refine⟨_,rfl,W.x,W.dx,_,rfl,O2.ob.1,xw,_,rfl,_,id,W,_,false,q,o,rfl,O2,kr2,hq2,by show Y1.way.length<=100000;have:=z1.wy;omega,zp.ks,λH3 O3 f3 kr3=>⟨_,_,rfl,?_,(f1.trans f2).trans (f3.mono λr hr=>.inl hr),kr3⟩⟩;have e:Y1.jj4 h o=Wd.post {Y1 with bd:=jeo Y1.bd (x9 o) h} false o:=by
     unfold Wd.jj4;rw[ev,if_pos z]
    rw[e];exact O3
   .refine⟨_,_,rfl,?_,f1.trans f2,kr2⟩;have e:Y1.jj4 h o={Y1 with bd:=jeo Y1.bd (x9 o) h}:=by
     unfold Wd.jj4;rw[ev,if_neg z]
    rw[e];exact O2
 .rintro U H1 ⟨v,Z1,rfl,O1,f1,kr1⟩
  rw[lx,take_length]at O1;exact k Z1 H1 O1 f1 kr1
theorem jpg (ks:List (Int×Kp))(h:Int)(B:Kp):(jnq ks h B).length=ks.length:=length_map ..
theorem juu {t:Ad}{H:Hp}{Z:Rho}{id:Nat}{h:Int}{B:Kp}:∀{kvs:List (Key×V)}{ks:List (Int×Kp)},yl t H Z id kvs ks->(ks.find? λc=>decide (c.1=h)).map (·.2)=some B->∃k A dk,jc2 kvs (.inl h)=some (.ref k)/\xq t H Z id h k A dk B:=λ{kvs ks} q e=>by
 unfold yl at q;induction q with
 |nil=>cases e
 |@cons kv c kvs ks a r ih=>
  obtain⟨e1,k,A,dk,e2,R⟩:=a;by_cases z:c.1=h
  .rw[find?_cons,decide_eq_true z]at e;obtain rfl:c.2=B:=Option.some.inj e;subst z;exact⟨k,A,dk,by rw[jax (by rw[e1]),e2],R⟩
  .rw[find?_cons,decide_eq_false z]at e;obtain⟨k',A',dk',v,R'⟩:=ih e;exact⟨k',A',dk',by rw[jbe (λy=>z (Sum.inl.inj (e1.symm.trans y)))];exact v,R'⟩
theorem jy3 {t:Ad}{H H':Hp}{Z Z':Rho}{id:Nat}{h:Int}{κ':Kp}{k:Addr}{A':Nat->Addr}{dk:Addr}(f:Fr (isK id h) Z H Z' H')(R':xq t H' Z' id h k A' dk κ'):∀{kvs:List (Key×V)}{ks:List (Int×Kp)},(ks.map (·.1)).Nodup->jc2 kvs (.inl h)=some (.ref k)->yl t H Z id kvs ks->yl t H' Z' id kvs (jnq ks h κ'):=λ{kvs ks} nd ev q=>by
 unfold yl at q;induction q with
 |nil=>exact .nil
 | @cons kv c kvs ks a r ih=>
  obtain⟨e1,k0,A,dk0,e2,R⟩:=a;rw[map_cons,nodup_cons]at nd;show Paired _ (kv::kvs) ((if c.1=h then(h,κ')else c)::jnq ks h κ');have oth:∀{kvs:List (Key×V)}{ks:List (Int×Kp)},h∉ks.map (·.1)->yl t H Z id kvs ks->yl t H' Z' id kvs (jnq ks h κ'):=λ{kvs ks} nh q=>by
   induction q with
   |nil=>exact .nil
   |cons a _ ih=>rename_i b _ _ _;rw[map_cons,mem_cons]at nh;obtain⟨x1,x2,x3,x4,x5,x6⟩:=a;have nb:¬b.1=h:=λz=>nh (.inl z.symm);show Paired _ (_::_) ((if b.1=h then(h,κ')else b)::jnq _ h κ');rw[if_neg nb];exact .cons ⟨x1,x2,x3,x4,x5,x6.fr (λi ⟨j,e⟩=>nb (by cases e;rfl)) f⟩ (ih λz=>nh (.inr z))
  by_cases z:c.1=h
  .subst z;rw[if_pos rfl];rw[jax (by rw[e1])]at ev;exact .cons ⟨e1,k,A',dk,Option.some.inj ev,R'⟩ (oth nd.1 r)
  .rw[if_neg z];refine .cons ⟨e1,k0,A,dk0,e2,R.fr (λi ⟨j,e⟩=>z (by cases e;rfl)) f⟩ (ih nd.2 ?_);rw[jbe (λy=>z (Sum.inl.inj (e1.symm.trans y)))]at ev;exact ev
theorem qu.j27 {t:Ad}{H H':Hp}{Z Z':Rho}{id:Nat}{W:WA}{Y:Wd}{h:Int}{κ':Kp}{k:Addr}{A':Nat->Addr}{dk:Addr}(f:Fr (isK id h) Z H Z' H')(O:qu t H Z id W Y)(nd:(Y.ks.map (·.1)).Nodup)(ek:∀kvs,H W.kd=some (.dK kvs)->jc2 kvs (.inl h)=some (.ref k))(R':xq t H' Z' id h k A' dk κ'):qu t H' Z' id W {Y with ks:=jnq Y.ks h κ'}:=by have no:∀{p:Part},(∀i,p≠.kp h i)->¬isK id h (id,p):=λhp ⟨i,e⟩=>hp i (Prod.mk.inj e).2;refine O.but f _ (no λ_ z=>by cases z) rfl rfl (λrk hk=>?_) (jcw f (no λ_ z=>by cases z) (no λ_ z=>by cases z) (no λ_ z=>by cases z)) (jha f (no λ_ z=>by cases z) λ_=>no λ_ z=>by cases z) (jv8 f (no λ_ z=>by cases z));obtain⟨kvs,h1,q⟩:=hk;obtain⟨h2,r2⟩:=jch f h1 rk (no λ_ z=>by cases z);exact⟨r2,kvs,h2,jy3 f R' nd (ek kvs h1) q⟩
theorem je3 (T:Txt K mg t):xj P w K mg base CX0 2 t.jbk t.jbq ["self","house"] (λvs H Q _=>∃Z id W Y h B,vs=[.ref W.x,.int h]/\qu t H Z id W Y/\Y.keep h=some B/\∀k A dk,xq t H Z id h k A dk B->Q (.ref k) H):=by
 refine T.jf9.okB (N:=["self","house"]) λ_ A _ s H vs Q E hr h=>?_;obtain⟨Z,id,W,Y,h,B,rfl,O,e,g⟩:=h;refine⟨_,(@jb _ _ _ _ _ (qv (PW.pt (jhx (qz (qr (jm (jle T) hr.dn rfl T.jjt T.jf4.kp T.jjr .nil jo (jc (pv 1) jg)))) (jb4 (jp0 (jrg (jic hr) (pv 1) (j5 (pv 0) rfl)))))) qf j4) (@jd _ _ _ (jx (jzd (jic hr) (j5 (pv 0) rfl) (pv 1) (λ_ _=>rfl))))),?_⟩;obtain⟨rk,kvs,hk,ks⟩:=O.kd;obtain⟨k,A',dk,ev,R⟩:=juu ks e;refine⟨_,rfl,h,rfl,_,rfl,yq ?_⟩;refine⟨_,rfl,_,rfl,W.x,_,W.dx,_,_,rfl,O.ob.1,T.jl,T.zm,jeh,W.kd,some (.ref k),rfl,.inl ⟨kvs,.inl h,.inl hk,rfl,ev.symm⟩,_,rfl,yq ?_⟩;exact⟨_,rfl,W.x,_,W.dx,_,_,rfl,O.ob.1,T.jl,T.zm,jeh,_,rfl,W.kd,.ref k,rfl,.inl ⟨kvs,.inl h,.inl hk,rfl,ev.symm⟩,g k A' dk R⟩
theorem jcz (T:Txt K mg t):xj P w K mg base CX0 3 t.uy t.um ["self","purse"] (λvs H Q _=>∃Z id W Y p,vs=[.ref W.x,.int p]/\qu t H Z id W Y/\0<=p/\p<(Y.n:Int)/\Q .non H):=by refine T.jed.okB (N:=["self","purse"]) λ_ A _ s H vs Q E hr h=>?_;obtain⟨Z,id,W,Y,p,rfl,O,p0,p1,g⟩:=h;refine⟨_,(@jd _ _ _ (qv (qz (qr (jm (ql T) hr.dn rfl T.qo T.qj.kp T.qp .nil jo (@jlv _ _ _ _ _ _ _ (pv 1) jk (qy jek (j5 (pv 0) rfl) jk) rfl rfl rfl)))) qf j4)),?_⟩;refine⟨_,rfl,_,rfl,W.x,_,W.dx,_,_,rfl,O.ob.1,T.jl,T.wj,jnt,_,_,rfl,rfl,p,0,(Y.n:Int)-1,rfl,_,rfl,?_⟩;rw[decide_eq_true (show 0<=p/\p<=(Y.n:Int)-1 from⟨p0,by omega⟩)];exact yq g
theorem jjw (T:Txt K mg t):xj P w K mg base (CX2 P w) 4 t.uf t.ui ["self","purse","goal"] (λvs H Q E=>∃Z id W Y p q,vs=[.ref W.x,.int p,.int q]/\qu t H Z id W Y/\(0<=p/\p<(Y.n:Int))/\(0<=q/\q<(Y.n:Int))/\q≠p/\(p∈Y.ki->∀d H',vq H H'->E (.ref t.xk) (some d) H')/\(p∉Y.ki->Q .non H)):=by
 refine T.jdt.qa4 (N:=["self","purse","goal"]) λ_ A _ s H vs Q E hr h=>?_;obtain⟨Z,id,W,Y,p,q,rfl,O,hp,hq,nq,gx,g⟩:=h;refine⟨_,(@jb _ _ _ _ _ (qk (qi (pv 0) T.jl T.gy (jcz T) hr.dn T.jaa .nil jo (jc (pv 1) jg))) (@jb _ _ _ _ _ (qk (qi (pv 0) T.jl T.gy (jcz T) hr.dn T.jaa .nil jo (jc (pv 2) jg))) (@jd _ _ _ (qv (PW.pt (jhx (jv jq5 (pv 1) (j5 (pv 0) rfl) (by with_unfolding_all rfl)) (jb4 (jv jen (pv 2) (pv 1) (qc _))))) (@jd _ _ _ (jz8 rfl T.jqg T.jkw (jlp T) hr.dn T.jez (jc (pv 1) jg))) j4)))),?_⟩;refine⟨_,rfl,W.x,W.dx,_,rfl,O.ob.1,xw,_,rfl,Z,id,W,Y,p,rfl,O,hp.1,hp.2,?_⟩;refine⟨_,rfl,W.x,W.dx,_,rfl,O.ob.1,xw,_,rfl,Z,id,W,Y,q,rfl,O,hq.1,hq.2,?_⟩;refine⟨_,rfl,_,rfl,W.x,_,W.dx,_,_,rfl,O.ob.1,T.jl,T.yf,ji3,W.ch,_,rfl,.inl (SqL.of O.ch.1),rfl,jcc _,_,rfl,?_⟩;refine jhz (λz=>?_) (λz=>?_)
 .rw[if_neg (by decide),gc]at z;refine jhy ⟨_,rfl,zs1,λea hea=>⟨ea,_,rfl,ja,λd hd=>?_⟩⟩;obtain⟨g1,g2,g3,g4⟩:=j9c (Yq:=jpm ea t.xk d) (Zq:=.xd [("purse",.int p)]) hea hd;exact⟨rfl,d,g2,gx (of_decide_eq_true z) d _ g3⟩
 .rw[if_neg (by decide),gc]at z;refine⟨_,rfl,_,rfl,rfl,_,rfl,jhz (λy=>?_) (λ_=>g λy=>z (decide_eq_true y))⟩;exact absurd (V.int.inj (of_decide_eq_true y)) nq
theorem ka (T:Txt K mg t):xj P w K mg base CX0 5 t.uu t.uw ["self","order"] (λvs H Q _=>∃Z id W Y q o,vs=[.ref W.x,.ref q]/\qu t H Z id W Y/\H q=some (.tup (jna o))/\ye Y.n o=true/\Q .non H):=by refine T.jd6.okB (N:=["self","order"]) λ_ A _ s H vs Q E hr h=>?_;obtain⟨Z,id,W,Y,q,o,rfl,O,hq,ho,g⟩:=h;refine⟨_,(@jd _ _ _ (qv (qz (qr (jde (jhg T) hr.dn rfl T.jf7 T.jdh.kp T.jew jo (jc (pv 1) jg) (yt (j5 (pv 0) rfl) jjb)))) qf j4)),?_⟩;refine⟨_,rfl,_,rfl,W.x,_,W.dx,_,_,rfl,O.ob.1,T.jl,T.wj,jnt,q,o,(Y.n:Int),rfl,hq,_,rfl,?_⟩;rw[ho];exact yq g
theorem ja4 (T:Txt K mg t):xj P w K mg base CX0 3 t.jfr t.jfd ["self"] (λvs H Q _=>∃Z id W Y,vs=[.ref W.x]/\qu t H Z id W Y/\Y.bd.length<64/\(Y.bd.map (·.1)).Nodup/\(∀x∈Y.bd,x.1≠[])/\∀(r:Addr)(vs':List V)(ts':List (List Int))(H':Hp),H r=none->vq H H'->ts'.Perm (xo Y.bd Y.en)->Paired (jyx H') vs' ts'->H' r=some (.lst vs')->Q (.ref r) H'):=by
 refine T.jj9.okB (N:=["self"]) λ_ A _ s H vs Q E hr h=>?_;obtain⟨Z,id,W,Y,rfl,O,l,nd,ne,g⟩:=h;refine⟨_,(@jd _ _ _ (jx (zy (j5 (pv 0) rfl) T.xp T.jht (jo3 T) hr.dn T.jif .nil jo))),?_⟩;obtain⟨rb,rS,kvs,Bq,sg⟩:=O.bd;have lk:kvs.length<64:=by rw[Paired.length Bq.hs,thP,length_map];exact l
 exact⟨_,rfl,W.x,_,W.dx,_,_,rfl,O.ob.1,T.jl,T.xa,jf1,W.bd,W.db,_,rfl,Bq.ob,jqn _ _ (by decide+kernel) (by decide+kernel),W.bd,W.db,W.S,Y.en,kvs,Y.bd,rfl,Bq,lk,nd,ne,g⟩
theorem jrl (T:Txt K mg t):xj P w K mg base CX0 6 t.jg3 t.jgp ["self","order","house"] (λvs H Q _=>∃Z id W Y q o h B,vs=[.ref W.x,.ref q,.int h]/\qu t H Z id W Y/\OkR Z H/\xi H Z (.ref q) o/\ye Y.n o=true/\o.p∈Y.ki/\Y.keep h=some B/\Y.way.length<=100000/\∀H',qu t H' Z id W {Y with way:=Y.way++[(true,h,o)]}->Fr (isP id .wy) Z H Z H'->OkR Z H'->Q .non H'):=by
 refine T.jl9.okB (N:=["self","order","house"]) λ_ A _ s H vs Q E hr h=>?_;obtain⟨Z,id,W,Y,q,o,h,B,rfl,O,kr,uq,ho,oc,ek,l,g⟩:=h;refine⟨_,(@jb _ _ _ _ _ (qk (qi (pv 0) T.jl T.yc (ka T) hr.dn T.yw .nil jo (jc (pv 1) jg))) (@jb _ _ _ _ _ (qv (jv je7 (ya jdm (pv 1) jk (λ_ _=>rfl)) (j5 (pv 0) rfl) (by with_unfolding_all rfl)) qf j4) (@jb _ _ _ _ _ (qk (qi (pv 0) T.jl T.jar (je3 T) hr.dn T.jbl .nil jo (jc (pv 2) jg))) (@jd _ _ _ (qk (jjx PySem.F.plainAttrs_list PySem.F.slot_list_append PySem.F.type_list_append wz (j5 (pv 0) rfl) (jc (@jgb _ _ _ _ _ (@jlv _ _ _ _ _ _ _ (ze (v:=.str "order") rfl T.jbv.choose_spec ⟨_,rfl⟩) (pv 2) (pv 1) rfl rfl rfl)) jg))))))),?_⟩;have uq':=uq;obtain⟨_,eq,nq,hq⟩:=uq';cases eq;refine⟨_,rfl,W.x,W.dx,_,rfl,O.ob.1,xw,_,rfl,Z,id,W,Y,q,o,rfl,O,hq,ho,?_⟩;refine⟨_,rfl,q,jna o,0,.int o.p,rfl,rfl,SqT.of hq,rfl,_,rfl,W.x,_,W.dx,_,_,rfl,O.ob.1,T.jl,T.yf,ji3,W.ch,_,rfl,.inl (SqL.of O.ch.1),rfl,jcc _,_,rfl,?_⟩;rw[if_pos rfl,gc,decide_eq_true oc];refine yq ?_;refine⟨_,rfl,W.x,W.dx,_,rfl,O.ob.1,xw,_,rfl,Z,id,W,Y,h,B,rfl,O,ek,λk A' dk R=>?_⟩;obtain⟨rw_,xs,hw,pw⟩:=O.wy;refine⟨_,rfl,W.x,_,W.dx,_,_,rfl,O.ob.1,T.jl,T.zh,jdg,.inl ⟨rfl,_,SqL.of hw⟩,_,rfl,_,rfl,zs3,λp np=>?_⟩;have sp:=jf (o:=.tup [.str "order",.int h,.ref q]) np;have lx:xs.length<=1000000:=by rw[Paired.length pw];omega
 refine⟨W.wy,xs,.ref p,rfl,rfl,sp _ _ hw,big lx,?_⟩;have O1:=O.fr (P:=λ_=>False) (λ_ z=>z) (Fr.same sp);have kr1:=kr.same sp;have f2:Fr (isP id .wy) Z (upd H p (.tup [.str "order",.int h,.ref q])) Z (upd (upd H p (.tup [.str "order",.int h,.ref q])) W.wy (.lst (xs++[.ref p]))):=Fr.put rw_ rfl;have f0:Fr (isP id .wy) Z H Z (upd H p (.tup [.str "order",.int h,.ref q])):=Fr.same sp;refine g _ (O1.but f2 _ j3 rfl rfl (jay f2 j3 (λ_ _=>j3)) (jcw f2 j3 j3 j3) (jha f2 j3 (λ_=>j3)) (λ_ _=>⟨rw_,_,ja,?_⟩)) (f0.trans f2) kr1.put;have np0:=kr.none np;refine qq (Paired.vf pw λ_ _=>joi.fr (f0.trans f2)) ⟨p,q,rfl,np0,?_,uq.fr (f0.trans f2)⟩;rw[je (neu np0 rw_),ja];rfl
theorem jo1 {α β:Type}{F:α->β->Prop}{xs:List α}{ys:List β}{j:Nat}(h:Paired F xs ys):Paired F (xs.eraseIdx j) (ys.eraseIdx j):=jd1 h
structure KSz (B:Kp)(m:Nat):Prop where
 hd:B.jf5.length<=m
 uc:B.unv.length+B.cho.length<=m
 dw:B.done.length+B.wait.length<=m
theorem jst (T:Txt K mg t):xj P w K mg base CX0 8 t.jiw t.ji5 ["self","at"] (λvs H Q _=>∃Z id W Y i l B a b c,vs=[.ref W.x,.int (i:Nat)]/\qu t H Z id W Y/\OkR Z H/\Y.way[i]?=some l/\Y.keep l.2.1=some B/\(Y.ks.map (·.1)).Nodup/\B.Ok Y.n/\Y.n<=8/\ye Y.n l.2.2=true/\KSz B 900/\Sz Y a b c/\a+(B.take l.1 l.2.2).2.length<=1000/\b+(B.take l.1 l.2.2).2.length<=1000/\c+16*(B.take l.1 l.2.2).2.length<=100000/\∀Z' H' x,qu t H' Z' id W (Y.jze i l B)->Fr (λr=>r.1=id) Z H Z' H'->OkR Z' H'->joi H' Z' x l->Q x H'):=by
 refine T.jog.okA gf λ_ A _ s H vs Q E hr h=>?_;obtain⟨Z,id,W,Y,i,l,B,a,b,c,rfl,O,kr,el,ek,nd,hok,n8,ho,ksz,sz,la,lb,lc,g⟩:=h;refine⟨_,(@jb _ _ _ _ _ (qv (qz (qr (jm (ql T) hr.dn rfl T.qo T.qj.kp T.qp .nil jo (@jlv _ _ _ _ _ _ _ (pv 1) jk (qy jek (jn jr rfl T.jbd boot_len (jc (j5 (pv 0) rfl) jg)) jk) rfl rfl rfl)))) qf j4) (@jb _ _ _ _ _ (j6 (i:=2) gf.nd rfl (Or.inl rfl) (jjx PySem.F.plainAttrs_list PySem.F.slot_list_pop PySem.F.type_list_pop jxa (j5 (pv 0) rfl) (jc (pv 1) jg))) (@jb _ _ _ _ _ (jhk (pv 2) (jkl rfl (jy (ju (i:=3) gf.nd rfl (Or.inl rfl)) (jy (ju (i:=4) gf.nd rfl (Or.inl rfl)) (jy (ju (i:=5) gf.nd rfl (Or.inl rfl)) jfo))))) (@jb _ _ _ _ _ (j6 (i:=6) gf.nd rfl (Or.inl rfl) (jzd (jic hr) (j5 (pv 0) rfl) (pv 4) (λ_ _=>rfl))) (@jb _ _ _ _ _ (qv (jv jen (pv 3) (ze (v:=.str "order") rfl T.jbv.choose_spec ⟨_,rfl⟩) (qc _)) (@jd _ _ _ (qk (qi (pv 0) T.jl T.vz (jas T) hr.dn T.gp .nil jo (@yk _ _ _ _ _ (pv 4) (qi (pv 6) T.jq T.jj8 (jrn T) hr.dn T.jmv .nil jo (jc (pv 5) jg)) rfl rfl)))) (@jd _ _ _ (qk (qi (pv 0) T.jl T.vz (jas T) hr.dn T.gp .nil jo (@yk _ _ _ _ _ (pv 4) (qi (pv 6) T.jq T.jc0 (jjz T) hr.dn T.jdi .nil jo (jc (pv 5) jg)) rfl rfl))))) (@jd _ _ _ (jx (pv 2)))))))),?_⟩;obtain⟨rw_,xs,hw,pw⟩:=O.wy;have lx:xs.length=Y.way.length:=Paired.length pw;have hi:=(List.getElem?_eq_some_iff.mp el).1;have wl:=sz.wy;refine⟨_,rfl,_,rfl,W.x,_,W.dx,_,_,rfl,O.ob.1,T.jl,T.zh,jdg,W.wy,xs,rfl,.inl (SqL.of hw),_,_,rfl,rfl,(i:Int),0,(xs.length:Int)-1,rfl,_,rfl,?_⟩;rw[decide_eq_true (show 0<=(i:Int)/\(i:Int)<=(xs.length:Int)-1 by omega)];refine yq ?_;obtain⟨x,ex,ux⟩:=jg9 pw el;refine⟨_,rfl,W.x,_,W.dx,_,_,rfl,O.ob.1,T.jl,T.zh,jdg,.inl ⟨rfl,_,SqL.of hw⟩,_,rfl,W.wy,xs,(i:Int),i,x,rfl,rfl,hw,by omega,by omega,?_,ex,?_⟩
 .unfold seqIndex?;simp;omega
 have f1:Fr (isP id .wy) Z H Z (upd H W.wy (.lst (xs.eraseIdx i))):=Fr.put rw_ rfl;have O1:qu t (upd H W.wy (.lst (xs.eraseIdx i))) Z id W {Y with way:=Y.way.eraseIdx i}:=O.but f1 _ j3 rfl rfl (jay f1 j3 (λ_ _=>j3)) (jcw f1 j3 j3 j3) (jha f1 j3 (λ_=>j3)) (λ_ _=>⟨rw_,_,ja,jo1 (Paired.vf pw λ_ _=>joi.fr f1)⟩);have kr1:=kr.put (a:=W.wy) (o:=.lst (xs.eraseIdx i));have ux1:=ux.fr f1;generalize upd H W.wy (.lst (xs.eraseIdx i))=H1 at f1 O1 kr1 ux1;obtain⟨la',q,rfl,nl,hl,uq⟩:=ux1;refine⟨_,rfl,la',_,rfl,SqT.of hl,rfl,_,_,rfl,_,_,rfl,_,_,rfl,rfl,?_⟩;obtain⟨rk,kvs,hk,ks⟩:=O1.kd;obtain⟨k,A',dk,ev,R⟩:=juu ks ek;refine⟨_,rfl,W.x,_,W.dx,_,_,rfl,O1.ob.1,T.jl,T.zm,jeh,_,rfl,W.kd,.ref k,rfl,.inl ⟨kvs,.inl l.2.1,.inl hk,rfl,ev.symm⟩,?_⟩;obtain⟨wb,h,o⟩:=l;cases wb with
 |true=>
  refine⟨_,rfl,rfl,_,rfl,jhy ?_⟩;refine⟨_,rfl,W.x,W.dx,_,rfl,O1.ob.1,xw,_,rfl,_,rfl,k,dk,_,rfl,R.ob,jd5 A',_,rfl,Z,id,h,k,A',dk,B,Y.n,q,o,rfl,R,uq,hok,n8,ho,ksz.hd,ksz.uc,ksz.dw,kr1,λZ2 H2 A2 r ys R2 f2 kr2 rr hr2 pr=>?_⟩;have O2:=O1.j27 f2 nd (λkvs' hk'=>by rw[hk]at hk';cases hk';exact ev) R2;have z2:Sz {{Y with way:=Y.way.eraseIdx i}with ks:=jnq Y.ks h (Kp.j5n B o).1} a b c:=⟨sz.bd,sz.hs,le_trans (length_eraseIdx_le _ _) sz.wy,by show(jnq _ _ _).length<=16;rw[jpg];exact sz.ks⟩;refine⟨Z2,id,W,_,h,r,ys,(Kp.j5n B o).2,a,b,c,rfl,O2,kr2,hr2,λro e=>?_,pr,z2,la,lb,lc,λZ3 H3 O3 f3 kr3=>?_⟩
  .rw[rr]at e;cases e;exact jwh (by intro z;cases z) (by intro z;cases z) (by intro z;cases z)
  .have fr:Fr (λr=>r.1=id) Z H Z3 H3:=((f1.mono λr hr=>by rw[hr]).trans (f2.mono λr ⟨j,hr⟩=>by rw[hr])).trans (f3.mono λr hr=>by rcases hr with hr|hr|hr<;>rw[hr]);exact⟨_,rfl,g Z3 H3 _ O3 fr kr3 (joi.fr fr ux)⟩
 |false=>
  refine⟨_,rfl,rfl,_,rfl,yq ?_⟩;refine⟨_,rfl,W.x,W.dx,_,rfl,O1.ob.1,xw,_,rfl,_,rfl,k,dk,_,rfl,R.ob,jd5 A',_,rfl,Z,id,h,k,A',dk,B,Y.n,q,o,rfl,R,uq,hok,n8,ho,ksz.hd,ksz.uc,ksz.dw,kr1,λZ2 H2 A2 r ys R2 f2 kr2 rr hr2 pr=>?_⟩;have O2:=O1.j27 f2 nd (λkvs' hk'=>by rw[hk]at hk';cases hk';exact ev) R2;have z2:Sz {{Y with way:=Y.way.eraseIdx i}with ks:=jnq Y.ks h (Kp.jqq B o).1} a b c:=⟨sz.bd,sz.hs,le_trans (length_eraseIdx_le _ _) sz.wy,by show(jnq _ _ _).length<=16;rw[jpg];exact sz.ks⟩;refine⟨Z2,id,W,_,h,r,ys,(Kp.jqq B o).2,a,b,c,rfl,O2,kr2,hr2,λro e=>?_,pr,z2,la,lb,lc,λZ3 H3 O3 f3 kr3=>?_⟩
  .rw[rr]at e;cases e;exact jwh (by intro z;cases z) (by intro z;cases z) (by intro z;cases z)
  .have fr:Fr (λr=>r.1=id) Z H Z3 H3:=((f1.mono λr hr=>by rw[hr]).trans (f2.mono λr ⟨j,hr⟩=>by rw[hr])).trans (f3.mono λr hr=>by rcases hr with hr|hr|hr<;>rw[hr]);exact⟨_,rfl,g Z3 H3 _ O3 fr kr3 (joi.fr fr ux)⟩
noncomputable def Kp.jr3 (B:Kp)(p:Int)(os:List O):Int:=gI B.held p-((os.filter λo=>!B.past o).map λo=>o.m).sum
theorem jnp (T:Txt K mg t):xj P w K mg base CX0 2 t.jci t.jcv ["self","purse","orders"] (λvs H Q _=>∃Z id h k A dk B n p r xs os,vs=[.ref k,.int p,.ref r]/\xq t H Z id h k A dk B/\B.Ok n/\0<=p/\p<(n:Int)/\H r=some (.lst xs)/\Paired (xi H Z) xs os/\(∀o∈os,ye (n:Nat) o=true)/\os.length<=1000/\∀H',vq H H'->Q (.int (B.jr3 p os)) H'):=by
 refine T.jhm.okB (N:=["self","purse","orders"]) λ_ A _ s H vs Q E hr h=>?_;obtain⟨Z,id,h,k,A',dk,B,n,p,r,xs,os,rfl,R,hok,p0,p1,hx,px,ho,ll,g⟩:=h;refine⟨_,(@jd _ _ _ (jx (qy jek (ya yp (j5 (pv 0) rfl) (pv 1) (λ_ _=>rfl)) (jn (jmn rfl) rfl T.jyt boot_sum (jc (gk (N':=["order","self"]) (ix:=[none,some 0]) (xm (by kernel_rfl)) rfl (@jck _ _ _ _ (pv 2)) (λ_ _ _ _=>(ju (i:=0) qai rfl (Or.inl rfl) (.inr rfl))) (λ_ _ _ _=>(jg8 (qz (qr (qi (pv 1) T.jq T.gh (jee T) hr.dn T.jbz .nil jo (jc (pv 0) jg)))))) (λ_ _ _ _=>(ya (jir (K:=K) rfl) (pv 0) jk (λ_ _=>rfl)))) jg))))),?_⟩;have e:=juz (xs:=B.held) p0 (by rw[hok.h];exact p1);refine⟨_,rfl,k,_,dk,_,_,rfl,R.ob,T.jq,T.vn,(yi A').1,_,rfl,A' 1,_,p,.int (gI B.held p),rfl,rfl,SqL.of R.he,jef p0 (by rw[getElem?_map,e];rfl),?_⟩;refine⟨_,rfl,r,rfl,⟨_,SqL.of hx⟩,jqh (K:=K) (a:=r) (xs:=xs) (λi ys U H'=>∃v,U=[v,some (.ref k)]/\H'=H/\ys=(((os.take i).filter λo=>!B.past o).map λo=>o.m).map V.int) ⟨none,rfl,rfl,rfl⟩ ?_ ?_ ?_⟩
 .rintro i ys U H' hi ⟨v,rfl,rfl,rfl⟩
  refine⟨SqL.of hx,jng ?_⟩;rw[length_map,length_map];refine le_trans (length_filter_le _ _) ?_;rw[length_take];omega
 .rintro i x ys U H' ex ⟨v,rfl,rfl,rfl⟩
  obtain⟨o,eo,uo⟩:=qg px ex;obtain⟨q,rfl,hq⟩:=uo.ref;have om:o∈os:=mem_of_getElem? eo;refine⟨_,rfl,k,dk,_,rfl,R.ob,jd5 A',_,rfl,Z,id,h,k,A',dk,B,n,q,o,rfl,R,hq,ho o om,hok.x,_,rfl,?_⟩;rw[take_snoc eo,filter_append,map_append,map_append];cases hp:B.past o with
  |true=>refine yq ⟨_,rfl,rfl,?_⟩;simp[hp]
  |false=>refine jhy ⟨_,rfl,q,jna o,3,.int o.m,rfl,rfl,SqT.of hq,rfl,_,rfl,rfl,?_⟩;simp[hp]
 .rintro ys U H' ⟨v,rfl,rfl,rfl⟩ l nl
  rw[Paired.length px,take_length];refine⟨l,_,rfl,SqL.of ja,_,_,rfl,rfl,g _ (jf nl)⟩
noncomputable def Wd.carried (Y:Wd)(o:O):Bool:=decide (Y.en<=((jz Y.bd (x9 o)).length:Int))
theorem j6p {ns:List Int}{M:Int}(h1:M∈ns)(h2:∀a∈ns,a<=M):ns.max?=some M:=List.max?_eq_some_iff.mpr ⟨h1,h2⟩
noncomputable def Wd.asks (Y:Wd)(o:O)(row:List O):Wd:=Wd.post {Y with asked:=Y.asked.set o.p.toNat (row++[o])} true o
theorem j8v {a:Addr}{o:Obj}{kvs:List (Key×V)}{g:TG}{ti:TT}{te:TE}{U0:St}{H0:Hp}{Q:VK}(Pv:Nat->List V->St->Hp->Prop)(h0:Pv 0 [] U0 H0)(hl:∀i ys U H,i<=kvs.length->Pv i ys U H->H a=some (.frz o (.dK kvs))/\ys.length<=sizeLine)(hs:∀i kv ys U H,kvs[i]?=some kv->Pv i ys U H->g kv.2 U H λU2 H2=>ti U2 H2 λc H3=>if c=true then te U2 H3 λy H4=>Pv (i+1) (ys++[y]) U2 H4 else Pv (i+1) ys U2 H3)(hd:∀ys U H,Pv kvs.length ys U H->∀p,H p=none->Q (.ref p) (upd H p (.lst ys))):∃W:Nat->Nat->List V->St->Hp->Prop,(∃m,W 0 m [] U0 H0)/\∀i m ys U H,W i m ys U H->ys.length<=sizeLine/\(((Itv a o kvs).stop i H/\jx3 Q ys H)\/((Itv a o kvs).go i H/\∃N:List V->St->Hp->Prop,(∀ys' U' H',N ys' U' H'->∃m',m'<m/\W (i+1) m' ys' U' H')/\∀x H',(Itv a o kvs).yld i H x H'->g x U H' λU2 H2=>ti U2 H2 λb H3=>if b=true then te U2 H3 λy H4=>N (ys++[y]) U2 H4 else N ys U2 H3)):=by
 refine⟨λi m ys U H=>m=kvs.length-i/\i<=kvs.length/\Pv i ys U H,⟨kvs.length,by simp,zero_le _,h0⟩,?_⟩
 rintro i m ys U H ⟨rfl,hi,p⟩
 obtain⟨q,hz⟩:=hl i ys U H hi p;refine⟨hz,?_⟩;by_cases hlt:i<kvs.length
 .refine .inr ⟨⟨hlt,q⟩,Pv (i+1),λys' U' H' p'=>⟨kvs.length-(i+1),by omega,rfl,hlt,p'⟩,λx H' y=>?_⟩;obtain⟨e,kv,ek,ex⟩:=y;subst e ex;exact hs i kv ys U _ ek p
 .have e:i=kvs.length:=by omega
  subst e;exact .inl ⟨⟨le_refl _,q⟩,hd ys U H p⟩
theorem j3v {H:Hp}{Z:Rho}{xs:List V}{os:List O}{o:O}(p:Paired (xi H Z) xs os)(e:os.getLast?=some o):∃x,atI xs (-1)=some x/\xi H Z x o:=by rw[List.getLast?_eq_getElem?]at e;obtain⟨x,ex,u⟩:=jg9 p e;have l:=Paired.length p;have lt:=(List.getElem?_eq_some_iff.mp e).1;refine⟨x,?_,u⟩;unfold atI ixN;rw[if_neg (by decide),if_pos (by omega)];show xs[(-1+(xs.length:Int)).toNat]?=some x;rw[show(-1+(xs.length:Int)).toNat=os.length-1 by omega];exact ex
structure Wd.Ok (Y:Wd):Prop where
 n8:Y.n<=8
 al:Y.asked.length=Y.n
 ao:∀row∈Y.asked,(∀o∈row,ye Y.n o=true)
 ks:∀c∈Y.ks,c.2.Ok Y.n
 nd:(Y.ks.map (·.1)).Nodup
 k0:0<Y.ks.length
 k1:Y.ks.length<=16
noncomputable def j6h (t:Ad):Sp:=λvs H Q E=>∃Z id W Y p g m row,vs=[.ref W.x,.int p,.int g,.int m]/\qu t H Z id W Y/\OkR Z H/\Y.Ok/\(0<=p/\p<(Y.n:Int))/\(0<=g/\g<(Y.n:Int))/\g≠p/\(1<=m/\m<=1000)/\Y.asked[p.toNat]?=some row/\row.length<=90/\Y.way.length<=90000/\(p∈Y.ki->∀d H',vq H H'->E (.ref t.xk) (some d) H')/\(∀o,row.getLast?=some o->Y.carried o=false->∀H',vq H H'->E (.ref t.jbc) none H')/\((∀o,row.getLast?=some o->Y.carried o=true)->∀M,(Y.ks.map λc=>c.2.jr3 p row).max?=some M->(M<m->∀H',vq H H'->E (.ref t.wu) none H')/\(m<=M->p∉Y.ki->∀H' q,qu t H' Z id W (Y.asks ⟨p,row.length,g,m⟩ row)->Fr (λr=>r.1=id) Z H Z H'->OkR Z H'->xi H' Z (.ref q) ⟨p,row.length,g,m⟩->Q (.ref q) H'))
set_option maxHeartbeats 0 in
theorem jot (T:Txt K mg t) : xj P w K mg base (CX2 P w) 6 t.jlq t.jk2 ["self","purse","goal","much"] (j6h t):=by
 refine T.jpl.qay jix λ_ A _ s H vs Q E hr h=>?_
 obtain ⟨Z,id,W,Y,p,g,m,row,rfl,O,kr,hok,hp,hg,ng,hm,erow,lrow,lway,e0,e1,e2⟩:=h
 refine ⟨_,(@jb _ _ _ _ _ (qk (qi (pv 0) T.jl T.jc3 (jjw T) hr.dn T.jdr .nil j8u (@yk _ _ _ _ _ (pv 1) (pv 2) rfl rfl)))
  (@jb _ _ _ _ _ (qv (qz (qr (jm (ql T) hr.dn rfl T.qo T.qj.kp T.qp .nil jo (@jlv _ _ _ _ _ _ _ (pv 3) jk (ze (v:=.int 1000) rfl T.jg7.choose_spec ⟨_,rfl⟩) rfl rfl rfl)))) qf j4)
  (@jb _ _ _ _ _ (j6 (i:=4) jix.nd rfl (Or.inr rfl) (ya yp (j5 (pv 0) rfl) (pv 1) (λ_ _=>rfl)))
  (@jb _ _ _ _ _ (qv (PW.pt (jhx (jv jvz (jn jr rfl T.jbd boot_len (jc (pv 4) jg)) (ze (v:=.int 99) rfl T.jg4.choose_spec ⟨_,rfl⟩) (qc _)) (jb4 (PW.pt (jkk (j1r (pv 4) (λ_=>rfl)) (jgr (qz (qr (qi (j5 (pv 0) rfl) T.xp T.xn (yx T) hr.dn T.xx .nil jo (jc (ya yp (pv 4) (j8e j7p jk) (λ_ _=>rfl)) jg)))))))))) (@jd _ _ _ (jvk rfl T.jss T.jxj (jc gr jg))) j4)
  (@jb _ _ _ _ _ (qv (jv jvz (pv 3) (jn (jy2 rfl) rfl T.j7m boot_max (jc (jv0 (gk (N':=["keeper","purse","asked"]) (ix:=[none,some 1,some 4]) (xm (by kernel_rfl)) rfl (j81 (j25 PySem.F.plainAttrs_dict PySem.F.slot_dict_values PySem.F.type_dict_values j0x (j5 (pv 0) rfl))) (λ_ _ _ _=>(ju (i:=0) qav rfl (Or.inl rfl) (.inr rfl))) (λ_ _ _ _=>jnz) (λ_ _ _ _=>(qi (pv 0) T.jq T.jgc (jnp T) hr.dn T.jhn .nil jo (@yk _ _ _ _ _ (pv 1) (pv 2) rfl rfl))))) jg)) (qc _)) (@jd _ _ _ (jvk rfl T.jqi T.juk (jc gr jg))) j4)
  (@jb _ _ _ _ _ (@j6 _ _ 5 _ _ _ _ jix.nd rfl (Or.inl rfl) (@jgb _ _ _ _ _ (@j71 _ _ _ _ _ _ _ _ _ (pv 1) (jn jr rfl T.jbd boot_len (jc (pv 4) jg)) (pv 2) (pv 3) rfl rfl rfl rfl)) (by rfl) (by first | exact .inl rfl | exact .inr rfl))
  (@jb _ _ _ _ _ (qk (jjx PySem.F.plainAttrs_list PySem.F.slot_list_append PySem.F.type_list_append wz (pv 4) (jc (pv 5) jg)))
  (@jb _ _ _ _ _ (qk (qi (pv 0) T.jl T.gb (jcd T) hr.dn T.kg .nil jo (@yk _ _ _ _ _ (ze (v:=.str "order") rfl T.jbv.choose_spec ⟨_,rfl⟩) (pv 5) rfl rfl)))
  (@jd _ _ _ (jx (pv 5))))))))))),?_⟩
 obtain ⟨ra,rs,ha,hrows⟩:=O.ak
 obtain ⟨r,er⟩ : ∃ r,rs[p.toNat]? = some r:=⟨_,getElem?_eq_getElem (by rw [hrows.1]; exact (List.getElem?_eq_some_iff.mp erow).1)⟩
 obtain ⟨rr,xs,hr0,px⟩:=hrows.2 _ _ _ er erow
 obtain ⟨rk,kvs,kdH,ksH⟩:=O.kd
 have lk:kvs.length = Y.ks.length:=Paired.length ksH
 have lx:xs.length = row.length:=Paired.length px
 refine ko λN hN=>⟨_,rfl,W.x,W.dx,_,rfl,O.ob.1,xw,_,rfl,_,rfl,Z,id,W,Y,p,g,rfl,O,hp,hg,ng,e0,λnc=>?_⟩
 refine hN _ _ (ko λN hN=>⟨_,rfl,m,1,1000,rfl,_,rfl,?_⟩)
 rw [decide_eq_true hm]
 refine yq ?_
 refine hN _ _ (ko λN hN=>⟨_,rfl,W.x,_,W.dx,_,_,rfl,O.ob.1,T.jl,T.jbx,jt5,_,rfl,W.ak,_,p,.ref r,rfl,rfl,SqL.of ha,jef hp.1 (by rw [getElem?_map,er]; rfl),?_⟩)
 refine hN [some (.ref W.x),some (.int p),some (.int g),some (.int m),some (.ref r),none] _ (ko λN hN=>⟨_,rfl,r,xs,rfl,.inl (SqL.of hr0),_,_,rfl,rfl,_,rfl,jhz (λz=>absurd (of_decide_eq_true z) (by show ¬ (99:Int) < (xs.length:Int); omega)) (λ_=>?_)⟩)
 refine' (λkey=>_:(∀ HC,vq H HC -> (∀ o,row.getLast? = some o -> Y.carried o = true) -> (_:Hp -> Prop) HC) -> _) _
 rotate_left
 .cases hlast:row.getLast?
  case some o=>
   obtain ⟨x,ex,ux⟩:=j3v px hlast
   have x0:(!xs.isEmpty) = true:=by
    cases xs with
    | nil=>cases ex
    | cons _ _=>rfl
   refine ⟨_,rfl,true,.inl ⟨_,SqL.of hr0,x0.symm⟩,jhy ?_⟩
   obtain ⟨q0,rfl,hq0⟩:=ux.ref
   obtain ⟨rb,rS,bvs,Bq,sg⟩:=O.bd
   refine ⟨_,rfl,W.x,_,W.dx,_,_,rfl,O.ob.1,T.jl,T.xa,jf1,W.bd,W.db,_,rfl,Bq.ob,jqn _ _ (by decide +kernel) (by decide +kernel),_,rfl,_,rfl,r,xs,-1,.ref q0,rfl,rfl,SqL.of hr0,ex,W.bd,W.db,W.S,Y.en,bvs,thP Y.bd,q0,jl0 o,rfl,Bq.rd,hq0,λHC sHC=>⟨_,rfl,?_⟩⟩
   have ec:decide (Y.en <= ((qh (thP Y.bd) (jl0 o)).length:Int)) = Y.carried o:=by
    unfold Wd.carried
    rw [show qh (thP Y.bd) (jl0 o) = jz Y.bd (x9 o) from jbo (x9 o) Y.bd]
   rw [ec]
   cases hc : Y.carried o with
   | false=>exact jhy ⟨zs1,e1 o hlast hc _ sHC⟩
   | true=>
    refine yq ?_
    have carr : ∀ o',row.getLast? = some o' -> Y.carried o' = true:=λo' e=>by rw [hlast] at e; cases e; exact hc
    exact key HC sHC carr
  case none=>
   have e0:row = []:=List.getLast?_eq_none_iff.mp hlast
   have x0:xs = []:=List.length_eq_zero_iff.mp (by rw [lx,e0]; rfl)
   refine ⟨_,rfl,false,.inl ⟨_,SqL.of hr0,by rw [x0]; rfl⟩,yq ?_⟩
   have carr : ∀ o,row.getLast? = some o -> Y.carried o = true:=λo e=>by rw [hlast] at e; cases e
   exact key H (vq.refl _) carr
 .rintro HC sHC carr
  have OC:=O.fr (P:=λ_=>False) (λ_ z=>z) (Fr.same sHC)
  have kd:=sHC _ _ kdH
  have ksR:yl t HC Z id kvs Y.ks:=yl.fr (P:=λ_=>False) (Fr.same sHC) (λ_ _ z=>z) ksH
  have hrC:=sHC _ _ hr0
  have pxC:Paired (xi HC Z) xs row:=Paired.vf px λ_ _=>xi.fr (P:=λ_=>False) (Fr.same sHC)
  refine hN _ _ (ko λN hN=>⟨_,rfl,_,rfl,W.x,_,W.dx,_,_,rfl,OC.ob.1,T.jl,T.zm,jeh,.inr (.inr (.inl ⟨rfl,.inl ⟨_,kd⟩⟩)),W.kd,kvs,rfl,rfl,kd,λvw hvw=>?_⟩)
  have sv:=jf (o:=jg6 vw W.kd) hvw
  have kd1:=sv _ _ kd
  have ks1:yl t (upd HC vw (jg6 vw W.kd)) Z id kvs Y.ks:=yl.fr (P:=λ_=>False) (Fr.same sv) (λ_ _ z=>z) ksR
  have hr1:=sv _ _ hrC
  have px1:Paired (xi (upd HC vw (jg6 vw W.kd)) Z) xs row:=Paired.vf pxC λ_ _=>xi.fr (P:=λ_=>False) (Fr.same sv)
  have gv:upd HC vw (jg6 vw W.kd) vw = some (jg6 vw W.kd):=ja
  generalize upd HC vw (jg6 vw W.kd) = H1 at sv kd1 ks1 gv hr1 px1
  refine ⟨vw,W.kd,kvs,rfl,gv,kd1,λoo=>j8v (λi' ys U H'=>∃ v0,U = [v0,some (.int p),some (.ref r)] /\ vq (upd H1 W.kd (.frz oo (.dK kvs))) H' /\ ys = ((Y.ks.take i').map λc=>c.2.jr3 p row).map V.int) ⟨none,rfl,vq.refl _,rfl⟩ ?_ ?_ ?_⟩
  .rintro i' ys U H' hi ⟨v0,rfl,sm,rfl⟩
   refine ⟨sm _ _ ja,jng ?_⟩
   rw [length_map,length_map,length_take]
   have:=hok.k1
   omega
  .rintro i' kv ys U H' ek ⟨v0,rfl,sm,rfl⟩
   obtain ⟨c,ec,e1,kk,A',dk,e2,R⟩:=qg ks1 ek
   have cm:c ∈ Y.ks:=mem_of_getElem? ec
   rw [e2]
   have fz:Fr (isP id .kd) Z H1 Z H':=(Fr.put rk rfl:Fr (isP id .kd) Z H1 Z (upd H1 W.kd (.frz oo (.dK kvs)))).trans (Fr.same sm)
   have R':=R.fr (λf=>j3) fz
   have hr2:=(jch fz hr1 rr j3).1
   have px2:Paired (xi H' Z) xs row:=Paired.vf px1 λ_ _=>xi.fr fz
   dsimp only [jh5,j4s]
   rw [if_pos rfl]
   refine ⟨_,rfl,kk,dk,_,rfl,R'.ob,jd5 A',_,rfl,_,rfl,Z,id,c.1,kk,A',dk,c.2,Y.n,p,r,xs,row,rfl,R',hok.ks c cm,hp.1,hp.2,hr2,px2,hok.ao row (mem_of_getElem? erow),by omega,λH'' s''=>⟨_,rfl,sm.trans s'',?_⟩⟩
   rw [take_snoc ec,map_append,map_append]
   rfl
  .rintro ys U H' ⟨v0,rfl,sm,rfl⟩ L nL
   rw [lk,take_length]
   have hD':=sm _ _ (ja (H:=H1) (a:=W.kd) (o:=.frz oo (.dK kvs)))
   have LD:L ≠ W.kd:=(jj hD' nL).symm
   have SF:vq HC (upd (upd H' L (.lst ((Y.ks.map λc=>c.2.jr3 p row).map V.int))) W.kd (.dK kvs)):=λc u hc=>by
    have h1:=sv _ _ hc
    by_cases z:c = W.kd
    .subst z
     rw [kd1] at h1
     rw [ja,h1]
    .have hc':H' c = some u:=sm _ _ (by rw [je z]; exact h1)
     rw [je z,je (jj hc' nL)]
     exact hc'
   refine ⟨W.kd,oo,.dK kvs,(by rw [je LD.symm]; exact hD'),λo' u' z=>?_,True.intro,L,Y.ks.map λc=>c.2.jr3 p row,rfl,SqL.of (by rw [je LD]; exact ja),(by rw [length_map]; exact hok.k0),λM hM hA=>?_⟩
   .have z':H W.kd = some (.frz o' u'):=z
    rw [kdH] at z'
    cases z'
   obtain ⟨eM,qM⟩:=e2 carr M (j6p hM hA)
   refine ⟨_,_,rfl,rfl,_,rfl,jhz (λz=>?_) (λz=>?_)⟩
   .exact ⟨zs1,eM (of_decide_eq_true z) _ (sHC.trans SF)⟩
   .have z' : m <= M:=by
     have : ¬ M < m:=λy=>z (decide_eq_true y)
     omega
    have sG:=sHC.trans SF
    generalize upd (upd H' L (.lst ((Y.ks.map λc=>c.2.jr3 p row).map V.int))) W.kd (.dK kvs) = G at SF sG
    have OG:=O.fr (P:=λ_=>False) (λ_ z=>z) (Fr.same sG)
    have krG:=kr.same sG
    have hrG:=sG _ _ hr0
    have pxG:Paired (xi G Z) xs row:=Paired.vf px λ_ _=>xi.fr (P:=λ_=>False) (Fr.same sG)
    refine hN _ _ (ko λN hN=>⟨_,rfl,_,rfl,r,xs,rfl,.inl (SqL.of hrG),_,rfl,_,rfl,zs4,λq nq=>?_⟩)
    have eo : [V.int p,.int xs.length,.int g,.int m] = jna ⟨p,row.length,g,m⟩:=by rw [lx]; rfl
    rw [eo]
    have s1:=jf (o:=.tup (jna ⟨p,row.length,g,m⟩)) nq
    have O1:=OG.fr (P:=λ_=>False) (λ_ z=>z) (Fr.same s1)
    have kr1:=krG.same s1
    have hr1':=s1 _ _ hrG
    have px1':Paired (xi (upd G q (.tup (jna ⟨p,row.length,g,m⟩))) Z) xs row:=Paired.vf pxG λ_ _=>xi.fr (P:=λ_=>False) (Fr.same s1)
    have uq1:xi (upd G q (.tup (jna ⟨p,row.length,g,m⟩))) Z (.ref q) ⟨p,row.length,g,m⟩:=⟨q,rfl,krG.none nq,ja⟩
    dsimp only
    generalize upd G q (.tup (jna ⟨p,row.length,g,m⟩)) = G1 at s1 O1 kr1 hr1' px1' uq1
    refine hN _ _ (ko λN hN=>⟨_,rfl,.inl ⟨rfl,_,SqL.of hr1'⟩,_,rfl,r,xs,.ref q,rfl,rfl,hr1',zw (by omega),?_⟩)
    have f2:Fr (isP id (.row p.toNat)) Z G1 Z (upd G1 r (.lst (xs ++ [.ref q]))):=Fr.put rr rfl
    have O2 : qu t (upd G1 r (.lst (xs ++ [.ref q]))) Z id W { Y with asked:=Y.asked.set p.toNat (row ++ [⟨p,row.length,g,m⟩]) }:=by
     refine O1.but f2 _ j3 rfl rfl (jay f2 j3 (λ_ _=>j3)) (jcw f2 j3 j3 j3) (λra' ha'=>?_) (jv8 f2 j3)
     obtain ⟨rs',h1,h2⟩:=ha'
     have eq':rs' = rs:=by
      have h3:=s1 _ _ (sG _ _ ha)
      rw [h1] at h3
      have h4:=HO.lst.inj (Option.some.inj h3)
      exact (List.map_inj_right (λa b e=>V.ref.inj e)).mp h4
     subst eq'
     obtain ⟨h5,r5⟩:=jch f2 h1 ra' j3
     refine ⟨r5,rs',h5,?_,λi r' os e1' e2'=>?_⟩
     .rw [length_set]
      exact h2.1
     .by_cases z:i = p.toNat
      .subst z
       have:r' = r:=by
        rw [er] at e1'
        exact (Option.some.inj e1').symm
       subst this
       have lt:=(List.getElem?_eq_some_iff.mp erow).1
       rw [getElem?_set_self lt] at e2'
       cases e2'
       exact ⟨rr,_,ja,qq (Paired.vf px1' λ_ _=>xi.fr f2) (uq1.fr f2)⟩
      .rw [getElem?_set_ne (λy=>z y.symm)] at e2'
       obtain ⟨q1,q2,q3,q4⟩:=h2.2 i r' os e1' e2'
       obtain ⟨q5,q6⟩:=jch f2 q3 q1 (j3 (by intro y; cases y; exact z rfl))
       exact ⟨q6,q2,q5,Paired.vf q4 λ_ _=>xi.fr f2⟩
    have kr2:=kr1.put (a:=r) (o:=.lst (xs ++ [.ref q]))
    have uq2:=uq1.fr f2
    dsimp only
    generalize upd G1 r (.lst (xs ++ [.ref q])) = G2 at f2 O2 kr2 uq2
    refine hN _ _ (ko λN hN=>⟨_,rfl,W.x,W.dx,_,rfl,O2.ob.1,xw,_,rfl,Z,id,W,_,true,q,⟨p,row.length,g,m⟩,rfl,O2,kr2,uq2,by show Y.way.length <= 100000; omega,hok.k1,λG3 O3 f3 kr3=>hN _ _ ⟨_,rfl,?_⟩⟩)
    have fr:Fr (λr=>r.1 = id) Z H Z G3:=((Fr.same (sG.trans s1)).trans (f2.mono λr hr=>by rw [hr])).trans (f3.mono λr hr=>by rw [hr])
    exact qM z' nc G3 q O3 fr kr3 (uq2.fr f3)
noncomputable def gm (K:W.Frag)(H:Hp)(a:Addr)(ks:List Int):Prop:=H a=some (.lst (ks.map V.int))\/(ks=[]/\SqT K H a [])
noncomputable def j0v (K:W.Frag):Sp:=λvs H Q _=>∃a b,∃ks:List Int,vs=[.ref a,.int b]/\(H a=some (.lst (ks.map V.int))\/SqT K H a (ks.map V.int))/\ks.Pairwise (·<·)/\(∀k∈ks,0<=k/\k<b)/\Q (.bl true) H
theorem jmq (T:Txt K mg t):xj P w K mg base CX0 3 t.jh7 t.jig ["things","bound"] (j0v K):=by
  refine T.jet.okA jc9 λ_ A _ s H vs Q E hr h=>?_;obtain⟨a,b,ks,rfl,hc,up,rg,k⟩:=h;refine⟨_,(@jb _ _ _ _ _ (j6 (i:=2) jc9.nd rfl (Or.inl rfl) jk) (@jb _ _ _ _ _ (jo2 PassesOwn.never rfl (j60 (pv 0)) (ju (i:=3) jc9.nd rfl (Or.inl rfl)) (@jb _ _ _ _ _ (qv (qz (qr (jm (ql T) hr.dn rfl T.qo T.qj.kp T.qp .nil jo (@jlv _ _ _ _ _ _ _ (pv 3) (pv 2) (qy jek (pv 1) jk) rfl rfl rfl)))) (@jd _ _ _ (jx jgd)) j4) (@jd _ _ _ (j6 (i:=2) jc9.nd rfl (Or.inl rfl) (qy jal (pv 3) jk))))) (@jd _ _ _ (jx jgd)))),?_⟩;refine hc.elim (λha=>.inl ⟨_,rfl,a,rfl,⟨_,SqL.of ha⟩,jmw (K:=K) (a:=a) (xs:=ks.map V.int) (λi U H'=>∃v l,U=[some (.ref a),some (.int b),some (.int l),v]/\H'=H/\∀z∈ks.drop i,l<=z) ⟨none,0,rfl,rfl,λz hz=>(rg z hz).1⟩ (λi U H' _ ⟨_,_,_,e,_⟩=>SqL.of (by rw[e];exact ha)) ?_ ?_⟩) (λha=>.inr ⟨_,rfl,a,rfl,⟨_,ha⟩,j4v (K:=K) (a:=a) (xs:=ks.map V.int) (λi U H'=>∃v l,U=[some (.ref a),some (.int b),some (.int l),v]/\H'=H/\∀z∈ks.drop i,l<=z) ⟨none,0,rfl,rfl,λz hz=>(rg z hz).1⟩ (λi U H' _ ⟨_,_,_,e,_⟩=>by rw[e];exact ha) ?_ ?_⟩);all_goals first
    | (rintro U H' ⟨v,l,rfl,rfl,_⟩
       exact k)
    | (rintro i x U H' hx ⟨v,l,rfl,rfl,hl⟩
       obtain⟨z,ez,rfl⟩:∃z,ks[i]?=some z/\x= .int z:=by
         rw[getElem?_map]at hx;cases e:ks[i]? with
         |none=>rw[e]at hx;cases hx
         |some z=>rw[e]at hx;exact⟨z,rfl,(Option.some.inj hx).symm⟩
       obtain⟨hi,ez'⟩:=List.getElem?_eq_some_iff.mp ez;have r:=rg z (mem_of_getElem? ez);have lz:l<=z:=hl z (by rw[List.drop_eq_getElem_cons hi,ez'];simp);refine⟨_,rfl,_,rfl,_,rfl,_,_,rfl,rfl,_,_,_,rfl,?_⟩;rw[decide_eq_true ⟨lz,(by omega:z<=b-1)⟩];refine⟨_,rfl,yq ?_⟩;refine⟨_,rfl,_,_,rfl,rfl,_,_,rfl,rfl,λy hy=>?_⟩;obtain⟨j,hj,e⟩:=mem_iff_getElem.mp hy;rw[List.length_drop]at hj;rw[List.getElem_drop]at e;have:=List.pairwise_iff_getElem.mp up i (i+1+j) hi (by omega) (by omega);rw[ez',e]at this;omega)
theorem jhh (T:Txt K mg t):xj P w K mg base CX0 4 t.jds t.jdy ["thing","bound"] (λvs H Q _=>∃a b ks,vs=[.ref a,.int b]/\gm K H a ks/\ks.Pairwise (·<·)/\(∀k∈ks,0<=k/\k<b)/\∀H',vq H H'->Q (.bl true) H'):=by
 refine T.jau.okB (N:=["thing","bound"]) λ_ A _ s H vs Q E hr h=>?_;obtain⟨a,b,ks,rfl,hc,up,rg,k⟩:=h;refine⟨_,(@jd _ _ _ (jx (jhu (jn jxv rfl T.jw boot_isinstance (@yk _ _ _ _ _ (pv 0) (@jgb _ _ _ _ _ (@yk _ _ _ _ _ (jcn (v:=.ty "list") rfl T.jm5 boot_list rfl) (jcn (v:=.ty "tuple") rfl T.jnb boot_tuple rfl) rfl rfl)) rfl rfl)) (jid (jm (jmq T) hr.dn rfl T.jh3 T.jet.kp T.ji1 .nil jo (@yk _ _ _ _ _ (pv 0) (pv 1) rfl rfl)))))),?_⟩;refine⟨_,rfl,zs2,λq hq=>?_⟩;have s1:=jf (o:=.tup [.ty "list",.ty "tuple"]) hq;have hc1:gm K (upd H q (.tup [.ty "list",.ty "tuple"])) a ks:=by
  rcases hc with h|⟨e,h⟩
  .exact .inl (s1 _ _ h)
  .refine .inr ⟨e,?_⟩;rcases h with h|h
   .exact .inl (jtk s1 h)
   .exact .inr h
 refine⟨a,q,rfl,ja,?_,?_⟩
 .rcases hc1 with h|⟨_,h⟩
  .exact .inl ⟨_,SqL.of h⟩
  .exact .inr ⟨_,h⟩
 exact⟨_,rfl,jhy ⟨_,rfl,_,rfl,a,b,ks,rfl,hc1.imp id λ⟨e,h⟩=>by rw[e];exact h,up,rg,k _ s1⟩⟩
theorem gm.same {K:W.Frag}{H H':Hp}{a:Addr}{ks:List Int}(s1:vq H H')(hc:gm K H a ks):gm K H' a ks:=by
 rcases hc with h|⟨e,h⟩
 .exact .inl (s1 _ _ h)
 .refine .inr ⟨e,?_⟩;rcases h with h|h
  .exact .inl (jtk s1 h)
  .exact .inr h
theorem gm.sq {K:W.Frag}{H:Hp}{a:Addr}{ks:List Int}(hc:gm K H a ks):SqL K H a (ks.map V.int)\/SqT K H a (ks.map V.int):=by
 rcases hc with h|⟨e,h⟩
 .exact .inl (SqL.of h)
 .subst e;exact .inr h
theorem jf3 (T:Txt K mg t):xj P w K mg base CX0 3 t.jcl t.jcm ["thing"] (λvs H Q _=>∃i,vs=[.int i]/\Q (.bl (decide (1<=i/\i<=16))) H):=by refine T.pd.okB (N:=["thing"]) λ_ A _ s H vs Q E hr h=>?_;obtain⟨x,rfl,k⟩:=h;refine⟨_,(@jd _ _ _ (jx (jm (ql T) hr.dn rfl T.qo T.qj.kp T.qp .nil jo (@jlv _ _ _ _ _ _ _ (pv 0) jk (ze (v:=.int 16) rfl T.jl4.choose_spec ⟨_,rfl⟩) rfl rfl rfl)))),?_⟩;exact⟨_,rfl,x,1,16,rfl,k⟩
theorem jub (T:Txt K mg t):xj P w K mg base CX0 3 t.js3 t.js6 ["thing"] (λvs H Q _=>∃i,vs=[.int i]/\Q (.bl (decide (0<=i/\i<=5))) H):=by refine T.jpc.okB (N:=["thing"]) λ_ A _ s H vs Q E hr h=>?_;obtain⟨x,rfl,k⟩:=h;refine⟨_,(@jd _ _ _ (jx (jm (ql T) hr.dn rfl T.qo T.qj.kp T.qp .nil jo (@jlv _ _ _ _ _ _ _ (pv 0) jk (ze (v:=.int 5) rfl T.jr1.choose_spec ⟨_,rfl⟩) rfl rfl rfl)))),?_⟩;exact⟨_,rfl,x,0,5,rfl,k⟩
theorem ju4 (T:Txt K mg t):xj P w K mg base CX0 1 t.jku t.jll ["houses","few"] (λvs H Q _=>∃h f:Int,vs=[.int h,.int f]/\Q (.bl (decide (h>3*f))) H):=by refine T.jk8.okB (N:=["houses","few"]) λ_ A _ s H vs Q E hr h=>?_;obtain⟨i,j,rfl,q⟩:=h;refine⟨_,(@jd _ _ _ (jx (ja2 jvz (pv 0) (qy jw9 jk (pv 1)) (qc _)))),?_⟩;exact⟨_,rfl,_,rfl,_,_,rfl,rfl,.inl (by decide),_,_,rfl,rfl,q⟩
theorem jop (T:Txt K mg t):xj P w K mg base CX0 1 t.jk9 t.jlu ["houses","few"] (λvs H Q _=>∃i j:Int,vs=[.int i,.int j]/\Q (.int (i-j)) H):=by refine T.jg0.okB (N:=["houses","few"]) λ_ A _ s H vs Q E hr h=>?_;obtain⟨i,j,rfl,q⟩:=h;refine⟨_,(@jd _ _ _ (jx (qy jek (pv 0) (pv 1)))),?_⟩;exact⟨_,rfl,_,rfl,_,_,rfl,rfl,q⟩
theorem jrd (T:Txt K mg t):xj P w K mg base CX0 3 t.jn7 t.jnj ["thing"] (λvs H Q _=>∃a ns,vs=[.ref a]/\H a=some (.lst ((ns:List Int).map V.int))/\2<=ns.length/\ns.length<=8/\(∀i∈ns,0<=i/\i<=1000)/\∀H',vq H H'->Q (.bl true) H'):=by
 refine T.jjm.okB (N:=["thing"]) λ_ A _ s H vs Q E hr h=>?_;obtain⟨a,ns,rfl,e,l2,l8,rg,k⟩:=h;refine⟨_,(@jb _ _ _ _ _ (qv (PW.pt (jhx (qz (qr (jn vc rfl T.jw boot_isinstance (@yk _ _ _ _ _ (pv 0) (jcn (v:=.ty "list") rfl T.jm5 boot_list rfl) rfl rfl)))) (jb4 (jv j1u (jn jr rfl T.jbd boot_len (jc (pv 0) jg)) (ze (v:=.int 2) rfl T.jko.choose_spec ⟨_,rfl⟩) (qc _))))) (@jd _ _ _ (jx jgd)) j4) (@jd _ _ _ (jx (jn (j2z rfl) rfl T.j69 boot_all (jc (gk (N':=["each"]) (ix:=[none]) (xm (by kernel_rfl)) rfl (@jck _ _ _ _ (pv 0)) (λ_ _ _ _=>(ju (i:=0) qaw rfl (Or.inl rfl) (.inr rfl))) (λ_ _ _ _=>jnz) (λ_ _ _ _=>(jm (ql T) hr.dn rfl T.qo T.qj.kp T.qp .nil jo (@jlv _ _ _ _ _ _ _ (pv 0) jk (ze (v:=.int 1000) rfl T.jhp.choose_spec ⟨_,rfl⟩) rfl rfl rfl)))) jg))))),?_⟩;refine⟨_,rfl,_,_,_,true,rfl,.lst e,rfl,_,rfl,yq ?_⟩;refine⟨_,rfl,a,_,rfl,.inl (SqL.of e),_,_,rfl,rfl,_,rfl,jhz (λh1=>?_) (λh1=>?_)⟩
 .exfalso;have:=of_decide_eq_true h1;rw[length_map]at this;omega
 refine⟨_,rfl,a,rfl,⟨_,SqL.of e⟩,jqh (K:=K) (a:=a) (xs:=ns.map V.int) (λi ys U' H'=>∃v,U'=[v]/\H'=H/\ys=(List.replicate i true).map V.bl) ⟨none,rfl,rfl,rfl⟩ ?_ ?_ ?_⟩
 .rintro i ys U' H' hi ⟨v,rfl,rfl,rfl⟩
  refine⟨SqL.of e,jng ?_⟩;rw[length_map]at hi;rw[length_map,length_replicate];omega
 .rintro i x ys U' H' hx ⟨v,rfl,rfl,rfl⟩
  obtain⟨z,ez,rfl⟩:∃z,ns[i]?=some z/\x= .int z:=by
   rw[getElem?_map]at hx;cases e:ns[i]? with
   |none=>rw[e]at hx;cases hx
   |some z=>rw[e]at hx;exact⟨z,rfl,(Option.some.inj hx).symm⟩
  dsimp only[jh5,j4s];rw[if_pos rfl];refine⟨_,rfl,z,0,1000,rfl,?_⟩;rw[decide_eq_true (rg z (mem_of_getElem? ez))];refine⟨_,rfl,rfl,?_⟩;rw[List.replicate_succ',map_append];rfl
 .rintro ys U' H' ⟨v,rfl,rfl,rfl⟩ q hq
  refine⟨q,List.replicate (ns.map V.int).length true,rfl,SqL.of ja,?_⟩;have g:=k _ (jf (o:=.lst ((List.replicate (ns.map V.int).length true).map V.bl)) hq);rw[show(List.replicate (ns.map V.int).length true).all id=true by simp];exact g
theorem jn8 (T:Txt K mg t):xj P w K mg base CX0 4 t.jcs t.jco ["thing"] (λvs H Q _=>∃a ns,vs=[.ref a]/\H a=some (.lst ((ns:List Int).map V.int))/\2<=ns.length/\ns.length<=8/\(∀i∈ns,0<=i/\i<=1000)/\∀H',vq H H'->Q (.bl true) H'):=by refine T.jcu.okB (N:=["thing"]) λ_ A _ s H vs Q E hr h=>?_;obtain⟨a,ns,rfl,e,l2,l8,rg,k⟩:=h;refine⟨_,(@jd _ _ _ (jx (jhu (jm (jrd T) hr.dn rfl T.jnd T.jjm.kp T.jnv .nil jo (jc (pv 0) jg)) (jid (ja2 j2d (jn jr rfl T.jbd boot_len (jc (pv 0) jg)) (ze (v:=.int 8) rfl T.jmj.choose_spec ⟨_,rfl⟩) (qc _)))))),?_⟩;refine⟨_,rfl,a,ns,rfl,e,l2,l8,rg,λH1 s1=>⟨_,rfl,jhy ?_⟩⟩;refine⟨_,rfl,a,_,rfl,.inl (SqL.of (s1 _ _ e)),_,_,rfl,rfl,?_⟩;have g:=k H1 s1;show Q (.bl (decide (((ns.map V.int).length:Int)<=8))) H1;rw[show decide (((ns.map V.int).length:Int)<=8)=true from decide_eq_true (by rw[length_map];omega)];exact g
theorem jq2 (T:Txt K mg t):xj P w K mg base CX0 5 t.jfq t.jfw ["houses","few","liars"] (λvs H Q _=>∃h f a ks,vs=[.int h,.int f,.ref a]/\(1<=h/\h<=16)/\(0<=f/\f<=5)/\3*f<h/\gm K H a ks/\ks.Pairwise (·<·)/\(∀k∈ks,0<=k/\k<h)/\(ks.length:Int)<=f/\∀H',vq H H'->Q .non H'):=by
 refine T.jfg.okB (N:=["houses","few","liars"]) λ_ A _ s H vs Q E hr h=>?_;obtain⟨h,f,a,ks,rfl,h1,f1,lt,hc,up,rg,l,k⟩:=h;refine⟨_,(@jb _ _ _ _ _ (qv (PW.pt (jhx (qz (qr (jm (jf3 T) hr.dn rfl T.jcx T.pd.kp T.jcy .nil jo (jc (pv 0) jg)))) (jb4 (qz (qr (jm (jub T) hr.dn rfl T.js7 T.jpc.kp T.jtv .nil jo (jc (pv 1) jg))))))) qf j4) (@jb _ _ _ _ _ (qv (qz (qr (jde (ju4 T) hr.dn rfl T.jq9 T.jk8.kp T.jl8 jo (jc (pv 0) jg) (yt (pv 1) jjb)))) qf j4) (@jd _ _ _ (qv (PW.pt (jhx (qz (qr (jm (jhh T) hr.dn rfl T.jdn T.jau.kp T.jdq .nil jo (@yk _ _ _ _ _ (pv 2) (pv 0) rfl rfl)))) (jb4 (jv jvz (jn jr rfl T.jbd boot_len (jc (pv 2) jg)) (pv 1) (qc _))))) qf j4)))),?_⟩;refine⟨_,rfl,h,rfl,_,rfl,?_⟩;rw[decide_eq_true h1];refine yq ⟨_,rfl,f,rfl,_,rfl,?_⟩;rw[decide_eq_true f1];refine yq ⟨_,rfl,_,rfl,h,f,rfl,_,rfl,?_⟩;rw[decide_eq_true (by omega)];refine yq ⟨_,rfl,_,rfl,a,h,ks,rfl,hc,up,rg,λH1 s1=>⟨_,rfl,yq ?_⟩⟩;refine⟨_,rfl,a,_,rfl,(hc.same s1).sq,_,rfl,_,_,rfl,rfl,_,rfl,jhz (λz=>?_) (λ_=>k _ s1)⟩;exfalso;have:=of_decide_eq_true z;rw[length_map]at this;omega
theorem jq4 (T:Txt K mg t):xj P w K mg base CX0 5 t.jfh t.jf0 ["sums","cheats"] (λvs H Q _=>∃a ns b ks,vs=[.ref a,.ref b]/\H a=some (.lst ((ns:List Int).map V.int))/\2<=ns.length/\ns.length<=8/\(∀i∈ns,0<=i/\i<=1000)/\gm K H b ks/\ks.Pairwise (·<·)/\(∀k∈ks,0<=k/\k<(ns.length:Int))/\∀H',vq H H'->Q .non H'):=by
 refine T.jfx.okB (N:=["sums","cheats"]) λ_ A _ s H vs Q E hr h=>?_;obtain⟨a,ns,b,ks,rfl,e,l2,l8,r1,hc,up,rg,k⟩:=h;refine⟨_,(@jb _ _ _ _ _ (qv (qz (qr (jm (jn8 T) hr.dn rfl T.jhs T.jcu.kp T.jhw .nil jo (jc (pv 0) jg)))) qf j4) (@jd _ _ _ (qv (qz (qr (jm (jhh T) hr.dn rfl T.jdn T.jau.kp T.jdq .nil jo (@yk _ _ _ _ _ (pv 1) (jn jr rfl T.jbd boot_len (jc (pv 0) jg)) rfl rfl)))) qf j4))),?_⟩;refine⟨_,rfl,a,ns,rfl,e,l2,l8,r1,λH1 s1=>⟨_,rfl,yq ?_⟩⟩;refine⟨_,rfl,_,rfl,a,_,rfl,.inl (SqL.of (s1 _ _ e)),b,_,ks,rfl,hc.same s1,up,λk hk=>?_,λH2 s2=>⟨_,rfl,yq (k _ (s1.trans s2))⟩⟩;rw[length_map];exact rg k hk
noncomputable def PK (H:Hp)(Z:Rho)(id:Nat)(h:Int)(L:List (Nat×Addr×HO)):Prop:=∀x∈L,1<=x.1/\Z x.2.1=some (id,.kp h x.1)/\H x.2.1=some x.2.2
theorem PK.new {H:Hp}{Z:Rho}{id:Nat}{h:Int}{L:List (Nat×Addr×HO)}{p:Addr}{f:Nat}{u:HO}(k:PK H Z id h L)(n:H p=none)(hf:1<=f):PK (upd H p u) (jad Z p (id,.kp h f)) id h ((f,p,u)::L):=λx hx=>by
 rcases mem_cons.mp hx with rfl|hx
 .exact⟨hf,qx,ja⟩
 .obtain⟨a,b,c⟩:=k x hx;have:x.2.1≠p:=jj c n;exact⟨a,by rw[zd this];exact b,by rw[je this];exact c⟩
theorem PK.obj {H:Hp}{Z:Rho}{id:Nat}{h:Int}{L:List (Nat×Addr×HO)}{x:Addr}{o:HO}(k:PK H Z id h L)(rx:Z x=some (id,.kp h 0)):PK (upd H x o) Z id h L:=λy hy=>by obtain⟨a,b,c⟩:=k y hy;exact⟨a,b,by rw[je (ner b rx (λz=>by have e:=(Part.kp.inj (Prod.mk.inj z).2).2;omega))];exact c⟩
theorem PK.same {H H':Hp}{Z:Rho}{id:Nat}{h:Int}{L:List (Nat×Addr×HO)}(s:vq H H')(k:PK H Z id h L):PK H' Z id h L:=λy hy=>let⟨a,b,c⟩:=k y hy;⟨a,b,s _ _ c⟩
theorem PK.at_ {H:Hp}{Z:Rho}{id:Nat}{h:Int}{L:List (Nat×Addr×HO)}(k:PK H Z id h L)(j:Nat){f:Nat}{a:Addr}{u:HO}(e:L[j]?=some (f,a,u)):Z a=some (id,.kp h f)/\H a=some u:=(k _ (mem_of_getElem? e)).2
structure Mk (t:Ad)(Z0:Rho)(H0:Hp)(id:Nat)(h:Int)(x dx:Addr)(fs:List (Str×V))(L:List (Nat×Addr×HO))(Z:Rho)(H:Hp):Prop where
 ob:H x=some (.ins t.j8 dx fs)
 rx:Z x=some (id,.kp h 0)
 pk:PK H Z id h L
 fr:Fr (isK id h) Z0 H0 Z H
 kr:OkR Z H
section
variable {t:Ad}{Z0 Z:Rho}{H0 H H':Hp}{id:Nat}{h:Int}{x dx:Addr}{fs fs':List (Str×V)}{L:List (Nat×Addr×HO)}
theorem Mk.new {p:Addr}{u:HO}(f:Nat)(m:Mk t Z0 H0 id h x dx fs L Z H)(n:H p=none)(hf:1<=f)(hu:autoParam (jwc u) aP7):Mk t Z0 H0 id h x dx fs ((f,p,u)::L) (jad Z p (id,.kp h f)) (upd H p u):=by have nx:x≠p:=jj m.ob n;exact⟨by rw[je nx];exact m.ob,by rw[zd nx];exact m.rx,m.pk.new n hf,m.fr.trans (Fr.jnh n),m.kr.jnh hu⟩
theorem Mk.tmp (m:Mk t Z0 H0 id h x dx fs L Z H)(s:vq H H'):Mk t Z0 H0 id h x dx fs L Z H':=⟨s _ _ m.ob,m.rx,m.pk.same s,m.fr.trans (Fr.same s),m.kr.same s⟩
theorem Mk.obj (m:Mk t Z0 H0 id h x dx fs L Z H):Mk t Z0 H0 id h x dx fs' L Z (upd H x (.ins t.j8 dx fs')):=⟨ja,m.rx,m.pk.obj m.rx,m.fr.trans (Fr.put m.rx ⟨0,rfl⟩),m.kr.put⟩
end
theorem jo4 (T:Txt K mg t):xj P w K mg base CX0 1 t.wm t.jdj ["self","sums"] (λvs H Q _=>∃Z id h x dx sa,∃ns:List Int,vs=[.ref x,.ref sa]/\H x=some (.ins t.j8 dx [])/\Z x=some (id,.kp h 0)/\OkR Z H/\H sa=some (.lst (ns.map V.int))/\ns.length<=1000/\∀Z' H' he nn dn,Mk t Z H id h x dx (bkf he nn dn) [(3,dn,.lst []),(2,nn,.lst ((List.replicate ns.length 0).map V.int)),(1,he,.lst (ns.map V.int))] Z' H'->Q .non H'):=by
 refine T.jim.okB (N:=["self","sums"]) λ_ A _ s H vs Q E hr h=>?_;obtain⟨Z,id,h,x,dx,sa,ns,rfl,hx,rx,kr,hs,ln,k⟩:=h;refine⟨_,(@jb _ _ _ _ _ (vh (pv 0) (jea jac rfl T.jm5 boot_list (jc (pv 1) jg)) rfl) (@jb _ _ _ _ _ (vh (pv 0) (qy j66 (@zf _ _ _ _ (jc jk jg)) (jn jr rfl T.jbd boot_len (jc (pv 1) jg))) rfl) (@jd _ _ _ (vh (pv 0) (@zf _ _ _ _ jg) rfl)))),?_⟩;have m0:Mk t Z H id h x dx [] [] Z H:=⟨hx,rx,(λ_ z=>by cases z),Fr.refl,kr⟩;have sx:sa≠x:=jm0 hs hx (by intro z;cases z);refine⟨_,rfl,sa,_,rfl,.inl (SqL.of hs),λhe nh=>?_⟩;have m1:=m0.new 1 nh (u:=.lst (ns.map V.int)) (by decide);have hs1:=jf (o:=.lst (ns.map V.int)) nh _ _ hs;refine⟨_,rfl,x,_,dx,_,rfl,m1.ob,T.jq,T.vn,(by show 0<1000;decide),?_⟩;have m2:=m1.obj (fs':=vy "held" (.ref he) []);have hs2:upd (upd H he (.lst (ns.map V.int))) x (.ins t.j8 dx (vy "held" (.ref he) [])) sa=some (.lst (ns.map V.int)):=by rw[je sx];exact hs1
 dsimp only;generalize upd (upd H he (.lst (ns.map V.int))) x (.ins t.j8 dx (vy "held" (.ref he) []))=G at m2 hs2;refine⟨zs1,λz1 n1=>⟨_,rfl,sa,_,rfl,.inl (SqL.of ((jf n1) _ _ hs2)),?_⟩⟩;have m3:=m2.tmp (jf (o:=.lst [.int 0]) n1);refine⟨z1,_,[.int 0],rfl,rfl,ja,?_,?_,?_,λnn n2=>?_⟩
 .omega
 .rw[length_map];have:=jqz;omega
 .rw[length_map];exact jng (by simp;omega)
 have er:(List.replicate (((ns.map V.int).length:Nat):Int).toNat [V.int 0]).flatten=(List.replicate ns.length 0).map V.int:=by
  rw[Int.toNat_natCast,length_map,List.map_replicate];generalize ns.length=n;induction n with
  |zero=>rfl
  |succ n ih=>rw[replicate_succ,flatten_cons,ih,replicate_succ];rfl
 rw[er];have m4:=m3.new 2 n2 (u:=.lst ((List.replicate ns.length 0).map V.int)) (by decide);generalize upd (upd G z1 (.lst [.int 0])) nn (.lst ((List.replicate ns.length 0).map V.int))=G4 at m4;refine⟨_,rfl,x,_,dx,_,rfl,m4.ob,T.jq,T.za,(by show 1<1000;decide),?_⟩;have m5:=m4.obj (fs':=vy "next_numbers" (.ref nn) (vy "held" (.ref he) []));dsimp only;generalize upd G4 x (.ins t.j8 dx (vy "next_numbers" (.ref nn) (vy "held" (.ref he) [])))=G5 at m5;refine⟨zs0,λdn n3=>⟨_,rfl,x,_,dx,_,rfl,(m5.new 3 n3 (u:=.lst []) (by decide)).ob,T.jq,T.jfu,(by show 2<1000;decide),?_⟩⟩;exact k _ _ he nn dn ((m5.new 3 n3 (u:=.lst []) (by decide)).obj)
noncomputable def kp0 (ns:List Int):Kp:=⟨ns,List.replicate ns.length 0,[],[],[],[],[]⟩
theorem jmz (T:Txt K mg t):xj P w K mg base CX0 2 t.gj t.jbm ["self","sums"] (λvs H Q _=>∃Z id h x dx sa,∃ns:List Int,vs=[.ref x,.ref sa]/\H x=some (.ins t.j8 dx [])/\Z x=some (id,.kp h 0)/\OkR Z H/\H sa=some (.lst (ns.map V.int))/\ns.length<=1000/\∀Z' H' A,xq t H' Z' id h x A dx (kp0 ns)->Fr (isK id h) Z H Z' H'->OkR Z' H'->Q .non H'):=by
 refine T.jf6.okB (N:=["self","sums"]) λ_ A _ s H vs Q E hr h=>?_;obtain⟨Z,id,h,x,dx,sa,ns,rfl,hx,rx,kr,hs,ln,k⟩:=h;refine⟨_,(@jb _ _ _ _ _ (qk (j4j rfl T.j3d T.jhl (jo4 T) hr.dn T.jja .nil jo (@yk _ _ _ _ _ (pv 0) (pv 1) rfl rfl))) (@jb _ _ _ _ _ (vh (pv 0) jo9 rfl) (@jb _ _ _ _ _ (vh (pv 0) (@zf _ _ _ _ jg) rfl) (@jb _ _ _ _ _ (vh (pv 0) jo9 rfl) (@jd _ _ _ (vh (pv 0) (@zf _ _ _ _ jg) rfl)))))),?_⟩;refine⟨_,rfl,_,rfl,Z,id,h,x,dx,sa,ns,rfl,hx,rx,kr,hs,ln,λZ1 H1 he nn dn m1=>?_⟩;refine λhd n1=>⟨_,rfl,x,_,dx,_,rfl,(m1.new 4 n1 (u:=.dT []) (by decide)).ob,T.jq,T.jak,(by show 3<1000;decide),?_⟩;have m2:=(m1.new 4 n1 (u:=.dT []) (by decide)).obj (fs':=vy "heard" (.ref hd) (bkf he nn dn));dsimp only;generalize upd (upd H1 hd (.dT [])) x (.ins t.j8 dx (vy "heard" (.ref hd) (bkf he nn dn)))=G2 at m2;refine⟨zs0,λun n2=>⟨_,rfl,x,_,dx,_,rfl,(m2.new 5 n2 (u:=.lst []) (by decide)).ob,T.jq,T.yg,(by show 4<1000;decide),?_⟩⟩;have m3:=(m2.new 5 n2 (u:=.lst []) (by decide)).obj (fs':=vy "unvoted" (.ref un) (vy "heard" (.ref hd) (bkf he nn dn)));dsimp only;generalize upd (upd G2 un (.lst [])) x (.ins t.j8 dx (vy "unvoted" (.ref un) (vy "heard" (.ref hd) (bkf he nn dn))))=G3 at m3;refine λcs n3=>⟨_,rfl,x,_,dx,_,rfl,(m3.new 6 n3 (u:=.dT []) (by decide)).ob,T.jq,T.xh,(by show 5<1000;decide),?_⟩;have m4:=(m3.new 6 n3 (u:=.dT []) (by decide)).obj (fs':=vy "choices" (.ref cs) (vy "unvoted" (.ref un) (vy "heard" (.ref hd) (bkf he nn dn))));dsimp only;generalize upd (upd G3 cs (.dT [])) x (.ins t.j8 dx (vy "choices" (.ref cs) (vy "unvoted" (.ref un) (vy "heard" (.ref hd) (bkf he nn dn)))))=G4 at m4;refine⟨zs0,λwt n4=>⟨_,rfl,x,_,dx,_,rfl,(m4.new 7 n4 (u:=.lst []) (by decide)).ob,T.jq,T.xf,(by show 6<1000;decide),?_⟩⟩;have m5:=(m4.new 7 n4 (u:=.lst []) (by decide)).obj (fs':=kf he nn dn hd un cs wt);refine k _ _ (λf=>match f with|1=>he|2=>nn|3=>dn|4=>hd|5=>un|6=>cs|_=>wt) ⟨m5.ob,m5.rx,λf h1 h7=>?_⟩ m5.fr m5.kr;have p:=m5.pk
 match f,h1,h7 with
 |1,_,_=>exact⟨(p.at_ 6 rfl).1,_,(p.at_ 6 rfl).2,rfl⟩
 |2,_,_=>exact⟨(p.at_ 5 rfl).1,_,(p.at_ 5 rfl).2,rfl⟩
 |3,_,_=>exact⟨(p.at_ 4 rfl).1,_,(p.at_ 4 rfl).2,[],rfl,.nil⟩
 |4,_,_=>exact⟨(p.at_ 3 rfl).1,_,(p.at_ 3 rfl).2,[],rfl,rfl⟩
 |5,_,_=>exact⟨(p.at_ 2 rfl).1,_,(p.at_ 2 rfl).2,[],rfl,.nil⟩
 |6,_,_=>exact⟨(p.at_ 1 rfl).1,_,(p.at_ 1 rfl).2,[],rfl,.nil⟩
 |7,_,_=>exact⟨(p.at_ 0 rfl).1,_,(p.at_ 0 rfl).2,[],rfl,.nil⟩
noncomputable def jnf (K:W.Frag)(H:Hp)(Z:Rho)(id:Nat)(a:Addr)(ks:List Int):Prop:=(H a=some (.lst (ks.map V.int))/\∀r,Z a=some r->¬r.1=id)\/(ks=[]/\∃(o:Obj)(its:Array Value)(n:Nat),K.lookup a=some o/\o.cls= .type "tuple"/\o.data= .seq its n/\its.size<=sizeLine/\Vals [] its.toList)
theorem jnf.at_ {K:W.Frag}{H:Hp}{Z:Rho}{id:Nat}{a:Addr}{ks:List Int}(h:jnf K H Z id a ks):gm K H a ks:=h.imp (λq=>q.1) (λq=>⟨q.1,.inr q.2⟩)
theorem jnf.fr {K:W.Frag}{H H':Hp}{Z Z':Rho}{id:Nat}{a:Addr}{ks:List Int}(f:Fr (λr=>r.1=id) Z H Z' H')(h:jnf K H Z id a ks):gm K H' a ks:=by
 rcases h with⟨h,n⟩|⟨e,h⟩
 .exact .inl (f a _ h n).1
 .exact .inr ⟨e,.inr h⟩
theorem yl.fr' {t:Ad}{P:Role->Prop}{Z Z':Rho}{H H':Hp}{id:Nat}(f:Fr P Z H Z' H'):∀{kvs:List (Key×V)}{ks:List (Int×Kp)},(∀c∈ks,∀j,¬P (id,.kp c.1 j))->yl t H Z id kvs ks->yl t H' Z' id kvs ks:=λ{kvs ks} n q=>by
 unfold yl at q;induction q with
 |nil=>exact .nil
 |@cons kv c kvs ks a r ih=>obtain⟨e,k,A,dk,ek,q⟩:=a;exact .cons ⟨e,k,A,dk,ek,q.fr (n c mem_cons_self) f⟩ (ih λc' hc=>n c' (mem_cons_of_mem _ hc))
noncomputable def allI (id:Nat):Role->Prop:=λr=>r.1=id
structure MkW (t:Ad)(Z0:Rho)(H0:Hp)(id:Nat)(x dx:Addr)(fs:List (Str×V))(Z:Rho)(H:Hp):Prop where
 ob:H x=some (.ins t.qa dx fs)
 rx:Z x=some (id,.x)
 fr:Fr (allI id) Z0 H0 Z H
 kr:OkR Z H
section
variable {t:Ad}{Z0 Z Z':Rho}{H0 H H':Hp}{id:Nat}{x dx:Addr}{fs fs':List (Str×V)}{P:Role->Prop}
theorem MkW.step (m:MkW t Z0 H0 id x dx fs Z H)(f:Fr P Z H Z' H')(n:¬P (id,.x))(hP:∀r,P r->r.1=id)(kr:OkR Z' H'):MkW t Z0 H0 id x dx fs Z' H':=by obtain⟨e,r⟩:=jch f m.ob m.rx n;exact⟨e,r,m.fr.trans (f.mono hP),kr⟩
theorem MkW.tmp (m:MkW t Z0 H0 id x dx fs Z H)(s:vq H H'):MkW t Z0 H0 id x dx fs Z H':=m.step (P:=λ_=>False) (Fr.same s) (λz=>z) (λ_ z=>z.elim) (m.kr.same s)
theorem MkW.new {p:Addr}{u:HO}{r:Role}(m:MkW t Z0 H0 id x dx fs Z H)(n:H p=none)(hu:autoParam (jwc u) aP7):MkW t Z0 H0 id x dx fs (jad Z p r) (upd H p u):=m.step (P:=λ_=>False) (Fr.jnh n) (λz=>z) (λ_ z=>z.elim) (m.kr.jnh hu)
theorem MkW.obj (m:MkW t Z0 H0 id x dx fs Z H):MkW t Z0 H0 id x dx fs' Z (upd H x (.ins t.qa dx fs')):=⟨ja,m.rx,m.fr.trans (Fr.put m.rx rfl),m.kr.put⟩
theorem MkW.fo (m:MkW t Z0 H0 id x dx fs Z H):Fr (isP id .x) Z H Z (upd H x (.ins t.qa dx fs')):=Fr.put m.rx rfl
end
noncomputable def jbt (ls:List Int)(n:Nat):List Int:=((List.range n).map λ(i:Nat)=>(i:Int)).filter λi=>!decide (i∈ls)
noncomputable def w0 (h f:Int)(ns cs ls:List Int):Wd:=⟨ns.length,cs,(jbt ls h.toNat).map λi=>(i,kp0 ns),[],h-f,List.replicate ns.length [],[]⟩
structure Two (H:Hp)(Z:Rho)(ch ly:Addr)(cs ls:List Int):Prop where
 c:H ch=some (.lst (cs.map V.int))/\Z ch=none
 l:H ly=some (.lst (ls.map V.int))/\Z ly=none
theorem Two.fr {P:Role->Prop}{Z Z':Rho}{H H':Hp}{ch ly:Addr}{cs ls:List Int}(f:Fr P Z H Z' H')(h:Two H Z ch ly cs ls):Two H' Z' ch ly cs ls:=⟨jjv f h.c.1 h.c.2,jjv f h.l.1 h.l.2⟩
theorem jly (ls:List Int)(n:Nat):jbt ls (n+1)=jbt ls n++if(n:Int)∈ls then[]else[(n:Int)]:=by
 unfold jbt;rw[List.range_succ,map_append,filter_append];congr 1;by_cases z:(n:Int)∈ls
 .rw[if_pos z];simp[z]
 .rw[if_neg z];simp[z]
theorem jzy {ls:List Int}{n:Nat}{i:Int}(h:i∈jbt ls n):0<=i/\i<(n:Int)/\i∉ls:=by unfold jbt at h;obtain⟨h1,h2⟩:=mem_filter.mp h;obtain⟨j,hj,rfl⟩:=mem_map.mp h1;have:=mem_range.mp hj;exact⟨by omega,by omega,by simpa using h2⟩
theorem jtj (ls:List Int)(n:Nat):(jbt ls n).length<=n:=by unfold jbt;refine le_trans (length_filter_le _ _) ?_;rw[length_map,length_range];exact le_refl _
noncomputable abbrev q2 (ns:List Int):List (Str×V):=vy "total" (.int ns.sum) (vy "purses" (.int (ns.map V.int).length) [])
noncomputable abbrev q3 (ns:List Int)(ly:Addr):List (Str×V):=vy "lying" (.ref ly) (q2 ns)
noncomputable abbrev q4 (ns:List Int)(ly ch:Addr):List (Str×V):=vy "cheating" (.ref ch) (q3 ns ly)
noncomputable abbrev q5 (ns:List Int)(ly ch D:Addr):List (Str×V):=vy "keepers" (.ref D) (q4 ns ly ch)
noncomputable abbrev q6 (ns:List Int)(ly ch D b:Addr):List (Str×V):=vy "board" (.ref b) (q5 ns ly ch D)
noncomputable abbrev q7 (ns:List Int)(ly ch D b ak:Addr):List (Str×V):=vy "asked" (.ref ak) (q6 ns ly ch D b)
noncomputable def j1n (K:PySem.W.Frag)(t:Ad):Sp:=λvs H Q _=>∃Z id x dx h f sa ns la ca cs ls,vs=[.ref x,.int h,.int f,.ref sa,.ref la,.ref ca]/\H x=some (.ins t.qa dx [])/\Z x=some (id,.x)/\OkR Z H/\(1<=h/\h<=16)/\(0<=f/\f<=5)/\3*f<h/\H sa=some (.lst ((ns:List Int).map V.int))/\(∀r,Z sa=some r->¬allI id r)/\2<=ns.length/\ns.length<=8/\(∀i∈ns,0<=i/\i<=1000)/\jnf K H Z id la ls/\ls.Pairwise (·<·)/\(∀k∈ls,0<=k/\k<h)/\(ls.length:Int)<=f/\jnf K H Z id ca cs/\cs.Pairwise (·<·)/\(∀k∈cs,0<=k/\k<(ns.length:Int))/\∀Z' H' W,W.x=x->W.tot=ns.sum->qu t H' Z' id W (w0 h f ns cs ls)->(H' W.ly=some (.lst (ls.map V.int))/\Z' W.ly=none)->Fr (allI id) Z H Z' H'->OkR Z' H'->Q .non H'
set_option maxHeartbeats 0 in
theorem jni (T:Txt K mg t) : xj P w K mg base CX0 6 t.pf t.jcp ["self","houses","few","sums","liars","cheats"] (j1n K t):=by
 refine T.jhi.okB (N:=["self","houses","few","sums","liars","cheats"]) λ_ A _ s H vs Q E hr h=>?_
 obtain ⟨Z,id,x,dx,h,f,sa,ns,la,ca,cs,ls,rfl,hx,rx,kr,h1,f1,lt,hs,nsa,l2,l8,rg,ula,upl,rgl,llf,uca,up,rgc,k⟩:=h
 have hla:=ula.at_
 have hca:=uca.at_
 refine ⟨_,(@jb _ _ _ _ _ (qk (jde (jq2 T) hr.dn rfl T.jj1 T.jfg.kp T.jho jo (jc (pv 1) jg) (yt (pv 2) (yt (pv 4) jjb))))
  (@jb _ _ _ _ _ (qk (jde (jq4 T) hr.dn rfl T.jki T.jfx.kp T.jhv jo (jc (pv 3) jg) (yt (pv 5) jjb)))
  (@jb _ _ _ _ _ (vh (pv 0) (jn jr rfl T.jbd boot_len (jc (pv 3) jg)) rfl)
  (@jb _ _ _ _ _ (vh (pv 0) (jn (jmn rfl) rfl T.jyt boot_sum (jc (pv 3) jg)) rfl)
  (@jb _ _ _ _ _ (vh (pv 0) (jea jac rfl T.jm5 boot_list (jc (pv 4) jg)) rfl)
  (@jb _ _ _ _ _ (vh (pv 0) (jea jac rfl T.jm5 boot_list (jc (pv 5) jg)) rfl)
  (@jb _ _ _ _ _ (vh (pv 0) (j11 (.dK []) (.inl rfl) (jic hr) (N':=["house","sums","liars"]) (ix:=[none,some 3,some 4]) (xm (by kernel_rfl)) rfl (jel rfl T.jjc (jc (pv 1) jg)) (λ_ _ _ _=>(ju (i:=0) qac rfl (Or.inl rfl) (.inr rfl))) (λ_ _ _ _=>(jg8 (jv (jhd (K:=K) rfl) (pv 0) (pv 2) (by with_unfolding_all rfl)))) (λ_ _ _ _=>(pv 0)) (λ_ _ _ _=>(jy6 T.juo (jmz T) hr.dn rfl T.jxf T.jf2 .nil jo (jc (pv 1) jg)))) rfl)
  (@jb _ _ _ _ _ (vh (pv 0) (jy6 T.jwu (jnr T) hr.dn rfl T.jzi T.jhr .nil jo (jc (jde (jop T) hr.dn rfl T.jla T.jg0.kp T.jhe jo (jc (pv 1) jg) (yt (pv 2) jjb)) jg)) rfl)
  (@jb _ _ _ _ _ (vh (pv 0) (gk (N':=["each"]) (ix:=[none]) (xm (by kernel_rfl)) rfl (@jck _ _ _ _ (pv 3)) (λ_ _ _ _=>(ju (i:=0) qbe rfl (Or.inl rfl) (.inr rfl))) (λ_ _ _ _=>jnz) (λ_ _ _ _=>(@zf _ _ _ _ jg))) rfl)
  (@jd _ _ _ (vh (pv 0) (@zf _ _ _ _ jg) rfl))))))))))),?_⟩
 refine ko λN hN=>⟨_,rfl,_,rfl,_,rfl,h,f,la,ls,rfl,h1,f1,lt,hla,upl,rgl,llf,λH1 s1=>?_⟩
 refine hN _ _ (ko λN hN=>⟨_,rfl,_,rfl,sa,ns,ca,cs,rfl,s1 _ _ hs,l2,l8,rg,hca.same s1,up,rgc,λH2 s2=>?_⟩)
 have m2:MkW t Z H id x dx [] Z H2:=MkW.tmp ⟨hx,rx,Fr.refl,kr⟩ (s1.trans s2)
 have sa_ : ∀ {Z' H' fs},MkW t Z H id x dx fs Z' H' -> H' sa = some (.lst (ns.map V.int)):=λm=>(m.fr _ _ hs nsa).1
 have la_ : ∀ {Z' H' fs},MkW t Z H id x dx fs Z' H' -> gm K H' la ls:=λm=>ula.fr m.fr
 have ca_ : ∀ {Z' H' fs},MkW t Z H id x dx fs Z' H' -> gm K H' ca cs:=λm=>uca.fr m.fr
 refine hN _ _ (ko λN hN=>⟨_,rfl,sa,_,rfl,.inl (SqL.of (sa_ m2)),_,rfl,x,_,dx,_,rfl,m2.ob,T.jl,T.wj,(by show 0 < 1000; decide),?_⟩)
 have m3:=m2.obj (fs':=vy "purses" (.int (ns.map V.int).length) [])
 dsimp only
 generalize upd H2 x (.ins t.qa dx (vy "purses" (.int (ns.map V.int).length) [])) = G3 at m3
 refine hN _ _ (ko λN hN=>⟨_,rfl,sa,ns,rfl,SqL.of (sa_ m3),_,rfl,x,_,dx,_,rfl,m3.ob,T.jl,T.jkb,(by show 1 < 1000; decide),?_⟩)
 have m4:=m3.obj (fs':=q2 ns)
 dsimp only
 generalize upd G3 x (.ins t.qa dx (q2 ns)) = G4 at m4
 refine hN _ _ (ko λN hN=>⟨_,rfl,la,_,rfl,(la_ m4).sq,λly nly=>?_⟩)
 have m5:=m4.tmp (jf (o:=.lst (ls.map V.int)) nly)
 have l5:upd G4 ly (.lst (ls.map V.int)) ly = some (.lst (ls.map V.int)) /\ Z ly = none:=⟨ja,m4.kr.none nly⟩
 refine ⟨_,rfl,x,_,dx,_,rfl,m5.ob,T.jl,T.jfm,(by show 2 < 1000; decide),?_⟩
 have m6:=m5.obj (fs':=q3 ns ly)
 have l6:=jjv (m5.fo (fs':=q3 ns ly)) l5.1 l5.2
 dsimp only
 generalize upd (upd G4 ly (.lst (ls.map V.int))) x (.ins t.qa dx (q3 ns ly)) = G6 at m6 l6
 refine hN _ _ (ko λN hN=>⟨_,rfl,ca,_,rfl,(ca_ m6).sq,λch nch=>?_⟩)
 have m7:=m6.tmp (jf (o:=.lst (cs.map V.int)) nch)
 have c7:Two (upd G6 ch (.lst (cs.map V.int))) Z ch ly cs ls:=⟨⟨ja,m6.kr.none nch⟩,jjv (P:=λ_=>False) (Fr.same (jf nch)) l6.1 l6.2⟩
 refine ⟨_,rfl,x,_,dx,_,rfl,m7.ob,T.jl,T.yf,(by show 3 < 1000; decide),?_⟩
 have m8:=m7.obj (fs':=q4 ns ly ch)
 have c8:=c7.fr (m7.fo (fs':=q4 ns ly ch))
 dsimp only
 generalize upd (upd G6 ch (.lst (cs.map V.int))) x (.ins t.qa dx (q4 ns ly ch)) = G8 at m8 c8
 clear m2 m3 m4 m5 m6 m7 c7 nly nch l5 l6
 refine hN _ _ (ko λN hN=>⟨_,rfl,h,rfl,(by omega),(by omega),λD nD=>?_⟩)
 have m9:=m8.new (r:=(id,.kd)) nD (u:=.dK [])
 have c9:Two (upd G8 D (.dK [])) (jad Z D (id,.kd)) ch ly cs ls:=c8.fr (P:=λ_=>False) (Fr.jnh nD)
 refine j2h (lo:=0) (n:=h.toNat) (λi U H'=>∃ v kvs Z',U = [v,some (.ref sa),some (.ref la)] /\ MkW t Z H id x dx (q4 ns ly ch) Z' H' /\ Two H' Z' ch ly cs ls /\ Z' D = some (id,.kd) /\ H' D = some (.dK kvs) /\ yl t H' Z' id kvs ((jbt ls i).map λi=>(i,kp0 ns))) ⟨none,[],_,rfl,m9,c9,qx,ja,.nil⟩ ?_ ?_
 .rintro i U H' hi ⟨v,kvs,Z',rfl,m,hc,rD,hD,ks⟩
  have e0:(0:Int) + (i:Int) = i:=Int.zero_add _
  rw [e0]
  refine ⟨_,rfl,_,rfl,la,_,rfl,(la_ m).sq,rfl,jcc _,_,rfl,jhz (λzz=>?_) (λzz=>?_)⟩
  rotate_left
  .have nl:(i:Int) ∈ ls:=by
    rw [if_pos rfl,gc] at zz
    simpa using zz
   refine ⟨_,kvs,Z',rfl,m,hc,rD,hD,?_⟩
   rw [jly,if_pos nl,append_nil]
   exact ks
  have nl : ¬ (i:Int) ∈ ls:=by
   rw [if_pos rfl,gc] at zz
   simpa using zz
  refine ⟨_,rfl,_,rfl,λk dk nk ndk ne=>?_⟩
  have sk:vq H' (upd H' dk (.own k)):=jf ndk
  have nk1:upd H' dk (.own k) k = none:=by rw [je ne.symm]; exact nk
  have f1:Fr (λ_=>False) Z' H' (jad Z' k (id,.kp i 0)) (upd (upd H' dk (.own k)) k (.ins t.j8 dk [])):=(Fr.same sk).trans (Fr.jnh nk1)
  have kr1:OkR (jad Z' k (id,.kp i 0)) (upd (upd H' dk (.own k)) k (.ins t.j8 dk [])):=(m.kr.same sk).jnh
  have m1:=m.step f1 (λz=>z) (λ_ z=>z.elim) kr1
  refine ⟨_,id,(i:Int),k,dk,sa,ns,rfl,ja,qx,kr1,sa_ m1,by omega,λZ2 H2' A2 R2 f2 kr2=>⟨rfl,?_⟩⟩
  have f12:Fr (isK id i) Z' H' Z2 H2':=(f1.mono λ_ z=>z.elim).trans f2
  have nk2 : ∀ {p:Part},(∀ j,p ≠ .kp (i:Int) j) -> ¬ isK id (i:Int) (id,p):=λhp ⟨j,e⟩=>hp j (Prod.mk.inj e).2
  have mm:=m.step f12 (nk2 λ_ z=>by cases z) (λr ⟨j,e⟩=>by rw [e]) kr2
  have hc2:=hc.fr f12
  obtain ⟨hD2,rD2⟩:=jch f12 hD rD (nk2 λ_ z=>by cases z)
  have ks2:yl t H2' Z2 id kvs ((jbt ls i).map λi=>(i,kp0 ns)):=yl.fr' f12 (λc hc j=>by
   obtain ⟨i',hi',rfl⟩:=mem_map.mp hc
   have:=jzy hi'
   refine nk2 λj' z=>?_
   have:i' = (i:Int):=(Part.kp.inj z).1
   omega) ks
  have nv:jc2 kvs (.inl (i:Int)) = none:=by
   cases e:jc2 kvs (.inl (i:Int)) with
   | none=>rfl
   | some v=>
    exfalso
    have hm:=j35 e
    obtain ⟨j,hj,ej⟩:=mem_iff_getElem.mp hm
    rw [length_map] at hj
    obtain ⟨c,ec,e1,_⟩:=qg ks2 (getElem?_eq_getElem hj)
    rw [List.getElem_map] at ej
    rw [e1] at ej
    obtain ⟨i',hi',rfl⟩:=mem_map.mp (mem_of_getElem? ec)
    have:=jzy hi'
    have:i' = (i:Int):=Sum.inl.inj ej
    omega
  have lk:kvs.length <= 1000:=by
   rw [Paired.length ks2,length_map]
   have:=jtj ls i
   omega
  refine ⟨_,jys.k (k:=.inl (i:Int)) hD2 (zw lk),?_⟩
  rw [jjq _ nv]
  have f3:Fr (isP id .kd) Z2 H2' Z2 (upd H2' D (.dK (kvs ++ [(.inl (i:Int),.ref k)]))):=Fr.put rD2 rfl
  refine ⟨_,_,Z2,rfl,mm.step f3 j3 (λr e=>by rw [e]) kr2.put,hc2.fr f3,rD2,ja,?_⟩
  rw [jly,if_neg nl,map_append]
  exact qq (yl.fr f3 (λ_ _=>j3) ks2) ⟨rfl,k,A2,dk,rfl,R2.fr (λ_=>j3) f3⟩
 .rintro U G10 ⟨v,kvs,Z1,rfl,m10,c10,rD,hD,ks⟩
  clear m8 c8 m9 c9 nD
  refine ⟨_,rfl,x,_,dx,_,rfl,m10.ob,T.jl,T.zm,(by show 4 < 1000; decide),?_⟩
  have m11:=m10.obj (fs':=q5 ns ly ch D)
  have fo11:=m10.fo (fs':=q5 ns ly ch D)
  have c11:=c10.fr fo11
  have k11:=jay fo11 j3 (λ_ _=>j3) rD ⟨kvs,hD,ks⟩
  dsimp only
  generalize upd G10 x (.ins t.qa dx (q5 ns ly ch D)) = G11 at m11 c11 k11
  clear fo11 m10 c10
  refine hN _ _ (ko λN hN=>⟨_,rfl,_,rfl,h,f,rfl,λb db nb ndb neb=>?_⟩)
  have sb:vq G11 (upd G11 db (.own b)):=jf ndb
  have nb1:upd G11 db (.own b) b = none:=by rw [je neb.symm]; exact nb
  refine ⟨b,db,h - f,rfl,ja,λS G12 nS Bq fr=>⟨rfl,?_⟩⟩
  have nS0:G11 S = none:=by
   have nSb:S ≠ b:=λz=>by rw [z,ja] at nS; cases nS
   rw [je nSb] at nS
   exact sb.free nS
  have s12:vq G11 G12:=λc u e=>fr _ _ (by rw [je (jj (sb _ _ e) nb1)]; exact sb _ _ e) (jj e nb)
  have bS:b ≠ S:=jm0 Bq.ob Bq.sg (by intro z; cases z)
  have f12:Fr (λ_=>False) Z1 G11 (jad (jad Z1 b (id,.bd)) S (id,.sd)) G12:=λa u e _=>⟨s12 _ _ e,by rw [zd (jj e nS0),zd (jj e nb)]⟩
  have kr12:OkR (jad (jad Z1 b (id,.bd)) S (id,.sd)) G12:=λa r e=>by
   by_cases z:a = S
   .subst z
    exact ⟨_,Bq.sg,True.intro⟩
   .rw [zd z] at e
    by_cases y:a = b
    .subst y
     exact ⟨_,Bq.ob,True.intro⟩
    .rw [zd y] at e
     obtain ⟨u,hu,nu⟩:=m11.kr a r e
     exact ⟨u,s12 _ _ hu,nu⟩
  have m12:=m11.step f12 (λz=>z) (λ_ z=>z.elim) kr12
  have c12:=c11.fr f12
  have k12:=jay f12 (λz=>z) (λ_ _ z=>z) k11.1 k11.2
  have b12:(jad (jad Z1 b (id,.bd)) S (id,.sd)) b = some (id,.bd) /\ (jad (jad Z1 b (id,.bd)) S (id,.sd)) S = some (id,.sd) /\ ∃ kvs,vu t G12 b db S (h - f) kvs (thP []) /\ j23 (jad (jad Z1 b (id,.bd)) S (id,.sd)) id kvs:=⟨by rw [zd bS,qx],qx,[],Bq,λ_ z=>by cases z⟩
  generalize jad (jad Z1 b (id,.bd)) S (id,.sd) = Z2 at m12 c12 k12 b12 kr12 f12
  clear m11 c11 k11 f12 kr12
  refine ⟨_,rfl,x,_,dx,_,rfl,m12.ob,T.jl,T.xa,(by show 5 < 1000; decide),?_⟩
  have m13:=m12.obj (fs':=q6 ns ly ch D b)
  have fo:=m12.fo (fs':=q6 ns ly ch D b)
  have c13:=c12.fr fo
  have k13:=jay fo j3 (λ_ _=>j3) k12.1 k12.2
  have b13:=jcw fo j3 j3 j3 b12.1 b12.2.1 b12.2.2
  dsimp only
  generalize upd G12 x (.ins t.qa dx (q6 ns ly ch D b)) = G13 at m13 c13 k13 b13
  clear m12 c12 k12 b12 fo
  have hsa:=sa_ m13
  refine hN _ _ (ko λN hN=>⟨_,rfl,sa,rfl,⟨_,SqL.of hsa⟩,jqh (K:=K) (a:=sa) (xs:=ns.map V.int) (λi ys U H'=>∃ v rr Z',U = [v] /\ ys = rr.map V.ref /\ rr.length = i /\ MkW t Z H id x dx (q6 ns ly ch D b) Z' H' /\ Fr (λ_=>False) Z2 G13 Z' H' /\ ∀ (j:Nat) r,rr[j]? = some r -> Z' r = some (id,.row j) /\ H' r = some (.lst [])) ⟨none,[],Z2,rfl,rfl,rfl,m13,Fr.refl,λj r e=>by cases e⟩ ?_ ?_ ?_⟩)
  .rintro i ys U H' hi ⟨v,rr,Z',rfl,rfl,lr,mm,ff,hrr⟩
   rw [length_map] at hi
   refine ⟨SqL.of (sa_ mm),jng ?_⟩
   rw [length_map]
   omega
  .rintro i y ys U H' hy ⟨v,rr,Z',rfl,rfl,lr,mm,ff,hrr⟩
   dsimp only [jh5,j4s]
   rw [if_pos rfl]
   refine ⟨zs0,λp np=>⟨_,rr ++ [p],jad Z' p (id,.row i),rfl,?_,?_,mm.new np,ff.trans (Fr.jnh np),λj r e=>?_⟩⟩
   .rw [map_append]; rfl
   .rw [length_append,lr]; rfl
   .by_cases z:j < rr.length
    .rw [List.getElem?_append_left z] at e
     obtain ⟨q1,q2⟩:=hrr j r e
     have:r ≠ p:=jj q2 np
     exact ⟨by rw [zd this]; exact q1,by rw [je this]; exact q2⟩
    .rw [List.getElem?_append_right (by omega)] at e
     have j0:j = rr.length:=by
      have:=(List.getElem?_eq_some_iff.mp e).1
      simp at this
      omega
     subst j0
     rw [Nat.sub_self] at e
     cases e
     rw [lr]
     exact ⟨qx,ja⟩
  .rintro ys U H' ⟨v,rr,Z3,rfl,rfl,lr,m14,f14,hrr⟩ ak nak
   rw [length_map] at lr
   have c14:=c13.fr f14
   have k14:=jay f14 (λz=>z) (λ_ _ z=>z) k13.1 k13.2
   have b14:=jcw f14 (λz=>z) (λz=>z) (λz=>z) b13.1 b13.2.1 b13.2.2
   have f15:Fr (λ_=>False) Z3 H' (jad Z3 ak (id,.ak)) (upd H' ak (.lst (rr.map V.ref))):=Fr.jnh nak
   have m15:=m14.new (r:=(id,.ak)) nak (u:=.lst (rr.map V.ref))
   have c15:=c14.fr f15
   have k15:=jay f15 (λz=>z) (λ_ _ z=>z) k14.1 k14.2
   have b15:=jcw f15 (λz=>z) (λz=>z) (λz=>z) b14.1 b14.2.1 b14.2.2
   have a15:(jad Z3 ak (id,.ak)) ak = some (id,.ak) /\ ∃ rs,upd H' ak (.lst (rr.map V.ref)) ak = some (.lst (rs.map V.ref)) /\ jsn (upd H' ak (.lst (rr.map V.ref))) (jad Z3 ak (id,.ak)) id rs (List.replicate ns.length []):=by
    refine ⟨qx,rr,ja,by rw [lr,length_replicate],λi r os e1 e2=>?_⟩
    obtain ⟨q1,q2⟩:=hrr i r e1
    obtain ⟨q3,q4⟩:=jch f15 q2 q1 (λz=>z)
    have:os = []:=eq_of_mem_replicate (mem_of_getElem? e2)
    subst this
    exact ⟨q4,[],q3,.nil⟩
   generalize jad Z3 ak (id,.ak) = Z4 at f15 m15 c15 k15 b15 a15
   refine ⟨_,rfl,x,_,dx,_,rfl,m15.ob,T.jl,T.jbx,(by show 6 < 1000; decide),?_⟩
   have m16:=m15.obj (fs':=q7 ns ly ch D b ak)
   have fo:=m15.fo (fs':=q7 ns ly ch D b ak)
   have c16:=c15.fr fo
   have k16:=jay fo j3 (λ_ _=>j3) k15.1 k15.2
   have b16:=jcw fo j3 j3 j3 b15.1 b15.2.1 b15.2.2
   have a16:=jha fo j3 (λ_=>j3) a15.1 a15.2
   dsimp only
   generalize upd (upd H' ak (.lst (rr.map V.ref))) x (.ins t.qa dx (q7 ns ly ch D b ak)) = G16 at m16 c16 k16 b16 a16
   refine hN _ _ ⟨zs0,λwy nwy=>?_⟩
   have f17:Fr (λ_=>False) Z4 G16 (jad Z4 wy (id,.wy)) (upd G16 wy (.lst [])):=Fr.jnh nwy
   have m17:=m16.new (r:=(id,.wy)) nwy (u:=.lst [])
   have c17:=c16.fr f17
   have k17:=jay f17 (λz=>z) (λ_ _ z=>z) k16.1 k16.2
   have b17:=jcw f17 (λz=>z) (λz=>z) (λz=>z) b16.1 b16.2.1 b16.2.2
   have a17:=jha f17 (λz=>z) (λ_ z=>z) a16.1 a16.2
   refine ⟨_,rfl,x,_,dx,_,rfl,m17.ob,T.jl,T.zh,(by show 7 < 1000; decide),?_⟩
   have m18:=m17.obj (fs':=wof (ns.map V.int).length ns.sum ly ch D b ak wy)
   have fo18:=m17.fo (fs':=wof (ns.map V.int).length ns.sum ly ch D b ak wy)
   have c18:=c17.fr fo18
   have k18:=jay fo18 j3 (λ_ _=>j3) k17.1 k17.2
   have b18:=jcw fo18 j3 j3 j3 b17.1 b17.2.1 b17.2.2
   have a18:=jha fo18 j3 (λ_=>j3) a17.1 a17.2
   have y18:=jv8 (way:=[]) fo18 j3 qx ⟨[],ja,.nil⟩
   refine k _ _ ⟨x,dx,ns.sum,ly,ch,D,b,ak,wy,db,S⟩ rfl rfl ⟨⟨?_,m18.rx⟩,c18.c,k18,b18,a18,y18⟩ c18.l m18.fr m18.kr
   refine (m18.ob).trans ?_
   show some (HO.ins t.qa dx (wof ((ns.map V.int).length:Int) ns.sum ly ch D b ak wy)) = some (HO.ins t.qa dx (wof (ns.length:Int) ns.sum ly ch D b ak wy))
   rw [length_map]
theorem jln (T:Txt K mg t):xj P w K mg base CX0 3 t.jag t.jai ["self","liar"] (λvs H Q _=>∃Z id W Y h ls,vs=[.ref W.x,.int h]/\qu t H Z id W Y/\H W.ly=some (.lst ((ls:List Int).map V.int))/\h∈ls/\Q .non H):=by refine T.je6.okB (N:=["self","liar"]) λ_ A _ s H vs Q E hr h=>?_;obtain⟨Z,id,W,Y,h,ls,rfl,O,hl,hm,g⟩:=h;refine⟨_,(@jd _ _ _ (qv (PW.pt (jhx (qz (qr (jm (jle T) hr.dn rfl T.jjt T.jf4.kp T.jjr .nil jo (jc (pv 1) jg)))) (jb4 (jv je7 (pv 1) (j5 (pv 0) rfl) (by with_unfolding_all rfl))))) qf j4)),?_⟩;refine⟨_,rfl,h,rfl,_,rfl,yq ?_⟩;refine⟨_,rfl,_,rfl,W.x,_,W.dx,_,_,rfl,O.ob.1,T.jl,T.jfm,j00,W.ly,_,rfl,.inl (SqL.of hl),rfl,jcc _,_,rfl,?_⟩;rw[if_pos rfl,gc,decide_eq_true hm];exact yq g
theorem j0u {K:W.Frag}{H:Hp}{Z:Rho}{xs:List V}{os:List O}(p:Paired (xi H Z) xs os):Paired (j0t K H) xs (os.map x9):=by
 induction p with
 |nil=>exact .nil
 |cons h _ ih=>obtain⟨a,e,_,q⟩:=h;exact .cons ⟨a,e,SqT.of q⟩ ih
noncomputable def Wd.may (Y:Wd)(o:O):Prop:=o.p∈Y.ki\/∃row,Y.asked[o.p.toNat]?=some row/\o∈row
theorem jiv (T:Txt K mg t):xj P w K mg base CX0 6 t.jlh t.jks ["self","liar","order"] (λvs H Q _=>∃Z id W Y h q o ls a b c,vs=[.ref W.x,.int h,.ref q]/\qu t H Z id W Y/\OkR Z H/\H W.ly=some (.lst ((ls:List Int).map V.int))/\h∈ls/\xi H Z (.ref q) o/\ye Y.n o=true/\Y.may o/\Sz Y a b c/\a+1<=1000/\b+1<=1000/\c+16<=100000/\∀Z' H',qu t H' Z' id W (Y.zj h [o])->Fr (j5y id) Z H Z' H'->OkR Z' H'->Q .non H'):=by
 refine T.jqc.okB (N:=["self","liar","order"]) λ_ A _ s H vs Q E hr h=>?_;obtain⟨Z,id,W,Y,h,q,o,ls,a,b,c,rfl,O,kr,hl,hm,uq,ho,may,sz,la,lb,lc,g⟩:=h;refine⟨_,(@jb _ _ _ _ _ (qk (qi (pv 0) T.jl T.jdx (jln T) hr.dn T.jes .nil jo (jc (pv 1) jg))) (@jb _ _ _ _ _ (qk (qi (pv 0) T.jl T.yc (ka T) hr.dn T.yw .nil jo (jc (pv 2) jg))) (@jb _ _ _ _ _ (qv (PW.pt (jkk (jv je7 (ya jdm (pv 2) jk (λ_ _=>rfl)) (j5 (pv 0) rfl) (by with_unfolding_all rfl)) (jgr (jv (jp1 hr.units) (pv 2) (ya yp (j5 (pv 0) rfl) (ya jdm (pv 2) jk (λ_ _=>rfl)) (λ_ _=>rfl)) (by with_unfolding_all rfl))))) qf j4) (@jd _ _ _ (qk (qi (pv 0) T.jl T.vz (jas T) hr.dn T.gp .nil jo (@yk _ _ _ _ _ (pv 1) (@zf _ _ _ _ (jc (pv 2) jg)) rfl rfl))))))),?_⟩;have uq':=uq;obtain⟨_,eq,nq,hq⟩:=uq';cases eq;refine⟨_,rfl,W.x,W.dx,_,rfl,O.ob.1,xw,_,rfl,Z,id,W,Y,h,ls,rfl,O,hl,hm,?_⟩;refine⟨_,rfl,W.x,W.dx,_,rfl,O.ob.1,xw,_,rfl,Z,id,W,Y,q,o,rfl,O,hq,ho,?_⟩;refine⟨_,rfl,q,jna o,0,.int o.p,rfl,rfl,SqT.of hq,rfl,_,rfl,W.x,_,W.dx,_,_,rfl,O.ob.1,T.jl,T.yf,ji3,W.ch,_,rfl,.inl (SqL.of O.ch.1),rfl,jcc _,_,rfl,?_⟩;rw[if_pos rfl,gc];refine jhz (λz=>?_) (λ_=>yq ?_)
 rotate_left
 .refine⟨_,rfl,W.x,W.dx,_,rfl,O.ob.1,xw,_,rfl,_,rfl,zs1,λL nL=>?_⟩;have s1:=jf (o:=.lst [.ref q]) nL;refine⟨Z,id,W,Y,h,L,[.ref q],[o],a,b,c,rfl,O.fr (P:=λ_=>False) (λ_ z=>z) (Fr.same s1),kr.same s1,ja,λro e=>?_,.cons (uq.fr (P:=λ_=>False) (Fr.same s1)) .nil,sz,la,lb,lc,λZ' H' O' f' kr'=>g Z' H' O' ((Fr.same s1).trans f') kr'⟩;rw[kr.none nL]at e;cases e
 have nc:o.p∉Y.ki:=by simpa using z
 obtain⟨row,er,om⟩:∃row,Y.asked[o.p.toNat]?=some row/\o∈row:=may.resolve_left nc;obtain⟨ra,rs,ha,hrows⟩:=O.ak;obtain⟨r,ers⟩:∃r,rs[o.p.toNat]?=some r:=⟨_,getElem?_eq_getElem (by rw[hrows.1];exact(List.getElem?_eq_some_iff.mp er).1)⟩;obtain⟨rr,xs,hr0,px⟩:=hrows.2 _ _ _ ers er;have p0:0<=o.p:=(jam.mp ho).1;refine⟨_,rfl,_,rfl,W.x,_,W.dx,_,_,rfl,O.ob.1,T.jl,T.jbx,jt5,_,rfl,q,jna o,0,.int o.p,rfl,rfl,SqT.of hq,rfl,W.ak,_,o.p,.ref r,rfl,rfl,SqL.of ha,jef p0 (by rw[getElem?_map,ers];rfl),?_⟩;refine⟨r,xs,x9 o,row.map x9,rfl,SqL.of hr0,⟨q,rfl,SqT.of hq⟩,j0u px,_,rfl,?_⟩;rw[if_pos rfl,decide_eq_true (mem_map_of_mem om)];refine yq ?_;refine⟨_,rfl,W.x,W.dx,_,rfl,O.ob.1,xw,_,rfl,_,rfl,zs1,λL nL=>?_⟩;have s1:=jf (o:=.lst [.ref q]) nL;refine⟨Z,id,W,Y,h,L,[.ref q],[o],a,b,c,rfl,O.fr (P:=λ_=>False) (λ_ z=>z) (Fr.same s1),kr.same s1,ja,λro e=>?_,.cons (uq.fr (P:=λ_=>False) (Fr.same s1)) .nil,sz,la,lb,lc,λZ' H' O' f' kr'=>g Z' H' O' ((Fr.same s1).trans f') kr'⟩;rw[kr.none nL]at e;cases e
theorem jtr (T:Txt K mg t):xj P w K mg base CX0 6 t.jik t.jh2 ["self","order","house"] (λvs H Q _=>∃Z id W Y q o h B,vs=[.ref W.x,.ref q,.int h]/\qu t H Z id W Y/\OkR Z H/\xi H Z (.ref q) o/\ye Y.n o=true/\Y.keep h=some B/\Y.carried o=true/\Y.way.length<=100000/\∀H',qu t H' Z id W {Y with way:=Y.way++[(false,h,o)]}->Fr (isP id .wy) Z H Z H'->OkR Z H'->Q .non H'):=by
 refine T.jol.okB (N:=["self","order","house"]) λ_ A _ s H vs Q E hr h=>?_;obtain⟨Z,id,W,Y,q,o,h,B,rfl,O,kr,uq,ho,ek,ecr,l,g⟩:=h;refine⟨_,(@jb _ _ _ _ _ (qk (qi (pv 0) T.jl T.jar (je3 T) hr.dn T.jbl .nil jo (jc (pv 2) jg))) (@jb _ _ _ _ _ (qv (PW.pt (jhx (qz (qr (jde (jhg T) hr.dn rfl T.jf7 T.jdh.kp T.jew jo (jc (pv 1) jg) (yt (j5 (pv 0) rfl) jjb)))) (jb4 (qz (qr (qi (j5 (pv 0) rfl) T.xp T.xn (yx T) hr.dn T.xx .nil jo (jc (pv 1) jg))))))) qf j4) (@jd _ _ _ (qk (jjx PySem.F.plainAttrs_list PySem.F.slot_list_append PySem.F.type_list_append wz (j5 (pv 0) rfl) (jc (@jgb _ _ _ _ _ (@jlv _ _ _ _ _ _ _ (ze (v:=.str "paper") rfl T.jfp.choose_spec ⟨_,rfl⟩) (pv 2) (pv 1) rfl rfl rfl)) jg)))))),?_⟩;have uq':=uq;obtain⟨_,eq,nq,hq⟩:=uq';cases eq;refine⟨_,rfl,W.x,W.dx,_,rfl,O.ob.1,xw,_,rfl,Z,id,W,Y,h,B,rfl,O,ek,λk A' dk R=>?_⟩;refine⟨_,rfl,_,rfl,W.x,_,W.dx,_,_,rfl,O.ob.1,T.jl,T.wj,jnt,q,o,(Y.n:Int),rfl,hq,_,rfl,?_⟩;rw[ho];refine yq ?_;obtain⟨rb,rS,bvs,Bq,sg⟩:=O.bd;refine⟨_,rfl,W.x,_,W.dx,_,_,rfl,O.ob.1,T.jl,T.xa,jf1,W.bd,W.db,_,rfl,Bq.ob,jqn _ _ (by decide+kernel) (by decide+kernel),_,rfl,W.bd,W.db,W.S,Y.en,bvs,thP Y.bd,q,jl0 o,rfl,Bq.rd,hq,λH1 s1=>⟨_,rfl,?_⟩⟩;have ec:decide (Y.en<=((qh (thP Y.bd) (jl0 o)).length:Int))=Y.carried o:=by
  unfold Wd.carried;rw[show qh (thP Y.bd) (jl0 o)=jz Y.bd (x9 o)from jbo (x9 o) Y.bd]
 rw[ec,ecr];refine yq ?_;have O1:=O.fr (P:=λ_=>False) (λ_ z=>z) (Fr.same s1);have kr1:=kr.same s1;have uq1:=uq.fr (P:=λ_=>False) (Fr.same s1);have f1:Fr (isP id .wy) Z H Z H1:=Fr.same s1;obtain⟨rw_,xs,hw,pw⟩:=O1.wy;refine⟨_,rfl,W.x,_,W.dx,_,_,rfl,O1.ob.1,T.jl,T.zh,jdg,.inl ⟨rfl,_,SqL.of hw⟩,_,rfl,_,rfl,zs3,λp np=>?_⟩;have sp:=jf (o:=.tup [.str "paper",.int h,.ref q]) np;have lx:xs.length<=1000000:=by rw[Paired.length pw];omega
 refine⟨W.wy,xs,.ref p,rfl,rfl,sp _ _ hw,big lx,?_⟩;have O2:=O1.fr (P:=λ_=>False) (λ_ z=>z) (Fr.same sp);have f2:Fr (isP id .wy) Z (upd H1 p (.tup [.str "paper",.int h,.ref q])) Z (upd (upd H1 p (.tup [.str "paper",.int h,.ref q])) W.wy (.lst (xs++[.ref p]))):=Fr.put rw_ rfl;have f0:Fr (isP id .wy) Z H1 Z (upd H1 p (.tup [.str "paper",.int h,.ref q])):=Fr.same sp;refine g _ (O2.but f2 _ j3 rfl rfl (jay f2 j3 (λ_ _=>j3)) (jcw f2 j3 j3 j3) (jha f2 j3 (λ_=>j3)) (λ_ _=>⟨rw_,_,ja,?_⟩)) ((f1.trans f0).trans f2) (kr1.same sp).put;have np0:=kr1.none np;refine qq (Paired.vf pw λ_ _=>joi.fr (f0.trans f2)) ⟨p,q,rfl,np0,?_,uq1.fr (f0.trans f2)⟩;rw[je (neu np0 rw_),ja];rfl
theorem yo {α:Type}[DecidableEq α]:∀{xs ys:List α},xs.Nodup->(∀x∈xs,x∈ys)->xs.length<=ys.length
 |[],_,_,_=>zero_le _
 |x::xs,ys,nd,h=>by rw[nodup_cons]at nd;have hx:=h x mem_cons_self;have:=yo (xs:=xs) (ys:=ys.erase x) nd.2 λy hy=>(List.mem_erase_of_ne (λz=>nd.1 (by rw[<-z];exact hy))).mpr (h y (mem_cons_of_mem _ hy));rw[length_erase_of_mem hx]at this;have:=length_pos_of_mem hx;rw[length_cons];omega
theorem j42 (B:Kp)(o:O)(a:Gv):(gvS B o a).1.length+(gvS B o a).2.2.length<=a.1.length+a.2.2.length+1:=by
 unfold gvS;split
 .simp;omega
 .split
  .simp;omega
  .omega
theorem j3n (B:Kp):∀(os:List O)(a:Gv),(gv B os a).1.length+(gv B os a).2.2.length<=a.1.length+a.2.2.length+os.length
 |[],a=>by simp[gv]
 |o::os,a=>by have h1:=j3n B os (gvS B o a);have h2:=j42 B o a;unfold gv at h1⊢;rw[foldl_cons,length_cons];omega
theorem jso (B:Kp){P:O->Prop}:∀(os:List O)(a:Gv),(∀o∈os,P o)->(∀o∈a.2.1,P o)->∀o∈(gv B os a).2.1,P o
 |[],a,_,h=>h
 | o::os,a,h1,h2=>by
  unfold gv;rw[foldl_cons];refine jso B os _ (λo' h=>h1 o' (mem_cons_of_mem _ h)) ?_;unfold gvS;split
  .intro o' h;rcases mem_append.mp h with h|h
   .exact h2 o' h
   .rw[mem_singleton.mp h];exact h1 o mem_cons_self
  .split
   .exact h2
   .exact h2
structure KIn (L:List O)(m n:Nat)(B:Kp):Prop where
 ok:B.Ok n
 sz:KSz B m
 u:∀o∈B.unv,o∈L
 w:∀o∈B.wait,o∈L
theorem KIn.zj {L:List O}{m n:Nat}{B:Kp}(k:KIn L m n B):KIn L m n B.zj.1/\(∀o∈B.zj.2,o∈L)/\B.zj.2.length<=m:=by
 refine⟨⟨k.ok.zj,⟨k.sz.hd,?_,k.sz.dw⟩,jsv B B.unv _ k.u (λo h=>by cases h),k.w⟩,jso B B.unv _ k.u (λo h=>by cases h),?_⟩
 .have h1:=j3n B B.unv (B.cho,[],[]);have h2:=k.sz.uc;show(gv B B.unv (B.cho,[],[])).2.2.length+(gv B B.unv (B.cho,[],[])).1.length<=m;simp at h1;omega
 .have h1:=(jzf B B.unv (B.cho,[],[])).2.1;have h2:=k.sz.uc;show(gv B B.unv (B.cho,[],[])).2.1.length<=m;simp at h1;omega
theorem KIn.go {L:List O}{m n:Nat}:∀{j:Nat}{B:Kp},KIn L m n B->KIn L m n (Kp.go j B)
 |0,_,k=>k
 | j+1,B,k=>by
  unfold Kp.go;cases e:B.first with
  |none=>exact k
  |some o=>
   have om:=jmr e;have l2:(B.step o).wait.length=B.wait.length-1:=length_erase_of_mem om;have l1:(B.step o).done.length=B.done.length+1:=by show(B.done++[o]).length=_;rw[length_append];rfl
   have:=length_pos_of_mem om;have:=k.sz.dw;exact KIn.go (B:=B.step o) ⟨k.ok.step o,⟨k.sz.hd,k.sz.uc,by omega⟩,k.u,λo' h=>k.w o' (List.mem_of_mem_erase h)⟩
theorem KIn.mono {L L':List O}{m m' n:Nat}{B:Kp}(k:KIn L m n B)(h1:∀o∈L,o∈L')(h2:m<=m'):KIn L' m' n B:=⟨k.ok,⟨le_trans k.sz.hd h2,le_trans k.sz.uc h2,le_trans k.sz.dw h2⟩,λo h=>h1 o (k.u o h),λo h=>h1 o (k.w o h)⟩
theorem KIn.take {L:List O}{m n:Nat}{B:Kp}(k:KIn L m n B)(b:Bool){o:O}(ol:o∈L)(ho:ye n o=true):KIn L (m+1) n (B.take b o).1/\(∀o'∈(B.take b o).2,o'∈L)/\(B.take b o).2.length<=m+1:=by
 have h1:=k.sz.hd;have h2:=k.sz.uc;have h3:=k.sz.dw;have nil_:KIn L (m+1) n B/\(∀o'∈([]:List O),o'∈L)/\([]:List O).length<=m+1:=⟨k.mono (λ_ h=>h) (by omega),(λ_ z=>by cases z),zero_le _⟩;unfold Kp.take;split
 .unfold Kp.j5n;split
  .exact nil_
  .refine KIn.zj (m:=m+1) ⟨⟨k.ok.h,k.ok.x,λu hu=>?_,k.ok.w,k.ok.nd⟩,⟨by show(B.jf5++[o]).length<=m+1;rw[length_append];show B.jf5.length+1<=m+1;omega,by show(B.unv++[o]).length+B.cho.length<=m+1;rw[length_append];show B.unv.length+1+B.cho.length<=m+1;omega,by show B.done.length+B.wait.length<=m+1;omega⟩,λu hu=>?_,k.w⟩
   .rcases mem_append.mp hu with hu|hu
    .exact k.ok.u u hu
    .rw[mem_singleton.mp hu];exact ho
   .rcases mem_append.mp hu with hu|hu
    .exact k.u u hu
    .rw[mem_singleton.mp hu];exact ol
 .unfold Kp.jqq;split
  .exact nil_
  .rename_i nz;have no:¬o∈B.wait:=λz=>nz (by rw[decide_eq_true z,Bool.or_true]);refine KIn.zj (m:=m+1) (KIn.go ⟨⟨k.ok.h,k.ok.x,k.ok.u,λu hu=>?_,?_⟩,⟨by show B.jf5.length<=m+1;omega,by show B.unv.length+B.cho.length<=m+1;omega,by show B.done.length+(B.wait++[o]).length<=m+1;rw[length_append];show B.done.length+(B.wait.length+1)<=m+1;omega⟩,k.u,λu hu=>?_⟩)
   .rcases mem_append.mp hu with hu|hu
    .exact k.ok.w u hu
    .rw[mem_singleton.mp hu];exact ho
   .exact nodup_append.mpr ⟨k.ok.nd,by simp,λx hx y hy e=>by rw[mem_singleton.mp hy]at e;subst e;exact no hx⟩
   .rcases mem_append.mp hu with hu|hu
    .exact k.w u hu
    .rw[mem_singleton.mp hu];exact ol
structure BIn (L:List O)(hs:List Int)(is:xr):Prop where
 nd:(is.map (·.1)).Nodup
 ks:∀x∈is,∃o∈L,x.1=x9 o
 hn:∀x∈is,x.2.Nodup/\∀h∈x.2,h∈hs
theorem juq {k:List Int}{h:Int}:∀{is:xr}{y:List Int},y∈(jeo is k h).map (·.1)->y∈is.map (·.1)\/y=k
 |[],y,hy=>.inr (mem_singleton.mp hy)
 | p::ps,y,hy=>by
  unfold jeo at hy;split at hy
  .rw[map_cons,mem_cons]at hy⊢;exact .inl hy
  .rw[map_cons,mem_cons]at hy⊢;rcases hy with hy|hy
   .exact .inl (.inl hy)
   .rcases juq hy with h|h
    .exact .inl (.inr h)
    .exact .inr h
theorem BIn.sign {L:List O}{hs:List Int}{o:O}{h:Int}(ol:o∈L)(hh:h∈hs):∀{is:xr},BIn L hs is->h∉jz is (x9 o)->BIn L hs (jeo is (x9 o) h)
 |[],_,_=>⟨by simp[jeo],λx hx=>by rw[mem_singleton.mp hx];exact⟨o,ol,rfl⟩,λx hx=>by rw[mem_singleton.mp hx];exact⟨by simp,λy hy=>by rw[mem_singleton.mp hy];exact hh⟩⟩
 | p ::ps,b,hn=>by
  have bt:BIn L hs ps:=⟨(nodup_cons.mp b.nd).2,λx hx=>b.ks x (mem_cons_of_mem _ hx),λx hx=>b.hn x (mem_cons_of_mem _ hx)⟩;unfold jeo;unfold jz at hn;split
  .rename_i z;rw[if_pos z]at hn;refine⟨b.nd,λx hx=>?_,λx hx=>?_⟩
   .rcases mem_cons.mp hx with rfl|hx
    .exact b.ks p mem_cons_self
    .exact bt.ks x hx
   .rcases mem_cons.mp hx with rfl|hx
    .obtain⟨q1,q2⟩:=b.hn p mem_cons_self;refine⟨nodup_append.mpr ⟨q1,by simp,λx1 hx1 y1 hy1 e=>by rw[mem_singleton.mp hy1]at e;subst e;exact hn hx1⟩,λy hy=>?_⟩;rcases mem_append.mp hy with hy|hy
     .exact q2 y hy
     .rw[mem_singleton.mp hy];exact hh
    .exact bt.hn x hx
  .rename_i z;rw[if_neg z]at hn;have ih:=bt.sign ol hh hn;refine⟨?_,λx hx=>?_,λx hx=>?_⟩
   .rw[map_cons,nodup_cons];refine⟨λy=>?_,ih.nd⟩;rcases juq y with y|y
    .exact(nodup_cons.mp b.nd).1 y
    .exact z y
   .rcases mem_cons.mp hx with rfl|hx
    .exact b.ks _ mem_cons_self
    .exact ih.ks x hx
   .rcases mem_cons.mp hx with rfl|hx
    .exact b.hn _ mem_cons_self
    .exact ih.hn x hx
theorem BIn.len {L:List O}{hs:List Int}{is:xr}(b:BIn L hs is):is.length<=L.length/\∀x∈is,x.2.length<=hs.length:=by
 refine⟨?_,λx hx=>yo (b.hn x hx).1 (b.hn x hx).2⟩;have:=yo (ys:=L.map x9) b.nd λy hy=>by obtain⟨x,hx,rfl⟩:=mem_map.mp hy;obtain⟨o,ol,e⟩:=b.ks x hx;rw[e];exact mem_map_of_mem ol
 rwa[length_map,length_map]at this
structure Wd.j1b (Y Y':Wd):Prop where
 n:Y'.n=Y.n
 c:Y'.ki=Y.ki
 k:Y'.ks=Y.ks
 e:Y'.en=Y.en
 a:Y'.asked=Y.asked
theorem Wd.j1b.trans {a b c:Wd}(x:a.j1b b)(y:b.j1b c):a.j1b c:=⟨y.n.trans x.n,y.c.trans x.c,y.k.trans x.k,y.e.trans x.e,y.a.trans x.a⟩
theorem jpe (Y:Wd)(h:Int)(o:O):Y.j1b (Y.put h o).1:=by
 unfold Wd.put;split
 .exact⟨rfl,rfl,rfl,rfl,rfl⟩
 .exact⟨rfl,rfl,rfl,rfl,rfl⟩
theorem jme (Y:Wd)(h:Int)(o:O):Y.j1b (Y.jj4 h o):=by
 have p:=jpe Y h o;unfold Wd.jj4;split
 .exact⟨p.n,p.c,p.k,p.e,p.a⟩
 .exact p
theorem jsk {Y:Wd}{h:Int}(m:h∈Y.ks.map (·.1)):∃B,Y.keep h=some B/\(h,B)∈Y.ks:=by
 unfold Wd.keep;cases e:Y.ks.find? λc=>decide (c.1=h)with
 |none=>obtain⟨c,hc,rfl⟩:=mem_map.mp m;have:=List.find?_eq_none.mp e c hc;simp at this
 |some c=>have h1:c.1=h:=of_decide_eq_true (List.find?_some (p:=λc:Int×Kp=>decide (c.1=h)) e);refine⟨c.2,rfl,?_⟩;rw[<-h1];exact List.mem_of_find?_eq_some e
theorem jgl {k k':List Int}{h:Int}:∀{is:xr},jz (jeo is k h) k'=if k'=k then jz is k++[h]else jz is k'
 |[]=>by
  show(if k=k' then[h]else[])=_;by_cases z:k'=k
  .rw[if_pos z,if_pos z.symm];rfl
  .rw[if_neg z,if_neg (λy=>z y.symm)];rfl
 | p::ps=>by
  unfold jeo;by_cases y:p.1=k
  .rw[if_pos y];show(if p.1=k' then p.2++[h]else jz ps k')=if k'=k then(if p.1=k then p.2 else jz ps k)++[h]else if p.1=k' then p.2 else jz ps k';by_cases z:k'=k
   .rw[if_pos z,if_pos y,if_pos (by rw[y,z])]
   .rw[if_neg z,if_neg (λq=>z (by rw[<-q,y])),if_neg (λq=>z (by rw[<-q,y]))]
  .rw[if_neg y];show(if p.1=k' then p.2 else jz (jeo ps k h) k')=if k'=k then(if p.1=k then p.2 else jz ps k)++[h]else if p.1=k' then p.2 else jz ps k';rw[jgl (is:=ps),if_neg y];by_cases z:k'=k
   .rw[if_pos z,if_pos z,if_neg (λq=>y (by rw[q,z]))]
   .rw[if_neg z,if_neg z]
theorem jyr (Y:Wd)(h:Int)(o:O)(k:List Int):(jz Y.bd k).length<=(jz (Y.put h o).1.bd k).length:=by
 unfold Wd.put;split
 .exact le_refl _
 .show _<=(jz (jeo Y.bd (x9 o) h) k).length;rw[jgl];split
  .rename_i z;rw[z,length_append];omega
  .exact le_refl _
theorem jvy (Y:Wd)(h:Int)(o u:O)(c:Y.carried u=true):(Y.put h o).1.carried u=true:=by have e:=(jpe Y h o).e;have l:=jyr Y h o (x9 u);unfold Wd.carried at c⊢;have:=of_decide_eq_true c;exact decide_eq_true (by rw[e];omega)
theorem j5j {Y:Wd}{h:Int}{o:O}(c:(Y.put h o).2=true):(Y.put h o).1.carried o=true:=by
 unfold Wd.put at c⊢;split at c
 .cases c
 .rename_i z;rw[if_neg z];have:=of_decide_eq_true c;refine decide_eq_true ?_;show Y.en<=((jz (jeo Y.bd (x9 o) h) (x9 o)).length:Int);rw[jgl,if_pos rfl,length_append];show Y.en<=(((jz Y.bd (x9 o)).length+1:Nat):Int);omega
theorem jq0 (Y:Wd)(h:Int)(o:O):(Y.jj4 h o).bd=(Y.put h o).1.bd:=by unfold Wd.jj4;split<;>rfl
theorem jov {Y:Wd}{h:Int}{o u:O}(c:Y.carried u=true):(Y.jj4 h o).carried u=true:=by have:=jvy Y h o u c;unfold Wd.carried at this⊢;rw[jq0,(jme Y h o).e,<-(jpe Y h o).e];exact this
structure WG (Y:Wd)(L:List O)(hb:List Int):Prop where
 b:BIn L hb Y.bd
 y:∀x∈Y.way,x.2.2∈L/\x.2.1∈Y.ks.map (·.1)/\(x.1=false->Y.carried x.2.2=true)
theorem WG.jj4 {Y:Wd}{L:List O}{hb:List Int}{h:Int}{o:O}(g:WG Y L hb)(ol:o∈L)(hh:h∈hb):WG (Y.jj4 h o) L hb/\(Y.jj4 h o).way.length<=Y.way.length+Y.ks.length:=by
 have pb:BIn L hb (Y.put h o).1.bd/\(Y.put h o).1.way=Y.way/\(Y.put h o).1.ks=Y.ks:=by
  unfold Wd.put;split
  .exact⟨g.b,rfl,rfl⟩
  .rename_i hn;exact⟨g.b.sign ol hh hn,rfl,rfl⟩
 have lk:=jme Y h o;have old:∀x∈Y.way,x.2.2∈L/\x.2.1∈(Y.jj4 h o).ks.map (·.1)/\(x.1=false->(Y.jj4 h o).carried x.2.2=true):=λx hx=>by obtain⟨a,b,c⟩:=g.y x hx;exact⟨a,by rw[lk.k];exact b,λe=>jov (c e)⟩
 by_cases z:(Y.put h o).2=true
 .have ew:(Y.jj4 h o).way=Y.way++Y.ks.map λc=>(false,c.1,o):=by
   unfold Wd.jj4;rw[if_pos z];show(Y.put h o).1.way++_=_;rw[pb.2.1,pb.2.2]
  refine⟨⟨by rw[jq0];exact pb.1,λx hx=>?_⟩,by rw[ew,length_append,length_map];exact le_refl _⟩;rw[ew]at hx;rcases mem_append.mp hx with hx|hx
  .exact old x hx
  .obtain⟨c,hc,rfl⟩:=mem_map.mp hx;refine⟨ol,by rw[lk.k];exact mem_map_of_mem hc,λ_=>?_⟩;have:=j5j z;unfold Wd.carried at this⊢;rw[jq0,lk.e,<-(jpe Y h o).e];exact this
 .have ew:(Y.jj4 h o).way=Y.way:=by
   unfold Wd.jj4;rw[if_neg z,pb.2.1]
  exact⟨⟨by rw[jq0];exact pb.1,λx hx=>old x (by rw[<-ew];exact hx)⟩,by rw[ew];omega⟩
theorem WG.zj {L:List O}{hb:List Int}{h:Int}(hh:h∈hb):∀{os:List O}{Y:Wd},(∀o∈os,o∈L)->WG Y L hb->WG (Y.zj h os) L hb/\Y.j1b (Y.zj h os)/\(∀u,Y.carried u=true->(Y.zj h os).carried u=true)/\(Y.zj h os).way.length<=Y.way.length+Y.ks.length*os.length
 |[],Y,_,g=>⟨g,⟨rfl,rfl,rfl,rfl,rfl⟩,λ_ h=>h,le_refl _⟩
 |o::os,Y,ol,g=>by obtain⟨g1,l1⟩:=g.jj4 (ol o mem_cons_self) hh;have lk:=jme Y h o;obtain⟨g2,k2,c2,l2⟩:=WG.zj hh (os:=os) (Y:=Y.jj4 h o) (λo' h'=>ol o' (mem_cons_of_mem _ h')) g1;refine⟨g2,lk.trans k2,λu hu=>c2 u (jov hu),?_⟩;show((Y.jj4 h o).zj h os).way.length<=_;rw[lk.k]at l2;rw[length_cons,Nat.mul_succ];omega
structure Gn (Y:Wd)(T M:Nat)(L:List O)(ls ns:List Int):Prop where
 ok:Y.Ok
 l:L.length<=T
 lo:∀o∈L,ye Y.n o=true
 mw:∀o∈L,Y.may o
 ks:∀c∈Y.ks,KIn L T Y.n c.2
 g:WG Y L (Y.ks.map (·.1)++ls)
 wl:Y.way.length<=M
 al:∀row∈Y.asked,row.length<=T
 e1:1<=Y.en
theorem BIn.mono {L L':List O}{hs:List Int}{is:xr}(b:BIn L hs is)(h:∀o∈L,o∈L'):BIn L' hs is:=⟨b.nd,λx hx=>let⟨o,a,c⟩:=b.ks x hx;⟨o,h o a,c⟩,b.hn⟩
section
variable {Y:Wd}{T M T' M':Nat}{L:List O}{ls ns:List Int}
theorem Gn.mono (g:Gn Y T M L ls ns)(hT:T<=T')(hM:M<=M'):Gn Y T' M' L ls ns:=⟨g.ok,le_trans g.l hT,g.lo,g.mw,λc hc=>(g.ks c hc).mono (λ_ h=>h) hT,g.g,le_trans g.wl hM,λrow hr=>le_trans (g.al row hr) hT,g.e1⟩
theorem Gn.j3e (g:Gn Y T M L ls ns){b:Bool}{h:Int}{o:O}(ol:o∈L)(hh:h∈Y.ks.map (·.1))(hb:b=false->Y.carried o=true):Gn {Y with way:=Y.way++[(b,h,o)]} T (M+1) L ls ns:=by
 refine⟨⟨g.ok.n8,g.ok.al,g.ok.ao,g.ok.ks,g.ok.nd,g.ok.k0,g.ok.k1⟩,g.l,g.lo,g.mw,g.ks,⟨g.g.b,λx hx=>?_⟩,?_,g.al,g.e1⟩
 .rcases mem_append.mp (show x∈Y.way++[(b,h,o)]from hx)with hx|hx
  .exact g.g.y x hx
  .rw[mem_singleton.mp hx];exact⟨ol,hh,hb⟩
 .show(Y.way++[(b,h,o)]).length<=M+1;rw[length_append];have:=g.wl;show Y.way.length+1<=M+1;omega
theorem Gn.more (g:Gn Y T M L ls ns){o:O}(ho:ye Y.n o=true)(hm:Y.may o):Gn Y (T+1) M (o::L) ls ns:=by
 have sub:∀u∈L,u∈o::L:=λu h=>mem_cons_of_mem _ h;refine⟨g.ok,by rw[length_cons];have:=g.l;omega,λu hu=>?_,λu hu=>?_,λc hc=>(g.ks c hc).mono sub (by omega),⟨g.g.b.mono sub,λx hx=>?_⟩,g.wl,λrow hr=>le_succ_of_le (g.al row hr),g.e1⟩
 .rcases mem_cons.mp hu with rfl|hu
  .exact ho
  .exact g.lo u hu
 .rcases mem_cons.mp hu with rfl|hu
  .exact hm
  .exact g.mw u hu
 .obtain⟨a,b,c⟩:=g.g.y x hx;exact⟨sub _ a,b,c⟩
theorem Gn.j8r (g:Gn Y T M L ls ns){o:O}{h:Int}(ho:ye Y.n o=true)(hm:o.p∈Y.ki)(hh:h∈Y.ks.map (·.1)):Gn {Y with way:=Y.way++[(true,h,o)]} (T+1) (M+1) (o::L) ls ns:=(g.more ho (.inl hm)).j3e mem_cons_self hh (λz=>by cases z)
theorem Gn.zj (g:Gn Y T M L ls ns){h:Int}(hh:h∈Y.ks.map (·.1)++ls){os:List O}(ol:∀o∈os,o∈L):Gn (Y.zj h os) T (M+16*os.length) L ls ns:=by
 obtain⟨g2,lk,cc,l2⟩:=WG.zj hh ol g.g;refine⟨⟨by rw[lk.n];exact g.ok.n8,by rw[lk.a,lk.n];exact g.ok.al,by rw[lk.a,lk.n];exact g.ok.ao,by rw[lk.k,lk.n];exact g.ok.ks,by rw[lk.k];exact g.ok.nd,by rw[lk.k];exact g.ok.k0,by rw[lk.k];exact g.ok.k1⟩,g.l,by rw[lk.n];exact g.lo,λo ho=>?_,?_,by rw[lk.k];exact g2,?_,by rw[lk.a];exact g.al,by rw[lk.e];exact g.e1⟩
 .have:=g.mw o ho;unfold Wd.may at this⊢;rw[lk.c,lk.a];exact this
 .rw[lk.k,lk.n];exact g.ks
 .refine le_trans l2 ?_;have h1:=g.wl;have h2:=Nat.mul_le_mul_right os.length g.ok.k1;omega
theorem Gn.jze (g:Gn Y T M L ls ns){i:Nat}{l:Bool×Int×O}{B:Kp}(el:Y.way[i]?=some l)(ek:Y.keep l.2.1=some B):Gn (Y.jze i l B) (T+1) (M+16*(T+1)) L ls ns:=by
 obtain⟨lL,lh,lc⟩:=g.g.y l (mem_of_getElem? el);obtain⟨κ',ek',km⟩:=jsk lh;rw[ek]at ek';cases ek';have kk:=g.ks _ km;obtain⟨k1,k2,k3⟩:=kk.take l.1 lL (g.lo _ lL);have ekeys:(jnq Y.ks l.2.1 (B.take l.1 l.2.2).1).map (·.1)=Y.ks.map (·.1):=by
  unfold jnq;rw[map_map];refine List.map_congr_left λc _=>?_;show(if c.1=l.2.1 then(l.2.1,(B.take l.1 l.2.2).1)else c).1=c.1;split
  .rename_i z;exact z.symm
  .rfl
 have ks3:∀c∈jnq Y.ks l.2.1 (B.take l.1 l.2.2).1,KIn L (T+1) Y.n c.2:=λc hc=>by
  obtain⟨c',hc',rfl⟩:=mem_map.mp hc;split
  .exact k1
  .exact(g.ks c' hc').mono (λ_ h=>h) (by omega)
 have mid:Gn {Y with way:=Y.way.eraseIdx i,ks:=jnq Y.ks l.2.1 (B.take l.1 l.2.2).1} (T+1) M L ls ns:=by refine⟨⟨g.ok.n8,g.ok.al,g.ok.ao,λc hc=>(ks3 c hc).ok,by show((jnq Y.ks l.2.1 _).map _).Nodup;rw[ekeys];exact g.ok.nd,by show 0<(jnq _ _ _).length;rw[jpg];exact g.ok.k0,by show(jnq _ _ _).length<=16;rw[jpg];exact g.ok.k1⟩,le_succ_of_le g.l,g.lo,g.mw,ks3,?_,le_trans (length_eraseIdx_le _ _) g.wl,λrow hr=>le_succ_of_le (g.al row hr),g.e1⟩;show WG _ L ((jnq Y.ks l.2.1 _).map (·.1)++ls);rw[ekeys];refine⟨g.g.b,λx hx=>?_⟩;obtain⟨a,b,c⟩:=g.g.y x (List.mem_of_mem_eraseIdx hx);exact⟨a,by show _∈(jnq Y.ks l.2.1 _).map (·.1);rw[ekeys];exact b,c⟩
 have q:=mid.zj (h:=l.2.1) (by show _∈(jnq Y.ks l.2.1 _).map (·.1)++ls;rw[ekeys];exact mem_append_left _ lh) k2;exact q.mono (le_refl _) (by have:=Nat.mul_le_mul_left 16 k3;omega)
theorem Gn.ask (g:Gn Y T M L ls ns)(hT:T<=90){p g' m:Int}{row:List O}(hp:0<=p/\p<(Y.n:Int))(hg:0<=g'/\g'<(Y.n:Int))(ng:g'≠p)(hm:1<=m/\m<=1000)(er:Y.asked[p.toNat]?=some row):Gn (Y.asks ⟨p,row.length,g',m⟩ row) (T+1) (M+16) (⟨p,row.length,g',m⟩::L) ls ns:=by
 have lr:=g.al row (mem_of_getElem? er);have lp:=(List.getElem?_eq_some_iff.mp er).1;have ho:ye Y.n ⟨p,row.length,g',m⟩=true:=jam.mpr ⟨hp.1,by show p<=(Y.n:Int)-1;omega,hg.1,by show g'<=(Y.n:Int)-1;omega,λz=>ng z.symm,by show(0:Int)<=row.length;omega,by show(row.length:Int)<=99;omega,hm.1,hm.2⟩;have sub:∀o∈L,o∈(⟨p,row.length,g',m⟩:O)::L:=λo h=>mem_cons_of_mem _ h;have mid:Gn {Y with asked:=Y.asked.set p.toNat (row++[⟨p,row.length,g',m⟩])} T M L ls ns->Gn {Y with asked:=Y.asked.set p.toNat (row++[⟨p,row.length,g',m⟩])} T M L ls ns:=id;refine⟨⟨g.ok.n8,by show(Y.asked.set _ _).length=Y.n;rw[length_set];exact g.ok.al,λr hr o ho'=>?_,g.ok.ks,g.ok.nd,g.ok.k0,g.ok.k1⟩,by rw[length_cons];have:=g.l;omega,λo h=>?_,λo h=>?_,λc hc=>(g.ks c hc).mono sub (by omega),⟨g.g.b.mono sub,λx hx=>?_⟩,?_,λr hr=>?_,g.e1⟩
 .rcases List.mem_or_eq_of_mem_set (show r∈Y.asked.set p.toNat (row++[⟨p,row.length,g',m⟩])from hr)with hr|rfl
  .exact g.ok.ao r hr o ho'
  .rcases mem_append.mp ho' with h|h
   .exact g.ok.ao row (mem_of_getElem? er) o h
   .rw[mem_singleton.mp h];exact ho
 .rcases mem_cons.mp h with rfl|h
  .exact ho
  .exact g.lo o h
 .show o.p∈Y.ki\/∃row',(Y.asked.set p.toNat (row++[⟨p,row.length,g',m⟩]))[o.p.toNat]?=some row'/\o∈row';rcases mem_cons.mp h with rfl|h
  .exact .inr ⟨_,getElem?_set_self lp,mem_append_right _ (mem_singleton.mpr rfl)⟩
  .rcases g.mw o h with h|⟨row',e,h⟩
   .exact .inl h
   .by_cases z:o.p.toNat=p.toNat
    .rw[z]at e⊢;rw[er]at e;cases e;exact .inr ⟨_,getElem?_set_self lp,mem_append_left _ h⟩
    .exact .inr ⟨row',by rw[getElem?_set_ne (λy=>z y.symm)];exact e,h⟩
 .rcases mem_append.mp (show x∈Y.way++Y.ks.map λc=>(true,c.1,(⟨p,row.length,g',m⟩:O))from hx)with hx'|hx'
  .obtain⟨a,b,c⟩:=g.g.y x hx';exact⟨sub _ a,b,c⟩
  .obtain⟨c,hc,rfl⟩:=mem_map.mp hx';exact⟨mem_cons_self,mem_map_of_mem hc,λz=>by cases z⟩
 .show(Y.way++Y.ks.map λc=>(true,c.1,(⟨p,row.length,g',m⟩:O))).length<=M+16;rw[length_append,length_map];have:=g.wl;have:=g.ok.k1;omega
 .rcases List.mem_or_eq_of_mem_set (show r∈Y.asked.set p.toNat (row++[⟨p,row.length,g',m⟩])from hr)with hr|rfl
  .exact le_succ_of_le (g.al r hr)
  .rw[length_append];show row.length+1<=T+1;omega
theorem Gn.row (g:Gn Y T M L ls ns){p:Int}(h0:0<=p)(h1:p<(Y.n:Int)):∃row,Y.asked[p.toNat]?=some row:=⟨_,getElem?_eq_getElem (by rw[g.ok.al];omega)⟩
theorem Gn.sz (g:Gn Y T M L ls ns):Sz Y L.length (Y.ks.length+ls.length) M:=by obtain⟨b1,b2⟩:=g.g.b.len;refine⟨b1,λx hx=>?_,g.wl,g.ok.k1⟩;have:=b2 x hx;rwa[length_append,length_map]at this
end
theorem j8p {h f:Int}{ns cs ls:List Int}(h1:1<=h/\h<=16)(hf:0<=f)(lt:3*f<h)(l8:ns.length<=8)(n0:∀x∈ns,0<=x)(ll:(ls.length:Int)<=f)(lr:∀x∈ls,0<=x/\x<h):Gn (w0 h f ns cs ls) 0 0 [] ls ns:=by
 have ek:(w0 h f ns cs ls).ks.map (·.1)=jbt ls h.toNat:=by show((jbt ls h.toNat).map λi=>(i,kp0 ns)).map (·.1)=_;rw[map_map];exact List.map_id _
 have kall:∀c∈(w0 h f ns cs ls).ks,c.2=kp0 ns:=λc hc=>by obtain⟨i,_,rfl⟩:=mem_map.mp (show c∈(jbt ls h.toNat).map λi=>(i,kp0 ns)from hc);rfl
 have lk:(w0 h f ns cs ls).ks.length=(jbt ls h.toNat).length:=length_map ..;have kin:KIn [] 0 ns.length (kp0 ns):=⟨⟨rfl,by show(List.replicate _ _).length=_;rw[length_replicate],λ_ z=>(by cases z),λ_ z=>(by cases z),nodup_nil⟩,⟨le_refl _,le_refl _,le_refl _⟩,λ_ z=>(by cases z),λ_ z=>(by cases z)⟩;have cn:(jbt ls h.toNat).Nodup:=by unfold jbt;exact List.Pairwise.filter _ (List.Pairwise.map _ (λa b hab z=>hab (Int.ofNat.inj z)) nodup_range)
 have c1:0<(jbt ls h.toNat).length:=by
  have hl:((List.range h.toNat).map λ(i:Nat)=>(i:Int)).length<=(jbt ls h.toNat).length+ls.length:=by
   rw[<-length_append];refine yo (List.Pairwise.map _ (λa b hab z=>hab (Int.ofNat.inj z)) nodup_range) λx hx=>?_;by_cases z:x∈ls
   .exact mem_append_right _ z
   .exact mem_append_left _ (mem_filter.mpr ⟨hx,by simp[z]⟩)
  rw[length_map,length_range]at hl;omega
 have c2:=jtj ls h.toNat;refine⟨⟨l8,by show(List.replicate _ _).length=_;rw[length_replicate];rfl,λrow hr o ho=>?_,λc hc=>by rw[kall c hc];exact kin.ok,by rw[ek];exact cn,by rw[lk];exact c1,by rw[lk];omega⟩,le_refl _,λ_ z=>(by cases z),λ_ z=>(by cases z),λc hc=>by rw[kall c hc];exact kin,⟨⟨nodup_nil,λ_ z=>(by cases z),λ_ z=>(by cases z)⟩,λ_ z=>(by cases z)⟩,le_refl _,λrow hr=>?_,by show 1<=h-f;omega⟩
 .have:row=[]:=eq_of_mem_replicate hr;subst this;cases ho
 .have:row=[]:=eq_of_mem_replicate hr;subst this;exact le_refl _
theorem j3h {B:Kp}{Q:Gv->Prop}:∀{os:List O}{a:Gv},(∀o∈os,∀a,Q a->Q (gvS B o a))->Q a->Q (gv B os a)
 |[],_,_,h=>h
 |o::os,a,hs,h=>by unfold gv;rw[foldl_cons];exact j3h (λu hu=>hs u (mem_cons_of_mem _ hu)) (hs o mem_cons_self a h)
structure j7u (c0:List ((Int×Int)×O))(a:Gv):Prop where
 ck:(a.1.map (·.1)).Nodup
 cp:∀c∈a.1,c.1=(c.2.p,c.2.n)
 mo:∀c∈c0,c∈a.1
 vt:∀o∈a.2.1,((o.p,o.n),o)∈a.1
 nw:∀c∈a.1,c∈c0\/c.2∈a.2.1
theorem j7u.step {c0:List ((Int×Int)×O)}{B:Kp}{o:O}{a:Gv}(g:j7u c0 a):j7u c0 (gvS B o a):=by
 unfold gvS;split
 .rename_i z;rw[Bool.and_eq_true]at z;have nc:∀x∈a.1,x.1≠(o.p,o.n):=λx hx e=>by
   have:jry a.1 o=true:=List.any_eq_true.mpr ⟨x,hx,decide_eq_true e⟩;rw[this]at z;cases z.2
  refine⟨?_,λc hc=>?_,λc hc=>mem_append_left _ (g.mo c hc),λu hu=>?_,λc hc=>?_⟩
  .show((a.1++[((o.p,o.n),o)]).map (·.1)).Nodup;rw[map_append];refine nodup_append.mpr ⟨g.ck,by simp,λx hx y hy e=>?_⟩;obtain⟨c,hc,rfl⟩:=mem_map.mp hx;rw[mem_singleton.mp hy]at e;exact nc c hc e
  .rcases mem_append.mp hc with hc|hc
   .exact g.cp c hc
   .rw[mem_singleton.mp hc]
  .rcases mem_append.mp hu with hu|hu
   .exact mem_append_left _ (g.vt u hu)
   .rw[mem_singleton.mp hu];exact mem_append_right _ (mem_singleton.mpr rfl)
  .rcases mem_append.mp hc with hc|hc
   .exact(g.nw c hc).imp id λh=>mem_append_left _ h
   .rw[mem_singleton.mp hc];exact .inr (mem_append_right _ (mem_singleton.mpr rfl))
 .split
  .exact⟨g.ck,g.cp,g.mo,g.vt,g.nw⟩
  .exact g
noncomputable def plc (o:O):Int×Int:=(o.p,o.n)
structure KV (L:List O)(B:Kp):Prop where
 ck:(B.cho.map (·.1)).Nodup
 cp:∀c∈B.cho,c.1=(c.2.p,c.2.n)
 cl:∀c∈B.cho,c.2∈L
structure Hrd (L:List O)(B κ':Kp)(vs:List O):Prop where
 z:KV L κ'
 mo:∀c∈B.cho,c∈κ'.cho
 vt:∀o∈vs,(plc o,o)∈κ'.cho
theorem KV.zj {L:List O}{B:Kp}(z:KV L B)(ul:∀o∈B.unv,o∈L):Hrd L B B.zj.1 B.zj.2:=by have g:j7u B.cho (gv B B.unv (B.cho,[],[])):=j3h (λo _ a h=>h.step) ⟨z.ck,z.cp,λ_ h=>h,λ_ h=>(by cases h),λ_ h=>.inl h⟩;have vl:=jso B B.unv (B.cho,[],[]) ul (λo h=>by cases h);exact⟨⟨g.ck,g.cp,λc hc=>(g.nw c hc).elim (z.cl c) (vl c.2)⟩,g.mo,g.vt⟩
theorem jxc:∀{m:Nat}{B:Kp},(Kp.go m B).cho=B.cho/\(Kp.go m B).unv=B.unv
 |0,_=>⟨rfl,rfl⟩
 |m+1,B=>by
  unfold Kp.go;cases B.first with
  |none=>exact⟨rfl,rfl⟩
  |some o=>exact jxc (m:=m) (B:=B.step o)
theorem KV.take {L:List O}{B:Kp}(z:KV L B)(ul:∀o∈B.unv,o∈L)(b:Bool){o:O}(ol:o∈L):Hrd L B (B.take b o).1 (B.take b o).2:=by
 have same:Hrd L B B []:=⟨z,λ_ h=>h,λ_ h=>(by cases h)⟩;unfold Kp.take;split
 .unfold Kp.j5n;split
  .exact same
  .have z1:KV L {B with jf5:=B.jf5++[o],unv:=B.unv++[o]}:=⟨z.ck,z.cp,z.cl⟩;have r:=z1.zj λu hu=>by
    rcases mem_append.mp hu with hu|hu
    .exact ul u hu
    .rw[mem_singleton.mp hu];exact ol
   exact⟨r.z,r.mo,r.vt⟩
 .unfold Kp.jqq;split
  .exact same
  .obtain⟨e1,e2⟩:=jxc (m:=(B.wait++[o]).length) (B:={B with wait:=B.wait++[o]});have z1:KV L (Kp.j1d {B with wait:=B.wait++[o]}):=⟨by unfold Kp.j1d;rw[e1];exact z.ck,by unfold Kp.j1d;rw[e1];exact z.cp,by unfold Kp.j1d;rw[e1];exact z.cl⟩;have r:=z1.zj (by unfold Kp.j1d;rw[e2];exact ul);exact⟨r.z,λc hc=>r.mo c (by unfold Kp.j1d;rw[e1];exact hc),r.vt⟩
theorem jvu (Y:Wd)(h:Int)(o u:O)(x:Int):x∈jz (Y.jj4 h o).bd (x9 u)↔x∈jz Y.bd (x9 u)\/(x=h/\u=o):=by
 rw[jq0];unfold Wd.put;split
 .rename_i hm;exact⟨.inl,λz=>z.elim id λ⟨e1,e2⟩=>by rw[e1,e2];exact hm⟩
 .show x∈jz (jeo Y.bd (x9 o) h) (x9 u)↔_;rw[jgl];by_cases z:x9 u=x9 o
  .rw[if_pos z,z,mem_append,mem_singleton];have:=jl7 z;simp[this]
  .rw[if_neg z];exact⟨.inl,λy=>y.elim id λ⟨_,e2⟩=>absurd (by rw[e2]) z⟩
theorem jey (h:Int)(u:O)(x:Int):∀(os:List O)(Y:Wd),x∈jz (Y.zj h os).bd (x9 u)->x∈jz Y.bd (x9 u)\/(x=h/\u∈os)
 |[],Y,hx=>.inl hx
 | o::os,Y,hx=>by
  rcases jey h u x os (Y.jj4 h o) hx with a|⟨a,b⟩
  .rcases(jvu Y h o u x).mp a with a|⟨a,b⟩
   .exact .inl a
   .exact .inr ⟨a,mem_cons.mpr (.inl b)⟩
  .exact .inr ⟨a,mem_cons_of_mem _ b⟩
theorem vm (h:Int):∀(os:List O)(Y:Wd),Y.j1b (Y.zj h os)
 |[],Y=>⟨rfl,rfl,rfl,rfl,rfl⟩
 |o::os,Y=>(jme Y h o).trans (vm h os (Y.jj4 h o))
structure Sk (Y:Wd)(L:List O)(ls:List Int):Prop where
 kv:∀c∈Y.ks,KV L c.2
 vo:∀c∈Y.ks,∀o,c.1∈jz Y.bd (x9 o)->(plc o,o)∈c.2.cho
 as:∀(p:Nat)(row:List O),Y.asked[p]?=some row->∀(i:Nat)(o:O),row[i]?=some o->o.n=(i:Int)
 nm:∀o∈L,o.p∈Y.ki->o.n<=3
 dj:∀c∈Y.ks,c.1∉ls
structure jyu (Y Y':Wd):Prop where
 e:Y'.en=Y.en
 k:Paired (λ(c c':Int×Kp)=>∀x∈c.2.cho,x∈c'.2.cho) Y.ks Y'.ks
theorem jk1 {α:Type}{F:α->α->Prop}(h:∀a,F a a):∀xs:List α,Paired F xs xs
 |[]=>.nil
 |x::xs=>.cons (h x) (jk1 h xs)
theorem jyu.refl (Y:Wd):jyu Y Y:=⟨rfl,jk1 (λ_ _ h=>h) _⟩
theorem jyu.of {Y Y':Wd}(e:Y'.en=Y.en)(k:Y'.ks=Y.ks):jyu Y Y':=⟨e,by rw[k];exact jk1 (λ_ _ h=>h) _⟩
theorem jve {α:Type}{F:α->α->Prop}(h:∀a b c,F a b->F b c->F a c):∀{xs ys zs:List α},Paired F xs ys->Paired F ys zs->Paired F xs zs:=λ{xs ys zs} p q=>by
 induction p generalizing zs with
 |nil=>cases q;exact .nil
 |cons a r ih=>
  cases q with
  |cons b s=>exact .cons (h _ _ _ a b) (ih s)
theorem jyu.trans {a b c:Wd}(x:jyu a b)(y:jyu b c):jyu a c:=⟨y.e.trans x.e,jve (λ_ _ _ f g x hx=>g x (f x hx)) x.k y.k⟩
theorem j4b {ks:List (Int×Kp)}(nd:(ks.map (·.1)).Nodup){a b:Int×Kp}(ha:a∈ks)(hb:b∈ks)(e:a.1=b.1):a=b:=by
 induction ks with
 |nil=>cases ha
 |cons c cs ih=>
  rw[map_cons,nodup_cons]at nd;rcases mem_cons.mp ha with h1|h1<;>rcases mem_cons.mp hb with h2|h2
  .rw[h1,h2]
  .exact absurd (mem_map.mpr ⟨b,h2,by rw[<-e,h1]⟩) nd.1
  .exact absurd (mem_map.mpr ⟨a,h1,by rw[e,h2]⟩) nd.1
  .exact ih nd.2 h1 h2
section
variable {Y:Wd}{L:List O}{ls:List Int}
theorem KV.mono {L':List O}{B:Kp}(h:∀o∈L,o∈L')(z:KV L B):KV L' B:=⟨z.ck,z.cp,λc hc=>h _ (z.cl c hc)⟩
theorem Sk.more (s:Sk Y L ls){way:List (Bool×Int×O)}{o:O}(no:o.p∈Y.ki->o.n<=3):Sk {Y with way:=way} (o::L) ls:=by
 refine⟨λc hc=>(s.kv c hc).mono λ_ h=>mem_cons_of_mem _ h,s.vo,s.as,λu hu hc=>?_,s.dj⟩;rcases mem_cons.mp hu with rfl|hu
 .exact no hc
 .exact s.nm u hu hc
theorem Sk.way (s:Sk Y L ls){way:List (Bool×Int×O)}:Sk {Y with way:=way} L ls:=⟨s.kv,s.vo,s.as,s.nm,s.dj⟩
theorem Sk.lie (s:Sk Y L ls){f:Int}(hf:f∈ls)(os:List O):Sk (Y.zj f os) L ls:=by
 have lk:=vm f os Y;refine⟨by rw[lk.k];exact s.kv,λc hc u hu=>?_,by rw[lk.a];exact s.as,by rw[lk.c];exact s.nm,by rw[lk.k];exact s.dj⟩;rw[lk.k]at hc;rcases jey _ _ _ _ _ hu with hu|⟨e,_⟩
 .exact s.vo c hc u hu
 .exact absurd (e ▸ hf) (s.dj c hc)
theorem Sk.ask (s:Sk Y L ls){p g m:Int}{row:List O}(er:Y.asked[p.toNat]?=some row)(nc:p∉Y.ki):Sk (Y.asks ⟨p,row.length,g,m⟩ row) (⟨p,row.length,g,m⟩::L) ls:=by
 refine⟨λc hc=>(s.kv c hc).mono λ_ h=>mem_cons_of_mem _ h,s.vo,λq row' e i o eo=>?_,λu hu hc=>?_,s.dj⟩
 .have e':(Y.asked.set p.toNat (row++[⟨p,row.length,g,m⟩]))[q]?=some row':=e;by_cases z:p.toNat=q
  .subst z;rw[getElem?_set_self (List.getElem?_eq_some_iff.mp er).1]at e';cases e';by_cases y:i<row.length
   .rw[List.getElem?_append_left y]at eo;exact s.as _ _ er i o eo
   .rw[List.getElem?_append_right (by omega)]at eo;cases hi:i-row.length with
    |zero=>rw[hi]at eo;cases eo;show(row.length:Int)=i;omega
    |succ k=>rw[hi]at eo;cases eo
  .rw[getElem?_set_ne z]at e';exact s.as _ _ e' i o eo
 .rcases mem_cons.mp hu with rfl|hu
  .exact absurd hc nc
  .exact s.nm u hu hc
theorem Sk.jze (s:Sk Y L ls)(nd:(Y.ks.map (·.1)).Nodup){i:Nat}{l:Bool×Int×O}{B:Kp}(km:(l.2.1,B)∈Y.ks)(ul:∀o∈B.unv,o∈L)(lL:l.2.2∈L):Sk (Y.jze i l B) L ls/\jyu Y (Y.jze i l B):=by
 have r:=(s.kv _ km).take ul l.1 lL;unfold Wd.jze;generalize (B.take l.1 l.2.2).1=κ' at r;generalize (B.take l.1 l.2.2).2=vs at r;have lk:=vm l.2.1 vs {Y with way:=Y.way.eraseIdx i,ks:=jnq Y.ks l.2.1 κ'};have ks3:∀c∈jnq Y.ks l.2.1 κ',(c.1=l.2.1/\c.2=κ')\/(c∈Y.ks/\c.1≠l.2.1):=λc hc=>by
  obtain⟨c',hc',rfl⟩:=mem_map.mp hc;split
  .exact .inl ⟨rfl,rfl⟩
  .rename_i z;exact .inr ⟨hc',z⟩
 refine⟨⟨λc hc=>?_,λc hc u hu=>?_,by rw[lk.a];exact s.as,by rw[lk.c];exact s.nm,λc hc=>?_⟩,lk.e,?_⟩
 .rw[lk.k]at hc;rcases ks3 c hc with⟨_,e⟩|⟨h,_⟩
  .rw[e];exact r.z
  .exact s.kv c h
 .rw[lk.k]at hc;rcases ks3 c hc with⟨e1,e⟩|⟨h,n⟩
  .rw[e];rcases jey _ _ _ _ _ hu with hu|⟨_,hu⟩
   .exact r.mo _ (s.vo _ km u (e1 ▸ hu))
   .exact r.vt u hu
  .rcases jey _ _ _ _ _ hu with hu|⟨e,_⟩
   .exact s.vo c h u hu
   .exact absurd e n
 .rw[lk.k]at hc;rcases ks3 c hc with⟨e1,_⟩|⟨h,_⟩
  .rw[e1];exact s.dj _ km
  .exact s.dj c h
 .rw[lk.k];have all:∀ks:List (Int×Kp),(∀c∈ks,c∈Y.ks)->Paired (λ(c c':Int×Kp)=>∀x∈c.2.cho,x∈c'.2.cho) ks (jnq ks l.2.1 κ'):=λks=>by
   induction ks with
   |nil=>exact λ_=>.nil
   |cons c cs ih=>
    intro h;refine .cons ?_ (ih λx hx=>h x (mem_cons_of_mem _ hx));dsimp only;split
    .rename_i z;rw[j4b nd (h c mem_cons_self) km z];exact r.mo
    .exact λ_ h=>h
  exact all Y.ks λ_ h=>h
end
theorem jqb {k:List Int}:∀{is:xr},jz is k=[]\/∃x∈is,x.1=k/\jz is k=x.2
 |[]=>.inl rfl
 | p::ps=>by
  unfold jz;split
  .rename_i z;exact .inr ⟨p,mem_cons_self,z,rfl⟩
  .rcases jqb (k:=k) (is:=ps)with h|⟨x,hx,e⟩
   .exact .inl h
   .exact .inr ⟨x,mem_cons_of_mem _ hx,e⟩
theorem Gn.jn0 {Y:Wd}{T M:Nat}{L:List O}{ls ns:List Int}(g:Gn Y T M L ls ns)(o:O):(jz Y.bd (x9 o)).Nodup/\∀h∈jz Y.bd (x9 o),h∈Y.ks.map (·.1)++ls:=by
 rcases jqb (k:=x9 o) (is:=Y.bd)with e|⟨x,hx,_,e⟩
 .rw[e];exact⟨nodup_nil,λ_ z=>by cases z⟩
 .rw[e];exact g.g.b.hn x hx
theorem jpw {S hs ls:List Int}(nd:S.Nodup)(h:∀x∈S,x∈hs++ls):S.length<=(S.filter λx=>decide (x∈hs)).length+ls.length:=by
 have:=yo (ys:=(S.filter λx=>decide (x∈hs))++ls) nd λx hx=>by
  by_cases z:x∈hs
  .exact mem_append_left _ (mem_filter.mpr ⟨hx,decide_eq_true z⟩)
  .exact mem_append_right _ ((mem_append.mp (h x hx)).resolve_left z)
 rwa[length_append]at this
theorem jy8 {Y:Wd}{T M:Nat}{L:List O}{ls ns:List Int}(g:Gn Y T M L ls ns)(s:Sk Y L ls)(he:((Y.ks.length+2*ls.length:Nat):Int)<2*Y.en){o u:O}(co:Y.carried o=true)(cu:Y.carried u=true)(e:plc o=plc u):o=u:=by
 obtain⟨n1,i1⟩:=g.jn0 o;obtain⟨n2,i2⟩:=g.jn0 u;have l1:=jpw n1 i1;have l2:=jpw n2 i2;have c1:=of_decide_eq_true co;have c2:=of_decide_eq_true cu;by_cases z:∃h,h∈(jz Y.bd (x9 o)).filter (λx=>decide (x∈Y.ks.map (·.1)))/\h∈(jz Y.bd (x9 u)).filter λx=>decide (x∈Y.ks.map (·.1))
 .obtain⟨h,h1,h2⟩:=z;obtain⟨a1,b1⟩:=mem_filter.mp h1;obtain⟨a2,_⟩:=mem_filter.mp h2;obtain⟨c,hc,rfl⟩:=mem_map.mp (of_decide_eq_true b1);have v1:=s.vo c hc o a1;have v2:=s.vo c hc u a2;have one:∀{cs:List ((Int×Int)×O)}{a b:(Int×Int)×O},(cs.map (·.1)).Nodup->a∈cs->b∈cs->a.1=b.1->a=b:=λ{cs a b} nd ha hb e=>by
   induction cs with
   |nil=>cases ha
   |cons c cs ih=>
    rw[map_cons,nodup_cons]at nd;rcases mem_cons.mp ha with h1|h1<;>rcases mem_cons.mp hb with h2|h2
    .rw[h1,h2]
    .exact absurd (mem_map.mpr ⟨b,h2,by rw[<-e,h1]⟩) nd.1
    .exact absurd (mem_map.mpr ⟨a,h1,by rw[e,h2]⟩) nd.1
    .exact ih nd.2 h1 h2
  exact(Prod.mk.inj (one (s.kv c hc).ck v1 v2 e)).2
 .exfalso;have:=yo (xs:=(jz Y.bd (x9 o)).filter (λx=>decide (x∈Y.ks.map (·.1)))++(jz Y.bd (x9 u)).filter λx=>decide (x∈Y.ks.map (·.1))) (ys:=Y.ks.map (·.1)) (nodup_append.mpr ⟨n1.filter _,n2.filter _,λx hx y hy e=>z ⟨x,hx,e ▸ hy⟩⟩) λx hx=>by
   rcases mem_append.mp hx with h|h
   .exact of_decide_eq_true (mem_filter.mp h).2
   .exact of_decide_eq_true (mem_filter.mp h).2
  rw[length_append,length_map]at this;omega
noncomputable def j0a (Z:Rho)(To R:Addr):Prop:=Z To=some (9,.own 0)/\Z R=some (9,.own 1)
noncomputable def jo7:Role->Prop:=λr=>r=(9,.own 0)\/r=(9,.own 1)
theorem jwi {Z:Rho}{H H':Hp}{To R:Addr}(tr:j0a Z To R)(k:jqy To R H H'):Fr (jo7) Z H Z H':=λa u e n=>⟨k a u e (λz=>n (9,.own 0) (z ▸ tr.1) (.inl rfl)) (λz=>n (9,.own 1) (z ▸ tr.2) (.inr rfl)),rfl⟩
theorem j0w {Z:Rho}{H H':Hp}{To R:Addr}(kr:OkR Z H)(hT:jqs To R H')(k:jqy To R H H'):OkR Z H':=λa r e=>by
 obtain⟨row,c,t1,t2,_⟩:=hT;by_cases z:a=To
 .subst z;exact⟨_,t1,True.intro⟩
 .by_cases y:a=R
  .subst y;exact⟨_,t2,True.intro⟩
  .obtain⟨u,hu,nu⟩:=kr a r e;exact⟨u,k a u hu z y,nu⟩
noncomputable def jxo (ts:List Int):Dt:=.tup (ts.map Dt.int)
noncomputable def j5v (l:Bool×Int×O):Dt:=.tup [.str (if l.1=true then"order"else"paper"),.int l.2.1,jxo (x9 l.2.2)]
theorem jr7 {α:Type}{K:W.Frag}{H:Hp}{F:α->Dt}{R:V->α->Prop}(h:∀x a,R x a->qt K H (F a) x):∀{xs:List V}{as:List α},Paired R xs as->xt K H (as.map F) xs:=λ{xs as} q=>by
 induction q with
 |nil=>rw[map_nil,xt]
 |cons a t ih=>rw[map_cons,xt];exact⟨_,_,rfl,h _ _ a,ih⟩
theorem jzj {K:W.Frag}{H:Hp}:∀ns:List Int,xt K H (ns.map Dt.int) (ns.map V.int)
 |[]=>by rw[map_nil,map_nil,xt]
 |n::ns=>by rw[map_cons,map_cons,xt];exact⟨_,_,rfl,by rw[qt],jzj ns⟩
theorem jr8 {K:W.Frag}{H:Hp}{a:Addr}{ts:List Int}(h:SqT K H a (ts.map V.int)):qt K H (jxo ts) (.ref a):=by unfold jxo;rw[qt];exact⟨a,_,rfl,h,jzj ts⟩
theorem joi.qas {K:W.Frag}{H:Hp}{Z:Rho}{x:V}{l:Bool×Int×O}(h:joi H Z x l):qt K H (j5v l) x:=by obtain⟨a,q,rfl,n,h1,_,e,_,h2⟩:=h;cases e;unfold j5v;rw[qt];refine⟨a,_,rfl,SqT.of h1,?_⟩;rw[xt];refine⟨_,_,rfl,by rw[qt];rfl,?_⟩;rw[xt];refine⟨_,_,rfl,by rw[qt],?_⟩;rw[xt];exact⟨_,_,rfl,jr8 (ts:=x9 l.2.2) (SqT.of h2),by rw[xt]⟩
theorem jnk:∀ls:List (List Int),jd8 (ls.map jxo)<=10
 |[]=>by rw[map_nil];simp[jd8]
 | l::ls=>by
  have:=jnk ls;rw[map_cons,jd8];have q:∀ts:List Int,jd8 (ts.map Dt.int)<=3:=λts=>by
   induction ts with
   |nil=>simp[jd8]
   |cons t ts ih=>rw[map_cons,jd8];simp[jj0];omega
  have q2:jj0 (jxo l)<=10:=by unfold jxo;rw[jj0];have:=q l;omega
  omega
theorem ji9 {α:Type}(F:α->Dt)(ls:List α):eqD (.lst (ls.map F)) (.lst [])=decide (ls=[]):=by
 cases ls with
 |nil=>simp[eqD,jri]
 |cons l ls=>simp[eqD,jri]
theorem jt7:∀ls:List (Bool×Int×O),jd8 (ls.map j5v)<=10
 |[]=>by rw[map_nil];simp[jd8]
 |l::ls=>by
  have:=jt7 ls;rw[map_cons,jd8];have q:jj0 (j5v l)<=10:=by unfold j5v jxo x9;simp[jj0,jd8]
  omega
theorem OkR.jad {Z:Rho}{H:Hp}{a:Addr}{r:Role}{u:HO}(k:OkR Z H)(h:H a=some u)(n:jwc u):OkR (jad Z a r) H:=λb r' e=>by
 by_cases z:b=a
 .subst z;exact⟨u,h,n⟩
 .rw[zd z]at e;exact k b r' e
noncomputable def Un (H:Hp)(Z:Rho)(a:Addr)(xs:List V):Prop:=H a=some (.lst xs)/\Z a=none
theorem Un.fr {P:Role->Prop}{Z Z':Rho}{H H':Hp}{a:Addr}{xs:List V}(f:Fr P Z H Z' H')(h:Un H Z a xs):Un H' Z' a xs:=jjv f h.1 h.2
theorem jno {P:Role->Prop}{Z Z':Rho}{H H':Hp}{To R:Addr}(f:Fr P Z H Z' H')(n0:¬P (9,.own 0))(n1:¬P (9,.own 1))(h:jqs To R H)(tr:j0a Z To R):jqs To R H'/\j0a Z' To R:=by obtain⟨row,c,t1,t2,t3⟩:=h;obtain⟨a1,a2⟩:=jch f t1 tr.1 n0;obtain⟨a3,a4⟩:=jch f t2 tr.2 n1;exact⟨⟨row,c,a1,a3,t3⟩,a2,a4⟩
theorem j89 {id:Nat}(h:id≠9)(p:Part):¬jo7 (id,p):=λz=>h (by rcases z with z|z<;>exact(Prod.mk.inj z).1)
theorem j4c {H:Hp}{x dx:Addr}{C:Addr}(nx:H x=none)(ndx:H dx=none)(ne:dx≠x){Z:Rho}{r:Role}(kr:OkR Z H):Fr (λ_=>False) Z H (jad Z x r) (upd (upd H dx (.own x)) x (.ins C dx []))/\OkR (jad Z x r) (upd (upd H dx (.own x)) x (.ins C dx [])):=by
 have nx1:upd H dx (.own x) x=none:=by rw[je ne.symm];exact nx
 exact⟨(Fr.same (jf ndx)).trans (Fr.jnh nx1),(kr.same (jf ndx)).jnh⟩
theorem qu.same {t:Ad}{H H':Hp}{Z:Rho}{id:Nat}{W:WA}{w:Wd}(s:vq H H')(O:qu t H Z id W w):qu t H' Z id W w:=O.fr (P:=λ_=>False) (λ_ z=>z) (Fr.same s)
structure Pt where
 ns:List Int
 cs:List Int
 ls:List Int
 hs:List Int
 en:Int
structure Pt.Ok (p:Pt):Prop where
 l2:2<=p.ns.length
 l8:p.ns.length<=8
 c:∀k∈p.cs,0<=k/\k<(p.ns.length:Int)
 cl:p.cs.length<=1000
 ll:p.ls.length<=5
 h0:0<p.hs.length
 h1:p.hs.length<=16
 ct:p.cs.length<=2
 he:((p.hs.length+2*p.ls.length:Nat):Int)<2*p.en
structure Wl (t:Ad)(H:Hp)(Z:Rho)(W:WA)(Y:Wd)(T:Nat)(p:Pt):Prop where
 o:qu t H Z 0 W Y
 kr:OkR Z H
 ly:H W.ly=some (.lst (p.ls.map V.int))/\Z W.ly=none
 g:∃L,Gn Y T (1000*T) L p.ls p.ns/\Sk Y L p.ls
 en:Y.en=p.en
 n:Y.n=p.ns.length
 c:Y.ki=p.cs
 h:Y.ks.map (·.1)=p.hs
 tot:W.tot=p.ns.sum
section
variable {t:Ad}{H H':Hp}{Z Z':Rho}{W:WA}{Y Y':Wd}{T:Nat}{p:Pt}{P:Role->Prop}{To R:Addr}
theorem Wl.fr (f:Fr P Z H Z' H')(hP:∀q,¬P (0,q))(kr:OkR Z' H')(w:Wl t H Z W Y T p):Wl t H' Z' W Y T p:=⟨w.o.fr hP f,kr,jjv f w.ly.1 w.ly.2,w.g,w.en,w.n,w.c,w.h,w.tot⟩
theorem Wl.wait (w:Wl t H Z W Y T p):Wl t H Z W Y (T+1) p:=⟨w.o,w.kr,w.ly,let⟨L,g,s⟩:=w.g;⟨L,g.mono (by omega) (by omega),s⟩,w.en,w.n,w.c,w.h,w.tot⟩
structure Sw (t:Ad)(H:Hp)(Z:Rho)(W:WA)(Y:Wd)(T:Nat)(p:Pt)(To R:Addr):Prop where
 w:Wl t H Z W Y T p
 tn:jqs To R H
 tr:j0a Z To R
theorem Sw.same (s:vq H H')(x:Sw t H Z W Y T p To R):Sw t H' Z W Y T p To R:=⟨x.w.fr (P:=λ_=>False) (Fr.same s) (λ_ z=>z) (x.w.kr.same s),x.tn.same s,x.tr⟩
theorem Sw.draw (x:Sw t H Z W Y T p To R)(hT:jqs To R H')(k:jqy To R H H'):Sw t H' Z W Y T p To R/\Fr jo7 Z H Z H':=⟨⟨x.w.fr (jwi x.tr k) (j89 (by decide)) (j0w x.w.kr hT k),hT,x.tr⟩,jwi x.tr k⟩
theorem Sw.wait (x:Sw t H Z W Y T p To R):Sw t H Z W Y (T+1) p To R:=⟨x.w.wait,x.tn,x.tr⟩
noncomputable def j5t:Role->Prop:=λr=>r.1=0\/jo7 r
theorem Sw.go (x:Sw t H Z W Y T p To R)(f:Fr P Z H Z' H')(hP:∀r,P r->r.1=0){T2:Nat}(w:Wl t H' Z' W Y' T2 p):Sw t H' Z' W Y' T2 p To R/\Fr j5t Z H Z' H':=by obtain⟨a,b⟩:=jno f (λz=>by cases hP _ z) (λz=>by cases hP _ z) x.tn x.tr;exact⟨⟨w,a,b⟩,f.mono λr z=>.inl (hP r z)⟩
theorem jvs (f:Fr jo7 Z H Z' H'):Fr j5t Z H Z' H':=f.mono λ_ z=>.inr z
end
noncomputable def Gos (t:Ad)(H:Hp)(Z:Rho)(W:WA)(Y:Wd)(T:Nat)(p:Pt)(To R:Addr)(Q:VK):Prop:=∀Z' H' Y' v,Sw t H' Z' W Y' (T+1) p To R->Fr j5t Z H Z' H'->jyu Y Y'->Q v H'
structure Ps (H:Hp)(Z:Rho)(pa x:Addr)(jbt few:Int)(fo ho be ro:Addr)(p:Pt):Prop where
 tp:H pa=some (.tup [.ref x,.int jbt,.int few,.ref fo,.ref ho,.ref be,.ref ro])/\Z pa=none
 fo:Un H Z fo (p.ls.map V.int)
 ho:Un H Z ho (p.hs.map V.int)
 be:Un H Z be (p.ns.map V.int)
 ro:Un H Z ro (p.cs.map V.int)
 ce:jbt-few=p.en
 hr:∀x∈p.hs++p.ls,0<=x/\x<jbt
 cb:(1<=jbt/\jbt<=16)/\0<=few/\few<=5
 nr:∀i∈p.ns,0<=i/\i<=1000
theorem Ps.fr {P:Role->Prop}{Z Z':Rho}{H H':Hp}{pa x fo ho be ro:Addr}{jbt few:Int}{p:Pt}(f:Fr P Z H Z' H')(h:Ps H Z pa x jbt few fo ho be ro p):Ps H' Z' pa x jbt few fo ho be ro p:=⟨jjv f h.tp.1 h.tp.2,h.fo.fr f,h.ho.fr f,h.be.fr f,h.ro.fr f,h.ce,h.hr,h.cb,h.nr⟩
theorem Un.neT {t:Ad}{H:Hp}{Z:Rho}{W:WA}{Y:Wd}{T:Nat}{p:Pt}{To R a:Addr}{xs:List V}(u:Un H Z a xs)(x:Sw t H Z W Y T p To R):a≠To/\a≠R:=⟨neu u.2 x.tr.1,neu u.2 x.tr.2⟩
noncomputable def j4n (K:W.Frag):Sp:=λvs H Q _=>∃(a:Addr)(ns:List Int),vs=[.ref a]/\SqL K H a (ns.map V.int)/\∀T R H',H T=none->H R=none->vq H H'->jqs T R H'->Q (.ref T) H'
noncomputable def j5k:Sp:=λvs H Q _=>∃(T R:Addr)(m:Int),vs=[.ref T,.int m]/\jqs T R H/\1<=m/\m<1073741824/\∀d H',0<=d->d<m->jqs T R H'->jqy T R H H'->Q (.int d) H'
noncomputable def jzh:Sp:=λvs H Q _=>∃(T R S:Addr)(xs:List V),vs=[.ref T,.ref S]/\jqs T R H/\H S=some (.lst xs)/\S≠T/\S≠R/\0<xs.length/\xs.length<=1000000/\∀(i:Nat)(x:V)(H':Hp),xs[i]?=some x->jqs T R H'->jqy T R H H'->Q x H'
theorem jvl (T:Txt K mg t):xj P w K mg base CX0 1 t.jli t.jkv ["_law_script"] (j4n K):=by
 refine T.jk6.okB (N:=["_law_script"]) λ_ A _ s H vs Q E hr h=>?_;obtain⟨a,ns,rfl,ha,k⟩:=h;refine⟨_,(@jd _ _ _ (jx (@zf _ _ _ _ (@yk _ _ _ _ _ (jm7 (jv (jmb hr.units) (pv 0) (@zf _ _ _ _ jg) (qc _)) (jea jac rfl T.jm5 boot_list (jc (pv 0) jg)) (@zf _ _ _ _ (jc jk jg))) jk rfl rfl)))),?_⟩;refine⟨_,rfl,zs0,λp hp=>?_⟩;have s1:=jf (o:=.lst []) hp;refine⟨.lst (ns.map Dt.int),.lst (([]:List Int).map Dt.int),jbj (s1.seq ha),jbj (SqL.of ja),jh4 _,_,rfl,?_⟩;rw[jt0];refine jhz (λh1=>?_) (λh1=>?_)
 .have ne:=nd h1;refine⟨_,rfl,a,_,rfl,.inl (s1.seq ha),λR hR=>?_⟩;refine⟨zs2,λT' hT=>?_⟩;have s2:=s1.trans (jf (o:=.lst (ns.map V.int)) hR);have nRT:R≠T':=jj ja hT;refine k T' R _ (s2.free hT) (s1.free hR) (s2.trans (jf hT)) ⟨ns,0,ja,by rw[je nRT,ja],?_⟩;cases ns with
  |nil=>exact absurd rfl ne
  |cons x r=>exact Nat.succ_pos _
 .refine⟨zs1,λR hR=>?_⟩;refine⟨zs2,λT' hT=>?_⟩;have s2:=s1.trans (jf (o:=.lst [.int 0]) hR);have nRT:R≠T':=jj ja hT;exact k T' R _ (s2.free hT) (s1.free hR) (s2.trans (jf hT)) ⟨[0],0,ja,by rw[je nRT,ja];rfl,Nat.one_pos⟩
theorem j9 (T:Txt K mg t):xj P w K mg base CX0 1 t.jlj t.jkr ["_law_town_here","_law_many"] j5k:=by
 refine T.qb.okA jab λ_ A _ s H vs Q E hr h=>?_;obtain⟨To,R,m,rfl,hT,m1,m2,k⟩:=h;have nTR:=hT.ne;obtain⟨row,c,h1,h2,h3⟩:=hT;refine⟨_,(@jb _ _ _ _ _ (j6 (i:=2) jab.nd rfl (Or.inl rfl) (ya yp (pv 0) jk (λ_ _=>rfl))) (@jb _ _ _ _ _ (jhk (qy jal (ya yp (pv 0) jk (λ_ _=>rfl)) jk) (jwz (pv 0) jk set_list)) (@jb _ _ _ _ _ (j6 (i:=3) jab.nd rfl (Or.inl rfl) (qy jkn (ya yp (pv 0) jk (λ_ _=>rfl)) (jn jr rfl T.jbd boot_len (jc (pv 2) jg)))) (@jb _ _ _ _ _ (j6 (i:=4) jab.nd rfl (Or.inl rfl) (ya yp (pv 2) (pv 3) (λ_ _=>rfl))) (@jb _ _ _ _ _ (qv (jv j5d (pv 4) jk (qc _)) (@jb _ _ _ _ _ (jhk (qy jvx (pv 4) (pv 1)) (jwz (pv 2) (pv 3) set_list)) (@jd _ _ _ (jx (qy jkn (pv 4) (pv 1))))) j4) (@jb _ _ _ _ _ (j6 (i:=5) jab.nd rfl (Or.inl rfl) (qy jkn (qy jal (pv 4) (qy jw9 jk (ya yp (pv 0) jk (λ_ _=>rfl)))) jk)) (@jb _ _ _ _ _ (j6 (i:=5) jab.nd rfl (Or.inl rfl) (qy jkn (qy j68 (pv 5) jk) jk)) (@jd _ _ _ (jx (qy jkn (qy jvx (qy jkn (qy jal (qy jw9 (qy jvx (pv 5) jk) jk) (pv 5)) jk) jk) (pv 1))))))))))),?_⟩;refine⟨_,rfl,To,_,0,.ref R,rfl,rfl,SqL.of h1,rfl,?_⟩;refine⟨_,rfl,To,_,1,.int c,rfl,rfl,SqL.of h1,rfl,_,_,rfl,rfl,?_⟩;refine⟨_,rfl,To,_,1,1,rfl,rfl,h1,rfl,?_⟩;have g1:(upd H To (.lst ([V.ref R,V.int c].set 1 (V.int (c+1))))) To=some (.lst [.ref R,.int (c+1)]):=ja;have g2:(upd H To (.lst ([V.ref R,V.int c].set 1 (V.int (c+1))))) R=some (.lst (row.map V.int)):=by rw[je nTR.symm];exact h2
 have kp:jqy To R H (upd H To (.lst ([V.ref R,V.int c].set 1 (V.int (c+1))))):=λb o e n1 _=>by rw[je n1];exact e
 generalize upd H To (.lst ([V.ref R,V.int c].set 1 (V.int (c+1))))=H1 at g1 g2 kp;have hl:(0:Int)<((row.map V.int).length:Int):=by rw[length_map];omega
 refine⟨_,rfl,To,_,1,.int (c+1),rfl,rfl,SqL.of g1,rfl,_,rfl,R,_,rfl,.inl (SqL.of g2),_,_,rfl,rfl,hl,?_⟩;rw[length_map]at hl⊢;have b0:0<=(c+1)%(row.length:Int):=Int.emod_nonneg _ (by omega);have b1:(c+1)%(row.length:Int)<(row.length:Int):=Int.emod_lt_of_pos _ hl;have b2:((c+1)%(row.length:Int)).toNat<row.length:=by omega
 refine⟨_,rfl,_,rfl,R,_,((c+1)%(row.length:Int)),_,rfl,rfl,SqL.of g2,jef b0 (get_map b2),?_⟩;refine⟨_,rfl,_,_,rfl,rfl,_,rfl,?_⟩;refine jhz (λh5=>?_) (λh5=>?_)
 .refine⟨_,rfl,_,rfl,_,_,rfl,rfl,⟨by omega,m2⟩,?_⟩;refine⟨_,rfl,_,rfl,R,_,((c+1)%(row.length:Int)),_,rfl,rfl,g2,jre b0 (by rw[length_map];exact b2),?_⟩;rw[jv9];refine⟨_,rfl,_,rfl,_,_,rfl,rfl,(by show(0:Int)<m;omega),?_⟩;refine k _ _ (Int.emod_nonneg _ (by omega)) (Int.emod_lt_of_pos _ (by omega)) ⟨_,c+1,by rw[je nTR];exact g1,ja,by rw[length_set];exact h3⟩ λb o e n1 n2=>?_;rw[je n2];exact kp b o e n1 n2
 .have big:∀z:Int,(z%4294967291).natAbs<2^64:=λz=>by
   have u1:=Int.emod_nonneg z (show(4294967291:Int)≠0 by decide);have u2:=Int.emod_lt_of_pos z (show(0:Int)<4294967291 by decide);omega
  refine⟨_,rfl,_,rfl,To,_,1,.int (c+1),rfl,rfl,SqL.of g1,rfl,_,_,rfl,rfl,.inl ⟨by decide,by decide⟩,_,_,rfl,rfl,_,_,rfl,rfl,(by show(0:Int)<4294967291;decide),?_⟩;refine⟨_,rfl,_,_,rfl,rfl,⟨by decide,by decide,big _⟩,_,_,rfl,rfl,(by show(0:Int)<4294967279;decide),?_⟩;refine⟨_,rfl,_,_,rfl,rfl,⟨by decide,by decide⟩,_,_,rfl,rfl,.inr ⟨by decide,by decide⟩,_,rfl,_,_,rfl,rfl,_,_,rfl,rfl,(by show(0:Int)<4294967231;decide),_,_,rfl,rfl,⟨by decide,by decide⟩,_,rfl,_,_,rfl,rfl,(by show(0:Int)<m;omega),?_⟩;exact k _ _ (Int.emod_nonneg _ (by omega)) (Int.emod_lt_of_pos _ (by omega)) ⟨row,c+1,g1,g2,h3⟩ kp
theorem zi (T:Txt K mg t):xj P w K mg base CX0 2 t.jk5 t.jls ["_law_town_here","_law_some_here"] jzh:=by
 refine T.zb.okB (N:=["_law_town_here","_law_some_here"]) λ_ A _ s H vs Q E hr h=>?_;obtain⟨To,R,S,xs,rfl,hT,hS,n1,n2,l0,l1,k⟩:=h;refine⟨_,(@jd _ _ _ (jx (ya yp (pv 1) (jm (j9 T) hr.dn rfl T.qe T.qb.kp T.qd .nil jo (@yk _ _ _ _ _ (pv 0) (jn jr rfl T.jbd boot_len (jc (pv 1) jg)) rfl rfl)) (λ_ _=>rfl)))),?_⟩;refine⟨_,rfl,_,rfl,_,rfl,S,xs,rfl,.inl (SqL.of hS),To,R,_,rfl,hT,by omega,by omega,λd H' d0 d1 hT' kp=>?_⟩;have hd:d.toNat<xs.length:=by omega
 exact⟨S,xs,d,xs[d.toNat],rfl,rfl,SqL.of (kp _ _ hS n1 n2),jef d0 (by simp[hd]),k d.toNat _ H' (by simp[hd]) hT' kp⟩
noncomputable def j4i:Sp:=λvs H Q _=>∃To R n m,vs=[.ref To,.int n,.int m]/\jqs To R H/\0<=n/\n<=16/\∀r (ks:List Int) H',H r=none->jqs To R H'->jqy To R H H'->H' r=some (.lst (ks.map V.int))->ks.Pairwise (·<·)->(∀k∈ks,0<=k/\k<n)->(ks.length:Int)<=(if 0<=m then m else 0)->Q (.ref r) H'
theorem joe (T:Txt K mg t):xj P w K mg base CX0 2 t.jky t.jk0 ["_law_town_here","_law_size","_law_most"] j4i:=by
 refine T.jg1.okA jh9 λ_ A _ s H vs Q E hr h=>?_;obtain⟨To,R,n,m,rfl,hT,n0,n6,k⟩:=h;refine⟨_,(@jb _ _ _ _ _ (@j6 _ _ 3 _ _ _ _ jh9.nd rfl (Or.inl rfl) (@zf _ _ _ _ jg) (by rfl) (by first|exact .inl rfl|exact .inr rfl)) (@jb _ _ _ _ _ (jo2 PassesOwn.never rfl (jel rfl T.jjc (jc (pv 1) jg)) (ju (i:=4) jh9.nd rfl (Or.inl rfl)) (@jd _ _ _ (qv (PW.pt (jkk (jv j1u (jn jr rfl T.jbd boot_len (jc (pv 3) jg)) (pv 2) (qc _)) (jgr (jv jen (jm (j9 T) hr.dn rfl T.qe T.qb.kp T.qd .nil jo (@yk _ _ _ _ _ (pv 0) jk rfl rfl)) jk (qc _))))) (@jd _ _ _ (qk (jjx PySem.F.plainAttrs_list PySem.F.slot_list_append PySem.F.type_list_append wz (pv 3) (jc (pv 4) jg)))) j4))) (@jd _ _ _ (jx (pv 3))))),?_⟩;refine⟨zs0,λr hr=>?_⟩;have fr:=hT.fresh hr;have s1:=jf (o:=.lst []) hr;refine⟨_,rfl,n,rfl,by omega,by omega,jt2 (lo:=0) (n:=n.toNat) (λi U H'=>∃(v:Option V)(ks:List Int),U=[some (.ref To),some (.int n),some (.int m),some (.ref r),v]/\jqs To R H'/\jqy To R H H'/\H' r=some (.lst (ks.map V.int))/\ks.length<=i/\(ks.length:Int)<=(if 0<=m then m else 0)/\ks.Pairwise (·<·)/\∀z∈ks,0<=z/\z<(i:Int)) ⟨none,[],rfl,hT.same s1,λb o e _ _=>s1 _ _ e,ja,le_refl _,(by show(0:Int)<=_;split<;>omega),.nil,λz hz=>by cases hz⟩ ?_ ?_⟩
 .rintro i U H' hi ⟨v,ks,rfl,hT',kp,hr',l,lm2,up,rg⟩
  have lm:(ks.map V.int).length=ks.length:=length_map ..;refine⟨_,rfl,r,_,rfl,.inl (SqL.of hr'),_,rfl,_,_,rfl,rfl,_,rfl,?_⟩;have old:∃(v:Option V)(ks':List Int),[some (.ref To),some (.int n),some (.int m),some (.ref r),some (.int (0+(i:Int)))]=[some (.ref To),some (.int n),some (.int m),some (.ref r),v]/\True:=⟨_,[],rfl,trivial⟩;refine jhz (λh1=>?_) (λh1=>?_)
  .refine⟨_,rfl,To,R,3,rfl,hT',by decide,by decide,λd H2 d0 d1 hT2 kp2=>?_⟩;have hr2:=kp2 _ _ hr' fr.1 fr.2;have kpH:jqy To R H H2:=λb o e x1 x2=>kp2 _ _ (kp b o e x1 x2) x1 x2;refine⟨rfl,_,rfl,jhz (λh2=>?_) (λh2=>?_)⟩
   .refine⟨_,rfl,.inl ⟨rfl,_,SqL.of hr2⟩,_,rfl,r,_,_,rfl,rfl,hr2,zw (by omega),?_⟩;refine⟨_,ks++[0+(i:Int)],rfl,?_,λb o e x1 x2=>?_,by rw[ja,map_append];rfl,?_,?_,?_,λz hz=>?_⟩
    .obtain⟨row,cc,t1,t2,t3⟩:=hT2;exact⟨row,cc,by rw[je (Ne.symm fr.1)];exact t1,by rw[je (Ne.symm fr.2)];exact t2,t3⟩
    .rw[je (jj e hr)];exact kpH b o e x1 x2
    .rw[length_append];show ks.length+1<=i+1;omega
    .rw[length_append];have:(ks.length:Int)<m:=by
      have:=of_decide_eq_true h1;rw[lm]at this;exact this
     rw[if_pos (by omega)];show((ks.length+1:Nat):Int)<=m;omega
    .rw[List.pairwise_append];refine⟨up,List.pairwise_singleton _ _,λx hx y hy=>?_⟩;have:y=0+(i:Int):=by simpa using hy
     have:=rg x hx;omega
    .rcases mem_append.mp hz with y|y
     .have:=rg z y;omega
     .have:z=0+(i:Int):=by simpa using y
      omega
   .exact⟨_,ks,rfl,hT2,kpH,hr2,by omega,lm2,up,λz hz=>by have:=rg z hz;omega⟩
  .exact yq ⟨_,ks,rfl,hT',kp,hr',by omega,lm2,up,λz hz=>by have:=rg z hz;omega⟩
 .rintro U H' ⟨v,ks,rfl,hT',kp,hr',l,lm2,up,rg⟩
  exact⟨_,rfl,k r ks H' hr hT' kp hr' up (λz hz=>by have:=rg z hz;omega) lm2⟩
theorem j4e {C a0 a1 a2 a3 a4 a5 a6 a7 a8 a9 a10 a11 a12:Value}{b0 b1 b2 b3 b4 b5 b6 b7 b8 b9 b10 b11 b12:Bool}(h:kinds K C [a0,a1,a2,a3,a4,a5,a6,a7,a8,a9,a10,a11,a12]=[some b0,some b1,some b2,some b3,some b4,some b5,some b6,some b7,some b8,some b9,some b10,some b11,some b12]):W.kitOne K C a0=some b0/\W.kitOne K C a1=some b1/\W.kitOne K C a2=some b2/\W.kitOne K C a3=some b3/\W.kitOne K C a4=some b4/\W.kitOne K C a5=some b5/\W.kitOne K C a6=some b6/\W.kitOne K C a7=some b7/\
  W.kitOne K C a8=some b8/\W.kitOne K C a9=some b9/\W.kitOne K C a10=some b10/\W.kitOne K C a11=some b11/\W.kitOne K C a12=some b12:=by
 unfold kinds at h;simpa only[map_cons,map_nil,List.cons.injEq,and_true]using h
noncomputable def words:List V:=[.str "number",.str "order",.str "houses",.str "house",.str "purse",.str "letter",.str "now",.str "much",.str "paper",.str "cut",.str "text"]
noncomputable def jxz (K:W.Frag)(t:Ad):Sp:=λvs H Q _=>∃(ea C:Addr)(b0 b1 b2 b3 b4 b5 b6 b7 b8 b9 b10:Bool)(x:V),vs=[.ref ea]/\H ea=some (jt1 ea (.ref C))/\XIs K C/\kinds K (.ref C) (asked t)=[some b0,some b1,some b2,some b3,some b4,some b5,some b6,some b7,some b8,some b9,some b10,some true,some true]/\[b0,b1,b2,b3,b4,b5,b6,b7,b8,b9,b10].count true=1/\
 words[[b0,b1,b2,b3,b4,b5,b6,b7,b8,b9,b10].idxOf true]?=some x/\∀H',vq H H'->Q x H'
set_option maxHeartbeats 0 in
theorem jij (T:Txt K mg t) : xj P w K mg base CX0 1 t.jfz t.jft ["_law_caught"] (jxz K t):=by
 refine T.jby.okA yn λ_ A _ s H vs Q E hr h=>?_
 obtain ⟨ea,C,b0,b1,b2,b3,b4,b5,b6,b7,b8,b9,b10,x,rfl,he,hX,hk,hc,hw,k⟩:=h
 obtain ⟨k0,k1,k2,k3,k4,k5,k6,k7,k8,k9,k10,k11,k12⟩:=j4e hk
 refine ⟨_,(@jb _ _ _ _ _ (@j6 _ _ 1 _ _ _ _ yn.nd rfl (Or.inl rfl) (@zf _ _ _ _ (@jlv _ _ _ _ _ _ _ (jn xc rfl T.jw boot_isinstance (@yk _ _ _ _ _ (pv 0) (ze (v:=.ref t.jkt) rfl T.jpy rfl) rfl rfl)) (jn xc rfl T.jw boot_isinstance (@yk _ _ _ _ _ (pv 0) (ze (v:=.ref t.jn5) rfl T.jsb rfl) rfl rfl)) (jn xc rfl T.jw boot_isinstance (@yk _ _ _ _ _ (pv 0) (ze (v:=.ref t.jk4) rfl T.jrc rfl) rfl rfl)) rfl rfl rfl)) (by rfl) (by first | exact .inl rfl | exact .inr rfl))
  (@jb _ _ _ _ _ (j6 (i:=1) yn.nd rfl (Or.inl rfl) (qy juw (pv 1) (@zf _ _ _ _ (@jlv _ _ _ _ _ _ _ (jn xc rfl T.jw boot_isinstance (@yk _ _ _ _ _ (pv 0) (ze (v:=.ref t.jra) rfl T.juf rfl) rfl rfl)) (jn xc rfl T.jw boot_isinstance (@yk _ _ _ _ _ (pv 0) (ze (v:=.ref t.xk) rfl T.jqg rfl) rfl rfl)) (jn xc rfl T.jw boot_isinstance (@yk _ _ _ _ _ (pv 0) (ze (v:=.ref t.jnm) rfl T.jsj rfl) rfl rfl)) rfl rfl rfl))))
  (@jb _ _ _ _ _ (j6 (i:=1) yn.nd rfl (Or.inl rfl) (qy juw (pv 1) (@zf _ _ _ _ (@jlv _ _ _ _ _ _ _ (jn xc rfl T.jw boot_isinstance (@yk _ _ _ _ _ (pv 0) (ze (v:=.ref t.jbc) rfl T.jss rfl) rfl rfl)) (jn xc rfl T.jw boot_isinstance (@yk _ _ _ _ _ (pv 0) (ze (v:=.ref t.wu) rfl T.jqi rfl) rfl rfl)) (jn xc rfl T.jw boot_isinstance (@yk _ _ _ _ _ (pv 0) (ze (v:=.ref t.jnu) rfl T.jsd rfl) rfl rfl)) rfl rfl rfl))))
  (@jb _ _ _ _ _ (j6 (i:=1) yn.nd rfl (Or.inl rfl) (qy juw (pv 1) (@zf _ _ _ _ (@yk _ _ _ _ _ (jn xc rfl T.jw boot_isinstance (@yk _ _ _ _ _ (pv 0) (ze (v:=.ref t.jtu) rfl T.jw4 rfl) rfl rfl)) (jn xc rfl T.jw boot_isinstance (@yk _ _ _ _ _ (pv 0) (ze (v:=.ref t.jpn) rfl T.jux rfl) rfl rfl)) rfl rfl))))
  (@jb _ _ _ _ _ (qv (PW.pt (jhx (jv jx7 (jjx PySem.F.plainAttrs_list PySem.F.slot_list_count PySem.F.type_list_count jz0 (pv 1) (jc jgd jg)) jk (qc _)) (jhx (qz (qr (jn xc rfl T.jw boot_isinstance (@yk _ _ _ _ _ (pv 0) (ze (v:=.ref t.wq) rfl T.je1 rfl) rfl rfl)))) (jb4 (qz (qr (jn xc rfl T.jw boot_isinstance (@yk _ _ _ _ _ (pv 0) (jcn (v:=.ty "ValueError") rfl T.jos jq3 rfl) rfl rfl)))))))) (@jd _ _ _ (jx gr)) j4)
  (@jb _ _ _ _ _ (@j6 _ _ 2 _ _ _ _ yn.nd rfl (Or.inl rfl) (@zf _ _ _ _ (@j8q _ _ _ _ _ _ _ _ _ _ _ _ _ _ _ _ _ _ _ _ _ _ _ gr gr gr gr gr gr gr gr gr gr gr rfl rfl rfl rfl rfl rfl rfl rfl rfl rfl rfl)) (by rfl) (by first | exact .inl rfl | exact .inr rfl))
  (@jd _ _ _ (jx (ya yp (pv 2) (jjx PySem.F.plainAttrs_list PySem.F.slot_list_index PySem.F.type_list_index jy7 (pv 1) (jc jgd jg)) (λ_ _=>rfl)))))))))),?_⟩
 refine ⟨_,rfl,ea,C,_,_,b0,rfl,he,hX,rfl,k0,_,rfl,ea,C,_,_,b1,rfl,he,hX,rfl,k1,_,rfl,ea,C,_,_,b2,rfl,he,hX,rfl,k2,zs3,λp1 h1=>?_⟩
 have s1:=jf (o:=.lst [.bl b0,.bl b1,.bl b2]) h1
 have he1:=s1 _ _ he
 refine ⟨_,rfl,_,rfl,ea,C,_,_,b3,rfl,he1,hX,rfl,k3,_,rfl,ea,C,_,_,b4,rfl,he1,hX,rfl,k4,_,rfl,ea,C,_,_,b5,rfl,he1,hX,rfl,k5,zs3,λp2 h2=>?_⟩
 refine ⟨p1,p2,[.bl b0,.bl b1,.bl b2],[.bl b3,.bl b4,.bl b5],rfl,rfl,(by rw [je (jj ja h2)]; exact ja),ja,zs6,λp3 h3=>?_⟩
 have s3:=(s1.trans (jf (o:=.lst [.bl b3,.bl b4,.bl b5]) h2)).trans (jf (o:=.lst ([.bl b0,.bl b1,.bl b2] ++ [.bl b3,.bl b4,.bl b5])) h3)
 have g3:(upd (upd (upd H p1 (.lst [.bl b0,.bl b1,.bl b2])) p2 (.lst [.bl b3,.bl b4,.bl b5])) p3 (.lst ([.bl b0,.bl b1,.bl b2] ++ [.bl b3,.bl b4,.bl b5]))) p3 = some (.lst [.bl b0,.bl b1,.bl b2,.bl b3,.bl b4,.bl b5]):=ja
 generalize upd (upd (upd H p1 (.lst [.bl b0,.bl b1,.bl b2])) p2 (.lst [.bl b3,.bl b4,.bl b5])) p3 (.lst ([.bl b0,.bl b1,.bl b2] ++ [.bl b3,.bl b4,.bl b5])) = H3 at s3 g3
 have he3:=s3 _ _ he
 refine ⟨_,rfl,_,rfl,ea,C,_,_,b6,rfl,he3,hX,rfl,k6,_,rfl,ea,C,_,_,b7,rfl,he3,hX,rfl,k7,_,rfl,ea,C,_,_,b8,rfl,he3,hX,rfl,k8,zs3,λp4 h4=>?_⟩
 refine ⟨p3,p4,[.bl b0,.bl b1,.bl b2,.bl b3,.bl b4,.bl b5],[.bl b6,.bl b7,.bl b8],rfl,rfl,(by rw [je (jj g3 h4)]; exact g3),ja,zs9,λp5 h5=>?_⟩
 have s5:=(s3.trans (jf (o:=.lst [.bl b6,.bl b7,.bl b8]) h4)).trans (jf (o:=.lst ([.bl b0,.bl b1,.bl b2,.bl b3,.bl b4,.bl b5] ++ [.bl b6,.bl b7,.bl b8])) h5)
 have g5:(upd (upd H3 p4 (.lst [.bl b6,.bl b7,.bl b8])) p5 (.lst ([.bl b0,.bl b1,.bl b2,.bl b3,.bl b4,.bl b5] ++ [.bl b6,.bl b7,.bl b8]))) p5 = some (.lst [.bl b0,.bl b1,.bl b2,.bl b3,.bl b4,.bl b5,.bl b6,.bl b7,.bl b8]):=ja
 generalize upd (upd H3 p4 (.lst [.bl b6,.bl b7,.bl b8])) p5 (.lst ([.bl b0,.bl b1,.bl b2,.bl b3,.bl b4,.bl b5] ++ [.bl b6,.bl b7,.bl b8])) = H5 at s5 g5
 have he5:=s5 _ _ he
 refine ⟨_,rfl,_,rfl,ea,C,_,_,b9,rfl,he5,hX,rfl,k9,_,rfl,ea,C,_,_,b10,rfl,he5,hX,rfl,k10,zs2,λp6 h6=>?_⟩
 refine ⟨p5,p6,[.bl b0,.bl b1,.bl b2,.bl b3,.bl b4,.bl b5,.bl b6,.bl b7,.bl b8],[.bl b9,.bl b10],rfl,rfl,(by rw [je (jj g5 h6)]; exact g5),ja,j97,λp7 h7=>?_⟩
 have s7:=(s5.trans (jf (o:=.lst [.bl b9,.bl b10]) h6)).trans (jf (o:=.lst ([.bl b0,.bl b1,.bl b2,.bl b3,.bl b4,.bl b5,.bl b6,.bl b7,.bl b8] ++ [.bl b9,.bl b10])) h7)
 have g7:(upd (upd H5 p6 (.lst [.bl b9,.bl b10])) p7 (.lst ([.bl b0,.bl b1,.bl b2,.bl b3,.bl b4,.bl b5,.bl b6,.bl b7,.bl b8] ++ [.bl b9,.bl b10]))) p7 = some (.lst ([b0,b1,b2,b3,b4,b5,b6,b7,b8,b9,b10].map V.bl)):=ja
 generalize upd (upd H5 p6 (.lst [.bl b9,.bl b10])) p7 (.lst ([.bl b0,.bl b1,.bl b2,.bl b3,.bl b4,.bl b5,.bl b6,.bl b7,.bl b8] ++ [.bl b9,.bl b10])) = H7 at s7 g7
 have he7:=s7 _ _ he
 have hmem:true ∈ [b0,b1,b2,b3,b4,b5,b6,b7,b8,b9,b10]:=List.count_pos_iff.mp (by rw [hc]; decide)
 generalize [b0,b1,b2,b3,b4,b5,b6,b7,b8,b9,b10] = bs at hc hw g7 hmem
 refine ⟨_,rfl,.inl ⟨rfl,_,SqL.of g7⟩,p7,bs,true,rfl,rfl,SqL.of g7,rfl,_,rfl,?_⟩
 refine jhz (λz=>?_) (λ_=>?_)
 .exfalso
  rw [hc] at z
  exact absurd z (by decide)
 refine ⟨_,rfl,ea,C,_,_,true,rfl,he7,hX,rfl,k11,_,rfl,yq ?_⟩
 refine ⟨_,rfl,ea,C,_,_,true,rfl,he7,hX,rfl,k12,_,rfl,yq ?_⟩
 refine ⟨j97,λp8 h8=>?_⟩
 have s8:=s7.trans (jf (o:=.lst words) h8)
 have g8:=(jf (o:=.lst words) h8) _ _ g7
 refine ⟨_,rfl,_,rfl,.inl ⟨rfl,_,SqL.of g8⟩,p7,bs,true,rfl,rfl,SqL.of g8,hmem,?_⟩
 exact ⟨p8,words,_,x,rfl,rfl,SqL.of ja,jef (by omega) (by rw [Int.toNat_natCast]; exact hw),k _ s8⟩
theorem jzt (ks:List (Int×Kp))(h:Int)(B:Kp):(jnq ks h B).map (·.1)=ks.map (·.1):=by
 unfold jnq;rw[map_map];refine List.map_congr_left λc _=>?_;show(if c.1=h then(h,B)else c).1=c.1;split
 .rename_i z;exact z.symm
 .rfl
structure Wd.Kin (Y Y':Wd):Prop where
 n:Y'.n=Y.n
 c:Y'.ki=Y.ki
 h:Y'.ks.map (·.1)=Y.ks.map (·.1)
 e:Y'.en=Y.en
theorem Wd.j1b.kin {Y Y':Wd}(l:Y.j1b Y'):Y.Kin Y':=⟨l.n,l.c,by rw[l.k],l.e⟩
theorem j1x (Y:Wd)(i:Nat)(l:Bool×Int×O)(B:Kp):Y.Kin (Y.jze i l B):=by have k:=vm l.2.1 (B.take l.1 l.2.2).2 {Y with way:=Y.way.eraseIdx i,ks:=jnq Y.ks l.2.1 (B.take l.1 l.2.2).1};refine⟨k.n,k.c,?_,k.e⟩;show(Wd.zj _ _ _).ks.map _=_;rw[k.k];exact jzt _ _ _
section
variable {t:Ad}{H H':Hp}{Z Z':Rho}{W:WA}{Y Y':Wd}{T:Nat}{p:Pt}{P:Role->Prop}{To R:Addr}{L:List O}
theorem Wl.next (w:Wl t H Z W Y T p)(f:Fr P Z H Z' H')(O':qu t H' Z' 0 W Y')(kr:OkR Z' H'){T2:Nat}(g:Gn Y' T2 (1000*T2) L p.ls p.ns)(s:Sk Y' L p.ls)(e:Y.Kin Y'):Wl t H' Z' W Y' T2 p:=⟨O',kr,jjv f w.ly.1 w.ly.2,⟨L,g,s⟩,e.e.trans w.en,e.n.trans w.n,e.c.trans w.c,e.h.trans w.h,w.tot⟩
end
noncomputable def j0i (t:Ad):Sp:=λvs H Q _=>∃Z W Y T p To R,vs=[.ref To,.ref W.x]/\Sw t H Z W Y T p To R/\p.ls.length<=5/\T<=60/\Gos t H Z W Y T p To R Q
theorem jrq (T:Txt K mg t):xj P w K mg base CX0 9 t.jgv t.jgj ["_law_town_here","_law_world_here"] (j0i t):=by
 refine T.jgz.okA jj6 λ_ A _ s H vs Q E hr h=>?_;obtain⟨Z,W,Y,T',p,To,R,rfl,S,l5,hT,k⟩:=h;refine⟨_,(@jb _ _ _ _ _ (j6 (i:=2) jj6.nd rfl (Or.inl rfl) (jn jr rfl T.jbd boot_len (jc (zy (pv 1) T.jl T.ub (jcq T) hr.dn T.ja3 .nil jo) jg))) (@jd _ _ _ (jx (jm7 (jv jvz (pv 2) jk (qc _)) (qi (pv 1) T.jl T.jlw (jst T) hr.dn T.jon .nil jo (jc (jm (j9 T) hr.dn rfl T.qe T.qb.kp T.qd .nil jo (@yk _ _ _ _ _ (pv 0) (pv 2) rfl rfl)) jg)) jmd)))),?_⟩;obtain⟨L,g,sk⟩:=S.w.g;have wl:=g.wl;refine⟨_,rfl,W.x,W.dx,_,rfl,S.w.o.ob.1,xw,Z,0,W,Y,rfl,S.w.o,by omega,λr xs nr px=>?_⟩;have lx:xs.length=Y.way.length:=Paired.length px;have s1:=jf (o:=.lst xs) nr;refine⟨r,xs,rfl,.inl (SqL.of ja),?_⟩;have S1:=S.same s1;have f1:Fr j5t Z H Z (upd H r (.lst xs)):=Fr.same s1;generalize upd H r (.lst xs)=H1 at S1 f1;refine⟨_,rfl,_,_,rfl,rfl,_,rfl,jhz (λz=>?_) (λz=>k Z _ Y _ S1.wait f1 (jyu.refl _))⟩;have pw:0<Y.way.length:=by
  have:=of_decide_eq_true z;omega
 refine⟨_,rfl,W.x,W.dx,_,rfl,S1.w.o.ob.1,xw,_,rfl,_,rfl,To,R,(xs.length:Int),rfl,S1.tn,by omega,by omega,λd H2 d0 d1 hT2 k2=>?_⟩;obtain⟨S2,f2⟩:=S1.draw hT2 k2;obtain⟨l,el⟩:∃l,Y.way[d.toNat]?=some l:=⟨_,getElem?_eq_getElem (by omega)⟩;obtain⟨lL,lh,lc⟩:=g.g.y l (mem_of_getElem? el);obtain⟨B,ek,km⟩:=jsk lh;have kk:KIn L T' Y.n B:=g.ks _ km;have ll:=(kk.take l.1 lL (g.lo _ lL)).2.2;have e1:=kk.sz.hd;have e2:=kk.sz.uc;have e3:=kk.sz.dw;have z0:=g.l;have z1:=g.ok.k1;have z2:=le_trans (show p.ls.length<=5 from l5) (show 5<=900 by decide);refine⟨Z,0,W,Y,d.toNat,l,B,_,_,_,by rw[Int.toNat_of_nonneg d0];rfl,S2.w.o,S2.w.kr,el,ek,g.ok.nd,kk.ok,g.ok.n8,g.lo _ lL,⟨by omega,by omega,by omega⟩,g.sz,by omega,by omega,by omega,λZ' H' x O' f' kr' ux=>?_⟩;have g2:=(g.jze el ek).mono (T':=T'+1) (M':=1000*(T'+1)) (le_refl _) (by omega);obtain⟨S3,f3⟩:=S2.go f' (λ_ z=>z) (S2.w.next f' O' kr' g2 (sk.jze g.ok.nd km kk.u lL).1 (j1x Y d.toNat l B));exact k Z' H' _ _ S3 ((f1.trans (jvs f2)).trans f3) (sk.jze g.ok.nd km kk.u lL).2
noncomputable def j4h (t:Ad):Sp:=λvs H Q _=>∃Z W Y T p To R,Sw t H Z W Y T p To R/\T<=60/\Gos t H Z W Y T p To R Q/\((∃pu g m,vs=[.str "ask",.ref W.x,.int pu,.int g,.int m]/\(0<=pu/\pu<(Y.n:Int))/\(0<=g/\g<(Y.n:Int))/\g≠pu/\(1<=m/\m<=1000))\/(∃h q l,vs=[.str "lie",.ref W.x,.int h,.ref q,.int 0]/\h∈p.ls/\p.ls.length<=5/\xi H Z (.ref q) l.2.2/\l∈Y.way))
set_option maxHeartbeats 0 in
theorem jow (T:Txt K mg t) : xj P w K mg base CX0 8 t.jlo t.jkz ["_law_kind","_law_world_here","_law_one","_law_two","_law_three"] (j4h t):=by
 refine T.jgq.ok qw (λvs H Q E h=>?_) (λcdv A outer s H vs Q E hr h=>?_)
 .obtain ⟨Z,W,Y,T',p,To,R,_,_,_,⟨pu,g,m,rfl,_⟩ | ⟨h,q,l,rfl,_⟩⟩:=h
  .rfl
  .rfl
 .obtain ⟨Z,W,Y,T',p,To,R,S,hT,k,hc⟩:=h
  obtain ⟨L,gn,sk⟩:=S.w.g
  have lway:=gn.wl
  have O:=S.w.o
  have kr:=S.w.kr
  have old : ∀ {H' v},vq H H' -> Q v H':=λsm=>k Z _ Y _ (S.same sm).wait (Fr.same sm) (jyu.refl _)
  rcases hc with ⟨pu,g,m,rfl,hp,hg,ng,hm⟩ | ⟨h,q,l,rfl,hl,l5,uq,lw⟩
  .refine ⟨_,(@jb _ _ _ _ _ (j6 (i:=5) qw.nd rfl (Or.inl rfl) jmd)
   (@jb _ _ _ _ _ (j6 (i:=6) qw.nd rfl (Or.inl rfl) jmd)
   (@jb _ _ _ _ _ (jzs (i:=7) rfl rfl rfl rfl T.je1 T.jgn qw.nd rfl rfl (λ_ _=>(@jd _ _ _ (qv (jv jen (pv 0) gr (qc _)) (@jd _ _ _ (j6 (i:=5) qw.nd rfl (Or.inl rfl) (jxi (pv 1) T.jl T.jiz (jot T) hr.dn T.jlk .nil (@jlv _ _ _ _ _ _ _ (pv 2) (pv 3) (pv 4) rfl rfl rfl)))) (@jd _ _ _ (qv (jv jen (pv 0) gr (qc _)) qf (@jd _ _ _ (qv (jv jen (pv 0) gr (qc _)) (@jd _ _ _ (j6 (i:=5) qw.nd rfl (Or.inl rfl) (qi (pv 1) T.jl T.je0 (jiv T) hr.dn T.jhc .nil jo (@yk _ _ _ _ _ (pv 2) (pv 3) rfl rfl)))) qf))))))) (λ_=>(@jd _ _ _ (j6 (i:=6) qw.nd rfl (Or.inl rfl) (pv 7)))))
   (@jd _ _ _ (jx (jm7 (jv j3p (pv 6) jmd (qc _)) (pv 5) (jm (jij T) hr.dn rfl T.jfk T.jby.kp T.jfi .nil jo (jc (pv 6) jg)))))))),?_⟩
   obtain ⟨row,erow⟩:=gn.row hp.1 hp.2
   have lrow:=gn.al row (mem_of_getElem? erow)
   refine ⟨λU' cls dd H'=>U' = [some (.str "ask"),some (.ref W.x),some (.int pu),some (.int g),some (.int m),some .non,some .non,none] /\ vq H H' /\ (cls = .ref t.jbc \/ cls = .ref t.wu \/ cls = .ref t.xk),?_,?_⟩
   .refine ⟨_,rfl,rfl,_,rfl,jhy ?_⟩
    refine ⟨_,rfl,W.x,W.dx,_,rfl,O.ob.1,xw,_,rfl,_,rfl,_,rfl,Z,0,W,Y,pu,g,m,row,rfl,O,kr,gn.ok,hp,hg,ng,hm,erow,by omega,by omega,λ_ d H' s'=>⟨rfl,s',.inr (.inr rfl)⟩,λo eo ec H' s'=>⟨rfl,s',.inl rfl⟩,λhcar M' eM'=>⟨λlt H' s'=>⟨rfl,s',.inr (.inl rfl)⟩,λle nc H' q O' f' kr' uq=>?_⟩⟩
    refine ⟨_,rfl,rfl,_,rfl,jhy ⟨_,rfl,?_⟩⟩
    have g2:=(gn.ask (by omega) hp hg ng hm erow).mono (T':=T' + 1) (M':=1000 * (T' + 1)) (le_refl _) (by omega)
    obtain ⟨S2,f2⟩:=S.go f' (λ_ z=>z) (S.w.next f' O' kr' g2 (sk.ask erow nc) ⟨rfl,rfl,rfl,rfl⟩)
    exact k Z H' _ _ S2 f2 (.of rfl rfl)
   .rintro U' cls dd H' ea ⟨rfl,sm,hw⟩ hea
    have sx : ∀ {u:HO},vq H (upd H' ea u):=λ{u}=>sm.trans (jf hea)
    rcases hw with rfl | rfl | rfl
    .refine ⟨t.jbc,rfl,T.jc5,?_⟩
     refine ⟨_,rfl,ja,?_⟩
     rw [jkq]
     refine ⟨_,rfl,rfl,_,rfl,yq ?_⟩
     exact ⟨_,rfl,ea,t.jbc,false,false,false,false,false,false,true,false,false,false,false,.str "now",rfl,ja,T.juc,T.juy,by decide,rfl,λH'' s''=>old (sx.trans s'')⟩
    .refine ⟨t.wu,rfl,T.jb2,?_⟩
     refine ⟨_,rfl,ja,?_⟩
     rw [jkq]
     refine ⟨_,rfl,rfl,_,rfl,yq ?_⟩
     exact ⟨_,rfl,ea,t.wu,false,false,false,false,false,false,false,true,false,false,false,.str "much",rfl,ja,T.jr2,T.jr9,by decide,rfl,λH'' s''=>old (sx.trans s'')⟩
    .refine ⟨t.xk,rfl,T.jb6,?_⟩
     refine ⟨_,rfl,ja,?_⟩
     rw [jkq]
     refine ⟨_,rfl,rfl,_,rfl,yq ?_⟩
     exact ⟨_,rfl,ea,t.xk,false,false,false,false,true,false,false,false,false,false,false,.str "purse",rfl,ja,T.jse,T.jsf,by decide,rfl,λH'' s''=>old (sx.trans s'')⟩
  .refine ⟨_,(@jb _ _ _ _ _ (j6 (i:=5) qw.nd rfl (Or.inl rfl) jmd)
   (@jb _ _ _ _ _ (j6 (i:=6) qw.nd rfl (Or.inl rfl) jmd)
   (@jb _ _ _ _ _ (jzs (i:=7) rfl rfl rfl rfl T.je1 T.jgn qw.nd rfl rfl (λ_ _=>(@jd _ _ _ (qv (jv jen (pv 0) gr (qc _)) (@jd _ _ _ (j6 (i:=5) qw.nd rfl (Or.inl rfl) (jxi (pv 1) T.jl T.jiz (jot T) hr.dn T.jlk .nil (@jlv _ _ _ _ _ _ _ (pv 2) (pv 3) (pv 4) rfl rfl rfl)))) (@jd _ _ _ (qv (jv jen (pv 0) gr (qc _)) qf (@jd _ _ _ (qv (jv jen (pv 0) gr (qc _)) (@jd _ _ _ (j6 (i:=5) qw.nd rfl (Or.inl rfl) (qi (pv 1) T.jl T.je0 (jiv T) hr.dn T.jhc .nil jo (@yk _ _ _ _ _ (pv 2) (pv 3) rfl rfl)))) qf))))))) (λ_=>(@jd _ _ _ (j6 (i:=6) qw.nd rfl (Or.inl rfl) (pv 7)))))
   (@jd _ _ _ (jx (jm7 (jv j3p (pv 6) jmd (qc _)) (pv 5) (jm (jij T) hr.dn rfl T.jfk T.jby.kp T.jfi .nil jo (jc (pv 6) jg)))))))),?_⟩
   refine ⟨λU' cls dd H'=>False,?_,λU' cls dd H' ea z=>z.elim⟩
   obtain ⟨lL,lh,lc⟩:=gn.g.y l lw
   have z:=gn.sz
   have z1:=gn.l
   have z2:=gn.ok.k1
   refine ⟨_,rfl,rfl,_,rfl,yq ?_⟩
   refine ⟨_,rfl,rfl,_,rfl,yq ?_⟩
   refine ⟨_,rfl,rfl,_,rfl,jhy ?_⟩
   refine ⟨_,rfl,W.x,W.dx,_,rfl,O.ob.1,xw,_,rfl,_,rfl,Z,0,W,Y,h,q,l.2.2,p.ls,_,_,_,rfl,O,kr,S.w.ly.1,hl,uq,gn.lo _ lL,gn.mw _ lL,z,by omega,by omega,by omega,λZ' H' O' f' kr'=>?_⟩
   refine ⟨_,rfl,rfl,_,rfl,jhy ⟨_,rfl,?_⟩⟩
   have g2:=(gn.zj (h:=h) (mem_append_right _ hl) (os:=[l.2.2]) (λo ho=>by rw [mem_singleton.mp ho]; exact lL)).mono (T':=T' + 1) (M':=1000 * (T' + 1)) (by omega) (by show 1000 * T' + 16 * 1 <= _; omega)
   obtain ⟨S2,f2⟩:=S.go f' (λr hr=>by rcases hr with hr | hr | hr <;> rw [hr]) (S.w.next f' O' kr' g2 (sk.lie hl _) (vm h [l.2.2] Y).kin)
   exact k Z' H' _ _ S2 f2 (.of (vm h [l.2.2] Y).e (vm h [l.2.2] Y).k)
theorem j3t {p n d:Int}(h0:0<=p)(h1:p<n)(d0:0<=d)(d1:d<n-1):0<=(p+1+d)%n/\(p+1+d)%n<n/\(p+1+d)%n≠p:=by
 refine⟨Int.emod_nonneg _ (by omega),Int.emod_lt_of_pos _ (by omega),λz=>?_⟩;have e:=Int.mul_ediv_add_emod (p+1+d) n;rw[z]at e;generalize (p+1+d) / n=q at e;by_cases y:q<=0
 .have:=Int.mul_le_mul_of_nonneg_left y (show 0<=n by omega);omega
 .have:=Int.mul_le_mul_of_nonneg_left (show 1<=q by omega) (show 0<=n by omega);omega
noncomputable def j2i (t:Ad):Sp:=λvs H Q _=>∃Z W Y T p To R pa jbt few fo ho be ro pu,vs=[.ref To,.ref pa,.int pu]/\Sw t H Z W Y T p To R/\Ps H Z pa W.x jbt few fo ho be ro p/\p.Ok/\0<=pu/\pu<(p.ns.length:Int)/\∀H' q o,Sw t H' Z W Y T p To R->Fr jo7 Z H Z H'->xi H' Z (.ref q) o->ye p.ns.length o=true->o.p=pu->o.n<=2->Q (.ref q) H'
theorem jsx (T:Txt K mg t):xj P w K mg base CX0 3 t.jia t.jib ["_law_town_here","_law_parts","_law_purse"] (j2i t):=by
 refine T.jip.okA jg5 λ_ A _ s H vs Q E hr h=>?_;obtain⟨Z,W,Y,T',p,To,R,pa,jbt,few,fo,ho,be,ro,pu,rfl,S,Bq,ok,p0,p1,k⟩:=h;refine⟨_,(@jb _ _ _ _ _ (j6 (i:=3) jg5.nd rfl (Or.inl rfl) (jn jr rfl T.jbd boot_len (jc (ya jdm (pv 1) jk (λ_ _=>rfl)) jg))) (@jb _ _ _ _ _ (j6 (i:=4) jg5.nd rfl (Or.inl rfl) (qy jkn (qy jal (qy jal (pv 2) jk) (jm (j9 T) hr.dn rfl T.qe T.qb.kp T.qd .nil jo (@yk _ _ _ _ _ (pv 0) (qy jek (pv 3) jk) rfl rfl))) (pv 3))) (@jd _ _ _ (jx (@jgb _ _ _ _ _ (@j71 _ _ _ _ _ _ _ _ _ (pv 2) (jm (j9 T) hr.dn rfl T.qe T.qb.kp T.qd .nil jo (@yk _ _ _ _ _ (pv 0) jk rfl rfl)) (pv 4) (qy jal jk (jm (zi T) hr.dn rfl T.zr T.zb.kp T.zq .nil jo (@yk _ _ _ _ _ (pv 0) (@zf _ _ _ _ (@jlv _ _ _ _ _ _ _ jk jk (jm (j9 T) hr.dn rfl T.qe T.qb.kp T.qd .nil jo (@yk _ _ _ _ _ (pv 0) jk rfl rfl)) rfl rfl rfl)) rfl rfl))) rfl rfl rfl rfl)))))),?_⟩;have l2:=ok.l2;have l8:=ok.l8;refine⟨_,rfl,pa,_,5,.ref be,rfl,rfl,SqT.of Bq.tp.1,rfl,be,_,rfl,.inl (SqL.of Bq.be.1),?_⟩;rw[length_map];refine⟨_,rfl,_,_,rfl,rfl,_,rfl,_,rfl,_,_,rfl,rfl,To,R,(p.ns.length:Int)-1,rfl,S.tn,by omega,by omega,λd H1 d0 d1 hT1 k1=>?_⟩;obtain⟨S1,f1⟩:=S.draw hT1 k1;obtain⟨g0,g1,g2⟩:=j3t p0 p1 d0 d1;refine⟨_,_,rfl,rfl,_,rfl,_,_,rfl,rfl,(by show(0:Int)<(p.ns.length:Int);omega),?_⟩;refine⟨_,rfl,_,rfl,To,R,3,rfl,S1.tn,by decide,by decide,λn H2 n0 n1 hT2 k2=>?_⟩;obtain⟨S2,f2⟩:=S1.draw hT2 k2;refine⟨_,rfl,_,rfl,_,rfl,To,R,12,rfl,S2.tn,by decide,by decide,λm H3 m0 m1 hT3 k3=>?_⟩;obtain⟨S3,f3⟩:=S2.draw hT3 k3;refine⟨zs3,λl nl=>?_⟩;have s3:=jf (o:=.lst [.int 0,.int 4,.int m]) nl;have S3':=S3.same s3;obtain⟨n1',n2'⟩:=S3.tn.fresh nl;refine⟨To,R,l,_,rfl,S3'.tn,ja,n1',n2',by show 0<3;decide,by show 3<=1000000;decide,λi x H4 ex hT4 k4=>?_⟩;obtain⟨S4,f4⟩:=S3'.draw hT4 k4;obtain⟨v,rfl,v0,v1⟩:∃v,x=V.int v/\0<=v/\v<=12:=by
  have:=mem_of_getElem? ex;simp only[mem_cons,List.not_mem_nil,or_false]at this;rcases this with rfl|rfl|rfl
  .exact⟨0,rfl,by decide,by decide⟩
  .exact⟨4,rfl,by decide,by decide⟩
  .exact⟨m,rfl,m0,by omega⟩
 refine⟨_,_,rfl,rfl,zs4,λq nq=>?_⟩;have s5:=jf (o:=.tup [.int pu,.int n,.int ((pu+1+d)%(p.ns.length:Int)),.int (1+v)]) nq;refine k _ q ⟨pu,n,(pu+1+d)%(p.ns.length:Int),1+v⟩ (S4.same s5) ((((f1.trans f2).trans f3).trans (Fr.same s3)).trans (f4.trans (Fr.same s5))) ⟨q,rfl,S4.w.kr.none nq,ja⟩ (jam.mpr ⟨p0,by show pu<=(p.ns.length:Int)-1;omega,g0,by show(pu+1+d)%(p.ns.length:Int)<=(p.ns.length:Int)-1;omega,λy=>g2 y.symm,n0,by show n<=99;omega,by show 1<=1+v;omega,by show 1+v<=1000;omega⟩) rfl (by show n<=2;omega)
theorem int_at {zs:List Int}{i:Nat}{x:V}(e:(zs.map V.int)[i]?=some x):∃z,z∈zs/\x= .int z:=by obtain⟨z,hz,e⟩:=mem_map.mp (mem_of_getElem? e);exact⟨z,hz,e.symm⟩
theorem jyj {is:xr}{i:Nat}{x:List Int×List Int}(nd:(is.map (·.1)).Nodup)(e:is[i]?=some x):jz is x.1=x.2:=(jbo x.1 is).symm.trans (jqr nd e)
theorem Gn.jqq {Y:Wd}{T M:Nat}{L:List O}{ls ns:List Int}(g:Gn Y T M L ls ns){t:List Int}(h:t∈xo Y.bd Y.en):∃o∈L,t=x9 o/\Y.carried o=true:=by obtain⟨x,hx,rfl⟩:=mem_map.mp h;obtain⟨h1,h2⟩:=mem_filter.mp hx;obtain⟨o,ol,e⟩:=g.g.b.ks x h1;obtain⟨i,hi,ei⟩:=mem_iff_getElem.mp h1;refine⟨o,ol,e,?_⟩;unfold Wd.carried;rw[<-e,jyj g.g.b.nd (by rw[getElem?_eq_getElem hi,ei])];exact h2
theorem jx5 {t:Ad}{H:Hp}{Z:Rho}{W:WA}{Y:Wd}{T:Nat}{p:Pt}{To R a:Addr}{zs:List Int}{Q:VK}(S:Sw t H Z W Y T p To R)(u:Un H Z a (zs.map V.int))(l0:0<zs.length)(l1:zs.length<=1000)(k:∀z H',z∈zs->Sw t H' Z W Y T p To R->Fr jo7 Z H Z H'->Q (.int z) H'):jzh [.ref To,.ref a] H Q E0:=by obtain⟨n1,n2⟩:=u.neT S;refine⟨To,R,a,_,rfl,S.tn,u.1,n1,n2,by rw[length_map];exact l0,by rw[length_map];omega,λi x H' ex hT kT=>?_⟩;obtain⟨z,hz,rfl⟩:=int_at ex;obtain⟨S',f'⟩:=S.draw hT kT;exact k z H' hz S' f'
noncomputable def j8w (K:PySem.W.Frag)(t:Ad):Sp:=λvs H Q _=>∃Z W Y T p To R pa jbt few fo ho be ro sh,vs=[.ref To,.ref pa,.int sh]/\Sw t H Z W Y T p To R/\Ps H Z pa W.x jbt few fo ho be ro p/\p.Ok/\T<=60/\Gos t H Z W Y T p To R Q
set_option maxHeartbeats 0 in
theorem jyc (T:Txt K mg t) : xj P w K mg base CX0 10 t.jpz t.jqo ["_law_town_here","_law_parts","_law_share"] (j8w K t):=by
 refine T.jp6.okA xg λ_ A _ s H vs Q E hr h=>?_
 obtain ⟨Z,W,Y,T',p,To,R,pa,jbt,few,fo,ho,be,ro,sh,rfl,S,Bq,ok,hT,k⟩:=h
 refine ⟨_,(@jb _ _ _ _ _ (jhk (pv 1) (jkl rfl (jy (ju (i:=3) xg.nd rfl (Or.inl rfl)) (jy (ju (i:=4) xg.nd rfl (Or.inl rfl)) (jy (ju (i:=5) xg.nd rfl (Or.inl rfl)) (jy (ju (i:=6) xg.nd rfl (Or.inl rfl)) (jy (ju (i:=7) xg.nd rfl (Or.inl rfl)) (jy (ju (i:=8) xg.nd rfl (Or.inl rfl)) (jy (ju (i:=9) xg.nd rfl (Or.inl rfl)) jfo)))))))))
  (@jb _ _ _ _ _ (j6 (i:=10) xg.nd rfl (Or.inl rfl) (jn jr rfl T.jbd boot_len (jc (pv 8) jg)))
  (@jb _ _ _ _ _ (j6 (i:=11) xg.nd rfl (Or.inl rfl) (jm (j9 T) hr.dn rfl T.qe T.qb.kp T.qd .nil jo (@yk _ _ _ _ _ (pv 0) jk rfl rfl)))
  (@jd _ _ _ (qv (jv j1u (pv 11) (pv 2) (qc _)) (@jd _ _ _ (qk (jm (jrq T) hr.dn rfl T.jmy T.jgz.kp T.jm4 .nil jo (@yk _ _ _ _ _ (pv 0) (pv 3) rfl rfl)))) (@jd _ _ _ (qv (PW.pt (jkk (jv jen (qy jkn (pv 11) jk) jk (qc _)) (jgr (jv (jmb hr.units) (pv 9) (@zf _ _ _ _ jg) (qc _))))) (@jb _ _ _ _ _ (j6 (i:=12) xg.nd rfl (Or.inl rfl) (jm (jsx T) hr.dn rfl T.joy T.jip.kp T.jod .nil jo (@jlv _ _ _ _ _ _ _ (pv 0) (pv 1) (jm (zi T) hr.dn rfl T.zr T.zb.kp T.zq .nil jo (@yk _ _ _ _ _ (pv 0) (pv 9) rfl rfl)) rfl rfl rfl)))
  (@jb _ _ _ _ _ (qk (qi (pv 3) T.jl T.jkc (jrl T) hr.dn T.jl6 .nil jo (@yk _ _ _ _ _ (pv 12) (jm (zi T) hr.dn rfl T.zr T.zb.kp T.zq .nil jo (@yk _ _ _ _ _ (pv 0) (pv 7) rfl rfl)) rfl rfl)))
  (@jd _ _ _ (qv (jv (jmb hr.units) (pv 6) (@zf _ _ _ _ jg) (qc _)) (@jd _ _ _ (qk (qi (pv 3) T.jl T.je0 (jiv T) hr.dn T.jhc .nil jo (@yk _ _ _ _ _ (jm (zi T) hr.dn rfl T.zr T.zb.kp T.zq .nil jo (@yk _ _ _ _ _ (pv 0) (pv 6) rfl rfl)) (pv 12) rfl rfl)))) j4)))) (@jd _ _ _ (qv (PW.pt (jkk (jv (jmb hr.units) (pv 6) (@zf _ _ _ _ jg) (qc _)) (jkk (jv (jmb hr.units) (zy (pv 3) T.jl T.ub (jcq T) hr.dn T.ja3 .nil jo) (@zf _ _ _ _ jg) (qc _)) (jgr (jv jen (jm (j9 T) hr.dn rfl T.qe T.qb.kp T.qd .nil jo (@yk _ _ _ _ _ (pv 0) jk rfl rfl)) jk (qc _)))))) (@jd _ _ _ (qk (jm (jow T) hr.dn rfl T.jlb T.jgq.kp T.jlr .nil jo (@j78 _ _ _ _ _ _ _ _ _ _ _ gr (pv 3) (jm (zi T) hr.dn rfl T.zr T.zb.kp T.zq .nil jo (@yk _ _ _ _ _ (pv 0) (pv 6) rfl rfl)) (ya jdm (jm (zi T) hr.dn rfl T.zr T.zb.kp T.zq .nil jo (@yk _ _ _ _ _ (pv 0) (zy (pv 3) T.jl T.ub (jcq T) hr.dn T.ja3 .nil jo) rfl rfl)) jk (λ_ _=>rfl)) jk rfl rfl rfl rfl rfl)))) (@jd _ _ _ (qv (PW.pt (jkk (jv (jmb hr.units) (zy (pv 3) T.jl T.w9 (ja4 T) hr.dn T.kl .nil jo) (@zf _ _ _ _ jg) (qc _)) (jgr (jv jen (jm (j9 T) hr.dn rfl T.qe T.qb.kp T.qd .nil jo (@yk _ _ _ _ _ (pv 0) jk rfl rfl)) jk (qc _))))) (@jd _ _ _ (qk (qi (pv 3) T.jl T.jmc (jtr T) hr.dn T.jo0 .nil jo (@yk _ _ _ _ _ (jm (zi T) hr.dn rfl T.zr T.zb.kp T.zq .nil jo (@yk _ _ _ _ _ (pv 0) (zy (pv 3) T.jl T.w9 (ja4 T) hr.dn T.kl .nil jo) rfl rfl)) (jm (zi T) hr.dn rfl T.zr T.zb.kp T.zq .nil jo (@yk _ _ _ _ _ (pv 0) (pv 7) rfl rfl)) rfl rfl)))) (@jb _ _ _ _ _ (j6 (i:=13) xg.nd rfl (Or.inl rfl) (jm (j9 T) hr.dn rfl T.qe T.qb.kp T.qd .nil jo (@yk _ _ _ _ _ (pv 0) (pv 10) rfl rfl)))
  (@jb _ _ _ _ _ (j6 (i:=14) xg.nd rfl (Or.inl rfl) (qy jkn (qy jal (qy jal (pv 13) jk) (jm (j9 T) hr.dn rfl T.qe T.qb.kp T.qd .nil jo (@yk _ _ _ _ _ (pv 0) (qy jek (pv 10) jk) rfl rfl))) (pv 10)))
  (@jd _ _ _ (qk (jm (jow T) hr.dn rfl T.jlb T.jgq.kp T.jlr .nil jo (@j78 _ _ _ _ _ _ _ _ _ _ _ gr (pv 3) (pv 13) (pv 14) (qy jal jk (jm (zi T) hr.dn rfl T.zr T.zb.kp T.zq .nil jo (@yk _ _ _ _ _ (pv 0) (@zf _ _ _ _ (@jlv _ _ _ _ _ _ _ jk jk (jm (j9 T) hr.dn rfl T.qe T.qb.kp T.qd .nil jo (@yk _ _ _ _ _ (pv 0) jk rfl rfl)) rfl rfl rfl)) rfl rfl))) rfl rfl rfl rfl rfl))))))))))))))))),?_⟩
 have l2:=ok.l2
 have l8:=ok.l8
 refine ko λN hN=>⟨_,rfl,pa,_,rfl,SqT.of Bq.tp.1,rfl,_,_,rfl,_,_,rfl,_,_,rfl,_,_,rfl,_,_,rfl,_,_,rfl,_,_,rfl,rfl,?_⟩
 refine hN _ _ (ko λN hN=>⟨_,rfl,be,_,rfl,.inl (SqL.of Bq.be.1),?_⟩)
 rw [length_map]
 refine hN _ _ (ko λN hN=>⟨_,rfl,To,R,10,rfl,S.tn,by decide,by decide,λkd H1 kd0 kd1 hT1 k1=>?_⟩)
 obtain ⟨S1,f1⟩:=S.draw hT1 k1
 have B1:=Bq.fr f1
 refine hN [some (.ref To),some (.ref pa),some (.int sh),some (.ref W.x),some (.int jbt),some (.int few),some (.ref fo),some (.ref ho),some (.ref be),some (.ref ro),some (.int (p.ns.length:Int)),some (.int kd),none,none,none] H1 (ifN λN hN=>⟨_,rfl,_,rfl,_,_,rfl,rfl,_,rfl,hN _ _ (jhz (λ_=>?_) (λ_=>?_))⟩)
 .refine ⟨_,rfl,_,rfl,Z,W,Y,T',p,To,R,rfl,S1,ok.ll,hT,λZ' H' Y' v S' f' g'=>?_⟩
  exact k Z' H' Y' _ S' ((jvs f1).trans f') g'
 obtain ⟨L,gn,sk⟩:=S.w.g
 have lway:=gn.wl
 have z0:=gn.l
 have z1:=gn.ok.k1
 have z2:=ok.ll
 have bl:=gn.sz.bd
 have bne : ∀ x ∈ Y.bd,x.1 ≠ []:=λx hx z=>by
  obtain ⟨o,_,e⟩:=gn.g.b.ks x hx
  rw [e] at z
  cases z
 have nilU : ∀ {HB e},HB e = none -> qt K (upd HB e (.lst [])) (.lst []) (.ref e):=λn=>by
  rw [qt]
  exact ⟨_,[],rfl,SqL.of ja,by rw [xt]⟩
 refine' (λkey=>_:(∀ HB,Sw t HB Z W Y T' p To R -> Fr jo7 Z H Z HB -> (_:Hp -> Prop) HB) -> _) _
 rotate_left
 .refine ifN λN hN=>⟨_,rfl,_,_,rfl,rfl,(by show (0:Int) < 2; decide),rfl,_,rfl,jhz (λ_=>?_) (λ_=>hN _ _ (yq ?_))⟩
  rotate_left
  .exact key H1 S1 f1
  refine ⟨_,rfl,zs0,λe ne=>?_⟩
  have s2:=jf (o:=.lst []) ne
  have S2:=S1.same s2
  have f2:Fr jo7 Z H Z (upd H1 e (.lst [])):=f1.trans (Fr.same s2)
  have B2:=Bq.fr f2
  refine ⟨.lst (p.cs.map Dt.int),.lst [],jbj (SqL.of B2.ro.1),nilU ne,jh4 _,_,rfl,?_⟩
  rw [ji9]
  generalize upd H1 e (.lst []) = H2 at S2 f2 B2
  refine hN _ _ (jhz (λz=>?_) (λ_=>?_))
  rotate_left
  .exact key H2 S2 f2
  have nc : 0 < p.cs.length:=length_pos_iff.mpr λy=>by rw [y] at z; cases z
  refine ko λN hN=>⟨_,rfl,_,rfl,_,rfl,_,rfl,jx5 S2 B2.ro nc ok.cl λpu H3 hpu S3 f3=>?_⟩
  have B3:=B2.fr f3
  obtain ⟨pu0,pu1⟩:=ok.c pu hpu
  refine ⟨Z,W,Y,T',p,To,R,pa,jbt,few,fo,ho,be,ro,pu,rfl,S3,B3,ok,pu0,pu1,λH4 q o S4 f4 uq4 io eo en=>?_⟩
  have B4:=B3.fr f4
  refine hN _ _ (ko λN hN=>⟨_,rfl,W.x,W.dx,_,rfl,S4.w.o.ob.1,xw,_,rfl,_,rfl,_,rfl,jx5 S4 B4.ho ok.h0 (by have:=ok.h1; omega) λh H5 hh S5 f5=>?_⟩)
  have uq5:=uq4.fr f5
  have B5:=B4.fr f5
  have io':ye Y.n o = true:=by rw [S.w.n]; exact io
  have oc:o.p ∈ Y.ki:=by rw [S.w.c,eo]; exact hpu
  have hk:h ∈ Y.ks.map (·.1):=by rw [S.w.h]; exact hh
  obtain ⟨B,ek,km⟩:=jsk hk
  refine ⟨Z,0,W,Y,q,o,h,B,rfl,S5.w.o,S5.w.kr,uq5,io',oc,ek,by omega,λH6 O6 f6 kr6=>?_⟩
  have gn6:=gn.j8r io' oc hk
  obtain ⟨S6,f6'⟩:=S5.go f6 (λr hr=>by rw [hr]) (S5.w.next f6 O6 kr6 (gn6.mono (T':=T' + 1) (M':=1000 * (T' + 1)) (le_refl _) (by omega)) (sk.more λ_=>by omega) ⟨rfl,rfl,rfl,rfl⟩)
  have F6:Fr j5t Z H Z H6:=(jvs (((f2.trans f3).trans f4).trans f5)).trans f6'
  have B6:=B5.fr f6
  have uq6:=uq5.fr f6
  refine hN _ _ (ifN λN hN=>⟨_,rfl,zs0,λe' ne'=>?_⟩)
  have s7:=jf (o:=.lst []) ne'
  have S7:=S6.same s7
  have F7:Fr j5t Z H Z (upd H6 e' (.lst [])):=F6.trans (Fr.same s7)
  have B7:=B6.fr (P:=λ_=>False) (Fr.same s7)
  have uq7:=uq6.fr (P:=λ_=>False) (Fr.same s7)
  refine ⟨.lst (p.ls.map Dt.int),.lst [],jbj (SqL.of B7.fo.1),nilU ne',jh4 _,_,rfl,?_⟩
  rw [ji9]
  generalize upd H6 e' (.lst []) = H7 at S7 F7 B7 uq7
  refine hN _ _ (jhz (λz=>?_) (λ_=>k Z H7 _ _ S7 F7 (.of rfl rfl)))
  have nl : 0 < p.ls.length:=length_pos_iff.mpr λy=>by rw [y] at z; cases z
  refine ⟨_,rfl,W.x,W.dx,_,rfl,S7.w.o.ob.1,xw,_,rfl,_,rfl,jx5 S7 B7.fo nl (by omega) λh' H8 hh' S8 f8=>?_⟩
  have uq8:=uq7.fr f8
  refine ⟨_,rfl,Z,0,W,_,h',q,o,p.ls,_,_,_,rfl,S8.w.o,S8.w.kr,S8.w.ly.1,hh',uq8,gn6.lo _ mem_cons_self,gn6.mw _ mem_cons_self,gn6.sz,(by rw [length_cons]; omega),(by show Y.ks.length + p.ls.length + 1 <= 1000; omega),by omega,λZ9 H9 O9 f9 kr9=>?_⟩
  have g9:=(gn6.zj (h:=h') (mem_append_right _ hh') (os:=[o]) (λu hu=>by rw [mem_singleton.mp hu]; exact mem_cons_self)).mono (T':=T' + 1) (M':=1000 * (T' + 1)) (le_refl _) (by show 1000 * T' + 1 + 16 * 1 <= _; omega)
  obtain ⟨S9,f9'⟩:=S8.go f9 (λr hr=>by rcases hr with hr | hr | hr <;> rw [hr]) (S8.w.next f9 O9 kr9 g9 ((sk.more λ_=>by omega).lie hh' _) (vm h' [o] _).kin)
  exact k Z9 H9 _ _ S9 ((F7.trans (jvs f8)).trans f9') ((jyu.of rfl rfl).trans (.of (vm h' [o] _).e (vm h' [o] _).k))
 rintro HA SA fA
 refine' (λkey=>_:(∀ HB,Sw t HB Z W Y T' p To R -> Fr jo7 Z H Z HB -> (_:Hp -> Prop) HB) -> _) _
 rotate_left
 .refine ifN λN hN=>⟨_,rfl,zs0,λe ne=>?_⟩
  have s2:=jf (o:=.lst []) ne
  have S2:=SA.same s2
  have f2:Fr jo7 Z H Z (upd HA e (.lst [])):=fA.trans (Fr.same s2)
  have B2:=Bq.fr f2
  refine ⟨.lst (p.ls.map Dt.int),.lst [],jbj (SqL.of B2.fo.1),nilU ne,jh4 _,_,rfl,?_⟩
  rw [ji9]
  generalize upd HA e (.lst []) = H2 at S2 f2 B2
  refine jhz (λz=>?_) (λ_=>hN _ _ (yq ?_))
  rotate_left
  .exact key H2 S2 f2
  have nl : 0 < p.ls.length:=length_pos_iff.mpr λy=>by rw [y] at z; cases z
  refine ⟨_,rfl,W.x,W.dx,_,rfl,S2.w.o.ob.1,xw,Z,0,W,Y,rfl,S2.w.o,by omega,λr xs nr px=>⟨zs0,λe' ne'=>?_⟩⟩
  have s3:=jf (o:=.lst xs) nr
  have s4:=jf (o:=.lst []) ne'
  have S3:=(S2.same s3).same s4
  have f3:Fr jo7 Z H Z (upd (upd H2 r (.lst xs)) e' (.lst [])):=f2.trans (Fr.same (s3.trans s4))
  have px2:Paired (joi (upd (upd H2 r (.lst xs)) e' (.lst [])) Z) xs Y.way:=Paired.vf px λ_ _=>joi.fr (P:=λ_=>False) (Fr.same (s3.trans s4))
  have hd:qt K (upd (upd H2 r (.lst xs)) e' (.lst [])) (.lst (Y.way.map j5v)) (.ref r):=by
   rw [qt]
   exact ⟨r,xs,rfl,SqL.of (s4 _ _ ja),jr7 (λx a h=>joi.qas h) px2⟩
  have dl:=jt7 Y.way
  refine ⟨_,_,hd,nilU ne',by rw [jj0]; omega,_,rfl,?_⟩
  rw [ji9]
  generalize upd (upd H2 r (.lst xs)) e' (.lst []) = H3 at S3 f3
  refine jhz (λz=>?_) (λ_=>hN _ _ (yq ?_))
  rotate_left
  .exact key H3 S3 f3
  have nw : 0 < Y.way.length:=length_pos_iff.mpr λy=>by rw [y] at z; cases z
  refine ⟨_,rfl,To,R,3,rfl,S3.tn,by decide,by decide,λd H4 d0 d1 hT4 k4=>?_⟩
  obtain ⟨S4,f4⟩:=S3.draw hT4 k4
  have F4:=f3.trans f4
  refine ⟨rfl,_,rfl,hN _ _ (jhz (λ_=>?_) (λ_=>?_))⟩
  rotate_left
  .exact key H4 S4 F4
  have B4:=Bq.fr F4
  refine ⟨_,rfl,_,rfl,_,rfl,jx5 S4 B4.fo nl (by omega) λh H5 hh S5 f5=>?_⟩
  refine ⟨_,rfl,_,rfl,W.x,W.dx,_,rfl,S5.w.o.ob.1,xw,Z,0,W,Y,rfl,S5.w.o,by omega,λr' xs' nr' px'=>?_⟩
  have lx:xs'.length = Y.way.length:=Paired.length px'
  have s6:=jf (o:=.lst xs') nr'
  obtain ⟨n1,n2⟩:=S5.tn.fresh nr'
  have S6:=S5.same s6
  have f6:Fr jo7 Z H Z (upd H5 r' (.lst xs')):=(F4.trans f5).trans (Fr.same s6)
  refine ⟨To,R,r',xs',rfl,S6.tn,ja,n1,n2,by omega,by omega,λi x H7 ex hT7 k7=>?_⟩
  obtain ⟨S7,f7⟩:=S6.draw hT7 k7
  obtain ⟨l,el,ul⟩:=qg px' ex
  obtain ⟨a,q,rfl,_,h1,uq⟩:=(ul.fr (P:=λ_=>False) (Fr.same s6)).fr f7
  exact ⟨a,_,2,.ref q,rfl,rfl,SqT.of h1,rfl,Z,W,Y,T',p,To,R,S7,hT,λZ' H' Y' v S' f' g'=>k Z' H' Y' _ S' ((jvs (f6.trans f7)).trans f') g',.inr ⟨h,q,l,rfl,hh,ok.ll,uq,mem_of_getElem? el⟩⟩
 rintro HC SC fC
 refine' (λkey=>_:(∀ HB,Sw t HB Z W Y T' p To R -> Fr jo7 Z H Z HB -> (_:Hp -> Prop) HB) -> _) _
 rotate_left
 .refine ifN λN hN=>⟨_,rfl,W.x,W.dx,_,rfl,SC.w.o.ob.1,xw,Z,0,W,Y,rfl,SC.w.o,by omega,gn.g.b.nd,bne,λr vs ts H1 nr s1 q1 q3 h1=>⟨zs0,λe ne=>?_⟩⟩
  have s2:=jf (o:=.lst []) ne
  have S2:=(SC.same s1).same s2
  have f2:Fr jo7 Z H Z (upd H1 e (.lst [])):=fC.trans (Fr.same (s1.trans s2))
  have hd:qt K (upd H1 e (.lst [])) (.lst (ts.map jxo)) (.ref r):=by
   rw [qt]
   exact ⟨r,vs,rfl,SqL.of (s2 _ _ h1),jr7 (λx a h=>by obtain ⟨a',rfl,q⟩:=h; exact jr8 (SqT.of (s2 _ _ q))) q3⟩
  have dl:=jnk ts
  refine ⟨_,_,hd,nilU ne,by rw [jj0]; omega,_,rfl,?_⟩
  rw [ji9]
  generalize upd H1 e (.lst []) = H2 at S2 f2
  refine jhz (λz=>?_) (λ_=>hN _ _ (yq ?_))
  rotate_left
  .exact key H2 S2 f2
  have nt:ts ≠ []:=λy=>by rw [y] at z; cases z
  have nt2 : 0 < (xo Y.bd Y.en).length:=by
   rw [<- q1.length_eq]
   exact length_pos_iff.mpr nt
  refine ⟨_,rfl,To,R,4,rfl,S2.tn,by decide,by decide,λd H3 d0 d1 hT3 k3=>?_⟩
  obtain ⟨S3,f3⟩:=S2.draw hT3 k3
  have F3:=f2.trans f3
  refine ⟨rfl,_,rfl,hN _ _ (jhz (λ_=>?_) (λ_=>?_))⟩
  rotate_left
  .exact key H3 S3 F3
  refine ⟨_,rfl,W.x,W.dx,_,rfl,S3.w.o.ob.1,xw,_,rfl,_,rfl,W.x,W.dx,_,rfl,S3.w.o.ob.1,xw,Z,0,W,Y,rfl,S3.w.o,by omega,gn.g.b.nd,bne,λr' vs' ts' H4 nr' s4 q1' q3' h4=>?_⟩
  have S4:=S3.same s4
  have F4:Fr jo7 Z H Z H4:=F3.trans (Fr.same s4)
  obtain ⟨n1,n2⟩:=S3.tn.fresh nr'
  have lv:vs'.length = (xo Y.bd Y.en).length:=(Paired.length q3').trans q1'.length_eq
  have lc:(xo Y.bd Y.en).length <= Y.bd.length:=by
   unfold xo
   rw [length_map]
   exact length_filter_le _ _
  refine ⟨To,R,r',vs',rfl,S4.tn,h4,n1,n2,by omega,by omega,λi x H5 ex hT5 k5=>?_⟩
  obtain ⟨S5,f5⟩:=S4.draw hT5 k5
  obtain ⟨ti,eti,a,rfl,ha⟩:=qg q3' ex
  obtain ⟨o,oL,rfl,oc⟩:=gn.jqq (q1'.mem_iff.mp (mem_of_getElem? eti))
  have uo:xi H4 Z (.ref a) o:=⟨a,rfl,S4.w.kr.tup ha,ha⟩
  have uo5:=uo.fr f5
  have B5:=Bq.fr (F4.trans f5)
  refine ⟨_,rfl,_,rfl,jx5 S5 B5.ho ok.h0 (by have:=ok.h1; omega) λh H6 hh S6 f6=>?_⟩
  have hk:h ∈ Y.ks.map (·.1):=by rw [S.w.h]; exact hh
  obtain ⟨B,ek,km⟩:=jsk hk
  refine ⟨Z,0,W,Y,a,o,h,B,rfl,S6.w.o,S6.w.kr,uo5.fr f6,gn.lo _ oL,ek,oc,by omega,λH7 O7 f7 kr7=>?_⟩
  have g7:=(gn.j3e oL hk (b:=false) λ_=>oc).mono (T':=T' + 1) (M':=1000 * (T' + 1)) (by omega) (by omega)
  obtain ⟨S7,f7'⟩:=S6.go f7 (λr hr=>by rw [hr]) (S6.w.next f7 O7 kr7 g7 sk.way ⟨rfl,rfl,rfl,rfl⟩)
  exact k Z H7 _ _ S7 ((jvs ((F4.trans f5).trans f6)).trans f7') (.of rfl rfl)
 rintro HD SD fD
 refine ko λN hN=>⟨_,rfl,_,rfl,To,R,(p.ns.length:Int),rfl,SD.tn,by omega,by omega,λpu H1 pu0 pu1 hT1 k1=>?_⟩
 obtain ⟨S1,f1⟩:=SD.draw hT1 k1
 refine hN _ _ (ko λN hN=>⟨_,rfl,_,_,rfl,rfl,_,rfl,_,rfl,_,_,rfl,rfl,To,R,(p.ns.length:Int) - 1,rfl,S1.tn,by omega,by omega,λd H2 d0 d1 hT2 k2=>?_⟩)
 obtain ⟨S2,f2⟩:=S1.draw hT2 k2
 obtain ⟨g0,g1,g2⟩:=j3t pu0 pu1 d0 d1
 refine ⟨_,_,rfl,rfl,_,rfl,_,_,rfl,rfl,(by show (0:Int) < (p.ns.length:Int); omega),?_⟩
 refine hN _ _ ⟨_,rfl,_,rfl,_,rfl,_,rfl,_,rfl,To,R,30,rfl,S2.tn,by decide,by decide,λm H3 m0 m1 hT3 k3=>?_⟩
 obtain ⟨S3,f3⟩:=S2.draw hT3 k3
 refine ⟨zs3,λl nl=>?_⟩
 have s4:=jf (o:=.lst ([0,4,m].map V.int)) nl
 have S4:=S3.same s4
 have u4:Un (upd H3 l (.lst ([0,4,m].map V.int))) Z l ([0,4,m].map V.int):=⟨ja,S3.w.kr.none nl⟩
 refine jx5 S4 u4 (by show 0 < 3; decide) (by show 3 <= 1000; decide) λv H5 hv S5 f5=>?_
 have v01 : 0 <= v /\ v <= 30:=by
  simp only [mem_cons,List.not_mem_nil,or_false] at hv
  rcases hv with rfl | rfl | rfl <;> omega
 have en:(Y.n:Int) = (p.ns.length:Int):=by rw [S.w.n]
 have F5:Fr jo7 Z H Z H5:=(((fD.trans f1).trans f2).trans f3).trans ((Fr.same s4).trans f5)
 exact ⟨_,_,rfl,rfl,Z,W,Y,T',p,To,R,S5,hT,λZ' H' Y' v S' f' g'=>k Z' H' Y' _ S' ((jvs F5).trans f') g',.inl ⟨pu,(pu + 1 + d) % (p.ns.length:Int),1 + v,rfl,⟨pu0,by omega⟩,⟨g0,by omega⟩,g2,by omega,by omega⟩⟩
structure Tw (H:Hp)(Z:Rho)(To R:Addr):Prop where
 kr:OkR Z H
 tn:jqs To R H
 tr:j0a Z To R
section
variable {H H':Hp}{Z:Rho}{To R:Addr}
theorem Tw.same (s:vq H H')(x:Tw H Z To R):Tw H' Z To R:=⟨x.kr.same s,x.tn.same s,x.tr⟩
theorem Tw.draw (x:Tw H Z To R)(hT:jqs To R H')(k:jqy To R H H'):Tw H' Z To R/\Fr jo7 Z H Z H':=⟨⟨j0w x.kr hT k,hT,x.tr⟩,jwi x.tr k⟩
end
theorem jpb {ls:List Int}{n:Nat}{x:Int}:x∈jbt ls n↔(0<=x/\x<(n:Int))/\x∉ls:=by
 unfold jbt;rw[mem_filter,mem_map];constructor
 .rintro⟨⟨i,hi,rfl⟩,h⟩
  exact⟨⟨by omega,by have:=mem_range.mp hi;omega⟩,by simpa using h⟩
 .rintro⟨⟨h0,h1⟩,h⟩
  exact⟨⟨x.toNat,mem_range.mpr (by omega),by omega⟩,by simpa using h⟩
theorem j9h {h f:Int}{ns cs ls:List Int}:Sk (w0 h f ns cs ls) [] ls:=by
 have kall:∀c∈(w0 h f ns cs ls).ks,c.2=kp0 ns/\c.1∈jbt ls h.toNat:=λc hc=>by obtain⟨i,hi,rfl⟩:=mem_map.mp (show c∈(jbt ls h.toNat).map λi=>(i,kp0 ns)from hc);exact⟨rfl,hi⟩
 refine⟨λc hc=>by rw[(kall c hc).1];exact⟨nodup_nil,λ_ z=>(by cases z),λ_ z=>(by cases z)⟩,λ_ _ _ z=>(by cases z),λp row e i o eo=>?_,λ_ z=>(by cases z),λc hc=>(jpb.mp (kall c hc).2).2⟩;have:row=[]:=eq_of_mem_replicate (mem_of_getElem? e);subst this;cases eo
theorem j4u {ls:List Int}{n:Nat}(up:ls.Pairwise (·<·)):(jbt ls n++ls).Nodup:=by refine nodup_append.mpr ⟨?_,up.imp λh=>Int.ne_of_lt h,λx hx y hy e=>(jpb.mp hx).2 (e ▸ hy)⟩;unfold jbt;exact List.Pairwise.filter _ (List.Pairwise.map _ (λa b hab z=>hab (Int.ofNat.inj z)) nodup_range)
theorem j09 {ls:List Int}{n:Nat}(up:ls.Pairwise (·<·))(r:∀x∈ls,0<=x/\x<(n:Int)):(jbt ls n).length+ls.length<=n:=by
 have h:=yo (ys:=(List.range n).map λ(i:Nat)=>(i:Int)) (j4u (n:=n) up) λx hx=>by
  have:0<=x/\x<(n:Int):=by
   rcases mem_append.mp hx with h|h
   .exact(jpb.mp h).1
   .exact r x h
  exact mem_map.mpr ⟨x.toNat,mem_range.mpr (by omega),by omega⟩
 rwa[length_append,length_map,length_range]at h
noncomputable def j2p (t:Ad):Sp:=λvs H Q _=>∃Z To R,vs=[.ref To]/\Tw H Z To R/\∀Z' H' W Y pa cr few fo ho be ro p,p.Ok->Sw t H' Z' W Y 0 p To R->Ps H' Z' pa W.x cr few fo ho be ro p->Q (.ref pa) H'
set_option maxHeartbeats 0 in
theorem js8 (T:Txt K mg t) : xj P w K mg base CX0 8 t.ji8 t.jh6 ["_law_town_here"] (j2p t):=by
 refine T.jii.okA yu λ_ A _ s H vs Q E hr h=>?_
 obtain ⟨Z,To,R,rfl,S,k⟩:=h
 refine ⟨_,(@jb _ _ _ _ _ (j6 (i:=1) yu.nd rfl (Or.inl rfl) (jm (j9 T) hr.dn rfl T.qe T.qb.kp T.qd .nil jo (@yk _ _ _ _ _ (pv 0) jk rfl rfl)))
  (@jb _ _ _ _ _ (j6 (i:=2) yu.nd rfl (Or.inl rfl) (qy jal (qy jal (qy jw9 jk (pv 1)) jk) (jm (j9 T) hr.dn rfl T.qe T.qb.kp T.qd .nil jo (@yk _ _ _ _ _ (pv 0) jk rfl rfl))))
  (@jb _ _ _ _ _ (j6 (i:=3) yu.nd rfl (Or.inr rfl) (jm (joe T) hr.dn rfl T.jlf T.jg1.kp T.jkx .nil jo (@jlv _ _ _ _ _ _ _ (pv 0) (pv 2) (pv 1) rfl rfl rfl)))
  (@jb _ _ _ _ _ (j2v (i:=4) yu.nd rfl rfl (N':=["_law_k","_law_town_here"]) (ix:=[none,some 0]) (xm (by kernel_rfl)) rfl (jel rfl T.jjc (jc (qy jal jk (jm (j9 T) hr.dn rfl T.qe T.qb.kp T.qd .nil jo (@yk _ _ _ _ _ (pv 0) jk rfl rfl))) jg)) (λ_ _ _ _=>(ju (i:=0) qam rfl (Or.inl rfl) (.inr rfl))) (λ_ _ _ _=>jnz) (λ_ _ _ _=>(jm (zi T) hr.dn rfl T.zr T.zb.kp T.zq .nil jo (@yk _ _ _ _ _ (pv 1) (@zf _ _ _ _ (@j78 _ _ _ _ _ _ _ _ _ _ _ jk jk jk jk (jm (j9 T) hr.dn rfl T.qe T.qb.kp T.qd .nil jo (@yk _ _ _ _ _ (pv 1) jk rfl rfl)) rfl rfl rfl rfl rfl)) rfl rfl))))
  (@jb _ _ _ _ _ (j6 (i:=5) yu.nd rfl (Or.inl rfl) (jm (joe T) hr.dn rfl T.jlf T.jg1.kp T.jkx .nil jo (@jlv _ _ _ _ _ _ _ (pv 0) (jn jr rfl T.jbd boot_len (jc (pv 4) jg)) jk rfl rfl rfl)))
  (@jb _ _ _ _ _ (j6 (i:=6) yu.nd rfl (Or.inl rfl) (jw2 T.jws (jni T) hr.dn rfl T.j0y T.jeq jo (jc (pv 2) jg) (yt (pv 1) (yt (pv 4) (yt (pv 3) (yt (pv 5) jjb))))))
  (@jd _ _ _ (jx (@jgb _ _ _ _ _ (@qbd _ _ _ _ _ _ _ _ _ _ _ _ _ _ _ (pv 6) (pv 2) (pv 1) (pv 3) (gk (N':=["_law_k","_law_foes"]) (ix:=[none,some 3]) (xm (by kernel_rfl)) rfl (jel rfl T.jjc (jc (pv 2) jg)) (λ_ _ _ _=>(ju (i:=0) qba rfl (Or.inl rfl) (.inr rfl))) (λ_ _ _ _=>(jg8 (jv (jhd (K:=K) rfl) (pv 0) (pv 1) (by with_unfolding_all rfl)))) (λ_ _ _ _=>(pv 0))) (pv 4) (pv 5) rfl rfl rfl rfl rfl rfl rfl)))))))))),?_⟩
 refine ⟨_,rfl,To,R,3,rfl,S.tn,by decide,by decide,λf H1 f0 f1 hT1 k1=>?_⟩
 obtain ⟨S1,r1⟩:=S.draw hT1 k1
 refine ⟨_,rfl,_,_,rfl,rfl,.inl ⟨by decide,by decide⟩,_,_,rfl,rfl,_,rfl,To,R,2,rfl,S1.tn,by decide,by decide,λd H2 d0 d1 hT2 k2=>?_⟩
 obtain ⟨S2,r2⟩:=S1.draw hT2 k2
 have F2:=r1.trans r2
 obtain ⟨h,eh⟩ : ∃ h:Int,h = 3 * f + 1 + d:=⟨_,rfl⟩
 refine ⟨_,_,rfl,rfl,?_⟩
 dsimp only
 rw [<- eh]
 have h1 : 1 <= h:=by omega
 have h8:h <= 16:=by omega
 have lt : 3 * f < h:=by omega
 refine ⟨_,rfl,_,rfl,_,rfl,To,R,h,f,rfl,S2.tn,by omega,by omega,λfo ls H3 nfo hT3 k3 hfo upl rgl lnl=>?_⟩
 rw [if_pos f0] at lnl
 obtain ⟨S3,r3⟩:=S2.draw hT3 k3
 have F3:=F2.trans r3
 have U3:Un H3 Z fo (ls.map V.int):=⟨hfo,S2.kr.none nfo⟩
 show jh5 3 (.ref fo) [some (.ref To),some (.int f),some (.int h),none,none,none,none] H3 _
 refine ⟨_,rfl,To,R,3,rfl,S3.tn,by decide,by decide,λc H4 c0 c1 hT4 k4=>?_⟩
 obtain ⟨S4,r4⟩:=S3.draw hT4 k4
 have U4:=U3.fr r4
 have F4:=F3.trans r4
 refine ⟨_,_,rfl,rfl,2 + c,rfl,by omega,by omega,jpd (lo:=0) (n:=(2 + c).toNat) (λi ys U H'=>∃ v zs,U = [v,some (.ref To)] /\ ys = (zs:List Int).map V.int /\ zs.length = i /\ (∀ z ∈ zs,0 <= z /\ z <= 1000) /\ Tw H' Z To R /\ Fr jo7 Z H4 Z H') ⟨none,[],rfl,rfl,rfl,(λ_ z=>by cases z),S4,Fr.refl⟩ ?_ ?_ ?_⟩
 .rintro i ys U H' hi ⟨v,zs,rfl,rfl,lz,_⟩
  rw [length_map]
  exact j1e (by omega)
 .rintro i ys U H' hi ⟨v,zs,rfl,rfl,lz,rz,S5,r5⟩
  dsimp only [jh5,j4s]
  rw [if_pos rfl]
  refine ⟨_,rfl,_,rfl,To,R,40,rfl,S5.tn,by decide,by decide,λm H6 m0 m1 hT6 k6=>?_⟩
  obtain ⟨S6,r6⟩:=S5.draw hT6 k6
  refine ⟨zs5,λl nl=>?_⟩
  have s7:=jf (o:=.lst ([0,5,20,1000,m].map V.int)) nl
  have S7:=S6.same s7
  obtain ⟨n1,n2⟩:=S6.tn.fresh nl
  refine ⟨To,R,l,[0,5,20,1000,m].map V.int,rfl,S7.tn,ja,n1,n2,by show 0 < 5; decide,by show 5 <= 1000000; decide,λj x H8 ex hT8 k8=>?_⟩
  obtain ⟨S8,r8⟩:=S7.draw hT8 k8
  obtain ⟨z,hz,rfl⟩:=int_at ex
  refine ⟨_,zs ++ [z],rfl,by rw [map_append]; rfl,by rw [length_append,lz]; rfl,λy hy=>?_,S8,(r5.trans r6).trans ((Fr.same s7).trans r8)⟩
  rcases mem_append.mp hy with hy | hy
  .exact rz y hy
  .rw [mem_singleton.mp hy]
   simp only [mem_cons,List.not_mem_nil,or_false] at hz
   rcases hz with rfl | rfl | rfl | rfl | rfl <;> omega
 rintro ys U H5 ⟨v,ns,rfl,rfl,lz,rz,S5,r5⟩ be nbe
 have s6:=jf (o:=.lst (ns.map V.int)) nbe
 have S6:=S5.same s6
 have Ube:Un (upd H5 be (.lst (ns.map V.int))) Z be (ns.map V.int):=⟨ja,S5.kr.none nbe⟩
 have Ufo:Un (upd H5 be (.lst (ns.map V.int))) Z fo (ls.map V.int):=(U4.fr r5).fr (P:=λ_=>False) (Fr.same s6)
 have F6:Fr jo7 Z H Z (upd H5 be (.lst (ns.map V.int))):=(F4.trans r5).trans (Fr.same s6)
 generalize upd H5 be (.lst (ns.map V.int)) = H6 at S6 Ube Ufo F6
 show jh5 4 (.ref be) [some (.ref To),some (.int f),some (.int h),some (.ref fo),none,none,none] H6 _
 refine ⟨_,rfl,_,rfl,be,_,rfl,.inl (SqL.of Ube.1),?_⟩
 rw [length_map]
 refine ⟨To,R,(ns.length:Int),2,rfl,S6.tn,by omega,by omega,λro cs H7 nro hT7 k7 hro upc rgc lnc=>?_⟩
 rw [if_pos (by decide)] at lnc
 obtain ⟨S7,r7⟩:=S6.draw hT7 k7
 have Uro:Un H7 Z ro (cs.map V.int):=⟨hro,S6.kr.none nro⟩
 have Ube7:=Ube.fr r7
 have Ufo7:=Ufo.fr r7
 have F7:=F6.trans r7
 show jh5 5 (.ref ro) [some (.ref To),some (.int f),some (.int h),some (.ref fo),some (.ref be),none,none] H7 _
 refine ⟨_,rfl,_,rfl,_,rfl,_,rfl,_,rfl,λx dx nx ndx ne=>?_⟩
 obtain ⟨fm,krm⟩:=j4c (C:=t.qa) nx ndx ne (r:=(0,.x)) S7.kr
 have Ube8:=Ube7.fr fm
 have Ufo8:=Ufo7.fr fm
 have Uro8:=Uro.fr fm
 have ln:ns.length = (2 + c).toNat:=lz
 refine ⟨jad Z x (0,.x),0,x,dx,h,f,be,ns,fo,ro,cs,ls,rfl,ja,qx,krm,⟨h1,h8⟩,⟨f0,by omega⟩,lt,Ube8.1,(λr hr=>by rw [Ube8.2] at hr; cases hr),by omega,by omega,rz,.inl ⟨Ufo8.1,λr hr=>by rw [Ufo8.2] at hr; cases hr⟩,upl,rgl,lnl,.inl ⟨Uro8.1,λr hr=>by rw [Uro8.2] at hr; cases hr⟩,upc,rgc,λZ' H8 W ex etot O ly f8 kr8=>⟨rfl,?_⟩⟩
 have gn:=j8p (cs:=cs) ⟨h1,h8⟩ f0 lt (by omega:ns.length <= 8) (λx hx=>(rz x hx).1) lnl rgl
 have ek:(w0 h f ns cs ls).ks.map (·.1) = jbt ls h.toNat:=by
  show ((jbt ls h.toNat).map λi=>(i,kp0 ns)).map (·.1) = _
  rw [map_map]
  exact List.map_id _
 have lk:(jbt ls h.toNat).length = (w0 h f ns cs ls).ks.length:=by rw [<- ek,length_map]
 have k0:=gn.ok.k0
 have k1:=gn.ok.k1
 obtain ⟨tn8,tr8⟩:=jno f8 (λz=>by cases z) (λz=>by cases z) (S7.tn.same (λb u e=>(fm b u e (λ_ _ z=>z)).1)) ⟨by rw [zd (S7.tn.fresh nx).1.symm]; exact S7.tr.1,by rw [zd (S7.tn.fresh nx).2.symm]; exact S7.tr.2⟩
 have S8:Sw t H8 Z' W (w0 h f ns cs ls) 0 ⟨ns,cs,ls,jbt ls h.toNat,h - f⟩ To R:=⟨⟨O,kr8,ly,⟨[],gn,j9h⟩,rfl,rfl,rfl,ek,etot⟩,tn8,tr8⟩
 have Ube9:=Ube8.fr f8
 have Ufo9:=Ufo8.fr f8
 have Uro9:=Uro8.fr f8
 show jh5 6 (V.ref x) [some (.ref To),some (.int f),some (.int h),some (.ref fo),some (.ref be),some (.ref ro),none] H8 _
 refine ⟨_,rfl,_,rfl,_,rfl,_,rfl,_,rfl,h,rfl,by omega,by omega,jpd (lo:=0) (n:=h.toNat) (λi ys U H'=>∃ v,U = [v,some (.ref fo)] /\ H' = H8 /\ ys = (jbt ls i).map V.int) ⟨none,rfl,rfl,rfl⟩ ?_ ?_ ?_⟩
 .rintro i ys U H' hi ⟨v,rfl,rfl,rfl⟩
  rw [length_map]
  have:=jtj ls i
  exact j1e (by omega)
 .rintro i ys U H' hi ⟨v,rfl,rfl,rfl⟩
  have e0:(0:Int) + (i:Int) = i:=Int.zero_add _
  rw [e0]
  refine ⟨_,rfl,_,rfl,fo,_,rfl,.inl (SqL.of Ufo9.1),rfl,jcc _,_,rfl,?_⟩
  rw [if_pos rfl,gc]
  by_cases z:(i:Int) ∈ ls
  .rw [decide_eq_true z]
   refine yq ⟨_,rfl,rfl,?_⟩
   rw [jly,if_pos z,append_nil]
  .rw [decide_eq_false z]
   refine jhy ⟨_,rfl,_,rfl,rfl,?_⟩
   rw [jly,if_neg z,map_append]
   rfl
 rintro ys U H9 ⟨v,rfl,rfl,rfl⟩ ho nho
 have s10:=jf (o:=.lst ((jbt ls h.toNat).map V.int)) nho
 refine ⟨_,rfl,_,rfl,zs7,λpa npa=>?_⟩
 have s11:=jf (o:=.tup [.ref x,.int h,.int f,.ref fo,.ref ho,.ref be,.ref ro]) npa
 have fs:Fr (λ_=>False) Z' H9 Z' _:=Fr.same (s10.trans s11)
 have S11:=(S8.same s10).same s11
 refine k Z' _ W _ pa h f fo ho be ro _ ⟨by show 2 <= ns.length; omega,by show ns.length <= 8; omega,rgc,by show cs.length <= 1000; omega,by show ls.length <= 5; omega,by show 0 < (jbt ls h.toNat).length; omega,by show (jbt ls h.toNat).length <= 16; omega,by show cs.length <= 2; omega,by show (((jbt ls h.toNat).length + 2 * ls.length:Nat) : Int) < 2 * (h - f); have:=j09 (n:=h.toNat) upl (λx hx=>by have:=rgl x hx; omega); omega⟩ S11 ⟨⟨?_,(S8.same s10).w.kr.none npa⟩,Ufo9.fr fs,⟨s11 _ _ ja,S8.w.kr.none nho⟩,Ube9.fr fs,Uro9.fr fs,rfl,λx hx=>(mem_append.mp hx).elim (λhx=>by have:=(jpb.mp hx).1; omega) (rgl x),⟨⟨h1,h8⟩,f0,by omega⟩,rz⟩
 rw [ex]
 exact ja
theorem jk3 (T:Txt K mg t):xj P w K mg base CX0 1 t.jbb t.jaj ["self","thing"] (jvp t):=by
 refine T.je2.okB (N:=["self","thing"]) λ_ A _ s H vs Q E hr h=>?_;obtain⟨p,dx,S,en,kvs,ps,b,k,rfl,Bq,hb,h64,q⟩:=h;refine⟨_,(@jd _ _ _ (jx (jn jtz rfl T.jtm boot_sorted (jc (jwp (jic hr) (j5 (pv 0) rfl) (pv 1) (@zf _ _ _ _ jg) ⟨rfl,rfl,rfl,rfl⟩) jg)))),?_⟩;refine⟨_,rfl,p,_,dx,_,_,rfl,Bq.ob,T.xp,T.xu,jgx _ _,S,rfl,.inr ⟨kvs,Bq.sg⟩,_,rfl,zs0,λr hr=>?_⟩;have s1:=jf (o:=.lst []) hr;refine⟨_,.inr ⟨kvs,k,b,jtk s1 Bq.sg,rfl,s1 _ _ hb,rfl⟩,?_⟩;rcases jjf (k:=k) Bq.hs with⟨h1,h2,h3⟩|⟨c,h1,h2⟩
 .rw[h1];refine⟨r,[],rfl,SqL.of ja,by decide,λz ns hz hp hs=>?_⟩;rw[h2]at q;exact q z ns _ (s1.free hz) (s1.trans (jf hz)) hp hs ja
 .rw[h1];refine⟨c,qh ps k,rfl,SqL.of (s1 _ _ h2),h64,λz ns hz hp hs=>?_⟩;exact q z ns _ (s1.free hz) (s1.trans (jf hz)) hp hs ja
noncomputable def wf (pu n hs fw fi:Int)(Ow Bq:Addr):List (Str×V):=vy "brought" (.ref Bq) (vy "own" (.ref Ow) (vy "first" (.int fi) (vy "few" (.int fw) (vy "houses" (.int hs) (vy "purses" (.int n) (vy "purse" (.int pu) []))))))
theorem jpf (pu n hs fw fi:Int)(Ow Bq:Addr):(wf pu n hs fw fi Ow Bq).lookup ("purse":Str)=some (.int pu):=by unfold wf;repeat(first|rw[jh,if_pos rfl]|rw[jh,if_neg (by decide+kernel)])
theorem jut (pu n hs fw fi:Int)(Ow Bq:Addr):(wf pu n hs fw fi Ow Bq).lookup ("purses":Str)=some (.int n):=by unfold wf;repeat(first|rw[jh,if_pos rfl]|rw[jh,if_neg (by decide+kernel)])
theorem jzc (pu n hs fw fi:Int)(Ow Bq:Addr):(wf pu n hs fw fi Ow Bq).lookup ("houses":Str)=some (.int hs):=by unfold wf;repeat(first|rw[jh,if_pos rfl]|rw[jh,if_neg (by decide+kernel)])
theorem j6i (pu n hs fw fi:Int)(Ow Bq:Addr):(wf pu n hs fw fi Ow Bq).lookup ("few":Str)=some (.int fw):=by unfold wf;repeat(first|rw[jh,if_pos rfl]|rw[jh,if_neg (by decide+kernel)])
theorem j2q (pu n hs fw fi:Int)(Ow Bq:Addr):(wf pu n hs fw fi Ow Bq).lookup ("first":Str)=some (.int fi):=by unfold wf;repeat(first|rw[jh,if_pos rfl]|rw[jh,if_neg (by decide+kernel)])
theorem j0g (pu n hs fw fi:Int)(Ow Bq:Addr):(wf pu n hs fw fi Ow Bq).lookup ("own":Str)=some (.ref Ow):=by unfold wf;repeat(first|rw[jh,if_pos rfl]|rw[jh,if_neg (by decide+kernel)])
theorem jsh (pu n hs fw fi:Int)(Ow Bq:Addr):(wf pu n hs fw fi Ow Bq).lookup ("brought":Str)=some (.ref Bq):=by unfold wf;repeat(first|rw[jh,if_pos rfl]|rw[jh,if_neg (by decide+kernel)])
theorem jwa (pu n hs fw fi:Int)(Ow Bq:Addr){m:Str}(h:¬m="brought"/\¬m="own"/\¬m="first"/\¬m="few"/\¬m="houses"/\¬m="purses"/\¬m="purse"):(wf pu n hs fw fi Ow Bq).lookup m=none:=by obtain⟨h1,h2,h3,h4,h5,h6,h7⟩:=h;unfold wf;rw[jh,if_neg h1,jh,if_neg h2,jh,if_neg h3,jh,if_neg h4,jh,if_neg h5,jh,if_neg h6,jh,if_neg h7];rfl
structure j9x (H:Hp)(Z:Rho)(cr fw:Int)(a q b:Addr)(ss:List Int)(o:O):Prop where
 a:H a=some (.tup [.ref q,.ref b])/\Z a=none
 q:xi H Z (.ref q) o
 b:H b=some (.tup (ss.map V.int))/\Z b=none
 up:ss.Pairwise (·<·)
 rg:∀k∈ss,0<=k/\k<cr
 en:cr-fw<=(ss.length:Int)
noncomputable def jr6 (H:Hp)(Z:Rho)(cr fw:Int)(v:V)(o:O):Prop:=∃a q b ss,v= .ref a/\j9x H Z cr fw a q b ss o
theorem jr6.fr {P:Role->Prop}{Z Z':Rho}{H H':Hp}{cr fw:Int}{v:V}{o:O}(f:Fr P Z H Z' H')(h:jr6 H Z cr fw v o):jr6 H' Z' cr fw v o:=let⟨a,q,b,ss,e,p⟩:=h;⟨a,q,b,ss,e,jjv f p.a.1 p.a.2,p.q.fr f,jjv f p.b.1 p.b.2,p.up,p.rg,p.en⟩
theorem jrm (T:Txt K mg t):xj P w K mg base CX0 6 t.jgu t.jhb ["self","order"] (λvs H Q _=>∃Z id W Y q o,vs=[.ref W.x,.ref q]/\qu t H Z id W Y/\H q=some (.tup (jna o))/\ye Y.n o=true/\Y.carried o=true/\(jz Y.bd (x9 o)).length<64/\∀a b ss H',H a=none->H b=none->vq H H'->H' a=some (.tup [.ref q,.ref b])->H' b=some (.tup ((ss:List Int).map V.int))->ss.Perm (jz Y.bd (x9 o))->ss.Pairwise (·<=·)->Q (.ref a) H'):=by
 refine T.jm6.okB (N:=["self","order"]) λ_ A _ s H vs Q E hr h=>?_;obtain⟨Z,id,W,Y,q,o,rfl,Ow,hq,ho,oc,l64,g⟩:=h;refine⟨_,(@jb _ _ _ _ _ (qk (qi (pv 0) T.jl T.yc (ka T) hr.dn T.yw .nil jo (jc (pv 1) jg))) (@jb _ _ _ _ _ (qv (qz (qr (qi (j5 (pv 0) rfl) T.xp T.xn (yx T) hr.dn T.xx .nil jo (jc (pv 1) jg)))) qf j4) (@jd _ _ _ (jx (@jgb _ _ _ _ _ (@yk _ _ _ _ _ (pv 1) (jea jsq rfl T.jnb boot_tuple (jc (qi (j5 (pv 0) rfl) T.xp T.jd7 (jk3 T) hr.dn T.jfc .nil jo (jc (pv 1) jg)) jg)) rfl rfl)))))),?_⟩;refine ko λN hN=>⟨_,rfl,W.x,W.dx,_,rfl,Ow.ob.1,xw,_,rfl,Z,id,W,Y,q,o,rfl,Ow,hq,ho,?_⟩;obtain⟨rb,rS,bvs,Bq,sg⟩:=Ow.bd;refine hN _ _ (ko λN hN=>⟨_,rfl,W.x,_,W.dx,_,_,rfl,Ow.ob.1,T.jl,T.xa,jf1,W.bd,W.db,_,rfl,Bq.ob,jqn _ _ (by decide+kernel) (by decide+kernel),_,rfl,W.bd,W.db,W.S,Y.en,bvs,thP Y.bd,q,jl0 o,rfl,Bq.rd,hq,λH1 s1=>⟨_,rfl,?_⟩⟩);have ec:decide (Y.en<=((qh (thP Y.bd) (jl0 o)).length:Int))=Y.carried o:=by
  unfold Wd.carried;rw[show qh (thP Y.bd) (jl0 o)=jz Y.bd (x9 o)from jbo (x9 o) Y.bd]
 rw[ec,oc];refine yq (hN _ _ ?_);have O1:=Ow.same s1;obtain⟨rb,rS,bvs,Bq,sg⟩:=O1.bd;have eh:qh (thP Y.bd) (jl0 o)=jz Y.bd (x9 o):=jbo (x9 o) Y.bd;refine⟨_,rfl,_,rfl,W.x,_,W.dx,_,_,rfl,O1.ob.1,T.jl,T.xa,jf1,W.bd,W.db,_,rfl,Bq.ob,jqn _ _ (by decide+kernel) (by decide+kernel),_,rfl,W.bd,W.db,W.S,Y.en,bvs,thP Y.bd,q,jl0 o,rfl,Bq.rd,s1 _ _ hq,by rw[eh];exact l64,λr ss H2 nr s2 pm up h2=>?_⟩;refine⟨r,_,rfl,.inl ⟨SqL.of h2,λb nb=>⟨zs2,λa na=>?_⟩⟩⟩;have s3:=jf (o:=.tup (ss.map V.int)) nb;have s4:=jf (o:=.tup [.ref q,.ref b]) na;exact g a b ss _ (((s1.trans s2).trans s3).free na) ((s1.trans s2).free nb) (((s1.trans s2).trans s3).trans s4) ja (s4 _ _ ja) (by rw[<-eh];exact pm) up
theorem jyq (T:Txt K mg t):xj P w K mg base CX0 5 t.jpv t.jqj ["paper","houses","few","purses"] (λvs H Q _=>∃Z cr fw n a q b ss o,vs=[.ref a,.int cr,.int fw,.int n]/\j9x H Z cr fw a q b ss o/\ye n o=true/\Q (.bl true) H):=by
 refine T.jq1.okA jnl λ_ A _ s H vs Q E hr h=>?_;obtain⟨Z,cr,fw,n,a,q,b,ss,o,rfl,p,io,k⟩:=h;refine⟨_,(@jb _ _ _ _ _ (qv (PW.pt (jhx (qz (qr (jn vc rfl T.jw boot_isinstance (@yk _ _ _ _ _ (pv 0) (jcn (v:=.ty "tuple") rfl T.jnb boot_tuple rfl) rfl rfl)))) (jb4 (jv jx7 (jn jr rfl T.jbd boot_len (jc (pv 0) jg)) jk (qc _))))) (@jd _ _ _ (jx jgd)) j4) (@jb _ _ _ _ _ (jhk (pv 0) (jkl rfl (jy (ju (i:=4) jnl.nd rfl (Or.inl rfl)) (jy (ju (i:=5) jnl.nd rfl (Or.inl rfl)) jfo)))) (@jb _ _ _ _ _ (qv (PW.pt (jhx (qz (qr (jde (jhg T) hr.dn rfl T.jf7 T.jdh.kp T.jew jo (jc (pv 4) jg) (yt (pv 3) jjb)))) (jb4 (qz (qr (jn vc rfl T.jw boot_isinstance (@yk _ _ _ _ _ (pv 5) (jcn (v:=.ty "tuple") rfl T.jnb boot_tuple rfl) rfl rfl))))))) (@jd _ _ _ (jx jgd)) j4) (@jd _ _ _ (jx (jhu (jm (jmq T) hr.dn rfl T.jh3 T.jet.kp T.ji1 .nil jo (@yk _ _ _ _ _ (pv 5) (pv 1) rfl rfl)) (jid (ja2 j5d (jn jr rfl T.jbd boot_len (jc (pv 5) jg)) (jde (jop T) hr.dn rfl T.jla T.jg0.kp T.jhe jo (jc (pv 1) jg) (yt (pv 2) jjb)) (qc _))))))))),?_⟩;obtain⟨_,e,_,hq⟩:=p.q;cases e;refine⟨_,rfl,_,_,_,true,rfl,.tup p.a.1,rfl,_,rfl,yq ?_⟩;refine⟨_,rfl,a,[.ref q,.ref b],rfl,.inr (SqT.of p.a.1),rfl,_,rfl,yq ?_⟩;refine⟨_,rfl,a,_,rfl,SqT.of p.a.1,rfl,_,_,rfl,_,_,rfl,rfl,?_⟩;refine⟨_,rfl,_,rfl,q,o,n,rfl,hq,_,rfl,?_⟩;rw[io];refine yq ⟨_,rfl,_,_,_,true,rfl,.tup p.b.1,rfl,_,rfl,yq ?_⟩;refine⟨_,rfl,_,rfl,b,cr,ss,rfl,.inr (SqT.of p.b.1),p.up,p.rg,_,rfl,jhy ?_⟩;refine⟨_,rfl,b,_,rfl,.inr (SqT.of p.b.1),_,rfl,_,rfl,cr,fw,rfl,_,_,rfl,rfl,?_⟩;dsimp only;rw[length_map,decide_eq_true p.en];exact k
noncomputable def j1t (H:Hp)(Z:Rho)(cr fw:Int)(kvs:List (Key×V))(os:List O):Prop:=Paired (λ(kv:Key×V)(o:O)=>kv.1= .inl o.n/\jr6 H Z cr fw kv.2 o) kvs os
noncomputable def j2a (H:Hp)(Z:Rho)(cr fw:Int)(kvs:List (List Key×V))(os:List O):Prop:=Paired (λ(kv:List Key×V)(o:O)=>kv.1=[.inl o.p,.inl o.n]/\jr6 H Z cr fw kv.2 o) kvs os
theorem jwo {H:Hp}{Z:Rho}{cr fw k:Int}:∀{kvs:List (Key×V)}{os:List O},j1t H Z cr fw kvs os->(jc2 kvs (.inl k)).isSome=decide (k∈os.map (·.n)):=λ{kvs os} q=>by
 unfold j1t at q;induction q with
 |nil=>rfl
 |@cons kv o kvs os a r ih=>
  obtain⟨e,_⟩:=a;rw[map_cons];by_cases z:o.n=k
  .rw[jax (show kv.1=_ by rw[e,z])];simp[z]
  .rw[jbe (λy=>z (by rw[e]at y;exact Sum.inl.inj y)),ih];have:¬k=o.n:=λy=>z y.symm;simp[this]
theorem j4m {H:Hp}{Z:Rho}{cr fw:Int}{q:Int×Int}:∀{kvs:List (List Key×V)}{os:List O},j2a H Z cr fw kvs os->(jc2 kvs [.inl q.1,.inl q.2]).isSome=decide (q∈os.map plc):=λ{kvs os} p=>by
 unfold j2a at p;induction p with
 |nil=>rfl
 | @cons kv o kvs os a r ih=>
  obtain⟨e,_⟩:=a;rw[map_cons];by_cases z:plc o=q
  .rw[jax (show kv.1=_ by rw[e,<-z];rfl)];simp[z]
  .rw[jbe (λy=>z ?_),ih]
   .have:¬q=plc o:=λy=>z y.symm;simp[this]
   .rw[e]at y;have y1:=(List.cons.inj y).1;have y2:=(List.cons.inj (List.cons.inj y).2).1;exact Prod.ext (Sum.inl.inj y1) (Sum.inl.inj y2)
theorem jr0 (T:Txt K mg t):xj P w K mg base CX0 1 t.jp5 t.jp9 ["papers","key","paper"] (λvs H Q _=>∃D v,(∃k kvs,vs=[.ref D,.int k,v]/\H D=some (.dK kvs)/\kvs.length<=1000/\((jc2 kvs (.inl k)).isSome=true->Q (.bl false) H)/\((jc2 kvs (.inl k)).isSome=false->Q (.bl true) (upd H D (.dK (kvs++[(.inl k,v)])))))\/∃b k kvs,vs=[.ref D,.ref b,v]/\H b=some (.tup ((k:List Key).map kV))/\H D=some (.dT kvs)/\kvs.length<=1000/\((jc2 kvs k).isSome=true->Q (.bl false) H)/\((jc2 kvs k).isSome=false->Q (.bl true) (upd H D (.dT (kvs++[(k,v)]))))):=by
 refine T.jm8.ok jyg (λvs H Q E h=>?_) (λcdv A outer s H vs Q E hr h=>?_)
 .obtain⟨D,v,⟨k,kvs,rfl,_⟩|⟨b,k,kvs,rfl,_⟩⟩:=h
  .rfl
  .rfl
 .obtain⟨D,v,⟨k,kvs,rfl,hD,l,q1,q2⟩|⟨b,k,kvs,rfl,hb,hD,l,q1,q2⟩⟩:=h
  .refine⟨_,(@jb _ _ _ _ _ (qv (jp0 (jw6 (jic hr) (pv 1) (pv 0))) (@jd _ _ _ (jx jgd)) j4) (@jb _ _ _ _ _ (js5 (jic hr) (pv 0) (pv 1) (pv 2) rfl) (@jd _ _ _ (jx jgd)))),?_⟩;refine⟨_,rfl,_,rfl,D,jc2 kvs (.inl k),rfl,.inl ⟨kvs,.inl k,.inl hD,rfl,rfl⟩,_,rfl,jhz (λz=>q1 z) (λz=>?_)⟩;have z':(jc2 kvs (.inl k)).isSome=false:=by simpa using z
   have hv:jc2 kvs (.inl k)=none:=by simpa using z'
   refine⟨_,rfl,_,rfl,_,rfl,D,_,rfl,jys.k (k:=.inl k) hD (zw l),?_⟩;rw[jjq _ hv];exact q2 z'
  .refine⟨_,(@jb _ _ _ _ _ (qv (jp0 (jw6 (jic hr) (pv 1) (pv 0))) (@jd _ _ _ (jx jgd)) j4) (@jb _ _ _ _ _ (js5 (jic hr) (pv 0) (pv 1) (pv 2) rfl) (@jd _ _ _ (jx jgd)))),?_⟩;refine⟨_,rfl,_,rfl,D,jc2 kvs k,rfl,.inr ⟨kvs,k,b,.inl hD,rfl,hb,rfl⟩,_,rfl,jhz (λz=>q1 z) (λz=>?_)⟩;have z':(jc2 kvs k).isSome=false:=by simpa using z
   have hv:jc2 kvs k=none:=by simpa using z'
   refine⟨_,rfl,_,rfl,_,rfl,D,_,rfl,.inr ⟨kvs,k,b,hD,rfl,hb,zw l,rfl⟩,?_⟩;rw[jjq _ hv];exact q2 z'
theorem ju5 (T:Txt K mg t):xj P w K mg base CX0 2 t.jts t.jsp ["papers"] (λvs H Q _=>∃Z cr fw D u xs os,vs=[.ref D]/\H D=some u/\jrt u xs/\Paired (jr6 H Z cr fw) xs os/\os.length<=1000/\∀H',vq H H'->Q (.int (os.map λo:O=>o.m).sum) H'):=by
 refine T.jph.okB (N:=["papers"]) λ_ A _ s H vs Q E hr h=>?_;obtain⟨Z,cr,fw,D,u,xs,os,rfl,hD,vd,po,l,k⟩:=h;refine⟨_,(@jd _ _ _ (jx (jn (jmn rfl) rfl T.jyt boot_sum (jc (jv0 (gk (N':=["order","signers"]) (ix:=[none,none]) (xm (by kernel_rfl)) rfl (j8n (j25 PySem.F.plainAttrs_dict PySem.F.slot_dict_values PySem.F.type_dict_values jyn (pv 0))) (λ_ _ _ _=>(j5r (K:=K) (t:=(j5m (jh5 0) (j5m (jh5 1) j95))) rfl rfl 2 (jy (ju (i:=0) j9p rfl (Or.inl rfl) (.inr rfl)) (jy (ju (i:=1) j9p rfl (Or.inl rfl) (.inr rfl)) jfo)) rfl rfl)) (λ_ _ _ _=>jnz) (λ_ _ _ _=>(ya (jir (K:=K) rfl) (pv 0) jk (λ_ _=>rfl))))) jg)))),?_⟩;have lx:xs.length=os.length:=Paired.length po;have isD:(∃kvs,H D=some (.dK kvs))\/∃kvs,H D=some (.dT kvs):=by
  rcases vd with⟨kvs,rfl,_⟩|⟨kvs,rfl,_⟩
  .exact .inl ⟨kvs,hD⟩
  .exact .inr ⟨kvs,hD⟩
 have ut:∀xs:List V,u≠.tup xs:=λxs z=>by rcases vd with⟨_,e,_⟩|⟨_,e,_⟩<;>(rw[e]at z;cases z)
 have uz:∀o' u',u≠.frz o' u':=λo' u' z=>by rcases vd with⟨_,e,_⟩|⟨_,e,_⟩<;>(rw[e]at z;cases z)
 refine⟨_,rfl,.inr (.inr (.inl ⟨rfl,isD⟩)),D,u,xs,rfl,rfl,hD,vd,λvw nvw=>?_⟩;have sv:=jf (o:=jg6 vw D) nvw;have gv:upd H vw (jg6 vw D) vw=some (jg6 vw D):=ja;have hD1:=sv _ _ hD;have po1:Paired (jr6 (upd H vw (jg6 vw D)) Z cr fw) xs os:=Paired.vf po λ_ _ h=>h.fr (P:=λ_=>False) (Fr.same sv);generalize upd H vw (jg6 vw D)=H1 at sv gv hD1 po1;refine⟨vw,D,u,xs,rfl,gv,hD1,vd,λoo=>j86 (λi ys U H'=>∃v0 v1,U=[v0,v1]/\H'=upd H1 D (.frz oo u)/\ys=((os.take i).map λo:O=>o.m).map V.int) ⟨none,none,rfl,rfl,rfl⟩ ?_ ?_ ?_⟩
 .rintro i ys U H' hi ⟨v0,v1,rfl,rfl,rfl⟩
  refine⟨ja,j1e ?_⟩;rw[length_map,length_map,length_take];omega
 .rintro i x ys U H' ex ⟨v0,v1,rfl,rfl,rfl⟩
  obtain⟨o,eo,a,q,b,ss,rfl,p⟩:=qg po1 ex;obtain⟨_,e,_,hq⟩:=p.q;cases e;have nD:∀{c xs},H1 c=some (.tup xs)->c≠D:=λh z=>by rw[z,hD1]at h;exact ut _ (Option.some.inj h)
  refine⟨a,_,rfl,SqT.of (by rw[je (nD p.a.1)];exact p.a.1),rfl,_,_,rfl,_,_,rfl,rfl,?_⟩;dsimp only[j4s];rw[if_pos rfl];refine⟨_,rfl,q,jna o,3,.int o.m,rfl,rfl,SqT.of (by rw[je (nD hq)];exact hq),rfl,_,_,rfl,rfl,?_⟩;rw[take_snoc eo,map_append,map_append];rfl
 rintro ys U H' ⟨v0,v1,rfl,rfl,rfl⟩ r nr
 rw[lx,take_length];have rD:r≠D:=λz=>by rw[z,ja]at nr;cases nr
 refine⟨D,oo,u,by rw[je rD.symm,ja],(λo' u' z=>?_),vd.mut,r,os.map (λo:O=>o.m),rfl,SqL.of (by rw[je rD,ja]),k _ λb v e=>?_⟩
 .have z':H D=some (.frz o' u'):=z;rw[hD]at z';exact uz _ _ (Option.some.inj z')
 .have e1:=sv _ _ e;by_cases z:b=D
  .rw[z]at e1⊢;rw[ja,<-e1,hD1]
  .have br:b≠r:=λy=>by rw[y]at e1;rw[je rD,e1]at nr;cases nr
   rw[je z,je br,je z];exact e1
structure jw7 (t:Ad)(H:Hp)(Z:Rho)(x dx:Addr)(pu n cr fw fi:Int)(Ow Bq:Addr)(owns bros:List O):Prop where
 ob:H x=some (.ins t.zk dx (wf pu n cr fw fi Ow Bq))/\Z x=none
 own:Z Ow=some (9,.own 4)/\∃kvs,H Ow=some (.dK kvs)/\j1t H Z cr fw kvs owns
 bro:Z Bq=some (9,.own 5)/\∃kvs,H Bq=some (.dT kvs)/\j2a H Z cr fw kvs bros
noncomputable def j6t:Role->Prop:=λr=>r=(9,.own 4)\/r=(9,.own 5)
section
variable {t:Ad}{H H':Hp}{Z Z':Rho}{x dx Ow Bq:Addr}{pu n cr fw fi:Int}{owns bros:List O}{P:Role->Prop}
theorem jw7.fr (f:Fr P Z H Z' H')(n4:¬P (9,.own 4))(n5:¬P (9,.own 5))(W:jw7 t H Z x dx pu n cr fw fi Ow Bq owns bros):jw7 t H' Z' x dx pu n cr fw fi Ow Bq owns bros:=by obtain⟨r1,k1,h1,p1⟩:=W.own;obtain⟨r2,k2,h2,p2⟩:=W.bro;obtain⟨a1,a2⟩:=jch f h1 r1 n4;obtain⟨b1,b2⟩:=jch f h2 r2 n5;exact⟨jjv f W.ob.1 W.ob.2,⟨a2,k1,a1,Paired.vf p1 λ_ _ ⟨e,h⟩=>⟨e,h.fr f⟩⟩,⟨b2,k2,b1,Paired.vf p2 λ_ _ ⟨e,h⟩=>⟨e,h.fr f⟩⟩⟩
theorem jw7.same (s:vq H H')(W:jw7 t H Z x dx pu n cr fw fi Ow Bq owns bros):jw7 t H' Z x dx pu n cr fw fi Ow Bq owns bros:=W.fr (P:=λ_=>False) (Fr.same s) (λz=>z) (λz=>z)
end
theorem j1k {H:Hp}{Z:Rho}{cr fw:Int}:∀{kvs:List (Key×V)}{os:List O},j1t H Z cr fw kvs os->Paired (jr6 H Z cr fw) (kvs.map (·.2)) os:=λ{kvs os} q=>by
 induction q with
 |nil=>exact .nil
 |cons h _ ih=>exact .cons h.2 ih
theorem j1i {H:Hp}{Z:Rho}{cr fw:Int}:∀{kvs:List (List Key×V)}{os:List O},j2a H Z cr fw kvs os->Paired (jr6 H Z cr fw) (kvs.map (·.2)) os:=λ{kvs os} q=>by
 induction q with
 |nil=>exact .nil
 |cons h _ ih=>exact .cons h.2 ih
noncomputable def jyy (os:List O):Int:=(os.map λo:O=>o.m).sum
theorem jc8 (T:Txt K mg t):xj P w K mg base CX0 3 t.jh1 t.jis ["self"] (λvs H Q _=>∃Z x dx pu n cr fw fi Ow Bq owns bros,vs=[.ref x]/\jw7 t H Z x dx pu n cr fw fi Ow Bq owns bros/\owns.length<=1000/\bros.length<=1000/\∀H',vq H H'->Q (.int (fi+jyy bros-jyy owns)) H'):=by refine T.jor.okB (N:=["self"]) λ_ A _ s H vs Q E hr h=>?_;obtain⟨Z,x,dx,pu,n,cr,fw,fi,Ow,Bq,owns,bros,rfl,W,l1,l2,k⟩:=h;refine⟨_,(@jd _ _ _ (jx (qy jek (qy jal (j5 (pv 0) rfl) (jm (ju5 T) hr.dn rfl T.jtf T.jph.kp T.jsw .nil jo (jc (j5 (pv 0) rfl) jg))) (jm (ju5 T) hr.dn rfl T.jtf T.jph.kp T.jsw .nil jo (jc (j5 (pv 0) rfl) jg))))),?_⟩;obtain⟨_,k2,h2,p2⟩:=W.bro;refine⟨_,rfl,x,_,dx,_,_,rfl,W.ob.1,T.j7,T.jdu,j2q _ _ _ _ _ _ _,_,rfl,x,_,dx,_,_,rfl,W.ob.1,T.j7,T.gg,jsh _ _ _ _ _ _ _,Z,cr,fw,Bq,_,_,bros,rfl,h2,.inr ⟨k2,rfl,rfl⟩,j1i p2,l2,λH1 s1=>?_⟩;have W1:=W.same s1;obtain⟨_,k1,h1,p1⟩:=W1.own;exact⟨_,_,rfl,rfl,_,rfl,x,_,dx,_,_,rfl,W1.ob.1,T.j7,T.jaz,j0g _ _ _ _ _ _ _,Z,cr,fw,Ow,_,_,owns,rfl,h1,.inl ⟨k1,rfl,rfl⟩,j1k p1,l1,λH2 s2=>⟨_,_,rfl,rfl,k H2 (s1.trans s2)⟩⟩
noncomputable def Fst (ns:List Int)(m:Int):Prop:=0<=m/\m∉ns/\∀i,0<=i->i<m->i∈ns
theorem jb3 (T:Txt K mg t):xj P w K mg base CX0 1 t.gu t.g6 ["self"] (λvs H Q _=>∃Z x dx pu n cr fw fi Ow Bq owns bros m,vs=[.ref x]/\jw7 t H Z x dx pu n cr fw fi Ow Bq owns bros/\Fst (owns.map (·.n)) m/\Q (.int m) H):=by
 refine T.jc4.okA wo λ_ A _ s H vs Q E hr h=>?_;obtain⟨Z,x,dx,pu,n,cr,fw,fi,Ow,Bq,owns,bros,m,rfl,W,⟨m0,nm,hm⟩,k⟩:=h;refine⟨_,(@jb _ _ _ _ _ (j6 (i:=1) wo.nd rfl (Or.inl rfl) jk) (@jb _ _ _ _ _ (jtg PassesOwn.never (jp0 (jw6 (jic hr) (pv 1) (j5 (pv 0) rfl))) (@jd _ _ _ (j6a (i:=1) wo.nd rfl (Or.inl rfl) jk jzk))) (@jd _ _ _ (jx (pv 1))))),?_⟩;obtain⟨_,k1,h1,p1⟩:=W.own;refine jsz (λU H'=>∃i:Int,U=[some (.ref x),some (.int i)]/\H'=H/\0<=i/\i<=m) (λU _=>match U with|[_,some (.int i)]=>(m-i).toNat|_=>0) ⟨0,rfl,rfl,by decide,m0⟩ ?_ ?_
 .rintro U H' ⟨i,rfl,rfl,i0,im⟩
  refine⟨_,rfl,_,rfl,x,_,dx,_,_,rfl,W.ob.1,T.j7,T.jaz,j0g _ _ _ _ _ _ _,Ow,_,rfl,.inl ⟨k1,.inl i,.inl h1,rfl,rfl⟩,_,rfl,?_⟩;rw[jwo p1];refine jhz (λz=>?_) (λz=>?_)
  .have lt:i<m:=by
    have:=of_decide_eq_true z;have ne:i≠m:=λy=>nm (y ▸ this);omega
   refine⟨_,rfl,_,_,rfl,rfl,⟨i+1,rfl,rfl,by omega,by omega⟩,?_⟩;show(m-(i+1)).toNat<(m-i).toNat;omega
  .have e:i=m:=Classical.byContradiction λy=>z (decide_eq_true (hm i i0 (by omega)));subst e;exact⟨_,rfl,k⟩
 .intro U H Q Q' hQ h;obtain⟨v,e1,u,e2,a,C,dx,fs,w,q1,q2,q3,q4,q5,b,o,q6,q7,c,q8,q9⟩:=h;exact⟨v,e1,u,e2,a,C,dx,fs,w,q1,q2,q3,q4,q5,b,o,q6,q7,c,q8,hQ _ _ q9⟩
theorem jpt (T:Txt K mg t):xj P w K mg base CX0 4 t.jfy t.jfn ["self","goal","much"] (λvs H Q _=>∃Z x dx pu n cr fw fi Ow Bq owns bros m g mu,vs=[.ref x,.int g,.int mu]/\jw7 t H Z x dx pu n cr fw fi Ow Bq owns bros/\owns.length<=1000/\bros.length<=1000/\Fst (owns.map (·.n)) m/\(0<=g/\g<=n-1)/\g≠pu/\(1<=mu/\mu<=1000)/\mu<=fi+jyy bros-jyy owns/\∀q H',vq H H'->H' q=some (.tup [.int pu,.int m,.int g,.int mu])->Q (.ref q) H'):=by
 refine T.jj5.okB (N:=["self","goal","much"]) λ_ A _ s H vs Q E hr h=>?_;obtain⟨Z,x,dx,pu,n,cr,fw,fi,Ow,Bq,owns,bros,m,g,mu,rfl,W,l1,l2,hf,hg,ng,hm,le,k⟩:=h;refine⟨_,(@jb _ _ _ _ _ (qv (PW.pt (jhx (qz (qr (jm (ql T) hr.dn rfl T.qo T.qj.kp T.qp .nil jo (@jlv _ _ _ _ _ _ _ (pv 1) jk (qy jek (j5 (pv 0) rfl) jk) rfl rfl rfl)))) (jb4 (jv jen (pv 1) (j5 (pv 0) rfl) (qc _))))) qf j4) (@jb _ _ _ _ _ (qv (qz (qr (jm (ql T) hr.dn rfl T.qo T.qj.kp T.qp .nil jo (@jlv _ _ _ _ _ _ _ (pv 2) jk (ze (v:=.int 1000) rfl T.jg7.choose_spec ⟨_,rfl⟩) rfl rfl rfl)))) qf j4) (@jb _ _ _ _ _ (qv (jv jvz (pv 2) (zy (pv 0) T.j7 T.ja5 (jc8 T) hr.dn T.jb9 .nil jo) (qc _)) qf j4) (@jd _ _ _ (jx (@jgb _ _ _ _ _ (@j71 _ _ _ _ _ _ _ _ _ (j5 (pv 0) rfl) (zy (pv 0) T.j7 T.wg (jb3 T) hr.dn T.kb .nil jo) (pv 1) (pv 2) rfl rfl rfl rfl))))))),?_⟩;refine ko λN hN=>⟨_,rfl,_,rfl,x,_,dx,_,_,rfl,W.ob.1,T.j7,T.ph,jut _ _ _ _ _ _ _,_,_,rfl,rfl,g,0,n-1,rfl,_,rfl,?_⟩;rw[decide_eq_true hg];refine yq ⟨_,rfl,_,rfl,x,_,dx,_,_,rfl,W.ob.1,T.j7,T.yh,jpf _ _ _ _ _ _ _,rfl,_,rfl,?_⟩;rw[decide_eq_false (λz=>ng (V.int.inj z))];refine yq (hN _ _ (ko λN hN=>⟨_,rfl,mu,1,1000,rfl,_,rfl,?_⟩));rw[decide_eq_true hm];have hnw:∀{m:Str},(¬m="brought"/\¬m="own"/\¬m="first"/\¬m="few"/\¬m="houses"/\¬m="purses"/\¬m="purse")->(wf pu n cr fw fi Ow Bq).lookup m=none:=λh=>jwa _ _ _ _ _ _ _ h;refine yq (hN _ _ (ko λN hN=>⟨_,rfl,_,rfl,x,dx,_,rfl,W.ob.1,hnw (by decide+kernel),Z,x,dx,pu,n,cr,fw,fi,Ow,Bq,owns,bros,rfl,W,l1,l2,λH1 s1=>⟨_,_,rfl,rfl,_,rfl,?_⟩⟩));rw[decide_eq_false (by omega)];have W1:=W.same s1;refine yq (hN _ _ ⟨_,rfl,x,_,dx,_,_,rfl,W1.ob.1,T.j7,T.yh,jpf _ _ _ _ _ _ _,_,rfl,x,dx,_,rfl,W1.ob.1,hnw (by decide+kernel),Z,x,dx,pu,n,cr,fw,fi,Ow,Bq,owns,bros,m,rfl,W1,hf,_,rfl,_,rfl,zs4,λq nq=>k q _ (s1.trans (jf nq)) ja⟩)
noncomputable def j5w (pu:Int)(owns bros:List O)(o:O):Bool×List O×List O:=if o.p=pu then(if o.n∈owns.map (·.n)then(false,owns,bros)else(true,owns++[o],bros))else if o.g=pu then(if plc o∈bros.map plc then(false,owns,bros)else(true,owns,bros++[o]))else(false,owns,bros)
theorem js4 (T:Txt K mg t):xj P w K mg base CX0 6 t.ji2 t.jit ["self","paper"] (λvs H Q _=>∃Z x dx pu n cr fw fi Ow Bq owns bros v o,vs=[.ref x,v]/\jw7 t H Z x dx pu n cr fw fi Ow Bq owns bros/\OkR Z H/\owns.length<=900/\bros.length<=900/\jr6 H Z cr fw v o/\ye n o=true/\∀H',jw7 t H' Z x dx pu n cr fw fi Ow Bq (j5w pu owns bros o).2.1 (j5w pu owns bros o).2.2->Fr j6t Z H Z H'->OkR Z H'->Q (.bl (j5w pu owns bros o).1) H'):=by
 refine T.jom.okA jaf λ_ A _ s H vs Q E hr h=>?_;obtain⟨Z,x,dx,pu,n,cr,fw,fi,Ow,Bq,owns,bros,v,o,rfl,W,kr,l1,l2,ppv,io,k⟩:=h;refine⟨_,(@jb _ _ _ _ _ (qv (qz (qr (jde (jyq T) hr.dn rfl T.jud T.jq1.kp T.jp2 jo (jc (pv 1) jg) (yt (j5 (pv 0) rfl) (yt (j5 (pv 0) rfl) (yt (j5 (pv 0) rfl) jjb)))))) qf j4) (@jb _ _ _ _ _ (jhk (ya jdm (pv 1) jk (λ_ _=>rfl)) (jkl rfl (jy (ju (i:=2) jaf.nd rfl (Or.inl rfl)) (jy (ju (i:=3) jaf.nd rfl (Or.inl rfl)) (jy (ju (i:=4) jaf.nd rfl (Or.inl rfl)) (jy (ju (i:=5) jaf.nd rfl (Or.inl rfl)) jfo)))))) (@jb _ _ _ _ _ (qv (jv jen (pv 2) (j5 (pv 0) rfl) (qc _)) (@jd _ _ _ (jx (jm (jr0 T) hr.dn rfl T.jpq T.jm8.kp T.jrb .nil jo (@jlv _ _ _ _ _ _ _ (j5 (pv 0) rfl) (pv 3) (pv 1) rfl rfl rfl)))) j4) (@jb _ _ _ _ _ (qv (jv jen (pv 4) (j5 (pv 0) rfl) (qc _)) (@jd _ _ _ (jx (jm (jr0 T) hr.dn rfl T.jpq T.jm8.kp T.jrb .nil jo (@jlv _ _ _ _ _ _ _ (j5 (pv 0) rfl) (@jgb _ _ _ _ _ (@yk _ _ _ _ _ (pv 2) (pv 3) rfl rfl)) (pv 1) rfl rfl rfl)))) j4) (@jd _ _ _ (jx jgd)))))),?_⟩;obtain⟨a,q,b,ss,rfl,p⟩:=id ppv;obtain⟨_,e,_,hq⟩:=id p.q;cases e;obtain⟨r1,k1,h1,p1⟩:=W.own;obtain⟨r2,k2,h2,p2⟩:=W.bro;have e1:=Paired.length p1;have e2:=Paired.length p2;refine ko λN hN=>⟨_,rfl,_,rfl,x,_,dx,_,_,rfl,W.ob.1,T.j7,T.jcj,jzc _ _ _ _ _ _ _,_,rfl,x,_,dx,_,_,rfl,W.ob.1,T.j7,T.jgt,j6i _ _ _ _ _ _ _,_,rfl,x,_,dx,_,_,rfl,W.ob.1,T.j7,T.ph,jut _ _ _ _ _ _ _,Z,cr,fw,n,a,q,b,ss,o,rfl,p,io,_,rfl,yq (hN _ _ ?_)⟩;refine ko λN hN=>⟨_,rfl,a,_,0,.ref q,rfl,rfl,SqT.of p.a.1,rfl,q,_,rfl,SqT.of hq,rfl,_,_,rfl,_,_,rfl,_,_,rfl,_,_,rfl,rfl,hN _ _ ?_⟩;unfold j5w at k;refine ko λN hN=>⟨_,rfl,_,rfl,x,_,dx,_,_,rfl,W.ob.1,T.j7,T.yh,jpf _ _ _ _ _ _ _,rfl,_,rfl,?_⟩;by_cases z:o.p=pu
 .rw[if_pos z]at k;rw[decide_eq_true (by rw[z]:V.int o.p=V.int pu)];refine jhy ⟨_,rfl,x,_,dx,_,_,rfl,W.ob.1,T.j7,T.jaz,j0g _ _ _ _ _ _ _,_,rfl,_,rfl,Ow,.ref a,.inl ⟨o.n,k1,rfl,h1,by omega,λy=>?_,λy=>?_⟩⟩
  .rw[jwo p1,decide_eq_true_iff]at y;rw[if_pos y]at k;exact k H W Fr.refl kr
  .rw[jwo p1,decide_eq_false_iff_not]at y;rw[if_neg y]at k;have f:Fr j6t Z H Z (upd H Ow (.dK (k1++[(.inl o.n,.ref a)]))):=Fr.put r1 (.inl rfl);have oB:Bq≠Ow:=ner r2 r1 (by intro z;cases z);refine k _ ⟨jjv f W.ob.1 W.ob.2,⟨r1,_,ja,qq (Paired.vf p1 λ_ _ ⟨e,h⟩=>⟨e,h.fr f⟩) ⟨rfl,ppv.fr f⟩⟩,⟨r2,k2,by rw[je oB];exact h2,Paired.vf p2 λ_ _ ⟨e,h⟩=>⟨e,h.fr f⟩⟩⟩ f kr.put
 .rw[if_neg z]at k;rw[decide_eq_false (λy=>z (V.int.inj y))];refine yq (hN _ _ (ko λN hN=>⟨_,rfl,_,rfl,x,_,dx,_,_,rfl,W.ob.1,T.j7,T.yh,jpf _ _ _ _ _ _ _,rfl,_,rfl,?_⟩));by_cases y:o.g=pu
  .rw[if_pos y]at k;rw[decide_eq_true (by rw[y]:V.int o.g=V.int pu)];refine jhy ⟨_,rfl,x,_,dx,_,_,rfl,W.ob.1,T.j7,T.gg,jsh _ _ _ _ _ _ _,_,rfl,_,rfl,zs2,λc nc=>?_⟩;have s1:=jf (o:=.tup [.int o.p,.int o.n]) nc;have W1:=W.same s1;have kr1:=kr.same s1;have ppv1:=ppv.fr (P:=λ_=>False) (Fr.same s1);obtain⟨_,k2',h2',p2'⟩:=W1.bro;obtain⟨_,k1',h1',p1'⟩:=W1.own;have e2':=Paired.length p2';have eb:(jc2 k2' [.inl o.p,.inl o.n]).isSome=decide (plc o∈bros.map plc):=j4m (q:=plc o) p2';refine⟨_,rfl,Bq,.ref a,.inr ⟨c,[.inl o.p,.inl o.n],k2',rfl,ja,h2',by omega,λy=>?_,λy=>?_⟩⟩
   .rw[eb,decide_eq_true_iff]at y;rw[if_pos y]at k;exact k _ W1 (Fr.same s1) kr1
   .rw[eb,decide_eq_false_iff_not]at y;rw[if_neg y]at k;have f:Fr j6t Z (upd H c (.tup [.int o.p,.int o.n])) Z (upd (upd H c (.tup [.int o.p,.int o.n])) Bq (.dT (k2'++[([.inl o.p,.inl o.n],.ref a)]))):=Fr.put r2 (.inr rfl);have oB:Ow≠Bq:=ner r1 r2 (by intro z;cases z);refine k _ ⟨jjv f W1.ob.1 W1.ob.2,⟨r1,k1',by rw[je oB];exact h1',Paired.vf p1' λ_ _ ⟨e,h⟩=>⟨e,h.fr f⟩⟩,⟨r2,_,ja,qq (Paired.vf p2' λ_ _ ⟨e,h⟩=>⟨e,h.fr f⟩) ⟨rfl,ppv1.fr f⟩⟩⟩ ((Fr.same s1).trans f) kr1.put
  .rw[if_neg y]at k;rw[decide_eq_false (λz=>y (V.int.inj z))];exact yq (hN _ _ (k H W Fr.refl kr))
theorem jmf (T:Txt K mg t):xj P w K mg base CX0 4 t.gd t.jbp ["self","purse","sums","houses","few"] (λvs H Q _=>∃x dx pu be cr fw,∃ns:List Int,vs=[.ref x,.int pu,.ref be,.int cr,.int fw]/\H x=some (.ins t.zk dx [])/\H be=some (.lst (ns.map V.int))/\2<=ns.length/\ns.length<=8/\(∀i∈ns,0<=i/\i<=1000)/\(0<=pu/\pu<(ns.length:Int))/\(1<=cr/\cr<=16)/\(0<=fw/\fw<=5)/\∀Ow Bq H',H Ow=none->H Bq=none->Ow≠Bq->(∀b u,H b=some u->b≠x->H' b=some u)->H' x=some (.ins t.zk dx (wf pu ns.length cr fw (gI ns pu) Ow Bq))->H' Ow=some (.dK [])->H' Bq=some (.dT [])->Q .non H'):=by
 refine T.jga.okB (N:=["self","purse","sums","houses","few"]) λ_ A _ s H vs Q E hr h=>?_;obtain⟨x,dx,pu,be,cr,fw,ns,rfl,hx,hb,l2,l8,rg,hp,hc,hf,k⟩:=h;refine⟨_,(@jb _ _ _ _ _ (qv (qz (qr (jm (jrd T) hr.dn rfl T.jnd T.jjm.kp T.jnv .nil jo (jc (pv 2) jg)))) qf j4) (@jb _ _ _ _ _ (qv (qz (qr (jm (ql T) hr.dn rfl T.qo T.qj.kp T.qp .nil jo (@jlv _ _ _ _ _ _ _ (pv 1) jk (qy jek (jn jr rfl T.jbd boot_len (jc (pv 2) jg)) jk) rfl rfl rfl)))) qf j4) (@jb _ _ _ _ _ (qv (PW.pt (jhx (qz (qr (jm (jf3 T) hr.dn rfl T.jcx T.pd.kp T.jcy .nil jo (jc (pv 3) jg)))) (jb4 (qz (qr (jm (jub T) hr.dn rfl T.js7 T.jpc.kp T.jtv .nil jo (jc (pv 4) jg))))))) qf j4) (@jb _ _ _ _ _ (vh (pv 0) (pv 1) rfl) (@jb _ _ _ _ _ (vh (pv 0) (jn jr rfl T.jbd boot_len (jc (pv 2) jg)) rfl) (@jb _ _ _ _ _ (vh (pv 0) (pv 3) rfl) (@jb _ _ _ _ _ (vh (pv 0) (pv 4) rfl) (@jb _ _ _ _ _ (vh (pv 0) (ya yp (pv 2) (pv 1) (λ_ _=>rfl)) rfl) (@jb _ _ _ _ _ (vh (pv 0) j22 rfl) (@jd _ _ _ (vh (pv 0) jo9 rfl))))))))))),?_⟩;refine ko λN hN=>⟨_,rfl,be,ns,rfl,hb,l2,l8,rg,λH1 s1=>⟨_,rfl,yq (hN _ _ ?_)⟩⟩;have hb1:=s1 _ _ hb;have hx1:=s1 _ _ hx;refine ko λN hN=>⟨_,rfl,_,rfl,be,_,rfl,.inl (SqL.of hb1),_,_,rfl,rfl,pu,0,_,rfl,_,rfl,?_⟩;rw[length_map,decide_eq_true (⟨hp.1,by omega⟩:0<=pu/\pu<=(ns.length:Int)-1)];refine yq (hN _ _ (ko λN hN=>⟨_,rfl,cr,rfl,_,rfl,?_⟩));rw[decide_eq_true hc];refine yq ⟨_,rfl,fw,rfl,_,rfl,?_⟩;rw[decide_eq_true hf];refine yq (hN _ _ ?_);have bx:be≠x:=jm0 hb hx (by intro z;cases z);have hbx:∀{u:HO},upd H1 x u be=some (.lst (ns.map V.int)):=λ{u}=>by rw[je bx];exact hb1
 refine ko λN hN=>⟨_,rfl,_,rfl,x,_,dx,_,rfl,hx1,T.j7,T.yh,(by show 0<1000;decide),hN _ _ ?_⟩;refine ko λN hN=>⟨_,rfl,be,_,rfl,.inl (SqL.of hbx),_,rfl,x,_,dx,_,rfl,ja,T.j7,T.ph,(by show 1<1000;decide),hN _ _ ?_⟩;rw[jkq,length_map];refine ko λN hN=>⟨_,rfl,_,rfl,x,_,dx,_,rfl,ja,T.j7,T.jcj,(by show 2<1000;decide),hN _ _ ?_⟩;rw[jkq];refine ko λN hN=>⟨_,rfl,_,rfl,x,_,dx,_,rfl,ja,T.j7,T.jgt,(by show 3<1000;decide),hN _ _ ?_⟩;rw[jkq];refine ko λN hN=>⟨_,rfl,_,rfl,be,_,pu,.int (gI ns pu),rfl,rfl,SqL.of hbx,jef hp.1 (by rw[getElem?_map,juz hp.1 hp.2];rfl),_,rfl,x,_,dx,_,rfl,ja,T.j7,T.jdu,(by show 4<1000;decide),hN _ _ ?_⟩;rw[jkq];obtain⟨u5,hu5⟩:∃u5,u5=HO.ins t.zk dx (vy "first" (.int (gI ns pu)) (vy "few" (.int fw) (vy "houses" (.int cr) (vy "purses" (.int ns.length) (vy "purse" (.int pu) []))))):=⟨_,rfl⟩;have s5:∀b u,H b=some u->b≠x->upd H1 x u5 b=some u:=λb u e n=>by rw[je n];exact s1 _ _ e
 rw[<-hu5];refine ko λN hN=>λOw nO=>?_;have Ox:Ow≠x:=λz=>by rw[z,ja]at nO;cases nO
 refine⟨_,rfl,x,_,dx,_,rfl,(by rw[je Ox.symm,ja,hu5]),T.j7,T.jaz,(by show 5<1000;decide),hN _ _ ?_⟩;refine λ Bq nB=>?_;have Bx:Bq≠x:=λz=>by rw[z,ja]at nB;cases nB
 have BO:Bq≠Ow:=λz=>by rw[z,je Ox,ja]at nB;cases nB
 refine⟨_,rfl,x,_,dx,_,rfl,(by rw[je Bx.symm,ja]),T.j7,T.gg,(by show 6<1000;decide),?_⟩;have nO1:H1 Ow=none:=by rw[je Ox]at nO;exact nO
 have nB1:H1 Bq=none:=by rw[je Bx,je BO,je Bx]at nB;exact nB
 refine k Ow Bq _ (s1.free nO1) (s1.free nB1) BO.symm (λb u e n=>?_) ja (by rw[je Ox,je BO.symm,je Ox,ja]) (by rw[je Bx,ja]);have e1:=s1 _ _ e;rw[je n,je (jj e1 nB1),je n,je (jj e1 nO1),je n];exact e1
noncomputable def j0d (xs:List Int)(o:O):List Int:=jbn (jbn xs o.p (-o.m)) o.g o.m
noncomputable def jzl (ns:List Int)(os:List O):List Int:=os.foldl j0d ns
theorem js0 {xs:List Int}{i j d:Int}(h0:0<=i)(h1:i<xs.length)(j0:0<=j):gI (jbn xs i d) j=if j=i then gI xs i+d else gI xs j:=by
 unfold jbn gI;by_cases z:j=i
 .subst z;rw[if_pos rfl,getElem?_set_self (by omega)];rfl
 .rw[if_neg z,getElem?_set_ne (by omega)]
noncomputable def ofP (p:Int)(os:List O):List O:=os.filter λo=>decide (o.p=p)
theorem jw0 (xs:List Int)(o:O):(j0d xs o).length=xs.length:=by unfold j0d;rw[jer,jer]
theorem jsy:∀(os:List O)(ns:List Int),(jzl ns os).length=ns.length
 |[],_=>rfl
 |o::os,ns=>(jsy os (j0d ns o)).trans (jw0 ns o)
noncomputable def inP (p:Int)(os:List O):Int:=((os.filter λo=>decide (o.g=p)).map (·.m)).sum
noncomputable def j39 (p:Int)(os:List O):Int:=((ofP p os).map (·.m)).sum
theorem jww {xs ys:List Int}(h:xs.Perm ys):xs.sum=ys.sum:=by
 induction h with
 |nil=>rfl
 |cons x _ ih=>rw[sum_cons,sum_cons,ih]
 |swap x y l=>rw[sum_cons,sum_cons,sum_cons,sum_cons];omega
 |trans _ _ a b=>exact a.trans b
theorem ju9 {α:Type}[DecidableEq α]:∀{xs ys:List α},xs.Nodup->ys.Nodup->(∀x,x∈xs↔x∈ys)->xs.Perm ys
 |[],[],_,_,_=>.nil
 |[],y::ys,_,_,h=>by cases(h y).mpr mem_cons_self
 | x::xs,ys,nx,ny,h=>by
  rw[nodup_cons]at nx;have hx:=(h x).mp mem_cons_self;refine .trans (.cons x (ju9 (ys:=ys.erase x) nx.2 (ny.erase x) λz=>?_)) (List.perm_cons_erase hx).symm;rw[ny.mem_erase_iff];constructor
  .exact λhz=>⟨λe=>nx.1 (e ▸ hz),(h z).mp (mem_cons_of_mem _ hz)⟩
  .rintro⟨ne,hz⟩
   rcases mem_cons.mp ((h z).mpr hz)with e|e
   .exact absurd e ne
   .exact e
theorem j5s {ns:List Int}{o:O}(ho:ye ns.length o=true){p:Int}(h0:0<=p):gI (j0d ns o) p=gI ns p+(if o.g=p then o.m else 0)-(if o.p=p then o.m else 0):=by
 obtain⟨p0,p1,g0,g1,png,_⟩:=jam.mp ho;unfold j0d;rw[js0 g0 (by rw[jer];omega) h0,js0 p0 (by omega) h0,js0 p0 (by omega) g0];have h1:¬o.g=o.p:=λz=>png z.symm;by_cases a:p=o.g
 .subst a;simp only[if_neg h1,if_neg png,↓reduceIte];omega
 .have a':¬o.g=p:=λz=>a z.symm;by_cases b:p=o.p
  .subst b;simp only[if_neg a,if_neg a',↓reduceIte];omega
  .have b':¬o.p=p:=λz=>b z.symm;simp only[if_neg a,if_neg a',if_neg b,if_neg b'];omega
theorem jxm {n:Nat}{p:Int}(h0:0<=p):∀{os:List O}{ns:List Int},ns.length=n->(∀o∈os,ye n o=true)->gI (jzl ns os) p=gI ns p+inP p os-j39 p os
 |[],ns,_,_=>by show gI ns p=gI ns p+0-0;omega
 |o::os,ns,l,h=>by
  have ih:=jxm h0 (os:=os) (ns:=j0d ns o) ((jw0 ns o).trans l) λu hu=>h u (mem_cons_of_mem _ hu);have e:=j5s (ns:=ns) (o:=o) (by rw[l];exact h o mem_cons_self) h0;show gI (jzl (j0d ns o) os) p=_;have e1:inP p (o::os)=(if o.g=p then o.m else 0)+inP p os:=by unfold inP;by_cases z:o.g=p<;>simp[z]
  have e2:j39 p (o::os)=(if o.p=p then o.m else 0)+j39 p os:=by unfold j39 ofP;by_cases z:o.p=p<;>simp[z]
  rw[ih,e,e1,e2];omega
noncomputable def jz7:Sp:=λvs H Q _=>∃Z a xs os b ns,vs=[.ref a,.ref b]/\H a=some (.lst xs)/\Paired (xi H Z) xs os/\(∀o∈os,ye (ns:List Int).length o=true)/\H b=some (.lst (ns.map V.int))/\∀r H',H r=none->vq H H'->H' r=some (.lst ((jzl ns os).map V.int))->Q (.ref r) H'
theorem jru (T:Txt K mg t):xj P w K mg base CX0 1 t.jgw t.jgi ["_law_orders","_law_begin"] jz7:=by
 refine T.jg2.okA vk λ_ A _ s H vs Q E hr h=>?_;obtain⟨Z,a,xs,os,b,ns,rfl,ha,px,ho,hb,k⟩:=h;refine⟨_,(@jb _ _ _ _ _ (j6 (i:=2) vk.nd rfl (Or.inl rfl) (jea jac rfl T.jm5 boot_list (jc (pv 1) jg))) (@jb _ _ _ _ _ (jo2 PassesOwn.never rfl (@jck _ _ _ _ (pv 0)) (jkl rfl (jy (ju (i:=3) vk.nd rfl (Or.inl rfl)) (jy (ju (i:=4) vk.nd rfl (Or.inl rfl)) (jy (ju (i:=5) vk.nd rfl (Or.inl rfl)) (jy (ju (i:=6) vk.nd rfl (Or.inl rfl)) jfo))))) (@jb _ _ _ _ _ (jhk (qy jek (ya yp (pv 2) (pv 3) (λ_ _=>rfl)) (pv 6)) (jwz (pv 2) (pv 3) set_list)) (@jd _ _ _ (jhk (qy jal (ya yp (pv 2) (pv 5) (λ_ _=>rfl)) (pv 6)) (jwz (pv 2) (pv 5) set_list))))) (@jd _ _ _ (jx (pv 2))))),?_⟩;refine⟨_,rfl,b,_,rfl,.inl (SqL.of hb),λr nr=>?_⟩;have ar:a≠r:=jj ha nr;have s1:=jf (o:=.lst (ns.map V.int)) nr;refine⟨_,rfl,a,rfl,⟨_,SqL.of (s1 _ _ ha)⟩,jmw (K:=K) (a:=a) (xs:=xs) (λi U H'=>∃v1 v2 v3 v4,U=[some (.ref a),some (.ref b),some (.ref r),v1,v2,v3,v4]/\vq H H'/\H' r=some (.lst ((jzl ns (os.take i)).map V.int))) ⟨none,none,none,none,rfl,s1,ja⟩ (λi U H' _ ⟨_,_,_,_,_,sm,_⟩=>SqL.of (sm _ _ ha)) ?_ ?_⟩
 .rintro i y U H' ey ⟨v1,v2,v3,v4,rfl,sm,hr'⟩
  obtain⟨o,eo,q,rfl,nq,hq⟩:=qg px ey;have hq':=sm _ _ hq;obtain⟨p0,p1,g0,g1,_⟩:=jam.mp (ho o (mem_of_getElem? eo));have et:jzl ns (os.take (i+1))=j0d (jzl ns (os.take i)) o:=by rw[take_snoc eo];unfold jzl;rw[List.foldl_append];rfl
  have l:=jsy (os.take i) ns;rw[et];generalize jzl ns (os.take i)=zs at hr' l;refine⟨q,_,rfl,SqT.of hq',rfl,_,_,rfl,_,_,rfl,_,_,rfl,_,_,rfl,rfl,?_⟩;have nrq:∀{u:HO}{G:Hp},vq H G->vq H (upd G r u):=λ{u G} sm b v e=>by rw[je (jj e nr)];exact sm _ _ e
  refine⟨_,rfl,_,rfl,r,_,o.p,.int (gI zs o.p),rfl,rfl,SqL.of hr',jef p0 (by rw[getElem?_map,juz p0 (by omega)];rfl),_,rfl,_,_,rfl,rfl,_,rfl,_,rfl,r,_,o.p,_,rfl,rfl,hr',jre p0 (by rw[length_map];omega),?_⟩;have m1:((zs.map V.int).set o.p.toNat (.int (gI zs o.p-o.m)))=(jbn zs o.p (-o.m)).map V.int:=by rw[jbn,map_set];rfl
  dsimp only;rw[m1];have sm1:=nrq (u:=.lst ((jbn zs o.p (-o.m)).map V.int)) sm;have hr1:upd H' r (.lst ((jbn zs o.p (-o.m)).map V.int)) r=_:=ja;have l1:(jbn zs o.p (-o.m)).length=ns.length:=(jer ..).trans l;generalize upd H' r (.lst ((jbn zs o.p (-o.m)).map V.int))=H1 at sm1 hr1;refine⟨_,rfl,_,rfl,r,_,o.g,.int (gI (jbn zs o.p (-o.m)) o.g),rfl,rfl,SqL.of hr1,jef g0 (by rw[getElem?_map,juz g0 (by omega)];rfl),_,rfl,_,_,rfl,rfl,_,rfl,_,rfl,r,_,o.g,_,rfl,rfl,hr1,jre g0 (by rw[length_map];omega),?_⟩;have m2:((jbn zs o.p (-o.m)).map V.int).set o.g.toNat (.int (gI (jbn zs o.p (-o.m)) o.g+o.m))=(j0d zs o).map V.int:=by rw[j0d,jbn.eq_def (jbn zs o.p (-o.m)),map_set]
  dsimp only;rw[m2];exact⟨_,_,_,_,rfl,nrq sm1,ja⟩
 .rintro U H' ⟨v1,v2,v3,v4,rfl,sm,hr'⟩
  rw[Paired.length px,take_length]at hr';exact⟨_,rfl,k r H' nr sm hr'⟩
theorem jx9 (T:Txt K mg t):xj P w K mg base CX0 1 t.jqm t.jqu ["_law_told_here","_law_due"] (λvs H Q _=>∃b:Bool,vs=[.bl b,.bl b]/\Q (.bl true) H):=by refine T.jpu.okB (N:=["_law_told_here","_law_due"]) λ_ A _ s H vs Q E hr h=>?_;obtain⟨b,rfl,k⟩:=h;refine⟨_,(@jd _ _ _ (jx (jhu (jn vc rfl T.jw boot_isinstance (@yk _ _ _ _ _ (pv 0) (jcn (v:=.ty "bool") rfl T.jw3 boot_bool rfl) rfl rfl)) (jid (ja2 jen (pv 0) (pv 1) (qc _)))))),?_⟩;refine⟨_,rfl,_,_,_,true,rfl,.bl _,rfl,_,rfl,jhy ?_⟩;refine⟨_,rfl,_,rfl,rfl,?_⟩;rw[decide_eq_true (rfl:V.bl b=V.bl b)];exact k
theorem jtb (T:Txt K mg t):xj P w K mg base CX0 1 t.jiq t.jiy ["_law_thing"] (λvs H Q _=>∃n,vs=[.int n]/\Q (.bl true) H):=by refine T.jio.okB (N:=["_law_thing"]) λ_ A _ s H vs Q E hr h=>?_;obtain⟨n,rfl,k⟩:=h;refine⟨_,(@jd _ _ _ (jx (jhu (jn vc rfl T.jw boot_isinstance (@yk _ _ _ _ _ (pv 0) (jcn (v:=.ty "int") rfl T.j5b boot_int rfl) rfl rfl)) (jid (j3o (jn vc rfl T.jw boot_isinstance (@yk _ _ _ _ _ (pv 0) (jcn (v:=.ty "bool") rfl T.jw3 boot_bool rfl) rfl rfl))))))),?_⟩;refine⟨_,rfl,_,_,_,true,rfl,.int _,rfl,_,rfl,jhy ?_⟩;exact⟨_,rfl,_,_,_,false,rfl,.int _,rfl,_,rfl,k⟩
noncomputable def ofG (p:Int)(os:List O):List O:=os.filter λo=>decide (o.g=p)
structure j99 (C:O->Bool)(n:Nat)(os:List O):Prop where
 nd:os.Nodup
 io:∀o∈os,ye n o=true
 un:∀o∈os,∀u∈os,plc o=plc u->o=u
theorem j2f {pu:Int}{n:Nat}{C:O->Bool}{os got:List O}(P:j99 C n os)(sub:∀u∈got,u∈os){o:O}(ho:o∈os):j5w pu (ofP pu got) (ofG pu got) o=(decide (pu=o.p\/pu=o.g)&&!decide (o∈got),ofP pu (if o∈got then got else got++[o]),ofG pu (if o∈got then got else got++[o])):=by
 have png:o.p≠o.g:=(jam.mp (P.io o ho)).2.2.2.2.1;have a1:o.p=pu->(o.n∈(ofP pu got).map (·.n)↔o∈got):=λe=>by
  constructor
  .intro h;obtain⟨u,hu,en⟩:=mem_map.mp h;obtain⟨h1,h2⟩:=mem_filter.mp hu;have:u=o:=P.un u (sub u h1) o ho (Prod.ext ((of_decide_eq_true h2).trans e.symm) en);exact this ▸ h1
  .exact λh=>mem_map_of_mem (mem_filter.mpr ⟨h,decide_eq_true e⟩)
 have a2:o.g=pu->(plc o∈(ofG pu got).map plc↔o∈got):=λe=>by
  constructor
  .intro h;obtain⟨u,hu,en⟩:=mem_map.mp h;obtain⟨h1,h2⟩:=mem_filter.mp hu;exact P.un u (sub u h1) o ho en ▸ h1
  .exact λh=>mem_map_of_mem (mem_filter.mpr ⟨h,decide_eq_true e⟩)
 unfold j5w;by_cases z:o.p=pu
 .have zg:¬o.g=pu:=λy=>png (z.trans y.symm);rw[if_pos z];by_cases y:o∈got
  .rw[if_pos ((a1 z).mpr y),if_pos y,decide_eq_true y];simp
  .rw[if_neg (λh=>y ((a1 z).mp h)),if_neg y,decide_eq_false y,decide_eq_true (.inl z.symm:pu=o.p\/pu=o.g)];unfold ofP ofG;rw[filter_append,filter_append];simp[z,zg]
 .rw[if_neg z];have z':¬pu=o.p:=λy=>z y.symm;by_cases y:o.g=pu
  .rw[if_pos y];by_cases x:o∈got
   .rw[if_pos ((a2 y).mpr x),if_pos x,decide_eq_true x];simp
   .rw[if_neg (λh=>x ((a2 y).mp h)),if_neg x,decide_eq_false x,decide_eq_true (.inr y.symm:pu=o.p\/pu=o.g)];unfold ofP ofG;rw[filter_append,filter_append];simp[z,y]
  .rw[if_neg y];have y':¬pu=o.g:=λx=>y x.symm;have e:decide (pu=o.p\/pu=o.g)=false:=decide_eq_false (not_or.mpr ⟨z',y'⟩);rw[e,Bool.false_and];by_cases x:o∈got
   .rw[if_pos x]
   .rw[if_neg x];unfold ofP ofG;rw[filter_append,filter_append];simp[z,y]
theorem j3y (p:Int)(os:List O):jyy (ofG p os)=inP p os:=rfl
theorem j1f (p:Int)(os:List O):jyy (ofP p os)=j39 p os:=rfl
theorem j7t (ns:List Int):∃m:Nat,m<=ns.length/\Fst ns (m:Int)/\((List.range (ns.length+1)).filter λ(i:Nat)=>decide ((i:Int)∉ns)).head?=some m:=by
 have ne:(List.range (ns.length+1)).filter (λ(i:Nat)=>decide ((i:Int)∉ns))≠[]:=λz=>by
  have:=yo (xs:=(List.range (ns.length+1)).map λ(i:Nat)=>(i:Int)) (ys:=ns) (List.Pairwise.map _ (λa b hab z=>hab (Int.ofNat.inj z)) nodup_range) λx hx=>by obtain⟨i,hi,rfl⟩:=mem_map.mp hx;have:=List.filter_eq_nil_iff.mp z i hi;simpa using this
  rw[length_map,length_range]at this;omega
 cases e:(List.range (ns.length+1)).filter (λ(i:Nat)=>decide ((i:Int)∉ns))with
 |nil=>exact absurd e ne
 |cons m r=>
  have hm:m∈(List.range (ns.length+1)).filter (λ(i:Nat)=>decide ((i:Int)∉ns)):=by rw[e];exact mem_cons_self
  obtain⟨h1,h2⟩:=mem_filter.mp hm;have lt:=mem_range.mp h1;refine⟨m,by omega,⟨by omega,of_decide_eq_true h2,λi i0 im=>Classical.byContradiction λnm=>?_⟩,rfl⟩;have hi:i.toNat∈(List.range (ns.length+1)).filter (λ(i:Nat)=>decide ((i:Int)∉ns)):=mem_filter.mpr ⟨mem_range.mpr (by omega),decide_eq_true (by rw[Int.toNat_of_nonneg i0];exact nm)⟩;have up:((List.range (ns.length+1)).filter λ(i:Nat)=>decide ((i:Int)∉ns)).Pairwise (·<·):=List.Pairwise.filter _ List.pairwise_lt_range;rw[e]at hi up;rw[List.pairwise_cons]at up;rcases mem_cons.mp hi with h|h
  .omega
  .have:=up.1 _ h;omega
noncomputable abbrev lsc (a To pa x:Addr)(cr few:Int)(fo ho be ro:Addr)(l:List (Option V)):St:=[some (.ref a),some (.ref To),some (.ref pa),some (.ref x),some (.int cr),some (.int few),some (.ref fo),some (.ref ho),some (.ref be),some (.ref ro)]++l
theorem Ps.same {Z:Rho}{H H':Hp}{pa x fo ho be ro:Addr}{jbt few:Int}{p:Pt}(s:vq H H')(h:Ps H Z pa x jbt few fo ho be ro p):Ps H' Z pa x jbt few fo ho be ro p:=h.fr (P:=λ_=>False) (Fr.same s)
noncomputable def jz2 (K:W.Frag):Sp:=λvs H Q _=>∃(a:Addr)(ns:List Int),vs=[.ref a]/\SqL K H a (ns.map V.int)/\ns.length<=63/\∀H',Q (.bl true) H'
theorem j04 {Z:Rho}{H:Hp}{L:List O}{C:O->Bool}(kr:OkR Z H):∀{vs:List V}{ts:List (List Int)},Paired (jyx H) vs ts->(∀t∈ts,∃o∈L,t=x9 o/\C o=true)->∃os,ts=os.map x9/\Paired (xi H Z) vs os/\∀o∈os,o∈L/\C o=true:=λ{vs ts} q h=>by
 induction q with
 |nil=>exact⟨[],rfl,.nil,λ_ z=>by cases z⟩
 |@cons v t vs ts a r ih=>obtain⟨a,ea,ha⟩:=a;obtain⟨o,oL,e,c⟩:=h _ mem_cons_self;obtain⟨os,e2,p,q⟩:=ih λt ht=>h t (mem_cons_of_mem _ ht);subst e;exact⟨o::os,by rw[e2];rfl,.cons ⟨a,ea,kr.tup ha,ha⟩ p,λu hu=>(mem_cons.mp hu).elim (λz=>z ▸ ⟨oL,c⟩) (q u)⟩
theorem jyb {is:xr}{en:Int}(nd:(is.map (·.1)).Nodup):(xo is en).Nodup:=List.Nodup.sublist (List.Sublist.map _ List.filter_sublist) nd
theorem j02 {ts:List (List Int)}{os:List O}{is:xr}{en:Int}(nd:(is.map (·.1)).Nodup)(q:ts.Perm (xo is en))(e:ts=os.map x9):os.Nodup/\∀o,o∈os↔x9 o∈xo is en:=by subst e;refine⟨List.Pairwise.of_map x9 (λa b h z=>h (congrArg x9 z)) (q.nodup_iff.mpr (jyb nd)),λo=>?_⟩;rw[<-q.mem_iff,mem_map];exact⟨λh=>⟨o,h,rfl⟩,λ⟨u,h,e⟩=>jl7 e ▸ h⟩
theorem jv7 {K:W.Frag}{H:Hp}{Z:Rho}{cr fw:Int}:∀{xs:List V}{os:List O},Paired (jr6 H Z cr fw) xs os->∃ds,xt K H ds xs/\jd8 ds<=20/\(ds=[]↔os=[])
 |_,_,.nil=>⟨[],by rw[xt],by simp[jd8],by simp⟩
 |_,_,.cons (b:=o) ⟨a,q,b,ss,e,p⟩ r=>by
  obtain⟨ds,h1,h2,_⟩:=jv7 (K:=K) r;obtain⟨_,e2,_,hq⟩:=p.q;cases e2;refine⟨.tup ([x9 o,ss].map jxo)::ds,?_,?_,by simp⟩
  .rw[xt];refine⟨_,_,rfl,?_,h1⟩;rw[qt];refine⟨a,_,e,SqT.of p.a.1,?_⟩;rw[map_cons,map_cons,map_nil,xt];refine⟨_,_,rfl,jr8 (ts:=x9 o) (SqT.of hq),?_⟩;rw[xt];exact⟨_,_,rfl,jr8 (SqT.of p.b.1),by rw[xt]⟩
  .rw[jd8,jj0];have:=jnk [x9 o,ss];omega
theorem jzw (ds:List Dt):eqD (.lst ds) (.lst [])=decide (ds=[]):=by
 cases ds with
 |nil=>simp[eqD,jri]
 |cons l ls=>simp[eqD,jri]
theorem jz6 {K:W.Frag}{H:Hp}{Z:Rho}{g:Addr}{gt:List V}{gs:List O}{pu:Int}{U:St}{Q:VK}(c e:Int)(cf ef:O->Int)(hc:∀o,atI (jna o) c=some (.int (cf o)))(he:∀o,atI (jna o) e=some (.int (ef o)))(hv:∀Q:VK,Q (.ref g) H->jyw 15 U H Q)(hb:jlz [none,some 12] U=[none,some (.int pu)])(un:H g=some (.lst gt))(po:Paired (xi H Z) gt gs)(lg:gs.length<=1000)(k:∀r,H r=none->Q (.ref r) (upd H r (.lst (((gs.filter λo=>decide (cf o=pu)).map ef).map V.int)))):tLc [none,some 12] (j1y K (jyw 15)) (jh5 0) (j5i (tOp rEq (tOp (j72 K) (jyw 0) (tC (.int c))) (jyw 1))) (tOp (j72 K) (jyw 0) (tC (.int e))) U H Q:=by
 have lx:=Paired.length po;unfold tLc j1y;refine hv _ ?_;refine⟨g,rfl,⟨_,SqL.of un⟩,?_⟩;rw[hb];refine jqh (K:=K) (a:=g) (xs:=gt) (λi ys U H'=>∃v,U=[v,some (.int pu)]/\H'=H/\ys=(((gs.take i).filter λo=>decide (cf o=pu)).map ef).map V.int) ⟨none,rfl,rfl,rfl⟩ ?_ ?_ ?_
 .rintro i ys U H' hi ⟨v,rfl,rfl,rfl⟩
  refine⟨SqL.of un,j1e ?_⟩;rw[length_map,length_map];have:=length_filter_le (λo=>decide (cf o=pu)) (gs.take i);rw[length_take]at this;omega
 .rintro i y ys U H' ey ⟨v,rfl,rfl,rfl⟩
  obtain⟨o,eo,q,rfl,_,hq⟩:=qg po ey;refine⟨_,rfl,q,_,c,.int (cf o),rfl,rfl,SqT.of hq,hc o,_,rfl,rfl,_,rfl,?_⟩;rw[take_snoc eo,filter_append,map_append,map_append];by_cases z:cf o=pu
  .rw[decide_eq_true (by rw[z]:V.int (cf o)=V.int pu)];refine jhy ⟨_,rfl,q,_,e,.int (ef o),rfl,rfl,SqT.of hq,he o,_,rfl,rfl,?_⟩;simp[z]
  .rw[decide_eq_false (λy=>z (V.int.inj y))];refine yq ⟨_,rfl,rfl,?_⟩;simp[z]
 .rintro ys U H' ⟨v,rfl,rfl,rfl⟩ r nr
  rw[lx,take_length];exact k r nr
theorem j54 {K:W.Frag}{H:Hp}{nl:Addr}{ns:List Int}{U:St}{Q:VK}(hv:∀Q:VK,Q (.ref nl) H->jyw 20 U H Q)(hb:jlz [none,some 20] U=[none,some (.ref nl)])(un:H nl=some (.lst (ns.map V.int)))(lg:ns.length<=1000)(k:∀r,H r=none->Q (.ref r) (upd H r (.lst (((List.range (ns.length+1)).filter λ(i:Nat)=>decide ((i:Int)∉ns)).map λ(i:Nat)=>V.int i)))):tLc [none,some 20] (j6m (vp (tOp (rI0 λi j=>.int (i+j)) (tCB (λxs H Q=>∃p ys,xs=[V.ref p]/\(SqL K H p ys\/SqT K H p ys)/\Q (V.int ys.length) H) (vp (jyw 20) jz1)) (tC (.int 1))) jz1)) (jh5 0) (j5i (tOp (rIn K true) (jyw 0) (jyw 1))) (jyw 0) U H Q:=by
 refine hv _ ?_;refine⟨nl,_,rfl,.inl (SqL.of un),_,_,rfl,rfl,?_⟩;rw[length_map];refine⟨_,rfl,by omega,by omega,?_⟩;rw[hb];refine jpd (lo:=0) (n:=((ns.length:Int)+1).toNat) (λi ys U H'=>∃v,U=[v,some (.ref nl)]/\H'=H/\ys=((List.range i).filter λ(i:Nat)=>decide ((i:Int)∉ns)).map λ(i:Nat)=>V.int i) ⟨none,rfl,rfl,rfl⟩ ?_ ?_ ?_
 .rintro i ys U H' hi ⟨v,rfl,rfl,rfl⟩
  refine j1e ?_;rw[length_map];have:=length_filter_le (λ(i:Nat)=>decide ((i:Int)∉ns)) (List.range i);rw[length_range]at this;omega
 .rintro i ys U H' hi ⟨v,rfl,rfl,rfl⟩
  have e0:(0:Int)+(i:Int)=i:=Int.zero_add _;rw[e0];refine⟨_,rfl,_,rfl,nl,_,rfl,.inl (SqL.of un),rfl,jcc _,_,rfl,?_⟩;rw[if_pos rfl,gc,List.range_succ,filter_append,map_append];by_cases z:(i:Int)∈ns
  .rw[decide_eq_true z];refine yq ⟨_,rfl,rfl,?_⟩;simp[z]
  .rw[decide_eq_false z];refine jhy ⟨_,rfl,_,rfl,rfl,?_⟩;simp[z]
 .rintro ys U H' ⟨v,rfl,rfl,rfl⟩ r nr
  rw[show((ns.length:Int)+1).toNat=ns.length+1 by omega];exact k r nr
structure Wst (t:Ad)(H:Hp)(Z:Rho)(W:WA)(Y:Wd)(p:Pt)(To R pa:Addr)(cr few:Int)(fo ho be ro x dx:Addr)(pu:Int)(Ow Bq rs g:Addr)(xs:List V)(us:List O)(gt:List V)(gs ow br:List O):Prop where
 s:Sw t H Z W Y 50 p To R
 b:Ps H Z pa W.x cr few fo ho be ro p
 w:jw7 t H Z x dx pu p.ns.length cr few (gI p.ns pu) Ow Bq ow br
 rs:H rs=some (.lst xs)/\Z rs=some (9,.own 2)
 px:Paired (jr6 H Z cr few) xs us
 g:Un H Z g gt
 po:Paired (xi H Z) gt gs
section
variable {t:Ad}{H H':Hp}{Z:Rho}{W:WA}{Y:Wd}{p:Pt}{To R pa:Addr}{cr few:Int}{fo ho be ro x dx:Addr}{pu:Int}{Ow Bq rs g:Addr}{xs:List V}{us:List O}{gt:List V}{gs ow br:List O}{P:Role->Prop}
theorem Wst.same (s:vq H H')(y:Wst t H Z W Y p To R pa cr few fo ho be ro x dx pu Ow Bq rs g xs us gt gs ow br):Wst t H' Z W Y p To R pa cr few fo ho be ro x dx pu Ow Bq rs g xs us gt gs ow br:=
 have f:Fr (λ_=>False) Z H Z H':=Fr.same s
 ⟨y.s.same s,y.b.fr f,y.w.same s,⟨s _ _ y.rs.1,y.rs.2⟩,Paired.vf y.px λ_ _ h=>h.fr f,y.g.fr f,Paired.vf y.po λ_ _ h=>h.fr f⟩
theorem Wst.draw (hT:jqs To R H')(k:jqy To R H H')(y:Wst t H Z W Y p To R pa cr few fo ho be ro x dx pu Ow Bq rs g xs us gt gs ow br):Wst t H' Z W Y p To R pa cr few fo ho be ro x dx pu Ow Bq rs g xs us gt gs ow br/\Fr jo7 Z H Z H':=by
 obtain⟨S,f⟩:=y.s.draw hT k;have n:∀j,2<=j->¬jo7 (9,.own j):=λj hj z=>by rcases z with z|z<;>(injection z with _ z;injection z with z;omega)
 exact⟨⟨S,y.b.fr f,y.w.fr f (n 4 (by decide)) (n 5 (by decide)),jch f y.rs.1 y.rs.2 (n 2 (by decide)),Paired.vf y.px λ_ _ h=>h.fr f,y.g.fr f,Paired.vf y.po λ_ _ h=>h.fr f⟩,f⟩
end
theorem mem_erase {us:List O}{k:Nat}{o u:O}(e:us[k]?=some o)(h:u∈us):u=o\/u∈us.eraseIdx k:=by
 obtain⟨j,hj⟩:=List.mem_iff_getElem?.mp h;by_cases z:j=k
 .rw[z,e]at hj;exact .inl (Option.some.inj hj).symm
 .exact .inr (List.mem_eraseIdx_iff_getElem?.mpr ⟨j,z,hj⟩)
section
variable {t:Ad}{H H':Hp}{Z:Rho}{W:WA}{Y:Wd}{p:Pt}{To R pa:Addr}{cr few:Int}{fo ho be ro x dx:Addr}{pu:Int}{Ow Bq rs g:Addr}{xs:List V}{us:List O}{gt:List V}{gs ow br ow' br':List O}
theorem Wst.pop (k:Nat)(y:Wst t H Z W Y p To R pa cr few fo ho be ro x dx pu Ow Bq rs g xs us gt gs ow br):Wst t (upd H rs (.lst (xs.eraseIdx k))) Z W Y p To R pa cr few fo ho be ro x dx pu Ow Bq rs g (xs.eraseIdx k) (us.eraseIdx k) gt gs ow br/\Fr (λr=>r=(9,.own 2)) Z H Z (upd H rs (.lst (xs.eraseIdx k))):=by
 have f:Fr (λr=>r=(9,.own 2)) Z H Z (upd H rs (.lst (xs.eraseIdx k))):=Fr.put y.rs.2 rfl;have n:∀j,j≠2->¬((9,.own j):Role)=(9,.own 2):=λj hj z=>by injection z with _ z;injection z with z;exact hj z
 obtain⟨t1,t2⟩:=jno f (n 0 (by decide)) (n 1 (by decide)) y.s.tn y.s.tr;exact⟨⟨⟨y.s.w.fr f (λq z=>by injection z with z _;cases z) y.s.w.kr.put,t1,t2⟩,y.b.fr f,y.w.fr f (n 4 (by decide)) (n 5 (by decide)),⟨ja,y.rs.2⟩,jo1 (Paired.vf y.px λ_ _ h=>h.fr f),y.g.fr f,Paired.vf y.po λ_ _ h=>h.fr f⟩,f⟩
theorem Wst.add (f:Fr j6t Z H Z H')(kr:OkR Z H')(w:jw7 t H' Z x dx pu p.ns.length cr few (gI p.ns pu) Ow Bq ow' br')(y:Wst t H Z W Y p To R pa cr few fo ho be ro x dx pu Ow Bq rs g xs us gt gs ow br):Wst t H' Z W Y p To R pa cr few fo ho be ro x dx pu Ow Bq rs g xs us gt gs ow' br':=by
 have n:∀j,j<4->¬j6t (9,.own j):=λj hj z=>by rcases z with z|z<;>(injection z with _ z;injection z with z;omega)
 obtain⟨t1,t2⟩:=jno f (n 0 (by decide)) (n 1 (by decide)) y.s.tn y.s.tr;exact⟨⟨y.s.w.fr f (λq z=>by rcases z with z|z<;>(injection z with z _;cases z)) kr,t1,t2⟩,y.b.fr f,w,jch f y.rs.1 y.rs.2 (n 2 (by decide)),Paired.vf y.px λ_ _ h=>h.fr f,y.g.fr f,Paired.vf y.po λ_ _ h=>h.fr f⟩
end
theorem jtl {H:Hp}{Z:Rho}{K:W.Frag}:∀{vs:List V}{os:List O},Paired (xi H Z) vs os->Paired (j0t K H) vs (os.map x9)
 |_,_,.nil=>.nil
 |_,_,.cons ⟨b,e,_,h⟩ r=>.cons ⟨b,e,SqT.of h⟩ (jtl r)
set_option maxHeartbeats 0 in
theorem j53 (T:Txt K mg t) : xj P w K mg base CX0 12 t.j4f t.j3x ["_law_script"] (jz2 K):=by
 refine T.j7k.okA (k:=11) yr λ_ A _ s H vs Q E hr h=>?_
 obtain ⟨a,ns,rfl,hS,hn,k⟩:=h
 refine ⟨_,(@jb _ _ _ _ _ (j6 (i:=1) yr.nd rfl (Or.inr rfl) (jm (jvl T) hr.dn rfl T.jp3 T.jk6.kp T.jq8 .nil jo (jc (pv 0) jg)))
  (@jb _ _ _ _ _ (j6 (i:=2) yr.nd rfl (Or.inl rfl) (jm (js8 T) hr.dn rfl T.joo T.jii.kp T.joq .nil jo (jc (pv 1) jg)))
  (@jb _ _ _ _ _ (jhk (pv 2) (jkl rfl (jy (ju (i:=3) yr.nd rfl (Or.inr rfl)) (jy (ju (i:=4) yr.nd rfl (Or.inl rfl)) (jy (ju (i:=5) yr.nd rfl (Or.inl rfl)) (jy (ju (i:=6) yr.nd rfl (Or.inl rfl)) (jy (ju (i:=7) yr.nd rfl (Or.inl rfl)) (jy (ju (i:=8) yr.nd rfl (Or.inl rfl)) (jy (ju (i:=9) yr.nd rfl (Or.inl rfl)) jfo)))))))))
  (@jb _ _ _ _ _ (jo2 PassesOwn.never rfl (jel rfl T.jjc (jc jk jg)) (ju (i:=10) yr.nd rfl (Or.inl rfl)) (@jd _ _ _ (qk (jm (jyc T) hr.dn rfl T.jt6 T.jp6.kp T.jvo .nil jo (@jlv _ _ _ _ _ _ _ (pv 1) (pv 2) jk rfl rfl rfl)))))
  (@jb _ _ _ _ _ (j6 (i:=11) yr.nd rfl (Or.inr rfl) (gk (N':=["_law_order_here","_law_world_here"]) (ix:=[none,some 3]) (xm (by kernel_rfl)) rfl (@jck _ _ _ _ (zy (pv 3) T.jl T.w9 (ja4 T) hr.dn T.kl .nil jo)) (λ_ _ _ _=>(ju (i:=0) j9f rfl (Or.inl rfl) (.inr rfl))) (λ_ _ _ _=>jnz) (λ_ _ _ _=>(qi (pv 1) T.jl T.jj3 (jrm T) hr.dn T.jm3 .nil jo (jc (pv 0) jg)))))
  (@jb _ _ _ _ _ (j6 (i:=12) yr.nd rfl (Or.inr rfl) (jm (j9 T) hr.dn rfl T.qe T.qb.kp T.qd .nil jo (@yk _ _ _ _ _ (pv 1) (jn jr rfl T.jbd boot_len (jc (pv 8) jg)) rfl rfl)))
  (@jb _ _ _ _ _ (j6 (i:=13) yr.nd rfl (Or.inl rfl) (jw2 T.jt3 (jmf T) hr.dn rfl T.jwv T.jej jo (jc (pv 12) jg) (yt (pv 8) (yt (pv 4) (yt (pv 5) jjb)))))
  (@jb _ _ _ _ _ (j6 (i:=14) yr.nd rfl (Or.inl rfl) (qy juw (pv 11) (gk (N':=["_law_k","_law_town_here","_law_papers"]) (ix:=[none,some 1,some 11]) (xm (by kernel_rfl)) rfl (jel rfl T.jjc (jc jk jg)) (λ_ _ _ _=>(ju (i:=0) j9k rfl (Or.inl rfl) (.inr rfl))) (λ_ _ _ _=>(jg8 (jv (j48 (K:=K) rfl hr.units) (pv 2) (@zf _ _ _ _ jg) (qc _)))) (λ_ _ _ _=>(jm (zi T) hr.dn rfl T.zr T.zb.kp T.zq .nil jo (@yk _ _ _ _ _ (pv 1) (pv 2) rfl rfl))))))
  (@jb _ _ _ _ _ (@j6 _ _ 15 _ _ _ _ yr.nd rfl (Or.inl rfl) (@zf _ _ _ _ jg) (by rfl) (by first | exact .inl rfl | exact .inr rfl))
  (@jb _ _ _ _ _ (jtg PassesOwn.never (jv (jmb hr.units) (pv 14) (@zf _ _ _ _ jg) (qc _)) (@jb _ _ _ _ _ (j6 (i:=16) yr.nd rfl (Or.inl rfl) (jjx PySem.F.plainAttrs_list PySem.F.slot_list_pop PySem.F.type_list_pop jxa (pv 14) (jc (jm (j9 T) hr.dn rfl T.qe T.qb.kp T.qd .nil jo (@yk _ _ _ _ _ (pv 1) (jn jr rfl T.jbd boot_len (jc (pv 14) jg)) rfl rfl)) jg)))
  (@jb _ _ _ _ _ (j6 (i:=17) yr.nd rfl (Or.inl rfl) (ya jdm (pv 16) jk (λ_ _=>rfl)))
  (@jb _ _ _ _ _ (j6 (i:=18) yr.nd rfl (Or.inl rfl) (ja2 jq5 (pv 12) (@jgb _ _ _ _ _ (@yk _ _ _ _ _ (ya jdm (pv 17) jk (λ_ _=>rfl)) (ya jdm (pv 17) jk (λ_ _=>rfl)) rfl rfl)) (by with_unfolding_all rfl)))
  (@jb _ _ _ _ _ (qv (qz (qr (jm (jx9 T) hr.dn rfl T.ju7 T.jpu.kp T.jue .nil jo (@yk _ _ _ _ _ (qi (pv 13) T.j7 T.jl5 (js4 T) hr.dn T.job .nil jo (jc (pv 16) jg)) (jhu (pv 18) (jid (ja2 (jp1 hr.units) (pv 17) (pv 15) (by with_unfolding_all rfl)))) rfl rfl)))) (@jd _ _ _ (jx jgd)) j4)
  (@jb _ _ _ _ _ (j6 (i:=15) yr.nd rfl (Or.inl rfl) (qy juw (pv 15) (jm7 (jv (jp1 hr.units) (pv 17) (pv 15) (by with_unfolding_all rfl)) (@zf _ _ _ _ (jc (pv 17) jg)) (@zf _ _ _ _ jg))))
  (@jb _ _ _ _ _ (j6 (i:=19) yr.nd rfl (Or.inl rfl) (qy jal (ya yp (pv 8) (pv 12) (λ_ _=>rfl)) (jn (jmn rfl) rfl T.jyt boot_sum (jc (gk (N':=["_law_one","_law_purse"]) (ix:=[none,some 12]) (xm (by kernel_rfl)) rfl (@jck _ _ _ _ (pv 15)) (λ_ _ _ _=>(ju (i:=0) j9d rfl (Or.inl rfl) (.inr rfl))) (λ_ _ _ _=>(jg8 (jv jen (ya (jir (K:=K) rfl) (pv 0) jk (λ_ _=>rfl)) (pv 1) (qc _)))) (λ_ _ _ _=>(ya (jir (K:=K) rfl) (pv 0) jk (λ_ _=>rfl)))) jg))))
  (@jb _ _ _ _ _ (j6 (i:=19) yr.nd rfl (Or.inl rfl) (qy jek (pv 19) (jn (jmn rfl) rfl T.jyt boot_sum (jc (gk (N':=["_law_one","_law_purse"]) (ix:=[none,some 12]) (xm (by kernel_rfl)) rfl (@jck _ _ _ _ (pv 15)) (λ_ _ _ _=>(ju (i:=0) j9g rfl (Or.inl rfl) (.inr rfl))) (λ_ _ _ _=>(jg8 (jv jen (ya (jir (K:=K) rfl) (pv 0) jk (λ_ _=>rfl)) (pv 1) (qc _)))) (λ_ _ _ _=>(ya (jir (K:=K) rfl) (pv 0) jk (λ_ _=>rfl)))) jg))))
  (@jb _ _ _ _ _ (qv (PW.pt (jhx (jv jx7 (zy (pv 13) T.j7 T.ja5 (jc8 T) hr.dn T.jb9 .nil jo) (pv 19) (qc _)) (jb4 (qz (qr (jm (jtb T) hr.dn rfl T.joa T.jio.kp T.joj .nil jo (jc (zy (pv 13) T.j7 T.ja5 (jc8 T) hr.dn T.jb9 .nil jo) jg))))))) (@jd _ _ _ (jx jgd)) j4)
  (@jb _ _ _ _ _ (j6 (i:=20) yr.nd rfl (Or.inr rfl) (gk (N':=["_law_one","_law_purse"]) (ix:=[none,some 12]) (xm (by kernel_rfl)) rfl (@jck _ _ _ _ (pv 15)) (λ_ _ _ _=>(ju (i:=0) j8d rfl (Or.inl rfl) (.inr rfl))) (λ_ _ _ _=>(jg8 (jv jen (ya (jir (K:=K) rfl) (pv 0) jk (λ_ _=>rfl)) (pv 1) (qc _)))) (λ_ _ _ _=>(ya (jir (K:=K) rfl) (pv 0) jk (λ_ _=>rfl)))))
  (@jb _ _ _ _ _ (j6 (i:=21) yr.nd rfl (Or.inl rfl) (ya yp (gk (N':=["_law_k","_law_numbers"]) (ix:=[none,some 20]) (xm (by kernel_rfl)) rfl (jel rfl T.jjc (jc (qy jal (jn jr rfl T.jbd boot_len (jc (pv 20) jg)) jk) jg)) (λ_ _ _ _=>(ju (i:=0) qbf rfl (Or.inl rfl) (.inr rfl))) (λ_ _ _ _=>(jg8 (jv (jhd (K:=K) rfl) (pv 0) (pv 1) (by with_unfolding_all rfl)))) (λ_ _ _ _=>(pv 0))) jk (λ_ _=>rfl)))
  (@jb _ _ _ _ _ (qv (jv jx7 (zy (pv 13) T.j7 T.wg (jb3 T) hr.dn T.kb .nil jo) (pv 21) (qc _)) (@jd _ _ _ (jx jgd)) j4)
  (@jb _ _ _ _ _ (j6 (i:=22) yr.nd rfl (Or.inl rfl) (qy jkn (qy jal (qy jal (pv 12) jk) (jm (j9 T) hr.dn rfl T.qe T.qb.kp T.qd .nil jo (@yk _ _ _ _ _ (pv 1) (qy jek (jn jr rfl T.jbd boot_len (jc (pv 8) jg)) jk) rfl rfl))) (jn jr rfl T.jbd boot_len (jc (pv 8) jg))))
  (@jb _ _ _ _ _ (j6 (i:=23) yr.nd rfl (Or.inl rfl) (jn (jza rfl) rfl T.j6f boot_min (@yk _ _ _ _ _ (pv 19) jk rfl rfl)))
  (@jd _ _ _ (qv (PW.pt (jkk (jv jvz (pv 19) jk (qc _)) (jgr (jv (jmb hr.units) (qi (pv 13) T.j7 T.ji4 (jpt T) hr.dn T.jkd .nil jo (@yk _ _ _ _ _ (pv 22) (pv 23) rfl rfl)) (@jgb _ _ _ _ _ (@j71 _ _ _ _ _ _ _ _ _ (pv 12) (pv 21) (pv 22) (pv 23) rfl rfl rfl rfl)) (qc _))))) (@jd _ _ _ (jx jgd)) j4))))))))))))))))
  (@jd _ _ _ (jx (jhu (ja2 jen (zy (pv 13) T.j7 T.ja5 (jc8 T) hr.dn T.jb9 .nil jo) (ya yp (jm (jru T) hr.dn rfl T.jmu T.jg2.kp T.jmm .nil jo (@yk _ _ _ _ _ (zy (pv 3) T.jl T.w9 (ja4 T) hr.dn T.kl .nil jo) (pv 8) rfl rfl)) (pv 12) (λ_ _=>rfl)) (qc _)) (jid (ja2 (j6w hr.units) (pv 8) (ya jdm (pv 2) jk (λ_ _=>rfl)) (qc _)))))))))))))))),?_⟩
 refine ko λN hN=>⟨_,rfl,a,ns,rfl,hS,λTo R H1 nT nR s1 hT=>?_⟩
 have hTR:To ≠ R:=hT.ne
 obtain ⟨Z0,hZ0⟩ : ∃ Z0:Rho,Z0 = jad (jad (λ_=>none) R (9,.own 1)) To (9,.own 0):=⟨_,rfl⟩
 have S0:Tw H1 Z0 To R:=by
  obtain ⟨row,c,t1,t2,t3⟩:=hT
  refine ⟨?_,⟨row,c,t1,t2,t3⟩,?_⟩
  .rw [hZ0]
   exact OkR.jad (OkR.jad (λ_ _ z=>by cases z) t2 True.intro) t1 True.intro
  .rw [hZ0]
   exact ⟨qx,by rw [zd hTR.symm,qx]⟩
 refine hN _ _ (ko λN hN=>⟨_,rfl,Z0,To,R,rfl,S0,λZ1 H2 W Y0 pa cr few fo ho be ro p ok S1 B1=>?_⟩)
 refine hN _ _ (ko λN hN=>⟨_,rfl,pa,_,rfl,SqT.of B1.tp.1,rfl,_,_,rfl,_,_,rfl,_,_,rfl,_,_,rfl,_,_,rfl,_,_,rfl,_,_,rfl,rfl,?_⟩)
 have nilU : ∀ {HB e},HB e = none -> qt K (upd HB e (.lst [])) (.lst []) (.ref e):=λn=>by
  rw [qt]
  exact ⟨_,[],rfl,SqL.of ja,by rw [xt]⟩
 have l2:=ok.l2
 have l8:=ok.l8
 refine hN _ _ (ko λN hN=>⟨50,rfl,by decide,by decide,jt2 (lo:=0) (n:=50) (λi U H'=>∃ Z Y v1,U = lsc a To pa W.x cr few fo ho be ro (v1 :: List.replicate 13 none) /\ Sw t H' Z W Y i p To R /\ Ps H' Z pa W.x cr few fo ho be ro p) ⟨Z1,Y0,none,rfl,S1,B1⟩ ?_ ?_⟩)
 .rintro i U H3 hi ⟨Z,Y,v1,rfl,S3,B3⟩
  exact ⟨_,rfl,_,rfl,Z,W,Y,i,p,To,R,pa,cr,few,fo,ho,be,ro,6,rfl,S3,B3,ok,by omega,λZ' H' Y' v S' f' _=>⟨Z',Y',_,rfl,S',B3.fr f'⟩⟩
 rintro U H3 ⟨Z,Y,v1,rfl,S3,B3⟩
 obtain ⟨L,gn,sk⟩:=S3.w.g
 have z0:=gn.l
 have bl:=gn.sz.bd
 have bne : ∀ x ∈ Y.bd,x.1 ≠ []:=λx hx z=>by
  obtain ⟨o,_,e⟩:=gn.g.b.ks x hx
  rw [e] at z
  cases z
 refine hN _ _ (ko λN hN=>⟨_,rfl,W.x,W.dx,_,rfl,S3.w.o.ob.1,xw,Z,0,W,Y,rfl,S3.w.o,by omega,gn.g.b.nd,bne,λpp vs4 ts H4 npp s4 q1 q3 h4=>?_⟩)
 obtain ⟨os,eos,px,hos⟩:=j04 (C:=Y.carried) (L:=L) (S3.w.kr.same s4) q3 λu hu=>gn.jqq (q1.mem_iff.mp hu)
 obtain ⟨ond,omem⟩:=j02 gn.g.b.nd q1 eos
 have lsig : ∀ o,(jz Y.bd (x9 o)).length < 64:=λo=>by
  have h1:=yo (gn.jn0 o).1 (gn.jn0 o).2
  rw [S3.w.h,length_append] at h1
  have h2:=ok.h1
  have h3:=ok.ll
  omega
 have hen : Y.en = cr - few:=S3.w.en.trans B3.ce.symm
 have he2:((Y.ks.length + 2 * p.ls.length:Nat) : Int) < 2 * Y.en:=by
  have h1:=ok.he
  have h2:=congrArg List.length S3.w.h
  rw [length_map] at h2
  rw [S3.w.en]
  omega
 have PP:j99 Y.carried p.ns.length os:=⟨ond,λo ho=>by rw [<- S3.w.n]; exact gn.lo o (hos o ho).1,λo ho u hu e=>jy8 gn sk he2 (hos o ho).2 (hos u hu).2 e⟩
 have l4:=Paired.length px
 have los:os.length <= 60:=by
  have:=yo ond λo ho=>(hos o ho).1
  omega
 refine ⟨pp,rfl,⟨_,SqL.of h4⟩,jqh (K:=K) (a:=pp) (xs:=vs4) (λi ys U H'=>∃ v,U = [v,some (.ref W.x)] /\ vq H4 H' /\ Paired (jr6 H' Z cr few) ys (os.take i)) ⟨none,rfl,vq.refl _,.nil⟩ ?_ ?_ ?_⟩
 .rintro i ys U H' hi ⟨v,rfl,sm,pap⟩
  refine ⟨SqL.of (sm _ _ h4),j1e ?_⟩
  rw [Paired.length pap,length_take]
  omega
 .rintro i y ys U H' ey ⟨v,rfl,sm,pap⟩
  obtain ⟨o,eo,q,rfl,nq,hq⟩:=qg px ey
  have oin:=mem_of_getElem? eo
  have O5:=(S3.same (s4.trans sm)).w
  dsimp only [jh5,j4s]
  rw [if_pos rfl]
  refine ⟨_,rfl,W.x,W.dx,_,rfl,O5.o.ob.1,xw,_,rfl,Z,0,W,Y,q,o,rfl,O5.o,sm _ _ hq,gn.lo o (hos o oin).1,(hos o oin).2,lsig o,λa' b' ss H6 na nb s6 ha hb pm up=>⟨_,rfl,sm.trans s6,?_⟩⟩
  rw [take_snoc eo]
  have hl:=of_decide_eq_true (hos o oin).2
  refine qq (Paired.vf pap λ_ _ h=>h.fr (P:=λ_=>False) (Fr.same s6)) ⟨a',q,b',ss,rfl,⟨ha,O5.kr.none na⟩,⟨q,rfl,nq,s6 _ _ (sm _ _ hq)⟩,⟨hb,O5.kr.none nb⟩,(up.and (pm.nodup_iff.mpr (gn.jn0 o).1)).imp λh=>Int.lt_iff_le_and_ne.mpr h,λk hk=>B3.hr k (by rw [<- S3.w.h]; exact (gn.jn0 o).2 k (pm.mem_iff.mp hk)),?_⟩
  rw [pm.length_eq]
  omega
 rintro ys U H5 ⟨v,rfl,sm,pap⟩ pl npl
 rw [l4,take_length] at pap
 have s6:=(s4.trans sm).trans (jf (o:=.lst ys) npl)
 have S6:=S3.same s6
 have B6:=B3.same s6
 have U6:Un (upd H5 pl (.lst ys)) Z pl ys:=⟨ja,(S3.same (s4.trans sm)).w.kr.none npl⟩
 have pap6:Paired (jr6 (upd H5 pl (.lst ys)) Z cr few) ys os:=Paired.vf pap λ_ _ h=>h.fr (P:=λ_=>False) (Fr.same (jf npl))
 generalize upd H5 pl (.lst ys) = H6 at s6 S6 B6 U6 pap6
 refine hN _ _ (ko λN hN=>⟨_,rfl,_,rfl,be,_,rfl,.inl (SqL.of B6.be.1),To,R,_,rfl,S6.tn,by rw [length_map]; omega,by rw [length_map]; omega,λpu H7 p0 p1 hT7 k7=>?_⟩)
 rw [length_map] at p1
 obtain ⟨S7,f7⟩:=S6.draw hT7 k7
 have B7:=B6.fr f7
 have U7:=U6.fr f7
 have pap7:Paired (jr6 H7 Z cr few) ys os:=Paired.vf pap6 λ_ _ h=>h.fr f7
 refine hN _ _ (ko λN hN=>⟨_,rfl,_,rfl,_,rfl,_,rfl,λx dx nx ndx ne=>?_⟩)
 have nx1:upd H7 dx (.own x) x = none:=by rw [je ne.symm]; exact nx
 have s8:=(jf (o:=.own x) ndx).trans (jf (o:=.ins t.zk dx []) nx1)
 refine ⟨x,dx,pu,be,cr,few,p.ns,rfl,ja,s8 _ _ B7.be.1,l2,l8,B7.nr,⟨p0,p1⟩,B7.cb.1,B7.cb.2,λOw Bq H9 nO nB OB s9 hx hO hB=>⟨rfl,?_⟩⟩
 have s79:vq H7 H9:=λb u e=>s9 b u (s8 b u e) (jj e nx)
 have nO7:=s8.free nO
 have nB7:=s8.free nB
 have xO:x ≠ Ow:=λz=>by rw [<- z,ja] at nO; cases nO
 have xB:x ≠ Bq:=λz=>by rw [<- z,ja] at nB; cases nB
 obtain ⟨Z9,hZ9⟩ : ∃ Z9:Rho,Z9 = jad (jad Z Ow (9,.own 4)) Bq (9,.own 5):=⟨_,rfl⟩
 have f9:Fr (λ_=>False) Z H7 Z9 H9:=λb u e _=>⟨s79 b u e,by rw [hZ9,zd (jj e nB7),zd (jj e nO7)]⟩
 have kr9:OkR Z9 H9:=by
  rw [hZ9]
  exact OkR.jad (OkR.jad (S7.w.kr.same s79) hO True.intro) hB True.intro
 have T9:=jno f9 (λz=>z) (λz=>z) S7.tn S7.tr
 have S9:Sw t H9 Z9 W Y 50 p To R:=⟨S7.w.fr f9 (λ_ z=>z) kr9,T9.1,T9.2⟩
 have B9:=B7.fr f9
 have U9:=U7.fr f9
 have pap9:Paired (jr6 H9 Z9 cr few) ys os:=Paired.vf pap7 λ_ _ h=>h.fr f9
 have W9:jw7 t H9 Z9 x dx pu p.ns.length cr few (gI p.ns pu) Ow Bq [] []:=⟨⟨hx,by rw [hZ9,zd xB,zd xO]; exact S7.w.kr.none nx⟩,⟨by rw [hZ9,zd OB,qx],[],hO,.nil⟩,⟨by rw [hZ9,qx],[],hB,.nil⟩⟩
 clear hZ9 f9 T9 s9 s79 s8 nx1 pap7 U7 B7 S7 pap6 U6 B6 s6 pap
 have nTn : ∀ j,2 <= j -> ¬ jo7 (9,.own j):=λj hj z=>by rcases z with z | z <;> (injection z with _ z; injection z with z; omega)
 refine hN _ _ (ko λN hN=>⟨_,rfl,3,rfl,by decide,by decide,jpd (lo:=0) (n:=3) (λi zs U H'=>∃ v us,U = [v,some (.ref To),some (.ref pl)] /\ Sw t H' Z9 W Y 50 p To R /\ Fr jo7 Z9 H9 Z9 H' /\ zs.length <= i /\ Paired (jr6 H' Z9 cr few) zs us /\ ∀ u ∈ us,u ∈ os) ⟨none,[],rfl,S9,Fr.refl,le_refl _,.nil,λ_ z=>by cases z⟩ ?_ ?_ ?_⟩)
 .rintro i zs U H' hi ⟨v,us,rfl,_,_,lz,_⟩
  exact j1e (by omega)
 .rintro i zs U H' hi ⟨v,us,rfl,S10,f10,lz,pz,hz⟩
  have U10:=U9.fr f10
  refine ⟨_,rfl,zs0,λe ne=>?_⟩
  have s11:=jf (o:=.lst []) ne
  have S11:=S10.same s11
  have f11:Fr jo7 Z9 H9 Z9 _:=f10.trans (Fr.same s11)
  have U11:=U9.fr f11
  have pap11:Paired (jr6 (upd H' e (.lst [])) Z9 cr few) ys os:=Paired.vf pap9 λ_ _ h=>h.fr f11
  have pz11:Paired (jr6 (upd H' e (.lst [])) Z9 cr few) zs us:=Paired.vf pz λ_ _ h=>h.fr (P:=λ_=>False) (Fr.same s11)
  obtain ⟨ds,d1,d2,d3⟩:=jv7 (K:=K) pap11
  refine ⟨.lst ds,.lst [],by rw [qt]; exact ⟨pl,ys,rfl,SqL.of U11.1,d1⟩,nilU ne,by rw [jj0]; omega,_,rfl,?_⟩
  rw [jzw]
  by_cases z:ds = []
  .rw [decide_eq_true z]
   exact yq ⟨_,us,rfl,S11,f11,by omega,pz11,hz⟩
  .rw [decide_eq_false z]
   have nos:os ≠ []:=λy=>z (d3.mpr y)
   have lp:=Paired.length pap11
   have l0:=length_pos_iff.mpr nos
   obtain ⟨n1,n2⟩:=U11.neT S11
   refine jhy ⟨_,rfl,_,rfl,To,R,pl,ys,rfl,S11.tn,U11.1,n1,n2,by omega,by omega,λj y H12 ej hT12 k12=>?_⟩
   obtain ⟨S12,f12⟩:=S11.draw hT12 k12
   obtain ⟨o,eo,py⟩:=qg pap11 ej
   refine ⟨_,us ++ [o],rfl,S12,f11.trans f12,by rw [length_append]; show _ + 1 <= _; omega,qq (Paired.vf pz11 λ_ _ h=>h.fr f12) (py.fr f12),λu hu=>?_⟩
   rcases mem_append.mp hu with hu | hu
   .exact hz u hu
   .rw [mem_singleton.mp hu]
    exact mem_of_getElem? eo
 rintro zs U H10 ⟨v,us,rfl,S10,f10,lz,pz,hz⟩ zl nzl
 have U10:=U9.fr f10
 have lp:=Paired.length pap9
 refine ⟨pl,zl,ys,zs,rfl,rfl,jf nzl _ _ U10.1,ja,j1e (by omega),λrs nrs=>?_⟩
 have f12:Fr (λ_=>False) Z9 H10 (jad Z9 rs (9,.own 2)) (upd (upd H10 zl (.lst zs)) rs (.lst (ys ++ zs))):=(Fr.same (jf nzl)).trans (Fr.jnh nrs)
 have kr12:OkR (jad Z9 rs (9,.own 2)) (upd (upd H10 zl (.lst zs)) rs (.lst (ys ++ zs))):=(S10.w.kr.same (jf nzl)).jnh
 have r12:jad Z9 rs (9,.own 2) rs = some (9,.own 2):=qx
 have h12:upd (upd H10 zl (.lst zs)) rs (.lst (ys ++ zs)) rs = some (.lst (ys ++ zs)):=ja
 generalize upd (upd H10 zl (.lst zs)) rs (.lst (ys ++ zs)) = H12 at f12 kr12 h12
 generalize jad Z9 rs (9,.own 2) = Z2 at f12 kr12 r12
 have T12:=jno f12 (λz=>z) (λz=>z) S10.tn S10.tr
 have S12:Sw t H12 Z2 W Y 50 p To R:=⟨S10.w.fr f12 (λ_ z=>z) kr12,T12.1,T12.2⟩
 have B12:=(B9.fr f10).fr f12
 have W12:=(W9.fr f10 (nTn 4 (by decide)) (nTn 5 (by decide))).fr f12 (λz=>z) (λz=>z)
 have pap12:Paired (jr6 H12 Z2 cr few) (ys ++ zs) (os ++ us):=jsc (Paired.vf pap9 λ_ _ h=>(h.fr f10).fr f12) (Paired.vf pz λ_ _ h=>h.fr f12)
 refine hN _ _ (ko λN hN=>⟨zs0,λg ng=>?_⟩)
 have y0:Wst t (upd H12 g (.lst [])) Z2 W Y p To R pa cr few fo ho be ro x dx pu Ow Bq rs g (ys ++ zs) (os ++ us) [] [] [] []:=
  have s:=jf (o:=.lst []) ng
  have f:Fr (λ_=>False) Z2 H12 Z2 _:=Fr.same s
  ⟨S12.same s,B12.fr f,W12.same s,⟨s _ _ h12,r12⟩,Paired.vf pap12 λ_ _ h=>h.fr f,⟨ja,kr12.none ng⟩,.nil⟩
 have lxs:(ys ++ zs).length <= 100:=by rw [length_append]; omega
 generalize upd H12 g (.lst []) = H13 at y0
 clear S12 B12 W12 pap12 h12 r12 kr12 f12 T12 S10 S9 B9 U9 pap9 W9 f10 U10 pz kr9
 refine hN _ _ (ko λN hN=>jsz (λU H'=>∃ g gt gs xs us w1 w2 w3 w4 w5 w6 w7 w8,U = lsc a To pa W.x cr few fo ho be ro [v1,some (.ref pl),some (.int pu),some (.ref x),some (.ref rs),some (.ref g),w1,w2,w3,w4,w5,w6,w7,w8] /\ Wst t H' Z2 W Y p To R pa cr few fo ho be ro x dx pu Ow Bq rs g xs us gt gs (ofP pu gs) (ofG pu gs) /\ xs.length <= 100 /\ gs.Nodup /\ (∀ u ∈ gs,u ∈ os) /\ (∀ u ∈ us,u ∈ os) /\ ∀ u ∈ os,u ∈ gs \/ u ∈ us) (λ_ H'=>match H' rs with | some (.lst xs)=>xs.length | _=>0) ⟨g,[],[],_,_,none,none,none,none,none,none,none,none,rfl,y0,lxs,nodup_nil,(λ_ z=>by cases z),(λu hu=>(mem_append.mp hu).elim id (hz u)),λu hu=>.inr (mem_append_left _ hu)⟩ ?_ ?_)
 rotate_left
 .intro U H Q Q' hQ h
  obtain ⟨v,e1,sz,h⟩:=h
  exact ⟨v,e1,sz,λe ne=>let ⟨d,d',h1,h2,h3,c,h4,h5⟩:=h e ne; ⟨d,d',h1,h2,h3,c,h4,hQ _ _ h5⟩⟩
 clear y0 lxs hz lz
 rintro U H1 ⟨g,gt,gs,xs,us,w1,w2,w3,w4,w5,w6,w7,w8,rfl,y,lxs,gnd,gos,uos,all⟩
 refine ⟨_,rfl,zs0,λe ne=>?_⟩
 have hx1:=y.rs.1
 have y1:=y.same (jf (o:=.lst []) ne)
 obtain ⟨ds,d1,d2,d3⟩:=jv7 (K:=K) y1.px
 refine ⟨.lst ds,.lst [],by rw [qt]; exact ⟨rs,xs,rfl,SqL.of y1.rs.1,d1⟩,nilU ne,by rw [jj0]; omega,_,rfl,?_⟩
 rw [jzw]
 generalize upd H1 e (.lst []) = H2 at y1
 clear y d1
 by_cases z:ds = []
 .rw [decide_eq_true z]
  have ue:=d3.mp z
  subst ue
  refine yq (hN _ _ ?_)
  have lg:gs.length <= 60:=by have:=yo gnd gos; omega
  have lP:(ofP pu gs).length <= 1000:=by have:=length_filter_le (λo:O=>decide (o.p = pu)) gs; unfold ofP; omega
  have lG:(ofG pu gs).length <= 1000:=by have:=length_filter_le (λo:O=>decide (o.g = pu)) gs; unfold ofG; omega
  refine ⟨_,rfl,x,dx,_,rfl,y1.w.ob.1,jwa _ _ _ _ _ _ _ (by decide +kernel),Z2,x,dx,pu,_,cr,few,_,Ow,Bq,_,_,rfl,y1.w,lP,lG,λH3 s3=>?_⟩
  have y3:=y1.same s3
  refine ⟨_,rfl,W.x,W.dx,_,rfl,y3.s.w.o.ob.1,xw,Z2,0,W,Y,rfl,y3.s.w.o,by omega,gn.g.b.nd,bne,λpq vsq tsq H4' npq s4' q1' q3' h4'=>?_⟩
  have y4:=y3.same s4'
  obtain ⟨os2,eos2,px2,hos2⟩:=j04 (C:=Y.carried) (L:=L) y4.s.w.kr q3' λu hu=>gn.jqq (q1'.mem_iff.mp hu)
  obtain ⟨ond2,omem2⟩:=j02 gn.g.b.nd q1' eos2
  have pm:gs.Perm os2:=ju9 gnd ond2 λu=>by
   rw [omem2,<- omem]
   exact ⟨gos u,λh=>(all u h).resolve_right λz=>by cases z⟩
  have io2 : ∀ o ∈ os2,ye p.ns.length o = true:=λo ho=>PP.io o (by rw [omem,<- omem2]; exact ho)
  refine ⟨_,rfl,Z2,pq,vsq,os2,be,p.ns,rfl,h4',px2,io2,y4.b.be.1,λr H5 nr s5 h5=>?_⟩
  have y5:=y4.same s5
  have lpd:=jsy os2 p.ns
  refine ⟨_,rfl,r,_,pu,.int (gI (jzl p.ns os2) pu),rfl,rfl,SqL.of h5,jef p0 (by rw [getElem?_map,juz p0 (by omega)]; rfl),rfl,?_⟩
  have ee:gI (jzl p.ns os2) pu = gI p.ns pu + jyy (ofG pu gs) - jyy (ofP pu gs):=by
   have e1:inP pu gs = inP pu os2:=jww ((pm.filter _).map _)
   have e2:j39 pu gs = j39 pu os2:=jww ((pm.filter _).map _)
   rw [jxm p0 rfl io2,j3y,j1f,e1,e2]
  rw [ee,decide_eq_true (rfl:V.int (gI p.ns pu + jyy (ofG pu gs) - jyy (ofP pu gs)) = _)]
  refine ⟨_,rfl,jhy ⟨_,rfl,_,rfl,pa,_,5,.ref be,rfl,rfl,SqT.of y5.b.tp.1,rfl,_,_,jbj (SqL.of y5.b.be.1),jbj (SqL.of y5.b.be.1),jh4 _,?_⟩⟩
  rw [jt0,decide_eq_true (rfl:p.ns = p.ns)]
  exact k _
 rw [decide_eq_false z]
 have une:us ≠ []:=λy=>z (d3.mpr y)
 have u0:=length_pos_iff.mpr une
 have lxu:=Paired.length y1.px
 refine jhy (ko λN' hN'=>⟨_,rfl,.inl ⟨rfl,_,SqL.of y1.rs.1⟩,_,rfl,_,rfl,rs,_,rfl,.inl (SqL.of y1.rs.1),To,R,_,rfl,y1.s.tn,by omega,by omega,λd H3 d0 d1 hT3 k3=>?_⟩)
 obtain ⟨y3,f3⟩:=y1.draw hT3 k3
 obtain ⟨v,ev⟩ : ∃ v,xs[d.toNat]? = some v:=⟨_,getElem?_eq_getElem (by omega)⟩
 obtain ⟨o,eo,pv⟩:=qg y3.px ev
 have oin:o ∈ os:=uos o (mem_of_getElem? eo)
 refine ⟨rs,xs,d,d.toNat,v,rfl,rfl,y3.rs.1,by omega,by omega,?_,ev,?_⟩
 .unfold seqIndex?
  simp
  omega
 obtain ⟨y4,f4⟩:=y3.pop d.toNat
 have pv4:=pv.fr f4
 have le4:(xs.eraseIdx d.toNat).length < xs.length:=by
  rw [List.length_eraseIdx,if_pos (by omega)]
  omega
 have uos4 : ∀ u ∈ us.eraseIdx d.toNat,u ∈ os:=λu hu=>uos u (List.mem_of_mem_eraseIdx hu)
 have all4 : ∀ u ∈ os,u ∈ gs \/ u = o \/ u ∈ us.eraseIdx d.toNat:=λu hu=>(all u hu).imp id λh=>mem_erase eo h
 generalize upd H3 rs (.lst (xs.eraseIdx d.toNat)) = H4 at y4 f4 pv4
 generalize xs.eraseIdx d.toNat = xs4 at y4 le4
 generalize us.eraseIdx d.toNat = us4 at y4 uos4 all4
 clear y3 f3 y1 f4 pv all uos
 obtain ⟨pA,q,b',ss,rfl,pa4⟩:=id pv4
 obtain ⟨_,e',nq,hq⟩:=id pa4.q
 cases e'
 refine hN' _ _ (ko λN' hN'=>⟨_,rfl,pA,_,0,.ref q,rfl,rfl,SqT.of pa4.a.1,rfl,?_⟩)
 have em:inV (.int pu) [.int o.p,.int o.g] = decide (pu = o.p \/ pu = o.g):=(gc (hs:=[o.p,o.g])).trans (by simp)
 refine hN' _ _ (ko λN' hN'=>⟨_,rfl,_,rfl,q,_,0,.int o.p,rfl,rfl,SqT.of hq,rfl,_,rfl,q,_,2,.int o.g,rfl,rfl,SqT.of hq,rfl,zs2,λc nc=>⟨c,[.int o.p,.int o.g],rfl,.inr (SqT.of ja),rfl,rfl,?_⟩⟩)
 rw [if_neg (by decide),em]
 have y5:=y4.same (jf (o:=.tup [.int o.p,.int o.g]) nc)
 have pv5:=pv4.fr (P:=λ_=>False) (Fr.same (jf (o:=.tup [.int o.p,.int o.g]) nc))
 have hq5:=jf (o:=.tup [.int o.p,.int o.g]) nc _ _ hq
 generalize upd H4 c (.tup [.int o.p,.int o.g]) = H5 at y5 pv5 hq5
 clear y4 pv4 pa4 hq
 have lg:gs.length <= 60:=by have:=yo gnd gos; omega
 have lP : ∀ {gs:List O},gs.length <= 60 -> (ofP pu gs).length <= 60:=λ{gs} lg=>by have:=length_filter_le (λo:O=>decide (o.p = pu)) gs; unfold ofP; omega
 have lG : ∀ {gs:List O},gs.length <= 60 -> (ofG pu gs).length <= 60:=λ{gs} lg=>by have:=length_filter_le (λo:O=>decide (o.g = pu)) gs; unfold ofG; omega
 have mo:decide (x9 o ∈ gs.map x9) = decide (o ∈ gs):=decide_eq_decide.mpr ⟨λh=>let ⟨u,h1,h2⟩:=mem_map.mp h; jl7 h2 ▸ h1,λh=>mem_map_of_mem h⟩
 refine hN' _ _ (ko λN' hN'=>ifN λM hM=>⟨_,rfl,x,dx,_,rfl,y5.w.ob.1,jwa _ _ _ _ _ _ _ (by decide +kernel),_,rfl,Z2,x,dx,pu,_,cr,few,_,Ow,Bq,_,_,.ref pA,o,rfl,y5.w,y5.s.w.kr,by have:=lP lg; omega,by have:=lG lg; omega,pv5,PP.io o oin,λH6 w6' f6 kr6=>?_⟩)
 rw [j2f PP gos oin] at w6' ⊢
 dsimp only at w6'
 have y6:=y5.add f6 kr6 w6'
 have hq6:=(jjv f6 hq5 nq).1
 suffices fin:M false H6 by
  refine ⟨_,rfl,_,rfl,?_⟩
  by_cases z:pu = o.p \/ pu = o.g
  .rw [decide_eq_true z]
   refine jhy ⟨_,rfl,_,rfl,g,gt,x9 o,gs.map x9,rfl,SqL.of y6.g.1,⟨q,rfl,SqT.of hq6⟩,jtl y6.po,?_⟩
   rw [if_pos rfl,mo,Bool.true_and]
   exact ⟨_,rfl,_,rfl,fin⟩
  .rw [decide_eq_false z]
   exact yq ⟨_,rfl,_,rfl,fin⟩
 clear y5 pv5 hq5
 obtain ⟨gs2,egs⟩ : ∃ gs2,gs2 = if o ∈ gs then gs else gs ++ [o]:=⟨_,rfl⟩
 rw [<- egs] at w6' y6
 refine hM _ _ (yq (hN' _ _ (ko λN' hN'=>?_)))
 suffices next : ∀ g2 gt2 H7,Wst t H7 Z2 W Y p To R pa cr few fo ho be ro x dx pu Ow Bq rs g2 xs4 us4 gt2 gs2 (ofP pu gs2) (ofG pu gs2) -> N' (lsc a To pa W.x cr few fo ho be ro [v1,some (.ref pl),some (.int pu),some (.ref x),some (.ref rs),some (.ref g2),some (.ref pA),some (.ref q),some (.bl (decide (pu = o.p \/ pu = o.g))),w4,w5,w6,w7,w8]) H7 by
  refine ⟨_,rfl,_,rfl,_,rfl,g,gt,x9 o,gs.map x9,rfl,SqL.of y6.g.1,⟨q,rfl,SqT.of hq6⟩,jtl y6.po,_,rfl,?_⟩
  rw [if_pos rfl,mo]
  have lgt:=Paired.length y6.po
  by_cases z:o ∈ gs
  .rw [if_pos z] at egs
   subst egs
   rw [decide_eq_true z]
   refine yq ⟨zs0,λe ne=>⟨g,e,gt,[],rfl,rfl,jf ne _ _ y6.g.1,ja,j1e (by show gt.length + 0 <= _; omega),λg2 ng2=>?_⟩⟩
   have y7:=(y6.same (jf (o:=.lst []) ne)).same (jf (o:=.lst (gt ++ [])) ng2)
   refine next g2 (gt ++ []) _ ⟨y7.s,y7.b,y7.w,y7.rs,y7.px,⟨ja,(y6.same (jf (o:=.lst []) ne)).s.w.kr.none ng2⟩,by rw [append_nil]; rw [append_nil] at y7; exact y7.po⟩
  .rw [if_neg z] at egs
   subst egs
   rw [decide_eq_false z]
   refine jhy ⟨_,rfl,zs1,λe ne=>⟨g,e,gt,[.ref q],rfl,rfl,jf ne _ _ y6.g.1,ja,j1e (by show gt.length + 1 <= _; omega),λg2 ng2=>?_⟩⟩
   have s7:=(jf (o:=.lst [.ref q]) ne).trans (jf (o:=.lst (gt ++ [.ref q])) ng2)
   have y7:=y6.same s7
   exact next g2 (gt ++ [.ref q]) _ ⟨y7.s,y7.b,y7.w,y7.rs,y7.px,⟨ja,(y6.same (jf (o:=.lst [.ref q]) ne)).s.w.kr.none ng2⟩,qq y7.po ⟨q,rfl,nq,s7 _ _ hq6⟩⟩
 have gnd2:gs2.Nodup:=by
  rw [egs]
  by_cases z:o ∈ gs
  .rw [if_pos z]; exact gnd
  .rw [if_neg z]
   exact nodup_append.mpr ⟨gnd,by simp,λa ha b hb e=>z (by rw [<- mem_singleton.mp hb,<- e]; exact ha)⟩
 have mem2 : ∀ u,u ∈ gs2 ↔ u ∈ gs \/ u = o:=λu=>by
  rw [egs]
  by_cases z:o ∈ gs
  .rw [if_pos z]
   exact ⟨.inl,λh=>h.elim id λe=>e ▸ z⟩
  .rw [if_neg z,mem_append,mem_singleton]
 have gos2 : ∀ u ∈ gs2,u ∈ os:=λu hu=>((mem2 u).mp hu).elim (gos u) λe=>e ▸ oin
 have all2 : ∀ u ∈ os,u ∈ gs2 \/ u ∈ us4:=λu hu=>by
  rw [mem2]
  rcases all4 u hu with h | h | h
  .exact .inl (.inl h)
  .exact .inl (.inr h)
  .exact .inr h
 have lg2:gs2.length <= 60:=by have:=yo gnd2 gos2; omega
 clear y6 hq6 w6' f6 kr6 mo em egs all4 gnd gos mem2
 intro g2 gt2 H7 y7
 have lP2:=lP lg2
 have lG2:=lG lg2
 have atp : ∀ {H:Hp},atI (p.ns.map V.int) pu = some (.int (gI p.ns pu)):=jef p0 (by rw [getElem?_map,juz p0 p1]; rfl)
 refine hN' _ _ (ko λN' hN'=>⟨_,rfl,_,rfl,be,_,pu,.int (gI p.ns pu),rfl,rfl,SqL.of y7.b.be.1,atp (H:=H7),jz6 (K:=K) 2 3 (λo=>o.g) (λo=>o.m) (λ_=>rfl) (λ_=>rfl) (λQ h=>⟨_,rfl,h⟩) rfl y7.g.1 y7.po (by omega) λr nr=>⟨r,_,rfl,SqL.of ja,_,_,rfl,rfl,?_⟩⟩)
 have y8:=y7.same (jf (o:=.lst (((gs2.filter λo=>decide (o.g = pu)).map λo=>o.m).map V.int)) nr)
 generalize upd H7 r (.lst (((gs2.filter λo=>decide (o.g = pu)).map λo=>o.m).map V.int)) = H8 at y8
 refine hN' _ _ (ko λN' hN'=>⟨_,rfl,jz6 (K:=K) 0 3 (λo=>o.p) (λo=>o.m) (λ_=>rfl) (λ_=>rfl) (λQ h=>⟨_,rfl,h⟩) rfl y8.g.1 y8.po (by omega) λr nr=>⟨r,_,rfl,SqL.of ja,_,_,rfl,rfl,?_⟩⟩)
 have y9:=y8.same (jf (o:=.lst (((gs2.filter λo=>decide (o.p = pu)).map λo=>o.m).map V.int)) nr)
 generalize upd H8 r (.lst (((gs2.filter λo=>decide (o.p = pu)).map λo=>o.m).map V.int)) = H9 at y9
 clear y7 y8
 obtain ⟨lf,elf⟩ : ∃ lf:Int,lf = gI p.ns pu + jyy (ofG pu gs2) - jyy (ofP pu gs2):=⟨_,rfl⟩
 have el2:gI p.ns pu + ((gs2.filter λo=>decide (o.g = pu)).map λo=>o.m).sum - ((gs2.filter λo=>decide (o.p = pu)).map λo=>o.m).sum = lf:=elf.symm
 dsimp only
 rw [el2]
 refine hN' _ _ (ko λN' hN'=>ifN λM hM=>⟨_,rfl,x,dx,_,rfl,y9.w.ob.1,jwa _ _ _ _ _ _ _ (by decide +kernel),Z2,x,dx,pu,_,cr,few,_,Ow,Bq,_,_,rfl,y9.w,by omega,by omega,λH10 s10=>⟨_,rfl,rfl,_,rfl,?_⟩⟩)
 have y10:=y9.same s10
 rw [<- elf,decide_eq_true (rfl:V.int lf = V.int lf)]
 refine yq ⟨_,rfl,x,dx,_,rfl,y10.w.ob.1,jwa _ _ _ _ _ _ _ (by decide +kernel),Z2,x,dx,pu,_,cr,few,_,Ow,Bq,_,_,rfl,y10.w,by omega,by omega,λH11 s11=>⟨_,rfl,_,rfl,hM _ _ (yq ?_)⟩⟩
 have y11:=y10.same s11
 clear y9 y10
 refine hN' _ _ (ko λN' hN'=>jz6 (K:=K) 0 1 (λo=>o.p) (λo=>o.n) (λ_=>rfl) (λ_=>rfl) (λQ h=>⟨_,rfl,h⟩) rfl y11.g.1 y11.po (by omega) λnl nnl=>?_)
 have y12:=y11.same (jf (o:=.lst (((ofP pu gs2).map λo=>o.n).map V.int)) nnl)
 have hnl:upd H11 nl (.lst (((ofP pu gs2).map λo=>o.n).map V.int)) nl = some (.lst (((ofP pu gs2).map λo=>o.n).map V.int)):=ja
 show jh5 20 (.ref nl) _ (upd H11 nl (.lst (((ofP pu gs2).map λo=>o.n).map V.int))) _
 generalize upd H11 nl (.lst (((ofP pu gs2).map λo=>o.n).map V.int)) = H12 at y12 hnl
 clear y11
 obtain ⟨m,m1,hF,hh⟩:=j7t ((ofP pu gs2).map λo=>o.n)
 refine hN' _ _ (ko λN' hN'=>j54 (K:=K) (λQ h=>⟨_,rfl,h⟩) rfl hnl (by rw [length_map]; omega) λr nr=>⟨r,_,0,.int m,rfl,rfl,SqL.of ja,jef (by decide) (by rw [getElem?_map,show ((0:Int)).toNat = 0 from rfl,<- List.head?_eq_getElem?,hh]; rfl),?_⟩)
 have y13:=y12.same (jf (o:=.lst (((List.range (((ofP pu gs2).map λo=>o.n).length + 1)).filter λ(i:Nat)=>decide ((i:Int) ∉ (ofP pu gs2).map λo=>o.n)).map λ(i:Nat)=>V.int i)) nr)
 generalize upd H12 r (.lst (((List.range (((ofP pu gs2).map λo=>o.n).length + 1)).filter λ(i:Nat)=>decide ((i:Int) ∉ (ofP pu gs2).map λo=>o.n)).map λ(i:Nat)=>V.int i)) = H13 at y13
 clear y12 hnl
 refine hN' _ _ (ko λN' hN'=>ifN λM hM=>⟨_,rfl,x,dx,_,rfl,y13.w.ob.1,jwa _ _ _ _ _ _ _ (by decide +kernel),Z2,x,dx,pu,_,cr,few,_,Ow,Bq,_,_,(m:Int),rfl,y13.w,hF,_,rfl,rfl,_,rfl,?_⟩)
 rw [decide_eq_true (rfl:V.int (m:Int) = V.int m)]
 refine hM _ _ (yq (hN' _ _ (ko λN' hN'=>⟨_,rfl,_,_,rfl,rfl,_,rfl,_,rfl,be,_,rfl,.inl (SqL.of y13.b.be.1),_,_,rfl,rfl,To,R,_,rfl,y13.s.tn,by rw [length_map]; omega,by rw [length_map]; omega,λd H14 d0 d1 hT14 k14=>?_⟩)))
 rw [length_map] at d1
 obtain ⟨y14,_⟩:=y13.draw hT14 k14
 obtain ⟨g0,g1,g2'⟩:=j3t p0 p1 d0 d1
 refine ⟨_,_,rfl,rfl,_,rfl,be,_,rfl,.inl (SqL.of y14.b.be.1),_,_,rfl,rfl,by rw [length_map]; omega,?_⟩
 rw [length_map]
 obtain ⟨gl,egl⟩ : ∃ gl:Int,gl = (pu + 1 + d) % (p.ns.length:Int):=⟨_,rfl⟩
 rw [<- egl] at g0 g1 g2'
 dsimp only
 rw [<- egl]
 refine hN' _ _ (ko λN' hN'=>⟨_,rfl,lf,1000,rfl,?_⟩)
 obtain ⟨mu,emu⟩ : ∃ mu:Int,mu = if (1000:Int) < lf then 1000 else lf:=⟨_,rfl⟩
 rw [<- emu]
 have more : ∀ {H'},Wst t H' Z2 W Y p To R pa cr few fo ho be ro x dx pu Ow Bq rs g2 xs4 us4 gt2 gs2 (ofP pu gs2) (ofG pu gs2) -> (match H' rs with | some (.lst xs)=>xs.length | _=>0) < (match H1 rs with | some (.lst xs)=>xs.length | _=>0):=λy=>by
  rw [y.rs.1,hx1]
  exact le4
 refine hN' _ _ (ifN λM hM=>⟨_,rfl,_,_,rfl,rfl,_,rfl,?_⟩)
 dsimp only
 by_cases z : 0 < lf
 .rw [decide_eq_true z]
  have hmu:(1 <= mu /\ mu <= 1000) /\ mu <= lf:=by
   rw [emu]
   split <;> omega
  refine jhy ⟨_,rfl,x,dx,_,rfl,y14.w.ob.1,jwa _ _ _ _ _ _ _ (by decide +kernel),_,rfl,_,rfl,Z2,x,dx,pu,_,cr,few,_,Ow,Bq,_,_,(m:Int),gl,mu,rfl,y14.w,by omega,by omega,hF,⟨g0,by omega⟩,g2',hmu.1,by rw [<- elf]; exact hmu.2,λq2 H15 s15 hq2=>⟨_,rfl,_,rfl,_,rfl,_,rfl,zs4,λc nc=>⟨jxo [pu,m,gl,mu],jxo [pu,m,gl,mu],jr8 (SqT.of (jf nc _ _ hq2)),jr8 (SqT.of ja),by unfold jxo; simp [jj0,jd8],_,rfl,?_⟩⟩⟩
  have y15:=(y14.same s15).same (jf (o:=.tup [.int pu,.int m,.int gl,.int mu]) nc)
  rw [show eqD (jxo [pu,m,gl,mu]) (jxo [pu,m,gl,mu]) = true from (jxe _ _).trans (decide_eq_true rfl)]
  exact hM _ _ (yq ⟨⟨g2,gt2,gs2,xs4,us4,_,_,_,_,_,_,_,_,rfl,y15,le_trans (le_of_lt le4) lxs,gnd2,gos2,uos4,all2⟩,more y15⟩)
 .rw [decide_eq_false z]
  exact yq (hM _ _ (yq ⟨⟨g2,gt2,gs2,xs4,us4,_,_,_,_,_,_,_,_,rfl,y14,le_trans (le_of_lt le4) lxs,gnd2,gos2,uos4,all2⟩,more y14⟩))
end
noncomputable abbrev aN (K:W.Frag)(x:Str)(v:Option Value):Prop:=W.nsIn K mainGlobals x=some v
noncomputable abbrev aF (K:W.Frag)(a:Addr)(x:Str)(v:Option Value):Prop:=W.findIn K (.ref a) x=some v
noncomputable abbrev aL (K:W.Frag)(f:Addr)(n q:Str)(s:Stmt)(oc:Value)(od:Option Addr)(kV dc pm:Value)(an:Option Addr)(cd ct:Value)(sl:Array (Option Value)):Prop:=K.lookup f=some ⟨oc,od,.func (W.fnOf n q (jn1 s) (jcg s) (jt s) .none kV dc pm an cd ct),sl⟩
noncomputable abbrev aC (K:W.Frag)(q:Value)(s:Str):Prop:=W.codeIn K q s=true
noncomputable abbrev aK (K:W.Frag)(f:Addr):Prop:=W.keepIn K (.ref f)=true
noncomputable abbrev aI (K:W.Frag)(f:Addr):Prop:=W.isFn K (.ref f)=true
noncomputable abbrev aR (K:W.Frag)(s:Str)(f:Addr):Prop:=aN K s (some (.ref f))
noncomputable abbrev aG (K:W.Frag)(c:Addr)(s:Str)(f:Addr):Prop:=aF K c s (some (.ref f))
noncomputable abbrev aM (K:W.Frag)(f:Addr)(n:Str)(s:Stmt)(oc:Value)(od:Option Addr)(kV dc pm:Value)(an:Option Addr)(cd ct:Value)(sl:Array (Option Value)):Prop:=aL K f n n s oc od kV dc pm an cd ct sl
set_option maxHeartbeats 4000000 in
set_option autoImplicit true in
set_option relaxedAutoImplicit true in
theorem all_mk {l:W.OpenLaw} {w:World} {K:W.Frag} {h:Heap} {mg:Str -> Option Value} {fa:Addr} (X:K.In h) (G:h.Ns mainGlobals mg) (hfa:mg "law" = some (.ref fa))
 {q2 q3 q4 q5 q6 q7:Value}
 (cm0:aR K "Board" ca0)
 (cg0:W.plainGet K ca0 Str.empty = true) (ch0:W.hasDictIn K ca0 = true) (co0:W.plainOver K ca0 = true) (cs0:aF K ca0 "__setattr__" (some (.builtin "object.__setattr__")))
 (cn0_0:aF K ca0 "enough" none)
 (cn0_1:aF K ca0 "signers" none)
 (cm1:aR K "Keeper" ca1)
 (cg1:W.plainGet K ca1 Str.empty = true) (ch1:W.hasDictIn K ca1 = true) (co1:W.plainOver K ca1 = true) (cs1:aF K ca1 "__setattr__" (some (.builtin "object.__setattr__")))
 (cn1_0:aF K ca1 "held" none)
 (cn1_1:aF K ca1 "next_numbers" none)
 (cn1_2:aF K ca1 "done" none)
 (cn1_3:aF K ca1 "heard" none)
 (cn1_4:aF K ca1 "unvoted" none)
 (cn1_5:aF K ca1 "choices" none)
 (cn1_6:aF K ca1 "waiting" none)
 (cm2:aR K "World" ca2)
 (cg2:W.plainGet K ca2 Str.empty = true) (ch2:W.hasDictIn K ca2 = true) (co2:W.plainOver K ca2 = true) (cs2:aF K ca2 "__setattr__" (some (.builtin "object.__setattr__")))
 (cn2_0:aF K ca2 "purses" none)
 (cn2_1:aF K ca2 "total" none)
 (cn2_2:aF K ca2 "lying" none)
 (cn2_3:aF K ca2 "cheating" none)
 (cn2_4:aF K ca2 "keepers" none)
 (cn2_5:aF K ca2 "board" none)
 (cn2_6:aF K ca2 "asked" none)
 (cn2_7:aF K ca2 "on_way" none)
 (cm3:aR K "Book" ca3)
 (cg3:W.plainGet K ca3 Str.empty = true) (ch3:W.hasDictIn K ca3 = true) (co3:W.plainOver K ca3 = true) (cs3:aF K ca3 "__setattr__" (some (.builtin "object.__setattr__")))
 (cn3_0:aF K ca3 "held" none)
 (cn3_1:aF K ca3 "next_numbers" none)
 (cn3_2:aF K ca3 "done" none)
 (cm4:aR K "Wallet" ca4)
 (cg4:W.plainGet K ca4 Str.empty = true) (ch4:W.hasDictIn K ca4 = true) (co4:W.plainOver K ca4 = true) (cs4:aF K ca4 "__setattr__" (some (.builtin "object.__setattr__")))
 (cn4_0:aF K ca4 "purse" none)
 (cn4_1:aF K ca4 "purses" none)
 (cn4_2:aF K ca4 "houses" none)
 (cn4_3:aF K ca4 "few" none)
 (cn4_4:aF K ca4 "first" none)
 (cn4_5:aF K ca4 "own" none)
 (cn4_6:aF K ca4 "brought" none)
 (xm0:aR K "NoPurse" xa0)
 (xm1:aR K "TooMuch" xa1)
 (xm2:aR K "NotNow" xa2)
 (xm3:aR K "PurseError" xa3)
 (xm4:aR K "BadCut" xa4)
 (xm5:aR K "BadText" xa5)
 (xm6:aR K "BadPaper" xa6)
 (xm7:aR K "NoHouse" xa7)
 (xm8:aR K "NoLetter" xa8)
 (xm9:aR K "BadNumber" xa9)
 (xm10:aR K "BadOrder" xa10)
 (xm11:aR K "BadHouses" xa11)
 (a0:aR K "is_whole" f0)
 (l0:aM K f0 "is_whole" jjn o0 r0 v0 d0 p0 s0 q0 t0 u0)
 (c0:aC K q0 "is_whole") (k0:aK K f0)
 (a1:aR K "is_between" f1)
 (l1:aM K f1 "is_between" jev o1 r1 v1 d1 p1 s1 q1 t1 u1)
 (c1:aC K q1 "is_between") (k1:aK K f1)
 (a2:aR K "is_order" f2)
 (l2:aM K f2 "is_order" jji o2 r2 (.ref kd2) d2 p2 s2 q2 t2 u2)
 (c2:aC K q2 "is_order") (k2:aK K f2)
 (e2:W.nsIn K kd2 "purses" = some (some (.int 8 kt2)))
 (a3:aR K "place_of" f3)
 (l3:aM K f3 "place_of" jjp o3 r3 v3 d3 p3 s3 q3 t3 u3)
 (c3:aC K q3 "place_of") (k3:aK K f3)
 (a4:aR K "are_rising" f4)
 (l4:aM K f4 "are_rising" jb7 o4 r4 v4 d4 p4 s4 q4 t4 u4)
 (c4:aC K q4 "are_rising") (k4:aK K f4)
 (a5:aR K "is_rising_row" f5)
 (l5:aM K f5 "is_rising_row" jav o5 r5 v5 d5 p5 s5 q5 t5 u5)
 (c5:aC K q5 "is_rising_row") (k5:aK K f5)
 (a6:aR K "is_house_count" f6)
 (l6:aM K f6 "is_house_count" ua o6 r6 v6 d6 p6 s6 q6 t6 u6)
 (c6:aC K q6 "is_house_count") (k6:aK K f6)
 (a7:aR K "is_few" f7)
 (l7:aM K f7 "is_few" jpj o7 r7 v7 d7 p7 s7 q7 t7 u7)
 (c7:aC K q7 "is_few") (k7:aK K f7)
 (a8:aR K "outnumber" f8)
 (l8:aM K f8 "outnumber" jlc o8 r8 v8 d8 p8 s8 q8 t8 u8)
 (c8:aC K q8 "outnumber") (k8:aK K f8)
 (a9:aR K "enough_of" f9)
 (l9:aM K f9 "enough_of" jld o9 r9 v9 d9 p9 s9 q9 t9 u9)
 (c9:aC K q9 "enough_of") (k9:aK K f9)
 (a10:aR K "are_sums" f10)
 (l10:aM K f10 "are_sums" jjo o10 r10 v10 d10 p10 s10 q10 t10 u10)
 (c10:aC K q10 "are_sums") (k10:aK K f10)
 (a11:aR K "are_first_sums" f11)
 (l11:aM K f11 "are_first_sums" ky o11 r11 v11 d11 p11 s11 q11 t11 u11)
 (c11:aC K q11 "are_first_sums") (k11:aK K f11)
 (a12:aG K xa0 "__init__" f12)
 (l12:aL K f12 "__init__" "NoPurse.__init__" wd o12 r12 v12 d12 p12 s12 q12 t12 u12)
 (c12:aC K q12 "NoPurse.__init__") (k12:aK K f12)
 (xrn12:jw1 K xa0 f12 = true) (xd12a:aF K xa0 "__setattr__" (some (.builtin "object.__setattr__"))) (xd12b:aF K xa0 "__getattribute__" (some (.builtin "BaseException.__getattribute__"))) (xd12c:aF K xa0 "__getattr__" none) (xd12d:aF K xa0 "purse" none)
 (a13:aR K "checked" f13)
 (l13:aM K f13 "checked" jmi o13 r13 v13 d13 p13 s13 q13 t13 u13)
 (c13:aC K q13 "checked") (k13:aK K f13)
 (a14:aR K "check_houses" f14)
 (l14:aM K f14 "check_houses" jff o14 r14 v14 d14 p14 s14 q14 t14 u14)
 (c14:aC K q14 "check_houses") (k14:aK K f14)
 (a15:aR K "check_purses" f15)
 (l15:aM K f15 "check_purses" jfs o15 r15 v15 d15 p15 s15 q15 t15 u15)
 (c15:aC K q15 "check_purses") (k15:aK K f15)
 (a16:aG K ca0 "__init__" f16) (n16:aI K f16)
 (mk16:W.makesIn K ca0 = true) (mq16:aK K ca0)
 (l16:aL K f16 "__init__" "Board.__init__" kz o16 r16 v16 d16 p16 s16 q16 t16 u16)
 (c16:aC K q16 "Board.__init__") (k16:aK K f16)
 (a17:aG K ca0 "is_carried" f17) (n17:aI K f17)
 (l17:aL K f17 "is_carried" "Board.is_carried" wc o17 r17 v17 d17 p17 s17 q17 t17 u17)
 (c17:aC K q17 "Board.is_carried") (k17:aK K f17)
 (a18:aG K ca0 "put" f18) (n18:aI K f18)
 (l18:aL K f18 "put" "Board.put" jdo o18 r18 v18 d18 p18 s18 q18 t18 u18)
 (c18:aC K q18 "Board.put") (k18:aK K f18)
 (a19:aG K ca0 "carried" f19) (n19:aI K f19)
 (l19:aL K f19 "carried" "Board.carried" jap o19 r19 v19 d19 p19 s19 q19 t19 u19)
 (c19:aC K q19 "Board.carried") (k19:aK K f19)
 (a20:aG K ca0 "houses_for" f20) (n20:aI K f20)
 (l20:aL K f20 "houses_for" "Board.houses_for" wa o20 r20 v20 d20 p20 s20 q20 t20 u20)
 (c20:aC K q20 "Board.houses_for") (k20:aK K f20)
 (a21:aG K ca3 "__init__" f21) (n21:aI K f21)
 (mk21:W.makesIn K ca3 = true) (mq21:aK K ca3)
 (l21:aL K f21 "__init__" "Book.__init__" ja6 o21 r21 v21 d21 p21 s21 q21 t21 u21)
 (c21:aC K q21 "Book.__init__") (k21:aK K f21)
 (a22:aG K ca3 "is_past" f22) (n22:aI K f22)
 (l22:aL K f22 "is_past" "Book.is_past" jbs o22 r22 v22 d22 p22 s22 q22 t22 u22)
 (c22:aC K q22 "Book.is_past") (k22:aK K f22)
 (a23:aG K ca3 "is_due" f23) (n23:aI K f23)
 (l23:aL K f23 "is_due" "Book.is_due" jae o23 r23 v23 d23 p23 s23 q23 t23 u23)
 (c23:aC K q23 "Book.is_due") (k23:aK K f23)
 (a24:aG K ca3 "settle" f24) (n24:aI K f24)
 (l24:aL K f24 "settle" "Book.settle" jaw o24 r24 v24 d24 p24 s24 q24 t24 u24)
 (c24:aC K q24 "Book.settle") (k24:aK K f24)
 (a25:aG K ca1 "__init__" f25) (n25:aI K f25)
 (mk25:W.makesIn K ca1 = true) (mq25:aK K ca1)
 (l25:aL K f25 "__init__" "Keeper.__init__" gq o25 r25 v25 d25 p25 s25 q25 t25 u25)
 (c25:aC K q25 "Keeper.__init__") (k25:aK K f25)
 (a26:aG K ca1 "left_of" f26) (n26:aI K f26)
 (l26:aL K f26 "left_of" "Keeper.left_of" ud o26 r26 v26 d26 p26 s26 q26 t26 u26)
 (c26:aC K q26 "Keeper.left_of") (k26:aK K f26)
 (a27:aG K ca1 "give_votes" f27) (n27:aI K f27)
 (l27:aL K f27 "give_votes" "Keeper.give_votes" xl o27 r27 v27 d27 p27 s27 q27 t27 u27)
 (c27:aC K q27 "Keeper.give_votes") (k27:aK K f27)
 (a28:aG K ca1 "first_due" f28) (n28:aI K f28)
 (l28:aL K f28 "first_due" "Keeper.first_due" xy o28 r28 v28 d28 p28 s28 q28 t28 u28)
 (c28:aC K q28 "Keeper.first_due") (k28:aK K f28)
 (a29:aG K ca1 "go_on" f29) (n29:aI K f29)
 (l29:aL K f29 "go_on" "Keeper.go_on" kh o29 r29 v29 d29 p29 s29 q29 t29 u29)
 (c29:aC K q29 "Keeper.go_on") (k29:aK K f29)
 (a30:aG K ca1 "hear" f30) (n30:aI K f30)
 (l30:aL K f30 "hear" "Keeper.hear" jdb o30 r30 v30 d30 p30 s30 q30 t30 u30)
 (c30:aC K q30 "Keeper.hear") (k30:aK K f30)
 (a31:aG K ca1 "take_paper" f31) (n31:aI K f31)
 (l31:aL K f31 "take_paper" "Keeper.take_paper" yy o31 r31 v31 d31 p31 s31 q31 t31 u31)
 (c31:aC K q31 "Keeper.take_paper") (k31:aK K f31)
 (a32:aG K ca2 "__init__" f32) (n32:aI K f32)
 (mk32:W.makesIn K ca2 = true) (mq32:aK K ca2)
 (l32:aL K f32 "__init__" "World.__init__" jct o32 r32 v32 d32 p32 s32 q32 t32 u32)
 (c32:aC K q32 "World.__init__") (k32:aK K f32)
 (a33:aG K ca2 "letters" f33) (n33:aI K f33)
 (l33:aL K f33 "letters" "World.letters" jao o33 r33 v33 d33 p33 s33 q33 t33 u33)
 (c33:aC K q33 "World.letters") (k33:aK K f33)
 (a34:aG K ca2 "honest" f34) (n34:aI K f34)
 (l34:aL K f34 "honest" "World.honest" jb1 o34 r34 v34 d34 p34 s34 q34 t34 u34)
 (c34:aC K q34 "World.honest") (k34:aK K f34)
 (a35:aG K ca2 "papers" f35) (n35:aI K f35)
 (l35:aL K f35 "papers" "World.papers" jb0 o35 r35 v35 d35 p35 s35 q35 t35 u35)
 (c35:aC K q35 "World.papers") (k35:aK K f35)
 (a36:aG K ca2 "paper" f36) (n36:aI K f36)
 (l36:aL K f36 "paper" "World.paper" jc7 o36 r36 v36 d36 p36 s36 q36 t36 u36)
 (c36:aC K q36 "World.paper") (k36:aK K f36)
 (a37:aG K ca2 "keeper_of" f37) (n37:aI K f37)
 (l37:aL K f37 "keeper_of" "World.keeper_of" gi o37 r37 v37 d37 p37 s37 q37 t37 u37)
 (c37:aC K q37 "World.keeper_of") (k37:aK K f37)
 (a38:aG K ca2 "check_purse" f38) (n38:aI K f38)
 (l38:aL K f38 "check_purse" "World.check_purse" va o38 r38 v38 d38 p38 s38 q38 t38 u38)
 (c38:aC K q38 "World.check_purse") (k38:aK K f38)
 (a39:aG K ca2 "check_asker" f39) (n39:aI K f39)
 (l39:aL K f39 "check_asker" "World.check_asker" yz o39 r39 v39 d39 p39 s39 q39 t39 u39)
 (c39:aC K q39 "World.check_asker") (k39:aK K f39)
 (a40:aG K ca2 "check_order" f40) (n40:aI K f40)
 (l40:aL K f40 "check_order" "World.check_order" vb o40 r40 v40 d40 p40 s40 q40 t40 u40)
 (c40:aC K q40 "World.check_order") (k40:aK K f40)
 (a41:aG K ca2 "check_liar" f41) (n41:aI K f41)
 (l41:aL K f41 "check_liar" "World.check_liar" we o41 r41 v41 d41 p41 s41 q41 t41 u41)
 (c41:aC K q41 "World.check_liar") (k41:aK K f41)
 (a42:aG K ca2 "write_to_all" f42) (n42:aI K f42)
 (l42:aL K f42 "write_to_all" "World.write_to_all" zx o42 r42 v42 d42 p42 s42 q42 t42 u42)
 (c42:aC K q42 "World.write_to_all") (k42:aK K f42)
 (a43:aG K ca2 "put_votes" f43) (n43:aI K f43)
 (l43:aL K f43 "put_votes" "World.put_votes" yj o43 r43 v43 d43 p43 s43 q43 t43 u43)
 (c43:aC K q43 "World.put_votes") (k43:aK K f43)
 (a44:aG K ca2 "ask" f44) (n44:aI K f44)
 (l44:aL K f44 "ask" "World.ask" jd3 o44 r44 v44 d44 p44 s44 q44 t44 u44)
 (c44:aC K q44 "World.ask") (k44:aK K f44)
 (a45:aG K ca2 "cheat" f45) (n45:aI K f45)
 (l45:aL K f45 "cheat" "World.cheat" jda o45 r45 v45 d45 p45 s45 q45 t45 u45)
 (c45:aC K q45 "World.cheat") (k45:aK K f45)
 (a46:aG K ca2 "lie" f46) (n46:aI K f46)
 (l46:aL K f46 "lie" "World.lie" jgo o46 r46 v46 d46 p46 s46 q46 t46 u46)
 (c46:aC K q46 "World.lie") (k46:aK K f46)
 (a47:aG K ca2 "show" f47) (n47:aI K f47)
 (l47:aL K f47 "show" "World.show" jeu o47 r47 v47 d47 p47 s47 q47 t47 u47)
 (c47:aC K q47 "World.show") (k47:aK K f47)
 (a48:aG K ca2 "come" f48) (n48:aI K f48)
 (l48:aL K f48 "come" "World.come" jcb o48 r48 v48 d48 p48 s48 q48 t48 u48)
 (c48:aC K q48 "World.come") (k48:aK K f48)
 (a49:aR K "put_new" f49)
 (l49:aM K f49 "put_new" jje o49 r49 v49 d49 p49 s49 q49 t49 u49)
 (c49:aC K q49 "put_new") (k49:aK K f49)
 (a50:aR K "sum_of" f50)
 (l50:aM K f50 "sum_of" jpa o50 r50 v50 d50 p50 s50 q50 t50 u50)
 (c50:aC K q50 "sum_of") (k50:aK K f50)
 (a51:aG K ca4 "__init__" f51) (n51:aI K f51)
 (mk51:W.makesIn K ca4 = true) (mq51:aK K ca4)
 (l51:aL K f51 "__init__" "Wallet.__init__" jbg o51 r51 v51 d51 p51 s51 q51 t51 u51)
 (c51:aC K q51 "Wallet.__init__") (k51:aK K f51)
 (a52:aG K ca4 "add" f52) (n52:aI K f52)
 (l52:aL K f52 "add" "Wallet.add" jb5 o52 r52 v52 d52 p52 s52 q52 t52 u52)
 (c52:aC K q52 "Wallet.add") (k52:aK K f52)
 (a53:aG K ca4 "has" f53) (n53:aI K f53)
 (l53:aL K f53 "has" "Wallet.has" je8 o53 r53 v53 d53 p53 s53 q53 t53 u53)
 (c53:aC K q53 "Wallet.has") (k53:aK K f53)
 (a54:aG K ca4 "next_number" f54) (n54:aI K f54)
 (l54:aL K f54 "next_number" "Wallet.next_number" zt o54 r54 v54 d54 p54 s54 q54 t54 u54)
 (c54:aC K q54 "Wallet.next_number") (k54:aK K f54)
 (a55:aG K ca4 "order" f55) (n55:aI K f55)
 (l55:aL K f55 "order" "Wallet.order" jbw o55 r55 v55 d55 p55 s55 q55 t55 u55)
 (c55:aC K q55 "Wallet.order") (k55:aK K f55)
 (a56:aR K "_law_town" f56)
 (l56:aM K f56 "_law_town" jgk o56 r56 v56 d56 p56 s56 q56 t56 u56)
 (c56:aC K q56 "_law_town") (k56:aK K f56)
 (a57:aR K "_law_draw" f57)
 (l57:aM K f57 "_law_draw" jdl o57 r57 v57 d57 p57 s57 q57 t57 u57)
 (c57:aC K q57 "_law_draw") (k57:aK K f57)
 (a58:aR K "_law_pick" f58)
 (l58:aM K f58 "_law_pick" jgf o58 r58 v58 d58 p58 s58 q58 t58 u58)
 (c58:aC K q58 "_law_pick") (k58:aK K f58)
 (a59:aR K "_law_whole" f59)
 (l59:aM K f59 "_law_whole" je9 o59 r59 v59 d59 p59 s59 q59 t59 u59)
 (c59:aC K q59 "_law_whole") (k59:aK K f59)
 (a60:aR K "_law_is" f60)
 (l60:aM K f60 "_law_is" jl1 o60 r60 v60 d60 p60 s60 q60 t60 u60)
 (c60:aC K q60 "_law_is") (k60:aK K f60)
 (a61:aR K "_law_refusal" f61)
 (l61:aM K f61 "_law_refusal" ku o61 r61 v61 d61 p61 s61 q61 t61 u61)
 (c61:aC K q61 "_law_refusal") (k61:aK K f61)
 (a62:aR K "_law_some" f62)
 (l62:aM K f62 "_law_some" jd2 o62 r62 v62 d62 p62 s62 q62 t62 u62)
 (c62:aC K q62 "_law_some") (k62:aK K f62)
 (a63:aR K "_law_world" f63)
 (l63:aM K f63 "_law_world" jb8 o63 r63 v63 d63 p63 s63 q63 t63 u63)
 (c63:aC K q63 "_law_world") (k63:aK K f63)
 (a64:aR K "_law_told" f64)
 (l64:aM K f64 "_law_told" jd9 o64 r64 v64 d64 p64 s64 q64 t64 u64)
 (c64:aC K q64 "_law_told") (k64:aK K f64)
 (a65:aR K "_law_letter" f65)
 (l65:aM K f65 "_law_letter" jat o65 r65 v65 d65 p65 s65 q65 t65 u65)
 (c65:aC K q65 "_law_letter") (k65:aK K f65)
 (a66:aR K "_law_order" f66)
 (l66:aM K f66 "_law_order" jce o66 r66 v66 d66 p66 s66 q66 t66 u66)
 (c66:aC K q66 "_law_order") (k66:aK K f66)
 (a67:aR K "_law_go" f67)
 (l67:aM K f67 "_law_go" jie o67 r67 v67 d67 p67 s67 q67 t67 u67)
 (c67:aC K q67 "_law_go") (k67:aK K f67)
 (a68:aR K "_law_summed" f68)
 (l68:aM K f68 "_law_summed" jan o68 r68 v68 d68 p68 s68 q68 t68 u68)
 (c68:aC K q68 "_law_summed") (k68:aK K f68)
 (a69:aR K "law" f69)
 (l69:aM K f69 "law" j0n o69 r69 v69 d69 p69 s69 q69 t69 u69)
 (c69:aC K q69 "law") (k69:aK K f69)
 (ih0:aG K ca1 "is_due" f23)
 (ih1:aG K ca1 "is_past" f22)
 (ih2:aG K ca1 "settle" f24)
 (yp0:W.specialIn K (.ref ca3) "__getattribute__" = some (some (.builtin "type.__getattribute__"))) (yr0:W.readsIn K ca3 (.type "type") = true) (yf0:W.findCls K (.ref ca3) (.type "type") "__init__" = some (.val (.ref f21)))
 (hgc0:aN K "MOST_MUCH" (some (.int 1000 gt0)))
 (hgc1:aN K "LAST_NUMBER" (some (.int 99 gt1)))
 (hgc2:aN K "PAPER_LETTER" (some (.str "paper" gt2)))
 (hgc3:aN K "ORDER_LETTER" (some (.str "order" gt3)))
 (hgc4:aN K "MOST_HOUSES" (some (.int 16 gt4)))
 (hgc5:aN K "MOST_FEW" (some (.int 5 gt5)))
 (hgc6:aN K "MOST_FIRST_SUM" (some (.int 1000 gt6)))
 (hgc7:aN K "LEAST_PURSES" (some (.int 2 gt7)))
 (hgc8:aN K "MOST_PURSES" (some (.int 8 gt8)))
 (xg0:aF K xa0 "__getattribute__" (some (.builtin "BaseException.__getattribute__"))) (xh0:aF K xa0 "__getattr__" none) (xj0:aF K xa0 "__class__" (some (.builtin "object.__class__")))
 (xp0:W.mroIn K xa0 (.type "BaseException") = some true) (xo0:W.mroIn K xa0 (.type "object") = some true) (xs0:(W.clsIn K xa0).isSome = true)
 (xk0:kinds K (.ref xa0) [.ref xa9,.ref xa10,.ref xa11,.ref xa7,.ref xa0,.ref xa8,.ref xa2,.ref xa1,.ref xa6,.ref xa4,.ref xa5,.ref xa3,.type "ValueError"] = [some false,some false,some false,some false,some true,some false,some false,some false,some false,some false,some false,some true,some true])
 (xc0_0:W.kitCls K (.ref xa0) (.ref xa3) = some true)
 (xr1:W.excIn K xa1 j6j "ValueError.__new__" = true)
 (xg1:aF K xa1 "__getattribute__" (some (.builtin "BaseException.__getattribute__"))) (xh1:aF K xa1 "__getattr__" none) (xj1:aF K xa1 "__class__" (some (.builtin "object.__class__")))
 (xp1:W.mroIn K xa1 (.type "BaseException") = some true) (xo1:W.mroIn K xa1 (.type "object") = some true) (xs1:(W.clsIn K xa1).isSome = true)
 (xk1:kinds K (.ref xa1) [.ref xa9,.ref xa10,.ref xa11,.ref xa7,.ref xa0,.ref xa8,.ref xa2,.ref xa1,.ref xa6,.ref xa4,.ref xa5,.ref xa3,.type "ValueError"] = [some false,some false,some false,some false,some false,some false,some false,some true,some false,some false,some false,some true,some true])
 (xc1_0:W.kitCls K (.ref xa1) (.ref xa3) = some true)
 (xr2:W.excIn K xa2 j6j "ValueError.__new__" = true)
 (xg2:aF K xa2 "__getattribute__" (some (.builtin "BaseException.__getattribute__"))) (xh2:aF K xa2 "__getattr__" none) (xj2:aF K xa2 "__class__" (some (.builtin "object.__class__")))
 (xp2:W.mroIn K xa2 (.type "BaseException") = some true) (xo2:W.mroIn K xa2 (.type "object") = some true) (xs2:(W.clsIn K xa2).isSome = true)
 (xk2:kinds K (.ref xa2) [.ref xa9,.ref xa10,.ref xa11,.ref xa7,.ref xa0,.ref xa8,.ref xa2,.ref xa1,.ref xa6,.ref xa4,.ref xa5,.ref xa3,.type "ValueError"] = [some false,some false,some false,some false,some false,some false,some true,some false,some false,some false,some false,some true,some true])
 (xc2_0:W.kitCls K (.ref xa2) (.ref xa3) = some true)
 (xb0:W.mroIn K xa3 (.type "BaseException") = some true)
 (z0:aN K "isinstance" none)
 (z1:aN K "bool" none)
 (z2:aN K "int" none)
 (z3:aN K "len" none)
 (z4:aN K "tuple" none)
 (z5:aN K "sorted" none)
 (z6:aN K "list" none)
 (z7:aN K "sum" none)
 (z8:aN K "max" none)
 (z9:aN K "all" none)
 (z10:aN K "range" none)
 (z11:aN K "ValueError" none)
 (z12:aN K "min" none) :
 ∃ fd:FuncData,(∀ (s:Shared) (v:Value),BindsTo s fd ⟨[v],[]⟩ [("_law_script",v)]) /\ ∀ base:Heap,K.In base -> base.Ns mainGlobals mg -> xj l.prog w K mg base CX0 12 fa fd ["_law_script"] (jz2 K):=by
 have T:Txt K mg ⟨f0,_,f1,_,f2,_,f3,_,f4,_,f5,_,f6,_,f7,_,f8,_,f9,_,f10,_,f11,_,f12,_,f13,_,f14,_,f15,_,f16,_,f17,_,f18,_,f19,_,f20,_,f21,_,f22,_,f23,_,f24,_,f25,_,f26,_,f27,_,f28,_,f29,_,f30,_,f31,_,f32,_,f33,_,f34,_,f35,_,f36,_,f37,_,f38,_,f39,_,f40,_,f41,_,f42,_,f43,_,f44,_,f45,_,f46,_,f47,_,f48,_,f49,_,f50,_,f51,_,f52,_,f53,_,f54,_,f55,_,f56,_,f57,_,f58,_,f59,_,f60,_,f61,_,f62,_,f63,_,f64,_,f65,_,f66,_,f67,_,f68,_,f69,_,ca0,ca1,ca2,ca3,ca4,xa0,xa1,xa2,xa3,xa4,xa5,xa6,xa7,xa8,xa9,xa10,xa11⟩:=⟨ji (st:=jjn) l0 c0 k0,
W.mg_of X G a0,
bn1 (ji (st:=jjn) l0 c0 k0),
ji (st:=jev) l1 c1 k1,
W.mg_of X G a1,
bn3 (ji (st:=jev) l1 c1 k1),
ji (st:=jji) l2 c2 k2,
W.mg_of X G a2,
j2m λ_ _ _=>.of_eq rfl,
⟨_,j7a e2 rfl rfl rfl rfl rfl rfl rfl (by decide +kernel)⟩,
ji (st:=jjp) l3 c3 k3,
W.mg_of X G a3,
bn1 (ji (st:=jjp) l3 c3 k3),
ji (st:=jb7) l4 c4 k4,
W.mg_of X G a4,
bn2 (ji (st:=jb7) l4 c4 k4),
ji (st:=jav) l5 c5 k5,
W.mg_of X G a5,
bn2 (ji (st:=jav) l5 c5 k5),
ji (st:=ua) l6 c6 k6,
W.mg_of X G a6,
bn1 (ji (st:=ua) l6 c6 k6),
ji (st:=jpj) l7 c7 k7,
W.mg_of X G a7,
bn1 (ji (st:=jpj) l7 c7 k7),
ji (st:=jlc) l8 c8 k8,
W.mg_of X G a8,
j2m λ_ _ _=>.of_eq rfl,
ji (st:=jld) l9 c9 k9,
W.mg_of X G a9,
j2m λ_ _ _=>.of_eq rfl,
ji (st:=jjo) l10 c10 k10,
W.mg_of X G a10,
bn1 (ji (st:=jjo) l10 c10 k10),
ji (st:=ky) l11 c11 k11,
W.mg_of X G a11,
bn1 (ji (st:=ky) l11 c11 k11),
ji (st:=wd) l12 c12 k12,
⟨xrn12,a12,xd12a,xd12b,xd12c,xd12d⟩,
bn2 (ji (st:=wd) l12 c12 k12),
ji (st:=jmi) l13 c13 k13,
W.mg_of X G a13,
⟨λs us ws _ hl=>match us,ws,hl with | [_],[_,_,_],_=>.of_eq rfl,λ{vs us zs ws} r1 r2=>j12 r1 r2⟩,
ji (st:=jff) l14 c14 k14,
W.mg_of X G a14,
j8i λ_ _ _ _=>.of_eq rfl,
ji (st:=jfs) l15 c15 k15,
W.mg_of X G a15,
j2m λ_ _ _=>.of_eq rfl,
ji (st:=kz) l16 c16 k16,
⟨a16,n16,k16⟩,
⟨mk16,a16,n16,mq16⟩,
bn2 (ji (st:=kz) l16 c16 k16),
ji (st:=wc) l17 c17 k17,
⟨a17,n17,k17⟩,
bn2 (ji (st:=wc) l17 c17 k17),
ji (st:=jdo) l18 c18 k18,
⟨a18,n18,k18⟩,
bn3 (ji (st:=jdo) l18 c18 k18),
ji (st:=jap) l19 c19 k19,
⟨a19,n19,k19⟩,
bn1 (ji (st:=jap) l19 c19 k19),
ji (st:=wa) l20 c20 k20,
⟨a20,n20,k20⟩,
bn2 (ji (st:=wa) l20 c20 k20),
ji (st:=ja6) l21 c21 k21,
⟨a21,n21,k21⟩,
⟨mk21,a21,n21,mq21⟩,
bn2 (ji (st:=ja6) l21 c21 k21),
ji (st:=jbs) l22 c22 k22,
⟨a22,n22,k22⟩,
bn2 (ji (st:=jbs) l22 c22 k22),
ji (st:=jae) l23 c23 k23,
⟨a23,n23,k23⟩,
bn2 (ji (st:=jae) l23 c23 k23),
ji (st:=jaw) l24 c24 k24,
⟨a24,n24,k24⟩,
bn2 (ji (st:=jaw) l24 c24 k24),
ji (st:=gq) l25 c25 k25,
⟨a25,n25,k25⟩,
⟨mk25,a25,n25,mq25⟩,
bn2 (ji (st:=gq) l25 c25 k25),
ji (st:=ud) l26 c26 k26,
⟨a26,n26,k26⟩,
bn3 (ji (st:=ud) l26 c26 k26),
ji (st:=xl) l27 c27 k27,
⟨a27,n27,k27⟩,
bn1 (ji (st:=xl) l27 c27 k27),
ji (st:=xy) l28 c28 k28,
⟨a28,n28,k28⟩,
bn1 (ji (st:=xy) l28 c28 k28),
ji (st:=kh) l29 c29 k29,
⟨a29,n29,k29⟩,
bn1 (ji (st:=kh) l29 c29 k29),
ji (st:=jdb) l30 c30 k30,
⟨a30,n30,k30⟩,
bn2 (ji (st:=jdb) l30 c30 k30),
ji (st:=yy) l31 c31 k31,
⟨a31,n31,k31⟩,
bn2 (ji (st:=yy) l31 c31 k31),
ji (st:=jct) l32 c32 k32,
⟨a32,n32,k32⟩,
⟨mk32,a32,n32,mq32⟩,
⟨λs us ws _ hl=>match us,ws,hl with | [_,_],[_,_,_,_],_=>.of_eq rfl,λ{vs us zs ws} r1 r2=>j2x r1 r2⟩,
ji (st:=jao) l33 c33 k33,
⟨a33,n33,k33⟩,
bn1 (ji (st:=jao) l33 c33 k33),
ji (st:=jb1) l34 c34 k34,
⟨a34,n34,k34⟩,
bn1 (ji (st:=jb1) l34 c34 k34),
ji (st:=jb0) l35 c35 k35,
⟨a35,n35,k35⟩,
bn1 (ji (st:=jb0) l35 c35 k35),
ji (st:=jc7) l36 c36 k36,
⟨a36,n36,k36⟩,
bn2 (ji (st:=jc7) l36 c36 k36),
ji (st:=gi) l37 c37 k37,
⟨a37,n37,k37⟩,
bn2 (ji (st:=gi) l37 c37 k37),
ji (st:=va) l38 c38 k38,
⟨a38,n38,k38⟩,
bn2 (ji (st:=va) l38 c38 k38),
ji (st:=yz) l39 c39 k39,
⟨a39,n39,k39⟩,
bn3 (ji (st:=yz) l39 c39 k39),
ji (st:=vb) l40 c40 k40,
⟨a40,n40,k40⟩,
bn2 (ji (st:=vb) l40 c40 k40),
ji (st:=we) l41 c41 k41,
⟨a41,n41,k41⟩,
bn2 (ji (st:=we) l41 c41 k41),
ji (st:=zx) l42 c42 k42,
⟨a42,n42,k42⟩,
bn3 (ji (st:=zx) l42 c42 k42),
ji (st:=yj) l43 c43 k43,
⟨a43,n43,k43⟩,
bn3 (ji (st:=yj) l43 c43 k43),
ji (st:=jd3) l44 c44 k44,
⟨a44,n44,k44⟩,
bn4 (ji (st:=jd3) l44 c44 k44),
ji (st:=jda) l45 c45 k45,
⟨a45,n45,k45⟩,
bn3 (ji (st:=jda) l45 c45 k45),
ji (st:=jgo) l46 c46 k46,
⟨a46,n46,k46⟩,
bn3 (ji (st:=jgo) l46 c46 k46),
ji (st:=jeu) l47 c47 k47,
⟨a47,n47,k47⟩,
bn3 (ji (st:=jeu) l47 c47 k47),
ji (st:=jcb) l48 c48 k48,
⟨a48,n48,k48⟩,
bn2 (ji (st:=jcb) l48 c48 k48),
ji (st:=jje) l49 c49 k49,
W.mg_of X G a49,
bn3 (ji (st:=jje) l49 c49 k49),
ji (st:=jpa) l50 c50 k50,
W.mg_of X G a50,
bn1 (ji (st:=jpa) l50 c50 k50),
ji (st:=jbg) l51 c51 k51,
⟨a51,n51,k51⟩,
⟨mk51,a51,n51,mq51⟩,
⟨λs us ws _ hl=>match us,ws,hl with | [_,_],[_,_,_],_=>.of_eq rfl,λ{vs us zs ws} r1 r2=>j1p r1 r2⟩,
ji (st:=jb5) l52 c52 k52,
⟨a52,n52,k52⟩,
bn2 (ji (st:=jb5) l52 c52 k52),
ji (st:=je8) l53 c53 k53,
⟨a53,n53,k53⟩,
bn1 (ji (st:=je8) l53 c53 k53),
ji (st:=zt) l54 c54 k54,
⟨a54,n54,k54⟩,
bn1 (ji (st:=zt) l54 c54 k54),
ji (st:=jbw) l55 c55 k55,
⟨a55,n55,k55⟩,
bn3 (ji (st:=jbw) l55 c55 k55),
ji (st:=jgk) l56 c56 k56,
W.mg_of X G a56,
bn1 (ji (st:=jgk) l56 c56 k56),
ji (st:=jdl) l57 c57 k57,
W.mg_of X G a57,
bn2 (ji (st:=jdl) l57 c57 k57),
ji (st:=jgf) l58 c58 k58,
W.mg_of X G a58,
bn2 (ji (st:=jgf) l58 c58 k58),
ji (st:=je9) l59 c59 k59,
W.mg_of X G a59,
bn1 (ji (st:=je9) l59 c59 k59),
ji (st:=jl1) l60 c60 k60,
W.mg_of X G a60,
bn2 (ji (st:=jl1) l60 c60 k60),
ji (st:=ku) l61 c61 k61,
W.mg_of X G a61,
bn1 (ji (st:=ku) l61 c61 k61),
ji (st:=jd2) l62 c62 k62,
W.mg_of X G a62,
bn3 (ji (st:=jd2) l62 c62 k62),
ji (st:=jb8) l63 c63 k63,
W.mg_of X G a63,
bn1 (ji (st:=jb8) l63 c63 k63),
ji (st:=jd9) l64 c64 k64,
W.mg_of X G a64,
bn5 (ji (st:=jd9) l64 c64 k64),
ji (st:=jat) l65 c65 k65,
W.mg_of X G a65,
bn2 (ji (st:=jat) l65 c65 k65),
ji (st:=jce) l66 c66 k66,
W.mg_of X G a66,
bn3 (ji (st:=jce) l66 c66 k66),
ji (st:=jie) l67 c67 k67,
W.mg_of X G a67,
bn3 (ji (st:=jie) l67 c67 k67),
ji (st:=jan) l68 c68 k68,
W.mg_of X G a68,
bn2 (ji (st:=jan) l68 c68 k68),
ji (st:=j0n) l69 c69 k69,
W.mg_of X G a69,
bn1 (ji (st:=j0n) l69 c69 k69),
⟨_,W.mg_of X G hgc0⟩,
⟨_,W.mg_of X G hgc1⟩,
⟨_,W.mg_of X G hgc2⟩,
⟨_,W.mg_of X G hgc3⟩,
⟨_,W.mg_of X G hgc4⟩,
⟨_,W.mg_of X G hgc5⟩,
⟨_,W.mg_of X G hgc6⟩,
⟨_,W.mg_of X G hgc7⟩,
⟨_,W.mg_of X G hgc8⟩,
W.mg_of X G cm0,
⟨cg0,ch0,co0,cs0⟩,
cn0_0,
cn0_1,
W.mg_of X G cm1,
⟨cg1,ch1,co1,cs1⟩,
cn1_0,
cn1_1,
cn1_2,
cn1_3,
cn1_4,
cn1_5,
cn1_6,
W.mg_of X G cm2,
⟨cg2,ch2,co2,cs2⟩,
cn2_0,
cn2_1,
cn2_2,
cn2_3,
cn2_4,
cn2_5,
cn2_6,
cn2_7,
W.mg_of X G cm3,
⟨cg3,ch3,co3,cs3⟩,
cn3_0,
cn3_1,
cn3_2,
W.mg_of X G cm4,
⟨cg4,ch4,co4,cs4⟩,
cn4_0,
cn4_1,
cn4_2,
cn4_3,
cn4_4,
cn4_5,
cn4_6,
⟨ih0,n23,k23⟩,
⟨ih1,n22,k22⟩,
⟨ih2,n24,k24⟩,
⟨yp0,yr0,yf0,k21⟩,
W.mg_of X G xm0,
W.mg_of X G xm1,
W.mg_of X G xm2,
W.mg_of X G xm3,
W.mg_of X G xm4,
W.mg_of X G xm5,
W.mg_of X G xm6,
W.mg_of X G xm7,
W.mg_of X G xm8,
W.mg_of X G xm9,
W.mg_of X G xm10,
W.mg_of X G xm11,
⟨xg0,xh0,xj0,xp0,xo0,xs0⟩,
xk0,
xc0_0,
xr1,
⟨xg1,xh1,xj1,xp1,xo1,xs1⟩,
xk1,
xc1_0,
xr2,
⟨xg2,xh2,xj2,xp2,xo2,xs2⟩,
xk2,
xc2_0,
xb0,
W.mg_none_of X G z0,
W.mg_none_of X G z1,
W.mg_none_of X G z2,
W.mg_none_of X G z3,
W.mg_none_of X G z4,
W.mg_none_of X G z5,
W.mg_none_of X G z6,
W.mg_none_of X G z7,
W.mg_none_of X G z8,
W.mg_none_of X G z9,
W.mg_none_of X G z10,
W.mg_none_of X G z11,
W.mg_none_of X G z12⟩
 have e:=hfa.symm.trans T.j65
 cases e
 exact ⟨_,λs v=>.of_eq rfl,λbase _ _=>j53 T⟩
end M
namespace PySem.W.Fast
theorem tw16367887333673927418:True:=⟨⟩
theorem tw6215367423635862389:True:=⟨⟩
theorem tw12615431879629711672:True:=⟨⟩
theorem tw9963342347992445001:True:=⟨⟩
theorem tw8112095324500067526:True:=⟨⟩
theorem tw7942196546760755102:True:=⟨⟩
theorem tw2700846154002269954:True:=⟨⟩
theorem tw14619085629202108003:True:=⟨⟩
theorem tw17344161859010853021:True:=⟨⟩
theorem tw7850957191424647965:True:=⟨⟩
theorem tw18021273204691086803:True:=⟨⟩
theorem tw229690071548061872:True:=⟨⟩
theorem tw1170692585954138486:True:=⟨⟩
theorem tw12400555164500242317:True:=⟨⟩
theorem tw15386310219822851009:True:=⟨⟩
theorem tw13874814514725526352:True:=⟨⟩
theorem tw7565056877418291377:True:=⟨⟩
theorem tw2581894723371922111:True:=⟨⟩
theorem tw3340457315315074131:True:=⟨⟩
theorem tw18081073809670753602:True:=⟨⟩
theorem tw6639897776150305715:True:=⟨⟩
theorem tw13814932484619716036:True:=⟨⟩
theorem tw14673979672936166665:True:=⟨⟩
theorem tw9360545627152940795:True:=⟨⟩
theorem tw7486691258279014446:True:=⟨⟩
theorem tw13499564744654214527:True:=⟨⟩
theorem tw436944458714118103:True:=⟨⟩
theorem tw10670628941545292094:True:=⟨⟩
theorem tw3385585892722292285:True:=⟨⟩
theorem tw12261532648285841616:True:=⟨⟩
theorem tw13884823818068012865:True:=⟨⟩
theorem tw18392141469033580808:True:=⟨⟩
theorem tw16563437003621372402:True:=⟨⟩
theorem tw12529418512526267031:True:=⟨⟩
theorem tw3954174854716773025:True:=⟨⟩
theorem tw3323608626296048142:True:=⟨⟩
theorem tw17270811876820796420:True:=⟨⟩
theorem tw17525293420322834205:True:=⟨⟩
theorem tw4390461692582516971:True:=⟨⟩
theorem tw8142663383202295443:True:=⟨⟩
theorem tw184647040872706434:True:=⟨⟩
theorem tw4199684108812813970:True:=⟨⟩
theorem tw14562237176797598880:True:=⟨⟩
theorem tw3129764074090656039:True:=⟨⟩
theorem tw7351547299629341803:True:=⟨⟩
theorem tw16701589450584520683:True:=⟨⟩
theorem tw9576392053893274233:True:=⟨⟩
theorem tw10731766322225213813:True:=⟨⟩
theorem tw8138600182599235166:True:=⟨⟩
theorem tw1461598499476160160:True:=⟨⟩
theorem tw6445956617687470925:True:=⟨⟩
theorem tw10408709425313506694:True:=⟨⟩
theorem tw15404693418905035297:True:=⟨⟩
theorem tw9533382943634863387:True:=⟨⟩
theorem tw5994348302358489915:True:=⟨⟩
theorem tw8038077903414859994:True:=⟨⟩
theorem tw14479934827302421175:True:=⟨⟩
theorem tw11729889385351172914:True:=⟨⟩
theorem tw223030254398541135:True:=⟨⟩
theorem tw16600394580019192207:True:=⟨⟩
theorem tw17139651850286603442:True:=⟨⟩
theorem tw2944786274439323908:True:=⟨⟩
theorem tw5916473189765302048:True:=⟨⟩
theorem tw622093632270042995:True:=⟨⟩
theorem tw15553323008737815437:True:=⟨⟩
theorem tw12488084975246426998:True:=⟨⟩
theorem tw184652553692788158:True:=⟨⟩
theorem tw4614858964593687690:True:=⟨⟩
theorem tw2050872173730670420:True:=⟨⟩
theorem tw4972911239744526035:True:=⟨⟩
theorem tw11042853768723506440:True:=⟨⟩
theorem tw9489634756326137029:True:=⟨⟩
theorem tw10369479051940203270:True:=⟨⟩
theorem tw1148125266638561726:True:=⟨⟩
theorem tw9796810275469243370:True:=⟨⟩
theorem tw16436326338850372707:True:=⟨⟩
theorem tw18242240894560138816:True:=⟨⟩
theorem tw4227990671054402474:True:=⟨⟩
theorem tw16305879521420630439:True:=⟨⟩
theorem tw3685762933080124107:True:=⟨⟩
theorem tw16487208510263663682:True:=⟨⟩
theorem tw150513203702426778:True:=⟨⟩
theorem tw5955930118662686277:True:=⟨⟩
theorem tw15015114579343222645:True:=⟨⟩
theorem tw14477134244267953848:True:=⟨⟩
theorem tw9464202408877912999:True:=⟨⟩
theorem tw7204677415678078514:True:=⟨⟩
theorem tw5264537379573819155:True:=⟨⟩
theorem tw11141497182644726794:True:=⟨⟩
theorem tw9885882444617753308:True:=⟨⟩
theorem tw2994098906790961434:True:=⟨⟩
theorem tw18328512397091580998:True:=⟨⟩
theorem tw14537886191290227917:True:=⟨⟩
theorem tw16258187689876652567:True:=⟨⟩
theorem tw4416192829199118211:True:=⟨⟩
theorem tw8643700872003015100:True:=⟨⟩
theorem tw4458922773071352189:True:=⟨⟩
theorem tw3552911855111933796:True:=⟨⟩
theorem tw8104228802292753590:True:=⟨⟩
theorem tw11773118530536081914:True:=⟨⟩
theorem tw4637433033341804071:True:=⟨⟩
theorem tw8594085963553696451:True:=⟨⟩
theorem tw1267855787185850471:True:=⟨⟩
theorem tw7033797449921012795:True:=⟨⟩
theorem tw7117966834904784919:True:=⟨⟩
theorem tw3822122672024164966:True:=⟨⟩
theorem tw1983354604888504887:True:=⟨⟩
theorem tw4357216654554126376:True:=⟨⟩
theorem tw17550647347178943915:True:=⟨⟩
theorem tw6012281150627749423:True:=⟨⟩
theorem tw3777908602332185363:True:=⟨⟩
theorem tw14767135310941322092:True:=⟨⟩
theorem tw4628766157919565220:True:=⟨⟩
theorem tw1456958022986701131:True:=⟨⟩
theorem tw12866918088689000065:True:=⟨⟩
theorem tw14860459924838384349:True:=⟨⟩
theorem tw18280152796525575087:True:=⟨⟩
theorem tw17364538817688033413:True:=⟨⟩
theorem tw273170555405547160:True:=⟨⟩
theorem tw13081913603664685363:True:=⟨⟩
theorem tw6231439586215683255:True:=⟨⟩
theorem tw3568359715402634187:True:=⟨⟩
theorem tw7050404326979408618:True:=⟨⟩
theorem tw13442648552673253694:True:=⟨⟩
theorem tw11527814363270263484:True:=⟨⟩
theorem tw54298382286754698:True:=⟨⟩
theorem tw5020286434982693633:True:=⟨⟩
theorem tw3165773857101373285:True:=⟨⟩
theorem tw11082096747161352208:True:=⟨⟩
theorem tw7878538384476228559:True:=⟨⟩
theorem tw5728274654502916603:True:=⟨⟩
theorem tw14053181530225825150:True:=⟨⟩
theorem tw515198297676339833:True:=⟨⟩
theorem tw18254357723819149186:True:=⟨⟩
theorem tw9861297361581979839:True:=⟨⟩
theorem tw10349032995072635107:True:=⟨⟩
theorem tw16515808842511530175:True:=⟨⟩
theorem tw11263822884107276152:True:=⟨⟩
theorem tw10082092748768268946:True:=⟨⟩
theorem tw12633044985428967550:True:=⟨⟩
theorem tw6042488997720248532:True:=⟨⟩
theorem tw8086423033419898178:True:=⟨⟩
theorem tw15925257718916313330:True:=⟨⟩
theorem tw18150416313498750906:True:=⟨⟩
theorem tw14363386988525675056:True:=⟨⟩
theorem tw5522094338668454667:True:=⟨⟩
theorem tw17082025530975461306:True:=⟨⟩
theorem tw2550253200595313829:True:=⟨⟩
theorem tw5868688957564564759:True:=⟨⟩
theorem tw10060990615016829879:True:=⟨⟩
theorem tw6219155769678612262:True:=⟨⟩
theorem tw6107971411534838465:True:=⟨⟩
theorem tw10089237098603017169:True:=⟨⟩
theorem tw2491109153472900369:True:=⟨⟩
theorem tw2530497651718803191:True:=⟨⟩
theorem tw16414697384994168154:True:=⟨⟩
theorem tw8277592320802092694:True:=⟨⟩
theorem tw17234215181208955149:True:=⟨⟩
theorem tw15080857806778927704:True:=⟨⟩
theorem tw12105862418378558278:True:=⟨⟩
theorem tw6746568953428961074:True:=⟨⟩
theorem tw12541843084114992547:True:=⟨⟩
theorem tw8807258292597338283:True:=⟨⟩
theorem tw10006308840664111544:True:=⟨⟩
theorem tw5160429095767034321:True:=⟨⟩
theorem tw3587814844595143796:True:=⟨⟩
theorem tw18006472547289836638:True:=⟨⟩
theorem tw14970677179106175096:True:=⟨⟩
theorem tw13444005162919976858:True:=⟨⟩
theorem tw5478691839496899376:True:=⟨⟩
theorem tw678559084823000588:True:=⟨⟩
theorem tw1103415462360334460:True:=⟨⟩
theorem tw13444324705961725094:True:=⟨⟩
theorem tw7815157827356223891:True:=⟨⟩
theorem tw12211563233189511403:True:=⟨⟩
theorem tw5593601401484951762:True:=⟨⟩
theorem tw5752220422331029021:True:=⟨⟩
theorem tw5964535376399162124:True:=⟨⟩
theorem tw12128372723797406360:True:=⟨⟩
theorem tw6440128723816478945:True:=⟨⟩
theorem tw9884363096450700879:True:=⟨⟩
theorem tw17414161795040215245:True:=⟨⟩
theorem tw10661875527797296728:True:=⟨⟩
theorem tw11200973297214848628:True:=⟨⟩
theorem tw12251377894437632783:True:=⟨⟩
theorem tw5313538832164566692:True:=⟨⟩
theorem tw2604174951370284003:True:=⟨⟩
theorem tw8346835335842035021:True:=⟨⟩
theorem tw7809982755015302214:True:=⟨⟩
theorem tw13317919356434928565:True:=⟨⟩
theorem tw3105617214988793542:True:=⟨⟩
theorem tw11700300149871989929:True:=⟨⟩
theorem tw11667611484568926376:True:=⟨⟩
theorem tw15629949120395405009:True:=⟨⟩
theorem tw17106650551787291079:True:=⟨⟩
theorem tw6378634709707848149:True:=⟨⟩
theorem tw1052309122023814101:True:=⟨⟩
theorem tw6523627172849652586:True:=⟨⟩
theorem tw8302095906579617274:True:=⟨⟩
theorem tw9969287160370739227:True:=⟨⟩
theorem tw161677601304842683:True:=⟨⟩
theorem tw18124165792119303359:True:=⟨⟩
theorem tw2532121758932201161:True:=⟨⟩
theorem tw7359816153103537460:True:=⟨⟩
theorem tw14363082356350564295:True:=⟨⟩
theorem tw15283598527029973333:True:=⟨⟩
theorem tw2196473135300074019:True:=⟨⟩
theorem tw5634355032955458509:True:=⟨⟩
theorem tw8650642120549147963:True:=⟨⟩
theorem tw106043868447456251:True:=⟨⟩
theorem tw6227909321454293988:True:=⟨⟩
theorem tw11649968705839299627:True:=⟨⟩
theorem tw3566296517091004970:True:=⟨⟩
theorem tw4182850348141880101:True:=⟨⟩
theorem tw13769248279034654673:True:=⟨⟩
theorem tw15591416100216115336:True:=⟨⟩
theorem tw18174373313779898797:True:=⟨⟩
theorem tw1866599371925652489:True:=⟨⟩
theorem tw12001829030907216924:True:=⟨⟩
theorem tw15841114815791358221:True:=⟨⟩
theorem tw10093832025229930883:True:=⟨⟩
theorem tw3824643273606338598:True:=⟨⟩
theorem tw16660637081786528481:True:=⟨⟩
theorem tw14372296750983554901:True:=⟨⟩
theorem tw1437102869262612262:True:=⟨⟩
theorem tw3964687696395800184:True:=⟨⟩
theorem tw15046474095163269017:True:=⟨⟩
theorem tw3193922346675493842:True:=⟨⟩
theorem tw15486524254994777494:True:=⟨⟩
theorem tw12058838666155313278:True:=⟨⟩
theorem tw13511730833953176136:True:=⟨⟩
theorem tw17811572254220982714:True:=⟨⟩
theorem tw2342995152887957757:True:=⟨⟩
theorem tw5079204611044329825:True:=⟨⟩
theorem tw17526299912707636083:True:=⟨⟩
theorem tw11555914368159805808:True:=⟨⟩
theorem tw13508418656180988054:True:=⟨⟩
theorem tw3259881934680482432:True:=⟨⟩
theorem tw1945397336487373859:True:=⟨⟩
theorem tw8014832588335057208:True:=⟨⟩
theorem tw6577035874504031514:True:=⟨⟩
theorem tw10696063049048819218:True:=⟨⟩
theorem tw17393680256952715506:True:=⟨⟩
theorem tw17857692100509874267:True:=⟨⟩
theorem tw1720457010645463272:True:=⟨⟩
theorem tw13964338486219672504:True:=⟨⟩
theorem tw12675957766289937031:True:=⟨⟩
theorem tw17381644608045875651:True:=⟨⟩
theorem tw15904614075625552488:True:=⟨⟩
theorem tw2047507918578892680:True:=⟨⟩
theorem tw14301398065326746334:True:=⟨⟩
theorem tw14844984477596314552:True:=⟨⟩
theorem tw80692337964979895:True:=⟨⟩
theorem tw16522251520192554721:True:=⟨⟩
theorem tw7432787270266824380:True:=⟨⟩
theorem tw11999947543869565523:True:=⟨⟩
theorem tw1140547153116523921:True:=⟨⟩
theorem tw6569398150345552692:True:=⟨⟩
theorem tw3979553688714763994:True:=⟨⟩
theorem tw13860747064863646322:True:=⟨⟩
theorem tw8661851816690947234:True:=⟨⟩
theorem tw5977613804282691247:True:=⟨⟩
theorem tw11979009511204060008:True:=⟨⟩
theorem tw14371599371952607443:True:=⟨⟩
theorem tw76534547697089493:True:=⟨⟩
theorem tw9150113273239235566:True:=⟨⟩
theorem tw2849559933274755664:True:=⟨⟩
theorem tw1780394601472417143:True:=⟨⟩
theorem tw12235063357328916322:True:=⟨⟩
theorem tw9623293746447977566:True:=⟨⟩
theorem tw6328558837337008559:True:=⟨⟩
theorem tw3063847427406278500:True:=⟨⟩
theorem tw6147529401772766541:True:=⟨⟩
theorem tw4607099693024407844:True:=⟨⟩
theorem tw13916117577367110448:True:=⟨⟩
theorem tw11760358335637281727:True:=⟨⟩
theorem tw390137881252285803:True:=⟨⟩
theorem tw2236165561624926168:True:=⟨⟩
theorem tw17642990168881426311:True:=⟨⟩
theorem tw17608866501233370212:True:=⟨⟩
theorem tw7998034224079083826:True:=⟨⟩
theorem tw10011508266998831633:True:=⟨⟩
theorem tw3123617398647257484:True:=⟨⟩
theorem tw9877398578266637035:True:=⟨⟩
theorem tw14516642999001209107:True:=⟨⟩
theorem tw10648708638954677402:True:=⟨⟩
theorem tw17440233467633776723:True:=⟨⟩
theorem tw18177262566064532208:True:=⟨⟩
theorem tw12477155225365879140:True:=⟨⟩
theorem tw1323181989188065997:True:=⟨⟩
theorem tw5653584962753564053:True:=⟨⟩
theorem tw14236335037884278285:True:=⟨⟩
theorem tw5391173005828371177:True:=⟨⟩
theorem tw14055436644744125350:True:=⟨⟩
theorem tw2713191366760618877:True:=⟨⟩
theorem tw12198779371908245117:True:=⟨⟩
theorem tw7024792974322737363:True:=⟨⟩
theorem tw7656663829329500269:True:=⟨⟩
theorem tw12170487055012803803:True:=⟨⟩
theorem tw14162759814285168135:True:=⟨⟩
theorem tw13963806630075018840:True:=⟨⟩
theorem tw6866794758378751331:True:=⟨⟩
theorem tw2557644902250623567:True:=⟨⟩
theorem tw11344320991705493172:True:=⟨⟩
theorem tw8102537019945255286:True:=⟨⟩
theorem tw696098746692793057:True:=⟨⟩
theorem tw9375914322393104256:True:=⟨⟩
theorem tw12447584278973634846:True:=⟨⟩
theorem tw2443920682147653194:True:=⟨⟩
theorem tw13552894361392621206:True:=⟨⟩
theorem tw6615723379531517466:True:=⟨⟩
theorem tw16085503867659628632:True:=⟨⟩
theorem tw18383585687294342076:True:=⟨⟩
theorem tw8986679581328502999:True:=⟨⟩
theorem tw7389066951126248867:True:=⟨⟩
theorem tw15941537081126010567:True:=⟨⟩
theorem tw10403456231849260246:True:=⟨⟩
theorem tw4077528739123608116:True:=⟨⟩
theorem tw12010539063616109139:True:=⟨⟩
theorem tw2094428693306179302:True:=⟨⟩
theorem tw935720119162361482:True:=⟨⟩
theorem tw833868505697610887:True:=⟨⟩
theorem tw11504580966896539433:True:=⟨⟩
theorem tw1773838746749109282:True:=⟨⟩
theorem tw15922372881666856288:True:=⟨⟩
theorem tw1759954930335871401:True:=⟨⟩
theorem tw14088955128507529416:True:=⟨⟩
theorem tw3064214420940797159:True:=⟨⟩
theorem tw15617657611330681445:True:=⟨⟩
theorem tw5956351516270331585:True:=⟨⟩
theorem tw4278811588358061559:True:=⟨⟩
theorem tw17693198283753364001:True:=⟨⟩
theorem tw10791172543594531147:True:=⟨⟩
theorem tw14726512213070018920:True:=⟨⟩
theorem tw12267137777246954469:True:=⟨⟩
theorem tw1552876186621993279:True:=⟨⟩
theorem tw3509752835846873098:True:=⟨⟩
theorem tw12303918681966180504:True:=⟨⟩
theorem tw9175417439461026179:True:=⟨⟩
theorem tw2473241988127504560:True:=⟨⟩
theorem tw4665745523244475228:True:=⟨⟩
theorem tw8334190178498106018:True:=⟨⟩
theorem tw14736373311472708896:True:=⟨⟩
theorem tw2249722072026140118:True:=⟨⟩
theorem tw3151327247649819157:True:=⟨⟩
theorem tw6262490999154653895:True:=⟨⟩
theorem tw17512998002768683010:True:=⟨⟩
theorem tw2474267859066682002:True:=⟨⟩
theorem tw14398464849154479863:True:=⟨⟩
theorem tw10915227539466255468:True:=⟨⟩
theorem tw830827512388199709:True:=⟨⟩
theorem tw14603997337192415422:True:=⟨⟩
theorem tw15079943480035737505:True:=⟨⟩
theorem tw4136698920745945695:True:=⟨⟩
theorem tw7058223515236471959:True:=⟨⟩
theorem tw5119506313707775530:True:=⟨⟩
theorem tw6092301294807511304:True:=⟨⟩
theorem tw10167336208090825347:True:=⟨⟩
theorem tw7254317851742893413:True:=⟨⟩
theorem tw2314490916129703116:True:=⟨⟩
theorem tw13113352653203492626:True:=⟨⟩
theorem tw4815570584624763202:True:=⟨⟩
theorem tw1643084486612014754:True:=⟨⟩
theorem tw17698726205904963479:True:=⟨⟩
theorem tw3553680564266225523:True:=⟨⟩
theorem tw4137107059761866942:True:=⟨⟩
theorem tw7887325815083762697:True:=⟨⟩
theorem tw2648338936464605468:True:=⟨⟩
theorem tw17742488737264869278:True:=⟨⟩
theorem tw2709605891698106950:True:=⟨⟩
theorem tw15909376069642592380:True:=⟨⟩
theorem tw2021301956294513492:True:=⟨⟩
theorem tw3590968754007119903:True:=⟨⟩
theorem tw6260268911765839092:True:=⟨⟩
theorem tw11380756145191279676:True:=⟨⟩
theorem tw170607757650529715:True:=⟨⟩
theorem tw1348816943121602783:True:=⟨⟩
theorem tw14935766765564448779:True:=⟨⟩
theorem tw294850432796141733:True:=⟨⟩
theorem tw25745863886452750:True:=⟨⟩
theorem tw9804038577112434192:True:=⟨⟩
theorem tw16273936617115529353:True:=⟨⟩
theorem tw16657969043138561125:True:=⟨⟩
theorem tw13889839713476843054:True:=⟨⟩
theorem tw17175330718344157773:True:=⟨⟩
theorem tw15809569179662981866:True:=⟨⟩
theorem tw10501889467454924934:True:=⟨⟩
theorem tw5936425077934605582:True:=⟨⟩
theorem tw15623958441753604484:True:=⟨⟩
theorem tw17181381408707334250:True:=⟨⟩
theorem tw15427688859389273292:True:=⟨⟩
theorem tw2737242869630787353:True:=⟨⟩
theorem tw13566961615929457341:True:=⟨⟩
theorem tw13997966775381628696:True:=⟨⟩
theorem tw10164652105040237813:True:=⟨⟩
theorem tw3683826741579454909:True:=⟨⟩
theorem tw15280047955528512886:True:=⟨⟩
theorem tw2932537413591120692:True:=⟨⟩
theorem tw9751824412688091410:True:=⟨⟩
theorem tw12774826731539280143:True:=⟨⟩
theorem tw7596030680834359850:True:=⟨⟩
theorem tw5961993049531471869:True:=⟨⟩
theorem tw13921383213615437353:True:=⟨⟩
theorem tw10874496510808365781:True:=⟨⟩
theorem tw14915138751584482492:True:=⟨⟩
theorem tw6805916758074862585:True:=⟨⟩
theorem tw6522106896848034027:True:=⟨⟩
theorem tw7194910206619587681:True:=⟨⟩
theorem tw7366344056240634121:True:=⟨⟩
theorem tw17021389305129216845:True:=⟨⟩
theorem tw8027433435511470635:True:=⟨⟩
theorem tw13387142753704632390:True:=⟨⟩
theorem tw6204427094931668699:True:=⟨⟩
theorem tw16760606759782019641:True:=⟨⟩
theorem tw1299592931993453918:True:=⟨⟩
theorem tw16024920614198052626:True:=⟨⟩
theorem tw14427702076407914715:True:=⟨⟩
theorem tw17862734258154738816:True:=⟨⟩
theorem tw13832331026878232787:True:=⟨⟩
theorem tw2298031886153975533:True:=⟨⟩
theorem tw10297544512110614376:True:=⟨⟩
theorem tw2661379749689970855:True:=⟨⟩
theorem tw15093401510317093756:True:=⟨⟩
theorem tw12735221726148448255:True:=⟨⟩
theorem tw13566460058535683620:True:=⟨⟩
theorem tw198589861331705552:True:=⟨⟩
theorem tw2319096088600510530:True:=⟨⟩
theorem tw2960597029766437217:True:=⟨⟩
theorem tw6301719437315692483:True:=⟨⟩
theorem tw9096770324832458723:True:=⟨⟩
theorem tw17708990421246101318:True:=⟨⟩
theorem tw12411316245713312926:True:=⟨⟩
theorem tw407243996216810942:True:=⟨⟩
theorem tw13112311224265204734:True:=⟨⟩
theorem tw14710933362567247463:True:=⟨⟩
theorem tw9317413283299678802:True:=⟨⟩
theorem tw11067982406258703436:True:=⟨⟩
theorem tw14391578405022108795:True:=⟨⟩
theorem tw829101732855736596:True:=⟨⟩
theorem tw13495563730986766490:True:=⟨⟩
theorem tw1047808947148783218:True:=⟨⟩
theorem tw9296100514632451958:True:=⟨⟩
theorem tw1013049974846108538:True:=⟨⟩
theorem tw16119480084940124246:True:=⟨⟩
theorem tw6188393418727080940:True:=⟨⟩
theorem tw5644427342293414138:True:=⟨⟩
theorem tw9546431566055264924:True:=⟨⟩
theorem tw14131686969496177409:True:=⟨⟩
theorem tw9786083541386968577:True:=⟨⟩
theorem tw15722152600028052159:True:=⟨⟩
theorem tw9390646999660009269:True:=⟨⟩
theorem tw2966887653227640479:True:=⟨⟩
theorem tw6670631777036815774:True:=⟨⟩
theorem tw6475461641003922998:True:=⟨⟩
theorem tw8259094046614599061:True:=⟨⟩
theorem tw6793476628489684220:True:=⟨⟩
theorem tw2509281322348501869:True:=⟨⟩
theorem tw15588261479766375711:True:=⟨⟩
theorem tw13056710642405596089:True:=⟨⟩
theorem tw113135795140507045:True:=⟨⟩
theorem tw10354144209988740470:True:=⟨⟩
theorem tw4128201315461632218:True:=⟨⟩
theorem tw14712396032472385572:True:=⟨⟩
theorem tw8131697843718050005:True:=⟨⟩
theorem tw11391462302924054762:True:=⟨⟩
theorem tw13869042878839325360:True:=⟨⟩
theorem tw11852953525495533855:True:=⟨⟩
theorem tw4263076173971096466:True:=⟨⟩
theorem tw17925145775101857152:True:=⟨⟩
theorem tw4928427349191644434:True:=⟨⟩
theorem tw7331414756945441058:True:=⟨⟩
theorem tw3265560109843793089:True:=⟨⟩
theorem tw9723928146478600301:True:=⟨⟩
theorem tw8789946856667773430:True:=⟨⟩
theorem tw3099723750350196933:True:=⟨⟩
theorem tw4829250711065090273:True:=⟨⟩
theorem tw12250618099149435840:True:=⟨⟩
theorem tw3387402801209366162:True:=⟨⟩
theorem tw15938508718876453816:True:=⟨⟩
theorem tw18145374063132200443:True:=⟨⟩
theorem tw10133580319993848141:True:=⟨⟩
theorem tw10633949516023192149:True:=⟨⟩
theorem tw6631042198561700151:True:=⟨⟩
theorem tw7413741647747028424:True:=⟨⟩
theorem tw16570008018694913336:True:=⟨⟩
theorem tw15763305017452706264:True:=⟨⟩
theorem tw15092873403406054932:True:=⟨⟩
theorem tw15231986350354481485:True:=⟨⟩
theorem tw123318988282455893:True:=⟨⟩
theorem tw4914991230798332682:True:=⟨⟩
theorem tw5630316315888855557:True:=⟨⟩
theorem tw18203925816146367568:True:=⟨⟩
theorem tw1073300947827069209:True:=⟨⟩
theorem tw5148820316879752075:True:=⟨⟩
theorem tw1799922015832019595:True:=⟨⟩
theorem tw165778856796333932:True:=⟨⟩
theorem tw10825763796240185770:True:=⟨⟩
theorem tw1146388775864796845:True:=⟨⟩
theorem tw1375320290532329450:True:=⟨⟩
theorem tw12817968476697118943:True:=⟨⟩
theorem tw13099128724689759698:True:=⟨⟩
theorem tw5442562027893549311:True:=⟨⟩
theorem tw10859394491201418455:True:=⟨⟩
theorem tw813258549211950188:True:=⟨⟩
theorem tw15115462056298605048:True:=⟨⟩
theorem tw5895165990425328629:True:=⟨⟩
theorem tw5029152380196037133:True:=⟨⟩
theorem tw493189082572731581:True:=⟨⟩
theorem tw12744735423169968093:True:=⟨⟩
theorem tw12902562712835230461:True:=⟨⟩
theorem tw3182969987185264640:True:=⟨⟩
theorem tw15357411197530221680:True:=⟨⟩
theorem tw6957116612606922039:True:=⟨⟩
theorem tw14109117664828545598:True:=⟨⟩
theorem tw13637117880777852410:True:=⟨⟩
theorem tw15243102819826987001:True:=⟨⟩
theorem tw3273819750589789986:True:=⟨⟩
theorem tw203012605925722685:True:=⟨⟩
theorem tw11049401551064861338:True:=⟨⟩
theorem tw14789170524340111512:True:=⟨⟩
theorem tw17655466161223711071:True:=⟨⟩
theorem tw1070259454462559607:True:=⟨⟩
theorem tw10249694568332469478:True:=⟨⟩
theorem tw17114501269367530825:True:=⟨⟩
theorem tw3807535600089341592:True:=⟨⟩
theorem tw6353737109744803631:True:=⟨⟩
theorem tw17897959821526351720:True:=⟨⟩
theorem tw13802241942750897375:True:=⟨⟩
theorem tw10508744890663632236:True:=⟨⟩
theorem tw13465802653890737516:True:=⟨⟩
theorem tw10612496706796622381:True:=⟨⟩
theorem tw2036068743324723274:True:=⟨⟩
theorem tw8411571781466252244:True:=⟨⟩
theorem tw6067262710925719597:True:=⟨⟩
theorem tw8669135495676840444:True:=⟨⟩
theorem tw11494545121515143937:True:=⟨⟩
theorem tw11334984692456458120:True:=⟨⟩
theorem tw12565377668063286576:True:=⟨⟩
theorem tw3277311888741653941:True:=⟨⟩
theorem tw9613065316550519132:True:=⟨⟩
theorem tw5138707648700764082:True:=⟨⟩
theorem tw3697511409761017784:True:=⟨⟩
theorem tw7561838323349354520:True:=⟨⟩
theorem tw4019282369357977833:True:=⟨⟩
theorem tw5639058554676348093:True:=⟨⟩
theorem tw17505359315796890055:True:=⟨⟩
theorem tw10208788646676931916:True:=⟨⟩
theorem tw10544903253075587665:True:=⟨⟩
theorem tw17631804397785331455:True:=⟨⟩
theorem tw14789430329195994664:True:=⟨⟩
theorem tw6427705329912913676:True:=⟨⟩
theorem tw16724044047533161650:True:=⟨⟩
theorem tw6492466184757432084:True:=⟨⟩
theorem tw10223034855850915606:True:=⟨⟩
theorem tw5746440593111032684:True:=⟨⟩
theorem tw17500193279726584609:True:=⟨⟩
theorem tw5653825435573859765:True:=⟨⟩
theorem tw17987644181846603654:True:=⟨⟩
theorem tw5486502110354918670:True:=⟨⟩
theorem tw1928702004627989120:True:=⟨⟩
theorem tw16408132776315901823:True:=⟨⟩
theorem tw9435627350483854645:True:=⟨⟩
theorem tw574212944250068284:True:=⟨⟩
theorem tw10939671327750470975:True:=⟨⟩
theorem tw13560749747342727815:True:=⟨⟩
theorem tw17128729821674422603:True:=⟨⟩
theorem tw9251105718797569069:True:=⟨⟩
theorem tw17541862568187701590:True:=⟨⟩
theorem tw14480649135738306564:True:=⟨⟩
theorem tw3355369947038008071:True:=⟨⟩
theorem tw11079292488130059013:True:=⟨⟩
theorem tw5842985350602740198:True:=⟨⟩
theorem tw11979015865007414385:True:=⟨⟩
theorem tw3692473257499305243:True:=⟨⟩
theorem tw10615481950684527067:True:=⟨⟩
theorem tw5168923181289413565:True:=⟨⟩
theorem tw14758578485797065911:True:=⟨⟩
theorem tw1006988644715393467:True:=⟨⟩
theorem tw8102426948433578308:True:=⟨⟩
theorem tw9282823079069035946:True:=⟨⟩
theorem tw16493796921114263703:True:=⟨⟩
theorem tw7333476528401416774:True:=⟨⟩
theorem tw7139587456510535296:True:=⟨⟩
theorem tw16197352986304243841:True:=⟨⟩
theorem tw8054945649735976613:True:=⟨⟩
theorem tw15258704131153179448:True:=⟨⟩
theorem tw7850649861471394182:True:=⟨⟩
theorem tw8712300272638767170:True:=⟨⟩
theorem tw8960316460979012524:True:=⟨⟩
theorem tw986982917483162534:True:=⟨⟩
theorem tw10553024193415151492:True:=⟨⟩
theorem tw7155576656413623035:True:=⟨⟩
theorem tw13034277258586436338:True:=⟨⟩
theorem tw4475408846044151307:True:=⟨⟩
theorem tw8926951211871021197:True:=⟨⟩
theorem tw7001175779574581125:True:=⟨⟩
theorem tw7220245451070392105:True:=⟨⟩
theorem tw1584420600213622024:True:=⟨⟩
theorem tw6344343963950970066:True:=⟨⟩
theorem tw2763244085035204347:True:=⟨⟩
theorem tw6831714591236591211:True:=⟨⟩
theorem tw5871016354572547485:True:=⟨⟩
theorem tw11508668198278179045:True:=⟨⟩
theorem tw4326761675141376051:True:=⟨⟩
theorem tw7290087291924117929:True:=⟨⟩
theorem tw437598856390072917:True:=⟨⟩
theorem tw1368281105844837827:True:=⟨⟩
theorem tw14202885446450006284:True:=⟨⟩
theorem tw6927828872156648366:True:=⟨⟩
theorem tw11992327032390765101:True:=⟨⟩
theorem tw17784281185968761096:True:=⟨⟩
theorem tw6637874297591354048:True:=⟨⟩
theorem tw5154484422657392091:True:=⟨⟩
theorem tw11484749901029180301:True:=⟨⟩
theorem tw14074745751154253778:True:=⟨⟩
theorem tw6546029622038097690:True:=⟨⟩
theorem tw254531117736608244:True:=⟨⟩
theorem tw6689171848190233035:True:=⟨⟩
theorem tw2581132455820815086:True:=⟨⟩
theorem tw6898022523165784801:True:=⟨⟩
theorem tw11443878293008402284:True:=⟨⟩
theorem tw14165097494577711858:True:=⟨⟩
theorem tw16262582924271840176:True:=⟨⟩
theorem tw10340817854589173595:True:=⟨⟩
theorem tw13699150435550699181:True:=⟨⟩
theorem tw2261501930544950934:True:=⟨⟩
theorem tw12260555569757952622:True:=⟨⟩
theorem tw15040847682999751743:True:=⟨⟩
theorem tw3241450364622398854:True:=⟨⟩
theorem tw4924223652287960236:True:=⟨⟩
theorem tw13405949488306549928:True:=⟨⟩
theorem tw2062541170124814219:True:=⟨⟩
theorem tw12419609177507084442:True:=⟨⟩
theorem tw18119276403596445980:True:=⟨⟩
theorem tw17281750439387183513:True:=⟨⟩
theorem tw7665811421403432750:True:=⟨⟩
theorem tw285959992012841680:True:=⟨⟩
theorem tw17635156176654293558:True:=⟨⟩
theorem tw6755895266479784438:True:=⟨⟩
theorem tw17410187844061912069:True:=⟨⟩
theorem tw5258395791376657323:True:=⟨⟩
theorem tw5503628749339190552:True:=⟨⟩
theorem tw17632005258552532506:True:=⟨⟩
theorem tw11603833940872385290:True:=⟨⟩
theorem tw6436236122332837599:True:=⟨⟩
theorem tw11961867012237211266:True:=⟨⟩
theorem tw4435017323137588124:True:=⟨⟩
theorem tw15831815525118847063:True:=⟨⟩
theorem tw14646382958691560029:True:=⟨⟩
theorem tw12558387105933678827:True:=⟨⟩
theorem tw12763194024477736950:True:=⟨⟩
theorem tw601572150898830055:True:=⟨⟩
theorem tw16542437390088805215:True:=⟨⟩
theorem tw10858892329165036263:True:=⟨⟩
theorem tw2798132292964261301:True:=⟨⟩
theorem tw1366820775001861069:True:=⟨⟩
theorem tw1225796951825583332:True:=⟨⟩
theorem tw17391324029709323199:True:=⟨⟩
theorem tw3913130367469664964:True:=⟨⟩
theorem tw7046816917102171268:True:=⟨⟩
theorem tw9265956814532181274:True:=⟨⟩
theorem tw1012579375305743087:True:=⟨⟩
theorem tw11273012620887214900:True:=⟨⟩
theorem tw7347955821384650957:True:=⟨⟩
theorem tw14173104227329207571:True:=⟨⟩
theorem tw4891925819004054655:True:=⟨⟩
theorem tw12620460265357562234:True:=⟨⟩
theorem tw14970092114433988815:True:=⟨⟩
theorem tw9450481950580119158:True:=⟨⟩
theorem tw15733925382318957399:True:=⟨⟩
theorem tw15895319193778926561:True:=⟨⟩
theorem tw9486262041299520396:True:=⟨⟩
theorem tw9686420649560701413:True:=⟨⟩
theorem tw1070224248094804063:True:=⟨⟩
theorem tw7893078645812125990:True:=⟨⟩
theorem tw11986227358272007978:True:=⟨⟩
theorem tw3863278278810890433:True:=⟨⟩
theorem tw17583987858716798812:True:=⟨⟩
theorem tw16973952600267127137:True:=⟨⟩
theorem tw12833851491371741823:True:=⟨⟩
theorem tw16173901167316552552:True:=⟨⟩
theorem tw2587062965531111217:True:=⟨⟩
theorem tw3793505647591972771:True:=⟨⟩
theorem tw7337841557674446273:True:=⟨⟩
theorem tw7023424964331879410:True:=⟨⟩
theorem tw8018692132201983737:True:=⟨⟩
theorem tw5853910208812006468:True:=⟨⟩
theorem tw15324397986012640692:True:=⟨⟩
theorem tw15406041764842678124:True:=⟨⟩
theorem tw11467178473156804032:True:=⟨⟩
theorem tw16260728356181767593:True:=⟨⟩
theorem tw3728564784206915770:True:=⟨⟩
theorem tw18319126940173924146:True:=⟨⟩
theorem tw13548125956112844752:True:=⟨⟩
theorem tw17631129440344984756:True:=⟨⟩
theorem tw6367055139414065674:True:=⟨⟩
theorem tw17106295299067893756:True:=⟨⟩
theorem tw5056146605311882740:True:=⟨⟩
theorem tw7842943514552880864:True:=⟨⟩
theorem tw12142703132991797395:True:=⟨⟩
theorem tw13632654728055913934:True:=⟨⟩
theorem tw1753775213318206726:True:=⟨⟩
theorem tw3767391896902079949:True:=⟨⟩
theorem tw8742850245789716719:True:=⟨⟩
theorem tw10519074419865488136:True:=⟨⟩
theorem tw15314084403938626598:True:=⟨⟩
theorem tw15242435647467763838:True:=⟨⟩
theorem tw1491922025439440120:True:=⟨⟩
theorem tw4754048818352784041:True:=⟨⟩
theorem tw15212152554791597832:True:=⟨⟩
theorem tw5893904400101173859:True:=⟨⟩
theorem tw4347783473344686525:True:=⟨⟩
theorem tw10649563566095983364:True:=⟨⟩
theorem tw3569325154768975873:True:=⟨⟩
theorem tw8846942770360543693:True:=⟨⟩
theorem tw7872286436426150539:True:=⟨⟩
theorem tw4649007202132206784:True:=⟨⟩
theorem tw5762959787714540347:True:=⟨⟩
theorem tw4081264972409679310:True:=⟨⟩
theorem tw10385145162821090617:True:=⟨⟩
theorem tw12422332335868649597:True:=⟨⟩
theorem tw23553305046083514:True:=⟨⟩
theorem tw3427171253213854046:True:=⟨⟩
theorem tw13773620218218802611:True:=⟨⟩
theorem tw15308461119134464451:True:=⟨⟩
theorem tw11239988883460940748:True:=⟨⟩
theorem tw14849180829588380396:True:=⟨⟩
theorem tw13942097627783931064:True:=⟨⟩
theorem tw14508202242416586055:True:=⟨⟩
theorem tw3186523955949711459:True:=⟨⟩
theorem tw1705774940287960995:True:=⟨⟩
theorem tw18156697156423543913:True:=⟨⟩
theorem tw6167726931925840285:True:=⟨⟩
theorem tw9830851933575100019:True:=⟨⟩
theorem tw12161149297348736815:True:=⟨⟩
theorem tw15898110459580593844:True:=⟨⟩
theorem tw13982980069913291580:True:=⟨⟩
theorem tw3821968766807519402:True:=⟨⟩
theorem tw11096329890761936456:True:=⟨⟩
theorem tw5599315923391346017:True:=⟨⟩
theorem tw2248439873404720643:True:=⟨⟩
theorem tw18187958653251728002:True:=⟨⟩
theorem tw6673689013686855830:True:=⟨⟩
theorem tw18056439880353482992:True:=⟨⟩
theorem tw3863867613816416969:True:=⟨⟩
theorem tw9994059547789716180:True:=⟨⟩
theorem tw14753727715444976261:True:=⟨⟩
theorem tw14838117632566748686:True:=⟨⟩
theorem tw7740234825743946957:True:=⟨⟩
theorem tw5237705190139540061:True:=⟨⟩
theorem tw12812955993673158018:True:=⟨⟩
theorem tw13283219032959467016:True:=⟨⟩
theorem tw4414185366713916938:True:=⟨⟩
theorem tw16028800275870162619:True:=⟨⟩
theorem tw7554764925615317963:True:=⟨⟩
theorem tw6163903188793618900:True:=⟨⟩
theorem tw2554003574525316486:True:=⟨⟩
theorem tw58827388722027386:True:=⟨⟩
theorem tw11479988006970869975:True:=⟨⟩
theorem tw17504215242994815646:True:=⟨⟩
theorem tw4367373045700484984:True:=⟨⟩
theorem tw8663550264299974698:True:=⟨⟩
theorem tw6172899012280838560:True:=⟨⟩
theorem tw2656926773397042043:True:=⟨⟩
theorem tw12916325346320511959:True:=⟨⟩
theorem tw12318806249535105752:True:=⟨⟩
theorem tw4241794552229188482:True:=⟨⟩
theorem tw17707190767872227707:True:=⟨⟩
theorem tw2711402320446124977:True:=⟨⟩
theorem tw11714366330926001793:True:=⟨⟩
theorem tw1135640815527174735:True:=⟨⟩
theorem tw2623396923039337173:True:=⟨⟩
theorem tw18364420435644263084:True:=⟨⟩
theorem tw11193926903299588278:True:=⟨⟩
theorem tw16116317658770588139:True:=⟨⟩
theorem tw8766585947563127149:True:=⟨⟩
theorem tw6298618427237197421:True:=⟨⟩
theorem tw3541009509089642704:True:=⟨⟩
theorem tw9626314313582434227:True:=⟨⟩
theorem tw14341836610028884067:True:=⟨⟩
theorem tw3984849020420725848:True:=⟨⟩
theorem tw8733244041059960836:True:=⟨⟩
theorem tw13368530073848393535:True:=⟨⟩
theorem tw7312605018788611214:True:=⟨⟩
theorem tw4732236608661992752:True:=⟨⟩
theorem tw12929337128484216362:True:=⟨⟩
theorem tw11023914587290505603:True:=⟨⟩
theorem tw1158922439710692886:True:=⟨⟩
theorem tw9785961087991352403:True:=⟨⟩
theorem tw15322256311974258280:True:=⟨⟩
theorem tw13037124062754446910:True:=⟨⟩
theorem tw15821392788090593683:True:=⟨⟩
theorem tw13059173985180286443:True:=⟨⟩
theorem tw17589443745969805410:True:=⟨⟩
theorem tw9250839965208660923:True:=⟨⟩
theorem tw4997475690337299358:True:=⟨⟩
theorem tw12658558611643025181:True:=⟨⟩
theorem tw598743914320254870:True:=⟨⟩
theorem tw15650437639196106924:True:=⟨⟩
theorem tw3751341300041270448:True:=⟨⟩
theorem tw13839627338381236712:True:=⟨⟩
theorem tw10778639494645117672:True:=⟨⟩
theorem tw114874779946558780:True:=⟨⟩
theorem tw7764166197325830420:True:=⟨⟩
theorem tw5536165099782331256:True:=⟨⟩
theorem tw15749280903453728680:True:=⟨⟩
theorem tw5489993141371056495:True:=⟨⟩
theorem tw15968638655180014636:True:=⟨⟩
theorem tw7234026148841470206:True:=⟨⟩
theorem tw17904807613341116048:True:=⟨⟩
theorem tw15054645832862924594:True:=⟨⟩
theorem tw12830284707324764696:True:=⟨⟩
theorem tw17667203929137746337:True:=⟨⟩
theorem tw15216797434685123658:True:=⟨⟩
theorem tw8755655734727292367:True:=⟨⟩
theorem tw18146393487278812753:True:=⟨⟩
theorem tw229502096824546514:True:=⟨⟩
theorem tw2835250590212194521:True:=⟨⟩
theorem tw17766538763182458857:True:=⟨⟩
theorem tw14022823921876539887:True:=⟨⟩
theorem tw4426569912711361609:True:=⟨⟩
theorem tw821906610847728429:True:=⟨⟩
theorem tw3393273048063014244:True:=⟨⟩
theorem tw10826363024297501439:True:=⟨⟩
theorem tw8871120450628981066:True:=⟨⟩
theorem tw13801159753256724334:True:=⟨⟩
theorem tw4739008024955783661:True:=⟨⟩
theorem tw10463454802539302320:True:=⟨⟩
theorem tw2135803151595376514:True:=⟨⟩
theorem tw4318781918084928015:True:=⟨⟩
theorem tw16534724651311256076:True:=⟨⟩
theorem tw6464649921017531746:True:=⟨⟩
theorem tw6742120756677782265:True:=⟨⟩
theorem tw17722022017620118513:True:=⟨⟩
theorem tw6830969918611908957:True:=⟨⟩
theorem tw8953782873892541297:True:=⟨⟩
theorem tw10615776742556818784:True:=⟨⟩
theorem tw4651675759319350145:True:=⟨⟩
theorem tw14963808321084600185:True:=⟨⟩
theorem tw2104669788307323757:True:=⟨⟩
theorem tw8927443054837817242:True:=⟨⟩
theorem tw4235869235654553075:True:=⟨⟩
theorem tw4296652996083465864:True:=⟨⟩
theorem tw5056357225255397547:True:=⟨⟩
theorem tw16248821251628499777:True:=⟨⟩
theorem tw2126905964153213847:True:=⟨⟩
theorem tw14414490750898154031:True:=⟨⟩
theorem tw13769913924123779962:True:=⟨⟩
theorem tw17837516063002437513:True:=⟨⟩
theorem tw9645046416430302379:True:=⟨⟩
theorem tw158825757939034079:True:=⟨⟩
theorem tw13648514335911559621:True:=⟨⟩
theorem tw6067499042543145950:True:=⟨⟩
theorem tw3240668584384369522:True:=⟨⟩
theorem tw6684447157045493737:True:=⟨⟩
theorem tw6011613197562451801:True:=⟨⟩
theorem tw15329552763319932169:True:=⟨⟩
theorem tw7710769040764933649:True:=⟨⟩
theorem tw16268705274791112184:True:=⟨⟩
theorem tw327616636430762274:True:=⟨⟩
theorem tw17101506593725760990:True:=⟨⟩
theorem tw16062080330028045834:True:=⟨⟩
theorem tw2144128148451338525:True:=⟨⟩
theorem tw13752188806771571259:True:=⟨⟩
theorem tw16895391625434955580:True:=⟨⟩
theorem tw2561387849170302012:True:=⟨⟩
theorem tw448717771676261253:True:=⟨⟩
theorem tw133753894835819053:True:=⟨⟩
theorem tw6731545378188200472:True:=⟨⟩
theorem tw4099321659111654716:True:=⟨⟩
theorem tw7516447522211156045:True:=⟨⟩
theorem tw12296503825543707516:True:=⟨⟩
theorem tw13821504584994804403:True:=⟨⟩
theorem tw11846209616648436371:True:=⟨⟩
theorem tw10673002257461157580:True:=⟨⟩
theorem tw4473416302498139429:True:=⟨⟩
theorem tw5770042082042906208:True:=⟨⟩
theorem tw15495516916272949963:True:=⟨⟩
theorem tw13365428399994769571:True:=⟨⟩
theorem tw7814573799126218141:True:=⟨⟩
theorem tw6069379394460878162:True:=⟨⟩
theorem tw17473169258209193047:True:=⟨⟩
theorem tw10886037071258117723:True:=⟨⟩
theorem tw14963756580225248466:True:=⟨⟩
theorem tw6706964320653738065:True:=⟨⟩
theorem tw12365386109383010101:True:=⟨⟩
theorem tw6798240182389613869:True:=⟨⟩
theorem tw2212489976731602643:True:=⟨⟩
theorem tw382591846255332020:True:=⟨⟩
theorem tw16176402634565399118:True:=⟨⟩
theorem tw16718383210870210156:True:=⟨⟩
theorem tw12533757522685420335:True:=⟨⟩
theorem tw964555641417658171:True:=⟨⟩
theorem tw9084108656159602967:True:=⟨⟩
theorem tw4494257597016607572:True:=⟨⟩
theorem tw1810589846317532678:True:=⟨⟩
theorem tw16645252650010013691:True:=⟨⟩
theorem tw17815888126778465884:True:=⟨⟩
theorem tw7693249233637445833:True:=⟨⟩
theorem tw14876016187743084506:True:=⟨⟩
theorem tw5738155536834021535:True:=⟨⟩
theorem tw12184841754110859379:True:=⟨⟩
theorem tw15623196742241310993:True:=⟨⟩
theorem tw14009831688460421821:True:=⟨⟩
theorem tw15042643156647588325:True:=⟨⟩
theorem tw11278517980001848267:True:=⟨⟩
theorem tw1833303443800795931:True:=⟨⟩
theorem tw7772850908237962790:True:=⟨⟩
theorem tw16822186874086214174:True:=⟨⟩
theorem tw3921940470229773372:True:=⟨⟩
theorem tw13470292723761895342:True:=⟨⟩
theorem tw13274698442623409257:True:=⟨⟩
theorem tw16235007364995428063:True:=⟨⟩
theorem tw17254593465859375115:True:=⟨⟩
theorem tw9510356666766086293:True:=⟨⟩
end PySem.W.Fast
open PySem PySem.W PyProof.Rows
set_option maxRecDepth 100000 in
set_option maxHeartbeats 0 in
theorem PySem.Challenge.cw_manypurses_k12_whole_wallets_holds : PySem.Challenge.rw_manypurses_k12_whole_wallets.Holds := by
  w_on; o_law; k_head; (case hw=>w_witness2)
  k_fill
  refine L2.j1v (l:=PySem.Challenge.rw_manypurses_k12_whole_wallets) (n:=63) (k:=12) (x := "_law_script") (CX:=L2.CX0) (sp:=M.jz2) rfl (by decide) rfl ⟨rfl,by decide,by decide⟩ (fun w h Y=>PySem.W.kIn_of Y) ?F ?S ?C
  case F=>
    intro w mg fa h KX G hmg
    refine' M.all_mk KX G hmg ..
    iterate 117 (show _ = _; k_is)
    iterate 1 (show _ = _; kernel_rfl)
    iterate 283 (show _ = _; k_is)
    iterate 3 (show _ = _; kernel_rfl)
    iterate 14 (show _ = _; k_is)
    iterate 4 (show _ = _; kernel_rfl)
    iterate 5 (show _ = _; k_is)
    iterate 4 (show _ = _; kernel_rfl)
    iterate 5 (show _ = _; k_is)
    iterate 3 (show _ = _; kernel_rfl)
    iterate 14 (show _ = _; k_is)
  case S=>exact fun K H a ns hl _ hS=>⟨a,ns,rfl,hS,hl,fun _=>rfl⟩
  case C=>exact fun _ _ _ _ z=>z
