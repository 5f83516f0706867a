import PyProof.Rows.All
import Wide.All
import OpenK.AllK
import Wide.FinOn
import Lean
import PyProof.EqAt
import PyProof.EqKinds
import PyProof.TupleCall
import PyProof.NeKinds
import PySem.Challenge.RW_manypurses_k03_whole_one_paper
open List (mem_filter mem_range filterMap_cons mem_cons_self mem_cons_of_mem mem_cons mem_append mem_append_left getElem?_set_self getElem?_set_ne mem_filterMap mem_append_right size_toArray length_cons map_cons length_map append_nil nodup_cons length_take getElem?_map mem_of_getElem? length_append length_replicate map_nil length_set any_cons replicate_succ flatten_cons foldl_cons find?_cons length_nil nodup_nil mem_map lookup_cons all_eq_true mem_singleton getElem?_eq_getElem length_range nodup_range getD_eq_getElem?_getD map_append mem_iff_getElem length_eraseIdx_le length_eq_one_iff length_erase_of_mem length_pos_of_mem find?_some take_length map_set mem_map_of_mem mem_of_find?_eq_some map_map nodup_append length_filter_le filter_append eq_of_mem_replicate length_pos_iff)
open Nat (lt_of_lt_of_le lt_irrefl ne_of_lt le_trans le_of_lt le_refl zero_le lt_succ_self le_succ lt_of_le_of_lt le_succ_of_le zero_add succ_pos)
set_option Elab.async false
set_option genSizeOf false
set_option genInjectivity false
set_option linter.all false
set_option maxRecDepth 100000
noncomputable section
theorem aP (a:True:=by rfl)(b:True:=by decide)(c:True:=by intro _;rfl)(d:True:=by decide+kernel)(e:True:=by first|exact .inl rfl|exact .inr rfl|assumption)(f:True:=by intro vs H Q E h;repeat(first|(obtain⟨rfl,_⟩:=h;rfl)|(obtain⟨_,h⟩:=h)))(g:True:=by exact True.intro)(h:True:=by exact bT):True:=a
def aP1:=aP._auto_1
def aP2:=aP._auto_2
def aP3:=aP._auto_3
def aP4:=aP._auto_4
def aP5:=aP._auto_5
def aP6:=aP._auto_6
def aP7:=aP._auto_7
def aP8:=aP._auto_8
namespace L2
open PySem PySem.Spec PyProof.Rows
noncomputable abbrev Key:=Sum Int Str
noncomputable def mV:Key->Value->Bool
 | .inl k,v=>Value.isInt k v
 | .inr x,v=>Value.isStrOf x v
noncomputable def Px (w:World):Key->Int
 | .inl k=>hashInt k
 | .inr x=>hashStr w x
theorem zq:∀{k:Key}{v:Value},mV k v=true->(∃i t,k=Sum.inl i/\v=Value.int i t)\/(∃x t,k=Sum.inr x/\v=Value.str x t)
 | .inl i,v,h=>by obtain⟨t,e⟩:=Value.isInt_shape (k:=i) (v:=v) h;exact .inl ⟨i,t,rfl,e⟩
 | .inr x,v,h=>by obtain⟨t,e⟩:=Value.isStrOf_shape (x:=x) (v:=v) h;exact .inr ⟨x,t,rfl,e⟩
theorem Py (i:Int)(t:Tok):mV (.inl i) (.int i t)=true:=by simp[mV,Value.isInt]
theorem Pz (x:Str)(t:Tok):mV (.inr x) (.str x t)=true:=by simp[mV,Value.isStrOf]
theorem PF (a b:Int):decide ((Sum.inl a:Key)=Sum.inl b)=(a==b):=by
 by_cases e:a=b
 .subst e;simp
 .have h:¬(Sum.inl a:Key)=Sum.inl b:=λq=>e (Sum.inl.inj q);rw[decide_eq_false h];exact(beq_eq_false_iff_ne.mpr e).symm
theorem PH (a b:Str):decide ((Sum.inr a:Key)=Sum.inr b)=decide (a=b):=by
 by_cases e:a=b
 .subst e;simp
 .have h:¬(Sum.inr a:Key)=Sum.inr b:=λq=>e (Sum.inr.inj q);rw[decide_eq_false h,decide_eq_false e]
theorem PJ (a:Int)(b:Str):decide ((Sum.inl a:Key)=Sum.inr b)=false:=decide_eq_false (λq=>nomatch q)
theorem PL (a:Str)(b:Int):decide ((Sum.inr a:Key)=Sum.inl b)=false:=decide_eq_false (λq=>nomatch q)
noncomputable def qg (prog:Program)(w:World):PySem.KeyKind prog w Key where
 is:=mV
 hash:=Px w
 inj:=λv a b ha hb=>by
  rcases zq ha with⟨i,t,rfl,rfl⟩|⟨x,t,rfl,rfl⟩
  .rcases zq hb with⟨j,u,rfl,e⟩|⟨y,u,rfl,e⟩
   .injection e with e1 _;rw[e1]
   .exact nomatch e
  .rcases zq hb with⟨j,u,rfl,e⟩|⟨y,u,rfl,e⟩
   .exact nomatch e
   .injection e with e1 _;rw[e1]
 byValue:=λk v h=>by rcases zq h with⟨i,t,rfl,rfl⟩|⟨x,t,rfl,rfl⟩<;>rfl
 pyHash:=λhv h=>by
  rcases zq hv with⟨i,t,rfl,rfl⟩|⟨x,t,rfl,rfl⟩
  .exact wpAny_pyHash_int h
  .exact wpAny_pyHash_str h
 eqBool:=λhu hv h=>by
  rcases zq hu with⟨i,t,rfl,rfl⟩|⟨x,t,rfl,rfl⟩
  .rcases zq hv with⟨j,u,rfl,rfl⟩|⟨y,u,rfl,rfl⟩
   .rw[PF]at h;exact wpAny_eqBool_int h
   .rw[PJ]at h;exact SeqAt.EqAt.int_str i t y u _ _ _ _ h
  .rcases zq hv with⟨j,u,rfl,rfl⟩|⟨y,u,rfl,rfl⟩
   .rw[PL]at h;exact SeqAt.EqAt.str_int x t j u _ _ _ _ h
   .rw[PH]at h;exact wpAny_eqBool_str h
 «strs»:=λk x t v h=>by
  rcases zq h with⟨i,u,rfl,e⟩|⟨y,u,rfl,e⟩
  .exact nomatch e
  .injection e with e1 _;subst e1;cases v<;>rfl
theorem PM (prog:Program)(w:World)(i:Int)(t:Tok):(qg prog w).is (.inl i) (.int i t)=true:=Py i t
theorem PN (prog:Program)(w:World)(x:Str)(t:Tok):(qg prog w).is (.inr x) (.str x t)=true:=Pz x t
set_option genInjectivity true in
inductive V where
 | aj | bl (b:Bool) | int (i:Int) | str (x:Str) | eV (b:Array UInt8) | lO (b:UInt64) | ref (a:Addr) | ty (n:String)
 deriving DecidableEq
noncomputable def RelV:V->Value->Prop
 | .aj,u=>u=Value.none
 | .bl b,u=>u=Value.bool b
 | .int i,u=>∃t,u=Value.int i t
 | .str x,u=>∃t,u=Value.str x t
 | .eV b,u=>∃t,u=Value.bytes b t
 | .lO b,u=>∃t,u=Value.float b t
 | .ref a,u=>u=Value.ref a
 | .ty n,u=>u=Value.type n
noncomputable abbrev Vals:List V->List Value->Prop:=Paired RelV
theorem Vals.length {xs:List V}{us:List Value}(r:Vals xs us):xs.length=us.length:=Paired.length r
theorem Vals.get:∀{xs:List V}{us:List Value}{i:Nat}{x:V},Vals xs us->xs[i]?=some x->∃u,us[i]?=some u/\RelV x u
 |_,_,_,_,.nil,e=>by simp at e
 |_,_,0,_,.cons r _,e=>by simp at e;subst e;exact⟨_,rfl,r⟩
 |_,_,i+1,x,.cons _ t,e=>by obtain⟨u,h1,h2⟩:=Vals.get (i:=i) (x:=x) t (by simpa using e);exact⟨u,by simpa using h1,h2⟩
theorem Vals.set {x:V}{u:Value}(r:RelV x u):∀{xs:List V}{us:List Value}(i:Nat),Vals xs us->Vals (xs.set i x) (us.set i u)
 |_,_,_,.nil=>.nil
 |_,_,0,.cons _ t=>.cons r t
 |_,_,i+1,.cons q t=>.cons q (Vals.set r i t)
theorem Vals.append:∀{xs ys:List V}{us ws:List Value},Vals xs us->Vals ys ws->Vals (xs++ys) (us++ws)
 |_,_,_,_,.nil,s=>s
 |_,_,_,_,.cons r t,s=>.cons r (Vals.append t s)
theorem Vals.take:∀{xs:List V}{us:List Value}(n:Nat),Vals xs us->Vals (xs.take n) (us.take n)
 |_,_,0,_=>.nil
 |_,_,_+1,.nil=>.nil
 |_,_,n+1,.cons r t=>.cons r (Vals.take n t)
theorem Vals.drop:∀{xs:List V}{us:List Value}(n:Nat),Vals xs us->Vals (xs.drop n) (us.drop n)
 |_,_,0,r=>r
 |_,_,_+1,.nil=>.nil
 |_,_,n+1,.cons _ t=>Vals.drop n t
noncomputable def dD:Option V->Option Value->Prop
 |some v,some u=>RelV v u
 |none,none=>True
 |_,_=>False
noncomputable def KV {B:Type}:List (B×V)->List (B×Value)->Prop:=Paired λ(p:B×V)(q:B×Value)=>p.1=q.1/\RelV p.2 q.2
noncomputable def kV:Key->V
 | .inl i=>.int i
 | .inr x=>.str x
set_option genInjectivity true in
inductive HO where
  | lst (xs:List V)
  | tup (xs:List V)
  | dK (kvs:List (Key × V)) | dT (kvs:List (List Key × V))
  | set (S:Int -> Bool) (n:Nat)
  | ins (C dx:Addr) (fs:List (Str × V))
  | own (x:Addr)
  | xd (fs:List (Str × V))
  | met (f x:Addr)
  | vW (lo hi:Int)
  | aA (o:Obj) (u:HO)
  | lP (ps:Array Value)
  | ext (φ : Heap -> Prop)
noncomputable abbrev Hp:=Addr->Option HO
noncomputable def upd (H:Hp)(a:Addr)(o:HO):Hp:=λb=>if b=a then some o else H b
theorem ja {H:Hp}{a:Addr}{o:HO}:upd H a o a=some o:=by unfold upd;rw[if_pos rfl]
theorem jd {H:Hp}{a b:Addr}{o:HO}(h:b≠a):upd H a o b=H b:=by unfold upd;rw[if_neg h]
theorem Bv {H:Hp}{a:Addr}{o u:HO}:upd (upd H a o) a u=upd H a u:=by funext b;unfold upd;split<;>rfl
theorem dg {H:Hp}{a b:Addr}{o u:HO}(h:H a=some o)(h':H b=some u)(d:o≠u):a≠b:=by intro e;subst e;rw[h]at h';exact d (Option.some.inj h')
theorem ji {H:Hp}{a b:Addr}{o:HO}(h:H a=some o)(h':H b=none):a≠b:=by intro e;subst e;rw[h]at h';cases h'
section
variable (P:Program)(w:World)
noncomputable def yx (H:Hp)(h:Heap)(a:Addr):HO->Prop
 | .lst xs=>xs.length<=sizeLine/\∃(its:List Value)(n:Nat),Vals xs its/\h.get? a=some {cls:=.type "list",data:=.seq its.toArray n}
 | .tup xs=>xs.length<=sizeLine/\∃its:List Value,Vals xs its/\IsTup h a its.toArray
 | .dK kvs=>kvs.length<=sizeLine/\(a==sysModules)=false/\∃vs,KV kvs vs/\h.DictOf (qg P w) a vs
 | .dT kvs=>kvs.length<=sizeLine/\(a==sysModules)=false/\∃xs:List (List Key×Addr×Value),Paired (λ(p:List Key×V)(q:List Key×Addr×Value)=>p.1=q.1/\H q.2.1=some (.tup (p.1.map kV))/\RelV p.2 q.2.2) kvs xs/\∃o es ep,h.get? a=some o/\o.ExactDict/\o.data= .dict es ep/\es.toList=xs.map (entryOfKey (tupleKind (qg P w)))/\(xs.map (·.1)).Nodup
 | .set S n=>h.SetOf (intKind P w) a S n
 | .ins C dx fs=>H dx=some (.own a)/\fs.length<=1000/\dx≠a/\h.get? a=some (PySem.W.instObj C dx)/\∃mA,h.Ns1 dx mA/\(∀f,dD (fs.lookup f) (mA f))/\PySem.Within mA (fs.map (·.1))
 | .own _=>∃o,h.get? a=some o
 | .xd fs=>∃mA,h.Ns1 a mA/\∀f,dD (fs.lookup f) (mA f)
 | .vW lo hi=>∃t u v,h.get? a=some {cls:=.type "range",data:=.fields #[.int lo t,.int hi u,.int 1 v]}
 | .aA o u=>h.get? a=some o/\yx H h a u
 | .lP ps=>h.get? a=some {cls:=.none,data:=.fields ps}
 | .met f x=>h.get? a=some (PySem.W.methodObj (.ref f) (.ref x))
 | .ext φ=>φ h/\(∃o,h.get? a=some o)/\∀h1 h2:Heap,φ h1->(∀o,h1.get? a=some o->h2.get? a=some o)->φ h2
noncomputable def bG (H:Hp)(h:Heap):Prop:=∀a o,H a=some o->yx P w H h a o
end
section
variable {P:Program}{w:World}{H H':Hp}{h h':Heap}{a:Addr}{o:HO}
theorem yx.lt (x:yx P w H h a o):a<h.objs.size:=by
 cases o with
 |lst xs=>obtain⟨_,_,_,_,e⟩:=x;exact Heap.lt_size e
 |tup xs=>obtain⟨_,_,_,p⟩:=x;exact p.lt
 |dK kvs=>obtain⟨_,_,_,_,o,_,_,e,_⟩:=x;exact Heap.lt_size e
 |dT kvs=>obtain⟨_,_,_,_,o,_,_,e,_⟩:=x;exact Heap.lt_size e
 |set S n=>obtain⟨o,_,_,_,e,_⟩:=x;exact Heap.lt_size e
 |ins C dx fs=>obtain⟨_,_,_,e,_⟩:=x;exact Heap.lt_size e
 |own y=>obtain⟨_,e⟩:=x;exact Heap.lt_size e
 |xd fs=>obtain⟨_,⟨_,_,_,e,_⟩,_⟩:=x;exact Heap.lt_size e
 |vW lo hi=>obtain⟨_,_,_,e⟩:=x;exact Heap.lt_size e
 |aA ob u=>obtain⟨e,_⟩:=x;exact Heap.lt_size e
 |lP ps=>exact Heap.lt_size (show h.get? a=some _ from x)
 |met f y=>exact Heap.lt_size (show h.get? a=some _ from x)
 |ext φ=>obtain⟨_,⟨_,e⟩,_⟩:=x;exact Heap.lt_size e
theorem Paired.ub {α β:Type}{F G:α->β->Prop}:∀{mW:List α}{mX:List β},Paired F mW mX->(∀a b,F a b->G a b)->Paired G mW mX:=λ{mW mX} q f=>by
 induction q with
 |nil=>exact .nil
 |cons r t ih=>exact .cons (f _ _ r) ih
theorem yx.cC (x:yx P w H h a o)(k:∀b u,(b=a\/H b=some (.own a))->h.get? b=some u->h'.get? b=some u)(ho:∀b,H b=some (.own a)->H' b=some (.own a))(ht:∀b xs,H b=some (.tup xs)->H' b=some (.tup xs)):yx P w H' h' a o:=by
 induction o with
 |lst xs=>obtain⟨z,its,n,r,e⟩:=x;exact⟨z,its,n,r,k _ _ (.inl rfl) e⟩
 |tup xs=>obtain⟨z,its,r,ob,e,c⟩:=x;exact⟨z,its,r,ob,k _ _ (.inl rfl) e,c⟩
 |dK kvs=>obtain⟨z,y,vs,r,ob,es,ep,e,c⟩:=x;exact⟨z,y,vs,r,ob,es,ep,k _ _ (.inl rfl) e,c⟩
 |dT kvs=>obtain⟨z,y,xs,r,ob,es,ep,e,c⟩:=x;exact⟨z,y,xs,Paired.ub r λp q z=>⟨z.1,ht _ _ z.2.1,z.2.2⟩,ob,es,ep,k _ _ (.inl rfl) e,c⟩
 |set S n=>obtain⟨ob,es,ep,t,e,c⟩:=x;exact⟨ob,es,ep,t,k _ _ (.inl rfl) e,c⟩
 |ins C dx fs=>obtain⟨d,z,ne,e,mA,⟨od,es,ep,e2,c⟩,r⟩:=x;exact⟨ho _ d,z,ne,k _ _ (.inl rfl) e,mA,⟨od,es,ep,k _ _ (.inr d) e2,c⟩,r⟩
 |own y=>obtain⟨ob,e⟩:=x;exact⟨ob,k _ _ (.inl rfl) e⟩
 |xd fs=>obtain⟨mA,⟨od,es,ep,e,c⟩,r⟩:=x;exact⟨mA,⟨od,es,ep,k _ _ (.inl rfl) e,c⟩,r⟩
 |vW lo hi=>obtain⟨t,u,v,e⟩:=x;exact⟨t,u,v,k _ _ (.inl rfl) e⟩
 |aA ob u ih=>obtain⟨e,q⟩:=x;exact⟨k _ _ (.inl rfl) e,ih q⟩
 |lP ps=>have e:h.get? a=some {cls:=.none,data:=.fields ps}:=x;show h'.get? a=some {cls:=.none,data:=.fields ps};exact k a _ (.inl rfl) e
 |met f y=>have e:h.get? a=some (PySem.W.methodObj (.ref f) (.ref y)):=x;show h'.get? a=some (PySem.W.methodObj (.ref f) (.ref y));exact k a _ (.inl rfl) e
 |ext φ=>obtain⟨p,⟨o,e⟩,st⟩:=x;exact⟨st _ _ p λo q=>k _ _ (.inl rfl) q,⟨o,k _ _ (.inl rfl) e⟩,st⟩
theorem bG.lt (x:bG P w H h)(e:H a=some o):a<h.objs.size:=(x a o e).lt
theorem bG.fresh (x:bG P w H h)(e:h.objs.size<=a):H a=none:=by
 cases q:H a with
 |none=>rfl
 |some u=>exact absurd (lt_of_lt_of_le (x.lt q) e) (lt_irrefl _)
theorem bG.kept (x:bG P w H h)(k:∀b u,h.get? b=some u->h'.get? b=some u):bG P w H h':=λa o e=>(x a o e).cC (λb u _ q=>k b u q) (λ_ q=>q) λ_ _ q=>q
theorem bG.laid (x:bG P w H h)(k:∀b u,h.get? b=some u->h'.get? b=some u)(hp:h.objs.size<=a)(new:yx P w (upd H a o) h' a o):bG P w (upd H a o) h':=λb u e=>by
 have hn:=x.fresh hp;by_cases hb:b=a
 .subst hb;rw[ja]at e;cases e;exact new
 .rw[jd hb]at e;exact(x b u e).cC (λc v _ q=>k c v q) (λc q=>by rw[jd (ji q hn)];exact q) λc xs q=>by rw[jd (ji q hn)];exact q
end
noncomputable def Rd (H:Hp)(a:Addr)(u:HO):Prop:=H a=some u\/∃o,H a=some (.aA o u)
theorem Rd.ok {P:Program}{w:World}{H:Hp}{h:Heap}{a:Addr}{u:HO}(r:Rd H a u)(x:bG P w H h):yx P w H h a u:=by
 rcases r with r|⟨o,r⟩
 .exact x a u r
 .obtain⟨_,q⟩:=x a _ r;exact q
noncomputable def gA:Option HO->Prop
 |some (.lst _)=>True
 |some (.dK _)=>True
 |some (.dT _)=>True
 |some (.set _ _)=>True
 |some (.ins _ _ _)=>True
 |some (.ext _)=>True
 |_=>False
section
variable {P:Program}{w:World}{H:Hp}{h h':Heap}{x e:Addr}{o':HO}
theorem bG.write (ok:bG P w H h)(mu:gA (H x))(he:e=x\/H e=some (.own x))(k:∀b u,b≠e->h.get? b=some u->h'.get? b=some u)(pB:∃u,h'.get? e=some u)(new:yx P w (upd H x o') h' x o'):bG P w (upd H x o') h':=λb u q=>by
 have qW:∀c y,H c=some (.own y)->c≠x:=λc y r z=>by subst z;rw[r]at mu;exact mu
 have Bw:∀c xs,H c=some (.tup xs)->c≠x:=λc xs r z=>by subst z;rw[r]at mu;exact mu
 by_cases hb:b=x
 .subst hb;rw[ja]at q;cases q;exact new
 .rw[jd hb]at q;by_cases mY:b=e
  .have q':H b=some (.own x):=by
    rcases he with z|z
    .exact absurd (mY.trans z) hb
    .rw[mY];exact z
   rw[q]at q';cases q';obtain⟨v,hv⟩:=pB;exact⟨v,by rw[mY];exact hv⟩
  .refine(ok b u q).cC (λc v hc r=>k c v ?_ r) (λc r=>by rw[jd (qW c b r)];exact r) λc xs r=>by rw[jd (Bw c xs r)];exact r
   rcases hc with rfl|hc
   .exact mY
   .rintro rfl
    rcases he with z|z
    .exact qW c b hc z
    .rw[hc]at z;cases z;exact hb rfl
end
structure Un (fs ex:List Addr)(H H':Hp)(h h':Heap):Prop where
 keep:∀b o,h.get? b=some o->H b=none->b∉fs->b∉ex->h'.get? b=some o
 slot:∀b o,h.get? b=some o->H b=none->b∈fs->b∉ex->∃sl,h'.get? b=some {o with slots:=sl}
 free:∀b o,h.get? b=some o->H b=none->b∉ex->H' b=none
 there:∀b o,h.get? b=some o->b∉ex->∃o',h'.get? b=some o'
 dE:∀b xs,H b=some (.tup xs)->H' b=some (.tup xs)
 dh:∀b o u,H b=some (.aA o u)->H' b=some (.aA o u)
 dP:∀b ps,H b=some (.lP ps)->∃more,H' b=some (.lP (ps++more))
section
variable {fs fs' ex IE:List Addr}{H H1 H2:Hp}{h h1 h2 h':Heap}{a x e:Addr}{o:HO}
theorem Un.any (u:Un fs ex H H1 h h1){b:Addr}{ob:Obj}(q:h.get? b=some ob)(n:H b=none)(hx:b∉ex):∃sl,h1.get? b=some {ob with slots:=sl}:=by
 by_cases hb:b∈fs
 .exact u.slot b ob q n hb hx
 .exact⟨ob.slots,u.keep b ob q n hb hx⟩
theorem Un.kept (k:∀b u,h.get? b=some u->h'.get? b=some u):Un fs ex H H h h':=⟨λb ob q _ _ _=>k b ob q,λb ob q _ _ _=>⟨ob.slots,k b ob q⟩,λ_ _ _ n _=>n,λb ob q _=>⟨ob,k b ob q⟩,λ_ _ q=>q,λ_ _ _ q=>q,λ_ ps q=>⟨#[],by rw[q];simp⟩⟩
theorem Un.refl:Un fs ex H H h h:=Un.kept λ_ _ q=>q
theorem Un.laid (k:∀b u,h.get? b=some u->h'.get? b=some u)(hp:h.objs.size<=a)(hn:H a=none):Un fs ex H (upd H a o) h h' where
 keep:=λb u q _ _ _=>k b u q
 slot:=λb u q _ _ _=>⟨u.slots,k b u q⟩
 free:=λb u q n _=>by rw[jd (ne_of_lt (lt_of_lt_of_le (Heap.lt_size q) hp))];exact n
 there:=λb u q _=>⟨u,k b u q⟩
 dE:=λb xs q=>by rw[jd (ji q hn)];exact q
 dh:=λb u xs q=>by rw[jd (ji q hn)];exact q
 dP:=λb ps q=>⟨#[],by rw[jd (ji q hn),q];simp⟩
theorem Un.write (mu:gA (H x))(he:e=x\/H e=some (.own x))(k:∀b u,b≠e->h.get? b=some u->h'.get? b=some u)(pB:∃u,h'.get? e=some u):Un fs ex H (upd H x o) h h':=by
 have hx:∀b,H b=none->b≠x:=λb n z=>by subst z;rw[n]at mu;exact mu
 have hb:∀b,H b=none->b≠e:=λb n z=>by
  subst z;rcases he with r|r
  .exact hx b n r
  .rw[n]at r;cases r
 have hm:∀b u,H b=some u->¬gA (some u)->b≠x:=λb u q nm z=>by subst z;rw[q]at mu;exact nm mu
 refine⟨λb u q n _ _=>k b u (hb b n) q,λb u q n _ _=>⟨u.slots,k b u (hb b n) q⟩,λb u q n _=>by rw[jd (hx b n)];exact n,λb u q _=>?_,λb xs q=>by rw[jd (hm b _ q λz=>z)];exact q,λb u xs q=>by rw[jd (hm b _ q λz=>z)];exact q,λb ps q=>⟨#[],by rw[jd (hm b _ q λz=>z),q];simp⟩⟩;by_cases mY:b=e
 .subst mY;exact pB
 .exact⟨u,k b u mY q⟩
end
noncomputable def jV (h:Heap)(H:Hp):List Addr:=(List.range h.objs.size).filter λa=>(H a).isSome
noncomputable def jW (h:Heap)(H:Hp):Heap:=PySem.W.hideAll h (jV h H)
theorem PQ (h:Heap)(H:Hp):(jW h H).objs.size=h.objs.size:=PySem.W.hideAll_size _ _
theorem PR {h:Heap}{H:Hp}{b:Addr}{o:Obj}(e:h.get? b=some o)(n:H b=none):(jW h H).get? b=some o:=PySem.W.hideAll_get _ e λhm=>by have q:(H b).isSome=true:=(mem_filter.mp hm).2;rw[n]at q;simp at q
theorem PU {h:Heap}{H:Hp}{b:Addr}{o:Obj}(e:(jW h H).get? b=some o):h.get? b=some o/\H b=none:=by
 have e':h.get? b=some o:=PySem.W.of_hideAll (jV h H) e;refine⟨e',?_⟩;cases q:H b with
 |none=>rfl
 |some x=>have hm:b∈jV h H:=mem_filter.mpr ⟨mem_range.mpr (Heap.lt_size e'),by simp[q]⟩;have z:(jW h H).get? b=none:=PySem.W.hideAll_none (jV h H) hm;rw[z]at e;cases e
structure Mod (K:PySem.W.Frag)(mg:Str->Option Value)(base:Heap):Prop where
 dQ:K.In base
 glob:base.Ns mainGlobals mg
 blt:∃mb,base.Ns builtinsNs mb/\∀x:Str,x≠"__name__"->mb x=bootBuiltins x
 nolimit:base.NoLimit
structure Cx where
 prog:Program
 w:World
 K:PySem.W.Frag
 mg:Str->Option Value
 base:Heap
 A:Around
 N:List Str
 ar:Shared
 bz:Hp
 env:Env
 outer:List Env
 stack:List Env
 ex:List Addr
 fn:Str->Bool
 calm:Bool
 pn:List (Addr×Obj)
 xe:Value->Shared->Prop
noncomputable def bj (l:List Env):List Addr:=l.filterMap (·.frame)
noncomputable abbrev Cx.fs (X:Cx):List Addr:=bj X.outer
noncomputable def qX (sc:Scope)(x:Str):Prop:=sc.names.lookup x=some .local\/sc.names.lookup x=some .cell\/sc.names.lookup x=some .free
noncomputable def Loc (sc:Scope)(x:Str):Prop:=sc.names.lookup x=some .local\/sc.names.lookup x=some .cell
noncomputable def Look (env:Env)(h:Heap)(m:Str->Option Value)(x:Str)(u:Value):Prop:=(env.kindOf x=some .local/\m x=some u)\/((env.kindOf x=some .cell\/env.kindOf x=some .free)/\∃c,env.cells.lookup x=some c/\h.IsCell c (some u))
structure Cx.Ok (X:Cx):Prop where
 mod:Mod X.K X.mg X.base
 kind:X.env.scope.kind= .function
 glob:X.env.globals=mainGlobals
 blt:X.env.builtins=builtinsNs
 above:X.ar.heap.objs.size<=X.env.locals
 inj:∀x y c,X.env.cells.lookup x=some c->X.env.cells.lookup y=some c->x=y
 has:∀x,(X.env.kindOf x=some .cell\/X.env.kindOf x=some .free)->∃c,X.env.cells.lookup x=some c
 mZ:∀x c,X.fn x=true->X.env.cells.lookup x=some c->X.ar.heap.objs.size<=c
 hd:X.calm=true->X.A.handled=none
 frames:X.A.frames=some X.stack
 cQ:X.stack=X.outer\/(X.stack=X.env::X.outer/\X.env.frame=some X.env.locals)
 vX:∀b∈X.ex,b≠X.env.locals/\∀x c,X.env.cells.lookup x=some c->c≠b
 bs:∀b o,X.base.get? b=some o->X.ar.heap.get? b=some o/\X.bz b=none
 i5:X.base.objs.size<=X.ar.heap.objs.size
 ni:∀b o,X.base.get? b=some o->b∉X.ex
 pC:∀b∈X.ex,b∉X.fs
 eL:X.ar.heap.FunFrames X.base X.outer
 il:∀b∈X.fs,X.bz b=none
structure Inv (X:Cx)(pins:List (Addr×Obj))(U:List (Option V))(H:Hp)(s:Shared):Prop where
 ok:X.Ok
 os:s.os=X.ar.os
 bare:AllBare s.gens
 base:Un X.fs X.ex X.bz H X.ar.heap s.heap
 loc:∃m,s.heap.Ns X.env.locals m/\∀(i:Nat)(x:Str)(v:V),X.N[i]?=some x->U[i]?=some (some v)->qX X.env.scope x->∃u,RelV v u/\Look X.env s.heap m x u
 cell:∀x c,X.env.cells.lookup x=some c->∃v,s.heap.IsCell c v
 free:H X.env.locals=none
 dm:∀x c,X.env.cells.lookup x=some c->H c=none
 pin:∀p∈X.pn++pins,s.heap.get? p.1=some p.2/\H p.1=none/\p.1≠X.env.locals/\p.1∉X.fs/\∀v,p.2.data≠.cell v
 af:bG X.prog X.w H s.heap
 len:U.length=X.N.length
section
variable {X:Cx}{pins:List (Addr×Obj)}{U:List (Option V)}{H H':Hp}{s:Shared}{h':Heap}
theorem Cx.Ok.PV (ok:X.Ok){b:Addr}{o:Obj}(e:X.base.get? b=some o):b∉X.fs:=λhb=>by have:=(ok.eL.mem hb).1;rw[e]at this;cases this
theorem Inv.bs (I:Inv X pins U H s):∀b o,X.base.get? b=some o->s.heap.get? b=some o/\H b=none:=λb o e=>⟨I.base.keep b o (I.ok.bs b o e).1 (I.ok.bs b o e).2 (I.ok.PV e) (I.ok.ni b o e),I.base.free b o (I.ok.bs b o e).1 (I.ok.bs b o e).2 (I.ok.ni b o e)⟩
theorem Inv.bk (I:Inv X pins U H s):∀b o,X.base.get? b=some o->s.heap.get? b=some o:=λb o e=>(I.bs b o e).1
theorem Inv.mod (I:Inv X pins U H s):Mod X.K X.mg X.base:=I.ok.mod
theorem Inv.aO (I:Inv X pins U H s):X.K.In s.heap:=I.ok.mod.dQ.keeps I.bk
theorem Inv.lt (I:Inv X pins U H s):X.env.locals<s.heap.objs.size:=let⟨_,hn,_⟩:=I.loc;hn.lt
theorem Inv.sz (I:Inv X pins U H s):X.ar.heap.objs.size<=s.heap.objs.size:=le_trans I.ok.above (le_of_lt I.lt)
theorem Inv.IF (I:Inv X pins U H s){a:Addr}(h:s.heap.objs.size<=a):a∉X.fs:=λhb=>by obtain⟨_,o,ho,_⟩:=I.ok.eL.mem hb;exact absurd (lt_of_lt_of_le (Heap.lt_size ho) (le_trans I.sz h)) (lt_irrefl _)
theorem Inv.ip (I:Inv X pins U H s):∀x c,X.env.cells.lookup x=some c->c≠X.env.locals:=λx c e z=>by obtain⟨v,o,ho,hd⟩:=I.cell x c e;obtain⟨m,⟨o',es,ep,bc,bA,_⟩,_⟩:=I.loc;rw[z,bc]at ho;cases ho;rw[bA]at hd;cases hd
theorem Inv.eL (I:Inv X pins U H s):s.heap.FunFrames X.base X.outer:=by
 have all:∀(l:List Env),(∀b∈bj l,b∈X.fs)->X.ar.heap.FunFrames X.base l->s.heap.FunFrames X.base l:=by
  intro l;induction l with
  |nil=>intro _ _;trivial
  |cons env r ih=>intro hs hl;obtain⟨hk,⟨L,o,hf,hn,ho,hd⟩,hr⟩:=hl;have hL:L∈X.fs:=hs L (by unfold bj;rw[filterMap_cons,hf];exact mem_cons_self);obtain⟨sl,e⟩:=I.base.slot L o ho (I.ok.il L hL) hL λz=>I.ok.pC L z hL;exact⟨hk,⟨L,_,hf,hn,e,hd⟩,ih (λb hb=>hs b (by unfold bj;rw[filterMap_cons,hf];exact mem_cons_of_mem _ hb)) hr⟩
 exact all X.outer (λ_ hb=>hb) I.ok.eL
theorem Inv.stack (I:Inv X pins U H s):s.heap.FunFrames X.base X.stack:=by
 rcases I.ok.cQ with e|⟨e,hf⟩
 .rw[e];exact I.eL
 .rw[e];obtain⟨m,hn,_⟩:=I.loc;refine .cons (by rw[I.ok.kind];decide) hf hn ?_ I.eL;exact Heap.get?_none_of_le (le_trans I.ok.i5 I.ok.above)
theorem Inv.ny (I:Inv X pins U H s):∀b∈bj X.stack,b∈X.env.locals::X.fs:=λb hb=>by
 rcases I.ok.cQ with e|⟨e,hf⟩
 .rw[e]at hb;exact mem_cons_of_mem _ hb
 .rw[e]at hb;unfold bj at hb;rw[filterMap_cons,hf]at hb;exact hb
theorem Inv.vY (I:Inv X pins U H s):∀b∈bj X.stack,H b=none:=λb hb=>by
 rcases mem_cons.mp (I.ny b hb)with e|hb
 .rw[e];exact I.free
 .obtain⟨_,o,ho,_⟩:=I.ok.eL.mem hb;exact I.base.free b o ho (I.ok.il b hb) λz=>I.ok.pC b z hb
theorem Inv.step {g':Array GenState}{t':Nat}{d':Drawn}{ch:List Addr}(I:Inv X pins U H s)(fH:∀b∈ch,(b∈X.ex\/X.ar.heap.objs.size<=b)/\b≠X.env.locals/\(∀x c,X.env.cells.lookup x=some c->c≠b)/\∀p∈X.pn++pins,p.1≠b)(keep:∀b o,b≠X.env.locals->b∉X.fs->b∉ch->s.heap.get? b=some o->H b=none->h'.get? b=some o)(slot:∀b o,b≠X.env.locals->b∈X.fs->b∉ch->s.heap.get? b=some o->H b=none->∃sl,h'.get? b=some {o with slots:=sl})(free:∀b o,b∉ch->s.heap.get? b=some o->H b=none->H' b=none)(there:∀b o,b∉ch->s.heap.get? b=some o->∃o',h'.get? b=some o')(dE:∀b xs,H b=some (.tup xs)->H' b=some (.tup xs))(dh:∀b o u,H b=some (.aA o u)->H' b=some (.aA o u))(dP:∀b ps,H b=some (.lP ps)->∃more,H' b=some (.lP (ps++more)))(ns:∀m,s.heap.Ns X.env.locals m->h'.Ns X.env.locals m)(af:bG X.prog X.w H' h')(hg:AllBare g'):
  Inv X pins U H' {s with heap:=h',gens:=g',drawn:=d',toks:=t'}:=by
 have IG:∀b o,X.ar.heap.get? b=some o->b≠X.env.locals:=λb o e=>ne_of_lt (lt_of_lt_of_le (Heap.lt_size e) I.ok.above);have nA:∀b o,X.ar.heap.get? b=some o->b∉X.ex->b∉ch:=λb o e hx hb=>by
  rcases(fH b hb).1 with z|z
  .exact hx z
  .exact absurd (lt_of_lt_of_le (Heap.lt_size e) z) (lt_irrefl _)
 have cellK:∀x c,X.env.cells.lookup x=some c->∀v,s.heap.IsCell c v->h'.IsCell c v:=λx c e v ⟨o,ho,hd⟩=>by
  have i6:c∉ch:=λz=>(fH c z).2.2.1 x c e rfl;by_cases hc:c∈X.fs
  .obtain⟨sl,q⟩:=slot c o (I.ip x c e) hc i6 ho (I.dm x c e);exact⟨_,q,hd⟩
  .exact⟨o,keep c o (I.ip x c e) hc i6 ho (I.dm x c e),hd⟩
 refine⟨I.ok,I.os,hg,⟨λb o e n hb hx=>?_,λb o e n hb hx=>?_,λb o e n hx=>?_,λb o e hx=>?_,λb xs e=>dE b xs (I.base.dE b xs e),λb o xs e=>dh b o xs (I.base.dh b o xs e),λb ps e=>?_⟩,?_,λx c e=>?_,?_,λx c e=>?_,λp hp=>?_,af,I.len⟩
 .exact keep b o (IG b o e) hb (nA b o e hx) (I.base.keep b o e n hb hx) (I.base.free b o e n hx)
 .obtain⟨sl,e1⟩:=I.base.slot b o e n hb hx;obtain⟨nB,e2⟩:=slot b _ (IG b o e) hb (nA b o e hx) e1 (I.base.free b o e n hx);exact⟨nB,e2⟩
 .obtain⟨o',e1⟩:=I.base.there b o e hx;exact free b o' (nA b o e hx) e1 (I.base.free b o e n hx)
 .obtain⟨o',e1⟩:=I.base.there b o e hx;exact there b o' (nA b o e hx) e1
 .obtain⟨m1,e1⟩:=I.base.dP b ps e;obtain⟨m2,e2⟩:=dP b _ e1;exact⟨m1++m2,by rw[e2,Array.append_assoc]⟩
 .obtain⟨m,hn,hl⟩:=I.loc;refine⟨m,ns m hn,λi x v e1 e2 e3=>?_⟩;obtain⟨u,r,l⟩:=hl i x v e1 e2 e3;refine⟨u,r,?_⟩;rcases l with l|⟨k,c,e,z⟩
  .exact .inl l
  .exact .inr ⟨k,c,e,cellK x c e _ z⟩
 .obtain⟨v,z⟩:=I.cell x c e;exact⟨v,cellK x c e v z⟩
 .obtain⟨m,⟨o,_,_,ho,_⟩,_⟩:=I.loc;exact free _ o (λz=>(fH _ z).2.1 rfl) ho I.free
 .obtain⟨v,o,ho,hd⟩:=I.cell x c e;exact free c o (λz=>(fH c z).2.2.1 x c e rfl) ho (I.dm x c e)
 .obtain⟨e,n,ne,nf,d⟩:=I.pin p hp;have i6:p.1∉ch:=λz=>(fH p.1 z).2.2.2 p hp rfl;exact⟨keep p.1 p.2 ne nf i6 e n,free p.1 p.2 i6 e n,ne,nf,d⟩
theorem Inv.un {t':Nat}(I:Inv X pins U H s)(u:Un X.fs [] H H' s.heap h')(af:bG X.prog X.w H' h'):Inv X pins U H' {s with heap:=h',toks:=t'}:=by
 obtain⟨m,⟨o,es,ep,ho,r⟩,_⟩:=id I.loc;obtain⟨sl,hL⟩:=u.any ho I.free (by simp);exact I.step (g':=s.gens) (d':=s.drawn) (ch:=[]) (λ_ z=>nomatch z) (λb o _ hb _ e n=>u.keep b o e n hb (by simp)) (λb o _ hb _ e n=>u.slot b o e n hb (by simp)) (λb o _ e n=>u.free b o e n (by simp)) (λb o _ e=>u.there b o e (by simp)) u.dE u.dh u.dP (λm' hm=>by obtain⟨o',eW,dq,bc,r'⟩:=hm;rw[ho]at bc;cases bc;exact⟨_,eW,dq,hL,r'⟩) af I.bare
theorem Inv.call {g':Array GenState}{t':Nat}{d':Drawn}{ch:List Addr}(I:Inv X pins U H s)(u:Un (bj X.stack) ch H H' s.heap h')(af:bG X.prog X.w H' h')(hg:AllBare g')(fH:∀b∈ch,(b∈X.ex\/X.ar.heap.objs.size<=b)/\b≠X.env.locals/\(∀x c,X.env.cells.lookup x=some c->c≠b)/\∀p∈X.pn++pins,p.1≠b):
  Inv X pins U H' {s with heap:=h',gens:=g',drawn:=d',toks:=t'}:=by
 obtain⟨m,⟨o,es,ep,ho,r⟩,_⟩:=id I.loc;obtain⟨sl,hL⟩:=u.any ho I.free λz=>(fH _ z).2.1 rfl;exact I.step (ch:=ch) fH (λb o hL hb hc e n=>u.keep b o e n (λz=>(mem_cons.mp (I.ny b z)).elim hL hb) hc) (λb o _ _ hc e n=>u.any e n hc) (λb o hc e n=>u.free b o e n hc) (λb o hc e=>u.there b o e hc) u.dE u.dh u.dP (λm' hm=>by obtain⟨o',eW,dq,bc,r'⟩:=hm;rw[ho]at bc;cases bc;exact⟨_,eW,dq,hL,r'⟩) af hg
theorem Inv.turned {t':Nat}{it:Addr}(I:Inv X pins U H s)(k:∀b o,b≠it->s.heap.get? b=some o->h'.get? b=some o)(hn:H it=none)(hL:it≠X.env.locals)(h1:it∈X.ex\/X.ar.heap.objs.size<=it)(h2:∀x c,X.env.cells.lookup x=some c->c≠it)(h3:∀p∈X.pn++pins,p.1≠it):Inv X pins U H {s with heap:=h',toks:=t'}:=by
 have IH:∀b u,H b=some u->b≠it:=λb u e z=>by rw[z,hn]at e;cases e
 refine I.step (g':=s.gens) (d':=s.drawn) (ch:=[it]) (λb hb=>?_) (λb o _ _ hc e _=>k b o (λz=>hc (by simp[z])) e) (λb o _ _ hc e _=>⟨o.slots,k b o (λz=>hc (by simp[z])) e⟩) (λ_ _ _ _ n=>n) (λb o hc e=>⟨o,k b o (λz=>hc (by simp[z])) e⟩) (λ_ _ e=>e) (λ_ _ _ e=>e) (λb ps e=>⟨#[],by rw[e];simp⟩) (λm hm=>?_) (λb u e=>?_) I.bare
 .have e:b=it:=by simpa using hb
  subst e;exact⟨h1,hL,h2,h3⟩
 .obtain⟨o,es,ep,ho,r⟩:=hm;exact⟨o,es,ep,k _ o (Ne.symm hL) ho,r⟩
 .refine(I.af b u e).cC (λc v hc q=>k c v ?_ q) (λ_ q=>q) λ_ _ q=>q;rcases hc with z|z
  .rw[z];exact IH b u e
  .exact IH c _ z
theorem Inv.tok (I:Inv X pins U H s)(t:Nat):Inv X pins U H {s with toks:=t}:=I.un (h':=s.heap) (t':=t) Un.refl I.af
theorem Inv.kept {t':Nat}(I:Inv X pins U H s)(k:∀b u,s.heap.get? b=some u->h'.get? b=some u):Inv X pins U H {s with heap:=h',toks:=t'}:=I.un (Un.kept k) (I.af.kept k)
theorem Inv.laid {a:Addr}{o:HO}{t':Nat}(I:Inv X pins U H s)(k:∀b u,s.heap.get? b=some u->h'.get? b=some u)(hp:s.heap.objs.size<=a)(new:yx X.prog X.w (upd H a o) h' a o):Inv X pins U (upd H a o) {s with heap:=h',toks:=t'}:=I.un (Un.laid k hp (I.af.fresh hp)) (I.af.laid k hp new)
theorem Inv.write {x e:Addr}{o:HO}{t':Nat}(I:Inv X pins U H s)(mu:gA (H x))(he:e=x\/H e=some (.own x))(k:∀b u,b≠e->s.heap.get? b=some u->h'.get? b=some u)(pB:∃u,h'.get? e=some u)(new:yx X.prog X.w (upd H x o) h' x o):Inv X pins U (upd H x o) {s with heap:=h',toks:=t'}:=I.un (Un.write mu he k pB) (I.af.write mu he k pB new)
theorem Inv.vZ {bF:List (Addr×Obj)}(I:Inv X pins U H s)(h:∀p∈bF,s.heap.get? p.1=some p.2/\H p.1=none/\p.1≠X.env.locals/\p.1∉X.fs/\∀v,p.2.data≠.cell v):Inv X bF U H s:=⟨I.ok,I.os,I.bare,I.base,I.loc,I.cell,I.free,I.dm,λp hp=>(mem_append.mp hp).elim (λz=>I.pin p (mem_append_left _ z)) (h p),I.af,I.len⟩
theorem Bx {N:List Str}(hN:N.Nodup){i j:Nat}{x:Str}(a:N[i]?=some x)(b:N[j]?=some x):i=j:=by obtain⟨h1,e1⟩:=List.getElem?_eq_some_iff.mp a;obtain⟨h2,e2⟩:=List.getElem?_eq_some_iff.mp b;exact(List.getElem_inj hN).mp (e1.trans e2.symm)
theorem II {M:Model}{A:Around}{E:Value->Shared->Prop}{i:Nat}{x:Str}{v:V}{u:Value}{Q:Unit->Shared->Prop}(I:Inv X pins U H s)(hN:X.N.Nodup)(hi:X.N[i]?=some x)(hx:Loc X.env.scope x)(r:RelV v u)(h:∀s',Inv X pins (U.set i (some v)) H s'->(∃a,Heap.SameBut a s.heap s'.heap/\(a=X.env.locals\/X.env.cells.lookup x=some a))->Q () s')(hf:autoParam (X.fn x=true\/X.env.scope.names.lookup x=some .local) aP5):wpAny M A (storeName X.env x u) Q E s:=by
 obtain⟨m,hn,hl⟩:=id I.loc;have By:(X.env.scope.kind== .class||(X.env.scope.kind== .module&&X.env.locals != X.env.globals))=false:=by rw[I.ok.kind];rfl
 have pD:i<U.length:=by rw[I.len];exact(List.getElem?_eq_some_iff.mp hi).1
 have ip:=I.ip;have tracked:∀{a:Addr}{h':Heap},(∃o,s.heap.get? a=some o/\H a=none)->Heap.SameBut a s.heap h'->bG X.prog X.w H h':=λ{a h'} ha hs b ob e=>by
  obtain⟨_,_,lQ⟩:=ha;refine(I.af b ob e).cC (λc w' hc q=>(hs.2 c ?_).trans q) (λ_ q=>q) λ_ _ q=>q
  rintro rfl
  rcases hc with rfl|hc
  .rw[lQ]at e;cases e
  .rw[lQ]at hc;cases hc
 rcases hx with hk|hk
 .refine wpAny_storeName_local hk hn (λh' iq hs=>?_) By;obtain⟨oL,_,_,IJ,_⟩:=id hn;refine h _ ⟨I.ok,I.os,I.bare,⟨λb o e n hb hx=>?_,λb o e n hb hx=>?_,I.base.free,λb o e hx=>?_,I.base.dE,I.base.dh,I.base.dP⟩,⟨_,iq,λj y v' e1 e2 e3=>?_⟩,λy c e=>?_,I.free,I.dm,λp hp=>?_,tracked ⟨oL,IJ,I.free⟩ hs,by simpa using I.len⟩ ⟨_,hs,.inl rfl⟩
  .exact(hs.2 b (ne_of_lt (lt_of_lt_of_le (Heap.lt_size e) I.ok.above))).trans (I.base.keep b o e n hb hx)
  .obtain⟨sl,e1⟩:=I.base.slot b o e n hb hx;exact⟨sl,(hs.2 b (ne_of_lt (lt_of_lt_of_le (Heap.lt_size e) I.ok.above))).trans e1⟩
  .obtain⟨o',e1⟩:=I.base.there b o e hx;exact⟨o',(hs.2 b (ne_of_lt (lt_of_lt_of_le (Heap.lt_size e) I.ok.above))).trans e1⟩
  .by_cases hj:j=i
   .subst hj;rw[hi]at e1;cases e1;rw[getElem?_set_self pD]at e2;cases e2;exact⟨u,r,.inl ⟨hk,by simp⟩⟩
   .rw[getElem?_set_ne (Ne.symm hj)]at e2;obtain⟨u',r',q⟩:=hl j y v' e1 e2 e3;refine⟨u',r',?_⟩;rcases q with⟨k,e⟩|⟨k,c,e,z⟩
    .refine .inl ⟨k,?_⟩;have:y≠x:=λe=>hj (Bx hN e1 (e ▸ hi));simp[this,e]
    .exact .inr ⟨k,c,e,z.sameBut hs (ip y c e)⟩
  .obtain⟨w',z⟩:=I.cell y c e;exact⟨w',z.sameBut hs (ip y c e)⟩
  .obtain⟨e,n,ne,nf,d⟩:=I.pin p hp;exact⟨(hs.2 p.1 ne).trans e,n,ne,nf,d⟩
 .have Bz:X.fn x=true:=by
   rcases hf with z|z
   .exact z
   .rw[z]at hk;cases hk
  obtain⟨c,hc⟩:=I.ok.has x (.inl hk);obtain⟨w',z⟩:=I.cell x c hc;refine wpAny_storeName_cell I.ok.kind hk hc z (λh' i7 hs=>?_);obtain⟨oc,wA,BA⟩:=id z;refine h {s with heap:=h'} ⟨I.ok,I.os,I.bare,⟨λb o e n hb hx=>?_,λb o e n hb hx=>?_,I.base.free,λb o e hx=>?_,I.base.dE,I.base.dh,I.base.dP⟩,⟨m,hn.sameBut hs (Ne.symm (ip x c hc)),λj y v' e1 e2 e3=>?_⟩,λy c' e=>?_,I.free,I.dm,λp hp=>?_,tracked ⟨oc,wA,I.dm x c hc⟩ hs,by simpa using I.len⟩ ⟨c,hs,.inr hc⟩
  .exact(hs.2 b (ne_of_lt (lt_of_lt_of_le (Heap.lt_size e) (I.ok.mZ x c Bz hc)))).trans (I.base.keep b o e n hb hx)
  .obtain⟨sl,e1⟩:=I.base.slot b o e n hb hx;exact⟨sl,(hs.2 b (ne_of_lt (lt_of_lt_of_le (Heap.lt_size e) (I.ok.mZ x c Bz hc)))).trans e1⟩
  .obtain⟨o',e1⟩:=I.base.there b o e hx;exact⟨o',(hs.2 b (ne_of_lt (lt_of_lt_of_le (Heap.lt_size e) (I.ok.mZ x c Bz hc)))).trans e1⟩
  .by_cases hj:j=i
   .subst hj;rw[hi]at e1;cases e1;rw[getElem?_set_self pD]at e2;cases e2;exact⟨u,r,.inr ⟨.inl hk,c,hc,i7⟩⟩
   .rw[getElem?_set_ne (Ne.symm hj)]at e2;obtain⟨u',r',q⟩:=hl j y v' e1 e2 e3;refine⟨u',r',?_⟩;rcases q with q|⟨k,c',e,z'⟩
    .exact .inl q
    .refine .inr ⟨k,c',e,z'.sameBut hs ?_⟩
     rintro rfl
     exact hj (Bx hN e1 (I.ok.inj _ _ _ e hc ▸ hi))
  .by_cases IK:c'=c
   .subst IK;exact⟨_,i7⟩
   .obtain⟨w2,z2⟩:=I.cell y c' e;exact⟨w2,z2.sameBut hs IK⟩
  .obtain⟨e,n,ne,nf,d⟩:=I.pin p hp;refine⟨(hs.2 p.1 ?_).trans e,n,ne,nf,d⟩;intro q;rw[q,wA]at e;have q':oc=p.2:=Option.some.inj e;exact d w' (by rw[<-q'];exact BA)
theorem wB {M:Model}{A:Around}{E:Value->Shared->Prop}{i:Nat}{x:Str}{v:V}{u:Value}{Q:Unit->Shared->Prop}(I:Inv X pins U H s)(hN:X.N.Nodup)(hi:X.N[i]?=some x)(hx:Loc X.env.scope x)(r:RelV v u)(h:∀s',Inv X pins (U.set i (some v)) H s'->Q () s')(hf:autoParam (X.fn x=true\/X.env.scope.names.lookup x=some .local) aP5):wpAny M A (storeName X.env x u) Q E s:=
 II I hN hi hx r (λs' I' _=>h s' I') hf
theorem Inv.BB {s':Shared}{ch:List Addr}(I:Inv X pins U H s)(ho:s'.os=s.os)(u:Un (bj X.stack) ch H H' s.heap s'.heap)(af:bG X.prog X.w H' s'.heap)(hg:AllBare s'.gens)(fH:∀b∈ch,(b∈X.ex\/X.ar.heap.objs.size<=b)/\b≠X.env.locals/\(∀x c,X.env.cells.lookup x=some c->c≠b)/\∀p∈X.pn++pins,p.1≠b):Inv X pins U H' s':=by
 obtain⟨h',g',d',t',o'⟩:=s';have e:o'=s.os:=ho;subst e;exact I.call (g':=g') (t':=t') (d':=d') u af hg fH
end
noncomputable abbrev XK:=Value->Option Addr->Hp->Prop
noncomputable abbrev St:=List (Option V)
noncomputable abbrev VK:=V->Hp->Prop
noncomputable abbrev TE:=St->Hp->VK->Prop
noncomputable abbrev TT:=St->Hp->(Bool->Hp->Prop)->Prop
noncomputable abbrev TA:=St->Hp->(List V->Hp->Prop)->Prop
structure Ends where
 nx:St->Hp->Prop
 rt:VK
 bk:St->Hp->Prop:=λ_ _=>False
 ct:St->Hp->Prop:=λ_ _=>False
noncomputable abbrev TS:=Ends->St->Hp->Prop
noncomputable def EP (X:Cx)(pins:List (Addr×Obj))(U:St)(Q:VK)(u:Value)(s':Shared):Prop:=∃v H',Inv X pins U H' s'/\RelV v u/\Q v H'
noncomputable def TP (X:Cx)(pins:List (Addr×Obj))(U:St)(Q:Bool->Hp->Prop)(b:Bool)(s':Shared):Prop:=∃H',Inv X pins U H' s'/\Q b H'
noncomputable def AP (X:Cx)(pins:List (Addr×Obj))(U:St)(Q:List V->Hp->Prop)(us:List Value)(s':Shared):Prop:=∃vs H',Inv X pins U H' s'/\Vals vs us/\Q vs H'
noncomputable def SP (X:Cx)(pins:List (Addr×Obj))(D:Ends)(f:Flow)(s':Shared):Prop:=match f with
 | .next=>∃U' H',Inv X pins U' H' s'/\D.nx U' H'
 | .brk=>∃U' H',Inv X pins U' H' s'/\D.bk U' H'
 | .cont=>∃U' H',Inv X pins U' H' s'/\D.ct U' H'
 | .ret u=>∃v U' H',Inv X pins U' H' s'/\RelV v u/\D.rt v H'
noncomputable def PE (X:Cx)(e:Expr)(t:TE):Prop:=∀(pins:List (Addr×Obj))(s:Shared)(U:St)(H:Hp)(Q:VK),Inv X pins U H s->t U H Q->wpAny (model X.prog X.w) X.A (eval e X.env) (EP X pins U Q) X.xe s
noncomputable def PT (X:Cx)(e:Expr)(t:TT):Prop:=∀(pins:List (Addr×Obj))(s:Shared)(U:St)(H:Hp)(Q:Bool->Hp->Prop),Inv X pins U H s->t U H Q->wpAny (model X.prog X.w) X.A (isTrue e X.env (eval e X.env)) (TP X pins U Q) X.xe s
noncomputable def PW (X:Cx)(e:Expr)(t:TT):Prop:=∀(whole:Sem Value)(pins:List (Addr×Obj))(s:Shared)(U:St)(H:Hp)(Q:Bool->Hp->Prop),Inv X pins U H s->t U H Q->wpAny (model X.prog X.w) X.A (isTrue e X.env whole) (TP X pins U Q) X.xe s
theorem PW.pt {X:Cx}{e:Expr}{t:TT}(h:PW X e t):PT X e t:=h _
noncomputable def PA (X:Cx)(es:List Expr)(t:TA):Prop:=∀(pos:Pos)(pins:List (Addr×Obj))(s:Shared)(U:St)(H:Hp)(Q:List V->Hp->Prop),Inv X pins U H s->t U H Q->wpAny (model X.prog X.w) X.A (spliced (backTo pos (starEach es X.env))) (AP X pins U Q) X.xe s
noncomputable def PS (X:Cx)(st:Stmt)(t:TS):Prop:=∀(pins:List (Addr×Obj))(s:Shared)(U:St)(H:Hp)(D:Ends),Inv X pins U H s->t D U H->wpAny (model X.prog X.w) X.A (exec st X.env) (SP X pins D) X.xe s
noncomputable def cL (X:Cx)(st:List Stmt)(t:TS):Prop:=∀(pins:List (Addr×Obj))(s:Shared)(U:St)(H:Hp)(D:Ends),Inv X pins U H s->t D U H->wpAny (model X.prog X.w) X.A (execs st X.env) (SP X pins D) X.xe s
theorem ah {α:Type}{t:Sem α}{Q Q':α->Shared->Prop}{M:Model}{A:Around}{E:Value->Shared->Prop}{s:Shared}(h:wpAny M A t Q E s)(hQ:∀a s,Q a s->Q' a s):wpAny M A t Q' E s:=wpAny_mono h hQ λ_ _ x=>x
section
variable {X:Cx}
theorem bin {a b:Expr}{ta tb:TE}(ha:PE X a ta)(hb:PE X b tb){pins:List (Addr×Obj)}{s:Shared}{U:St}{H:Hp}{R:V->V->Hp->Prop}(I:Inv X pins U H s)(h:ta U H λx H1=>tb U H1 λy H2=>R x y H2){α:Type}{Q:α->Shared->Prop}{f:Value->Value->Sem α}(hf:∀v u s2 x y H2,Inv X pins U H2 s2->RelV x v->RelV y u->R x y H2->wpAny (model X.prog X.w) X.A (f v u) Q X.xe s2):
  wpAny (model X.prog X.w) X.A (eval a X.env) (λv ai=>wpAny (model X.prog X.w) X.A (eval b X.env) (λu aa=>wpAny (model X.prog X.w) X.A (f v u) Q X.xe aa) X.xe ai) X.xe s:=by
 refine ah (ha pins s U H _ I h) λv s1 zQ=>?_;obtain⟨x,H1,I1,r1,q1⟩:=zQ;refine ah (hb pins s1 U H1 _ I1 q1) λu s2 zQ=>?_;obtain⟨y,H2,I2,r2,q2⟩:=zQ;exact hf v u s2 x y H2 I2 r1 r2 q2
noncomputable def IL (i:Nat):TE:=λU H Q=>∃v,U[i]?=some (some v)/\Q v H
noncomputable def tC (v:V):TE:=λ_ H Q=>Q v H
theorem PX {i:Nat}{x:Str}{pos:Pos}(hN:X.N[i]?=some x)(hv:qX X.env.scope x)(hd:autoParam ((x==("__debug__":Str))=false) aP2)(dR:autoParam ((x==("__classdict__":Str))=false) aP2):PE X (.Name x pos) (IL i):=by
 intro pins s U H Q I h;obtain⟨v,e,h⟩:=h;obtain⟨m,hn,hl⟩:=I.loc;obtain⟨u,r,l⟩:=hl i x v hN e hv;have fin:EP X pins U Q u s:=⟨v,H,I,r,h⟩;rcases l with⟨hk,hm⟩|⟨hk,c,hc,cY⟩
 .exact wpAny_Name (wpAny_loadName_local I.ok.kind hk hn hm fin) hd
 .rcases hk with hk|hk
  .exact wpAny_Name (wpAny_loadName_cell I.ok.kind hk hc cY fin) hd
  .exact wpAny_Name (wpAny_loadName_free I.ok.kind hk hc cY fin dR) hd
theorem jk {i j pos}:PE X (.Constant (.int i) j pos) (tC (.int i)):=λ_ _ _ H _ I h=>wpAny_Constant_int ⟨.int i,H,I.tok _,⟨_,rfl⟩,h⟩
theorem eN {b j pos}:PE X (.Constant (.bool b) j pos) (tC (.bl b)):=λ_ _ _ H _ I h=>Constant_bool ⟨.bl b,H,I,rfl,h⟩
theorem jX {j pos}:PE X (.Constant .none j pos) (tC .aj):=λ_ _ _ H _ I h=>Constant_none ⟨.aj,H,I,rfl,h⟩
theorem wu {x j pos}:PE X (.Constant (.str x) j pos) (tC (.str x)):=λ_ _ _ H _ I h=>Calls.Constant_str ⟨.str x,H,I.tok _,⟨_,rfl⟩,h⟩
noncomputable def Gl (X:Cx)(x:Str):Prop:=X.env.kindOf x=some .globalImplicit
theorem lR {E:Value->Shared->Prop}{pins:List (Addr×Obj)}{s:Shared}{U:St}{H:Hp}{x:Str}{u:Value}{pos:Pos}{Q:Value->Shared->Prop}(I:Inv X pins U H s)(hg:Gl X x)(hm:X.mg x=some u)(h:Q u s)(hd:autoParam ((x==("__debug__":Str))=false) aP2):wpAny (model X.prog X.w) X.A (eval (.Name x pos) X.env) Q E s:=
 Calls.Name_function_global I.ok.kind hg (Calls.loadGlobal_global (by rw[I.ok.glob];exact I.mod.glob.keeps I.bk) hm h) hd
theorem wC {E:Value->Shared->Prop}{pins:List (Addr×Obj)}{s:Shared}{U:St}{H:Hp}{x:Str}{u:Value}{pos:Pos}{Q:Value->Shared->Prop}(I:Inv X pins U H s)(hg:Gl X x)(hm:X.mg x=none)(hv:bootBuiltins x=some u)(h:Q u s)(hn:autoParam (x≠"__name__") aP2)(hd:autoParam ((x==("__debug__":Str))=false) aP2):wpAny (model X.prog X.w) X.A (eval (.Name x pos) X.env) Q E s:=by
 obtain⟨mb,h1,h2⟩:=I.mod.blt;exact Calls.Name_function_global I.ok.kind hg (Calls.loadGlobal_builtin (by rw[I.ok.glob];exact I.mod.glob.keeps I.bk) hm (by rw[I.ok.blt];exact h1.keeps I.bk) ((h2 x hn).trans hv) h) hd
theorem ze {x:Str}{v:V}{u:Value}{pos:Pos}(hg:Gl X x)(hm:X.mg x=some u)(r:RelV v u)(hd:autoParam ((x==("__debug__":Str))=false) aP2):PE X (.Name x pos) (tC v):=λ_ _ _ H _ I h=>lR I hg hm ⟨v,H,I,r,h⟩ hd
theorem jY {x:Str}{v:V}{u:Value}{pos:Pos}(hg:Gl X x)(hm:X.mg x=none)(hv:bootBuiltins x=some u)(r:RelV v u)(hn:autoParam (x≠"__name__") aP2)(hd:autoParam ((x==("__debug__":Str))=false) aP2):PE X (.Name x pos) (tC v):=λ_ _ _ H _ I h=>wC I hg hm hv ⟨v,H,I,r,h⟩ hn hd
variable {a b:Expr}{ta tb:TE}{pos:Pos}
noncomputable def PC (X:Cx)(op:CmpOp)(a b:Expr)(t:TE):Prop:=∀(pins:List (Addr×Obj))(s:Shared)(U:St)(H:Hp)(Q:VK),Inv X pins U H s->t U H Q->wpAny (model X.prog X.w) X.A (eval a X.env) (λv ai=>wpAny (model X.prog X.w) X.A (eval b X.env) (λu aa=>wpAny (model X.prog X.w) X.A (compareOp op v u) (EP X pins U Q) X.xe aa) X.xe ai) X.xe s
noncomputable def tB (t:TE):TT:=λU H Q=>t U H λx H1=>∃c,x= .bl c/\Q c H1
theorem wD {op:CmpOp}{t:TE}(h:PC X op a b t)(h1:behindInMarks op b=false:=by first|exact qY _ (by decide) (by decide)|rfl):PT X (.Compare a [op] [b] pos) (tB t):=by intro pins s U H Q I hw;refine wpAny_isTrue_Compare1 (ah (h pins s U H _ I hw) λv s1 h1=>ah h1 λu s2 h2=>ah h2 λc s3 zQ=>?_) h1;obtain⟨x,H1,I1,r1,q1⟩:=zQ;obtain⟨d,rfl,q⟩:=q1;cases r1;exact wpAny_truthy_bool ⟨H1,I1,q⟩
theorem qz {e:Expr}{t:TE}(h:PE X e t)(he:autoParam (∀whole,isTrue e X.env whole=(do let v<-whole;standAt e.pos;holding [v] (truthy v))) aP3):PT X e (tB t):=by intro pins s U H Q I hw;refine isTrue_plain (ah (h pins s U H _ I hw) λv s1 zQ=>?_) (he _);obtain⟨x,H1,I1,r1,q1⟩:=zQ;obtain⟨d,rfl,q⟩:=q1;cases r1;exact wpAny_truthy_bool ⟨H1,I1,q⟩
variable {tA wF:TT}{rest:List Expr}
noncomputable def PY (t u:TT):TT:=λU H Q=>t U H λc H1=>if c=true then u U H1 Q else Q false H1
noncomputable def PZ (t u:TT):TT:=λU H Q=>t U H λc H1=>if c=true then Q true H1 else u U H1 Q
noncomputable def P0 (t:TT):TT:=λU H Q=>t U H λc H1=>Q (!c) H1
theorem lS (ha:PT X a tA):PW X (.BoolOp .And [a] pos) tA:=by
 intro wh pins s U H Q I h;refine isTrue_and (ah (ha pins s U H Q I h) λc s1 e=>?_);cases c with
 |true=>exact isTrue_and_nil e
 |false=>exact e
theorem dS (ha:PT X a tA):PW X (.BoolOp .Or [a] pos) tA:=by
 intro wh pins s U H Q I h;refine isTrue_or (ah (ha pins s U H Q I h) λc s1 e=>?_);cases c with
 |false=>exact isTrue_or_nil e
 |true=>exact e
theorem jZ (ha:PT X a tA)(hb:PW X (.BoolOp .And (b::rest) pos) wF):PW X (.BoolOp .And (a::b::rest) pos) (PY tA wF):=by
 intro wh pins s U H Q I h;refine isTrue_and (ah (ha pins s U H _ I h) λc s1 zQ=>?_);obtain⟨H1,I1,q1⟩:=zQ;cases c with
 |true=>exact hb wh pins s1 U H1 Q I1 q1
 |false=>exact⟨H1,I1,q1⟩
theorem dF (ha:PT X a tA)(hb:PW X (.BoolOp .Or (b::rest) pos) wF):PW X (.BoolOp .Or (a::b::rest) pos) (PZ tA wF):=by
 intro wh pins s U H Q I h;refine isTrue_or (ah (ha pins s U H _ I h) λc s1 zQ=>?_);obtain⟨H1,I1,q1⟩:=zQ;cases c with
 |true=>exact⟨H1,I1,q1⟩
 |false=>exact hb wh pins s1 U H1 Q I1 q1
theorem zy (ha:PT X a tA):PT X (.UnaryOp .Not a pos) (P0 tA):=by intro pins s U H Q I h;exact isTrue_not (ha pins s U H (λc H1=>Q (!c) H1) I h)
noncomputable def P2 (ta tb:TE):TE:=λU H Q=>ta U H λx H1=>∃c,x= .bl c/\if c=true then tb U H1 Q else Q (.bl false) H1
noncomputable def P4 (ta:TE):TE:=λU H Q=>ta U H λx H1=>∃c,x= .bl c/\Q (.bl (!c)) H1
theorem lT {op}{t:TE}(h:PE X a t):PE X (.BoolOp op [a] pos) t:=λpins s U H Q I hw=>BoolOp_one (h pins s U H Q I hw)
theorem kA (ha:PE X a ta)(hb:PE X (.BoolOp .And (b::rest) pos) tb):PE X (.BoolOp .And (a::b::rest) pos) (P2 ta tb):=by
 intro pins s U H Q I h;refine BoolOp_and (ah (ha pins s U H _ I h) λv s1 zQ=>?_);obtain⟨x,H1,I1,r1,q1⟩:=zQ;obtain⟨c,rfl,q1⟩:=q1;cases r1;refine wpAny_truthy_bool ?_;cases c with
 |true=>exact hb pins s1 U H1 Q I1 q1
 |false=>exact⟨.bl false,H1,I1,rfl,q1⟩
theorem P5 (ha:PE X a ta):PE X (.UnaryOp .Not a pos) (P4 ta):=by intro pins s U H Q I h;refine UnaryOp_ (ah (ha pins s U H _ I h) λv s1 zQ=>?_);obtain⟨x,H1,I1,r1,q1⟩:=zQ;obtain⟨c,rfl,q1⟩:=q1;cases r1;exact not_of (wpAny_truthy_bool ⟨.bl (!c),H1,I1,rfl,q1⟩)
noncomputable def P6 (t:TT)(ta tb:TE):TE:=λU H Q=>t U H λc H1=>if c=true then ta U H1 Q else tb U H1 Q
theorem wG {c:Expr}(hc:PT X c tA)(ha:PE X a ta)(hb:PE X b tb):PE X (.IfExp c a b pos) (P6 tA ta tb):=by
 intro pins s U H Q I h;refine wpAny_IfExp (ah (hc pins s U H _ I h) λd s1 zQ=>?_);obtain⟨H1,I1,q1⟩:=zQ;cases d with
 |true=>exact ha pins s1 U H1 Q I1 q1
 |false=>exact hb pins s1 U H1 Q I1 q1
end
noncomputable def ag (K:PySem.W.Frag)(H:Hp)(a:Addr)(xs:List V):Prop:=Rd H a (.lst xs)\/∃(o:Obj)(its:Array Value)(n:Nat),K.lookup a=some o/\o.cls= .type "list"/\o.dict=none/\o.data= .seq its n/\its.size<=sizeLine/\Vals xs its.toList
noncomputable def aw (K:PySem.W.Frag)(H:Hp)(a:Addr)(xs:List V):Prop:=Rd H a (.tup xs)\/∃(o:Obj)(its:Array Value)(n:Nat),K.lookup a=some o/\o.cls= .type "tuple"/\o.data= .seq its n/\its.size<=sizeLine/\Vals xs its.toList
noncomputable def P7:Value->Option V
 | .none=>some .aj
 | .bool b=>some (.bl b)
 | .int i _=>some (.int i)
 | .str x _=>some (.str x)
 | .bytes b _=>some (.eV b)
 | .float b _=>some (.lO b)
 | .ref a=>some (.ref a)
 | .type n=>some (.ty n)
 |_=>none
theorem RelV.abs {x:V}{u:Value}(r:RelV x u):P7 u=some x:=by
 cases x with
 |aj=>cases r;rfl
 |bl _=>cases r;rfl
 |int _=>obtain⟨t,rfl⟩:=r;rfl
 |str _=>obtain⟨t,rfl⟩:=r;rfl
 |eV _=>obtain⟨t,rfl⟩:=r;rfl
 |lO _=>obtain⟨t,rfl⟩:=r;rfl
 |ref _=>cases r;rfl
 |ty _=>cases r;rfl
theorem RelV.inj {x y:V}{u:Value}(r:RelV x u)(q:RelV y u):x=y:=Option.some.inj (r.abs.symm.trans q.abs)
theorem Vals.inj:∀{xs ys:List V}{us:List Value},Vals xs us->Vals ys us->xs=ys:=λ{xs ys us} p q=>by
 induction p generalizing ys with
 |nil=>cases q;rfl
 |cons r t ih=>
  cases q with
  |cons r' t'=>rw[r.inj r',ih t']
section
variable {X:Cx}{pins:List (Addr×Obj)}{U:St}{H:Hp}{s:Shared}{a:Addr}{xs ys:List V}
theorem ag.of {K:PySem.W.Frag}(h:H a=some (.lst xs)):ag K H a xs:=.inl (.inl h)
theorem aw.of {K:PySem.W.Frag}(h:H a=some (.tup xs)):aw K H a xs:=.inl (.inl h)
theorem Inv.list (I:Inv X pins U H s)(h:ag X.K H a xs):∃its:List Value,Vals xs its/\PlainL s.heap a its.toArray/\xs.length<=sizeLine:=by
 rcases h with h|⟨o,its,n,hk,hc,hd,hs,hz,r⟩
 .obtain⟨z,its,n,r,e⟩:=h.ok I.af;exact⟨its,r,⟨_,n,e,rfl,rfl,rfl⟩,z⟩
 .refine⟨its.toList,r,⟨o,n,I.aO a o hk,hc,hd,by simpa using hs⟩,?_⟩;have e:=r.length;simp only[Array.length_toList]at e;lia
theorem Inv.tuple (I:Inv X pins U H s)(h:aw X.K H a xs):∃its:List Value,Vals xs its/\IsTup s.heap a its.toArray/\xs.length<=sizeLine:=by
 rcases h with h|⟨o,its,n,hk,hc,hs,hz,r⟩
 .obtain⟨z,its,r,p⟩:=h.ok I.af;exact⟨its,r,p,z⟩
 .refine⟨its.toList,r,⟨o,I.aO a o hk,hc,n,by simpa using hs⟩,?_⟩;have e:=r.length;simp only[Array.length_toList]at e;lia
theorem Inv.IM (I:Inv X pins U H s)(h:ag X.K H a xs)(h':ag X.K H a ys):xs=ys:=by
 obtain⟨its,r,⟨o,n,e,_,_,d⟩,_⟩:=I.list h;obtain⟨its',r',⟨o',n',e',_,_,d'⟩,_⟩:=I.list h';rw[e]at e';cases e';rw[d]at d';injection d' with d1 _;have:its=its':=by simpa using congrArg Array.toList d1
 subst this;exact r.inj r'
theorem Inv.BC (I:Inv X pins U H s)(h:aw X.K H a xs)(h':aw X.K H a ys):xs=ys:=by
 obtain⟨its,r,⟨o,e,_,n,d⟩,_⟩:=I.tuple h;obtain⟨its',r',⟨o',e',_,n',d'⟩,_⟩:=I.tuple h';rw[e]at e';cases e';rw[d]at d';injection d' with d1 _;have:its=its':=by simpa using congrArg Array.toList d1
 subst this;exact r.inj r'
end
noncomputable abbrev Cx.i8 (X:Cx)(E:Value->Shared->Prop):Cx:={X with xe:=E}
noncomputable abbrev Cx.pE (X:Cx):Cx:=X.i8 λ_ _=>False
theorem Cx.Ok.i8 {X:Cx}(ok:X.Ok)(E:Value->Shared->Prop):(X.i8 E).Ok:=⟨ok.mod,ok.kind,ok.glob,ok.blt,ok.above,ok.inj,ok.has,ok.mZ,ok.hd,ok.frames,ok.cQ,ok.vX,ok.bs,ok.i5,ok.ni,ok.pC,ok.eL,ok.il⟩
theorem Cx.Ok.lU {X:Cx}{E:Value->Shared->Prop}(ok:(X.i8 E).Ok):X.Ok:=⟨ok.mod,ok.kind,ok.glob,ok.blt,ok.above,ok.inj,ok.has,ok.mZ,ok.hd,ok.frames,ok.cQ,ok.vX,ok.bs,ok.i5,ok.ni,ok.pC,ok.eL,ok.il⟩
section
variable {X:Cx}{pins:List (Addr×Obj)}{U:St}{H:Hp}{s:Shared}{E:Value->Shared->Prop}
theorem Inv.i8 (I:Inv X pins U H s)(E:Value->Shared->Prop):Inv (X.i8 E) pins U H s:=⟨I.ok.i8 E,I.os,I.bare,I.base,I.loc,I.cell,I.free,I.dm,I.pin,I.af,I.len⟩
theorem Inv.lU (I:Inv (X.i8 E) pins U H s):Inv X pins U H s:=⟨I.ok.lU,I.os,I.bare,I.base,I.loc,I.cell,I.free,I.dm,I.pin,I.af,I.len⟩
theorem SP.lU {D:Ends}{f:Flow}{s':Shared}(h:SP (X.i8 E) pins D f s'):SP X pins D f s':=by
 cases f with
 |next=>obtain⟨U',H',I,q⟩:=h;exact⟨U',H',I.lU,q⟩
 |brk=>obtain⟨U',H',I,q⟩:=h;exact⟨U',H',I.lU,q⟩
 |cont=>obtain⟨U',H',I,q⟩:=h;exact⟨U',H',I.lU,q⟩
 |ret u=>obtain⟨v,U',H',I,r,q⟩:=h;exact⟨v,U',H',I.lU,r,q⟩
theorem cL.pE {st:List Stmt}{t:TS}(h:cL X.pE st t):cL X st t:=λpins s U H D I hw=>wpAny_mono (h pins s U H D (I.i8 _) hw) (λ_ _ q=>q.lU) λ_ _ z=>False.elim z
end
section
variable {X:Cx}{st:Stmt}{rest:List Stmt}{t u:TS}{e:Expr}{te:TE}{pos:Pos}
noncomputable def P8:TS:=λD U H=>D.nx U H
noncomputable def IP (t u:TS):TS:=λD U H=>t {D with nx:=u D} U H
theorem j6:cL X [] P8:=λ_ _ U H _ I h=>wpAny_execs_nil ⟨U,H,I,h⟩
theorem jb (h1:PS X st t)(h2:cL X rest u):cL X (st::rest) (IP t u):=by
 intro pins s U H D I h;refine wpAny_execs_cons (ah (h1 pins s U H {D with nx:=u D} I h) λf s1 q=>?_);cases f with
 |next=>obtain⟨U',H',I',q⟩:=q;exact h2 pins s1 U' H' D I' q
 |ret v=>exact q
 |brk=>exact q
 |cont=>exact q
theorem je (h1:PS X st t):cL X [st] t:=by
 intro pins s U H D I h;refine wpAny_execs_cons (ah (h1 pins s U H D I h) λf s1 q=>?_);cases f with
 |next=>exact wpAny_execs_nil q
 |ret v=>exact q
 |brk=>exact q
 |cont=>exact q
theorem Inv.quiet {pins:List (Addr×Obj)}{U:St}{H:Hp}{s:Shared}(I:Inv X pins U H s):interactive X.env=false:=by simp[interactive,I.ok.kind]
noncomputable def P9 (te:TE):TS:=λD U H=>te U H λ_ H1=>D.nx U H1
theorem j8 (he:PE X e te)(hs:autoParam (swapsWith e none pos.line X.env=pure false) aP1):PS X (.Expr e pos) (P9 te):=by intro pins s U H D I h;exact wpAny_Expr_any (ah (he pins s U H _ I h) λv s1 ⟨x,H1,I1,r1,q1⟩=>⟨U,H1,I1,q1⟩) I.quiet hs
noncomputable def Qa (te:TE):TS:=λD U H=>te U H D.rt
theorem j3 (he:PE X e te):PS X (.Return (some e) pos) (Qa te):=by intro pins s U H D I h;exact wpAny_Return_some (ah (he pins s U H _ I h) λv s1 ⟨x,H1,I1,r1,q1⟩=>⟨x,U,H1,I1,r1,q1⟩)
noncomputable def IQ (c:TT)(t u:TS):TS:=λD U H=>c U H λb H1=>if b=true then t D U H1 else u D U H1
theorem zd {c:Expr}{a b:List Stmt}{tc:TT}(hc:PT X c tc)(ha:cL X a t)(hb:cL X b u):PS X (.If c a b pos) (IQ tc t u):=by
 intro pins s U H D I h;refine wpAny_If (ah (hc pins s U H _ I h) λd s1 zQ=>?_);obtain⟨H1,I1,q1⟩:=zQ;cases d with
 |true=>exact ha pins s1 U H1 D I1 q1
 |false=>exact hb pins s1 U H1 D I1 q1
noncomputable def IT:TS:=λ_ _ _=>False
theorem Qb:PS X st IT:=λ_ _ _ _ _ _ h=>h.elim
theorem qm {Qc:List Stmt}:cL X Qc IT:=λ_ _ _ _ _ _ h=>h.elim
end
noncomputable abbrev TG:=V->St->Hp->(St->Hp->Prop)->Prop
noncomputable abbrev lV:=List V->St->Hp->(St->Hp->Prop)->Prop
noncomputable def PG (X:Cx)(target:Expr)(t:TG):Prop:=∀(pins:List (Addr×Obj))(s:Shared)(U:St)(H:Hp)(v:V)(u:Value)(Q:St->Hp->Prop),Inv X pins U H s->RelV v u->t v U H Q->wpAny (model X.prog X.w) X.A (assign target X.env u) (λ_ s'=>∃U' H',Inv X pins U' H' s'/\Q U' H') X.xe s
noncomputable def qZ (X:Cx)(ts:List Expr)(t:lV):Prop:=∀(pins:List (Addr×Obj))(s:Shared)(U:St)(H:Hp)(vs:List V)(us:List Value)(Q:St->Hp->Prop),Inv X pins U H s->Vals vs us->t vs U H Q->wpAny (model X.prog X.w) X.A (assignInOrder ((assignEach ts X.env).map (·.2)) us) (λ_ s'=>∃U' H',Inv X pins U' H' s'/\Q U' H') X.xe s
noncomputable abbrev rh:=V->V->V->Hp->(Hp->Prop)->Prop
noncomputable def BE (X:Cx)(t:rh):Prop:=∀(pins:List (Addr×Obj))(s:Shared)(U:St)(H:Hp)(o i v:V)(ov iv u:Value)(Q:Hp->Prop),Inv X pins U H s->RelV o ov->RelV i iv->RelV v u->t o i v H Q->wpAny (model X.prog X.w) X.A (setItem ov iv u) (λ_ s'=>∃H',Inv X pins U H' s'/\Q H') X.xe s
noncomputable abbrev wH:=V->V->Hp->VK->Prop
noncomputable def BF (X:Cx)(op:Operator)(t:wH):Prop:=∀(pins:List (Addr×Obj))(s:Shared)(U:St)(H:Hp)(x y:V)(v u:Value)(Q:VK),Inv X pins U H s->RelV x v->RelV y u->t x y H Q->wpAny (model X.prog X.w) X.A (inplaceOp op v u) (EP X pins U Q) X.xe s
section
variable {X:Cx}{pos:Pos}
noncomputable def eO (i:Nat):TG:=λv U H Q=>Q (U.set i (some v)) H
theorem jv {i:Nat}{x:Str}(hN:X.N.Nodup)(hi:X.N[i]?=some x)(hx:Loc X.env.scope x)(hf:autoParam (X.fn x=true\/X.env.scope.names.lookup x=some .local) aP5):PG X (.Name x pos) (eO i):=by intro pins s U H v u Q I r h;exact wpAny_assign_Name (wB I hN hi hx r (λs' I'=>⟨_,H,I',h⟩) hf)
noncomputable def IU:lV:=λvs U H Q=>vs=[]/\Q U H
noncomputable def BG (t:TG)(u:lV):lV:=λvs U H Q=>∃v r,vs=v::r/\t v U H λU' H'=>u r U' H' Q
theorem lW:qZ X [] IU:=by intro pins s U H vs us Q I r h;obtain⟨e,h⟩:=h;subst e;cases r;exact assignInOrder_nil ⟨U,H,I,h⟩
theorem j9 {e:Expr}{es:List Expr}{t:TG}{u:lV}(h1:PG X e t)(h2:qZ X es u)(hs:autoParam ((assignEach (e::es) X.env).map (·.2)=assign e X.env::(assignEach es X.env).map (·.2)) aP1):qZ X (e::es) (BG t u):=by
 intro pins s U H vs us Q I r h;obtain⟨v,vr,e1,h⟩:=h;subst e1;cases r with
 |cons r rr=>rw[hs];refine assignInOrder_cons (ah (h1 pins s U H _ _ _ I r h) λ_ s1 zQ=>?_);obtain⟨U1,H1,I1,q1⟩:=zQ;exact h2 pins s1 U1 H1 _ _ Q I1 rr q1
noncomputable def IV (K:PySem.W.Frag)(n:Nat)(t:lV):TG:=λv U H Q=>∃a xs,v= .ref a/\aw K H a xs/\xs.length=n/\t xs U H Q
theorem lX {es:List Expr}{k:Nat}{t:lV}{n:Nat}(hc:X.calm=true)(h:qZ X es t)(hn:autoParam ((assignEach es X.env).length=n) aP1)(gT:autoParam ((assignEach es X.env).findIdx? (·.1)=none) aP1):PG X (.Tuple es k pos) (IV X.K n t):=by
 intro pins s U H v u Q I r hw;obtain⟨a,xs,e1,hq,hl,hw⟩:=hw;subst e1;cases r;obtain⟨its,rv,ht,hz⟩:=I.tuple hq;refine assign_Tuple_tuple (I.ok.hd hc) ht (by simp[hn,<-hl,rv.length]) gT λh' hx=>?_;have I1:Inv X pins U H {s with heap:=h'}:=I.kept (t':=s.toks) λb o e=>hx b o (ne_of_lt (Heap.lt_size e)) e;exact h pins _ U H xs _ Q I1 (by simpa using rv) hw
noncomputable def Qd (to ti:TE)(t:rh):TG:=λv U H Q=>to U H λo H1=>ti U H1 λi H2=>t o i v H2 λH3=>Q U H3
theorem IW {o i:Expr}{to ti:TE}{t:rh}(ho:PE X o to)(hi:PE X i ti)(hs:BE X t)(ha:autoParam (∀v,assign (.Subscript o i pos) X.env v=(do
   let ov<-holding [v] (eval o X.env);let iv<-holding [v,ov] (eval i X.env)
   standAt pos
   holding [v,ov,iv] (setItem ov iv v)
   release [v,ov,iv] [])) aP3):PG X (.Subscript o i pos) (Qd to ti t):=by
 intro pins s U H v u Q I r h;rw[ha];refine wpAny_bind (wpAny_holding (ah (ho pins s U H _ I h) λov s1 zQ=>?_));obtain⟨x,H1,I1,r1,q1⟩:=zQ;refine wpAny_bind (wpAny_holding (ah (hi pins s1 U H1 _ I1 q1) λiv s2 zQ=>?_));obtain⟨y,H2,I2,r2,q2⟩:=zQ;refine wpAny_bind (wpAny_standAt (wpAny_bind (wpAny_holding (ah (hs pins s2 U H2 x y v ov iv u _ I2 r1 r2 r q2) λ_ s3 zQ=>?_))));obtain⟨H3,I3,q3⟩:=zQ;exact wpAny_release ⟨U,H3,I3,q3⟩
noncomputable def BH (te:TE)(g:TG):TS:=λD U H=>te U H λx H1=>g x U H1 D.nx
theorem kB {tg e:Expr}{te:TE}{g:TG}(he:PE X e te)(hg:PG X tg g)(hs:autoParam (swapsWithSole [tg] e pos.line X.env=pure false) aP1)(hw:autoParam (swappedStores [tg] e X.env=pure none) aP1)(h1:autoParam ((assignEach [tg] X.env).map (·.2)=[assign tg X.env]) aP1):PS X (.Assign [tg] e pos) (BH te g):=by
 intro pins s U H D I h;refine wpAny_Assign_stores (ah (he pins s U H _ I h) λv s1 zQ=>?_) hs hw;obtain⟨x,H1,I1,r1,q1⟩:=zQ;rw[h1];exact ah (hg pins s1 U H1 x v _ I1 r1 q1) λ_ s2 q=>q
theorem qa {i:Nat}{x:Str}{e:Expr}{te:TE}{pos':Pos}(hN:X.N.Nodup)(hi:X.N[i]?=some x)(hx:Loc X.env.scope x)(he:PE X e te)(hs:autoParam (swapsWith e (some (.Name x pos')) pos.line X.env=pure false) aP1)(hf:autoParam (X.fn x=true\/X.env.scope.names.lookup x=some .local) aP5):PS X (.Assign [.Name x pos'] e pos) (BH te (eO i)):=by
 intro pins s U H D I h;refine wpAny_Assign_Name (ah (he pins s U H _ I h) λv s1 zQ=>?_) hs;obtain⟨y,H1,I1,r1,q1⟩:=zQ;exact wB I1 hN hi hx r1 (λs2 I2=>⟨_,H1,I2,q1⟩) hf
noncomputable def Qe (to ti te:TE)(kC:V->V->Hp->VK->Prop)(wI:wH)(kD:rh):TS:=λD U H=>to U H λo H1=>ti U H1 λi H2=>kC o i H2 λx H3=>te U H3 λy H4=>wI x y H4 λz H5=>kD o i z H5 λH6=>D.nx U H6
noncomputable def IY (X:Cx)(t:V->V->Hp->VK->Prop):Prop:=∀(pins:List (Addr×Obj))(s:Shared)(U:St)(H:Hp)(o i:V)(ov iv:Value)(Q:VK),Inv X pins U H s->RelV o ov->RelV i iv->t o i H Q->wpAny (model X.prog X.w) X.A (getItem ov iv) (EP X pins U Q) X.xe s
theorem BJ {o i e:Expr}{to ti te:TE}{kC:V->V->Hp->VK->Prop}{wI:wH}{kD:rh}{op:Operator}{eX:Pos}(ho:PE X o to)(hi:PE X i ti)(hg:IY X kC)(he:PE X e te)(hp:BF X op wI)(hs:BE X kD)(ha:∀ov iv new,augStore i ov iv new=(do holding [new,ov,iv] (setItem ov iv new);release [new,ov,iv] [];pure .next):=by intros;rfl):PS X (.AugAssign (.Subscript o i eX) op e pos) (Qe to ti te kC wI kD):=by
 intro pins s U H D I h;refine wpAny_AugAssign_SubscriptAny (ah (ho pins s U H _ I h) λov s1 zQ=>?_) ha;obtain⟨x1,H1,I1,r1,q1⟩:=zQ;refine ah (hi pins s1 U H1 _ I1 q1) λiv s2 zQ=>?_;obtain⟨x2,H2,I2,r2,q2⟩:=zQ;refine ah (hg pins s2 U H2 x1 x2 ov iv _ I2 r1 r2 q2) λold s3 zQ=>?_;obtain⟨x3,H3,I3,r3,q3⟩:=zQ;refine ah (he pins s3 U H3 _ I3 q3) λv s4 zQ=>?_;obtain⟨x4,H4,I4,r4,q4⟩:=zQ;refine ah (hp pins s4 U H4 x3 x4 old v _ I4 r3 r4 q4) λnew s5 zQ=>?_;obtain⟨x5,H5,I5,r5,q5⟩:=zQ;exact ah (hs pins s5 U H5 x1 x2 x5 ov iv new _ I5 r1 r2 r5 q5) λ_ s6 ⟨H6,I6,q6⟩=>⟨U,H6,I6,q6⟩
noncomputable def IZ (f:Int->Int->Int):wH:=λx y H Q=>∃i j,x= .int i/\y= .int j/\Q (.int (f i j)) H
theorem Ja:BF X .Add (IZ λi j=>i+j):=by intro pins s U H x y v u Q I r1 r2 h;obtain⟨i,j,e1,e2,q⟩:=h;subst e1;subst e2;obtain⟨t,rfl⟩:=r1;obtain⟨t',rfl⟩:=r2;exact iadd_int ⟨.int _,H,I.tok _,⟨_,rfl⟩,q⟩
theorem Qf:BF X .Sub (IZ λi j=>i-j):=by intro pins s U H x y v u Q I r1 r2 h;obtain⟨i,j,e1,e2,q⟩:=h;subst e1;subst e2;obtain⟨t,rfl⟩:=r1;obtain⟨t',rfl⟩:=r2;exact isub_int ⟨.int _,H,I.tok _,⟨_,rfl⟩,q⟩
noncomputable def Jb (c:TT)(tb:TS):TS:=λD U H=>∃W:Nat->St->Hp->Prop,(∃m,W m U H)/\∀m U H,W m U H->c U H λb H1=>if b=true then ∃N:St->Hp->Prop,(∀U' H',N U' H'->∃m',m'<m/\W m' U' H')/\tb {D with nx:=N,ct:=N,bk:=D.nx} U H1 else D.nx U H1
theorem Qg {c:Expr}{body:List Stmt}{tc:TT}{tb:TS}(hp:PassesOwn (model X.prog X.w) X.A X.env X.xe)(hc:PT X c tc)(hb:cL X body tb):PS X (.While c body [] pos) (Jb tc tb):=by
 intro pins s U H D I h;obtain⟨W,⟨m0,w0⟩,turn⟩:=h;refine wpAny_While (codeAny_whileLoop (λn s'=>∃U' H',Inv X pins U' H' s'/\W n U' H') ?_ m0 ⟨U,H,I,w0⟩)
 rintro n s1 ⟨U1,H1,I1,w1⟩
 refine wpAny_passesOwn hp (ah (hc pins s1 U1 H1 _ I1 (turn n U1 H1 w1)) λb s2 zQ=>?_);obtain⟨H2,I2,q2⟩:=zQ;cases b with
 |true=>
  obtain⟨N,hN,q2⟩:=q2;rw[if_pos rfl];refine wpAny_passesOwn hp (ah (hb pins s2 U1 H2 _ I2 q2) λf s3 q3=>?_);cases f with
  |next=>obtain⟨ir,H3,I3,n3⟩:=q3;obtain⟨m',hm,w3⟩:=hN ir H3 n3;exact⟨m',hm,ir,H3,I3,w3⟩
  |cont=>obtain⟨ir,H3,I3,n3⟩:=q3;obtain⟨m',hm,w3⟩:=hN ir H3 n3;exact⟨m',hm,ir,H3,I3,w3⟩
  |brk=>exact q3
  |ret v=>exact q3
 |false=>rw[if_neg Bool.false_ne_true];exact wpAny_execs_nil ⟨U1,H2,I2,q2⟩
end
structure It where
 go:Nat->Hp->Prop
 du:Nat->Hp->V->Hp->Prop
 stop:Nat->Hp->Prop
noncomputable def dU (X:Cx)(pins:List (Addr×Obj))(H:Hp)(b:Addr):Prop:=H b=none/\b≠X.env.locals/\b∉X.fs/\(b∈X.ex\/X.ar.heap.objs.size<=b)/\(∀x c,X.env.cells.lookup x=some c->c≠b)/\∀p∈X.pn++pins,p.1≠b
theorem Inv.nC {X:Cx}{pins:List (Addr×Obj)}{U:St}{H H':Hp}{s:Shared}{b:Addr}(I:Inv X pins U H s)(hb:s.heap.objs.size<=b)(hn:H' b=none):dU X pins H' b:=by
 refine⟨hn,Nat.ne_of_gt (lt_of_lt_of_le I.lt hb),I.IF hb,.inr (le_trans I.sz hb),λx c e z=>?_,λp hp z=>?_⟩
 .obtain⟨v,q⟩:=I.cell x c e;exact absurd (lt_of_lt_of_le q.lt (by rw[z];exact hb)) (lt_irrefl _)
 .exact absurd (lt_of_lt_of_le (Heap.lt_size (I.pin p hp).1) (by rw[z];exact hb)) (lt_irrefl _)
structure Turn (P:Program)(w:World)(K:PySem.W.Frag)(tg:Expr)(J:It)(fp:List Addr)(it:Addr)(tn:Nat->Heap->Prop):Prop where
 mem:it∈fp
 obj:∀i h,tn i h->∀b∈fp,∃o,h.get? b=some o/\∀v,o.data≠.cell v
 keep:∀i h h',tn i h->(∀b∈fp,∀o,h.get? b=some o->h'.get? b=some o)->tn i h'
 item:∀(X:Cx),X.prog=P->X.w=w->X.K=K->X.calm=true->∀(i:Nat)(pins:List (Addr×Obj))(s:Shared)(U:St)(H:Hp)(E:Value->Shared->Prop),Inv X pins U H s->(∀b∈fp,dU X pins H b)->tn i s.heap->J.go i H->wpAny (model P w) X.A (pyNext (.ref it)) (λr s1=>∃u,r=some u/\wpAny (model P w) X.A (letOwnedTupleGo tg (.ref it) u) (λ_ s2=>∃x H',Inv X pins U H' s2/\RelV x u/\J.du i H x H'/\tn (i+1) s2.heap/\∀b∈fp,H' b=none) E s1) E s
 done:∀(X:Cx),X.prog=P->X.w=w->X.K=K->X.calm=true->∀(i:Nat)(pins:List (Addr×Obj))(s:Shared)(U:St)(H:Hp)(E:Value->Shared->Prop),Inv X pins U H s->(∀b∈fp,dU X pins H b)->tn i s.heap->J.stop i H->wpAny (model P w) X.A (pyNext (.ref it)) (λr s1=>r=none/\Inv X pins U H s1) E s
 self:∀(A:Around)(i:Nat)(s:Shared)(Q:Value->Shared->Prop)(E:Value->Shared->Prop),tn i s.heap->Q (.ref it) s->wpAny (model P w) A (pyIter (.ref it)) Q E s
noncomputable abbrev TI:=St->Hp->(It->Hp->Prop)->Prop
noncomputable def Jc (X:Cx)(pins:List (Addr×Obj))(U:St)(tg:Expr)(R:It->Hp->Prop)(rj:Value)(s2:Shared):Prop:=∃(it:Addr)(fp:List Addr)(tn:Nat->Heap->Prop)(J:It)(H':Hp),rj= .ref it/\Inv X pins U H' s2/\Turn X.prog X.w X.K tg J fp it tn/\tn 0 s2.heap/\(∀b∈fp,dU X pins H' b)/\R J H'
noncomputable def PI (X:Cx)(tg iter:Expr)(wi:TI):Prop:=∀(pins:List (Addr×Obj))(s:Shared)(U:St)(H:Hp)(R:It->Hp->Prop),Inv X pins U H s->wi U H R->wpAny (model X.prog X.w) X.A (eval iter X.env) (λv s1=>wpAny (model X.prog X.w) X.A (pyIter v) (Jc X pins U tg R) X.xe s1) X.xe s
theorem pF {M:Model}{A:Around}{E:Value->Shared->Prop}{s:Shared}{tg:Expr}{it:Addr}{u:Value}{o:Obj}{n:String}{vs:Array Value}{Q:Unit->Shared->Prop}(ho:s.heap.get? it=some o)(hc:o.cls= .type n)(hd:o.data= .fields vs)(hn:["enumerate","zip","dict_itemiterator","dict_reverseitemiterator","odict_iterator","itertools.zip_longest","itertools.pairwise"].contains n=false)(hQ:Q () s):wpAny M A (letOwnedTupleGo tg (.ref it) u) Q E s:=by
  unfold letOwnedTupleGo;cases tg<;>first
    |exact wpAny_pure hQ
    |(cases u<;>first
        |exact wpAny_pure hQ
        | (refine wpAny_bind (wpAny_load ho ?_)
           rw[hc,hd];show wpAny M A (if(["enumerate","zip","dict_itemiterator","dict_reverseitemiterator","odict_iterator","itertools.zip_longest","itertools.pairwise"].contains n&&vs[0]?==some (rawInt _))=true then _ else _) Q E s;rw[if_neg (by intro h;rw[hn,Bool.false_and]at h;cases h)];exact wpAny_pure hQ))
noncomputable def lY (K:PySem.W.Frag)(a:Addr):It:=⟨λi H=>∃xs x,ag K H a xs/\xs[i]?=some x,λi H x H'=>H'=H/\∀xs,ag K H a xs->xs[i]?=some x,λi H=>∃xs,ag K H a xs/\xs.length<=i⟩
noncomputable def lZ (K:PySem.W.Frag)(a:Addr):It:=⟨λi H=>∃xs x,aw K H a xs/\xs[i]?=some x,λi H x H'=>H'=H/\∀xs,aw K H a xs->xs[i]?=some x,λi H=>∃xs,aw K H a xs/\xs.length<=i⟩
noncomputable def i9 (lo:Int)(n:Nat):It:=⟨λi _=>i<n,λi H x H'=>H'=H/\x= .int (lo+i),λi _=>n<=i⟩
theorem Qh {P:Program}{w:World}{K:PySem.W.Frag}{tg:Expr}(a it:Addr):Turn P w K tg (lY K a) [it] it (λi h=>h.IsListIter it a i) where
 mem:=by simp
 obj:=λi h st b hb=>by
  have e:b=it:=by simpa using hb
  subst e;obtain⟨o,e,c,d⟩:=st;exact⟨o,e,λv z=>by rw[d]at z;cases z⟩
 keep:=λi h h' st k=>st.at λo e=>k it (by simp) o e
 item:=by intro X hP hw hK hc i pins s U H E I hf st hg;subst hP hw hK;obtain⟨xs,x,hq,hx⟩:=hg;obtain⟨its,rv,p,hz⟩:=I.list hq;obtain⟨u,hu,ru⟩:=rv.get hx;obtain⟨f0,f1,f2,f3,f4,f5⟩:=hf it (by simp);refine wpAny_pyNext_list_item st p.isList (x:=u) (by simpa using hu) λh' bL sb=>?_;have I1:Inv X pins U H {s with heap:=h'}:=I.turned (t':=s.toks) (λb o hb e=>(sb.2 b hb).trans e) f0 f1 f3 f4 f5;obtain⟨o,e,c,d⟩:=id bL;exact⟨u,rfl,pF (s:={s with heap:=h'}) e c d (by decide) ⟨x,H,I1,ru,⟨rfl,λys hy=>by rw[I.IM hy hq];exact hx⟩,bL,λb hb=>(hf b hb).1⟩⟩
 done:=by intro X hP hw hK hc i pins s U H E I hf st hg;subst hP hw hK;obtain⟨xs,hq,hx⟩:=hg;obtain⟨its,rv,p,hz⟩:=I.list hq;obtain⟨f0,f1,f2,f3,f4,f5⟩:=hf it (by simp);have hl:=rv.length;exact wpAny_pyNext_list_end (I.ok.hd hc) st p.isList (by simp;lia) λh' eb=>⟨rfl,I.turned (t':=s.toks) (λb o hb e=>eb b o hb e) f0 f1 f3 f4 f5⟩
 self:=λ_ _ _ _ _ st h=>wpAny_pyIter_listiter st h
theorem Qi {P:Program}{w:World}{K:PySem.W.Frag}{tg:Expr}(a it:Addr):Turn P w K tg (lZ K a) [it] it (λi h=>h.IsTupleIter it a i) where
 mem:=by simp
 obj:=λi h st b hb=>by
  have e:b=it:=by simpa using hb
  subst e;obtain⟨o,e,c,d⟩:=st;exact⟨o,e,λv z=>by rw[d]at z;cases z⟩
 keep:=λi h h' st k=>st.at λo e=>k it (by simp) o e
 item:=by intro X hP hw hK hc i pins s U H E I hf st hg;subst hP hw hK;obtain⟨xs,x,hq,hx⟩:=hg;obtain⟨its,rv,p,hz⟩:=I.tuple hq;obtain⟨u,hu,ru⟩:=rv.get hx;obtain⟨f0,f1,f2,f3,f4,f5⟩:=hf it (by simp);refine wpAny_pyNext_tuple_item st (show s.heap.IsTuple a its.toArray from p) (x:=u) (by simpa using hu) λh' bL sb=>?_;have I1:Inv X pins U H {s with heap:=h'}:=I.turned (t':=s.toks) (λb o hb e=>(sb.2 b hb).trans e) f0 f1 f3 f4 f5;obtain⟨o,e,c,d⟩:=id bL;exact⟨u,rfl,pF (s:={s with heap:=h'}) e c d (by decide) ⟨x,H,I1,ru,⟨rfl,λys hy=>by rw[I.BC hy hq];exact hx⟩,bL,λb hb=>(hf b hb).1⟩⟩
 done:=by intro X hP hw hK hc i pins s U H E I hf st hg;subst hP hw hK;obtain⟨xs,hq,hx⟩:=hg;obtain⟨its,rv,p,hz⟩:=I.tuple hq;obtain⟨f0,f1,f2,f3,f4,f5⟩:=hf it (by simp);have hl:=rv.length;exact wpAny_pyNext_tuple_end (I.ok.hd hc) st (show s.heap.IsTuple a its.toArray from p) (by simp;lia) λh' eb=>⟨rfl,I.turned (t':=s.toks) (λb o hb e=>eb b o hb e) f0 f1 f3 f4 f5⟩
 self:=λ_ _ _ _ _ st h=>wpAny_pyIter_tupleiter st h
theorem Qj {P:Program}{w:World}{K:PySem.W.Frag}{tg:Expr}(it:Addr)(lo:Int)(n:Nat):Turn P w K tg (i9 lo n) [it] it (λi h=>IsRangeIter h it (lo+(i:Nat)*1) ((n:Int)-(i:Nat)) 1) where
 mem:=by simp
 obj:=λi h st b hb=>by
  have e:b=it:=by simpa using hb
  subst e;exact⟨_,st,λv z=>by have z':Data.fields _=Data.cell v:=z;cases z'⟩
 keep:=λi h h' st k=>k it (by simp) _ st
 item:=by intro X hP hw hK hc i pins s U H E I hf st hg;subst hP hw hK;obtain⟨f0,f1,f2,f3,f4,f5⟩:=hf it (by simp);have W:=Walks.range (prog:=X.prog) (w:=X.w) (I.ok.hd hc) it lo 1 n;refine W.item i s _ _ hg st λv h' tk hv bL kk=>?_;obtain⟨t,rfl⟩:=hv;have I1:Inv X pins U H {s with heap:=h',toks:=tk}:=I.turned (λb o hb e=>kk b o (by simpa using hb) e) f0 f1 f3 f4 f5;refine⟨_,rfl,pF (s:={s with heap:=h',toks:=tk}) (n:="range_iterator") bL rfl rfl (by decide) ⟨.int (lo+i),H,I1,⟨t,?_⟩,⟨rfl,rfl⟩,bL,λb hb=>(hf b hb).1⟩⟩;rw[Int.mul_one]
 done:=by intro X hP hw hK hc i pins s U H E I hf st hg;subst hP hw hK;obtain⟨f0,f1,f2,f3,f4,f5⟩:=hf it (by simp);exact wpAny_pyNext_range_end (I.ok.hd hc) st (by have:n<=i:=hg;lia) λh' eb=>⟨rfl,I.turned (t':=s.toks) (λb o hb e=>eb b o hb e) f0 f1 f3 f4 f5⟩
 self:=λ_ _ _ _ _ st h=>wpAny_pyIter_rangeiter st h
section
variable {X:Cx}{tg:Expr}
noncomputable def Jd (K:PySem.W.Frag)(tl:TE):TI:=λU H R=>tl U H λx H1=>∃a,x= .ref a/\(∃xs,ag K H1 a xs)/\R (lY K a) H1
noncomputable def Je (K:PySem.W.Frag)(tl:TE):TI:=λU H R=>tl U H λx H1=>∃a,x= .ref a/\(∃xs,aw K H1 a xs)/\R (lZ K a) H1
theorem fJ {l:Expr}{tl:TE}(hl:PE X l tl):PI X tg l (Jd X.K tl):=by
 intro pins s U H R I h;refine ah (hl pins s U H _ I h) λv s1 zQ=>?_;obtain⟨x,H1,I1,r1,q1⟩:=zQ;obtain⟨a,e,⟨xs,hq⟩,q⟩:=q1;subst e;cases r1;obtain⟨its,rv,p,hz⟩:=I1.list hq;refine wpAny_pyIter_list p.isList ?_;refine⟨s1.heap.objs.size,[s1.heap.objs.size],_,_,H1,rfl,I1.kept (t':=s1.toks) λb o e=>Heap.get?_push_of_some _ e,Qh a _,⟨_,Heap.get?_push_size _ rfl,rfl,rfl⟩,λb hb=>?_,q⟩;have e:b=s1.heap.objs.size:=by simpa using hb
 subst e;exact I1.nC (le_refl _) (I1.af.fresh (le_refl _))
theorem Jf {l:Expr}{tl:TE}(hl:PE X l tl):PI X tg l (Je X.K tl):=by
 intro pins s U H R I h;refine ah (hl pins s U H _ I h) λv s1 zQ=>?_;obtain⟨x,H1,I1,r1,q1⟩:=zQ;obtain⟨a,e,⟨xs,hq⟩,q⟩:=q1;subst e;cases r1;obtain⟨its,rv,p,hz⟩:=I1.tuple hq;refine wpAny_pyIter_tuple (show s1.heap.IsTuple a its.toArray from p) ?_;refine⟨s1.heap.objs.size,[s1.heap.objs.size],_,_,H1,rfl,I1.kept (t':=s1.toks) λb o e=>Heap.get?_push_of_some _ e,Qi a _,⟨_,Heap.get?_push_size _ rfl,rfl,rfl⟩,λb hb=>?_,q⟩;have e:b=s1.heap.objs.size:=by simpa using hb
 subst e;exact I1.nC (le_refl _) (I1.af.fresh (le_refl _))
theorem Qk {pins:List (Addr×Obj)}{U:St}{H:Hp}{s:Shared}{R:It->Hp->Prop}{E:Value->Shared->Prop}{lo hi:Int}{t u v:Tok}{tk:Nat}(I:Inv X pins U H s)(h1:-(2^62)<=lo)(h2:lo<2^62)(h3:-(2^62)<=hi)(h4:hi<2^62)(q:R (i9 lo (hi-lo).toNat) H):wpAny (model X.prog X.w) X.A (pyIter (.ref s.heap.objs.size)) (Jc X pins U tg R) E {s with heap:=s.heap.push {cls:=.type "range",data:=.fields #[.int lo t,.int hi u,.int 1 v]},toks:=tk}:=by
 refine wpAny_pyIter_range (IsRange.new ..) (small_one h1 h2 h3 h4) ?_;have I1:Inv X pins U H {s with heap:=s.heap.push {cls:=.type "range",data:=.fields #[.int lo t,.int hi u,.int 1 v]},toks:=tk}:=I.kept λb o e=>Heap.get?_push_of_some _ e;refine⟨(s.heap.push {cls:=.type "range",data:=.fields #[.int lo t,.int hi u,.int 1 v]}).objs.size,[(s.heap.push {cls:=.type "range",data:=.fields #[.int lo t,.int hi u,.int 1 v]}).objs.size],_,_,H,rfl,I1.kept (t':=tk) λb o e=>Heap.get?_push_of_some _ e,Qj _ lo (hi-lo).toNat,?_,λb hb=>?_,q⟩
 .have e1:lo+((0:Nat):Int)*1=lo:=by simp
  have e2:(((hi-lo).toNat:Nat):Int)-((0:Nat):Int)=Builtin.Range.rangeSize lo hi 1:=by rw[rangeSize_one];split<;>lia
  show IsRangeIter _ _ (lo+((0:Nat):Int)*1) ((((hi-lo).toNat:Nat):Int)-((0:Nat):Int)) 1;rw[e1,e2];exact Heap.get?_push_size _ rfl
 .have e:b=(s.heap.push {cls:=.type "range",data:=.fields #[.int lo t,.int hi u,.int 1 v]}).objs.size:=by simpa using hb
  subst e;exact I1.nC (le_refl _) (I1.af.fresh (le_refl _))
noncomputable def Ql (ta:TA):TI:=λU H R=>ta U H λvs H1=>∃j:Int,vs=[.int j]/\-(2^62)<=j/\j<2^62/\R (i9 0 j.toNat) H1
theorem rl {a:Expr}{ta:TA}{p pos:Pos}(hg:Gl X "range")(hm:X.mg "range"=none)(ha:PA X [a] ta)(hs:autoParam (starEach [a] X.env=[(false,eval a X.env)]) aP1):PI X tg (.Call (.Name "range" p) [a] [] pos) (Ql ta):=by
 intro pins s U H R I h;refine Call_ (wC I hg hm boot_range (PyProof.Rows.callWith_type1 (ah (ha pos pins s U H _ I h) λus s1 zQ=>?_) hs rfl));obtain⟨vs,H1,I1,r1,q1⟩:=zQ;obtain⟨j,e,q1,q2,q⟩:=q1;subst e;cases r1 with
 |cons r rr=>cases rr;obtain⟨t,rfl⟩:=r;exact call_range_1 (Qk I1 (by lia) (by lia) q1 q2 (by simpa using q))
noncomputable def Qm (wi:TI)(g:TG)(tb:TS):TS:=λD U H=>wi U H λJ H1=>∃W:Nat->Nat->St->Hp->Prop,(∃m,W 0 m U H1)/\∀i m U H,W i m U H->(J.stop i H/\D.nx U H)\/(J.go i H/\∃N:St->Hp->Prop,(∀U' H',N U' H'->∃m',m'<m/\W (i+1) m' U' H')/\∀x H',J.du i H x H'->g x U H' λU2 H2=>tb {D with nx:=N,ct:=N,bk:=D.nx} U2 H2)
noncomputable def kE (fp:List Addr)(h:Heap):List (Addr×Obj):=fp.filterMap λb=>(h.get? b).map λo=>(b,o)
theorem wJ {fp:List Addr}{h:Heap}{b:Addr}{o:Obj}(hb:b∈fp)(e:h.get? b=some o):(b,o)∈kE fp h:=mem_filterMap.mpr ⟨b,hb,by rw[e];rfl⟩
theorem Jg {fp:List Addr}{h:Heap}{p:Addr×Obj}(hp:p∈kE fp h):p.1∈fp/\h.get? p.1=some p.2:=by
 obtain⟨b,hb,e⟩:=mem_filterMap.mp hp;cases q:h.get? b with
 |none=>rw[q]at e;cases e
 |some o=>rw[q]at e;have e':(b,o)=p:=Option.some.inj e;subst e';exact⟨hb,q⟩
theorem Inv.pinned {pins:List (Addr×Obj)}{U:St}{H:Hp}{s:Shared}{fp:List Addr}(I:Inv X pins U H s)(hf:∀b∈fp,dU X pins H b)(ho:∀b∈fp,∃o,s.heap.get? b=some o/\∀v,o.data≠.cell v):Inv X (pins++kE fp s.heap) U H s:=I.vZ λp hp=>(mem_append.mp hp).elim (λz=>I.pin p (mem_append_right _ z)) λz=>by obtain⟨hb,e⟩:=Jg z;obtain⟨f0,f1,f2,_⟩:=hf p.1 hb;obtain⟨o,e',d⟩:=ho p.1 hb;rw[e]at e';cases e';exact⟨e,f0,f1,f2,d⟩
theorem Inv.rm {pins pl:List (Addr×Obj)}{U:St}{H:Hp}{s:Shared}(I:Inv X (pins++pl) U H s):Inv X pins U H s:=I.vZ λp hp=>I.pin p (mem_append_right _ (mem_append_left _ hp))
theorem jA {iter:Expr}{body:List Stmt}{wi:TI}{g:TG}{tb:TS}{pos:Pos}(hp:PassesOwn (model X.prog X.w) X.A X.env X.xe)(hc:X.calm=true)(hi:PI X tg iter wi)(hg:PG X tg g)(hb:cL X body tb)(hs:autoParam (∀x,foldedSetIterable iter X.env x=pure x) aP3):PS X (.For tg iter body [] pos) (Qm wi g tb):=by
 intro pins s U H D I h;refine wpAny_For (ah (hi pins s U H _ I h) λv s1 h1=>ah h1 λrj s2 h2=>?_) hs;obtain⟨it,fp,tn,J,H2,e,I2,T,Qn,f2,W,⟨m0,w0⟩,turn⟩:=h2;subst e;have nE:∀{H':Hp},(∀b∈fp,H' b=none)->∀b∈fp,dU X pins H' b:=λhn b hb=>⟨hn b hb,(f2 b hb).2⟩;refine codeAny_forLoop_any (λn s'=>∃i U' H',Inv X pins U' H' s'/\tn i s'.heap/\(∀b∈fp,H' b=none)/\W i n U' H') ?_ m0 ⟨0,U,H2,I2,Qn,λb hb=>(f2 b hb).1,w0⟩
 rintro n s3 ⟨i,ir,H3,I3,Jh,Ji,w3⟩
 rcases turn i n ir H3 w3 with⟨stop,qn⟩|⟨go,N,hN,step⟩
 .refine wpAny_passesOwn hp (ah (T.done X rfl rfl rfl hc i pins s3 ir H3 X.xe I3 (nE Ji) Jh stop) λr s4 ⟨hr,I4⟩=>?_);subst hr;exact wpAny_execs_nil ⟨ir,H3,I4,qn⟩
 .refine wpAny_passesOwn hp (ah (T.item X rfl rfl rfl hc i pins s3 ir H3 X.xe I3 (nE Ji) Jh go) λr s4 zQ=>?_);obtain⟨u,hr,h4⟩:=zQ;subst hr;refine wpAny_passesOwn hp (ah h4 λ_ s5 zQ=>?_);obtain⟨x,H5,I5,r5,y5,gB,rn⟩:=zQ;have rq:=I5.pinned (nE rn) (T.obj _ _ gB);refine wpAny_passesOwn hp (ah (hg _ s5 ir H5 x u _ rq r5 (step x H5 y5)) λ_ s6 zQ=>?_);obtain⟨U6,H6,I6,q6⟩:=zQ;refine wpAny_passesOwn hp (ah (hb _ s6 U6 H6 _ I6 q6) λf s7 q7=>?_);have again:∀{U7:St}{H7:Hp},Inv X (pins++kE fp s5.heap) U7 H7 s7->N U7 H7->∃m,m<n/\∃i U' H',Inv X pins U' H' s7/\tn i s7.heap/\(∀b∈fp,H' b=none)/\W i m U' H':=λ{U7 H7} I7 n7=>by
   obtain⟨m',hm,w7⟩:=hN U7 H7 n7;refine⟨m',hm,i+1,U7,H7,I7.rm,T.keep _ _ _ gB λb hb o e=>(I7.pin (b,o) (mem_append_right _ (mem_append_right _ (wJ hb e)))).1,λb hb=>?_,w7⟩;obtain⟨o,e,d⟩:=T.obj _ _ gB b hb;exact(I7.pin (b,o) (mem_append_right _ (mem_append_right _ (wJ hb e)))).2.1
  cases f with
  |next=>obtain⟨U7,H7,I7,n7⟩:=q7;exact again I7 n7
  |cont=>obtain⟨U7,H7,I7,n7⟩:=q7;exact again I7 n7
  |brk=>obtain⟨U7,H7,I7,q7⟩:=q7;exact⟨U7,H7,I7.rm,q7⟩
  |ret v=>obtain⟨x7,U7,H7,I7,r7,q7⟩:=q7;exact⟨x7,U7,H7,I7.rm,r7,q7⟩
end
theorem nF {K:PySem.W.Frag}{a:Addr}{xs:List V}{g:TG}{tb:TS}{D:Ends}{U:St}{H:Hp}(Pv:Nat->St->Hp->Prop)(h0:Pv 0 U H)(hl:∀i U H,i<=xs.length->Pv i U H->ag K H a xs)(hs:∀i x U H,xs[i]?=some x->Pv i U H->g x U H λU2 H2=>tb {D with nx:=Pv (i+1),ct:=Pv (i+1),bk:=D.nx} U2 H2)(hd:∀U H,Pv xs.length U H->D.nx U H):∃W:Nat->Nat->St->Hp->Prop,(∃m,W 0 m U H)/\∀i m U H,W i m U H->((lY K a).stop i H/\D.nx U H)\/((lY K a).go i H/\∃N:St->Hp->Prop,(∀U' H',N U' H'->∃m',m'<m/\W (i+1) m' U' H')/\∀x H',(lY K a).du i H x H'->g x U H' λU2 H2=>tb {D with nx:=N,ct:=N,bk:=D.nx} U2 H2):=by
 refine⟨λi m U H=>m=xs.length-i/\i<=xs.length/\Pv i U H,⟨xs.length,by simp,zero_le _,h0⟩,?_⟩
 rintro i m U H ⟨rfl,hi,p⟩
 have q:=hl i U H hi p;by_cases az:i<xs.length
 .refine .inr ⟨⟨xs,xs[i],q,by simp[az]⟩,Pv (i+1),λU' H' p'=>⟨xs.length-(i+1),by lia,rfl,az,p'⟩,λx H' y=>?_⟩;obtain⟨e,y⟩:=y;subst e;exact hs i x U _ (y xs q) p
 .have e:i=xs.length:=by lia
  subst e;exact .inl ⟨⟨xs,q,le_refl _⟩,hd U H p⟩
theorem Qo {K:PySem.W.Frag}{a:Addr}{xs:List V}{g:TG}{tb:TS}{D:Ends}{U:St}{H:Hp}(Pv:Nat->St->Hp->Prop)(h0:Pv 0 U H)(hl:∀i U H,i<=xs.length->Pv i U H->aw K H a xs)(hs:∀i x U H,xs[i]?=some x->Pv i U H->g x U H λU2 H2=>tb {D with nx:=Pv (i+1),ct:=Pv (i+1),bk:=D.nx} U2 H2)(hd:∀U H,Pv xs.length U H->D.nx U H):∃W:Nat->Nat->St->Hp->Prop,(∃m,W 0 m U H)/\∀i m U H,W i m U H->((lZ K a).stop i H/\D.nx U H)\/((lZ K a).go i H/\∃N:St->Hp->Prop,(∀U' H',N U' H'->∃m',m'<m/\W (i+1) m' U' H')/\∀x H',(lZ K a).du i H x H'->g x U H' λU2 H2=>tb {D with nx:=N,ct:=N,bk:=D.nx} U2 H2):=by
 refine⟨λi m U H=>m=xs.length-i/\i<=xs.length/\Pv i U H,⟨xs.length,by simp,zero_le _,h0⟩,?_⟩
 rintro i m U H ⟨rfl,hi,p⟩
 have q:=hl i U H hi p;by_cases az:i<xs.length
 .refine .inr ⟨⟨xs,xs[i],q,by simp[az]⟩,Pv (i+1),λU' H' p'=>⟨xs.length-(i+1),by lia,rfl,az,p'⟩,λx H' y=>?_⟩;obtain⟨e,y⟩:=y;subst e;exact hs i x U _ (y xs q) p
 .have e:i=xs.length:=by lia
  subst e;exact .inl ⟨⟨xs,q,le_refl _⟩,hd U H p⟩
theorem Jj {lo:Int}{n:Nat}{g:TG}{tb:TS}{D:Ends}{U:St}{H:Hp}(Pv:Nat->St->Hp->Prop)(h0:Pv 0 U H)(hs:∀i U H,i<n->Pv i U H->g (.int (lo+i)) U H λU2 H2=>tb {D with nx:=Pv (i+1),ct:=Pv (i+1),bk:=D.nx} U2 H2)(hd:∀U H,Pv n U H->D.nx U H):∃W:Nat->Nat->St->Hp->Prop,(∃m,W 0 m U H)/\∀i m U H,W i m U H->((i9 lo n).stop i H/\D.nx U H)\/((i9 lo n).go i H/\∃N:St->Hp->Prop,(∀U' H',N U' H'->∃m',m'<m/\W (i+1) m' U' H')/\∀x H',(i9 lo n).du i H x H'->g x U H' λU2 H2=>tb {D with nx:=N,ct:=N,bk:=D.nx} U2 H2):=by
 refine⟨λi m U H=>m=n-i/\i<=n/\Pv i U H,⟨n,by simp,zero_le _,h0⟩,?_⟩
 rintro i m U H ⟨rfl,hi,p⟩
 by_cases az:i<n
 .refine .inr ⟨az,Pv (i+1),λU' H' p'=>⟨n-(i+1),by lia,rfl,az,p'⟩,λx H' y=>?_⟩;obtain⟨e,y⟩:=y;subst e y;exact hs i U _ az p
 .have e:i=n:=by lia
  subst e;exact .inl ⟨le_refl _,hd U H p⟩
theorem Qp {c:TT}{tb:TS}{D:Ends}{U:St}{H:Hp}(Pv:St->Hp->Prop)(μ:St->Hp->Nat)(h0:Pv U H)(hs:∀U H,Pv U H->c U H λb H1=>if b=true then tb {D with nx:=λU' H'=>Pv U' H'/\μ U' H'<μ U H,ct:=λU' H'=>Pv U' H'/\μ U' H'<μ U H,bk:=D.nx} U H1 else D.nx U H1)(mono:∀U H Q Q',(∀b H1,Q b H1->Q' b H1)->c U H Q->c U H Q'):Jb c tb D U H:=by
 refine⟨λm U H=>m=μ U H/\Pv U H,⟨_,rfl,h0⟩,?_⟩
 rintro m U H ⟨rfl,p⟩
 refine mono U H _ _ (λb H1 q=>?_) (hs U H p);cases b with
 |true=>exact⟨_,λU' H' ⟨p',l⟩=>⟨_,l,rfl,p'⟩,q⟩
 |false=>exact q
noncomputable abbrev R2:=V->V->Hp->VK->Prop
noncomputable def bB (X:Cx)(f:Value->Value->Sem Value)(r:R2):Prop:=∀(pins:List (Addr×Obj))(s:Shared)(U:St)(H:Hp)(x y:V)(v u:Value)(Q:VK),Inv X pins U H s->RelV x v->RelV y u->r x y H Q->wpAny (model X.prog X.w) X.A (f v u) (EP X pins U Q) X.xe s
noncomputable def BK (X:Cx)(f:Value->Sem Value)(r:V->Hp->VK->Prop):Prop:=∀(pins:List (Addr×Obj))(s:Shared)(U:St)(H:Hp)(x:V)(v:Value)(Q:VK),Inv X pins U H s->RelV x v->r x H Q->wpAny (model X.prog X.w) X.A (f v) (EP X pins U Q) X.xe s
noncomputable def dW (X:Cx)(f:Value)(r:List V->Hp->VK->Prop):Prop:=∀(pins:List (Addr×Obj))(s:Shared)(U:St)(H:Hp)(xs:List V)(us:List Value)(Q:VK),Inv X pins U H s->Vals xs us->r xs H Q->wpAny (model X.prog X.w) X.A (call f us) (EP X pins U Q) X.xe s
noncomputable def Qq (X:Cx)(r:V->Hp->(Bool->Hp->Prop)->Prop):Prop:=∀(pins:List (Addr×Obj))(s:Shared)(U:St)(H:Hp)(x:V)(v:Value)(Q:Bool->Hp->Prop),Inv X pins U H s->RelV x v->r x H Q->wpAny (model X.prog X.w) X.A (truthy v) (TP X pins U Q) X.xe s
noncomputable def wK (r:R2)(ta tb:TE):TE:=λU H Q=>ta U H λx H1=>tb U H1 λy H2=>r x y H2 Q
noncomputable def Qr (r:V->Hp->VK->Prop)(ta:TE):TE:=λU H Q=>ta U H λx H1=>r x H1 Q
noncomputable def rI (C:Int->Int->Prop)(g:Int->Int->V):R2:=λx y H Q=>∃i j,x= .int i/\y= .int j/\C i j/\Q (g i j) H
noncomputable def ma (g:Int->Int->V):R2:=λx y H Q=>∃i j,x= .int i/\y= .int j/\Q (g i j) H
noncomputable def rU (g:Int->V):V->Hp->VK->Prop:=λx H Q=>∃i,x= .int i/\Q (g i) H
section
variable {X:Cx}{a b c:Expr}{ta tb tc:TE}{pos:Pos}
theorem BL (ha:PE X a ta)(hb:PE X b tb){pins:List (Addr×Obj)}{s:Shared}{U:St}{H:Hp}{R:V->V->Hp->Prop}(I:Inv X pins U H s)(h:ta U H λx H1=>tb U H1 λy H2=>R x y H2){Q:Value->Shared->Prop}{f:Value->Value->Sem Value}(hf:∀v u s2 x y H2,Inv X pins U H2 s2->RelV x v->RelV y u->R x y H2->wpAny (model X.prog X.w) X.A (f v u) Q X.xe s2):
  wpAny (model X.prog X.w) X.A (eval a X.env) (λv ai=>wpAny (model X.prog X.w) X.A (eval b X.env) (λu aa=>wpAny (model X.prog X.w) X.A (f v u) Q X.xe aa) X.xe ai) X.xe s:=by
 refine ah (ha pins s U H _ I h) λv s1 zQ=>?_;obtain⟨x,H1,I1,r1,q1⟩:=zQ;refine ah (hb pins s1 U H1 _ I1 q1) λu s2 zQ=>?_;obtain⟨y,H2,I2,r2,q2⟩:=zQ;exact hf v u s2 x y H2 I2 r1 r2 q2
theorem xc {op:Operator}{r:R2}(ho:bB X (binaryOp op) r)(ha:PE X a ta)(hb:PE X b tb):PE X (.BinOp a op b pos) (wK r ta tb):=by intro pins s U H Q I h;exact wpAny_BinOp (BL ha hb I h λv u s2 x y H2 I2 rx ry q=>ho pins s2 U H2 x y v u Q I2 rx ry q)
theorem Qs {op:UnaryOp}{r:V->Hp->VK->Prop}(ho:BK X (unaryOp op) r)(ha:PE X a ta):PE X (.UnaryOp op a pos) (Qr r ta):=by intro pins s U H Q I h;exact UnaryOp_ (ah (ha pins s U H _ I h) λv s1 ⟨x,H1,I1,r1,q1⟩=>ho pins s1 U H1 x v Q I1 r1 q1)
theorem wL {f:Value->Value->Sem Value}{C:Int->Int->Prop}{g:Int->Int->Int}(rule:∀(i j:Int)(t u:Tok)(s:Shared)(Q:Value->Shared->Prop)(E:Value->Shared->Prop),C i j->Q (.int (g i j) s.toks) {s with toks:=s.toks+1}->wpAny (model X.prog X.w) X.A (f (.int i t) (.int j u)) Q E s):
  bB X f (rI C λi j=>.int (g i j)):=by
 intro pins s U H x y v u Q I rx ry h;obtain⟨i,j,rfl,rfl,hc,q⟩:=h;obtain⟨t,rfl⟩:=rx;obtain⟨t',rfl⟩:=ry;exact rule i j t t' s _ _ hc ⟨.int (g i j),H,I.tok _,⟨_,rfl⟩,q⟩
theorem Jk {f:Value->Value->Sem Value}{g:Int->Int->Int}(rule:∀(i j:Int)(t u:Tok)(s:Shared)(Q:Value->Shared->Prop)(E:Value->Shared->Prop),Q (.int (g i j) s.toks) {s with toks:=s.toks+1}->wpAny (model X.prog X.w) X.A (f (.int i t) (.int j u)) Q E s):
  bB X f (ma λi j=>.int (g i j)):=by
 intro pins s U H x y v u Q I rx ry h;obtain⟨i,j,rfl,rfl,q⟩:=h;obtain⟨t,rfl⟩:=rx;obtain⟨t',rfl⟩:=ry;exact rule i j t t' s _ _ ⟨.int (g i j),H,I.tok _,⟨_,rfl⟩,q⟩
theorem wM {f:Value->Value->Sem Value}{g:Int->Int->Bool}(rule:∀(i j:Int)(t u:Tok)(s:Shared)(Q:Value->Shared->Prop)(E:Value->Shared->Prop),Q (.bool (g i j)) s->wpAny (model X.prog X.w) X.A (f (.int i t) (.int j u)) Q E s):
  bB X f (ma λi j=>.bl (g i j)):=by
 intro pins s U H x y v u Q I rx ry h;obtain⟨i,j,rfl,rfl,q⟩:=h;obtain⟨t,rfl⟩:=rx;obtain⟨t',rfl⟩:=ry;exact rule i j t t' s _ _ ⟨.bl (g i j),H,I,rfl,q⟩
noncomputable def Qt (i j:Int):Prop:=0<j/\j<1073741824
noncomputable def Qu (i j:Int):Prop:=0<=j/\j<=1000000/\i.natAbs<2^64
noncomputable def BM (i j:Int):Prop:=(-(2^64)<i/\i<2^64)\/(-(2^64)<j/\j<2^64)
theorem BM.ok {i j:Int}(h:BM i j):IntMulOk i j:=by
 rcases h with⟨h1,h2⟩|⟨h1,h2⟩
 .exact .of_left (intBits_le_64 h1 h2)
 .exact .of_right (intBits_le_64 h1 h2)
theorem gC:bB X (binaryOp .Add) (ma λi j=>.int (i+j)):=Jk λ_ _ _ _ _ _ _ q=>add_int q
theorem gU:bB X (binaryOp .Sub) (ma λi j=>.int (i-j)):=Jk λ_ _ _ _ _ _ _ q=>sub_int q
theorem rA:bB X (binaryOp .Mult) (rI BM λi j=>.int (i*j)):=wL λ_ _ _ _ _ _ _ hc q=>mul_int q hc.ok
theorem BN:bB X (binaryOp .FloorDiv) (rI Qt λi j=>.int (i / j)):=wL λi j _ _ _ _ _ hc q=>by have h1:(0:Int)<j:=hc.1;have h2:j<1073741824:=hc.2;exact floordiv_int (by lia) (by rw[Int.fdiv_eq_ediv_of_nonneg i (by lia)];exact q) (.inl (PyProof.noPylong_small (by lia)))
theorem kF:bB X (binaryOp .Mod) (rI (λ_ j=>0<j) λi j=>.int (i%j)):=wL λi j _ _ _ _ _ hc q=>by have h1:(0:Int)<j:=hc;exact mod_int' (by lia) (by rw[Int.fmod_eq_emod_of_nonneg i (by lia)];exact q)
theorem Qv:bB X (binaryOp .Pow) (rI Qu λi j=>.int (i^j.toNat)):=wL λ_ _ _ _ _ _ _ hc q=>pow_int_small hc.1 hc.2.1 hc.2.2 q
theorem Qw {f:Value->Sem Value}{g:Int->Int}(rule:∀(i:Int)(t:Tok)(s:Shared)(Q:Value->Shared->Prop)(E:Value->Shared->Prop),Q (.int (g i) s.toks) {s with toks:=s.toks+1}->wpAny (model X.prog X.w) X.A (f (.int i t)) Q E s):
  BK X f (rU λi=>.int (g i)):=by
 intro pins s U H x v Q I rx h;obtain⟨i,rfl,q⟩:=h;obtain⟨t,rfl⟩:=rx;exact rule i t s _ _ ⟨.int (g i),H,I.tok _,⟨_,rfl⟩,q⟩
theorem Qx:BK X (unaryOp .USub) (rU λi=>.int (-i)):=Qw λ_ _ _ _ _ q=>neg_int q
end
noncomputable def Jl:V->V->Bool
 | .aj,.aj=>true| .aj,.int _=>true| .int _,.aj=>true| .aj,.bl _=>true| .bl _,.aj=>true| .aj,.str _=>true| .str _,.aj=>true
 | .int _,.int _=>true| .bl _,.bl _=>true| .str _,.str _=>true| .eV _,.eV _=>true
 | .int _,.str _=>true| .str _,.int _=>true| .bl _,.str _=>true| .str _,.bl _=>true
 |_,_=>false
noncomputable def Qy:R2:=λx y H Q=>Jl x y=true/\Q (.bl (decide (x=y))) H
noncomputable def Qz:R2:=λx y H Q=>Jl x y=true/\Q (.bl (!decide (x=y))) H
theorem Jm {i j:Int}:decide (V.int i=V.int j)=(i==j):=by rw[Bool.eq_iff_iff];simp
theorem Jn {i j:Bool}:decide (V.bl i=V.bl j)=(i==j):=by rw[Bool.eq_iff_iff];simp
theorem Jo {i j:Str}:decide (V.str i=V.str j)=(i==j):=by rw[Bool.eq_iff_iff];simp
theorem Jq {i j:Array UInt8}:decide (V.eV i=V.eV j)=(i.toList==j.toList):=by rw[Bool.eq_iff_iff];cases i;cases j;simp
section
variable {X:Cx}{a b c:Expr}{ta tb tc:TE}{pos:Pos}
theorem xa {pins:List (Addr×Obj)}{U:St}{H:Hp}{s:Shared}{Q:VK}{k k':Bool}(I:Inv X pins U H s)(q:Q (.bl k) H)(e:k=k'):EP X pins U Q (.bool k') s:=by subst e;exact⟨.bl k,H,I,rfl,q⟩
theorem fK:bB X (compareOp .Eq) Qy:=by
 intro pins s U H x y v u Q I rx ry h;obtain⟨hs,q⟩:=h;cases x with
 |aj=>
  cases rx;cases y with
  |aj=>cases ry;exact PySem.EqNone.eq_none_none (xa I q (by simp))
  |bl j=>cases ry;exact PySem.EqNone.eq_none_bool (xa I q (by simp))
  |int j=>obtain⟨t',rfl⟩:=ry;exact PySem.EqNone.eq_none_int (xa I q (by simp))
  |str j=>obtain⟨t',rfl⟩:=ry;exact PySem.EqNone.eq_none_str (xa I q (by simp))
  |_=>exact absurd (show false=true from hs) Bool.false_ne_true
 |bl i=>
  cases rx;cases y with
  |aj=>cases ry;exact PySem.EqNone.eq_bool_none (xa I q (by simp))
  |bl j=>cases ry;exact eq_bool (xa I q Jn)
  |str j=>obtain⟨t',rfl⟩:=ry;exact PySem.EqMixed.eq_bool_str (xa I q (by simp))
  |_=>exact absurd (show false=true from hs) Bool.false_ne_true
 |int i=>
  obtain⟨t,rfl⟩:=rx;cases y with
  |aj=>cases ry;exact PySem.EqNone.eq_int_none (xa I q (by simp))
  |int j=>obtain⟨t',rfl⟩:=ry;exact eq_int (xa I q Jm)
  |str j=>obtain⟨t',rfl⟩:=ry;exact PySem.EqMixed.eq_int_str (xa I q (by simp))
  |_=>exact absurd (show false=true from hs) Bool.false_ne_true
 |str i=>
  obtain⟨t,rfl⟩:=rx;cases y with
  |aj=>cases ry;exact PySem.EqNone.eq_str_none (xa I q (by simp))
  |bl j=>cases ry;exact PySem.EqMixed.eq_str_bool (xa I q (by simp))
  |int j=>obtain⟨t',rfl⟩:=ry;exact PySem.EqMixed.eq_str_int (xa I q (by simp))
  |str j=>obtain⟨t',rfl⟩:=ry;exact eq_str (xa I q Jo)
  |_=>exact absurd (show false=true from hs) Bool.false_ne_true
 |eV i=>
  obtain⟨t,rfl⟩:=rx;cases y with
  |eV j=>obtain⟨t',rfl⟩:=ry;exact PySem.W.eq_bytes (xa I q Jq)
  |_=>exact absurd (show false=true from hs) Bool.false_ne_true
 |_=>cases y<;>exact absurd (show false=true from hs) Bool.false_ne_true
theorem pG:bB X (compareOp .NotEq) Qz:=by
 intro pins s U H x y v u Q I rx ry h;obtain⟨hs,q⟩:=h;cases x with
 |aj=>
  cases rx;cases y with
  |aj=>cases ry;exact PySem.EqNone.ne_none_none (xa I q (by simp))
  |bl j=>cases ry;exact PySem.EqNone.ne_none_bool (xa I q (by simp))
  |int j=>obtain⟨t',rfl⟩:=ry;exact PySem.EqNone.ne_none_int (xa I q (by simp))
  |str j=>obtain⟨t',rfl⟩:=ry;exact PySem.EqNone.ne_none_str (xa I q (by simp))
  |_=>exact absurd (show false=true from hs) Bool.false_ne_true
 |bl i=>
  cases rx;cases y with
  |aj=>cases ry;exact PySem.EqNone.ne_bool_none (xa I q (by simp))
  |bl j=>cases ry;exact ne_bool (xa I q (congrArg not Jn))
  |str j=>obtain⟨t',rfl⟩:=ry;exact PySem.EqMixed.ne_bool_str (xa I q (by simp))
  |_=>exact absurd (show false=true from hs) Bool.false_ne_true
 |int i=>
  obtain⟨t,rfl⟩:=rx;cases y with
  |aj=>cases ry;exact PySem.EqNone.ne_int_none (xa I q (by simp))
  |int j=>obtain⟨t',rfl⟩:=ry;exact ne_int (xa I q (congrArg not Jm))
  |str j=>obtain⟨t',rfl⟩:=ry;exact PySem.EqMixed.ne_int_str (xa I q (by simp))
  |_=>exact absurd (show false=true from hs) Bool.false_ne_true
 |str i=>
  obtain⟨t,rfl⟩:=rx;cases y with
  |aj=>cases ry;exact PySem.EqNone.ne_str_none (xa I q (by simp))
  |bl j=>cases ry;exact PySem.EqMixed.ne_str_bool (xa I q (by simp))
  |int j=>obtain⟨t',rfl⟩:=ry;exact PySem.EqMixed.ne_str_int (xa I q (by simp))
  |str j=>obtain⟨t',rfl⟩:=ry;exact ne_str (xa I q (congrArg not Jo))
  |_=>exact absurd (show false=true from hs) Bool.false_ne_true
 |eV i=>
  obtain⟨t,rfl⟩:=rx;cases y with
  |eV j=>obtain⟨t',rfl⟩:=ry;exact PySem.W.ne_bytes (xa I q (congrArg not Jq))
  |_=>exact absurd (show false=true from hs) Bool.false_ne_true
 |_=>cases y<;>exact absurd (show false=true from hs) Bool.false_ne_true
theorem nG:bB X (compareOp .Lt) (ma λi j=>.bl (decide (i<j))):=wM λ_ _ _ _ _ _ _ q=>lt_int q
theorem rB:bB X (compareOp .LtE) (ma λi j=>.bl (decide (i<=j))):=wM λ_ _ _ _ _ _ _ q=>le_int q
theorem rC:bB X (compareOp .Gt) (ma λi j=>.bl (decide (j<i))):=wM λ_ _ _ _ _ _ _ q=>gt_int q
theorem BO:bB X (compareOp .GtE) (ma λi j=>.bl (decide (j<=i))):=wM λ_ _ _ _ _ _ _ q=>ge_int q
theorem Jr:bB X (compareOp .Is) (λx y H Q=>y= .aj/\Q (.bl (decide (x= .aj))) H):=by
 intro pins s U H x y v u Q I rx ry h;obtain⟨rfl,q⟩:=h;cases ry;refine is_none_gen (xa I q ?_);cases x<;>first
  |(cases rx;rfl)
  |(obtain⟨t,rfl⟩:=rx;rfl)
theorem QA:bB X (compareOp .IsNot) (λx y H Q=>y= .aj/\Q (.bl (!decide (x= .aj))) H):=by
 intro pins s U H x y v u Q I rx ry h;obtain⟨rfl,q⟩:=h;cases ry;refine isnot_none_gen (xa I q ?_);cases x<;>first
  |(cases rx;rfl)
  |(obtain⟨t,rfl⟩:=rx;rfl)
theorem qc (b:Expr){op:CmpOp}(h:autoParam (op≠.In) aP2)(h2:autoParam (op≠.NotIn) aP2):behindInMarks op b=false:=by
 have e:(op==CmpOp.In||op==CmpOp.NotIn)=false:=by cases op<;>first|rfl|exact absurd rfl h|exact absurd rfl h2
 cases b<;>first|rfl|(show(_&&_&&_)=false;rw[e,Bool.and_false];rfl)
theorem gE {op:CmpOp}{r:R2}(ho:bB X (compareOp op) r)(ha:PE X a ta)(hb:PE X b tb)(hm:behindInMarks op b=false):PE X (.Compare a [op] [b] pos) (wK r ta tb):=by intro pins s U H Q I h;exact wpAny_Compare1 (BL ha hb I h λv u s2 x y H2 I2 rx ry q=>ho pins s2 U H2 x y v u Q I2 rx ry q) hm
noncomputable def QB (t:TE):TT:=λU H Q=>t U H λx H'=>∃k,x= .bl k/\Q k H'
theorem jw {op:CmpOp}{r:R2}(ho:bB X (compareOp op) r)(ha:PE X a ta)(hb:PE X b tb)(hm:behindInMarks op b=false):PT X (.Compare a [op] [b] pos) (QB (wK r ta tb)):=by
 intro pins s U H Q I h;refine wpAny_isTrue_Compare1 (ah (ha pins s U H _ I h) λv s1 ⟨x,H1,I1,r1,q1⟩=>ah (hb pins s1 U H1 _ I1 q1) λu s2 ⟨y,H2,I2,r2,q2⟩=>ah (ho pins s2 U H2 x y v u _ I2 r1 r2 q2) λc s3 zQ=>?_) hm;obtain⟨z,H3,I3,r3,k,e,q3⟩:=zQ;subst e;cases r3;exact wpAny_truthy_bool ⟨H3,I3,q3⟩
noncomputable def QC (r r':R2)(ta tb tc:TE):TE:=λU H Q=>ta U H λx H1=>tb U H1 λy H2=>r x y H2 λz H3=>∃k,z= .bl k/\(if k=true then tc U H3 λw' H4=>r' y w' H4 Q else Q (.bl false) H3)
theorem QD {op BP:CmpOp}{r r':R2}(ho:bB X (compareOp op) r)(bc:bB X (compareOp BP) r')(ha:PE X a ta)(hb:PE X b tb)(hc:PE X c tc)(hm:lastMarks [op,BP] [b,c]=false:=by with_unfolding_all rfl):PE X (.Compare a [op,BP] [b,c] pos) (QC r r' ta tb tc):=by
 intro pins s U H Q I h;refine Compare_chain (ah (ha pins s U H _ I h) λv s1 ⟨x,H1,I1,r1,q1⟩=>chain_link (ah (hb pins s1 U H1 _ I1 q1) λu s2 ⟨y,H2,I2,r2,q2⟩=>ah (ho pins s2 U H2 x y v u _ I2 r1 r2 q2) λd s3 zQ=>?_)) hm;obtain⟨z,H3,I3,r3,k,e,q3⟩:=zQ;subst e;cases r3;refine wpAny_truthy_bool ?_;cases k with
 |false=>exact ite_ff ⟨.bl false,H3,I3,rfl,q3⟩
 |true=>exact ite_tt (chain_last (ah (hc pins s3 U H3 _ I3 q3) λw' s4 ⟨z',H4,I4,r4,q4⟩=>bc pins s4 U H4 y z' u w' Q I4 r2 r4 q4))
noncomputable def BQ (K:PySem.W.Frag)(x:V)(H:Hp)(k:Bool):Prop:=match x with
 | .aj=>k=false
 | .bl b=>k=b
 | .int i=>k=(i != 0)
 | .str y=>y.length<=sizeLine/\k=((y.length:Int) != 0)
 | .eV y=>y.size<=sizeLine/\k=((y.size:Int) != 0)
 | .ref p=>(∃xs,ag K H p xs/\k=!xs.isEmpty)\/(∃xs,aw K H p xs/\k=!xs.isEmpty)\/∃kvs,H p=some (.dK kvs)/\k=!kvs.isEmpty
 |_=>False
theorem QE {B:Type}{kvs:List (B×V)}{vs:List (B×Value)}(r:KV kvs vs):(!vs.isEmpty)=!kvs.isEmpty:=by cases r<;>rfl
theorem Jt {xs:List V}{its:List Value}(r:Vals xs its):(!its.toArray.isEmpty)=!xs.isEmpty:=by cases r<;>simp
theorem nH:(sizeLine:Nat)<2^63:=by rw[sizeLine_eq];decide
theorem QG:Qq X (λx H Q=>∃k,BQ X.K x H k/\Q k H):=by
 intro pins s U H x v Q I rx h;obtain⟨k,e,q⟩:=h;have hl:=nH;have hs:sizeLine=16777216:=sizeLine_eq;cases x with
 |aj=>cases rx;have e':k=false:=e;subst e';exact truthy_none ⟨H,I,q⟩
 |bl b=>cases rx;have e':k=b:=e;subst e';exact wpAny_truthy_bool ⟨H,I,q⟩
 |int i=>obtain⟨t,rfl⟩:=rx;have e':k=(i != 0):=e;subst e';exact PySem.P.truthy_int ⟨H,I,q⟩
 |str y=>obtain⟨t,rfl⟩:=rx;obtain⟨hy,e'⟩:y.length<=sizeLine/\k=((y.length:Int) != 0):=e;subst e';exact PySem.P.truthy_str (by lia) ⟨H,I.tok _,q⟩
 |eV y=>obtain⟨t,rfl⟩:=rx;obtain⟨hy,e'⟩:y.size<=sizeLine/\k=((y.size:Int) != 0):=e;subst e';exact PySem.W.truthy_bytes (by lia) ⟨H,I.tok _,q⟩
 |ref p=>
  cases rx;have e':(∃xs,ag X.K H p xs/\k=!xs.isEmpty)\/(∃xs,aw X.K H p xs/\k=!xs.isEmpty)\/∃kvs,H p=some (.dK kvs)/\k=!kvs.isEmpty:=e;rcases e' with⟨xs,hx,e'⟩|⟨xs,hx,e'⟩|⟨kvs,hx,e'⟩
  .subst e';obtain⟨its,r,pl,hz⟩:=I.list hx;have hlen:=r.length;exact wpAny_truthy_list pl.isList (by simp only[size_toArray];lia) ⟨H,I.tok _,by rw[Jt r];exact q⟩
  .subst e';obtain⟨its,r,pl,hz⟩:=I.tuple hx;have hlen:=r.length;exact truthy_tuple pl (by simp only[size_toArray];lia) ⟨H,I.tok _,by rw[Jt r];exact q⟩
  .subst e';obtain⟨hz,hS,vs,r,m⟩:kvs.length<=sizeLine/\(p==sysModules)=false/\∃vs,KV kvs vs/\s.heap.DictOf (qg X.prog X.w) p vs:=I.af p _ hx;have hlen:kvs.length=vs.length:=Paired.length r;exact wpAny_truthy_dict hS m (by lia) ⟨H,I.tok _,by rw[QE r];exact q⟩
 |_=>exact(show False from e).elim
theorem Ju (ha:PE X a ta)(he:∀whole,isTrue a X.env whole=(do let v<-whole;standAt a.pos;holding [v] (truthy v))):PT X a (λU H Q=>ta U H λx H'=>∃k,BQ X.K x H' k/\Q k H'):=by
 intro pins s U H Q I h;exact isTrue_plain (ah (ha pins s U H _ I h) λv s1 ⟨x,H1,I1,r1,q1⟩=>QG pins s1 U H1 x v Q I1 r1 q1) (he _)
theorem vals1 {x:V}{us:List Value}(r:Vals [x] us):∃u,us=[u]/\RelV x u:=by
 cases r with
 |cons r1 r2=>cases r2;exact⟨_,rfl,r1⟩
theorem vals2 {x y:V}{us:List Value}(r:Vals [x,y] us):∃u w',us=[u,w']/\RelV x u/\RelV y w':=by
 cases r with
 |cons r1 r2=>
  cases r2 with
  |cons r3 r4=>cases r4;exact⟨_,_,rfl,r1,r3⟩
end
structure nI (h:Heap)(x dx C:Addr)(mA:Str->Option Value):Prop where
 obj:h.get? x=some (PySem.W.instObj C dx)
 ns:h.Ns1 dx mA
 ne:dx≠x
theorem QH {h:Heap}{dx:Addr}{mA:Str->Option Value}(n:h.Ns1 dx mA):∃od,h.get? dx=some od/\∀name,PySem.W.lookIn name od=some (mA name):=by
 obtain⟨o,es,ep,ho,hd,hk,_,hm⟩:=n;refine⟨o,ho,λname=>?_⟩;have e:=hm name;unfold nsFind findBy at e;rw[<-Array.find?_toList]at e;unfold PySem.W.lookIn;rw[hd];dsimp only;split
 .rename_i y q;rw[q]at e;exact congrArg some e
 .rename_i q;rw[q]at e;have a:es.toList.any (·.refKey)=false:=by
   rw[List.any_eq_false];intro y hy;obtain⟨z,t,bU⟩:=hk y (Array.mem_toList_iff.mp hy);simp[DictEntry.refKey,bU]
  have a':¬es.toList.any (·.refKey)=true:=by rw[a];exact Bool.false_ne_true
  rw[if_neg a'];exact congrArg some e
theorem nI.look {h:Heap}{x dx C:Addr}{mA:Str->Option Value}(I:nI h x dx C mA):∃od,PySem.W.InstAt h x (PySem.W.instObj C dx) C (some od)/\∀name,PySem.W.lookIn name od=some (mA name):=
 let⟨od,ho,hl⟩:=QH I.ns
 ⟨od,⟨I.obj,rfl,rfl,ho⟩,hl⟩
section
variable {prog:Program}{w:World}{A:Around}{E:Value->Shared->Prop}{s:Shared}{K:PySem.W.Frag}{x dx C f:Addr}{mA:Str->Option Value}{name:Str}{v:Value}
theorem get_map {expr:Bool}{Q:Value->Shared->Prop}(X:K.In s.heap)(I:nI s.heap x dx C mA)(hg:PySem.W.plainGet K C name=true)(hh:PySem.W.hasDictIn K C=true)(ha:PySem.W.findIn K (.ref C) name=some none)(hv:mA name=some v)(QI:PySem.W.handedIn v=true)(h:Q v {s with toks:=s.toks+1}):
  wpAny (model prog w) A (getAttr (.ref x) name expr) Q E s:=by
 obtain⟨od,J,hl⟩:=I.look;exact PySem.W.get_value X J (PySem.W.plainGet_of hg).1 (PySem.W.findObj_own hh ha rfl (by rw[hl,hv])) QI h
theorem QJ {pl:Sem Bool}{Q:Value×List Value->Shared->Prop}(X:K.In s.heap)(I:nI s.heap x dx C mA)(hg:PySem.W.plainGet K C name=true)(hf:PySem.W.findIn K (.ref C) name=some (some (.ref f)))(ht:PySem.W.isFn K (.ref f)=true)(hv:mA name=none)(h:Q (.ref f,[.ref x]) s):
  wpAny (model prog w) A (getMethod (.ref x) name pl) Q E s:=by
 obtain⟨od,J,hl⟩:=I.look;exact PySem.W.method_fn X J (PySem.W.plainGet_of hg).1 (PySem.W.plainGet_of hg).2 hf (beq_iff_eq.mp ht) (by show(PySem.W.lookIn name od).map (·.isSome)=some false;rw[hl,hv];rfl) h
theorem BR {ns:List Str}{Q:Unit->Shared->Prop}(X:K.In s.heap)(I:nI s.heap x dx C mA)(hs:PySem.W.findIn K (.ref C) "__setattr__"=some (some (.builtin "object.__setattr__")))(hp:PySem.W.plainOver K C=true)(ht:PySem.W.takerIn K C name=some none)(hh:PySem.W.hasDictIn K C=true)(hw:PySem.Within mA ns)(hsz:ns.length<=sizeLine)(h:∀h',nI h' x dx C (λy=>if y=name then some v else mA y)->Heap.SameBut dx s.heap h'->Q () {s with heap:=h',toks:=s.toks+2}):
  wpAny (model prog w) A (setAttr (.ref x) name v) Q E s:=by
 obtain⟨od,J,hl⟩:=I.look;refine PySem.W.set_plain X J hs (PySem.W.osa_open (s:={s with toks:=s.toks+1}) (r:=none) X J hp ht λb=>?_);obtain⟨cd,hc,bA⟩:=PySem.W.any_some hh;have hx:s.heap.get? x=some ⟨.ref C,some dx,.plain,#[]⟩:=I.obj;refine wpAny_bind (wpAny_pure (wpAny_bind (wpAny_bind (wpAny_loadPart hx (wpAny_bind (PySem.W.Looks.here (s:={s with toks:=s.toks+1}) (PySem.W.looks_clsIn X hc) ?_))))));rw[bA];refine wpAny_pure (a:=some dx) (wpAny_bind (wpAny_pure (wpAny_bind ?_)));refine wpAny_nsSet1 (s:={s with toks:=s.toks+1}) I.ns λh' kG rE=>?_;obtain⟨oD,QK,QL,BS,BU,iw⟩:=kG.count (PySem.Within.cons name v hw);refine wpAny_bind (wpAny_lookBehind BS (by rw[BU];exact pastItsLine_dict (le_trans iw (by rw[length_cons];lia))) ?_);exact wpAny_pure (h _ ⟨(rE.2 _ (Ne.symm I.ne)).trans I.obj,kG,I.ne⟩ rE)
theorem Jv {R:Result->Shared->Prop}{vs:List Value}{kw:List (Str×Value)}(X:K.In s.heap)(hm:PySem.W.makesIn K C=true)(hi:PySem.W.findIn K (.ref C) "__init__"=some (some (.ref f)))(hf:PySem.W.typeIn K (.ref f)=some (.type "function"))(h:codeAny (model prog w) (A.under (.builtin "type.__call__" ⟨.ref C::vs,kw⟩)) (.call (.ref f) ⟨.ref (s.heap.objs.size+1)::vs,kw⟩) (PySem.W.InitBack (s.heap.objs.size+1) R) {s with heap:=(s.heap.push PySem.W.emptyDict).push (PySem.W.instObj C s.heap.objs.size)}):
  codeAny (model prog w) A (.call (.ref C) ⟨vs,kw⟩) R s:=by
 obtain⟨hh,g,d,t,os⟩:=s;exact PySem.W.make_core (PySem.W.makes_of X hm) (PySem.W.looks_findIn X hi) (λself=>PySem.W.bind_fn X self hf) (.inl rfl) h
end
noncomputable def ua (f:Str)(v:V):List (Str×V)->List (Str×V)
 |[]=>[(f,v)]
 |(g,x)::r=>if g=f then(g,v)::r else(g,x)::ua f v r
theorem jl (f g:Str)(v:V):∀fs:List (Str×V),(ua f v fs).lookup g=if g=f then some v else fs.lookup g
 |[]=>by
  show List.lookup g [(f,v)]=_;by_cases h:g=f
  .have hb:(g==f)=true:=beq_iff_eq.mpr h;simp only[List.lookup,hb,if_pos h]
  .have hb:(g==f)=false:=beq_eq_false_iff_ne.mpr h;simp only[List.lookup,hb,if_neg h]
 | (k,x)::r=>by
  have ih:=jl f g v r;rw[show ua f v ((k,x)::r)=(if k=f then(k,v)::r else(k,x)::ua f v r)from rfl];by_cases hk:k=f
  .rw[if_pos hk];by_cases h:g=k
   .have hb:(g==k)=true:=beq_iff_eq.mpr h;simp only[List.lookup,hb,if_pos (h.trans hk)]
   .have hb:(g==k)=false:=beq_eq_false_iff_ne.mpr h;simp only[List.lookup,hb,if_neg (λe:g=f=>h (e.trans hk.symm))]
  .rw[if_neg hk];by_cases h:g=k
   .have hb:(g==k)=true:=beq_iff_eq.mpr h;simp only[List.lookup,hb,if_neg (λe:g=f=>hk (h.symm.trans e))]
   .have hb:(g==k)=false:=beq_eq_false_iff_ne.mpr h;simp only[List.lookup,hb];exact ih
theorem BV (f:Str)(v:V):∀fs:List (Str×V),f∈(ua f v fs).map (·.1)/\∀g,g∈fs.map (·.1)->g∈(ua f v fs).map (·.1)
 |[]=>⟨by simp[ua],λg h=>by simp at h⟩
 | (k,x)::r=>by
  obtain⟨i1,i2⟩:=BV f v r;rw[show ua f v ((k,x)::r)=(if k=f then(k,v)::r else(k,x)::ua f v r)from rfl];by_cases hk:k=f
  .rw[if_pos hk];subst hk;exact⟨by simp,λg h=>by simpa using h⟩
  .rw[if_neg hk];refine⟨?_,λg h=>?_⟩
   .rw[map_cons];exact mem_cons_of_mem _ i1
   .rw[map_cons]at h⊢;rcases mem_cons.mp h with e|e
    .exact mem_cons.mpr (.inl e)
    .exact mem_cons_of_mem _ (i2 g e)
theorem Jw (f:Str)(v:V):∀fs:List (Str×V),(ua f v fs).length<=fs.length+1
 |[]=>by simp[ua]
 |(k,x)::r=>by
  have ih:=Jw f v r;rw[show ua f v ((k,x)::r)=(if k=f then(k,v)::r else(k,x)::ua f v r)from rfl];by_cases hk:k=f
  .rw[if_pos hk,length_cons,length_cons];lia
  .rw[if_neg hk,length_cons,length_cons];lia
theorem dD.some_of {v:V}{o:Option Value}(r:dD (some v) o):∃u,o=some u/\RelV v u:=by
 cases o with
 |none=>exact(show False from r).elim
 |some u=>exact⟨u,rfl,r⟩
theorem dD.none_of {o:Option Value}(r:dD none o):o=none:=by
 cases o with
 |none=>rfl
 |some u=>exact(show False from r).elim
theorem QM {v:V}{u:Value}(r:RelV v u):PySem.W.handedIn u=true:=by
 cases v with
 |aj=>cases(show u=Value.none from r);rfl
 |bl b=>cases(show u=Value.bool b from r);rfl
 |int i=>obtain⟨t,e⟩:=(show ∃t,u=Value.int i t from r);cases e;rfl
 |str x=>obtain⟨t,e⟩:=(show ∃t,u=Value.str x t from r);cases e;rfl
 |eV b=>obtain⟨t,e⟩:=(show ∃t,u=Value.bytes b t from r);cases e;rfl
 |lO b=>obtain⟨t,e⟩:=(show ∃t,u=Value.float b t from r);cases e;rfl
 |ref a=>cases(show u=Value.ref a from r);rfl
 |ty n=>cases(show u=Value.type n from r);rfl
section
variable {P:Program}{w:World}{H H':Hp}{h h':Heap}{a C dx:Addr}{fs fs':List (Str×V)}
theorem wN (af:bG P w H h)(e:H a=some (.ins C dx fs)):∃mA,nI h a dx C mA/\(∀f,dD (fs.lookup f) (mA f))/\PySem.Within mA (fs.map (·.1))/\fs.length<=1000/\H dx=some (.own a):=by obtain⟨d,z,ne,ob,mA,n,r,q⟩:=(show yx P w H h a (.ins C dx fs)from af a _ e);exact⟨mA,⟨ob,n,ne⟩,r,q,z,d⟩
end
structure dX (K:PySem.W.Frag)(C:Addr):Prop where
 pg:PySem.W.plainGet K C Str.empty=true
 hd:PySem.W.hasDictIn K C=true
 po:PySem.W.plainOver K C=true
 sa:PySem.W.findIn K (.ref C) "__setattr__"=some (some (.builtin "object.__setattr__"))
theorem dX.get {K:PySem.W.Frag}{C:Addr}(c:dX K C)(f:Str):PySem.W.plainGet K C f=true:=c.pg
noncomputable def yk (K:PySem.W.Frag)(C:Addr)(f:Str):Prop:=PySem.W.findIn K (.ref C) f=some none
theorem yk.QN {K:PySem.W.Frag}{C:Addr}{f:Str}(n:yk K C f):PySem.W.takerIn K C f=some none:=by unfold PySem.W.takerIn;rw[show PySem.W.findIn K (.ref C) f=some none from n];rfl
structure Meth (K:PySem.W.Frag)(C:Addr)(m:Str)(f:Addr):Prop where
 at_:PySem.W.findIn K (.ref C) m=some (some (.ref f))
 fn:PySem.W.isFn K (.ref f)=true
 kp:PySem.W.keepIn K (.ref f)=true
section
variable {X:Cx}{pins:List (Addr×Obj)}{U:St}{H:Hp}{s:Shared}{a C dx:Addr}{fs:List (Str×V)}{f:Str}{v:V}{A:Around}{E:Value->Shared->Prop}
theorem QO {b:Bool}{Q:Value->Shared->Prop}(I:Inv X pins U H s)(e:H a=some (.ins C dx fs))(c:dX X.K C)(n:yk X.K C f)(l:fs.lookup f=some v)(h:∀u s',Inv X pins U H s'->RelV v u->Q u s'):wpAny (model X.prog X.w) A (getAttr (.ref a) f b) Q E s:=by
 obtain⟨mA,O,r,_,_,_⟩:=wN I.af e;obtain⟨u,hu,ru⟩:=dD.some_of (v:=v) (o:=mA f) (by rw[<-l];exact r f);exact get_map I.aO O (c.get f) c.hd n hu (QM ru) (h u _ (I.tok _) ru)
theorem wO {m:Str}{g:Addr}{pl:Sem Bool}{Q:Value×List Value->Shared->Prop}(I:Inv X pins U H s)(e:H a=some (.ins C dx fs))(c:dX X.K C)(k:Meth X.K C m g)(l:fs.lookup m=none)(h:Q (.ref g,[.ref a]) s):wpAny (model X.prog X.w) A (getMethod (.ref a) m pl) Q E s:=by
 obtain⟨mA,O,r,_,_,_⟩:=wN I.af e;have hn:mA m=none:=dD.none_of (by rw[<-l];exact r m);exact QJ I.aO O (c.get m) k.at_ k.fn hn h
theorem QP {y:V}{u:Value}{Q:Unit->Shared->Prop}(I:Inv X pins U H s)(e:H a=some (.ins C dx fs))(c:dX X.K C)(n:yk X.K C f)(hl:fs.length<1000)(ry:RelV y u)(h:∀s',Inv X pins U (upd H a (.ins C dx (ua f y fs))) s'->Q () s'):wpAny (model X.prog X.w) A (setAttr (.ref a) f u) Q E s:=by
 obtain⟨mA,O,r,wi,_,ho⟩:=wN I.af e;have hz:(fs.map (·.1)).length<=sizeLine:=by rw[length_map,sizeLine_eq];lia
 refine BR I.aO O c.sa c.po n.QN c.hd wi hz λh' O' sb=>h _ ?_;have hd:∃o,h'.get? dx=some o:=let⟨o,_,_,e',_⟩:=O'.ns;⟨o,e'⟩;refine I.write (x:=a) (e:=dx) (by rw[e];exact True.intro) (.inr ho) (λb q hb z=>(sb.2 b hb).trans z) hd ?_;refine⟨by rw[jd O.ne];exact ho,?_,O.ne,O'.obj,_,O'.ns,λg=>?_,λg hg=>?_⟩
 .have:=Jw f y fs;lia
 .show dD ((ua f y fs).lookup g) (if g=f then some u else mA g);rw[jl];by_cases q:g=f
  .rw[if_pos q,if_pos q];exact ry
  .rw[if_neg q,if_neg q];exact r g
 .by_cases q:g=f
  .rw[q];exact(BV f y fs).1
  .refine(BV f y fs).2 g (wi g λz=>hg ?_);show(if g=f then some u else mA g)=none;rw[if_neg q];exact z
theorem Inv.made (I:Inv X pins U H s):Inv X pins U (upd (upd H s.heap.objs.size (.own (s.heap.objs.size+1))) (s.heap.objs.size+1) (.ins C s.heap.objs.size [])) {s with heap:=(s.heap.push PySem.W.emptyDict).push (PySem.W.instObj C s.heap.objs.size)}:=by
 have e1:(s.heap.push PySem.W.emptyDict).get? s.heap.objs.size=some PySem.W.emptyDict:=Heap.get?_push_size s.heap rfl;have e2:((s.heap.push PySem.W.emptyDict).push (PySem.W.instObj C s.heap.objs.size)).get? (s.heap.objs.size+1)=some (PySem.W.instObj C s.heap.objs.size):=by have:=Heap.get?_push_size (s.heap.push PySem.W.emptyDict) (o:=PySem.W.instObj C s.heap.objs.size) rfl;rwa[Heap.size_push]at this
 have e3:(s.heap.push PySem.W.emptyDict).Ns s.heap.objs.size (λ_=>none):=⟨PySem.W.emptyDict,#[],_,e1,rfl,(λe he=>absurd he (by simp)),λ_=>rfl⟩;have I1:=I.laid (a:=s.heap.objs.size) (o:=.own (s.heap.objs.size+1)) (h':=s.heap.push PySem.W.emptyDict) (t':=s.toks) (λb u q=>Heap.get?_push_of_some _ q) (le_refl _) ⟨_,e1⟩;refine I1.laid (a:=s.heap.objs.size+1) (o:=.ins C s.heap.objs.size []) (t':=s.toks) (λb u q=>Heap.get?_push_of_some _ q) (Nat.le_of_eq (Heap.size_push _ _)) ?_;have ne:s.heap.objs.size≠s.heap.objs.size+1:=ne_of_lt (lt_succ_self _);refine⟨by rw[jd ne,ja],zero_le _,ne,e2,λ_=>none,(Heap.Ns1.of_empty e3).at λo q=>Heap.get?_push_of_some _ q,λ_=>True.intro,λy hy=>absurd rfl hy⟩
theorem QQ {prog:Program}{w:World}{env:Env}{e:Expr}{f:Str}{pos:Pos}{s:Shared}{Q:Value->Shared->Prop}(hb:attributeBase e f env (eval e env)=eval e env)(h:wpAny (model prog w) A (eval e env) (λo ai=>wpAny (model prog w) A (getAttr o f true) Q E ai) E s):wpAny (model prog w) A (eval (.Attribute e f pos) env) Q E s:=
 Attribute_any_ h (by rw[arm_eval_Attribute,hb])
end
noncomputable def Jx (K:PySem.W.Frag)(ta:TE)(f:Str):TE:=λU H Q=>ta U H λx H1=>∃a C dx fs v,x= .ref a/\H1 a=some (.ins C dx fs)/\dX K C/\yk K C f/\fs.lookup f=some v/\Q v H1
noncomputable def QR (K:PySem.W.Frag)(ta tv:TE)(f:Str):TS:=λD U H=>tv U H λy H1=>ta U H1 λx H2=>∃a C dx fs,x= .ref a/\H2 a=some (.ins C dx fs)/\dX K C/\yk K C f/\fs.length<1000/\D.nx U (upd H2 a (.ins C dx (ua f y fs)))
section
variable {X:Cx}{o e value:Expr}{f:Str}{pos pos' eX:Pos}{ta tv:TE}
theorem j7 (he:PE X e ta)(hb:attributeBase e f X.env (eval e X.env)=eval e X.env):PE X (.Attribute e f pos) (Jx X.K ta f):=by intro pins s U H Q I h;refine QQ hb (ah (he pins s U H _ I h) λu s1 zQ=>?_);obtain⟨x,H1,I1,rx,a,C,dx,fs,v,ex,ea,c,n,l,q⟩:=zQ;subst ex;obtain rfl:u=Value.ref a:=rx;exact QO I1 ea c n l λu' s2 I2 ru=>⟨v,H1,I2,ru,q⟩
theorem dG (ha:PE X o ta)(hv:PE X value tv)(hs:swapsWith value (some (.Attribute o f pos')) pos.line X.env=pure false):PS X (.Assign [.Attribute o f pos'] value pos) (QR X.K ta tv f):=by intro pins s U H D I h;refine plainObj_wpAny_Assign_Attribute (ah (hv pins s U H _ I h) λu s1 ⟨y,H1,I1,ry,q⟩=>ah (ha pins s1 U H1 _ I1 q) λov s2 zQ=>?_) hs;obtain⟨x,H2,I2,rx,a,C,dx,fs,ex,ea,c,n,l,q2⟩:=zQ;subst ex;obtain rfl:ov=Value.ref a:=rx;exact QP I2 ea c n l ry λs3 I3=>⟨U,_,I3,q2⟩
theorem j51 {pl:Sem Bool}{m:Str}{apos:Pos}{args:List Expr}{pins:List (Addr×Obj)}{s:Shared}{U:St}{H:Hp}{Q:Value->Shared->Prop}{te:TE}(he:PE X e te)(I:Inv X pins U H s)(h:te U H λx H1=>∃a C dx fs g,x= .ref a/\H1 a=some (.ins C dx fs)/\dX X.K C/\Meth X.K C m g/\fs.lookup m=none/\∀s1,Inv X pins U H1 s1->wpAny (model X.prog X.w) X.A (callWith pos (.ref g) [.ref a] (backTo pos (starEach args X.env)) (backToKw pos (keywordEach [] X.env))) Q X.xe s1)(ht:eval (.Call (.Attribute e m apos) args [] pos) X.env=(do
   let ov<-eval e X.env
   standAt apos.atName
   let(f,first)<-holding [ov] (getMethod ov m pl)
   callWith pos f first (backTo pos (starEach args X.env)) (backToKw pos (keywordEach [] X.env)))) :
  wpAny (model X.prog X.w) X.A (eval (.Call (.Attribute e m apos) args [] pos) X.env) Q X.xe s:=by
 refine PySem.W.methodCall_KW (pl:=pl) (ah (he pins s U H _ I h) λu s1 zQ=>?_) ht;obtain⟨x,H1,I1,rx,a,C,dx,fs,g,ex,ea,c,k,l,q⟩:=zQ;subst ex;obtain rfl:u=Value.ref a:=rx;exact wO I1 ea c k l (q s1 I1)
end
section
variable {X:Cx}{pins:List (Addr×Obj)}{U:St}{H:Hp}{s:Shared}{A:Around}{E:Value->Shared->Prop}{Q:Value->Shared->Prop}{c:Value}{b:Bool}
inductive gF (K:PySem.W.Frag)(H:Hp):V->Value->Prop where
 |aj:gF K H .aj (.type "NoneType")
 |bl (x:Bool):gF K H (.bl x) (.type "bool")
 |int (i:Int):gF K H (.int i) (.type "int")
 |str (x:Str):gF K H (.str x) (.type "str")
 |lO (x:UInt64):gF K H (.lO x) (.type "float")
 |lst {a:Addr} {xs:List V} (e:H a=some (.lst xs)):gF K H (.ref a) (.type "list")
 |aA {a:Addr} {o:Obj} {xs:List V} (e:H a=some (.aA o (.lst xs))):gF K H (.ref a) (.type "list")
 |tup {a:Addr} {xs:List V} (e:H a=some (.tup xs)):gF K H (.ref a) (.type "tuple")
 |dK {a:Addr} {kvs:List (Key×V)} (e:H a=some (.dK kvs)):gF K H (.ref a) (.type "dict")
 |dT {a:Addr} {kvs:List (List Key×V)} (e:H a=some (.dT kvs)):gF K H (.ref a) (.type "dict")
 |ins {a C dx:Addr} {fs:List (Str×V)} (e:H a=some (.ins C dx fs)) (cl:dX K C) (ha:PySem.W.findIn K (.ref C) "__class__"=some (some (.builtin "object.__class__"))) (hn:PySem.W.specialIn K (.builtin "object.__class__") "__get__"=some (some (.builtin "getset_descriptor.__get__"))) (Jy:PySem.W.takesIn K (.builtin "object.__class__")=some true) (hm:PySem.W.mroIn K C (.type "object")=some true):gF K H (.ref a) (.ref C)
theorem Jz {x:V}{u t:Value}(I:Inv X pins U H s)(rx:RelV x u)(ty:gF X.K H x t)(e:PySem.W.kitOne X.K t c=some b)(h:∀tk,Q (.bool b) {s with toks:=tk}):wpAny (model X.prog X.w) A (call (.builtin "isinstance") [u,c]) Q E s:=by
 cases ty with
 |aj=>cases(show u=Value.none from rx);exact PySem.W.kia_one PySem.W.kitx_none I.aO True.intro e (λz=>nomatch z) h
 |bl y=>cases(show u=Value.bool y from rx);exact PySem.W.kia_one PySem.W.kitx_bool I.aO True.intro e (λz=>nomatch z) h
 |int i=>obtain⟨t,q⟩:=(show ∃t,u=Value.int i t from rx);cases q;exact PySem.W.kia_one PySem.W.kitx_int I.aO True.intro e (λz=>nomatch z) h
 |str y=>obtain⟨t,q⟩:=(show ∃t,u=Value.str y t from rx);cases q;exact PySem.W.kia_one PySem.W.kitx_str I.aO True.intro e (λz=>nomatch z) h
 |lO y=>obtain⟨t,q⟩:=(show ∃t,u=Value.float y t from rx);cases q;exact PySem.W.kia_one PySem.W.kitx_float I.aO True.intro e (λz=>nomatch z) h
 |@lst a xs ea=>cases(show u=Value.ref a from rx);obtain⟨_,_,n,_,h1⟩:=(show yx X.prog X.w H s.heap a (.lst xs)from I.af a _ ea);exact PySem.W.kia_one PySem.W.kitx_list I.aO ⟨_,h1,rfl⟩ e (λz=>nomatch z) h
 |@aA a ob xs ea=>cases(show u=Value.ref a from rx);obtain⟨_,_,_,n,_,h1⟩:=(show yx X.prog X.w H s.heap a (.aA ob (.lst xs))from I.af a _ ea);exact PySem.W.kia_one PySem.W.kitx_list I.aO ⟨_,h1,rfl⟩ e (λz=>nomatch z) h
 |@tup a xs ea=>cases(show u=Value.ref a from rx);obtain⟨_,_,_,p⟩:=(show yx X.prog X.w H s.heap a (.tup xs)from I.af a _ ea);obtain⟨o,h1,h2,_⟩:=p;exact PySem.W.kia_one PySem.W.kitx_tuple I.aO ⟨o,h1,h2⟩ e (λz=>nomatch z) h
 |@dK a kvs ea=>cases(show u=Value.ref a from rx);obtain⟨_,_,vs,_,p⟩:=(show yx X.prog X.w H s.heap a (.dK kvs)from I.af a _ ea);obtain⟨o,es,ep,h1,h2,_⟩:=p;exact PySem.W.kia_one PySem.W.kitx_dict I.aO ⟨o,h1,h2.1⟩ e (λz=>nomatch z) h
 |@dT a kvs ea=>cases(show u=Value.ref a from rx);obtain⟨_,_,xs,_,o,es,ep,h1,h2,_⟩:=(show yx X.prog X.w H s.heap a (.dT kvs)from I.af a _ ea);exact PySem.W.kia_one PySem.W.kitx_dict I.aO ⟨o,h1,h2.1⟩ e (λz=>nomatch z) h
 |@ins a C dx fs ea cl ha hn Jy hm=>cases(show u=Value.ref a from rx);obtain⟨mA,O,_⟩:=wN I.af ea;obtain⟨od,J,_⟩:=O.look;exact PySem.W.kia_one (PySem.W.kitx_own (cl.get _) cl.hd ha hn Jy hm) I.aO J e (λz=>nomatch z) h
end
structure aT (k:Nat)(A:Around):Prop where
 hd:A.handled=none
 dp:A.depth+3*k+5<recursionLimit
 un:A.units+16*k+200<cLine
theorem aT.mono {j k:Nat}{A:Around}(r:aT k A)(h:j<=k):aT j A:=⟨r.hd,by have:=r.dp;lia,by have:=r.un;lia⟩
theorem aT.dn {j k:Nat}{A:Around}(r:aT k A)(h:autoParam (j<=k) aP2):aT j A:=r.mono h
theorem aT.deeper {k:Nat}{A:Around}(r:aT (k+1) A)(env:Env):aT k (A.deeper env):=⟨r.hd,by have:=r.dp;show A.depth+1+3*k+5<_;lia,by have:=r.un;show A.units+3+16*k+200<_;lia⟩
theorem QS {A:Around}{C:Addr}{us:List Value}{kw:List (Str×Value)}:(A.under (.builtin "type.__call__" ⟨.ref C::us,kw⟩)).depth=A.depth+1:=by first|rfl|simp[Around.under,Code.weight,Code.isCreation,Code.isGuard,Code.isCaller,Code.frames,Code.isFrame,guardIds]
theorem QT {A:Around}{C:Addr}{us:List Value}{kw:List (Str×Value)}:(A.under (.builtin "type.__call__" ⟨.ref C::us,kw⟩)).units=A.units+1:=by first|rfl|simp[Around.under,Code.cUnits,Code.frames,Code.isFrame]
theorem aT.make {k:Nat}{A:Around}(r:aT (k+1) A)(C:Addr)(us:List Value)(kw:List (Str×Value)):aT k (A.under (.builtin "type.__call__" ⟨.ref C::us,kw⟩)):=⟨r.hd,by have:=r.dp;rw[QS];lia,by have:=r.un;rw[QT];lia⟩
theorem aT.depth {k:Nat}{A:Around}(r:aT k A):A.depth<recursionLimit:=by have:=r.dp;lia
theorem aT.units {k:Nat}{A:Around}(r:aT k A):A.units+64<cLine:=by have:=r.un;lia
noncomputable def kH:TA:=λ_ H Q=>Q [] H
noncomputable def vp (ta:TE)(tr:TA):TA:=λU H Q=>ta U H λx H1=>tr U H1 λxs H2=>Q (x::xs) H2
section
variable {X:Cx}{e:Expr}{es:List Expr}{te:TE}{t:TA}{pos:Pos}
theorem jf:PA X [] kH:=λ_ _ _ _ H Q I h=>Calls.spliced_nil ⟨[],H,I,.nil,h⟩
theorem QU (ha:PE X e te)(hr:PA X es t)(hs:autoParam (starEach (e::es) X.env=(false,eval e X.env)::starEach es X.env) aP1):PA X (e::es) (vp te t):=by intro pos pins s U H Q I h;rw[hs];show wpAny _ _ (spliced ((false,eval e X.env)::backTo pos (starEach es X.env))) _ _ s;refine Calls.spliced_cons (ah (ha pins s U H _ I h) λu s1 zQ=>?_);obtain⟨x,H1,I1,r1,q1⟩:=zQ;exact ah (hr pos pins s1 U H1 _ I1 q1) λus s2 ⟨xs,H2,I2,r2,q2⟩=>⟨x::xs,H2,I2,.cons r1 r2,q2⟩
noncomputable def QV (t:TA):TE:=λU H Q=>t U H λxs H1=>xs.length<=sizeLine/\∀p,H1 p=none->Q (.ref p) (upd H1 p (.tup xs))
noncomputable def QW (t:TA):TE:=λU H Q=>t U H λxs H1=>xs.length<=sizeLine/\∀p,H1 p=none->Q (.ref p) (upd H1 p (.lst xs))
theorem gG {x1}(h:PA X es t):PE X (.Tuple es x1 pos) (QV t):=by intro pins s U H Q I hq;refine wpAny_Tuple_spliced (ah (h pos pins s U H _ I hq) λus s1 ⟨xs,H1,I1,r,z,q⟩=>⟨by rw[<-r.length];exact z,?_⟩);have hf:H1 s1.heap.objs.size=none:=I1.af.fresh (le_refl _);refine⟨.ref s1.heap.objs.size,upd H1 s1.heap.objs.size (.tup xs),I1.laid (t':=s1.toks) (λb u e=>Heap.get?_push_of_some _ e) (le_refl _) ?_,rfl,q _ hf⟩;exact⟨z,us,r,⟨_,Heap.get?_push_size _ rfl,rfl,_,rfl⟩⟩
theorem zj (h:PA X es t):PE X (.List es pos) (QW t):=by intro pins s U H Q I hq;refine wpAny_List_spliced (ah (h pos pins s U H _ I hq) λus s1 ⟨xs,H1,I1,r,z,q⟩=>⟨by rw[<-r.length];exact z,?_⟩);have hf:H1 s1.heap.objs.size=none:=I1.af.fresh (le_refl _);refine⟨.ref s1.heap.objs.size,upd H1 s1.heap.objs.size (.lst xs),I1.laid (t':=s1.toks) (λb u e=>Heap.get?_push_of_some _ e) (le_refl _) ?_,rfl,q _ hf⟩;exact⟨z,us,0,r,Heap.get?_push_size _ rfl⟩
end
noncomputable abbrev Sp:=List V->Hp->VK->XK->Prop
noncomputable abbrev eP:=List Env->Hp->Shared->XK->Value->Shared->Prop
structure nJ (P:Program)(w:World)(K:PySem.W.Frag)(mg:Str->Option Value)(base:Heap)(A:Around)(outer:List Env)(s:Shared)(H:Hp):Prop where
 frames:A.frames=some outer
 mod:Mod K mg base
 bs:∀b o,base.get? b=some o->s.heap.get? b=some o/\H b=none
 i5:base.objs.size<=s.heap.objs.size
 eL:s.heap.FunFrames base outer
 il:∀b∈bj outer,H b=none
 af:bG P w H s.heap
 bare:AllBare s.gens
noncomputable def CE (outer:List Env)(P:Program)(w:World)(H:Hp)(s:Shared)(Q:VK)(u:Value)(s':Shared):Prop:=∃v H',s'.os=s.os/\AllBare s'.gens/\Un (bj outer) [] H H' s.heap s'.heap/\bG P w H' s'.heap/\RelV v u/\Q v H'
noncomputable def CR (CX:eP)(outer:List Env)(P:Program)(w:World)(H:Hp)(s:Shared)(Q:VK)(E:XK)(r:Result)(s':Shared):Prop:=match r with
 | .ok (.ret u)=>CE outer P w H s Q u s'
 | .ok _=>False
 | .error e=>CX outer H s E e s'
structure xm (P:Program)(w:World)(K:PySem.W.Frag)(mg:Str->Option Value)(base:Heap)(CX:eP)(k:Nat)(f:Addr)(fd:FuncData)(ps:List Str)(sp:Sp):Prop where
 len:∀vs H Q E,sp vs H Q E->vs.length=ps.length
 run:∀(A:Around)(outer:List Env)(s:Shared)(H:Hp)(args:Args)(us:List Value)(vs:List V)(Q:VK)(E:XK),aT k A->nJ P w K mg base A outer s H->BindsTo s fd args (ps.zip us)->Vals vs us->sp vs H Q E->codeAny (model P w) A (.call (.ref f) args) (CR CX outer P w H s Q E) s
theorem nJ.make {P:Program}{w:World}{K:PySem.W.Frag}{mg:Str->Option Value}{base:Heap}{A:Around}{outer:List Env}{s:Shared}{H:Hp}(e:nJ P w K mg base A outer s H)(C:Addr)(us:List Value)(kw:List (Str×Value)):nJ P w K mg base (A.under (.builtin "type.__call__" ⟨.ref C::us,kw⟩)) outer s H:=⟨by first|exact e.frames|(simpa[Around.under,Code.envs,Code.isFrame,pushEnvs]using e.frames),e.mod,e.bs,e.i5,e.eL,e.il,e.af,e.bare⟩
section
variable {X:Cx}{pins:List (Addr×Obj)}{U:St}{H:Hp}{s s':Shared}
theorem Inv.pH (I:Inv X pins U H s):nJ X.prog X.w X.K X.mg X.base X.A X.stack s H:=⟨I.ok.frames,I.ok.mod,I.bs,le_trans I.ok.i5 I.sz,I.stack,I.vY,I.af,I.bare⟩
theorem Inv.after {Q:VK}{u:Value}(I:Inv X pins U H s)(h:CE X.stack X.prog X.w H s Q u s'):EP X pins U Q u s':=by obtain⟨v,H',os,bare,un,af,r,q⟩:=h;obtain⟨hh,g,d,t,QX⟩:=s';obtain rfl:QX=s.os:=os;exact⟨v,H',I.call (h':=hh) (g':=g) (d':=d) (t':=t) (ch:=[]) un af bare (λb z=>absurd z (by simp)),r,q⟩
end
noncomputable def JA (sp:Sp)(bu:List V)(E:XK)(t:TA):TE:=λU H Q=>t U H λvs H1=>sp (vs++bu) H1 Q E
noncomputable def JB (C:Addr)(m:Str)(sp:Sp)(bu:List V)(E:XK)(ta:TE)(t:TA):TE:=λU H Q=>ta U H λx H1=>∃a dx fs,x= .ref a/\H1 a=some (.ins C dx fs)/\fs.lookup m=none/\t U H1 λvs H2=>sp (x::(vs++bu)) H2 Q E
noncomputable def QY (C:Addr)(sp:Sp)(bu:List V)(E:XK)(t:TA):TE:=λU H Q=>t U H λvs H1=>∀x dx,H1 x=none->H1 dx=none->dx≠x->sp (.ref x::(vs++bu)) (upd (upd H1 dx (.own x)) x (.ins C dx [])) (λv H2=>v= .aj/\Q (.ref x) H2) E
noncomputable def Binds (K:PySem.W.Frag)(fd:FuncData)(ps:List Str)(ds:List Value):Prop:=∀(s:Shared)(us:List Value),K.In s.heap->(us++ds).length=ps.length->BindsTo s fd ⟨us,[]⟩ (ps.zip (us++ds))
theorem Binds.all {K:PySem.W.Frag}{fd:FuncData}{ps:List Str}(h:∀us:List Value,us.length=ps.length->bindArgs fd ⟨us,[]⟩=pure (ps.zip us)):Binds K fd ps []:=λs us _ hl=>by rw[append_nil]at hl⊢;exact .of_eq (h us hl)
noncomputable def Passes (CX:eP)(X:Cx)(E:XK):Prop:=∀(pins:List (Addr×Obj))(U:St)(H:Hp)(s:Shared)(e:Value)(s':Shared),Inv X pins U H s->CX X.stack H s E e s'->X.xe e s'
section
variable {X:Cx}{CX:eP}{k:Nat}{f C:Addr}{fd:FuncData}{ps:List Str}{sp:Sp}{bu:List V}{ds:List Value}{E:XK}{x m:Str}{p pos apos:Pos}{e o:Expr}{es:List Expr}{ta:TE}{t:TA}
theorem wQ {pins:List (Addr×Obj)}{U:St}{H:Hp}{s:Shared}{Q:VK}{us:List Value}{vs:List V}(F:xm X.prog X.w X.K X.mg X.base CX k f fd ps sp)(hr:aT k X.A)(hb:Binds X.K fd ps ds)(hd:Vals bu ds)(hx:Passes CX X E)(I:Inv X pins U H s)(r:Vals vs us)(h:sp (vs++bu) H Q E):wpAny (model X.prog X.w) X.A (call (.ref f) us) (EP X pins U Q) X.xe s:=by
 have r2:Vals (vs++bu) (us++ds):=r.append hd;have hl:(us++ds).length=ps.length:=by rw[<-r2.length];exact F.len _ _ _ _ h
 refine wpAny_call (codeAny_mono (F.run X.A X.stack s H ⟨us,[]⟩ (us++ds) (vs++bu) Q E hr I.pH (hb s us I.aO hl) r2 h) λr s' hq=>?_);cases r with
 |error e=>exact hx pins U H s e s' I hq
 |ok fl=>
  cases fl with
  |ret u=>exact I.after hq
  |next=>exact False.elim hq
  |brk=>exact False.elim hq
  |cont=>exact False.elim hq
theorem jo (F:xm X.prog X.w X.K X.mg X.base CX k f fd ps sp)(hr:aT k X.A)(hg:Gl X x)(hm:X.mg x=some (.ref f))(hk:PySem.W.keepIn X.K (.ref f)=true)(hb:Binds X.K fd ps ds)(hd:Vals bu ds)(hx:Passes CX X E)(ha:PA X (e::es) t)(cD:autoParam ((x==("__debug__":Str))=false) aP2)(he:autoParam (starEach (e::es) X.env=(false,eval e X.env)::starEach es X.env) aP1)(cg:autoParam ((backTo pos (starEach es X.env)).any (·.1)=false) aP1):
  PE X (.Call (.Name x p) (e::es) [] pos) (JA sp bu E t):=by
 intro pins s U H Q I h;refine wpAny_Call_Name_kw (lR I hg hm ?_ cD);refine PySem.W.callWith_K (h₀:=X.base) I.ok.mod.dQ hk (ah (ha pos pins s U H _ I h) λus s1 ⟨vs,H1,I1,r,q⟩=>⟨I1.aO,?_⟩) he cg;exact wQ F hr hb hd hx I1 r q
theorem j5 {pl:Sem Bool}(he:PE X o ta)(c:dX X.K C)(hm:Meth X.K C m f)(F:xm X.prog X.w X.K X.mg X.base CX k f fd ps sp)(hr:aT k X.A)(hb:Binds X.K fd ps ds)(hd:Vals bu ds)(hx:Passes CX X E)(ha:PA X (e::es) t)(gT:autoParam (starEach (e::es) X.env=(false,eval e X.env)::starEach es X.env) aP1)(cg:autoParam ((backTo pos (starEach es X.env)).any (·.1)=false) aP1)(ht:autoParam (eval (.Call (.Attribute o m apos) (e::es) [] pos) X.env=(do
   let ov<-eval o X.env
   standAt apos.atName
   let(f,first)<-holding [ov] (getMethod ov m pl)
   callWith pos f first (backTo pos (starEach (e :: es) X.env)) (backToKw pos (keywordEach [] X.env)))) aP1) :
  PE X (.Call (.Attribute o m apos) (e::es) [] pos) (JB C m sp bu E ta t):=by
 intro pins s U H Q I h;refine PySem.W.methodCall_KW (pl:=pl) (ah (he pins s U H _ I h) λu s1 zQ=>?_) ht;obtain⟨x,H1,I1,rx,a,dx,fs,ex,ea,l,q⟩:=zQ;subst ex;obtain rfl:u=Value.ref a:=rx;refine wO I1 ea c hm l ?_;refine PySem.W.callWith_K (first:=[.ref a]) (h₀:=X.base) I.ok.mod.dQ hm.kp (ah (ha pos pins s1 U H1 _ I1 q) λus s2 ⟨vs,H2,I2,r,q2⟩=>⟨I2.aO,?_⟩) gT cg;exact wQ (us:=.ref a::us) (vs:=.ref a::vs) F hr hb hd hx I2 (.cons rfl r) q2
theorem yq {pl:Sem Bool}(he:PE X o ta)(c:dX X.K C)(hm:Meth X.K C m f)(F:xm X.prog X.w X.K X.mg X.base CX k f fd ps sp)(hr:aT k X.A)(hb:Binds X.K fd ps ds)(hd:Vals bu ds)(hx:Passes CX X E)(ht:autoParam (eval (.Call (.Attribute o m apos) [] [] pos) X.env=(do
   let ov<-eval o X.env
   standAt apos.atName
   let(f,first)<-holding [ov] (getMethod ov m pl)
   callWith pos f first (backTo pos (starEach [] X.env)) (backToKw pos (keywordEach [] X.env)))) aP1) :
  PE X (.Call (.Attribute o m apos) [] [] pos) (JB C m sp bu E ta kH):=by
 intro pins s U H Q I h;refine PySem.W.methodCall_KW (pl:=pl) (ah (he pins s U H _ I h) λu s1 zQ=>?_) ht;obtain⟨x,H1,I1,rx,a,dx,fs,ex,ea,l,q⟩:=zQ;subst ex;obtain rfl:u=Value.ref a:=rx;refine wO I1 ea c hm l ?_;exact PySem.W.callWith_K0 (first:=[.ref a]) I1.aO hm.kp (wQ (us:=[.ref a]) (vs:=[.ref a]) F hr hb hd hx I1 (.cons rfl .nil) q)
structure Mk (K:PySem.W.Frag)(C f:Addr):Prop where
 makes:PySem.W.makesIn K C=true
 init:PySem.W.findIn K (.ref C) "__init__"=some (some (.ref f))
 fn:PySem.W.isFn K (.ref f)=true
 kp:PySem.W.keepIn K (.ref C)=true
theorem QZ {pins:List (Addr×Obj)}{U:St}{H:Hp}{s:Shared}{Q:VK}{us:List Value}{vs:List V}(M:Mk X.K C f)(F:xm X.prog X.w X.K X.mg X.base CX k f fd ps sp)(hr:aT (k+1) X.A)(hb:Binds X.K fd ps ds)(hd:Vals bu ds)(hx:Passes CX X E)(I:Inv X pins U H s)(r:Vals vs us)(h:∀x dx,H x=none->H dx=none->dx≠x->sp (.ref x::(vs++bu)) (upd (upd H dx (.own x)) x (.ins C dx [])) (λv H2=>v= .aj/\Q (.ref x) H2) E):
  wpAny (model X.prog X.w) X.A (call (.ref C) us) (EP X pins U Q) X.xe s:=by
 have hq:=h (s.heap.objs.size+1) s.heap.objs.size (I.af.fresh (le_succ _)) (I.af.fresh (le_refl _)) (ne_of_lt (lt_succ_self _));have I2:=Inv.made (C:=C) I;have r2:Vals (V.ref (s.heap.objs.size+1)::(vs++bu)) (Value.ref (s.heap.objs.size+1)::(us++ds)):=.cons rfl (r.append hd);have hl:(Value.ref (s.heap.objs.size+1)::us++ds).length=ps.length:=by have e:=r2.length;rw[F.len _ _ _ _ hq]at e;exact e.symm
 refine wpAny_call (Jv (f:=f) I.aO M.makes M.init (beq_iff_eq.mp M.fn) (codeAny_mono (F.run _ X.stack _ _ ⟨Value.ref (s.heap.objs.size+1)::us,[]⟩ (Value.ref (s.heap.objs.size+1)::(us++ds)) _ _ E (hr.make C us []) (I2.pH.make C us []) (hb _ (Value.ref (s.heap.objs.size+1)::us) I2.aO hl) r2 hq) λr s' dv=>?_));cases r with
 |error e=>exact hx pins U _ _ e s' I2 dv
 |ok fl=>
  cases fl with
  |ret u=>obtain⟨v,H',I3,rv,ev,q3⟩:=I2.after dv;subst ev;exact⟨rv,⟨V.ref (s.heap.objs.size+1),H',I3,rfl,q3⟩⟩
  |next=>exact False.elim dv
  |brk=>exact False.elim dv
  |cont=>exact False.elim dv
theorem JC (M:Mk X.K C f)(F:xm X.prog X.w X.K X.mg X.base CX k f fd ps sp)(hr:aT (k+1) X.A)(hg:Gl X x)(hm:X.mg x=some (.ref C))(hb:Binds X.K fd ps ds)(hd:Vals bu ds)(hx:Passes CX X E)(ha:PA X (e::es) t)(cD:autoParam ((x==("__debug__":Str))=false) aP2)(he:autoParam (starEach (e::es) X.env=(false,eval e X.env)::starEach es X.env) aP1)(cg:autoParam ((backTo pos (starEach es X.env)).any (·.1)=false) aP1):
  PE X (.Call (.Name x p) (e::es) [] pos) (QY C sp bu E t):=by
 intro pins s U H Q I h;refine wpAny_Call_Name_kw (lR I hg hm ?_ cD);refine PySem.W.callWith_K (h₀:=X.base) I.ok.mod.dQ M.kp (ah (ha pos pins s U H _ I h) λus s1 ⟨vs,H1,I1,r,q⟩=>⟨I1.aO,?_⟩) he cg;exact QZ M F hr hb hd hx I1 r q
end
noncomputable def PK (X:Cx)(eQ:List Keyword)(t:TA):Prop:=∀(pos:Pos)(pins:List (Addr×Obj))(s:Shared)(U:St)(H:Hp)(Q:List V->Hp->Prop),Inv X pins U H s->t U H Q->wpAny (model X.prog X.w) X.A (evalAll ((backToKw pos (keywordEach eQ X.env)).map (·.2))) (AP X pins U Q) X.xe s
section
variable {X:Cx}{CX:eP}{k:Nat}{f C:Addr}{fd:FuncData}{ps ks:List Str}{sp:Sp}{E:XK}{x m:Str}{p pos apos BW:Pos}{e o:Expr}{es:List Expr}{eQ:List Keyword}{te ta:TE}{t tk:TA}{nm:Option Str}
theorem gH:PK X [] kH:=λ_ _ _ _ H Q I h=>wpAny_evalAll_nil ⟨[],H,I,.nil,h⟩
theorem yn (ha:PE X e te)(hr:PK X eQ t):PK X (⟨nm,e,BW⟩::eQ) (vp te t):=by intro pos pins s U H Q I h;show wpAny _ _ (evalAll ((do let v<-eval e X.env;standAt pos;pure v)::(backToKw pos (keywordEach eQ X.env)).map (·.2))) _ _ s;refine wpAny_evalAll_cons (wpAny_bind (ah (ha pins s U H _ I h) λu s1 ⟨x,H1,I1,r1,q1⟩=>wpAny_bind (wpAny_standAt (wpAny_pure ?_))));exact ah (hr pos pins s1 U H1 _ I1 q1) λus s2 ⟨xs,H2,I2,r2,q2⟩=>⟨x::xs,H2,I2,.cons r1 r2,q2⟩
structure fM (K:PySem.W.Frag)(fd:FuncData)(ps ks:List Str)(g:List Value->List Value->List Value)(gV:List V->List V->List V):Prop where
 to:∀(s:Shared)(us ws:List Value),K.In s.heap->(g us ws).length=ps.length->BindsTo s fd ⟨us,ks.zip ws⟩ (ps.zip (g us ws))
 rel:∀{vs:List V}{us:List Value}{zs:List V}{ws:List Value},Vals vs us->Vals zs ws->Vals (gV vs zs) (g us ws)
noncomputable def Q0 (sp:Sp)(gV:List V->List V->List V)(E:XK)(t tk:TA):TE:=λU H Q=>t U H λvs H1=>tk U H1 λzs H2=>sp (gV vs zs) H2 Q E
variable {g:List Value->List Value->List Value}{gV:List V->List V->List V}
theorem Q1 {pins:List (Addr×Obj)}{U:St}{H:Hp}{s:Shared}{Q:VK}{us ws:List Value}{vs zs:List V}(F:xm X.prog X.w X.K X.mg X.base CX k f fd ps sp)(hr:aT k X.A)(hb:fM X.K fd ps ks g gV)(hx:Passes CX X E)(I:Inv X pins U H s)(r:Vals vs us)(rz:Vals zs ws)(h:sp (gV vs zs) H Q E):wpAny (model X.prog X.w) X.A (call (.ref f) us (ks.zip ws)) (EP X pins U Q) X.xe s:=by
 have r2:=hb.rel r rz;have hl:(g us ws).length=ps.length:=by rw[<-r2.length];exact F.len _ _ _ _ h
 refine wpAny_call (codeAny_mono (F.run X.A X.stack s H ⟨us,ks.zip ws⟩ (g us ws) (gV vs zs) Q E hr I.pH (hb.to s us ws I.aO hl) r2 h) λr s' hq=>?_);cases r with
 |error e=>exact hx pins U H s e s' I hq
 |ok fl=>
  cases fl with
  |ret u=>exact I.after hq
  |next=>exact False.elim hq
  |brk=>exact False.elim hq
  |cont=>exact False.elim hq
theorem gu (F:xm X.prog X.w X.K X.mg X.base CX k f fd ps sp)(hr:aT k X.A)(hg:Gl X x)(hm:X.mg x=some (.ref f))(hk:PySem.W.keepIn X.K (.ref f)=true)(hb:fM X.K fd ps ks g gV)(hx:Passes CX X E)(ha:PA X (e::es) t)(rF:PK X eQ tk)(eY:autoParam ((backToKw pos (keywordEach eQ X.env)).all (·.1.isSome)=true) aP1)(BX:autoParam ((backToKw pos (keywordEach eQ X.env)).filterMap (·.1)=ks) aP1)(cD:autoParam ((x==("__debug__":Str))=false) aP2)(he:autoParam (starEach (e::es) X.env=(false,eval e X.env)::starEach es X.env) aP1)(cg:autoParam (((backTo pos (starEach (e::es) X.env)).any (·.1)||(backToKw pos (keywordEach eQ X.env)).any (·.1.isNone))=false) aP1):
  PE X (.Call (.Name x p) (e::es) eQ pos) (Q0 sp gV E t tk):=by
 intro pins s U H Q I h;refine wpAny_Call_Name_kw (lR I hg hm ?_ cD);refine PySem.W.callWith_KW (h₀:=X.base) I.ok.mod.dQ hk eY (ah (ha pos pins s U H _ I h) λus s1 zQ=>?_) cg he;obtain⟨vs,H1,I1,r,q⟩:=zQ;refine ah (rF pos pins s1 U H1 _ I1 q) λws s2 ⟨zs,H2,I2,rz,q2⟩=>⟨I2.aO,?_⟩;rw[BX];exact Q1 F hr hb hx I2 r rz q2
end
structure qi (N P:List Str)(sc:Scope):Prop where
 kind:sc.kind= .function
 co:sc.isCoroutine=false
 gen:sc.isGenerator=false
 nd:N.Nodup
 pre:N.take P.length=P
 par:∀x∈P,sc.names.lookup x=some .local\/sc.names.lookup x=some .cell
 Q2:∀y∈sc.names,y.2≠.free
theorem bT {N P:List Str}{sc:Scope}(a:autoParam (sc.kind= .function) aP1)(b:autoParam (sc.isCoroutine=false) aP1)(c:autoParam (sc.isGenerator=false) aP1)(d:autoParam (N.Nodup) aP4)(e:autoParam (N.take P.length=P) aP1)(f:autoParam (∀x∈P,sc.names.lookup x=some .local\/sc.names.lookup x=some .cell) aP4)(g:autoParam (∀y∈sc.names,y.2≠.free) aP4):qi N P sc:=⟨a,b,c,d,e,f,g⟩
theorem JD {kindOf:Str->Option NameKind}{x:Str}:∀{binds:List (Str×Value)}{m:Str->Option Value},(∀v,(x,v)∉binds)->bindL kindOf binds m x=m x
 |[],_,_=>rfl
 | (n,v)::r,m,h=>by
  unfold bindL;rw[JD λw hw=>h w (mem_cons_of_mem _ hw)];split
  .have:x≠n:=by rintro rfl;exact h v mem_cons_self
   simp[this]
  .rfl
theorem JE {kindOf:Str->Option NameKind}{x:Str}:∀{binds:List (Str×Value)}{m:Str->Option Value},(∀v,(x,v)∉binds)->bindC kindOf binds m x=m x
 |[],_,_=>rfl
 | (n,v)::r,m,h=>by
  unfold bindC;rw[JE λw hw=>h w (mem_cons_of_mem _ hw)];split
  .rfl
  .have:x≠n:=by rintro rfl;exact h v mem_cons_self
   simp[this]
theorem JF {kindOf:Str->Option NameKind}{x:Str}{v:Value}:∀{P:List Str}{vs:List Value}{i:Nat}{m:Str->Option Value},P.Nodup->P[i]?=some x->vs[i]?=some v->kindOf x=some .local->bindL kindOf (P.zip vs) m x=some v
 |[],_,_,_,_,h,_,_=>by simp at h
 |_::_,[],_,_,_,_,h,_=>by simp at h
 |p::P,w::vs,0,m,nd,h1,h2,hk=>by simp at h1 h2;subst h1;subst h2;show bindL kindOf ((p,w)::P.zip vs) m p=_;unfold bindL;rw[JD λv hv=>(nodup_cons.mp nd).1 (List.of_mem_zip hv).1,if_pos hk];simp
 |p::P,w::vs,i+1,m,nd,h1,h2,hk=>by show bindL kindOf ((p,w)::P.zip vs) m x=_;unfold bindL;exact JF (i:=i) (nodup_cons.mp nd).2 (by simpa using h1) (by simpa using h2) hk
theorem JG {kindOf:Str->Option NameKind}{x:Str}{v:Value}:∀{P:List Str}{vs:List Value}{i:Nat}{m:Str->Option Value},P.Nodup->P[i]?=some x->vs[i]?=some v->kindOf x≠some .local->bindC kindOf (P.zip vs) m x=some v
 |[],_,_,_,_,h,_,_=>by simp at h
 |_::_,[],_,_,_,_,h,_=>by simp at h
 |p::P,w::vs,0,m,nd,h1,h2,hk=>by simp at h1 h2;subst h1;subst h2;show bindC kindOf ((p,w)::P.zip vs) m p=_;unfold bindC;rw[JE λv hv=>(nodup_cons.mp nd).1 (List.of_mem_zip hv).1,if_neg hk];simp
 |p::P,w::vs,i+1,m,nd,h1,h2,hk=>by show bindC kindOf ((p,w)::P.zip vs) m x=_;unfold bindC;exact JG (i:=i) (nodup_cons.mp nd).2 (by simpa using h1) (by simpa using h2) hk
noncomputable def start (N:List Str)(vs:List V):St:=vs.map some++List.replicate (N.length-vs.length) none
noncomputable def cR (CX:eP)(P:Program)(w:World)(K:PySem.W.Frag)(mg:Str->Option Value)(base:Heap)(N:List Str)(qual:Str)(scope:Scope)(f:Addr)(cd:Value)(A:Around)(outer:List Env)(s:Shared)(H:Hp)(E:XK):Cx where
 prog:=P
 w:=w
 K:=K
 mg:=mg
 base:=base
 A:=A.deeper (envOfC qual scope s.heap.objs.size f cd)
 N:=N
 ar:=s
 bz:=H
 env:=envOfC qual scope s.heap.objs.size f cd
 outer:=outer
 stack:=envOfC qual scope s.heap.objs.size f cd::outer
 ex:=[]
 calm:=true
 fn:=λ_=>true
 pn:=[]
 xe:=λe s'=>wpAny (model P w) (A.deeper (envOfC qual scope s.heap.objs.size f cd)) (leaving (envOfC qual scope s.heap.objs.size f cd) e) (λ_ bP=>CX outer H s E e bP) (λe' bP=>CX outer H s E e' bP) s'
theorem JH {sc:Scope}{n:Nat}{x:Str}(h:sc.names.lookup x=some .cell):∃c,(cellsFrom n sc.names []).lookup x=some c:=by have q:=PySem.W.cellsFrom_some sc.names n [] (.inl h);exact Option.isSome_iff_exists.mp q
theorem Q3 {CX:eP}{P:Program}{w:World}{K:PySem.W.Frag}{mg:Str->Option Value}{base:Heap}{N ps:List Str}{qual:Str}{scope:Scope}{f:Addr}{cd:Value}{A:Around}{outer:List Env}{s s1:Shared}{H:Hp}{E:XK}{us:List Value}{vs:List V}(S:qi N ps scope)(hd:A.handled=none)(e0:nJ P w K mg base A outer s H)(hl:vs.length=ps.length)(r:Vals vs us)(x:InCallC s s.heap.objs.size (bindL (envOfC qual scope s.heap.objs.size f cd).kindOf (ps.zip us) λ_=>none) (cellsFrom (s.heap.objs.size+1) scope.names []) (bindC (envOfC qual scope s.heap.objs.size f cd).kindOf (ps.zip us) λ_=>none) s1):
  Inv (cR CX P w K mg base N qual scope f cd A outer s H E) [] (start N vs) H s1:=by
 have cg:ps.length<=N.length:=by have:=congrArg List.length S.pre;rw[length_take]at this;lia
 obtain⟨h1,tk,rfl,hk⟩:=x.done;have rG:∀b:Addr,b∉(cR CX P w K mg base N qual scope f cd A outer s H E).ex:=λb z=>absurd (show b∈([]:List Addr)from z) (by simp);refine⟨⟨e0.mod,S.kind,rfl,rfl,le_refl _,λy z c h1 h2=>?_,λy hy=>?_,λy c _ h=>?_,λ_=>hd,Around.frames_deeper e0.frames,.inr ⟨rfl,rfl⟩,λb z=>absurd z (rG b),e0.bs,e0.i5,λb _ _=>rG b,λb z=>absurd z (rG b),e0.eL,e0.il⟩,rfl,e0.bare,Un.kept hk,⟨_,x.toInCall.ns,λi y v h1 h2 h3=>?_⟩,λy c h=>⟨_,x.cell y c h⟩,e0.af.fresh (le_refl _),λy c h=>?_,λp hp=>absurd (show p∈([]:List (Addr×Obj))from hp) (by simp),e0.af.kept hk,?_⟩
 .exact name_of_addr x.apart (PySem.mem_of_lookup h1) (PySem.mem_of_lookup h2)
 .have hy:scope.names.lookup y=some .cell\/scope.names.lookup y=some .free:=hy;rcases hy with hy|hy
  .exact JH hy
  .exact absurd rfl (S.Q2 _ (PySem.mem_of_lookup hy))
 .exact le_of_lt (x.above y c (PySem.mem_of_lookup h))
 .have hi:i<vs.length:=by
   unfold start at h2;by_cases hi:i<vs.length
   .exact hi
   .rw[List.getElem?_append_right (by simpa using hi)]at h2;rw[List.getElem?_replicate]at h2;split at h2<;>cases h2
  have ha:vs[i]?=some v:=by
   unfold start at h2;rw[List.getElem?_append_left (by simpa using hi),getElem?_map]at h2;cases e:vs[i]? with
   |none=>rw[e]at h2;cases h2
   |some a=>rw[e]at h2;cases h2;rfl
  obtain⟨u,hu,rv⟩:=r.get ha;have hp:ps[i]?=some y:=by rw[<-S.pre,List.getElem?_take_of_lt (by lia)];exact h1
  have JI:ps.Nodup:=by rw[<-S.pre];exact S.nd.sublist (List.take_sublist _ _)
  refine⟨u,rv,?_⟩;rcases S.par y (mem_of_getElem? hp)with k|k
  .exact .inl ⟨k,JF JI hp hu k⟩
  .obtain⟨c,e⟩:=JH (n:=s.heap.objs.size+1) k;refine .inr ⟨.inl k,c,e,?_⟩;have q:=x.cell y c e;rw[JG JI hp hu (by show scope.names.lookup y≠_;rw[k];decide)]at q;exact q
 .exact e0.af.fresh (le_of_lt (x.above y c (PySem.mem_of_lookup h)))
 .unfold start;show _=N.length;rw[length_append,length_map,length_replicate];lia
theorem JJ {CX:eP}{P:Program}{w:World}{K:PySem.W.Frag}{mg:Str->Option Value}{base:Heap}{k:Nat}{f:Addr}{name qual:Str}{params:Arguments}{body:List Stmt}{scope:Scope}{dV kV doc pm aB ct oc:Value}{an od:Option Addr}{jB:Array (Option Value)}{N ps:List Str}{sp:Sp}(lk:K.lookup f=some ⟨oc,od,.func (PySem.W.fnOf name qual params body scope dV kV doc pm an aB ct),jB⟩)(dR:PySem.W.codeIn K aB qual=true)(S:qi N ps scope)(len:∀vs H Q E,sp vs H Q E->vs.length=ps.length)(aW:∀(A:Around)(outer:List Env)(s:Shared)(H:Hp)(vs:List V)(Q:VK)(E:XK),aT k (A.deeper (envOfC qual scope s.heap.objs.size f aB))->sp vs H Q E->∃t,cL (cR CX P w K mg base N qual scope f aB A outer s H E) body t/\t {nx:=λ_ H'=>Q .aj H',rt:=Q} (start N vs) H):
  xm P w K mg base CX (k+1) f (PySem.W.fnOf name qual params body scope dV kV doc pm an aB ct) ps sp:=by
 refine⟨len,λA outer s H args us vs Q E hr e0 hb r gW=>?_⟩;have hl:=len _ _ _ _ gW;have KX:K.In s.heap:=e0.mod.dQ.keeps λb o e=>(e0.bs b o e).1;have lim:s.heap.NoLimit:=e0.mod.nolimit.keeps λb o e=>(e0.bs b o e).1;have rH:∀y∈ps.zip us,scope.names.lookup y.1=some .local\/(scope.names.lookup y.1=some .cell/\((cellsFrom (s.heap.objs.size+1) scope.names []).lookup y.1).isSome=true):=λ⟨n,v⟩ hy=>by
  rcases S.par n (List.of_mem_zip hy).1 with q|q
  .exact .inl q
  .exact .inr ⟨q,PySem.W.cellsFrom_some _ _ _ (.inl q)⟩
 refine codeAny_call_function hr.depth (KX _ _ lk) rfl S.co S.gen rfl (PySem.W.codeRec_of KX dR) (hb _ _ _ _ ?_);refine wpAny_newFunctionEnv_cells S.kind rH λenv he s1 x=>?_;subst he;refine⟨lim.keeps x.toInCall.keep,codeAny_func ?_⟩;obtain⟨t,ht,hq⟩:=aW A outer s H vs Q E (hr.deeper _) gW;have I:Inv (cR CX P w K mg base N qual scope f aB A outer s H E) [] (start N vs) H s1:=Q3 S hr.hd e0 hl r x;refine wpAny_mono (ht [] s1 (start N vs) H _ I hq) (λfl s' hs=>?_) λe s' hs=>hs;have fin:∀{U':St}{H':Hp}{v:V}{u:Value},Inv (cR CX P w K mg base N qual scope f aB A outer s H E) [] U' H' s'->RelV v u->Q v H'->CE outer P w H s Q u s':=λ{U' H' v u} J rv q=>⟨v,H',J.os,J.bare,J.base,J.af,rv,q⟩;cases fl with
 |ret u=>obtain⟨v,U',H',J,rv,q⟩:=hs;exact fin J rv q
 |next=>obtain⟨U',H',J,q⟩:=hs;exact fin (v:=V.aj) (u:=Value.none) J rfl q
 |brk=>obtain⟨_,_,_,q⟩:=hs;exact False.elim q
 |cont=>obtain⟨_,_,_,q⟩:=hs;exact False.elim q
section
variable {X:Cx}{x:Str}{p pos:Pos}{e:Expr}{es:List Expr}{t:TA}{id T:String}{r:List V->Hp->VK->Prop}
noncomputable def JK (r:List V->Hp->VK->Prop)(t:TA):TE:=λU H Q=>t U H λvs H1=>r vs H1 Q
theorem jm (hc:dW X (.builtin id) r)(hg:Gl X x)(hm:X.mg x=none)(hv:bootBuiltins x=some (.builtin id))(ha:PA X (e::es) t)(hn:autoParam (x≠"__name__") aP2)(cD:autoParam ((x==("__debug__":Str))=false) aP2)(he:autoParam (starEach (e::es) X.env=(false,eval e X.env)::starEach es X.env) aP1)(cg:autoParam ((backTo pos (starEach es X.env)).any (·.1)=false) aP1):PE X (.Call (.Name x p) (e::es) [] pos) (JK r t):=by
 intro pins s U H Q I h;refine wpAny_Call_Name_kw (wC I hg hm hv ?_ hn cD);exact PyProof.Rows.callWith_builtin1 (ah (ha pos pins s U H _ I h) λus s1 ⟨vs,H1,I1,r1,q1⟩=>hc pins s1 U H1 vs us Q I1 r1 q1) he cg
theorem uz (hc:dW X (.type T) r)(hg:Gl X x)(hm:X.mg x=none)(hv:bootBuiltins x=some (.type T))(ha:PA X (e::es) t)(hn:autoParam (x≠"__name__") aP2)(cD:autoParam ((x==("__debug__":Str))=false) aP2)(he:autoParam (starEach (e::es) X.env=(false,eval e X.env)::starEach es X.env) aP1)(cg:autoParam ((backTo pos (starEach es X.env)).any (·.1)=false) aP1):PE X (.Call (.Name x p) (e::es) [] pos) (JK r t):=by
 intro pins s U H Q I h;refine wpAny_Call_Name_kw (wC I hg hm hv ?_ hn cD);exact PyProof.Rows.callWith_type1 (ah (ha pos pins s U H _ I h) λus s1 ⟨vs,H1,I1,r1,q1⟩=>hc pins s1 U H1 vs us Q I1 r1 q1) he cg
end
end L2
namespace HT
open PySem PyProof.Rows
noncomputable def lexLt:List Int->List Int->Bool
 |[],[]=>false
 |[],_::_=>true
 |_::_,[]=>false
 |x::xs,y::ys=>if x=y then lexLt xs ys else decide (x<y)
theorem wR (x y:Int)(xs ys:List Int):lexLt (x::xs) (y::ys)=if x=y then lexLt xs ys else decide (x<y):=rfl
section
variable {prog:Program}{w:World}{A:Around}{E:Value->Shared->Prop}{s:Shared}
noncomputable def aV (n d:Nat):Option Int->Nat
 |none=>d
 |some v=>if v<0 then(v+(n:Int)).toNat else min v.toNat n
theorem Q4 (n d:Nat)(hd:d<=n)(o:Option Int):aV n d o<=n:=by
 cases o with
 |none=>exact hd
 |some v=>
  show(if v<0 then(v+(n:Int)).toNat else min v.toNat n)<=n;by_cases hv:v<0
  .rw[if_pos hv];lia
  .rw[if_neg hv];exact Nat.min_le_right _ _
theorem JL (v:Int)(n d:Nat):(if v<0 then max (v+(n:Int)) 0 else min v (n:Int))=((aV n d (some v):Nat):Int):=by
 show(if v<0 then max (v+(n:Int)) 0 else min v (n:Int))=(((if v<0 then(v+(n:Int)).toNat else min v.toNat n):Nat):Int);by_cases hv:v<0
 .simp only[if_pos hv];lia
 .simp only[if_neg hv];lia
theorem Q5 (lo hi:Option Int)(n:Nat):Builtin.Slice.sliceAdjust lo hi 1 (n:Int)=(((aV n 0 lo:Nat):Int),((aV n n hi:Nat):Int)):=by
 have h1:¬((1:Int)<0):=by lia
 unfold Builtin.Slice.sliceAdjust;simp only[h1,if_false];refine Prod.ext ?_ ?_
 .cases lo with
  |none=>rfl
  |some v=>exact JL v n 0
 .cases hi with
  |none=>rfl
  |some v=>exact JL v n n
theorem Q6 (i j:Nat):Builtin.Slice.slicePlaces (i:Int) (j:Int) 1=j-i:=by
 unfold Builtin.Slice.slicePlaces;have h1:(1:Int)>0:=by lia
 simp only[h1,if_true,Int.ediv_one];split<;>lia
theorem JM {v:Value}{o:Option Int}{Q:Option Int->Shared->Prop}(p:IsPart v o)(h:Q o s):wpAny (model prog w) A (Builtin.Slice.slicePartIndex v) Q E s:=by
 cases p with
 |none=>exact slicePart_none h
 |int i t=>exact slicePart_int h
theorem Q7 {sl:Addr}{vl vu:Value}{lo hi:Option Int}{n:Nat}{Q:Int×Int×Nat->Shared->Prop}(hs:s.heap.IsSliceOf sl vl vu .none)(pl:IsPart vl lo)(pu:IsPart vu hi)(h:Q (((aV n 0 lo:Nat):Int),1,aV n n hi-aV n 0 lo) s):wpAny (model prog w) A (Builtin.Slice.sliceApplied (.ref sl) (pure (n:Int))) Q E s:=by
 obtain⟨os,fb,JN,wU⟩:=id hs;unfold Builtin.Slice.sliceApplied Builtin.Slice.sliceFields;refine wpAny_bind (wpAny_bind (wpAny_field fb wU (x:=vl) rfl (wpAny_bind (wpAny_field fb wU (x:=vu) rfl (wpAny_bind (wpAny_field fb wU (x:=.none) rfl (wpAny_pure ?_)))))));refine wpAny_bind (slicePart_none ?_);show wpAny _ _ (if((1:Int)==0)=true then _ else _) _ _ s;rw[if_neg (by decide)];refine wpAny_bind (JM pl (wpAny_bind (JM pu (wpAny_bind (wpAny_pure ?_)))));show wpAny _ _ (match Builtin.Slice.sliceAdjust lo hi 1 (n:Int)with|(lo,hi)=>pure (lo,(1:Int),Builtin.Slice.slicePlaces lo hi 1)) _ _ s;rw[Q5 lo hi n];show wpAny _ _ (pure (((aV n 0 lo:Nat):Int),(1:Int),Builtin.Slice.slicePlaces ((aV n 0 lo:Nat):Int) ((aV n n hi:Nat):Int) 1)) _ _ s;rw[Q6];exact wpAny_pure h
theorem Q8 (xs:Array Value)(i k:Nat):((List.range k).filterMap λ(m:Nat)=>xs[((i:Int)+(m:Int)*1).toNat]?).toArray=((xs.toList.drop i).take k).toArray:=by
 have e:(λ(m:Nat)=>xs[((i:Int)+(m:Int)*1).toNat]?)=λm=>xs[i+m]?:=by
  funext m;have:((i:Int)+(m:Int)*1).toNat=i+m:=by lia
  rw[this]
 rw[e];have:=pick_run xs i k;rw[List.filterMap_map]at this;have e2:((λx=>xs[x]?)∘λx=>i+x)=λm=>xs[i+m]?:=rfl;rw[e2]at this;rw[this]
theorem Q9 {t sl:Addr}{items:Array Value}{vl vu:Value}{lo hi:Option Int}{Q:Value->Shared->Prop}(ht:IsTup s.heap t items)(hs:s.heap.IsSliceOf sl vl vu .none)(pl:IsPart vl lo)(pu:IsPart vu hi)(hw:¬(aV items.size 0 lo=0/\aV items.size items.size hi=items.size))(h:Q (.ref s.heap.objs.size) {s with heap:=s.heap.push {cls:=.type "tuple",data:=.seq ((items.toList.drop (aV items.size 0 lo)).take (aV items.size items.size hi-aV items.size 0 lo)).toArray}})(hsz:items.size<=sizeLine):wpAny (model prog w) A (getItem (.ref t) (.ref sl)) Q E s:=by
 have fN:sizeOk (.seq ((items.toList.drop (aV items.size 0 lo)).take (aV items.size items.size hi-aV items.size 0 lo)).toArray):=by show((items.toList.drop (aV items.size 0 lo)).take (aV items.size items.size hi-aV items.size 0 lo)).toArray.size<=sizeLine;rw[size_toArray,length_take,List.length_drop,Array.length_toList];lia
 have hj:aV items.size items.size hi<=items.size:=Q4 _ _ (le_refl _) hi;obtain⟨os,fb,JN,wU⟩:=id hs;have Ra:s.TypeIs (.ref sl) "slice":=⟨os,fb,JN⟩;unfold getItem;try with_reducible refine wpAny_holding ?_
 first|refine wpAny_bind (wpAny_pure ?_)|skip
 refine wpAny_bind (wpAny_sequenceKey ht.typeIs (by decide) ?_);refine wpAny_bind (wpAny_callSpecial?_slot (name:=Str.ofString "__getitem__") ht.typeIs PyProof.Rows.slot_tuple_getitem (wpAny_call_entry PyProof.Rows.slot_tuple_getitem ht.typeIs entry_tuple_getitem ?_ (args_tuple_getitem _ _)));show wpAny _ _ (Builtin.Tuple.tupleItemsOf (.ref t) >>= _) _ _ s;refine wpAny_bind (tupleItemsOf_ ht ?_);refine wpAny_bind (wpAny_typeOf Ra ?_);rw[if_pos (by decide)];refine wpAny_bind (Q7 hs pl pu ?_);have kI:¬((((aV items.size 0 lo:Nat):Int)==0&&(1:Int)==1&&(aV items.size items.size hi-aV items.size 0 lo)==items.size)=true):=by
  intro q;rw[Bool.and_eq_true,Bool.and_eq_true]at q;have q1:((aV items.size 0 lo:Nat):Int)=0:=eq_of_beq q.1.1;have q2:aV items.size items.size hi-aV items.size 0 lo=items.size:=eq_of_beq q.2;exact hw ⟨by lia,by lia⟩
 show wpAny _ _ (if(((aV items.size 0 lo:Nat):Int)==0&&(1:Int)==1&&(aV items.size items.size hi-aV items.size 0 lo)==items.size)=true then _ else _) _ _ s;rw[if_neg kI,Q8];first
  |exact wpAny_bind (m:=Builtin.Tuple.tupleExact _) (wpAny_newObj_type (wpAny_pure ⟨_,rfl,wpAny_pure h⟩) fN)
  |exact wpAny_bind (m:=Builtin.Tuple.tupleExact _) (wpAny_newObj_type (wpAny_bind (wpAny_pure (wpAny_pure ⟨_,rfl,wpAny_pure h⟩))) fN)
  |exact wpAny_bind (wpAny_bind (m:=Builtin.Tuple.tupleExact _) (wpAny_newObj_type (wpAny_pure (wpAny_pure ⟨_,rfl,wpAny_pure h⟩)) fN))
  |exact wpAny_bind (wpAny_bind (m:=Builtin.Tuple.tupleExact _) (wpAny_newObj_type (wpAny_pure ⟨_,rfl,wpAny_pure h⟩) fN))
end
end HT
namespace L2
open PySem PySem.Spec PyProof.Rows
noncomputable abbrev TO:=St->Hp->(Option Int->Hp->Prop)->Prop
noncomputable def PO (X:Cx)(e:Option Expr)(t:TO):Prop:=∀(pins:List (Addr×Obj))(s:Shared)(U:St)(H:Hp)(Q:Option Int->Hp->Prop),Inv X pins U H s->t U H Q->wpAny (model X.prog X.w) X.A (evalPart e X.env) (λu s'=>∃o H',Inv X pins U H' s'/\IsPart u o/\Q o H') X.xe s
noncomputable def Rb:TO:=λ_ H Q=>Q none H
noncomputable def Rc (t:TE):TO:=λU H Q=>t U H λx H1=>∃i,x= .int i/\Q (some i) H1
theorem intsAre_of {ns:List Int}:∀{us:List Value},Vals (ns.map V.int) us->IntsAre us ns:=by
 induction ns with
 |nil=>intro us r;rw[map_nil]at r;cases r;exact .nil
 |cons n ns ih=>
  intro us r;rw[map_cons]at r;cases r with
  |cons r1 r2=>obtain⟨t,e⟩:=r1;subst e;exact .cons n t (ih r2)
section
variable {X:Cx}{e:Expr}{te:TE}{lo hi:Option Expr}{tl th:TO}{pos p2:Pos}
theorem Rf:PO X none Rb:=by intro pins s U H Q I h;rw[evalPart_none];exact wpAny_pure ⟨none,H,I,.none,h⟩
theorem Rg (h:PE X e te):PO X (some e) (Rc te):=by intro pins s U H Q I hw;rw[evalPart_some];refine ah (h pins s U H _ I hw) λu s1 zQ=>?_;obtain⟨x,H1,I1,r1,q1⟩:=zQ;obtain⟨i,rfl,q⟩:=q1;obtain⟨t,rfl⟩:=r1;exact⟨some i,H1,I1,.int i t,q⟩
noncomputable def BY (X:Cx)(r:V->Option Int->Option Int->Hp->VK->Prop):Prop:=∀(pins:List (Addr×Obj))(s:Shared)(U:St)(H:Hp)(x:V)(v vl vu:Value)(lo hi:Option Int)(sl:Addr)(Q:VK),Inv X pins U H s->RelV x v->s.heap.IsSliceOf sl vl vu .none->IsPart vl lo->IsPart vu hi->r x lo hi H Q->∃T id,typeLookup (.type T) "__getitem__"=pure (some (.builtin id))/\s.TypeIs v T/\wpAny (model X.prog X.w) X.A (getItem v (.ref sl)) (EP X pins U Q) X.xe s
noncomputable def Rh (r:V->Option Int->Option Int->Hp->VK->Prop)(te:TE)(tl th:TO):TE:=λU H Q=>te U H λx H1=>tl U H1 λl H2=>th U H2 λu H3=>r x l u H3 Q
theorem Ri {r:V->Option Int->Option Int->Hp->VK->Prop}(hr:BY X r)(he:PE X e te)(hl:PO X lo tl)(hu:PO X hi th):PE X (.Subscript e (.Slice lo hi none p2) pos) (Rh r te tl th):=by intro pins s U H Q I h;refine Subscript_ (ah (he pins s U H _ I h) λv s1 zQ=>?_);obtain⟨x,H1,I1,r1,q1⟩:=zQ;refine wpAny_Slice (ah (hl pins s1 U H1 _ I1 q1) λvl s2 ⟨l,H2,I2,pl,q2⟩=>ah (hu pins s2 U H2 _ I2 q2) λvu s3 zQ=>?_);obtain⟨u,H3,I3,pu,q3⟩:=zQ;rw[evalPart_none];refine wpAny_pure ?_;have I4:Inv X pins U H3 {s3 with heap:=s3.heap.push {cls:=.type "slice",data:=.fields #[vl,vu,.none]}}:=I3.kept (t':=s3.toks) λb ob q=>Heap.get?_push_of_some _ q;obtain⟨T,id,hT,ht,hg⟩:=hr pins {s3 with heap:=s3.heap.push {cls:=.type "slice",data:=.fields #[vl,vu,.none]}} U H3 x v vl vu l u s3.heap.objs.size Q I4 r1 (Heap.IsSliceOf.new ..) pl pu q3;show wpAny (model X.prog X.w) X.A (subscriptTail e (.Slice lo hi none p2) v (.ref s3.heap.objs.size)) (EP X pins U Q) X.xe {s3 with heap:=s3.heap.push {cls:=.type "slice",data:=.fields #[vl,vu,.none]}};exact tail_any (ops:=[.ref s3.heap.objs.size,v]) ht hT hg (by with_unfolding_all rfl)
noncomputable def rJ (xs:List V)(lo hi:Option Int):List V:=(xs.drop (HT.aV xs.length 0 lo)).take (HT.aV xs.length xs.length hi-HT.aV xs.length 0 lo)
theorem Rj (xs:List V)(lo hi:Option Int):(rJ xs lo hi).length<=xs.length:=by unfold rJ;rw[length_take,List.length_drop];lia
noncomputable def JO (K:PySem.W.Frag):V->Option Int->Option Int->Hp->VK->Prop:=λx lo hi H Q=>∃a xs,x= .ref a/\aw K H a xs/\¬(HT.aV xs.length 0 lo=0/\HT.aV xs.length xs.length hi=xs.length)/\∀p,H p=none->Q (.ref p) (upd H p (.tup (rJ xs lo hi)))
theorem Rk:BY X (JO X.K):=by
 intro pins s U H x v vl vu lo hi sl Q I rx hs pl pu h;obtain⟨a,xs,rfl,hx,hw,q⟩:=h;cases rx;obtain⟨its,r,ht,hz⟩:=I.tuple hx;have hlen:its.toArray.size=xs.length:=by rw[size_toArray];exact r.length.symm
 refine⟨"tuple",_,PyProof.Rows.slot_tuple_getitem.lookup,ht.typeIs,?_⟩;refine HT.Q9 ht hs pl pu (by rw[hlen];exact hw) ?_ (by rw[hlen];exact hz);rw[hlen];refine⟨.ref s.heap.objs.size,_,I.laid (t':=s.toks) (o:=.tup (rJ xs lo hi)) (λb ob q=>Heap.get?_push_of_some _ q) (le_refl _) ?_,rfl,q _ (I.af.fresh (le_refl _))⟩;exact⟨le_trans (Rj xs lo hi) hz,_,(r.drop (HT.aV xs.length 0 lo)).take (HT.aV xs.length xs.length hi-HT.aV xs.length 0 lo),IsTup.new _ _⟩
end
noncomputable def md (n:Nat)(i:Int):Option Nat:=if 0<=i then(if i<n then some i.toNat else none)else if-(n:Int)<=i then some (i+n).toNat else none
noncomputable def me {α:Type}(xs:List α)(i:Int):Option α:=(md xs.length i).bind λj=>xs[j]?
theorem JP {n:Nat}{i:Int}{j:Nat}(h:md n i=some j):seqIndex? i n=some j/\j<n/\-(n:Int)<=i/\i<n:=by
 unfold md at h;by_cases h0:0<=i
 .rw[if_pos h0]at h;by_cases h1:i<n
  .rw[if_pos h1]at h;have e:i.toNat=j:=Option.some.inj h;exact⟨by rw[seqIndex_of h0 h1,e],by lia,by lia,h1⟩
  .rw[if_neg h1]at h;cases h
 .rw[if_neg h0]at h;by_cases h1:-(n:Int)<=i
  .rw[if_pos h1]at h;have e:(i+n).toNat=j:=Option.some.inj h;exact⟨by rw[seqIndex_neg (by lia) h1,e],by lia,h1,by lia⟩
  .rw[if_neg h1]at h;cases h
theorem JQ {α:Type}{xs:List α}{i:Int}{v:α}(h:me xs i=some v):∃j,seqIndex? i xs.length=some j/\xs[j]?=some v/\j<xs.length/\-(xs.length:Int)<=i/\i<xs.length:=by
 unfold me at h;cases e:md xs.length i with
 |none=>rw[e]at h;cases h
 |some j=>rw[e]at h;obtain⟨h1,h2,h3,h4⟩:=JP e;exact⟨j,h1,h,h2,h3,h4⟩
noncomputable def Rl (b:Expr):Prop:=∀o i,subscripted b false o i=operate [o,i] (getItem o i)
noncomputable def wV (X:Cx)(r:R2):Prop:=∀(value slice:Expr)(pins:List (Addr×Obj))(s:Shared)(U:St)(H:Hp)(x y:V)(v u:Value)(Q:VK),Inv X pins U H s->RelV x v->RelV y u->r x y H Q->subscripted slice false v u=operate [v,u] (getItem v u)->wpAny (model X.prog X.w) X.A (subscriptTail value slice v u) (EP X pins U Q) X.xe s
noncomputable def pI (X:Cx)(id:String)(r:V->List V->Hp->VK->Prop):Prop:=∀(pins:List (Addr×Obj))(s:Shared)(U:St)(H:Hp)(x:V)(xs:List V)(v:Value)(us:List Value)(Q:VK),Inv X pins U H s->RelV x v->Vals xs us->r x xs H Q->wpAny (model X.prog X.w) X.A (call (.builtin id) (v::us)) (EP X pins U Q) X.xe s
section
variable {X:Cx}{a b:Expr}{ta tb:TE}{pos:Pos}
theorem kl {r:R2}(hr:wV X r)(ha:PE X a ta)(hb:PE X b tb)(hs:Rl b):PE X (.Subscript a b pos) (wK r ta tb):=by intro pins s U H Q I h;exact Subscript_ (BL ha hb I h λv u s2 x y H2 I2 rx ry q=>hr a b pins s2 U H2 x y v u Q I2 rx ry q (hs _ _))
noncomputable def Rm (K:PySem.W.Frag):R2:=λx y H Q=>∃p xs i v,x= .ref p/\y= .int i/\ag K H p xs/\me xs i=some v/\Q v H
noncomputable def JR (K:PySem.W.Frag):R2:=λx y H Q=>∃p xs i v,x= .ref p/\y= .int i/\aw K H p xs/\me xs i=some v/\Q v H
theorem fO:wV X (Rm X.K):=by
 intro value slice pins s U H x y v u Q I rx ry h hs;obtain⟨p,xs,i,z,rfl,rfl,hq,he,q⟩:=h;cases rx;obtain⟨t,rfl⟩:=ry;obtain⟨its,r,pl,hz⟩:=I.list hq;obtain⟨j,h1,h2,h3,h4,h5⟩:=JQ he;obtain⟨w,ew,cy⟩:=r.get h2;have hl:=r.length;have hn:=nH;have fin:EP X pins U Q w s:=⟨z,H,I,cy,q⟩;by_cases h0:0<=i
 .have hj:i.toNat=j:=by
   rw[seqIndex_of h0 h5]at h1;exact Option.some.inj h1
  exact item_listR pl.isList h0 (by lia) (by rw[hj];simpa using ew) fin hs
 .have hj:(i+(its.toArray.size:Int)).toNat=j:=by
   rw[seqIndex_neg (by lia) h4]at h1;rw[size_toArray,<-hl];exact Option.some.inj h1
  exact subscriptTail_builtinR (x:=w) pl.isList.typeIs slot_list_getitem.lookup (wpAny_getItem_list_neg (Q:=λr s'=>r=w/\EP X pins U Q r s') pl.isList (by lia) (by rw[size_toArray]<;>lia) (by lia) (by rw[hj];simpa using ew) ⟨rfl,fin⟩) hs
theorem fP:wV X (JR X.K):=by
 intro value slice pins s U H x y v u Q I rx ry h hs;obtain⟨p,xs,i,z,rfl,rfl,hq,he,q⟩:=h;cases rx;obtain⟨t,rfl⟩:=ry;obtain⟨its,r,pl,hz⟩:=I.tuple hq;obtain⟨j,h1,h2,h3,h4,h5⟩:=JQ he;obtain⟨w,ew,cy⟩:=r.get h2;have hl:=r.length;have hn:=nH;have fin:EP X pins U Q w s:=⟨z,H,I,cy,q⟩;exact subscriptTail_builtinR (x:=w) pl.typeIs slot_tuple_getitem.lookup (getItem_tuple (j:=j) (Q:=λr s'=>r=w/\EP X pins U Q r s') pl (by lia) (by lia) (by rw[size_toArray,<-hl];exact h1) (by simpa using ew) ⟨rfl,fin⟩) hs
theorem Rn (its:List Value)(n j:Nat)(u:Value):Obj.mapSeq (·.setIfInBounds j u) {cls:=.type "list",data:=.seq its.toArray n}={cls:=.type "list",data:=.seq (its.set j u).toArray n}:=by simp[Obj.mapSeq]
theorem Inv.lst {pins:List (Addr×Obj)}{U:St}{H:Hp}{s:Shared}{p:Addr}{xs:List V}(I:Inv X pins U H s)(h:H p=some (.lst xs)):∃(its:List Value)(n:Nat),Vals xs its/\s.heap.get? p=some {cls:=.type "list",data:=.seq its.toArray n}/\xs.length<=sizeLine:=by
 obtain⟨z,its,n,r,e⟩:=I.af p _ h;exact⟨its,n,r,e,z⟩
theorem Inv.Ro {pins:List (Addr×Obj)}{U:St}{H:Hp}{s:Shared}{p:Addr}{xs ys:List V}{its its':List Value}{n n':Nat}{f:Obj->Obj}(I:Inv X pins U H s)(h:H p=some (.lst xs))(ho:s.heap.get? p=some {cls:=.type "list",data:=.seq its.toArray n})(hf:f {cls:=.type "list",data:=.seq its.toArray n}={cls:=.type "list",data:=.seq its'.toArray n'})(r:Vals ys its')(hz:ys.length<=sizeLine)(t:Nat):
  Inv X pins U (upd H p (.lst ys)) {s with heap:=s.heap.update p f,toks:=t}:=by
 have e:(s.heap.update p f).get? p=some {cls:=.type "list",data:=.seq its'.toArray n'}:=by rw[Heap.get?_update_self f ho (by rw[hf]<;>rfl),hf]
 refine I.write (x:=p) (e:=p) (by rw[h];trivial) (.inl rfl) (λb u hb q=>(Heap.get?_update_other _ _ (Ne.symm hb)).trans q) ⟨_,e⟩ ?_;exact⟨hz,its',n',r,e⟩
noncomputable def Rp:V->V->V->Hp->(Hp->Prop)->Prop:=λo i v H Q=>∃p xs k j,o= .ref p/\i= .int k/\H p=some (.lst xs)/\md xs.length k=some j/\Q (upd H p (.lst (xs.set j v)))
theorem set_list:BE X Rp:=by
 intro pins s U H o i v ov iv u Q I ro ri rv h;obtain⟨p,xs,k,j,rfl,rfl,hp,hj,q⟩:=h;cases ro;obtain⟨t,rfl⟩:=ri;obtain⟨its,n,r,ho,hz⟩:=I.lst hp;obtain⟨h1,h2,h3,h4⟩:=JP hj;have hl:=r.length;have hn:=nH;have I':Inv X pins U (upd H p (.lst (xs.set j v))) {s with heap:=s.heap.update p (Obj.mapSeq (·.setIfInBounds j u))}:=I.Ro hp ho (Rn its n j u) (r.set rv j) (by rw[length_set];exact hz) s.toks;by_cases h0:0<=k
 .have hk:k.toNat=j:=by
   rw[seqIndex_of h0 h4]at h1;exact Option.some.inj h1
  exact PySem.W.ki_setAt ho h0 (by lia) (by rw[size_toArray,<-hl];exact h4) (by rw[hk];exact⟨_,I',q⟩)
 .have hk:(k+(its.toArray.size:Int)).toNat=j:=by
   rw[seqIndex_neg (by lia) h3]at h1;rw[size_toArray,<-hl];exact Option.some.inj h1
  exact PySem.W.ki_setBack ho (by lia) (by rw[size_toArray,<-hl];exact h3) (by lia) (by rw[hk];exact⟨_,I',q⟩)
noncomputable def kJ:V->Bool
 | .aj=>true
 | .bl _=>true
 | .int _=>true
 | .str _=>true
 |_=>false
noncomputable def mf:V->V->Bool
 | .aj,.aj=>true
 | .bl a,.bl b=>a==b
 | .bl a,.int b=>(if a then 1 else 0)==b
 | .int a,.bl b=>a==(if b then 1 else 0)
 | .int a,.int b=>a==b
 | .str a,.str b=>a==b
 |_,_=>false
theorem Rq {A:Around}{s:Shared}{y x:V}{u v:Value}(ry:RelV y u)(rx:RelV x v)(fy:kJ y=true)(fx:kJ x=true):SeqAt.EqAt A s u v (mf y x):=by
 cases y with
 |aj=>
  cases ry;cases x with
  |aj=>cases rx;exact SeqAt.EqAt.same _
  |bl b=>cases rx;exact SeqAt.EqAt.none_bool b
  |int b=>obtain⟨t,rfl⟩:=rx;exact SeqAt.EqAt.none_int b t
  |str b=>obtain⟨t,rfl⟩:=rx;exact SeqAt.EqAt.none_str b t
  |_=>exact absurd (show false=true from fx) Bool.false_ne_true
 |bl a=>
  cases ry;cases x with
  |aj=>cases rx;exact SeqAt.EqAt.bool_none a
  |bl b=>cases rx;exact SeqAt.EqAt.bool_bool a b
  |int b=>obtain⟨t,rfl⟩:=rx;exact SeqAt.EqAt.bool_int a b t
  |str b=>obtain⟨t,rfl⟩:=rx;exact SeqAt.EqAt.bool_str a b t
  |_=>exact absurd (show false=true from fx) Bool.false_ne_true
 |int a=>
  obtain⟨t',rfl⟩:=ry;cases x with
  |aj=>cases rx;exact SeqAt.EqAt.int_none a t'
  |bl b=>cases rx;exact SeqAt.EqAt.int_bool a t' b
  |int b=>obtain⟨t,rfl⟩:=rx;exact SeqAt.EqAt.int_int a t' b t
  |str b=>obtain⟨t,rfl⟩:=rx;exact SeqAt.EqAt.int_str a t' b t
  |_=>exact absurd (show false=true from fx) Bool.false_ne_true
 |str a=>
  obtain⟨t',rfl⟩:=ry;cases x with
  |aj=>cases rx;exact SeqAt.EqAt.str_none a t'
  |bl b=>cases rx;exact SeqAt.EqAt.str_bool a t' b
  |int b=>obtain⟨t,rfl⟩:=rx;exact SeqAt.EqAt.str_int a t' b t
  |str b=>obtain⟨t,rfl⟩:=rx;exact SeqAt.EqAt.str_str a t' b t
  |_=>exact absurd (show false=true from fx) Bool.false_ne_true
 |_=>exact absurd (show false=true from fy) Bool.false_ne_true
noncomputable def fc (x:V)(u:Value):Bool:=match u with
 | .none=>mf .aj x
 | .bool b=>mf (.bl b) x
 | .int i _=>mf (.int i) x
 | .str z _=>mf (.str z) x
 |_=>false
theorem JS {x y:V}{u:Value}(r:RelV y u)(f:kJ y=true):fc x u=mf y x:=by
 cases y with
 |aj=>cases r;rfl
 |bl b=>cases r;rfl
 |int i=>obtain⟨t,rfl⟩:=r;rfl
 |str z=>obtain⟨t,rfl⟩:=r;rfl
 |_=>exact absurd (show false=true from f) Bool.false_ne_true
theorem rK {x:V}:∀{xs:List V}{us:List Value},Vals xs us->xs.all kJ=true->us.any (fc x)=xs.any λy=>mf y x
 |_,_,.nil,_=>rfl
 |y::xs,u::us,.cons r t,f=>by rw[List.all_cons,Bool.and_eq_true]at f;rw[any_cons,any_cons,JS r f.1,rK t f.2]
theorem rM {A:Around}{s:Shared}{x:V}{v:Value}(rx:RelV x v)(fx:kJ x=true):∀{xs:List V}{us:List Value},Vals xs us->xs.all kJ=true->∀u∈us,SeqAt.EqAt A s u v (fc x u)
 |_,_,.nil,_=>λu hu=>by cases hu
 |y::xs,u::us,.cons r t,f=>λu' hu=>by
  rw[List.all_cons,Bool.and_eq_true]at f;rcases mem_cons.mp hu with rfl|hu
  .rw[JS r f.1];exact Rq r rx f.1 fx
  .exact rM rx fx t f.2 u' hu
noncomputable def wX (x:V)(xs:List V):Bool:=xs.any λy=>mf y x
noncomputable def wY (K:PySem.W.Frag)(neg:Bool):R2:=λx y H Q=>∃p xs,y= .ref p/\(ag K H p xs\/aw K H p xs)/\kJ x=true/\xs.all kJ=true/\Q (.bl (if neg then !wX x xs else wX x xs)) H
theorem BZ:bB X (compareOp .In) (wY X.K false):=by
 intro pins s U H x y v u Q I rx ry h;obtain⟨p,xs,rfl,hq,fx,fs,q⟩:=h;cases ry;rcases hq with hq|hq
 .obtain⟨its,r,pl,hz⟩:=I.list hq;refine SeqAt.in_listAt (fc x) pl.isList (λw hw=>rM rx fx r fs w (by simpa using hw)) ⟨.bl _,H,I,rfl,?_⟩;rw[show its.toArray.any (fc x)=its.any (fc x)by simp,rK r fs];exact q
 .obtain⟨its,r,pl,hz⟩:=I.tuple hq;refine SeqAt.in_tupleAt (fc x) pl (λw hw=>rM rx fx r fs w (by simpa using hw)) ⟨.bl _,H,I,rfl,?_⟩;rw[show its.toArray.any (fc x)=its.any (fc x)by simp,rK r fs];exact q
theorem wZ:bB X (compareOp .NotIn) (wY X.K true):=by
 intro pins s U H x y v u Q I rx ry h;obtain⟨p,xs,rfl,hq,fx,fs,q⟩:=h;cases ry;rcases hq with hq|hq
 .obtain⟨its,r,pl,hz⟩:=I.list hq;refine SeqAt.notIn_listAt (fc x) pl.isList (λw hw=>rM rx fx r fs w (by simpa using hw)) ⟨.bl _,H,I,rfl,?_⟩;rw[show its.toArray.any (fc x)=its.any (fc x)by simp,rK r fs];exact q
 .obtain⟨its,r,pl,hz⟩:=I.tuple hq;refine SeqAt.notIn_tupleAt (fc x) pl (λw hw=>rM rx fx r fs w (by simpa using hw)) ⟨.bl _,H,I,rfl,?_⟩;rw[show its.toArray.any (fc x)=its.any (fc x)by simp,rK r fs];exact q
theorem jt:dW X (.builtin "len") (λxs H Q=>∃p ys,xs=[.ref p]/\(ag X.K H p ys\/aw X.K H p ys)/\Q (.int ys.length) H):=by
 intro pins s U H xs us Q I r h;obtain⟨p,ys,rfl,hq,q⟩:=h;obtain⟨u,rfl,rx⟩:=vals1 r;cases rx;have hn:=nH;rcases hq with hq|hq
 .obtain⟨its,r',pl,hz⟩:=I.list hq;have hlen:=r'.length;exact Calls.call_len_list pl.isList (by simp only[size_toArray]<;>lia) ⟨.int ys.length,H,I.tok _,⟨s.toks+1,by rw[size_toArray,hlen]⟩,q⟩
 .obtain⟨its,r',pl,hz⟩:=I.tuple hq;have hlen:=r'.length;exact len_tuple pl (by simp only[size_toArray]<;>lia) ⟨.int ys.length,H,I.tok _,⟨s.toks+1,by rw[size_toArray,hlen]⟩,q⟩
theorem rN:dW X (.type "list") (λxs H Q=>∃p ys,xs=[.ref p]/\(ag X.K H p ys\/aw X.K H p ys)/\∀l,H l=none->Q (.ref l) (upd H l (.lst ys))):=by
 intro pins s U H xs us Q I r h;obtain⟨p,ys,rfl,hq,q⟩:=h;obtain⟨u,rfl,rx⟩:=vals1 r;cases rx;have fin:∀(its:List Value),Vals ys its->ys.length<=sizeLine->∀(h':Heap)(c':Nat),(∀b o',s.heap.get? b=some o'->h'.get? b=some o')->h'.get? s.heap.objs.size=some {cls:=.type "list",dict:=none,data:=.seq its.toArray c',slots:=#[]}->EP X pins U Q (.ref s.heap.objs.size) {s with heap:=h'}:=λits r' hz h' c' kp e=>⟨.ref s.heap.objs.size,_,I.laid (t':=s.toks) kp (le_refl _) (show yx X.prog X.w _ h' _ (.lst ys)from⟨hz,its,c',r',e⟩),rfl,q _ (I.af.fresh (le_refl _))⟩;rcases hq with hq|hq
 .obtain⟨its,r',pl,hz⟩:=I.list hq;have hlen:=r'.length;obtain⟨o,ho,hc,n,hd⟩:=pl.isList;exact call_list_seq p (.inl rfl) ho hc hd (λh' c' kp e=>fin its r' hz h' c' kp e) (by simp only[size_toArray]<;>lia)
 .obtain⟨its,r',pl,hz⟩:=I.tuple hq;have hlen:=r'.length;obtain⟨o,ho,hc,n,hd⟩:=pl;exact call_list_seq p (.inr rfl) ho hc hd (λh' c' kp e=>fin its r' hz h' c' kp e) (by simp only[size_toArray]<;>lia)
theorem JT:dW X (.type "tuple") (λxs H Q=>∃p ys,xs=[.ref p]/\((ag X.K H p ys/\∀l,H l=none->Q (.ref l) (upd H l (.tup ys)))\/(aw X.K H p ys/\Q (.ref p) H))):=by
 intro pins s U H xs us Q I r h;obtain⟨p,ys,rfl,h⟩:=h;obtain⟨u,rfl,rx⟩:=vals1 r;cases rx;rcases h with⟨hq,q⟩|⟨hq,q⟩
 .obtain⟨its,r',pl,hz⟩:=I.list hq;have hlen:=r'.length;refine call_tuple_list pl.isList (λh' kp=>?_) (by simp only[size_toArray]<;>lia);have I1:Inv X pins U H {s with heap:=h'}:=I.kept (t':=s.toks) kp;have I2:Inv X pins U (upd H h'.objs.size (.tup ys)) {s with heap:=h'.push {cls:=.type "tuple",data:=.seq its.toArray}}:=I1.laid (t':=s.toks) (λb o e=>Heap.get?_push_of_some _ e) (le_refl _) (show yx X.prog X.w _ _ _ (.tup ys)from⟨hz,its,r',IsTup.new _ _⟩);exact⟨.ref h'.objs.size,_,I2,rfl,q _ (I1.af.fresh (le_refl _))⟩
 .obtain⟨its,r',pl,hz⟩:=I.tuple hq;exact call_tuple_same pl ⟨.ref p,H,I,rfl,q⟩
noncomputable def B0 (K:PySem.W.Frag)(T:String)(x:V)(H:Hp):Prop:=match x with
 | .str _=>T="str"
 | .int _=>T="int"
 | .ref p=>(T="list"/\∃xs,ag K H p xs)\/(T="tuple"/\∃o,K.lookup p=some o/\o.cls= .type "tuple"/\o.dict=none)\/(T="dict"/\((∃kvs,H p=some (.dK kvs))\/∃kvs,H p=some (.dT kvs)))\/(T="set"/\∃S n,H p=some (.set S n))
 |_=>False
theorem JU {pins:List (Addr×Obj)}{U:St}{H:Hp}{s:Shared}{T:String}{x:V}{v:Value}(I:Inv X pins U H s)(r:RelV x v)(ty:B0 X.K T x H):s.TypeIs v T/\∀a,v= .ref a->∃ob,s.heap.get? a=some ob/\ob.dict=none:=by
 cases x with
 |str z=>obtain⟨t,rfl⟩:=r;cases(show T="str"from ty);exact⟨typeIs_str s z t,λ_ e=>nomatch e⟩
 |int i=>obtain⟨t,rfl⟩:=r;cases(show T="int"from ty);exact⟨typeIs_int s i t,λ_ e=>nomatch e⟩
 | ref p=>
  cases r;rcases ty with⟨rfl,xs,hq⟩|⟨rfl,o,hk,hc,hd⟩|⟨rfl,hk⟩|⟨rfl,S,n,hk⟩
  .obtain⟨its,_,pl,_⟩:=I.list hq;refine⟨pl.isList.typeIs,λa e=>?_⟩;cases e;obtain⟨o,n,e,c,hd,_⟩:=pl;exact⟨o,e,hd⟩
  .refine⟨⟨o,I.aO p o hk,hc⟩,λa e=>?_⟩;cases e;exact⟨o,I.aO _ o hk,hd⟩
  .have z:∃o,s.heap.get? p=some o/\o.ExactDict:=by
    rcases hk with⟨kvs,hk⟩|⟨kvs,hk⟩
    .obtain⟨_,_,_,_,o,_,_,e,ex,_⟩:=I.af p _ hk;exact⟨o,e,ex⟩
    .obtain⟨_,_,_,_,o,_,_,e,ex,_⟩:=I.af p _ hk;exact⟨o,e,ex⟩
   obtain⟨o,e,ex⟩:=z;refine⟨⟨o,e,ex.1⟩,λa e2=>?_⟩;cases e2;exact⟨o,e,ex.2.1⟩
  .obtain⟨o,_,_,_,e,ex,_⟩:=I.af p _ hk;refine⟨⟨o,e,ex.1⟩,λa e2=>?_⟩;cases e2;exact⟨o,e,ex.2.1⟩
 |_=>exact False.elim ty
noncomputable def Rr (K:PySem.W.Frag)(T:String)(r:V->List V->Hp->VK->Prop)(to:TE):TE:=λU H Q=>to U H λx H1=>B0 K T x H1/\r x [] H1 Q
noncomputable def Rt (K:PySem.W.Frag)(T:String)(r:V->List V->Hp->VK->Prop)(to:TE)(t:TA):TE:=λU H Q=>to U H λx H1=>B0 K T x H1/\t U H1 λxs H2=>r x xs H2 Q
variable {o e:Expr}{es:List Expr}{to:TE}{t:TA}{name:Str}{apos au:Pos}{T id:String}{r:V->List V->Hp->VK->Prop}
theorem JV (pa:PlainAttrs T)(slot:Slot T name id)(B8:typeOf (.builtin id)=pure (.type "method_descriptor"))(hm:pI X id r)(ho:PE X o to)(dY:autoParam (attributeBase o name X.env (eval o X.env)=eval o X.env) aP1)(iy:autoParam ((apos.endLine==au.line)=true) aP1):PE X (.Call (.Attribute o name apos) [] [] au) (Rr X.K T r to):=by
 intro pins s U H Q I h;refine wpAny_Call_method0_late dY iy (ah (ho pins s U H _ I h) λv s1 zQ=>?_);obtain⟨x,H1,I1,r1,ty,q1⟩:=zQ;obtain⟨h1,h2⟩:=JU I1 r1 ty;exact⟨T,id,pa,slot,B8,h1,h2,Calls.callWith_builtin rfl (PySem.evalArgs_none (hm pins s1 U H1 x [] v [] Q I1 r1 .nil q1))⟩
theorem dZ (pa:PlainAttrs T)(slot:Slot T name id)(B8:typeOf (.builtin id)=pure (.type "method_descriptor"))(hm:pI X id r)(ho:PE X o to)(ha:PA X (e::es) t)(dY:autoParam (attributeBase o name X.env (eval o X.env)=eval o X.env) aP1)(B9:autoParam (((backTo au (starEach (e::es) X.env)).all (λx=>!x.1)&&(backToKw au (keywordEach [] X.env)).all (λx=>x.1.isSome)&&decide ((e::es).length+([]:List Keyword).length+(if([]:List Keyword).isEmpty then 0 else 1)<30))=true) aP1)(iy:autoParam ((apos.endLine==au.line)=true) aP1)(hs:autoParam (starEach (e::es) X.env=(false,eval e X.env)::starEach es X.env) aP1)(nK:autoParam ((backTo au (starEach es X.env)).any (·.1)=false) aP1):
  PE X (.Call (.Attribute o name apos) (e::es) [] au) (Rt X.K T r to t):=by
 intro pins s U H Q I h;refine wpAny_Call_method_late dY B9 iy rfl (ah (ho pins s U H _ I h) λv s1 zQ=>?_);obtain⟨x,H1,I1,r1,ty,q1⟩:=zQ;obtain⟨h1,h2⟩:=JU I1 r1 ty;refine⟨T,id,pa,slot,B8,h1,h2,?_⟩;have hA:=ha au pins s1 U H1 _ I1 q1;rw[hs]at hA⊢;refine Calls.callWith_builtin (by show(false||(backTo au (starEach es X.env)).any (·.1))=false;rw[nK]<;>rfl) (Calls.evalArgs_plain ?_);exact ah hA λus s2 ⟨vs,H2,I2,r2,q2⟩=>hm pins s2 U H2 x vs v us Q I2 r1 r2 q2
end
noncomputable def Ca (X:Cx)(id:String)(r:V->List V->Hp->VK->Prop):Prop:=∀(pins:List (Addr×Obj))(s:Shared)(U:St)(H:Hp)(x:V)(xs:List V)(v:Value)(us:List Value)(Q:VK),Inv X pins U H s->RelV x v->Vals xs us->r x xs H Q->wpAny (model X.prog X.w) X.A (call (.builtin id) (v::us)) (EP X pins U Q) X.xe s
theorem Vals.one:∀{x:V}{us:List Value},Vals [x] us->∃u,us=[u]/\RelV x u:=λ{x us} p=>by
 cases p with
 |cons r t=>cases t;exact⟨_,rfl,r⟩
theorem Vals.eraseIdx:∀{xs:List V}{us:List Value}(i:Nat),Vals xs us->Vals (xs.eraseIdx i) (us.eraseIdx i)
 |_,_,_,.nil=>.nil
 |_,_,0,.cons _ t=>t
 |_,_,i+1,.cons r t=>.cons r (Vals.eraseIdx i t)
theorem Vals.rep {xs:List V}{us:List Value}(h:Vals xs us):∀k:Nat,Vals (List.replicate k xs).flatten (List.replicate k us).flatten
 |0=>.nil
 |k+1=>by rw[replicate_succ,replicate_succ,flatten_cons,flatten_cons];exact Vals.append h (Vals.rep h k)
theorem JW {α:Type}:∀(l:List α)(i:Nat),(l.eraseIdx i).length<=l.length
 |[],_=>le_refl _
 |_::_,0=>le_succ _
 |_::r,i+1=>Nat.succ_le_succ (JW r i)
theorem foldl_rep (its:List Value):∀(k:Nat)(acc:List Value),List.foldl (λx1 x2=>x1++x2) acc.toArray (List.replicate k its.toArray)=(acc++(List.replicate k its).flatten).toArray
 |0,acc=>by simp
 |k+1,acc=>by
  have e:acc.toArray++its.toArray=(acc++its).toArray:=by simp
  have e2:(acc++its)++(List.replicate k its).flatten=acc++(List.replicate (k+1) its).flatten:=by rw[replicate_succ,flatten_cons,List.append_assoc]
  rw[<-e2,<-foldl_rep its k (acc++its),<-e,replicate_succ,foldl_cons]
section
variable {X:Cx}{pins:List (Addr×Obj)}{U:St}{H:Hp}{s:Shared}{l b:Addr}{xs ys zs:List V}
theorem Inv.Cb {its its':List Value}{n:Nat}{f:Array Value->Array Value}{t':Nat}(I:Inv X pins U H s)(hH:H l=some (.lst xs))(e:s.heap.get? l=some {cls:=.type "list",data:=.seq its.toArray n})(hf:f its.toArray=its'.toArray)(hv:Vals ys its')(hz:ys.length<=sizeLine):
  Inv X pins U (upd H l (.lst ys)) {s with heap:=s.heap.update l (Obj.mapSeq f),toks:=t'}:=by
 have q:=PySem.IsL.update e f;rw[hf]at q;refine I.write (x:=l) (e:=l) (by rw[hH];exact trivial) (.inl rfl) (λb' u hb hu=>(Heap.get?_update_other s.heap (Obj.mapSeq f) (Ne.symm hb)).trans hu) ⟨_,q⟩ ?_;exact⟨hz,its',_,hv,q⟩
theorem Inv.JX {its:List Value}{t':Nat}(I:Inv X pins U H s)(hv:Vals ys its)(hz:ys.length<=sizeLine):Inv X pins U (upd H s.heap.objs.size (.lst ys)) {s with heap:=s.heap.push {cls:=.type "list",data:=.seq its.toArray},toks:=t'}:=
 I.laid (λ_ _ q=>Heap.get?_push_of_some _ q) (le_refl _) ⟨hz,its,0,hv,Heap.get?_push_size _ rfl⟩
theorem Inv.fresh (I:Inv X pins U H s):H s.heap.objs.size=none:=I.af.fresh (le_refl _)
theorem Inv.pJ (I:Inv X pins U H s)(hH:H l=some (.lst xs)):xs.length<=sizeLine/\∃(its:List Value)(n:Nat),Vals xs its/\xs.length=its.length/\s.heap.get? l=some {cls:=.type "list",data:=.seq its.toArray n}:=by obtain⟨z,its,n,r,e⟩:=I.af l _ hH;exact⟨z,its,n,r,r.length,e⟩
theorem Ru {n:Nat}(h:n<=sizeLine):Builtin.List.listTooLong n=false:=by unfold Builtin.List.listTooLong;exact decide_eq_false (by lia)
end
section
variable {X:Cx}
noncomputable def Rv:V->List V->Hp->VK->Prop:=λx vs H Q=>∃l xs y,x= .ref l/\vs=[y]/\H l=some (.lst xs)/\xs.length<sizeLine/\Q .aj (upd H l (.lst (xs++[y])))
theorem yh:Ca X "list.append" Rv:=by intro pins s U H x vs v us Q I rx rv h;obtain⟨l,xs,y,rfl,rfl,hH,hz,q⟩:=h;cases rx;obtain⟨u,rfl,ru⟩:=rv.one;obtain⟨z,its,n,r,hl,e⟩:=I.pJ hH;refine call_meets F.slot_list_append ⟨_,e,rfl⟩ F.entry_list_append (F.args_list_append_2 _ _) (PySem.list_append l its.toArray n u (by rw[size_toArray];lia)) ⟨e,?_⟩;refine⟨.aj,_,I.Cb (its':=its++[u]) hH e (by simp) (r.append (.cons ru .nil)) ?_,rfl,q⟩;rw[length_append,List.length_singleton];lia
noncomputable def Rw:V->List V->Hp->VK->Prop:=λx vs H Q=>∃l xs i k y,x= .ref l/\vs=[.int i]/\H l=some (.lst xs)/\-(2^63)<=i/\i<2^63/\seqIndex? i xs.length=some k/\xs[k]?=some y/\Q y (upd H l (.lst (xs.eraseIdx k)))
theorem Rx:Ca X "list.pop" Rw:=by
 intro pins s U H x vs v us Q I rx rv h;obtain⟨l,xs,i,k,y,rfl,rfl,hH,h1,h2,hk,hy,q⟩:=h;cases rx;obtain⟨u,rfl,ru⟩:=rv.one;obtain⟨t,rfl⟩:=ru;obtain⟨z,its,n,r,hl,e⟩:=I.pJ hH;obtain⟨w,hw,cy⟩:=r.get hy;refine call_meets F.slot_list_pop ⟨_,e,rfl⟩ F.entry_list_pop (F.args_list_pop_2 _ _) (MeetsSeq.list_pop_at l its.toArray n i t k w (fitsIndex_both h1 h2) (by rw[size_toArray,<-hl];exact hk) (by rw[<-Array.getElem?_toList];exact hw) (by rw[size_toArray];lia)) ⟨e,?_⟩;refine⟨y,_,I.Cb (its':=its.eraseIdx k) hH e ?_ (r.eraseIdx k) ?_,cy,q⟩
 .show its.toArray.eraseIdxIfInBounds k=(its.eraseIdx k).toArray;rw[List.eraseIdxIfInBounds_toArray]
 .have:=JW xs k;lia
noncomputable def Ry:R2:=λx y H Q=>∃l b xs zs,x= .ref l/\y= .ref b/\H l=some (.lst xs)/\H b=some (.lst zs)/\xs.length+zs.length<=sizeLine/\∀p,H p=none->Q (.ref p) (upd H p (.lst (xs++zs)))
theorem xA:bB X (binaryOp .Add) Ry:=by
 intro pins s U H x y v u Q I rx ry h;obtain⟨l,b,xs,zs,rfl,rfl,hH,hB,hz,q⟩:=h;cases rx;cases ry;obtain⟨z,its,n,r,hl,e⟩:=I.pJ hH;obtain⟨z2,rO,n2,r2,JY,e2⟩:=I.pJ hB;refine PySem.P.add_list e e2 ?_ (by rw[size_toArray,size_toArray];lia);have ea:its.toArray++rO.toArray=(its++rO).toArray:=by simp
 rw[ea];exact⟨.ref _,_,I.JX (t':=s.toks) (r.append r2) (by rw[length_append];lia),rfl,q _ I.fresh⟩
noncomputable def Rz:R2:=λx y H Q=>∃l k xs,x= .ref l/\y= .int k/\H l=some (.lst xs)/\-(2^63)<=k/\k<2^63/\xs.length*k.toNat<=sizeLine/\∀p,H p=none->Q (.ref p) (upd H p (.lst (List.replicate k.toNat xs).flatten))
theorem len_rep {α:Type}(xs:List α)(k:Nat):(List.replicate k xs).flatten.length=k*xs.length:=by
 induction k with
 |zero=>simp
 |succ k ih=>rw[replicate_succ,flatten_cons,length_append,ih,Nat.succ_mul,Nat.add_comm]
theorem RA:bB X (binaryOp .Mult) Rz:=by
 intro pins s U H x y v u Q I rx ry h;obtain⟨l,k,xs,rfl,rfl,hH,h1,h2,hz,q⟩:=h;cases rx;obtain⟨t,rfl⟩:=ry;obtain⟨z,its,n,r,hl,e⟩:=I.pJ hH;have hlen:its.toArray.size*k.toNat<=sizeLine:=by rw[size_toArray,<-hl];exact hz
 have Cc:¬its.toArray.size*k.toNat>(2^63-1) / 8:=by
  have:(sizeLine:Nat)<=(2^63-1) / 8:=by decide
  lia
 have Cd:¬(!Builtin.List.listFitsIndex k)=true:=by rw[fitsIndex_both h1 h2];exact Bool.false_ne_true
 have rP:¬Builtin.List.listTooLong (its.toArray.size*k.toNat)=true:=by rw[Ru hlen];exact Bool.false_ne_true
 have nN:List.foldl (λx1 x2=>x1++x2) #[] (List.replicate (if its.toArray.isEmpty=true then 0 else k.toNat) its.toArray)=(List.replicate k.toNat its).flatten.toArray:=by
  have f0:∀m:Nat,List.foldl (λx1 x2=>x1++x2) #[] (List.replicate m its.toArray)=(List.replicate m its).flatten.toArray:=λm=>by have:=foldl_rep its m [];rw[List.nil_append]at this;exact this
  rw[f0];cases its with
  |nil=>simp
  |cons a r'=>rw[if_neg (by simp)]
 refine wpAny_binaryOp_repeat_ref (T:="list") (U:="int") (by decide) ⟨_,e,rfl⟩ (λs'=>typeIs_int s' k t) noFill_list_mul F.fills_int_mul F.slot_int_rmul repeat_list F.slot_int_index.lookup (call_meets F.slot_int_rmul (typeIs_int s k t) F.entry_int_rmul (F.args_int_rmul_2 _ _) (int___rmul___int_list k t l its.toArray n) ⟨e,rfl,⟨_,e,rfl⟩,call_meets F.slot_list_mul ⟨_,e,rfl⟩ F.entry_list_mul (F.args_list_mul_2 _ _) (AutoListH.list___mul___list_int_3 l its.toArray n k t Cd Cc rP) ⟨e,?_⟩⟩);rw[nN];exact⟨.ref _,_,I.JX (t':=s.toks) (r.rep k.toNat) (by rw[len_rep,Nat.mul_comm];exact hz),rfl,q _ I.fresh⟩
end
end L2
namespace JZ
open PySem PySem.W PySem.Calls PyProof.Rows
theorem RB {P:Params}{h:Heap}:∀(ns:List Int)(vs:List Value),WellAll P h vs (ns.map WData.int)->IntsAre vs ns:=by
 intro ns;induction ns with
 |nil=>intro vs w;rw[map_nil]at w;cases w;exact .nil
 |cons n ns ih=>
  intro vs w;rw[map_cons]at w;cases w with
  |cons a b=>cases a;exact .cons _ _ (ih _ b)
theorem RC {l:OpenLaw}{n:Nat}(hn:l.most=some n){P:Params}{h:Heap}{args:List WData}{vals:List Value}(kK:l.row.toRowW.claim.pre args=true)(Ce:WellAll P h vals args):∃a vs ns,vals=[Value.ref a]/\args=[WData.list (ns.map WData.int)]/\h.get? a=some {cls:=.type "list",data:=.seq vs.toArray}/\IntsAre vs ns/\ns.length<=n:=by
 have RD:WShape.hasAll [] args [.list .int]=true:=(pre_splitW kK).1;have hc:l.pre.holds [] {args:=args}=true:=(pre_splitW kK).2;obtain⟨d,r,rfl,h1,h2⟩:=hasAllW_cons RD;obtain rfl:=hasAllW_nil h2;obtain⟨xs,rfl,h3⟩:=hasW_list h1;obtain⟨ns,rfl⟩:=items_int h3;have hlen:ns.length<=n:=by
  unfold OpenLaw.pre at hc;have h4:(WTm.not (.lt (.lit (.int (n:Int))) (.len (.arg 0)))).holds [] {args:=[.list (ns.map .int)]}=true:=by have h4:=(holds_andW hc).1;rw[hn]at h4;exact h4
  have h5:=condW_of h4 (w_not (w_lt w_lit (w_len_list (w_arg rfl))));rw[length_map]at h5;refine Nat.le_of_not_lt λq=>?_;have q':(n:Int)<((ns.length:Nat):Int):=by lia
  first
   |(rw[decide_eq_true q']at h5;exact absurd h5 (by decide))
   |(simp at h5;lia)
 cases Ce with
 |cons w1 w2=>
  cases w2;cases w1 with
  |list ho eY=>exact⟨_,_,ns,rfl,rfl,ho,RB ns _ eY,hlen⟩
theorem RE (l:OpenLaw)(args:List WData):l.row.toRowW.claim.post args (.bool true) args=true:=postW_of (r:=l.row.toRowW) (X:=(true==true)) (show WShape.has [] (.bool true) .bool=true by first|rfl|decide|simp[WShape.has,WShape.arms,WShape.armsAll]) (show(WTm.eq .res (.lit (.bool true))).value [] {args:=args,res:=some (.bool true),after:=args}=some (.bool (true==true))from w_eq_bool (w_res rfl) w_lit) rfl
theorem RF {l:OpenLaw}{n:Nat}{q:Program}{loose:List Str}{XP:(Str->Option Value)->Heap->Prop}{YP:World->Heap->Prop}{d:DefRec}(hn:l.most=some n)(rQ:d.params.defaults=[])(call:∀(w:World)(ar ai:Shared)(mg mb:Str->Option Value)(fa:Addr)(o:Obj)(pm cd doc:Value)(a:Addr)(vs:List Value)(ns:List Int),Ground q loose [] XP w ar mg mb ai.heap->YP w ai.heap->
   ai.heap.get? fa=some o->o.data= .func (docDef d.name d.params d.body d.scope pm cd doc)->ai.heap.CodeRec cd d.name->mg d.name=some (.ref fa)->
   ai.heap.get? a=some {cls:=.type "list",data:=.seq vs.toArray}->IntsAre vs ns->ns.length<=n->ai.gens=#[]->
   codeAny (model l.prog w) callerA (.call (.ref fa) ⟨[.ref a],[]⟩) (λr s'=>r= .ok (.ret (.bool true))/\OldK ai.heap s'.heap/\s'.os=ai.os/\AllBare s'.gens) ai):
  WalkO q loose XP YP l.row.toRowW d [] (λf vs=>PySem.call f vs):=by
 intro w ar ai mg mb G Yq fa o pm cd doc dV kV ho hd dR hD hmg hg args vals as kK RG hrd Ce hlo;obtain rfl:dV= .none:=Dflts.none hD rQ;obtain rfl:kV= .none:=Dflts.noKw hD;obtain⟨a,vs,ns,rfl,rfl,nO,hints,hlen⟩:=RC hn kK Ce;refine enter_call (codeAny_mono (call w ar ai mg mb fa o pm cd doc a vs ns G Yq ho (fd_plain hd) dR hmg nO hints hlen hg) λr s' hq=>?_);obtain⟨rfl,h2,h3,h4⟩:=hq;exact⟨.inl ⟨.bool true,.bool true,[],rfl,λ_=>rfl,.bool true,RE l _,λ_=>⟨List.Pairwise.nil,λ_ hm=>(nomatch hm)⟩⟩,h2,h3,h4⟩
end JZ
namespace L2
open PySem PySem.Spec PyProof.Rows
theorem J1:∀{vs:List Value}{ns:List Int},IntsAre vs ns->Vals (ns.map V.int) vs
 |_,_,.nil=>.nil
 |_,_,.cons n t h=>.cons ⟨t,rfl⟩ (J1 h)
noncomputable def xB (H:Hp):Prop:=∀b,H b=none\/∃o xs,H b=some (.aA o (.lst xs))
theorem RH {P:Program}{w:World}{K:PySem.W.Frag}{mg mb:Str->Option Value}{CX:eP}{k:Nat}{fa a:Addr}{fd:FuncData}{x:Str}{sp:Sp}{ai:Shared}{vs:List Value}{ns:List Int}(KX:K.In ai.heap)(pK:ai.heap.Ns mainGlobals mg)(hb:ai.heap.Ns builtinsNs mb)(RI:∀x:Str,x≠"__name__"->mb x=bootBuiltins x)(Cf:ai.heap.NoLimit)(hg:ai.gens=#[])(ha:ai.heap.get? a=some {cls:=.type "list",data:=.seq vs.toArray})(hi:IntsAre vs ns)(hl:ns.length<=sizeLine)(hr:aT k callerA)(F:∀base:Heap,K.In base->base.Ns mainGlobals mg->xm P w K mg base CX k fa fd [x] sp)(rR:∀(s:Shared)(u:Value),BindsTo s fd ⟨[u],[]⟩ [(x,u)])(gW:∀H:Hp,xB H->ag K H a (ns.map V.int)->sp [.ref a] H (λv _=>v= .bl true) λ_ _ _=>False)(rT:∀H e s',CX [] H ai (λ_ _ _=>False) e s'->False):
  codeAny (model P w) callerA (.call (.ref fa) ⟨[.ref a],[]⟩) (λr s'=>r= .ok (.ret (.bool true))/\OldK ai.heap s'.heap/\s'.os=ai.os/\AllBare s'.gens) ai:=by
 have rv:=J1 hi;have Cg:=hi.length;have core:∀H:Hp,xB H->ag K H a (ns.map V.int)->bG P w H ai.heap->(∀b,H b≠none->b=a)->(H a≠none->K.lookup a=none)->codeAny (model P w) callerA (.call (.ref fa) ⟨[.ref a],[]⟩) (λr s'=>r= .ok (.ret (.bool true))/\OldK ai.heap s'.heap/\s'.os=ai.os/\AllBare s'.gens) ai:=by
  intro H hO hS af hA hK;have fQ:∀{b:Addr}{o:Obj},ai.heap.get? b=some o->H b=none->(jW ai.heap H).get? b=some o:=λe n=>PR e n;have rG:∀{b:Addr}{o:Obj}{es:Array DictEntry}{ep:Nat},ai.heap.get? b=some o->o.data= .dict es ep->H b=none:=λ{b o es ep} e d=>by
   cases q:H b with
   |none=>rfl
   |some u=>have e':b=a:=hA b (by rw[q];simp);subst e';rw[ha]at e;cases e;have d':Data.seq vs.toArray _=Data.dict es ep:=d;cases d'
  have xC:∀{b:Addr}{m:Str->Option Value},ai.heap.Ns b m->(jW ai.heap H).Ns b m:=λ{b m} ⟨o,es,ep,e,d,r⟩=>⟨o,es,ep,fQ e (rG e d),d,r⟩;have J2:K.In (jW ai.heap H):=λb o e=>fQ (KX b o e) (by
   cases q:H b with
   |none=>rfl
   |some u=>have e':b=a:=hA b (by rw[q];simp);subst e';rw[hK (by rw[q];simp)]at e;cases e)
  have hM:Mod K mg (jW ai.heap H):=⟨J2,xC pK,⟨mb,xC hb,RI⟩,let⟨mc,h1,h2⟩:=Cf;⟨mc,xC h1,h2⟩⟩;have e0:nJ P w K mg (jW ai.heap H) callerA [] ai H:=⟨rfl,hM,λb o e=>PU e,Nat.le_of_eq (PQ _ _),trivial,λb hb=>absurd (show b∈([]:List Addr)from hb) (by simp),af,.of_eq hg⟩;refine codeAny_mono ((F _ J2 (xC pK)).run callerA [] ai H ⟨[.ref a],[]⟩ [.ref a] [.ref a] _ _ hr e0 (rR ai (.ref a)) (.cons rfl .nil) (gW H hO hS)) λr s' h=>?_;cases r with
  |error e=>exact(rT H e s' h).elim
  | ok fl=>
   cases fl with
   |next=>exact False.elim h
   |brk=>exact False.elim h
   |cont=>exact False.elim h
   | ret u=>
    obtain⟨v,H',os,bare,un,Ci,r',q⟩:=h;have q':v= .bl true:=q;subst q';obtain rfl:u=Value.bool true:=r';refine⟨rfl,OldK.of_keep λb o e=>?_,os,bare⟩;cases q:H b with
    |none=>exact un.keep b o e q (by intro z;exact absurd (show b∈([]:List Addr)from z) (by simp)) (by simp)
    |some u=>
     rcases hO b with z|⟨ob,xs,z⟩
     .rw[q]at z;cases z
     .have z2:=un.dh b ob _ z;obtain⟨e1,_⟩:=af b _ z;obtain⟨e2,_⟩:=Ci b _ z2;rw[e]at e1;cases e1;exact e2
 cases hk:K.lookup a with
 |some o=>have e:=KX a o hk;rw[ha]at e;cases e;refine core (λ_=>none) (λ_=>.inl rfl) (.inr ⟨_,vs.toArray,_,hk,rfl,rfl,rfl,by rw[size_toArray,Cg];exact hl,by simpa using rv⟩) (λb u z=>by have z':(none:Option HO)=some u:=z;cases z') (λb z=>absurd rfl z) λz=>absurd rfl z
 | none=>
  refine core (λb=>if b=a then some (.aA {cls:=.type "list",data:=.seq vs.toArray} (.lst (ns.map V.int)))else none) (λb=>?_) (.inl (.inr ⟨{cls:=.type "list",data:=.seq vs.toArray},if_pos rfl⟩)) (λb u z=>?_) (λb z=>?_) λ_=>hk
  .by_cases hb:b=a
   .exact .inr ⟨_,_,if_pos hb⟩
   .exact .inl (if_neg hb)
  .by_cases hb:b=a
   .have z':=(if_pos hb).symm.trans z;cases z';subst hb;exact⟨ha,by rw[length_map];exact hl,vs,_,rv,ha⟩
   .have z':=(if_neg hb).symm.trans z;cases z'
  .by_cases hb:b=a
   .exact hb
   .exact absurd (if_neg hb) z
theorem RJ {l:PySem.W.OpenLaw}{n k:Nat}{q:Program}{loose:List Str}{XP:(Str->Option Value)->Heap->Prop}{YP:World->Heap->Prop}{d:DefRec}{K:Params->PySem.W.Frag}{CX:World->eP}{sp:World->Sp}{x:Str}(hn:l.most=some n)(kG:n<=sizeLine)(rQ:d.params.defaults=[])(hr:aT k callerA)(hY:∀(w:World)(h:Heap),YP w h->(K w.params).In h)(F:∀(w:World)(mg:Str->Option Value)(fa:Addr)(h:Heap),(K w.params).In h->h.Ns mainGlobals mg->mg d.name=some (.ref fa)->∃fd:FuncData,(∀(s:Shared)(u:Value),BindsTo s fd ⟨[u],[]⟩ [(x,u)])/\∀base:Heap,(K w.params).In base->base.Ns mainGlobals mg->xm l.prog w (K w.params) mg base (CX w) k fa fd [x] (sp w))(gW:∀(w:World)(H:Hp)(a:Addr)(ns:List Int),ns.length<=n->xB H->ag (K w.params) H a (ns.map V.int)->sp w [.ref a] H (λv _=>v= .bl true) λ_ _ _=>False)(rT:∀(w:World)(H:Hp)(s:Shared)(e:Value)(s':Shared),CX w [] H s (λ_ _ _=>False) e s'->False):
  PySem.W.WalkO q loose XP YP l.row.toRowW d [] (λf vs=>PySem.call f vs):=by
 refine JZ.RF hn rQ λw ar ai mg mb fa o pm cd doc a vs ns G Yq ho hd dR hmg nO hints hlen hg=>?_;have KX:=hY w _ Yq;obtain⟨fd,hb,hF⟩:=F w mg fa _ KX G.T.g hmg;exact RH KX G.T.g G.T.b G.T.builtins G.T.nolimit hg nO hints (le_trans hlen kG) hr hF hb (λH hO hS=>gW w H a ns hlen hO hS) λH e s'=>rT w H ai e s'
theorem j2a {l:PySem.W.OpenLaw}{n k:Nat}{q:Program}{loose:List Str}{XP:(Str->Option Value)->Heap->Prop}{YP:World->Heap->Prop}{d:DefRec}{K:Params->PySem.W.Frag}{CX:eP}{sp:PySem.W.Frag->Sp}{x:Str}(hn:l.most=some n)(kG:n<=sizeLine)(rQ:d.params.defaults=[])(hr:aT k callerA)(hY:∀(w:World)(h:Heap),YP w h->(K w.params).In h)(F:∀(w:World)(mg:Str->Option Value)(fa:Addr)(h:Heap),(K w.params).In h->h.Ns mainGlobals mg->mg d.name=some (.ref fa)->∃fd:FuncData,(∀(s:Shared)(u:Value),BindsTo s fd ⟨[u],[]⟩ [(x,u)])/\∀base:Heap,(K w.params).In base->base.Ns mainGlobals mg->xm l.prog w (K w.params) mg base CX k fa fd [x] (sp (K w.params)))(gW:∀(K:PySem.W.Frag)(H:Hp)(a:Addr)(ns:List Int),ns.length<=n->xB H->ag K H a (ns.map V.int)->sp K [.ref a] H (λv _=>v= .bl true) λ_ _ _=>False)(rT:∀(H:Hp)(s:Shared)(e:Value)(s':Shared),CX [] H s (λ_ _ _=>False) e s'->False):
  PySem.W.WalkO q loose XP YP l.row.toRowW d [] (λf vs=>PySem.call f vs):=
 RJ (K:=K) (CX:=λ_=>CX) (sp:=λw=>sp (K w.params)) hn kG rQ hr hY F (λw H a ns h1 h2 h3=>gW (K w.params) H a ns h1 h2 h3) λ_ H s e s'=>rT H s e s'
noncomputable def inClass (s:Stmt)(j:Nat):Stmt:=match s with
 | .ClassDef _ _ _ body _ _ _ _ _ _ _=>body.getD j (.Pass ⟨0,0,0,0⟩)
 |_=>.Pass ⟨0,0,0,0⟩
noncomputable def pL (s:Stmt):Arguments:=match s with
 | .FunctionDef _ a _ _ _ _ _ _ _ _=>a
 |_=>{posonlyargs:=[],args:=[],vararg:=none,kwonlyargs:=[],kw_defaults:=[],kwarg:=none,defaults:=[]}
noncomputable def gX (s:Stmt):List Stmt:=match s with
 | .FunctionDef _ _ b _ _ _ _ _ _ _=>b
 |_=>[]
noncomputable def ju (s:Stmt):Scope:=match s with
 | .FunctionDef _ _ _ _ _ _ sc _ _ _=>sc
 |_=>{kind:=.function,names:=[],isGenerator:=false,isCoroutine:=false}
noncomputable abbrev CX0:eP:=λ_ _ _ _ _ _=>False
noncomputable abbrev E0:XK:=λ_ _ _=>False
theorem jn {X:Cx}:Passes CX0 X E0:=λ_ _ _ _ _ _ _ h=>h.elim
structure av (K:PySem.W.Frag)(x qual:Str)(st:Stmt)(f:Addr)(fd:FuncData):Prop where
 ex:∃(oc:Value)(od:Option Addr)(kV doc pm:Value)(an:Option Addr)(aB ct:Value)(jB:Array (Option Value)),fd=PySem.W.fnOf x qual (pL st) (gX st) (ju st) .none kV doc pm an aB ct/\K.lookup f=some ⟨oc,od,.func fd,jB⟩/\PySem.W.codeIn K aB qual=true
 kp:PySem.W.keepIn K (.ref f)=true
section
variable {P:Program}{w:World}{K:PySem.W.Frag}{mg:Str->Option Value}{base:Heap}
theorem av.ok {x qual:Str}{st:Stmt}{f:Addr}{fd:FuncData}{N ps:List Str}{k:Nat}{sp:Sp}(F:av K x qual st f fd)(S:qi N ps (ju st))(len:∀vs H Q E,sp vs H Q E->vs.length=ps.length)(aW:∀(aB:Value)(A:Around)(outer:List Env)(s:Shared)(H:Hp)(vs:List V)(Q:VK)(E:XK),aT k (A.deeper (envOfC qual (ju st) s.heap.objs.size f aB))->sp vs H Q E->∃t,cL (cR CX0 P w K mg base N qual (ju st) f aB A outer s H E).pE (gX st) t/\t {nx:=λ_ H'=>Q .aj H',rt:=Q} (start N vs) H):xm P w K mg base CX0 (k+1) f fd ps sp:=by
 obtain⟨oc,od,kV,doc,pm,an,aB,ct,jB,rfl,lk,dR⟩:=F.ex;refine JJ lk dR S len λA outer s H vs Q E hr gW=>?_;obtain⟨t,h,q⟩:=aW aB A outer s H vs Q E hr gW;exact⟨t,h.pE,q⟩
theorem av.cz {x qual:Str}{st:Stmt}{f:Addr}{fd:FuncData}{N ps:List Str}{k:Nat}{sp:Sp}(F:av K x qual st f fd)(S:qi N ps (ju st))(aW:∀(aB:Value)(A:Around)(outer:List Env)(s:Shared)(H:Hp)(vs:List V)(Q:VK)(E:XK),aT k (A.deeper (envOfC qual (ju st) s.heap.objs.size f aB))->sp vs H Q E->∃t,cL (cR CX0 P w K mg base N qual (ju st) f aB A outer s H E).pE (gX st) t/\t {nx:=λ_ H'=>Q .aj H',rt:=Q} (start N vs) H)(len:autoParam (∀vs H Q E,sp vs H Q E->vs.length=ps.length) aP6):xm P w K mg base CX0 (k+1) f fd ps sp:=F.ok S len aW
theorem av.aZ {x qual:Str}{st:Stmt}{f:Addr}{fd:FuncData}{N ps:List Str}{k:Nat}{sp:Sp}(F:av K x qual st f fd)(aW:∀(aB:Value)(A:Around)(outer:List Env)(s:Shared)(H:Hp)(vs:List V)(Q:VK)(E:XK),aT k (A.deeper (envOfC qual (ju st) s.heap.objs.size f aB))->sp vs H Q E->∃t,cL (cR CX0 P w K mg base N qual (ju st) f aB A outer s H E).pE (gX st) t/\t {nx:=λ_ H'=>Q .aj H',rt:=Q} (start N vs) H)(S:autoParam (qi N ps (ju st)) aP8)(len:autoParam (∀vs H Q E,sp vs H Q E->vs.length=ps.length) aP6):xm P w K mg base CX0 (k+1) f fd ps sp:=F.ok S len aW
theorem av.binds {x qual:Str}{st:Stmt}{f:Addr}{fd:FuncData}{ps:List Str}(F:av K x qual st f fd)(h:∀(kV doc pm:Value)(an:Option Addr)(aB ct:Value)(us:List Value),us.length=ps.length->bindArgs (PySem.W.fnOf x qual (pL st) (gX st) (ju st) .none kV doc pm an aB ct) ⟨us,[]⟩=pure (ps.zip us)):Binds K fd ps []:=by
 obtain⟨oc,od,kV,doc,pm,an,aB,ct,jB,rfl,lk,dR⟩:=F.ex;exact .all (h kV doc pm an aB ct)
theorem jj {x qual:Str}{st:Stmt}{f:Addr}{oc:Value}{od an:Option Addr}{jB:Array (Option Value)}{kV doc pm aB ct:Value}(l:K.lookup f=some ⟨oc,od,.func (PySem.W.fnOf x qual (pL st) (gX st) (ju st) .none kV doc pm an aB ct),jB⟩)(c:PySem.W.codeIn K aB qual=true)(k:PySem.W.keepIn K (.ref f)=true):av K x qual st f (PySem.W.fnOf x qual (pL st) (gX st) (ju st) .none kV doc pm an aB ct):=⟨⟨oc,od,kV,doc,pm,an,aB,ct,jB,rfl,l,c⟩,k⟩
end
theorem fR {A:Around}{k:Nat}(hr:aT k A):A.units+1<cLine:=lt_of_le_of_lt (Nat.add_le_add_left (by decide:1<=64) _) hr.units
theorem xi {n:Nat}(h:n<=1000):n<sizeLine:=lt_of_le_of_lt h (by decide)
section
variable {X:Cx}
theorem pv (i:Nat){x:Str}{pos:Pos}(hN:autoParam (X.N[i]?=some x) aP1)(hv:qX X.env.scope x:=by first|exact Or.inl rfl|exact Or.inr (Or.inl rfl)|exact Or.inr (Or.inr rfl))(hd:autoParam ((x==("__debug__":Str))=false) aP2)(dR:autoParam ((x==("__classdict__":Str))=false) aP2):PE X (.Name x pos) (IL i):=PX hN hv hd dR
end
theorem vd {A Bq:Prop}(h:Bq):if false=true then A else Bq:=by rw[if_neg Bool.false_ne_true];exact h
theorem bM {A Bq:Prop}(h:A):if true=true then A else Bq:=by rw[if_pos rfl];exact h
theorem bq {c A Bq:Prop}[Decidable c](h1:c->A)(h2:¬c->Bq):if c then A else Bq:=by
 by_cases h:c
 .rw[if_pos h];exact h1 h
 .rw[if_neg h];exact h2 h
noncomputable def xp (H H':Hp):Prop:=∀b o,H b=some o->H' b=some o
theorem xp.refl (H:Hp):xp H H:=λ_ _ h=>h
theorem xp.trans {H H1 H2:Hp}(a:xp H H1)(b:xp H1 H2):xp H H2:=λc o h=>b c o (a c o h)
theorem xp.free {H H':Hp}(e:xp H H'){l:Addr}(h:H' l=Option.none):H l=Option.none:=by
 cases q:H l with
 |none=>rfl
 |some o=>rw[e l o q]at h;cases h
theorem xp.seq {K:PySem.W.Frag}{H H':Hp}{a:Addr}{xs:List V}(e:xp H H')(h:ag K H a xs):ag K H' a xs:=by
 rcases h with(h|⟨o,h⟩)|h
 .exact .inl (.inl (e _ _ h))
 .exact .inl (.inr ⟨o,e _ _ h⟩)
 .exact .inr h
section
variable {B:Type}[DecidableEq B]
noncomputable def aX (kvs:List (B×V))(k:B):Option V:=(kvs.find? λkv=>decide (kv.1=k)).map (·.2)
noncomputable def putK (kvs:List (B×V))(k:B)(v:V):List (B×V):=if(kvs.any λkv=>decide (kv.1=k))=true then kvs.map (λkv=>if kv.1=k then(kv.1,v)else kv)else kvs++[(k,v)]
theorem iz {p:B×V}{r:List (B×V)}{k:B}(e:p.1=k):aX (p::r) k=some p.2:=by simp[aX,find?_cons,e]
theorem uj {p:B×V}{r:List (B×V)}{k:B}(e:¬p.1=k):aX (p::r) k=aX r k:=by simp[aX,find?_cons,e]
theorem xD (k:B):∀kvs:List (B×V),(kvs.any λkv=>decide (kv.1=k))=(aX kvs k).isSome
 |[]=>rfl
 |p::r=>by
  rw[any_cons];by_cases e:p.1=k
  .simp only[iz e,decide_eq_true e,Bool.true_or,Option.isSome_some]
  .rw[uj e,decide_eq_false e,Bool.false_or];exact xD k r
theorem rW (kvs:List (B×V))(k:B)(v:V):(putK kvs k v).length<=kvs.length+1:=by
 unfold putK;split
 .rw[length_map];lia
 .rw[length_append,length_cons,length_nil];lia
theorem rX {kvs:List (B×V)}{k:B}(v:V)(h:aX kvs k=none):putK kvs k v=kvs++[(k,v)]:=by unfold putK;rw[xD,h];exact if_neg (by decide)
theorem dD.rY {o:Option V}{u:Option Value}(r:dD o u):o.isSome=u.isSome:=by
 cases o with
 |none=>cases u with
  |none=>rfl
  |some _=>exact(show False from r).elim
 |some _=>cases u with
  |none=>exact(show False from r).elim
  |some _=>rfl
theorem dD.getD {o:Option V}{u:Option Value}{d:V}{d':Value}(r:dD o u)(rd:RelV d d'):RelV (o.getD d) (u.getD d'):=by
 cases o with
 |none=>cases u with
  |none=>exact rd
  |some _=>exact(show False from r).elim
 |some _=>cases u with
  |none=>exact(show False from r).elim
  |some _=>exact r
theorem KV.val {kvs:List (B×V)}{vs:List (B×Value)}(r:KV kvs vs)(k:B):dD (aX kvs k) (valueAt vs k):=by
 unfold KV at r;induction r with
 |nil=>exact True.intro
 | @cons p q ps qs h t ih=>
  obtain⟨h1,h2⟩:=h;by_cases e:p.1=k
  .have e':q.1=k:=h1.symm.trans e;have b:valueAt (q::qs) k=some q.2:=by simp[valueAt,find?_cons,e']
   rw[iz e,b];exact h2
  .have e':¬q.1=k:=λz=>e (h1.trans z);have b:valueAt (q::qs) k=valueAt qs k:=by simp[valueAt,find?_cons,e']
   rw[uj e,b];exact ih
theorem KV.any {kvs:List (B×V)}{vs:List (B×Value)}(r:KV kvs vs)(k:B):(kvs.any λkv=>decide (kv.1=k))=vs.any λkv=>decide (kv.1=k):=by
 unfold KV at r;induction r with
 |nil=>rfl
 |cons h t ih=>rw[any_cons,any_cons,ih,h.1]
theorem KV.Cj {kvs:List (B×V)}{vs:List (B×Value)}(r:KV kvs vs)(k:B){y:V}{u:Value}(ry:RelV y u):KV (kvs.map λkv=>if kv.1=k then(kv.1,y)else kv) (vs.map λkv=>if kv.1=k then(kv.1,u)else kv):=by
 unfold KV at r⊢;induction r with
 |nil=>exact .nil
 |@cons p q ps qs h t ih=>
  rw[map_cons,map_cons];refine .cons ?_ ih;obtain⟨h1,h2⟩:=h;by_cases e:p.1=k
  .rw[if_pos e,if_pos (h1.symm.trans e)];exact⟨h1,ry⟩
  .rw[if_neg e,if_neg (λz=>e (h1.trans z))];exact⟨h1,h2⟩
theorem KV.put {kvs:List (B×V)}{vs:List (B×Value)}(r:KV kvs vs)(k:B){y:V}{u:Value}(ry:RelV y u):KV (putK kvs k y) (stored vs k u):=by
 unfold putK stored;rw[r.any k];by_cases e:(vs.any λkv=>decide (kv.1=k))=true
 .rw[if_pos e,if_pos e];exact r.Cj k ry
 .rw[if_neg e,if_neg e];exact Paired.snoc r ⟨rfl,ry⟩
theorem KV.length {kvs:List (B×V)}{vs:List (B×Value)}(r:KV kvs vs):kvs.length=vs.length:=Paired.length r
end
theorem mh {P:Program}{w:World}{k:Key}{u:Value}(r:RelV (kV k) u):(qg P w).is k u=true:=by
 cases k with
 |inl i=>obtain⟨t,e⟩:=(show ∃t,u=Value.int i t from r);subst e;exact PM P w i t
 |inr x=>obtain⟨t,e⟩:=(show ∃t,u=Value.str x t from r);subst e;exact PN P w x t
theorem J3 {P:Program}{w:World}:∀{ks:List Key}{us:List Value},Vals (ks.map kV) us->ItemsAre (qg P w) ks us
 |[],_,r=>by rw[map_nil]at r;cases r;exact .nil
 |k::ks,_,r=>by
  rw[map_cons]at r;cases r with
  |cons h t=>exact .cons (mh h) (J3 t)
noncomputable abbrev KT (H:Hp):List (List Key×V)->List (List Key×Addr×Value)->Prop:=Paired λp q=>p.1=q.1/\H q.2.1=some (.tup (p.1.map kV))/\RelV p.2 q.2.2
theorem KT.val {H:Hp}{kvs:List (List Key×V)}{xs:List (List Key×Addr×Value)}(r:KT H kvs xs)(k:List Key):dD (aX kvs k) ((atKey xs k).map (·.2)):=by
 induction r with
 |nil=>exact True.intro
 | @cons p q ps qs h t ih=>
  obtain⟨h1,_,h2⟩:=h;by_cases e:p.1=k
  .have e':q.1=k:=h1.symm.trans e;have b:atKey (q::qs) k=some q.2:=by simp[atKey,find?_cons,e']
   rw[iz e,b];exact h2
  .have e':¬q.1=k:=λz=>e (h1.trans z);have b:atKey (q::qs) k=atKey qs k:=by simp[atKey,find?_cons,e']
   rw[uj e,b];exact ih
theorem KT.Cj {H:Hp}{kvs:List (List Key×V)}{xs:List (List Key×Addr×Value)}(r:KT H kvs xs)(k:List Key){y:V}{u:Value}(ry:RelV y u):KT H (kvs.map λkv=>if kv.1=k then(kv.1,y)else kv) (xs.map (putAt k u)):=by
 induction r with
 |nil=>exact .nil
 |@cons p q ps qs h t ih=>
  rw[map_cons,map_cons];refine .cons ?_ ih;obtain⟨h1,h2,h3⟩:=h;unfold putAt;by_cases e:p.1=k
  .rw[if_pos e,if_pos (h1.symm.trans e)];exact⟨h1,h2,ry⟩
  .rw[if_neg e,if_neg (λz=>e (h1.trans z))];exact⟨h1,h2,h3⟩
theorem KT.put {H:Hp}{kvs:List (List Key×V)}{xs:List (List Key×Addr×Value)}(r:KT H kvs xs)(k:List Key){b:Addr}{y:V}{u:Value}(hb:H b=some (.tup (k.map kV)))(ry:RelV y u):KT H (putK kvs k y) (storedH xs k b u):=by
 have e:(kvs.any λkv=>decide (kv.1=k))=(atKey xs k).isSome:=by rw[xD,(r.val k).rY,Option.isSome_map]
 unfold putK storedH;rw[e];by_cases q:(atKey xs k).isSome=true
 .rw[if_pos q,if_pos q];exact r.Cj k ry
 .rw[if_neg q,if_neg q];exact Paired.snoc r ⟨rfl,hb,ry⟩
theorem KT.keeps {H H':Hp}{kvs:List (List Key×V)}{xs:List (List Key×Addr×Value)}(r:KT H kvs xs)(ht:∀b ys,H b=some (.tup ys)->H' b=some (.tup ys)):KT H' kvs xs:=Paired.ub r λ_ _ z=>⟨z.1,ht _ _ z.2.1,z.2.2⟩
section
variable {P:Program}{w:World}{H:Hp}{h:Heap}{a:Addr}
theorem J4 {u:HO}(ok:bG P w H h)(e:Rd H a u):yx P w H h a u:=e.ok ok
theorem mi {kvs:List (Key×V)}(ok:bG P w H h)(e:Rd H a (.dK kvs)):kvs.length<=sizeLine/\(a==sysModules)=false/\∃vs,KV kvs vs/\h.DictOf (qg P w) a vs:=show yx P w H h a (.dK kvs)from J4 ok e
theorem J6 {kvs:List (Key×V)}(ok:bG P w H h)(e:H a=some (.dK kvs)):kvs.length<=sizeLine/\(a==sysModules)=false/\∃vs,KV kvs vs/\h.DictOf (qg P w) a vs:=mi ok (.inl e)
theorem kM {ks:List Key}(ok:bG P w H h)(e:H a=some (.tup (ks.map kV))):(tupleKind (qg P w)).is h ks a:=by obtain⟨_,its,r,o,h1,h2,n,h3⟩:=(show yx P w H h a (.tup (ks.map kV))from ok a _ e);exact⟨o,its.toArray,n,h1,h2,h3,by simpa using J3 r⟩
theorem mj {kvs:List (List Key×V)}(ok:bG P w H h)(e:Rd H a (.dT kvs)):kvs.length<=sizeLine/\(a==sysModules)=false/\∃xs,KT H kvs xs/\h.DictOfH (tupleKind (qg P w)) a xs:=by
 obtain⟨z,y,xs,r,o,es,ep,h1,h2,h3,h4,h5⟩:=(show yx P w H h a (.dT kvs)from J4 ok e);refine⟨z,y,xs,r,o,es,ep,h1,h2,h3,h4,λx hx=>?_,h5⟩;have all:∀{l:List (List Key×V)}{m:List (List Key×Addr×Value)},KT H l m->∀x∈m,(tupleKind (qg P w)).is h x.1 x.2.1:=by
  intro l m q;induction q with
  |nil=>intro x hx;exact nomatch hx
  |@cons p q ps qs hq t ih=>
   intro x hx;rcases mem_cons.mp hx with e|hx
   .subst e;exact kM ok (by rw[<-hq.1];exact hq.2.1)
   .exact ih x hx
 exact all r x hx
theorem Ck {kvs:List (List Key×V)}(ok:bG P w H h)(e:H a=some (.dT kvs)):kvs.length<=sizeLine/\(a==sysModules)=false/\∃xs,KT H kvs xs/\h.DictOfH (tupleKind (qg P w)) a xs:=mj ok (.inl e)
end
noncomputable def iA (H:Hp)(a:Addr)(y:V)(r:Option V):Prop:=(∃kvs k,Rd H a (.dK kvs)/\y=kV k/\r=aX kvs k)\/∃kvs k b,Rd H a (.dT kvs)/\y= .ref b/\H b=some (.tup (k.map kV))/\r=aX kvs k
noncomputable def gY (H:Hp)(a:Addr)(y v:V)(H':Hp):Prop:=(∃kvs k,H a=some (.dK kvs)/\y=kV k/\kvs.length<sizeLine/\H'=upd H a (.dK (putK kvs k v)))\/∃kvs k b,H a=some (.dT kvs)/\y= .ref b/\H b=some (.tup (k.map kV))/\kvs.length<sizeLine/\H'=upd H a (.dT (putK kvs k v))
theorem gY.k {H:Hp}{a:Addr}{kvs:List (Key×V)}{k:Key}{v:V}(e:H a=some (.dK kvs))(hl:kvs.length<sizeLine):gY H a (kV k) v (upd H a (.dK (putK kvs k v))):=.inl ⟨kvs,k,e,rfl,hl,rfl⟩
theorem gY.t {H:Hp}{a b:Addr}{kvs:List (List Key×V)}{k:List Key}{v:V}(e:H a=some (.dT kvs))(eb:H b=some (.tup (k.map kV)))(hl:kvs.length<sizeLine):gY H a (.ref b) v (upd H a (.dT (putK kvs k v))):=.inr ⟨kvs,k,b,e,rfl,eb,hl,rfl⟩
section
variable {X:Cx}{pins:List (Addr×Obj)}{U:St}{H:Hp}{s:Shared}{a:Addr}{y v:V}{u r:Value}{o:Option V}{A:Around}{E:Value->Shared->Prop}
theorem Inv.big (I:Inv X pins U H s):sysModules<s.heap.objs.size:=by have h:mainGlobals<s.heap.objs.size:=(I.mod.glob.keeps I.bk).lt;exact Nat.lt_trans (by decide) h
theorem RK {Q:Value->Shared->Prop}(hu:A.units+1<cLine)(I:Inv X pins U H s)(g:iA H a y (some v))(ry:RelV y u)(h:∀w' s',Inv X pins U H s'->RelV v w'->Q w' s'):wpAny (model X.prog X.w) A (getItem (.ref a) u) Q E s:=by
 rcases g with⟨kvs,k,e,ey,l⟩|⟨kvs,k,b,e,ey,eb,l⟩
 .subst ey;obtain⟨z,hd,vs,rel,dd⟩:=mi I.af e;obtain⟨w',hw,cy⟩:=dD.some_of (v:=v) (o:=valueAt vs k) (by rw[l];exact rel.val k);exact wpAny_getItem_of (mh ry) dd.mapOf hw (h w' _ (I.tok _) cy)
 .subst ey;cases(show u=Value.ref b from ry);obtain⟨z,hd,xs,rel,dd⟩:=mj I.af e;obtain⟨w',hw,cy⟩:=dD.some_of (v:=v) (o:=(atKey xs k).map (·.2)) (by rw[l];exact rel.val k);obtain⟨p,hp,RL⟩:=Option.map_eq_some_iff.mp hw;refine wpAny_getItem_heap (tupleKind_room_in1 hu) (kM I.af eb) dd hp ?_;rw[RL];exact h w' _ (I.tok _) cy
theorem RM {Q:Value->Shared->Prop}(hu:A.units+1<cLine)(I:Inv X pins U H s)(g:iA H a y o)(ry:RelV y u)(h:∀s',Inv X pins U H s'->Q (.bool o.isSome) s'):wpAny (model X.prog X.w) A (compareOp .In u (.ref a)) Q E s:=by
 rcases g with⟨kvs,k,e,ey,l⟩|⟨kvs,k,b,e,ey,eb,l⟩
 .subst ey;obtain⟨z,hd,vs,rel,dd⟩:=mi I.af e;refine wpAny_in_of (mh ry) hd dd.mapOf ?_;rw[<-(rel.val k).rY,<-l];exact h _ (I.tok _)
 .subst ey;cases(show u=Value.ref b from ry);obtain⟨z,hd,xs,rel,dd⟩:=mj I.af e;refine wpAny_in_heap (tupleKind_room_in1 hu) (kM I.af eb) hd dd ?_;have q:=(rel.val k).rY;rw[Option.isSome_map]at q;rw[<-q,<-l];exact h _ (I.tok _)
theorem RN {Q:Value->Shared->Prop}(hu:A.units+1<cLine)(I:Inv X pins U H s)(g:iA H a y o)(ry:RelV y u)(h:∀s',Inv X pins U H s'->Q (.bool (!o.isSome)) s'):wpAny (model X.prog X.w) A (compareOp .NotIn u (.ref a)) Q E s:=by
 rcases g with⟨kvs,k,e,ey,l⟩|⟨kvs,k,b,e,ey,eb,l⟩
 .subst ey;obtain⟨z,hd,vs,rel,dd⟩:=mi I.af e;refine wpAny_notIn_of (mh ry) hd dd.mapOf ?_;rw[<-(rel.val k).rY,<-l];exact h _ (I.tok _)
 .subst ey;cases(show u=Value.ref b from ry);obtain⟨z,hd,xs,rel,dd⟩:=mj I.af e;refine wpAny_notIn_heap (tupleKind_room_in1 hu) (kM I.af eb) hd dd ?_;have q:=(rel.val k).rY;rw[Option.isSome_map]at q;rw[<-q,<-l];exact h _ (I.tok _)
theorem rZ {h':Heap}{t':Nat}{ob:HO}(I:Inv X pins U H s)(mu:gA (H a))(hs:Heap.SameBut a s.heap h')(he:∃q,h'.get? a=some q)(new:yx X.prog X.w (upd H a ob) h' a ob):Inv X pins U (upd H a ob) {s with heap:=h',toks:=t'}:=
 I.write (x:=a) (e:=a) mu (.inl rfl) (λb q hb z=>(hs.2 b hb).trans z) he new
theorem J7 {P:Program}{w:World}{H':Hp}{h':Heap}{kvs:List (Key×V)}{vs:List (Key×Value)}(z:kvs.length<=sizeLine)(hd:(a==sysModules)=false)(rel:KV kvs vs)(dd:h'.DictOf (qg P w) a vs):yx P w H' h' a (.dK kvs):=⟨z,hd,vs,rel,dd⟩
theorem RO {H':Hp}{Q:Unit->Shared->Prop}(hu:A.units+1<cLine)(I:Inv X pins U H s)(g:gY H a y v H')(ry:RelV y u)(rv:RelV v r)(h:∀s',Inv X pins U H' s'->Q () s'):wpAny (model X.prog X.w) A (setItem (.ref a) u r) Q E s:=by
 rcases g with⟨kvs,k,e,ey,l,eH⟩|⟨kvs,k,b,e,ey,eb,l,eH⟩
 .subst ey eH;obtain⟨z,hd,vs,rel,dd⟩:=J6 I.af e;have hz:vs.length<=sizeLine:=by rw[<-rel.length];exact z
  have hl:(putK kvs k v).length<=sizeLine:=by have:=rW kvs k v;lia
  refine wpAny_setItem_pairs (hsz:=hz) (mh ry) dd λh' iB hs=>h _ ?_;have he:∃q,h'.get? a=some q:=let⟨q,_,_,hq,_⟩:=iB;⟨q,hq⟩;exact rZ I (by rw[e];exact True.intro) hs he (J7 hl hd (rel.put k rv) iB)
 .subst ey eH;cases(show u=Value.ref b from ry);obtain⟨z,hd,xs,rel,dd⟩:=Ck I.af e;have hz:xs.length<=sizeLine:=by rw[<-Paired.length rel];exact z
  have hl:(putK kvs k v).length<=sizeLine:=by have:=rW kvs k v;lia
  refine wpAny_setItem_heap (hsz:=hz) (tupleKind_room_in1 hu) (kM I.af eb) dd λh' iB hs=>h _ ?_;obtain⟨q,es,ep,hq,h2,h3,h4,_,h5⟩:=iB;refine rZ I (by rw[e];exact True.intro) hs ⟨q,hq⟩ ⟨hl,hd,_,(rel.put k eb rv).keeps λc ys ec=>?_,q,es,ep,hq,h2,h3,h4,h5⟩;rw[jd (dg ec e (λz=>nomatch z))];exact ec
end
noncomputable def J8 (i:Expr):Prop:=∀ov iv,subscripted i false ov iv=operate [ov,iv] (getItem ov iv)
theorem RP {prog:Program}{w:World}{A:Around}{E:Value->Shared->Prop}{s:Shared}{env:Env}{value slice:Expr}{pos:Pos}{T id:String}{Q:Value->Shared->Prop}(hl:typeLookup (.type T) "__getitem__"=pure (some (.builtin id)))(hs:J8 slice)(h:wpAny (model prog w) A (eval value env) (λo ai=>wpAny (model prog w) A (eval slice env) (λi aa=>aa.TypeIs o T/\wpAny (model prog w) A (getItem o i) Q E aa) E ai) E s):
  wpAny (model prog w) A (eval (.Subscript value slice pos) env) Q E s:=by
 refine Subscript_ (wpAny_mono h (λo ai h₁=>wpAny_mono h₁ (λi aa bV=>?_) λ_ _ x=>x) λ_ _ x=>x);obtain⟨hT,bV⟩:=bV;unfold subscriptTail;refine wpAny_bind ?_;rw[getitemInPython_of_ne hT.not_modules];refine wpAny_bind (wpAny_specialOf hT hl ?_);have fin:wpAny (model prog w) A (subscripted slice false o i) (λr aQ=>wpAny (model prog w) A (letTemporaryGo value o r >>= λ_=>pure r) Q E aQ) E aa:=by rw[hs o i];exact wpAny_operating (wpAny_mono bV (λr aQ fe=>wpAny_bind (wpAny_letTemporaryGo (wpAny_pure fe))) λ_ _ x=>x)
 first
  |exact wpAny_pure (wpAny_bind fin)
  |exact wpAny_bind (wpAny_pure (wpAny_bind fin))
  |exact wpAny_bind fin
theorem RQ {X:Cx}{pins:List (Addr×Obj)}{U:St}{H:Hp}{s:Shared}{a:Addr}{y:V}{o:Option V}(I:Inv X pins U H s)(g:iA H a y o):s.TypeIs (.ref a) "dict":=by
 rcases g with⟨kvs,k,e,_,_⟩|⟨kvs,k,b,e,_,_,_⟩
 .obtain⟨_,_,vs,_,dd⟩:=mi I.af e;exact dd.typeIs
 .obtain⟨_,_,xs,_,dd⟩:=mj I.af e;exact dd.typeIs
noncomputable def RS (td ty:TE):TE:=λU H Q=>td U H λx H1=>ty U H1 λy H2=>∃a v,x= .ref a/\iA H2 a y (some v)/\Q v H2
noncomputable def RT (ty td:TE):TE:=λU H Q=>ty U H λy H1=>td U H1 λx H2=>∃a o,x= .ref a/\iA H2 a y o/\Q (.bl o.isSome) H2
noncomputable def RU (ty td:TE):TE:=λU H Q=>ty U H λy H1=>td U H1 λx H2=>∃a o,x= .ref a/\iA H2 a y o/\Q (.bl (!o.isSome)) H2
noncomputable def RV (td ty tv:TE):TS:=λD U H=>tv U H λv H1=>td U H1 λx H2=>ty U H2 λy H3=>∃a H4,x= .ref a/\gY H3 a y v H4/\D.nx U H4
section
variable {X:Cx}{o i e value:Expr}{pos pos' eX:Pos}{td ty tv:TE}
theorem J9 (hu:X.A.units+1<cLine)(ho:PE X o td)(hi:PE X i ty)(hs:J8 i):PE X (.Subscript o i pos) (RS td ty):=by intro pins s U H Q I h;refine RP PySem.F.slot_dict_getitem.lookup hs (ah (ho pins s U H _ I h) λu s1 ⟨x,H1,I1,rx,q1⟩=>ah (hi pins s1 U H1 _ I1 q1) λiv s2 zQ=>?_);obtain⟨y,H2,I2,ry,a,v,ex,g,q2⟩:=zQ;subst ex;obtain rfl:u=Value.ref a:=rx;exact⟨RQ I2 g,RK hu I2 g ry λw' s3 I3 cy=>⟨v,H2,I3,cy,q2⟩⟩
theorem RW (hu:X.A.units+1<cLine)(hi:PE X i ty)(ho:PE X o td):PC X .In i o (RT ty td):=by intro pins s U H Q I h;refine ah (hi pins s U H _ I h) λiv s1 ⟨y,H1,I1,ry,q1⟩=>ah (ho pins s1 U H1 _ I1 q1) λu s2 zQ=>?_;obtain⟨x,H2,I2,rx,a,ov,ex,g,q2⟩:=zQ;subst ex;obtain rfl:u=Value.ref a:=rx;exact RM hu I2 g ry λs3 I3=>⟨.bl ov.isSome,H2,I3,rfl,q2⟩
theorem Cm (hu:X.A.units+1<cLine)(hi:PE X i ty)(ho:PE X o td):PC X .NotIn i o (RU ty td):=by intro pins s U H Q I h;refine ah (hi pins s U H _ I h) λiv s1 ⟨y,H1,I1,ry,q1⟩=>ah (ho pins s1 U H1 _ I1 q1) λu s2 zQ=>?_;obtain⟨x,H2,I2,rx,a,ov,ex,g,q2⟩:=zQ;subst ex;obtain rfl:u=Value.ref a:=rx;exact RN hu I2 g ry λs3 I3=>⟨.bl (!ov.isSome),H2,I3,rfl,q2⟩
theorem Ka (hu:X.A.units+1<cLine)(ho:PE X o td)(hi:PE X i ty)(hv:PE X value tv)(hs:swapsWith value (some (.Subscript o i pos')) pos.line X.env=pure false):PS X (.Assign [.Subscript o i pos'] value pos) (RV td ty tv):=by
 intro pins s U H D I h;refine wpAny_Assign_Subscript (ah (hv pins s U H _ I h) λr s1 ⟨v,H1,I1,rv,q1⟩=>ah (ho pins s1 U H1 _ I1 q1) λu s2 ⟨x,H2,I2,rx,q2⟩=>ah (hi pins s2 U H2 _ I2 q2) λiv s3 zQ=>?_) hs;obtain⟨y,H3,I3,ry,a,H4,ex,g,q3⟩:=zQ;subst ex;obtain rfl:u=Value.ref a:=rx;exact RO hu I3 g ry rv λs4 I4=>⟨U,H4,I4,q3⟩
end
theorem RX {P:Program}{w:World}{H:Hp}(h:Heap)(hb:sysModules<h.objs.size):yx P w H (h.push {cls:=.type "dict",data:=.dict #[]}) h.objs.size (.dK []):=⟨zero_le _,beq_eq_false_iff_ne.mpr (Ne.symm (ne_of_lt hb)),[],.nil,Heap.DictOf.new h⟩
theorem Kb {P:Program}{w:World}{H:Hp}(h:Heap)(hb:sysModules<h.objs.size):yx P w H (h.push {cls:=.type "dict",data:=.dict #[]}) h.objs.size (.dT []):=⟨zero_le _,beq_eq_false_iff_ne.mpr (Ne.symm (ne_of_lt hb)),[],.nil,_,#[],0,Heap.get?_push_size _ rfl,⟨rfl,rfl,rfl⟩,rfl,rfl,nodup_nil⟩
noncomputable def RY:TE:=λ_ H Q=>∀p,H p=none->Q (.ref p) (upd H p (.dT []))
section
variable {X:Cx}{pos:Pos}
theorem xE:PE X (.Dict [] [] pos) RY:=λpins s U H Q I h=>wpAny_Dict_empty ⟨.ref s.heap.objs.size,_,I.laid (a:=s.heap.objs.size) (o:=.dT []) (t':=s.toks) (λ_ _ q=>Heap.get?_push_of_some _ q) (le_refl _) (Kb s.heap I.big),rfl,h _ (I.af.fresh (le_refl _))⟩
end
structure M1 (X:Cx)(o:Expr)(m:Str)(apos:Pos)(e:Expr)(au:Pos):Prop where
 base:attributeBase o m X.env (eval o X.env)=eval o X.env
 few:((backTo au (starEach [e] X.env)).all (λx=>!x.1)&&(backToKw au (keywordEach [] X.env)).all (λx=>x.1.isSome)&&decide (([e]:List Expr).length+([]:List Keyword).length+(if([]:List Keyword).isEmpty then 0 else 1)<30))=true
 line:(apos.endLine==au.line)=true
 trees:backTo au (starEach [e] X.env)=[(false,eval e X.env)]
structure M2 (X:Cx)(o:Expr)(m:Str)(apos:Pos)(e f:Expr)(au:Pos):Prop where
 base:attributeBase o m X.env (eval o X.env)=eval o X.env
 few:((backTo au (starEach [e,f] X.env)).all (λx=>!x.1)&&(backToKw au (keywordEach [] X.env)).all (λx=>x.1.isSome)&&decide (([e,f]:List Expr).length+([]:List Keyword).length+(if([]:List Keyword).isEmpty then 0 else 1)<30))=true
 line:(apos.endLine==au.line)=true
 trees:backTo au (starEach [e,f] X.env)=[(false,eval e X.env),(false,eval f X.env)]
noncomputable def xF (H:Hp)(a:Addr):Prop:=(∃kvs,Rd H a (.dK kvs))\/∃kvs,Rd H a (.dT kvs)
theorem Cn {X:Cx}{pins:List (Addr×Obj)}{U:St}{H:Hp}{s:Shared}{a:Addr}(I:Inv X pins U H s)(d:xF H a):s.TypeIs (.ref a) "dict"/\(∀b,Value.ref a= .ref b->∃ob,s.heap.get? b=some ob/\ob.dict=none)/\(a==sysModules)=false:=by
 rcases d with⟨kvs,e⟩|⟨kvs,e⟩
 .obtain⟨_,hd,vs,_,dd⟩:=mi I.af e;refine⟨dd.typeIs,λb q=>?_,hd⟩;cases q;obtain⟨ob,_,_,h1,h2,_⟩:=dd;exact⟨ob,h1,h2.2.1⟩
 .obtain⟨_,hd,xs,_,dd⟩:=mj I.af e;refine⟨dd.typeIs,λb q=>?_,hd⟩;cases q;obtain⟨ob,_,_,h1,h2,_⟩:=dd;exact⟨ob,h1,h2.2.1⟩
section
variable {X:Cx}{pins:List (Addr×Obj)}{U:St}{H:Hp}{s:Shared}{a:Addr}{y d:V}{u r:Value}{o:Option V}{A:Around}{E:Value->Shared->Prop}
theorem RZ {Q:Value->Shared->Prop}(hu:A.units+1<cLine)(I:Inv X pins U H s)(g:iA H a y o)(ry:RelV y u)(h:∀w' s',Inv X pins U H s'->RelV (o.getD .aj) w'->Q w' s'):wpAny (model X.prog X.w) A (call (.builtin "dict.get") [.ref a,u]) Q E s:=by
 rcases g with⟨kvs,k,e,ey,l⟩|⟨kvs,k,b,e,ey,eb,l⟩
 .subst ey;obtain⟨z,hd,vs,rel,dd⟩:=mi I.af e;refine call_meetsIn PySem.F.slot_dict_get dd.typeIs PySem.F.entry_dict_get (PySem.F.args_dict_get_2 _ _) (meets_dict_get (qg X.prog X.w) a (mh ry) hd) ⟨_,dd.mapOf,h _ _ (I.tok _) ?_⟩;rw[l];exact(rel.val k).getD rfl
 .subst ey;cases(show u=Value.ref b from ry);obtain⟨z,hd,xs,rel,dd⟩:=mj I.af e;refine call_meetsIn PySem.F.slot_dict_get dd.typeIs PySem.F.entry_dict_get (PySem.F.args_dict_get_2 _ _) (meetsH_dict_get (tupleKind (qg X.prog X.w)) a b hd) ⟨tupleKind_room_in1 hu,k,xs,kM I.af eb,dd,h _ _ (I.tok _) ?_⟩;rw[l];exact(rel.val k).getD rfl
theorem R0 {Q:Value->Shared->Prop}(hu:A.units+1<cLine)(I:Inv X pins U H s)(g:iA H a y o)(ry:RelV y u)(rd:RelV d r)(h:∀w' s',Inv X pins U H s'->RelV (o.getD d) w'->Q w' s'):wpAny (model X.prog X.w) A (call (.builtin "dict.get") [.ref a,u,r]) Q E s:=by
 rcases g with⟨kvs,k,e,ey,l⟩|⟨kvs,k,b,e,ey,eb,l⟩
 .subst ey;obtain⟨z,hd,vs,rel,dd⟩:=mi I.af e;refine call_meetsIn PySem.F.slot_dict_get dd.typeIs PySem.F.entry_dict_get (PySem.F.args_dict_get_3 _ _ _) (meets_dict_get_default (qg X.prog X.w) a (mh ry) hd r) ⟨_,dd.mapOf,h _ _ (I.tok _) ?_⟩;rw[l];exact(rel.val k).getD rd
 .subst ey;cases(show u=Value.ref b from ry);obtain⟨z,hd,xs,rel,dd⟩:=mj I.af e;refine call_meetsIn PySem.F.slot_dict_get dd.typeIs PySem.F.entry_dict_get (PySem.F.args_dict_get_3 _ _ _) (meetsH_dict_get_default (tupleKind (qg X.prog X.w)) a b hd r) ⟨tupleKind_room_in1 hu,k,xs,kM I.af eb,dd,h _ _ (I.tok _) ?_⟩;rw[l];exact(rel.val k).getD rd
end
noncomputable def R5 (td ty:TE):TE:=λU H Q=>td U H λx H1=>∃a,x= .ref a/\xF H1 a/\ty U H1 λy H2=>∃o,iA H2 a y o/\Q (o.getD .aj) H2
noncomputable def R6 (td ty tx:TE):TE:=λU H Q=>td U H λx H1=>∃a,x= .ref a/\xF H1 a/\ty U H1 λy H2=>tx U H2 λz H3=>∃o,iA H3 a y o/\Q (o.getD z) H3
section
variable {X:Cx}{o e f:Expr}{apos au:Pos}{td ty tx:TE}
theorem R7 (hu:X.A.units+1<cLine)(ho:PE X o td)(he:PE X e ty)(m:M1 X o "get" apos e au):PE X (.Call (.Attribute o "get" apos) [e] [] au) (R5 td ty):=by intro pins s U H Q I h;refine wpAny_Call_method m.base m.few m.line PySem.F.plainAttrs_dict PySem.F.slot_dict_get PySem.F.type_dict_get (ah (ho pins s U H _ I h) λu s1 zQ=>?_);obtain⟨x,H1,I1,rx,a,ex,d,q1⟩:=zQ;subst ex;obtain rfl:u=Value.ref a:=rx;obtain⟨t1,t2,_⟩:=Cn I1 d;refine⟨t1,t2,?_⟩;rw[m.trees];refine Calls.callWith_builtin rfl (Calls.evalArgs_plain (Calls.spliced_cons (ah (he pins s1 U H1 _ I1 q1) λiv s2 ⟨y,H2,I2,ry,ov,g,q2⟩=>Calls.spliced_nil ?_)));exact RZ hu I2 g ry λw' s3 I3 cy=>⟨_,H2,I3,cy,q2⟩
theorem Kc (hu:X.A.units+1<cLine)(ho:PE X o td)(he:PE X e ty)(hf:PE X f tx)(m:M2 X o "get" apos e f au):PE X (.Call (.Attribute o "get" apos) [e,f] [] au) (R6 td ty tx):=by
 intro pins s U H Q I h;refine wpAny_Call_method m.base m.few m.line PySem.F.plainAttrs_dict PySem.F.slot_dict_get PySem.F.type_dict_get (ah (ho pins s U H _ I h) λu s1 zQ=>?_);obtain⟨x,H1,I1,rx,a,ex,d,q1⟩:=zQ;subst ex;obtain rfl:u=Value.ref a:=rx;obtain⟨t1,t2,_⟩:=Cn I1 d;refine⟨t1,t2,?_⟩;rw[m.trees];refine Calls.callWith_builtin rfl (Calls.evalArgs_plain (Calls.spliced_cons (ah (he pins s1 U H1 _ I1 q1) λiv s2 ⟨y,H2,I2,ry,q2⟩=>Calls.spliced_cons (ah (hf pins s2 U H2 _ I2 q2) λfv s3 ⟨z,H3,I3,rz,ov,g,q3⟩=>Calls.spliced_nil ?_))));exact R0 hu I3 g ry rz λw' s4 I4 cy=>⟨_,H3,I4,cy,q3⟩
end
section
variable {B:Type}[DecidableEq B]
theorem R8 {kvs:List (B×V)}{k:B}{v:V}(h:aX kvs k=some v):k∈kvs.map (·.1):=by
 have q:(kvs.any λkv=>decide (kv.1=k))=true:=by rw[xD,h];all_goals rfl
 obtain⟨p,hp,e⟩:=List.any_eq_true.mp q;exact mem_map.mpr ⟨p,hp,of_decide_eq_true e⟩
end
noncomputable def gJ (scope:Scope)(env:Env):List (Str×Addr):=(scope.names.filterMap λp=>if p.2=NameKind.free then(env.cells.lookup p.1).map λc=>(p.1,c)else none).reverse
theorem Co {α:Type}{x:Str}{c:α}:∀{l:List (Str×α)},l.lookup x=some c->(x,c)∈l
 |[],h=>by simp at h
 |(y,d)::r,h=>by
  rw[lookup_cons]at h;cases e:x==y with
  |true=>rw[e]at h;have h':d=c:=Option.some.inj h;rw[h',eq_of_beq e];exact mem_cons_self
  |false=>rw[e]at h;exact mem_cons_of_mem _ (Co h)
theorem Kd {α:Type}{x:Str}{c:α}:∀{l:List (Str×α)},(x,c)∈l->∃d,l.lookup x=some d
 |[],h=>by simp at h
 | (y,d)::r,h=>by
  rw[lookup_cons];cases e:x==y with
  |true=>exact⟨d,rfl⟩
  |false=>
   rcases mem_cons.mp h with z|z
   .have z1:x=y:=congrArg Prod.fst z;rw[z1,beq_self_eq_true]at e;cases e
   .exact Kd z
theorem Ke {scope:Scope}{env:Env}{x:Str}{c:Addr}:(x,c)∈gJ scope env↔(x,NameKind.free)∈scope.names/\env.cells.lookup x=some c:=by
 unfold gJ;rw[List.mem_reverse,mem_filterMap];constructor
 .rintro⟨⟨y,k⟩,hm,e⟩
  by_cases hk:k=NameKind.free
  .subst hk;rw[if_pos rfl]at e;cases q:env.cells.lookup y with
   |none=>rw[q]at e;cases e
   |some d=>rw[q]at e;have e':(y,d)=(x,c):=Option.some.inj e;cases e';exact⟨hm,q⟩
  .rw[if_neg hk]at e;cases e
 .rintro⟨hm,q⟩
  exact⟨(x,NameKind.free),hm,by rw[if_pos rfl];rw[q];rfl⟩
theorem iC {scope:Scope}{env:Env}{x:Str}{c:Addr}(h:(gJ scope env).lookup x=some c):env.cells.lookup x=some c:=(Ke.mp (Co h)).2
theorem Cp {scope:Scope}{env:Env}{x:Str}{c:Addr}(hm:(x,NameKind.free)∈scope.names)(h:env.cells.lookup x=some c):(gJ scope env).lookup x=some c:=by obtain⟨d,e⟩:=Kd (Ke.mpr ⟨hm,h⟩);rw[e,<-h];exact(iC e).symm
theorem Cq {env:Env}:∀(names:List (Str×NameKind))(cs:List (Str×Addr)),(∀p∈names,p.2= .free->∃c,env.cells.lookup p.1=some c)->(forIn names cs λ(x:Str×NameKind)(cs:List (Str×Addr))=>(match x with
   |(name,kind)=>if(kind== .free)=true then(do let a<-cellOf env name;pure (ForInStep.yield ((name,a)::cs)))else pure (ForInStep.yield cs):Sem (ForInStep (List (Str×Addr)))))
   =pure ((names.filterMap λp=>if p.2=NameKind.free then(env.cells.lookup p.1).map λc=>(p.1,c)else none).reverse++cs)
 |[],cs,_=>rfl
 | (n,k)::r,cs,h=>by
  rw[List.forIn_cons];have hr:∀p∈r,p.2= .free->∃c,env.cells.lookup p.1=some c:=λp hp=>h p (mem_cons_of_mem _ hp);by_cases hk:k=NameKind.free
  .subst hk;obtain⟨c,hc⟩:=h (n,.free) mem_cons_self rfl;have e1:cellOf env n=pure c:=by unfold cellOf;rw[show env.cells.lookup n=some c from hc]
   show((do let a<-cellOf env n;pure (ForInStep.yield ((n,a)::cs)):Sem (ForInStep (List (Str×Addr)))) >>= _)=_;rw[e1];simp only[pure_bind];rw[Cq r ((n,c)::cs) hr,filterMap_cons,if_pos rfl,show env.cells.lookup n=some c from hc];simp
  .have hb:(k==NameKind.free)=false:=by simpa using hk
   show((if(k==NameKind.free)=true then(do let a<-cellOf env n;pure (ForInStep.yield ((n,a)::cs)))else pure (ForInStep.yield cs):Sem (ForInStep (List (Str×Addr)))) >>= _)=_;rw[hb,if_neg Bool.false_ne_true];simp only[pure_bind];rw[Cq r cs hr,filterMap_cons,if_neg hk]
theorem R9 {scope:Scope}{env:Env}(h:∀p∈scope.names,p.2= .free->∃c,env.cells.lookup p.1=some c):closureFor scope env=pure (gJ scope env):=by have e:=Cq scope.names [] h;rw[append_nil]at e;unfold closureFor gJ;simp only[bind_pure];exact e
theorem gq {env:Env}{x:Str}:∀{names:List (Str×NameKind)}{k:NameKind},(names.map λ(n,k)=>if(k==NameKind.free&&env.scope.kind== .function&&env.kindOf n==some .cell)then(n,NameKind.cell)else(n,k)).lookup x=some k->∃k',(x,k')∈names/\(k'=k\/(k'= .free/\k= .cell))
 |[],_,h=>by simp at h
 | (n,j)::r,k,h=>by
  by_cases hc:(j==NameKind.free&&env.scope.kind== .function&&env.kindOf n==some .cell)=true
  .rw[map_cons]at h;have h':List.lookup x ((if(j==NameKind.free&&env.scope.kind== .function&&env.kindOf n==some .cell)=true then(n,NameKind.cell)else(n,j))::_)=some k:=h;rw[if_pos hc,lookup_cons]at h';cases e:x==n with
   |true=>
    rw[e]at h';have h2:NameKind.cell=k:=Option.some.inj h';have hj:j=NameKind.free:=by have:=hc;rw[Bool.and_eq_true,Bool.and_eq_true]at this;exact eq_of_beq this.1.1
    exact⟨j,by rw[eq_of_beq e];exact mem_cons_self,.inr ⟨hj,h2.symm⟩⟩
   |false=>rw[e]at h';obtain⟨k',hm,q⟩:=gq h';exact⟨k',mem_cons_of_mem _ hm,q⟩
  .rw[map_cons]at h;have h':List.lookup x ((if(j==NameKind.free&&env.scope.kind== .function&&env.kindOf n==some .cell)=true then(n,NameKind.cell)else(n,j))::_)=some k:=h;rw[if_neg hc,lookup_cons]at h';cases e:x==n with
   |true=>rw[e]at h';exact⟨j,by rw[eq_of_beq e];exact mem_cons_self,.inl (Option.some.inj h')⟩
   |false=>rw[e]at h';obtain⟨k',hm,q⟩:=gq h';exact⟨k',mem_cons_of_mem _ hm,q⟩
noncomputable def Kf (N:List Str)(sc scope:Scope)(N':List Str)(ix:List (Option Nat)):Bool:=scope.kind== .function&&scope.names.all (λy=>y.2 != .cell)&&scope.names.all (λy=>y.2 != .local||scope.names.lookup y.1==some .local)&&
 scope.names.all (λy=>y.2 != .free||sc.names.lookup y.1==some .cell||sc.names.lookup y.1==some .free)&&
 decide (ix.length=N'.length)&&decide N'.Nodup&&(N'.zip ix).all λp=>match p.2 with
  |none=>scope.names.all λy=>y.1 != p.1||y.2== .local
  |some k=>N[k]?==some p.1&&scope.names.lookup p.1==some .free&&scope.names.all λy=>y.1 != p.1||y.2== .free
structure jC (N:List Str)(sc scope:Scope)(N':List Str)(ix:List (Option Nat)):Prop where
 kind:scope.kind= .function
 Cr:∀y∈scope.names,y.2≠.cell
 names:∀y∈scope.names,y.2= .local->scope.names.lookup y.1=some .local
 frees:∀y∈scope.names,y.2= .free->sc.names.lookup y.1=some .cell\/sc.names.lookup y.1=some .free
 len:ix.length=N'.length
 nd:N'.Nodup
 own:∀(i:Nat)(x:Str),N'[i]?=some x->ix[i]?=some none->∀y∈scope.names,y.1=x->y.2= .local
 out:∀(i:Nat)(x:Str)(k:Nat),N'[i]?=some x->ix[i]?=some (some k)->N[k]?=some x/\(x,NameKind.free)∈scope.names/\∀y∈scope.names,y.1=x->y.2= .free
theorem xq {N:List Str}{sc scope:Scope}{N':List Str}{ix:List (Option Nat)}(h:Kf N sc scope N' ix=true):jC N sc scope N' ix:=by
 unfold Kf at h;simp only[Bool.and_eq_true,all_eq_true,Bool.or_eq_true,bne_iff_ne,beq_iff_eq,decide_eq_true_eq,ne_eq]at h;obtain⟨⟨⟨⟨⟨⟨h1,h2⟩,h3⟩,h4⟩,h5⟩,h6⟩,h7⟩:=h;have ml:∀{i:Nat}{x:Str}{o:Option Nat},N'[i]?=some x->ix[i]?=some o->(x,o)∈N'.zip ix:=λ{i x o} a b=>by refine mem_of_getElem? (i:=i) ?_;rw[List.getElem?_zip_eq_some];exact⟨a,b⟩
 refine⟨h1,λy hy=>h2 y hy,λy hy e=>?_,λy hy e=>?_,h5,h6,λi x a b y hy e=>?_,λi x k a b=>?_⟩
 .rcases h3 y hy with z|z
  .exact absurd e z
  .exact z
 .rcases h4 y hy with(z|z)|z
  .exact absurd e z
  .exact .inl z
  .exact .inr z
 .have q:=h7 _ (ml a b);simp only[all_eq_true,Bool.or_eq_true,bne_iff_ne,beq_iff_eq,ne_eq]at q;rcases q y hy with z|z
  .exact absurd e z
  .exact z
 .have q:=h7 _ (ml a b);simp only[Bool.and_eq_true,all_eq_true,Bool.or_eq_true,bne_iff_ne,beq_iff_eq,ne_eq]at q;obtain⟨⟨q1,q2⟩,q3⟩:=q;refine⟨q1,Co q2,λy hy e=>?_⟩;rcases q3 y hy with z|z
  .exact absurd e z
  .exact z
noncomputable def gZ (ix:List (Option Nat))(U:St):St:=ix.map λo=>match o with
 |some k=>(U[k]?).join
 |none=>none
noncomputable def aS (X:Cx)(scope:Scope)(N':List Str)(C:Addr)(fp:List Addr)(aa:Shared)(ae:Hp):Cx:={X with N:=N',ar:=aa,bz:=ae,env:=compEnvC scope (gJ scope X.env) C X.env,outer:=X.stack,stack:=X.stack,ex:=fp,fn:=λ_=>false,pn:=[],xe:=λ_ _=>False}
noncomputable abbrev ef (its:List Value)(n:Nat):Obj:={cls:=.type "list",data:=.seq its.toArray n}
section
variable {X:Cx}{scope:Scope}{N':List Str}{ix:List (Option Nat)}{C:Addr}{fp:List Addr}{aa:Shared}{ae:Hp}{pins:List (Addr×Obj)}{U:St}
theorem Sa (I:Inv X pins U ae aa){x:Str}{c:Addr}(h:(gJ scope X.env).lookup x=some c):c<aa.heap.objs.size:=by obtain⟨v,q⟩:=I.cell x c (iC h);exact q.lt
theorem Kg (I:Inv X pins U ae aa)(co:jC X.N X.env.scope scope N' ix)(hC:@LE.le Nat _ aa.heap.objs.size C)(hf:∀b∈fp,dU X pins ae b)(az:∀b∈fp,b<aa.heap.objs.size):(aS X scope N' C fp aa ae).Ok where
 mod:=I.ok.mod
 kind:=co.kind
 glob:=I.ok.glob
 blt:=I.ok.blt
 above:=hC
 inj:=λx y c e1 e2=>I.ok.inj x y c (iC e1) (iC e2)
 has:=λx h=>by
  have h1:∃k,(relabel scope X.env).names.lookup x=some k/\(k= .cell\/k= .free):=by
   rcases h with h|h
   .exact⟨_,h,.inl rfl⟩
   .exact⟨_,h,.inr rfl⟩
  obtain⟨k,h1,h2⟩:=h1;obtain⟨k',hm,q⟩:=gq h1;have hk:k'= .free:=by
   rcases q with q|⟨q,_⟩
   .rcases h2 with z|z
    .exact absurd (q.trans z) (co.Cr _ hm)
    .exact q.trans z
   .exact q
  rw[hk]at hm;obtain⟨c,hc⟩:=I.ok.has x (co.frees _ hm rfl);exact⟨c,Cp hm hc⟩
 mZ:=λx c h=>by have h':false=true:=h;cases h'
 hd:=I.ok.hd
 frames:=I.ok.frames
 cQ:=.inl rfl
 vX:=λb hb=>⟨ne_of_lt (lt_of_lt_of_le (az b hb) hC),λx c e=>(hf b hb).2.2.2.2.1 x c (iC e)⟩
 bs:=I.bs
 i5:=le_trans I.ok.i5 I.sz
 ni:=λb o e hb=>by
  rcases(hf b hb).2.2.2.1 with z|z
  .exact I.ok.ni b o e z
  .exact absurd (lt_of_lt_of_le (Heap.lt_size (I.ok.bs b o e).1) z) (lt_irrefl _)
 pC:=λb hb z=>by
  rcases mem_cons.mp (I.ny b z)with e|e
  .exact(hf b hb).2.1 e
  .exact(hf b hb).2.2.1 e
 eL:=I.stack
 il:=I.vY
theorem Sb (I:Inv X pins U ae aa){b:Addr}(h:aa.heap.objs.size<=b):b∉bj X.stack:=λz=>by
 rcases mem_cons.mp (I.ny b z)with e|e
 .rw[e]at h;exact absurd (lt_of_lt_of_le I.lt h) (lt_irrefl _)
 .exact I.IF h e
theorem Sd (I:Inv X pins U ae aa)(co:jC X.N X.env.scope scope N' ix){D:Addr}{h₁:Heap}{t':Nat}(hD:@Eq Nat D aa.heap.objs.size)(hC:@Eq Nat C (aa.heap.objs.size+1))(hf:∀b∈fp,dU X pins ae b)(az:∀b∈fp,b<aa.heap.objs.size)(old:∀b o,aa.heap.get? b=some o->h₁.get? b=some o)(fg:h₁.get? D=some (ef [] 0)){m:Str->Option Value}(pK:h₁.Ns C m):
  Inv (aS X scope N' C fp aa ae) [(D,ef [] 0)] (gZ ix U) ae {aa with heap:=h₁,toks:=t'} where
 ok:=Kg I co (by lia) hf az
 os:=rfl
 bare:=I.bare
 base:=Un.kept old
 loc :=by
  refine⟨m,pK,λi x v e1 e2 e3=>?_⟩;unfold gZ at e2;rw[getElem?_map]at e2;cases q:ix[i]? with
  |none=>rw[q]at e2;cases e2
  | some o=>
   rw[q]at e2;cases o with
   |none=>cases e2
   | some k=>
    have eR:(U[k]?).join=some v:=Option.some.inj e2;have nP:U[k]?=some (some v):=by
     cases z:U[k]? with
     |none=>rw[z]at eR;cases eR
     |some o=>rw[z]at eR;exact congrArg some eR
    obtain⟨o1,o2,o3⟩:=co.out i x k e1 q;have hk:X.env.kindOf x=some .cell\/X.env.kindOf x=some .free:=co.frees _ o2 rfl;have Se:qX X.env.scope x:=.inr hk;obtain⟨m0,_,hl⟩:=I.loc;obtain⟨u,r,l⟩:=hl k x v o1 nP Se;refine⟨u,r,?_⟩;rcases l with⟨l,_⟩|⟨_,c,ec,cY⟩
    .rcases hk with z|z
     .rw[z]at l;cases l
     .rw[z]at l;cases l
    .refine .inr ⟨?_,c,Cp o2 ec,?_⟩
     .rcases e3 with z|z|z
      .obtain⟨k',hm,q⟩:=gq z;rcases q with q|⟨_,q⟩
       .have:=o3 _ hm rfl;rw[show k'=NameKind.local from q]at this;cases this
       .cases q
      .exact .inl z
      .exact .inr z
     .obtain⟨o,ho,hd⟩:=cY;exact⟨o,old _ _ ho,hd⟩
 cell:=λx c e=>by obtain⟨v,o,ho,hd⟩:=I.cell x c (iC e);exact⟨v,o,old _ _ ho,hd⟩
 free:=I.af.fresh (by show@LE.le Nat _ aa.heap.objs.size C;lia)
 dm:=λx c e=>I.dm x c (iC e)
 pin:=λp hp=>by
  have e:p=(D,ef [] 0):=by simpa[aS]using hp
  subst e;refine⟨fg,I.af.fresh (by show@LE.le Nat _ aa.heap.objs.size D;lia),by show¬@Eq Nat D C;lia,Sb I (by show@LE.le Nat _ aa.heap.objs.size D;lia),λv z=>?_⟩;have z':Data.seq _ _=Data.cell v:=z;cases z'
 af:=I.af.kept old
 len:=by unfold gZ;rw[length_map];exact co.len
theorem Sf (I:Inv X pins U ae aa){D:Addr}(hD:@Eq Nat D aa.heap.objs.size)(hf:∀b∈fp,dU X pins ae b){ys:List V}{its:List Value}{n:Nat}{U':St}{H':Hp}{s':Shared}(I':Inv (aS X scope N' C fp aa ae) [(D,ef its n)] U' H' s')(hv:Vals ys its)(hz:ys.length<=sizeLine):Inv X pins U (upd H' D (.lst ys)) s':=by
 obtain⟨dp,dn,_,_,_⟩:=I'.pin (D,ef its n) (by simp);have Sg:s'.heap.get? D=some (ef its n):=dp;have Kh:H' D=none:=dn;have u:=I'.base;have ne:∀b o,aa.heap.get? b=some o->b≠D:=λb o e z=>by have h1:@LT.lt Nat _ b aa.heap.objs.size:=Heap.lt_size e;have h2:@Eq Nat b D:=z;lia
 have mn:∀b o,ae b=some o->b≠D:=λb o e z=>by have h1:@LT.lt Nat _ b aa.heap.objs.size:=I.af.lt e;have h2:@Eq Nat b D:=z;lia
 refine I.BB (ch:=fp) I'.os ⟨u.keep,u.slot,λb o e q hb=>?_,u.there,λb xs q=>?_,λb o xs q=>?_,λb ps q=>?_⟩ (λb o e=>?_) I'.bare λb hb=>?_
 .rw[jd (ne b o e)];exact u.free b o e q hb
 .rw[jd (mn b _ q)];exact u.dE b xs q
 .rw[jd (mn b _ q)];exact u.dh b o xs q
 .rw[jd (mn b _ q)];exact u.dP b ps q
 .by_cases hb:b=D
  .subst hb;rw[ja]at e;cases e;exact⟨hz,its,n,hv,Sg⟩
  .rw[jd hb]at e;exact(I'.af b o e).cC (λc v _ q=>q) (λc q=>by rw[jd (ji q Kh)];exact q) λc xs q=>by rw[jd (ji q Kh)];exact q
 .obtain⟨_,f1,_,f3,f4,f5⟩:=hf b hb;exact⟨f3,f1,f4,f5⟩
end
noncomputable abbrev dH:Value->Shared->Prop:=λ_ _=>False
section
variable {prog:Program}{w:World}{A:Around}{R:Result->Shared->Prop}{s:Shared}
theorem Sh {elt target iter:Expr}{ifs:List Expr}{scope:Scope}{pos:Pos}{it acc:Value}{env:Env}(I:Nat->Shared->Prop)(turn:∀n s,I n s->wpAny (model prog w) A (pyNext it) (λr ai=>match r with
   |none=>R (.ok .next) ai
   |some v=>wpAny (model prog w) A (letOwnedTupleGo target it v) (λ_ ai=>wpAny (model prog w) A (assign target env v) (λ_ aa=>wpAny (model prog w) A (forIn ifs true λc r=>if r=true then do let ok<-isTrue c env (eval c env);pure (ForInStep.yield ok)else pure (ForInStep.yield r)) (λok aQ=>if ok=true then wpAny (model prog w) A (eval elt env) (λx dy=>wpAny (model prog w) A (call (.builtin "list.append") [acc,x]) (λ_ iD=>∃m,m<n/\I m iD) dH dy) dH aQ
      else ∃m,m<n/\I m aQ) dH aa) dH ai) dH ai) dH s)(n:Nat)(h:I n s):codeAny (model prog w) A (.compLoop (.ListComp elt [⟨target,iter,ifs,0⟩] scope pos) 0 it acc env) R s:=by
 refine codeAny_loop rfl I (λn s hI=>?_) n h;show wpAny _ A ((compTurn (.ListComp elt [⟨target,iter,ifs,0⟩] scope pos) 0 it acc env).onRaise (λx=>do noteFrame x env;theTreesLotGoes x)) _ _ s;refine wpAny_noted ?_;rw[compTurn_list];refine wpAny_bind (wpAny_standAt (wpAny_bind (wpAny_mono (turn n s hI) (λr ai h₁=>?_) λ_ _ h'=>h'.elim)));cases r with
 |none=>exact wpAny_pure h₁
 |some v=>
  refine wpAny_bind (wpAny_mono h₁ (λ_ ai h₁=>?_) λ_ _ h'=>h'.elim);refine wpAny_bind (wpAny_mono h₁ (λ_ aa bV=>wpAny_bind (wpAny_mono bV (λok aQ fe=>?_) λ_ _ h'=>h'.elim)) λ_ _ h'=>h'.elim);cases ok with
  |false=>exact wpAny_pure ⟨rfl,fe⟩
  |true=>exact wpAny_bind (wpAny_bind (wpAny_mono fe (λx dy cE=>wpAny_bind (wpAny_mono cE (λ_ iD bb=>wpAny_pure (wpAny_pure ⟨rfl,bb⟩)) λ_ _ h'=>h'.elim)) λ_ _ h'=>h'.elim))
end
noncomputable def nQ (X:Cx)(ifs:List Expr)(t:TT):Prop:=∀(pins:List (Addr×Obj))(s:Shared)(U:St)(H:Hp)(Q:Bool->Hp->Prop),Inv X pins U H s->t U H Q->wpAny (model X.prog X.w) X.A (forIn ifs true λc r=>if r=true then do let ok<-isTrue c X.env (eval c X.env);pure (ForInStep.yield ok)else pure (ForInStep.yield r)) (TP X pins U Q) X.xe s
noncomputable def pM:TT:=λ_ H Q=>Q true H
theorem se {X:Cx}:nQ X [] pM:=λ_ _ _ H _ I h=>wpAny_tests_nil ⟨H,I,h⟩
theorem kN {X:Cx}{c:Expr}{t:TT}(h:PT X c t):nQ X [c] t:=λpins s U H Q I q=>wpAny_tests_one (h pins s U H Q I q)
noncomputable def nU (Q:VK)(ys:List V)(H:Hp):Prop:=∀p,H p=none->Q (.ref p) (upd H p (.lst ys))
noncomputable def Ki (ix:List (Option Nat))(wi:TI)(g:TG)(ti:TT)(te:TE):TE:=λU H Q=>wi U H λJ H1=>∃W:Nat->Nat->List V->St->Hp->Prop,(∃m,W 0 m [] (gZ ix U) H1)/\∀i m ys U H,W i m ys U H->ys.length<=sizeLine/\((J.stop i H/\nU Q ys H)\/(J.go i H/\∃N:List V->St->Hp->Prop,(∀bC U' H',N bC U' H'->∃m',m'<m/\W (i+1) m' bC U' H')/\∀x H',J.du i H x H'->g x U H' λU2 H2=>ti U2 H2 λb H3=>if b=true then te U2 H3 λy H4=>N (ys++[y]) U2 H4 else N ys U2 H3))
structure sf (X:Cx)(pins:List (Addr×Obj))(H:Hp)(s:Shared)(C:Addr):Prop where
 ns:∃m,s.heap.Ns C m
 fr:H C=none
 nl:C≠X.env.locals
 ab:X.ar.heap.objs.size<=C
 nc:∀x c,X.env.cells.lookup x=some c->c≠C
 np:∀p∈X.pn++pins,p.1≠C
section
variable {X:Cx}
theorem Kj {scope:Scope}{N':List Str}{ix:List (Option Nat)}{pins:List (Addr×Obj)}{U:St}{tg iter elt:Expr}{ifs:List Expr}{pos:Pos}{g:TG}{ti:TT}{te:TE}{E:Value->Shared->Prop}(co:jC X.N X.env.scope scope N' ix)(hc:X.calm=true)(hg:∀C fp aa ae,PG (aS X scope N' C fp aa ae) tg g)(hi:∀C fp aa ae,nQ (aS X scope N' C fp aa ae) ifs ti)(he:∀C fp aa ae,PE (aS X scope N' C fp aa ae) elt te){ae:Hp}{aa:Shared}{J:It}{fp:List Addr}{it:Addr}{tn:Nat->Heap->Prop}{QF:List V->Hp->Prop}(I:Inv X pins U ae aa)(T:Turn X.prog X.w X.K tg J fp it tn)(st:tn 0 aa.heap)(hf:∀b∈fp,dU X pins ae b){W:Nat->Nat->List V->St->Hp->Prop}(w0:∃m,W 0 m [] (gZ ix U) ae)(hW:∀i m ys U H,W i m ys U H->ys.length<=sizeLine/\((J.stop i H/\QF ys H)\/(J.go i H/\∃N:List V->St->Hp->Prop,(∀bC U' H',N bC U' H'->∃m',m'<m/\W (i+1) m' bC U' H')/\∀x H',J.du i H x H'->g x U H' λU2 H2=>ti U2 H2 λb H3=>if b=true then te U2 H3 λy H4=>N (ys++[y]) U2 H4 else N ys U2 H3))){RR:Value->Addr->Result->Shared->Prop}(Cs:∀D C ys H' s',Inv X pins U (upd H' D (.lst ys)) s'->H' D=none->QF ys H'->sf X pins (upd H' D (.lst ys)) s' C->RR (.ref D) C (.ok .next) s'):
  wpAny (model X.prog X.w) X.A (newList []) (λacc aQ=>wpAny (model X.prog X.w) X.A (newFunctionEnv scope X.env.globals (gJ scope X.env) [] X.env.qual none .none (some X.env)) (λiE dy=>codeAny (model X.prog X.w) X.A (.compStart (.ListComp elt [⟨tg,iter,ifs,0⟩] scope pos) 0 (.ref it) acc {iE with scope:=relabel scope X.env}) (RR acc iE.locals) dy) E aQ) E aa:=by
 have az:∀b∈fp,@LT.lt Nat _ b aa.heap.objs.size:=λb hb=>by obtain⟨o,e,_⟩:=T.obj _ _ st b hb;exact Heap.lt_size e
 refine wpAny_newObj_type (wpAny_newFunctionEnv co.Cr (by intro y hy;simp at hy) (λh₁ bH br=>?_) co.kind);dsimp only at bH br⊢;generalize pN:aa.heap.push {cls:=.type "list",dict:=none,data:=.seq ([]:List Value).toArray}=H2 at bH br⊢;have hC:@Eq Nat H2.objs.size (aa.heap.objs.size+1):=by rw[<-pN,Heap.size_push]
 have below:∀b:Nat,b<aa.heap.objs.size->¬@Eq Nat b H2.objs.size:=λb hb=>by lia
 have xG:¬@Eq Nat aa.heap.objs.size H2.objs.size:=by lia
 have old:∀b o,aa.heap.get? b=some o->h₁.get? b=some o:=λb o e=>br.extBut b o (below b (Heap.lt_size e)) (Heap.get?_push_of_some _ (pN ▸ Heap.get?_push_of_some _ e));have fg:h₁.get? aa.heap.objs.size=some (ef [] 0):=br.extBut _ _ xG (Heap.get?_push_of_some _ (pN ▸ Heap.get?_push_size _ rfl));have eA:tn 0 h₁:=T.keep _ _ _ st λb _ o e=>old b o e;generalize Ct:H2.objs.size=C at bH br hC below xG⊢;generalize Kk:aa.heap.objs.size=D at fg xG⊢;have loop:∀aQ:Shared,aQ={aa with heap:=h₁,toks:=aa.toks+([]:List (Str×Value)).length}->codeAny (model X.prog X.w) X.A (.compLoop (.ListComp elt [⟨tg,iter,ifs,0⟩] scope pos) 0 (.ref it) (.ref D) (compEnvC scope (gJ scope X.env) C X.env)) (RR (.ref D) C) aQ:=by
  rintro aQ rfl
  obtain⟨m0,w0⟩:=w0;have I3:Inv (aS X scope N' C fp aa ae) [(D,ef [] 0)] (gZ ix U) ae {aa with heap:=h₁,toks:=aa.toks+([]:List (Str×Value)).length}:=Sd I co Kk.symm hC hf az old fg bH;refine Sh (λk s'=>∃i ys its n U' H',Inv (aS X scope N' C fp aa ae) [(D,ef its n)] U' H' s'/\Vals ys its/\tn i s'.heap/\(∀b∈fp,H' b=none)/\W i k ys U' H') ?_ m0 ⟨0,[],[],0,_,_,I3,.nil,eA,λb hb=>(hf b hb).1,w0⟩
  rintro k s' ⟨i,ys,its,n,U',H',I',hv,bL,nW,w'⟩
  have fh:∀{H':Hp}{o:Obj},(∀b∈fp,H' b=none)->∀b∈fp,dU (aS X scope N' C fp aa ae) [(D,o)] H' b:=λ{H' o} hn b hb=>by
   refine⟨hn b hb,below b (az b hb),λz=>?_,.inl hb,λx c e=>(hf b hb).2.2.2.2.1 x c (iC e),λp hp z=>?_⟩
   .rcases mem_cons.mp (I.ny b z)with e|e
    .exact(hf b hb).2.1 e
    .exact(hf b hb).2.2.1 e
   .have e:p=(D,o):=by simpa[aS]using hp
    subst e;have z':@Eq Nat D b:=z;have z2:=az b hb;lia
  obtain⟨hz,Si⟩:=hW i k ys U' H' w';rcases Si with⟨stop,q⟩|⟨go,N,hN,step⟩
  .refine ah (T.done (aS X scope N' C fp aa ae) rfl rfl rfl hc i _ s' U' H' dH I' (fh nW) bL stop) λr s4 ⟨hr,I4⟩=>?_;subst hr;obtain⟨_,dn,_⟩:=I4.pin (D,ef its n) (by simp);have cf:H' C=none:=I4.free;refine Cs D C ys H' s4 (Sf I Kk.symm hf I4 hv hz) dn q ⟨?_,by rw[jd (Ne.symm xG)];exact cf,?_,?_,λx c e=>?_,λp hp=>?_⟩
   .obtain⟨m,hn,_⟩:=I4.loc;exact⟨m,hn⟩
   .have z:@LT.lt Nat _ X.env.locals aa.heap.objs.size:=I.lt;show¬@Eq Nat C X.env.locals;lia
   .have z:@LE.le Nat _ X.ar.heap.objs.size aa.heap.objs.size:=I.sz;show@LE.le Nat _ X.ar.heap.objs.size C;lia
   .obtain⟨v,z⟩:=I.cell x c e;have z2:@LT.lt Nat _ c aa.heap.objs.size:=z.lt;show¬@Eq Nat c C;lia
   .have z2:@LT.lt Nat _ p.1 aa.heap.objs.size:=Heap.lt_size (I.pin p hp).1;show¬@Eq Nat p.1 C;lia
  .refine ah (T.item (aS X scope N' C fp aa ae) rfl rfl rfl hc i _ s' U' H' dH I' (fh nW) bL go) λr s4 zQ=>?_;obtain⟨u,hr,h4⟩:=zQ;subst hr;refine ah h4 λ_ s5 zQ=>?_;obtain⟨x,H5,I5,r5,y5,gB,rn⟩:=zQ;have rq:=I5.pinned (fh rn) (T.obj _ _ gB);refine ah (hg C fp aa ae _ s5 U' H5 x u _ rq r5 (step x H5 y5)) λ_ s6 zQ=>?_;obtain⟨U6,H6,I6,q6⟩:=zQ;refine ah (hi C fp aa ae _ s6 U6 H6 _ I6 q6) λok s7 zQ=>?_;obtain⟨H7,I7,q7⟩:=zQ;have fj:∀{U8:St}{H8:Hp}{s8:Shared},Inv (aS X scope N' C fp aa ae) ([(D,ef its n)]++kE fp s5.heap) U8 H8 s8->∀b∈fp,∀o,s5.heap.get? b=some o->s8.heap.get? b=some o/\H8 b=none:=λ{U8 H8 s8} I8 b hb o e=>by
    have z:=I8.pin (b,o) (mem_append_right _ (mem_append_right _ (wJ hb e)));exact⟨z.1,z.2.1⟩
   cases ok with
   |false=>
    have fk:N ys U6 H7:=by have fk:=q7;rw[if_neg Bool.false_ne_true]at fk;exact fk
    obtain⟨m',hm,w7⟩:=hN _ _ _ fk;refine⟨m',hm,i+1,ys,its,n,U6,H7,I7.rm,hv,T.keep _ _ _ gB λb hb o e=>(fj I7 b hb o e).1,λb hb=>?_,w7⟩;obtain⟨o,e,_⟩:=T.obj _ _ gB b hb;exact(fj I7 b hb o e).2
   | true=>
    have fk:te U6 H7 λy H4=>N (ys++[y]) U6 H4:=by have fk:=q7;rw[if_pos rfl]at fk;exact fk
    show wpAny _ _ _ _ _ _;refine ah (he C fp aa ae _ s7 U6 H7 _ I7 fk) λyv s8 zQ=>?_;obtain⟨y,H8,I8,r8,q8⟩:=zQ;obtain⟨m',hm,w8⟩:=hN _ _ _ q8;obtain⟨z1,z2,z3,z4,z5⟩:=I8.pin (D,ef its n) (by simp);have zD:s8.heap.get? D=some (ef its n):=z1;have si:=hv.length;refine append_at (hsz:=by rw[size_toArray];lia) zD λh9 Kl Sj=>?_;have Sl:Inv (aS X scope N' C fp aa ae) (kE fp s5.heap) U6 H8 s8:=I8.vZ λp hp=>I8.pin p (mem_append_right _ (mem_append_right _ hp));have I9:Inv (aS X scope N' C fp aa ae) (kE fp s5.heap) U6 H8 {s8 with heap:=h9}:=Sl.turned (it:=D) (t':=s8.toks) (λb o hb e=>(Kl.2 b hb).trans e) z2 z3 (.inr (by show aa.heap.objs.size<=D;lia)) (λx c e=>by have z:@LT.lt Nat _ c aa.heap.objs.size:=Sa (scope:=scope) I e;show¬@Eq Nat c D;lia) (λp hp=>by
      have kO:p∈kE fp s5.heap:=by simpa[aS]using hp
      have z:=az _ (Jg kO).1;show¬@Eq Nat p.1 D;lia);have Cu:h9.get? D=some (ef (its++[yv]) (n+1)):=by
     rw[Sj];simp[ef]
    have fS:Inv (aS X scope N' C fp aa ae) [(D,ef (its++[yv]) (n+1))] U6 H8 {s8 with heap:=h9}:=I9.vZ λp hp=>by
     have e:p=(D,ef (its++[yv]) (n+1)):=by simpa using hp
     subst e;refine⟨Cu,z2,z3,z4,λv z=>?_⟩;have z':Data.seq _ _=Data.cell v:=z;cases z'
    refine⟨m',hm,i+1,ys++[y],its++[yv],n+1,U6,H8,fS,hv.append (.cons r8 .nil),T.keep _ _ _ gB λb hb o e=>?_,λb hb=>?_,w8⟩
    .have sj:b≠D:=by
      have z:=az b hb;show¬@Eq Nat b D;lia
     exact(Kl.2 b sj).trans (fj I8 b hb o e).1
    .obtain⟨o,e,_⟩:=T.obj _ _ gB b hb;exact(fj I8 b hb o e).2
 exact codeAny_compStart_list (loop _ rfl) (T.self _ 0 _ _ _ eA (loop _ rfl))
theorem sf.go {pins:List (Addr×Obj)}{U:St}{H:Hp}{s:Shared}{C:Addr}{h':Heap}(G:sf X pins H s C)(I:Inv X pins U H s)(hs:Heap.SameBut C s.heap h'):Inv X pins U H {s with heap:=h'}:=I.turned (it:=C) (t':=s.toks) (λb o hb e=>(hs.2 b hb).trans e) G.fr G.nl (.inr G.ab) G.nc G.np
variable {scope:Scope}{N':List Str}{ix:List (Option Nat)}{tg iter elt:Expr}{ifs:List Expr}{pos:Pos}{wi:TI}{g:TG}{ti:TT}{te:TE}
theorem Cv (co:jC X.N X.env.scope scope N' ix){pins:List (Addr×Obj)}{U:St}{H:Hp}{s:Shared}(I:Inv X pins U H s):closureFor scope X.env=pure (gJ scope X.env):=R9 λp hp e=>I.ok.has p.1 (co.frees p hp e)
theorem iF (co:jC X.N X.env.scope scope N' ix)(hc:X.calm=true)(hit:PI X tg iter wi)(hg:∀C fp aa ae,PG (aS X scope N' C fp aa ae) tg g)(hi:∀C fp aa ae,nQ (aS X scope N' C fp aa ae) ifs ti)(he:∀C fp aa ae,PE (aS X scope N' C fp aa ae) elt te)(hs:autoParam (∀x,foldedSetIterable iter X.env x=pure x) aP3):
  PE X (.ListComp elt [⟨tg,iter,ifs,0⟩] scope pos) (Ki ix wi g ti te):=by
 intro pins s U H Q I h;rw[eval_ListComp];refine wpAny_comprehension_free (use:=none) rfl hs (Cv co I) co.kind co.names (ah (hit pins s U H _ I h) λxv ai h₁=>ah h₁ λrj aa bV=>?_);obtain⟨it,fp,tn,J,ae,e,eB,T,st,hf,W,w0,hW⟩:=bV;subst e;refine Kj co hc hg hi he eB T st hf w0 hW (RR:=λacc C=>compPost (model X.prog X.w) X.A X.xe none (EP X pins U Q) acc C) λD C ys H' s' I' dn q G=>?_;obtain⟨m,hn⟩:=G.ns;exact⟨m,hn,λh' nX=>⟨.ref D,_,G.go I' nX,rfl,q D dn⟩⟩
theorem Km {i:Nat}{y:Str}{py sr:Pos}(hN:X.N.Nodup)(Sm:X.N[i]?=some y)(hy:X.env.scope.names.lookup y=some .local)(co:jC X.N X.env.scope scope N' ix)(hc:X.calm=true)(hit:PI X tg iter wi)(hg:∀C fp aa ae,PG (aS X scope N' C fp aa ae) tg g)(hi:∀C fp aa ae,nQ (aS X scope N' C fp aa ae) ifs ti)(he:∀C fp aa ae,PE (aS X scope N' C fp aa ae) elt te)(hs:autoParam (∀x,foldedSetIterable iter X.env x=pure x) aP3)(Sn:autoParam (swapsWith (.ListComp elt [⟨tg,iter,ifs,0⟩] scope pos) (some (.Name y py)) sr.line X.env=pure true) aP1):
  PS X (.Assign [.Name y py] (.ListComp elt [⟨tg,iter,ifs,0⟩] scope pos) sr) (BH (Ki ix wi g ti te) (eO i)):=by
 intro pins s U H D I h;rw[exec_Assign_Name_used _ _ _ _ Sn];refine wpAny_bind (wpAny_standAt (wpAny_bind ?_));show wpAny _ X.A (do let _<-comprehension (.ListComp elt [⟨tg,iter,ifs,0⟩] scope pos) scope X.env _ (newList []) false (eval iter X.env) (some (assign (.Name y py) X.env))) _ _ s;refine wpAny_bind (wpAny_mono (wpAny_comprehension_free (use:=some (assign (.Name y py) X.env)) (Q:=λ_ s'=>SP X pins D .next s') rfl hs (Cv co I) co.kind co.names (ah (hit pins s U H _ I h) λxv ai h₁=>ah h₁ λrj aa bV=>?_)) (λ_ s' hq=>wpAny_pure (wpAny_pure hq)) λ_ _ e=>e);obtain⟨it,fp,tn,J,ae,e,eB,T,st,hf,W,w0,hW⟩:=bV;subst e;refine Kj co hc hg hi he eB T st hf w0 hW (RR:=λacc C=>compPost (model X.prog X.w) X.A X.xe (some (assign (.Name y py) X.env)) (λ_ s'=>SP X pins D .next s') acc C) λDa C ys H' s' I' dn q G=>?_;show wpAny _ _ (assign (.Name y py) X.env (.ref Da)) _ _ s';refine wpAny_assign_Name (II (v:=.ref Da) I' hN Sm (.inl hy) rfl (λbP So zQ=>?_) (.inr hy));obtain⟨a,sb,ha⟩:=zQ;have Sq:C≠a:=by
  rcases ha with z|z
  .rw[z];exact G.nl
  .exact Ne.symm (G.nc _ _ z)
 obtain⟨m,hn⟩:=G.ns;have kG:=hn.sameBut sb Sq;have G2:sf X pins (upd H' Da (.lst ys)) bP C:=⟨⟨m,kG⟩,G.fr,G.nl,G.ab,G.nc,G.np⟩;exact⟨m,kG,λh' nX=>⟨_,_,G2.go So nX,q Da dn⟩⟩
end
theorem nY {K:PySem.W.Frag}{a:Addr}{xs:List V}{g:TG}{ti:TT}{te:TE}{U0:St}{H0:Hp}{Q:VK}(Pv:Nat->List V->St->Hp->Prop)(h0:Pv 0 [] U0 H0)(hl:∀i ys U H,i<=xs.length->Pv i ys U H->ag K H a xs/\ys.length<=sizeLine)(hs:∀i x ys U H,xs[i]?=some x->Pv i ys U H->g x U H λU2 H2=>ti U2 H2 λb H3=>if b=true then te U2 H3 λy H4=>Pv (i+1) (ys++[y]) U2 H4 else Pv (i+1) ys U2 H3)(hd:∀ys U H,Pv xs.length ys U H->∀p,H p=none->Q (.ref p) (upd H p (.lst ys))):∃W:Nat->Nat->List V->St->Hp->Prop,(∃m,W 0 m [] U0 H0)/\∀i m ys U H,W i m ys U H->ys.length<=sizeLine/\(((lY K a).stop i H/\nU Q ys H)\/((lY K a).go i H/\∃N:List V->St->Hp->Prop,(∀bC U' H',N bC U' H'->∃m',m'<m/\W (i+1) m' bC U' H')/\∀x H',(lY K a).du i H x H'->g x U H' λU2 H2=>ti U2 H2 λb H3=>if b=true then te U2 H3 λy H4=>N (ys++[y]) U2 H4 else N ys U2 H3)):=by
 refine⟨λi m ys U H=>m=xs.length-i/\i<=xs.length/\Pv i ys U H,⟨xs.length,by simp,zero_le _,h0⟩,?_⟩
 rintro i m ys U H ⟨rfl,hi,p⟩
 obtain⟨q,hz⟩:=hl i ys U H hi p;refine⟨hz,?_⟩;by_cases az:i<xs.length
 .refine .inr ⟨⟨xs,xs[i],q,by simp[az]⟩,Pv (i+1),λbC U' H' p'=>⟨xs.length-(i+1),by lia,rfl,az,p'⟩,λx H' y=>?_⟩;obtain⟨e,y⟩:=y;subst e;exact hs i x ys U _ (y xs q) p
 .have e:i=xs.length:=by lia
  subst e;exact .inl ⟨⟨xs,q,le_refl _⟩,hd ys U H p⟩
theorem Kn {lo:Int}{n:Nat}{g:TG}{ti:TT}{te:TE}{U0:St}{H0:Hp}{Q:VK}(Pv:Nat->List V->St->Hp->Prop)(h0:Pv 0 [] U0 H0)(hl:∀i ys U H,i<=n->Pv i ys U H->ys.length<=sizeLine)(hs:∀i ys U H,i<n->Pv i ys U H->g (.int (lo+i)) U H λU2 H2=>ti U2 H2 λb H3=>if b=true then te U2 H3 λy H4=>Pv (i+1) (ys++[y]) U2 H4 else Pv (i+1) ys U2 H3)(hd:∀ys U H,Pv n ys U H->∀p,H p=none->Q (.ref p) (upd H p (.lst ys))):∃W:Nat->Nat->List V->St->Hp->Prop,(∃m,W 0 m [] U0 H0)/\∀i m ys U H,W i m ys U H->ys.length<=sizeLine/\(((i9 lo n).stop i H/\nU Q ys H)\/((i9 lo n).go i H/\∃N:List V->St->Hp->Prop,(∀bC U' H',N bC U' H'->∃m',m'<m/\W (i+1) m' bC U' H')/\∀x H',(i9 lo n).du i H x H'->g x U H' λU2 H2=>ti U2 H2 λb H3=>if b=true then te U2 H3 λy H4=>N (ys++[y]) U2 H4 else N ys U2 H3)):=by
 refine⟨λi m ys U H=>m=n-i/\i<=n/\Pv i ys U H,⟨n,by simp,zero_le _,h0⟩,?_⟩
 rintro i m ys U H ⟨rfl,hi,p⟩
 refine⟨hl i ys U H hi p,?_⟩;by_cases az:i<n
 .refine .inr ⟨az,Pv (i+1),λbC U' H' p'=>⟨n-(i+1),by lia,rfl,az,p'⟩,λx H' y=>?_⟩;obtain⟨e,y⟩:=y;subst e y;exact hs i ys U _ az p
 .have e:i=n:=by lia
  subst e;exact .inl ⟨le_refl _,hd ys U H p⟩
section
variable {X:Cx}
theorem pO:dW X (.builtin "isinstance") (λxs H Q=>∃x t T b,xs=[x,.ty T]/\gF X.K H x t/\PySem.W.kitOne X.K t (.type T)=some b/\Q (.bl b) H):=by intro pins s U H xs us Q I r h;obtain⟨x,t,T,b,rfl,ty,e,q⟩:=h;obtain⟨u,w,rfl,r1,r2⟩:=vals2 r;obtain rfl:w=Value.type T:=r2;exact Jz I r1 ty e λtk=>⟨.bl b,H,I.tok tk,rfl,q⟩
theorem Sr {A:Around}{s:Shared}{p:Addr}{its:List Value}(hh:A.handled=none)(hl:s.heap.IsList p its.toArray):∃(fp:List Addr),(∀b∈fp,b<s.heap.objs.size+1)/\Walks X.prog X.w A s.heap.objs.size fp [s.heap.objs.size] its.toArray.size (λi v=>its.toArray[i]?=some v) (λi h=>h.IsListIter s.heap.objs.size p i/\h.IsList p its.toArray)/\((s.heap.push {cls:=.type "list_iterator",data:=.fields #[.ref p,.int 0 0]}).IsListIter s.heap.objs.size p 0/\(s.heap.push {cls:=.type "list_iterator",data:=.fields #[.ref p,.int 0 0]}).IsList p its.toArray):=by
 have az:p<s.heap.objs.size:=by obtain⟨_,e,_⟩:=hl;exact Heap.lt_size e
 refine⟨[s.heap.objs.size,p],λb hb=>?_,Walks.list (A:=A) hh _ p (ne_of_lt az) its.toArray,⟨_,Heap.get?_push_size _ rfl,rfl,rfl⟩,hl.push _⟩;rcases mem_cons.mp hb with e|e
 .rw[e];exact lt_succ_self _
 .rw[mem_singleton.mp e];exact Nat.lt_succ_of_lt az
theorem Ss {s:Shared}{h':Heap}{o:Obj}(hk:∀b x,b∉[s.heap.objs.size]->(s.heap.push o).get? b=some x->h'.get? b=some x):∀b x,s.heap.get? b=some x->h'.get? b=some x:=λb x e=>hk b x (λhm=>by rw[mem_singleton.mp hm]at e;exact lt_irrefl _ (Heap.lt_size e)) (Heap.get?_push_of_some _ e)
theorem xH:∀{bs:List Bool}{us:List Value},Vals (bs.map V.bl) us->us=bs.map Value.bool
 |[],us,h=>by rw[map_nil]at h;cases h;rfl
 |b::bs,us,h=>by
  rw[map_cons]at h;cases h with
  |cons r1 r2=>cases r1;rw[xH r2,map_cons]
theorem Su {A:Around}(bs:List Bool)(d:Bool):∀(i:Nat)(v:Value)(s':Shared)(Q':Bool->Shared->Prop)(E':Value->Shared->Prop),(bs.map Value.bool).toArray[i]?=some v->Q' ((bs[i]?).getD d) s'->wpAny (model X.prog X.w) A (truthy v) Q' E' s':=λi v s' Q' E' hP hQ=>by
  have e:(bs.map Value.bool)[i]?=some v:=by simpa using hP
  rw[getElem?_map]at e;cases q:bs[i]? with
  |none=>rw[q]at e;cases e
  |some b=>rw[q]at e hQ;have e':Value.bool b=v:=Option.some.inj e;subst e';exact wpAny_truthy_bool hQ
theorem Sv (hc:X.calm=true):dW X (.builtin "all") (λxs H Q=>∃(p:Addr)(bs:List Bool),xs=[.ref p]/\ag X.K H p (bs.map V.bl)/\Q (.bl (bs.all id)) H):=by
 intro pins s U H xs us Q I r h;obtain⟨p,bs,rfl,hq,q⟩:=h;obtain⟨u,rfl,rx⟩:=vals1 r;cases rx;obtain⟨its,r',pl,hz⟩:=I.list hq;have ei:=xH r';subst ei;obtain⟨fp,hfp,W,st⟩:=Sr (X:=X) (A:=X.A.in1) (s:=s) (I.ok.hd hc) pl.isList;refine call_all_walk (wpAny_pyIter_list pl.isList ⟨_,fp,_,_,_,_,λi=>(bs[i]?).getD true,rfl,W,st,Su bs true,λh' tk hk=>?_⟩);have e:((List.range (bs.map Value.bool).toArray.size).all λi=>(bs[i]?).getD true)=bs.all id:=by rw[size_toArray,length_map];exact LSm.range_all bs
 rw[e];exact⟨.bl (bs.all id),H,I.kept (t':=tk) (Ss hk),rfl,q⟩
theorem Ko (hc:X.calm=true):dW X (.builtin "sum") (λxs H Q=>∃(p:Addr)(ns:List Int),xs=[.ref p]/\ag X.K H p (ns.map V.int)/\Q (.int ns.sum) H):=by
 intro pins s U H xs us Q I r h;obtain⟨p,ns,rfl,hq,q⟩:=h;obtain⟨u,rfl,rx⟩:=vals1 r;cases rx;obtain⟨its,r',pl,hz⟩:=I.list hq;have hi:=intsAre_of r';obtain⟨ms,hx⟩:=hi.allInts.items;have xI:s.heap.IsList p (intItems ms):=hx ▸ pl.isList;refine sum_intListG (I.ok.hd hc) xI λh' tk t' hk=>?_;have e1:ns=ms.toList.map (·.1):=by rw[<-nums_intItems,<-hx];exact(show numsOf its.toArray.toList=ns from hi.numsOf).symm
 have e2:preSum (numAt ms) ms.size=ns.sum:=by rw[preSum_eq,List.take_of_length_le (by simp),e1]
 rw[e2];exact⟨.int ns.sum,H,I.kept (t':=tk) hk,⟨t',rfl⟩,q⟩
end
inductive Dt where
 |aj|bl (b:Bool)|int (i:Int)|str (x:Str)|tup (ds:List Dt)|lst (ds:List Dt)
mutual
def ql (K:PySem.W.Frag) (H:Hp):Dt->V->Prop
 | .aj,v=>v= .aj
 | .bl b,v=>v= .bl b
 | .int i,v=>v= .int i
 | .str x,v=>v= .str x
 | .tup ds,v=>∃a xs,v= .ref a/\aw K H a xs/\xu K H ds xs
 | .lst ds,v=>∃a xs,v= .ref a/\ag K H a xs/\xu K H ds xs
def xu (K:PySem.W.Frag) (H:Hp):List Dt->List V->Prop
 |[],xs=>xs=[]
 |d::ds,xs=>∃x r,xs=x::r/\ql K H d x/\xu K H ds r
end
mutual
def aU:Dt->Dt->Bool
 | .aj,.aj=>true
 | .bl a,.bl b=>a==b
 | .bl a,.int b=>(if a then 1 else 0)==b
 | .int a,.bl b=>a==(if b then 1 else 0)
 | .int a,.int b=>a==b
 | .str a,.str b=>a==b
 | .tup as,.tup bs=>cv as bs
 | .lst as,.lst bs=>cv as bs
 |_,_=>false
def cv:List Dt->List Dt->Bool
 |[],[]=>true
 |a::as,b::bs=>aU a b&&cv as bs
 |_,_=>false
end
mutual
def bg:Dt->Nat
 | .tup ds=>cM ds+1
 | .lst ds=>cM ds+1
 |_=>0
def cM:List Dt->Nat
 |[]=>0
 |d::ds=>max (bg d) (cM ds)
end
noncomputable def jD (ds es:List Dt)(j:Nat):Bool:=match ds[j]?,es[j]? with
 |some a,some b=>aU a b
 |_,_=>true
theorem pP:∀(ds es:List Dt),((List.range (min ds.length es.length)).all (jD ds es)&&(ds.length==es.length))=cv ds es
 |[],[]=>by simp[cv]
 |[],e::es=>by simp[cv]
 |d::ds,[]=>by simp[cv]
 |d::ds,e::es=>by
  have ih:=pP ds es;have e1:min (d::ds).length (e::es).length=min ds.length es.length+1:=by simp only[length_cons];lia
  have e2:((d::ds).length==(e::es).length)=(ds.length==es.length):=by simp
  have e3:(jD (d::ds) (e::es)∘Nat.succ)=jD ds es:=by funext j;simp[jD,Function.comp]
  have e4:jD (d::ds) (e::es) 0=aU d e:=by simp[jD]
  rw[e1,e2,List.range_succ_eq_map,List.all_cons,List.all_map,e3,e4,Bool.and_assoc,ih,cv]
theorem xu.length {K:PySem.W.Frag}{H:Hp}:∀{ds:List Dt}{xs:List V},xu K H ds xs->ds.length=xs.length
 |[],xs,h=>by rw[xu]at h;rw[h];rfl
 |d::ds,xs,h=>by rw[xu]at h;obtain⟨x,r,rfl,_,h2⟩:=h;rw[length_cons,length_cons,xu.length h2]
theorem xu.get {K:PySem.W.Frag}{H:Hp}:∀{ds:List Dt}{xs:List V}{j:Nat}{x:V},xu K H ds xs->xs[j]?=some x->∃d,ds[j]?=some d/\ql K H d x
 |[],xs,j,x,h,e=>by rw[xu]at h;subst h;simp at e
 | d::ds,xs,j,x,h,e=>by
  rw[xu]at h;obtain⟨y,r,rfl,h1,h2⟩:=h;cases j with
  |zero=>
   have e':y=x:=by simpa using e
   subst e';exact⟨d,by simp,h1⟩
  |succ j=>obtain⟨d',q1,q2⟩:=xu.get (j:=j) h2 (by simpa using e);exact⟨d',by simpa using q1,q2⟩
theorem Kq:∀{ds:List Dt}{j:Nat}{d:Dt},ds[j]?=some d->bg d<=cM ds
 |[],j,d,e=>by simp at e
 | c::ds,j,d,e=>by
  rw[cM];cases j with
  |zero=>
   have e':c=d:=by simpa using e
   subst e';exact Nat.le_max_left _ _
  |succ j=>exact le_trans (Kq (j:=j) (by simpa using e)) (Nat.le_max_right _ _)
section
variable {X:Cx}{pins:List (Addr×Obj)}{U:St}{H:Hp}{s:Shared}
theorem Kr (I:Inv X pins U H s){a:Addr}{xs ys:List V}(h:ag X.K H a xs)(h':aw X.K H a ys):False:=by obtain⟨_,_,p,_⟩:=I.list h;obtain⟨_,_,q,_⟩:=I.tuple h';obtain⟨o,e,c,_⟩:=p.isList;obtain⟨o',e',c',_⟩:=q;rw[e]at e';cases e';rw[c]at c';exact absurd c' (by decide)
mutual
theorem Cw (I:Inv X pins U H s):∀(d e:Dt)(x:V),ql X.K H d x->ql X.K H e x->aU d e=true
 | .aj,e,x,h,k=>by rw[ql]at h;subst h;cases e<;>rw[ql]at k<;>first|(obtain⟨_,_,z,_⟩:=k;cases z)|rfl|cases k
 | .bl b,e,x,h,k=>by rw[ql]at h;subst h;cases e<;>rw[ql]at k<;>first|(obtain⟨_,_,z,_⟩:=k;cases z)|(cases k;simp[aU];done)|cases k
 | .int b,e,x,h,k=>by rw[ql]at h;subst h;cases e<;>rw[ql]at k<;>first|(obtain⟨_,_,z,_⟩:=k;cases z)|(cases k;simp[aU];done)|cases k
 | .str b,e,x,h,k=>by rw[ql]at h;subst h;cases e<;>rw[ql]at k<;>first|(obtain⟨_,_,z,_⟩:=k;cases z)|(cases k;simp[aU];done)|cases k
 | .tup ds,e,x,h,k=>by
  rw[ql]at h;obtain⟨a,xs,rfl,h1,h2⟩:=h;cases e with
  |tup es=>rw[ql]at k;obtain⟨b,ys,z,k1,k2⟩:=k;cases z;have e:=I.BC k1 h1;subst e;rw[aU];exact Cy I ds es _ h2 k2
  |lst es=>rw[ql]at k;obtain⟨b,ys,z,k1,k2⟩:=k;cases z;exact(Kr I k1 h1).elim
  |aj=>rw[ql]at k;cases k
  |bl b=>rw[ql]at k;cases k
  |int b=>rw[ql]at k;cases k
  |str b=>rw[ql]at k;cases k
 | .lst ds,e,x,h,k=>by
  rw[ql]at h;obtain⟨a,xs,rfl,h1,h2⟩:=h;cases e with
  |lst es=>rw[ql]at k;obtain⟨b,ys,z,k1,k2⟩:=k;cases z;have e:=I.IM k1 h1;subst e;rw[aU];exact Cy I ds es _ h2 k2
  |tup es=>rw[ql]at k;obtain⟨b,ys,z,k1,k2⟩:=k;cases z;exact(Kr I h1 k1).elim
  |aj=>rw[ql]at k;cases k
  |bl b=>rw[ql]at k;cases k
  |int b=>rw[ql]at k;cases k
  |str b=>rw[ql]at k;cases k
theorem Cy (I:Inv X pins U H s):∀(ds es:List Dt)(xs:List V),xu X.K H ds xs->xu X.K H es xs->cv ds es=true
 |[],es,xs,h,k=>by
  rw[xu]at h;subst h;cases es with
  |nil=>rw[cv]
  |cons e es=>rw[xu]at k;obtain⟨_,_,z,_⟩:=k;cases z
 |d::ds,es,xs,h,k=>by
  rw[xu]at h;obtain⟨x,r,rfl,h1,h2⟩:=h;cases es with
  |nil=>rw[xu]at k;cases k
  |cons e es=>rw[xu]at k;obtain⟨y,r',z,k1,k2⟩:=k;cases z;rw[cv,Cw I d e _ h1 k1,Cy I ds es _ h2 k2];rfl
end
theorem items_eqAt {A:Around}{ds es:List Dt}{xs ys:List V}{is js:List Value}(hd:xu X.K H ds xs)(he:xu X.K H es ys)(vi:Vals xs is)(vj:Vals ys js)(rec:∀d e x y u v,d∈ds->bg d<=cM ds->ql X.K H d x->ql X.K H e y->RelV x u->RelV y v->SeqAt.EqAt A s u v (aU d e)):∀j (h1:j<is.toArray.size)(h2:j<js.toArray.size),SeqAt.EqAt A s is.toArray[j] js.toArray[j] (jD ds es j):=λj h1 h2=>by
 have mq:j<is.length:=by simpa using h1
 have mr:j<js.length:=by simpa using h2
 have lx:j<xs.length:=by rw[vi.length];exact mq
 have ly:j<ys.length:=by rw[vj.length];exact mr
 obtain⟨u,eu,ru⟩:=vi.get (i:=j) (x:=xs[j]) (by simp[lx]);obtain⟨v,ev,rv⟩:=vj.get (i:=j) (x:=ys[j]) (by simp[ly]);obtain⟨d,ed,kd⟩:=hd.get (j:=j) (x:=xs[j]) (by simp[lx]);obtain⟨e,ee,ke⟩:=he.get (j:=j) (x:=ys[j]) (by simp[ly]);have e1:is.toArray[j]=u:=by rw[getElem?_eq_getElem mq]at eu;simpa using eu
 have e2:js.toArray[j]=v:=by rw[getElem?_eq_getElem mr]at ev;simpa using ev
 have e3:jD ds es j=aU d e:=by simp[jD,ed,ee]
 rw[e1,e2,e3];exact rec d e _ _ u v (mem_of_getElem? ed) (Kq ed) kd ke ru rv
theorem pQ {ds es:List Dt}{xs ys:List V}{is js:List Value}(hd:xu X.K H ds xs)(he:xu X.K H es ys)(vi:Vals xs is)(vj:Vals ys js):ds.length=is.toArray.size/\es.length=js.toArray.size:=by rw[hd.length,he.length,vi.length,vj.length];simp
theorem Cz {ds es:List Dt}(h:ds.length=es.length):(List.range ds.length).all (jD ds es)=cv ds es:=by have q:=pP ds es;rw[<-h,Nat.min_self,beq_self_eq_true,Bool.and_true]at q;exact q
theorem CA {ds es:List Dt}(h:ds.length≠es.length):cv ds es=false:=by have q:=pP ds es;rw[show(ds.length==es.length)=false from by simpa using h,Bool.and_false]at q;exact q.symm
theorem su (I:Inv X pins U H s):∀(n:Nat)(d e:Dt)(x y:V)(u v:Value)(A:Around),bg d<=n->A.units+n<cLine->ql X.K H d x->ql X.K H e y->RelV x u->RelV y v->SeqAt.EqAt A s u v (aU d e):=by
 intro n;induction n with
 | zero=>
  intro d e x y u v A hn hu hd he ru rv;have ay:A.units<cLine:=by lia
  cases d with
  |tup ds=>rw[bg]at hn;lia
  |lst ds=>rw[bg]at hn;lia
  |aj=>
   rw[ql]at hd;subst hd;cases ru;cases e<;>rw[ql]at he;case aj=>subst he;cases rv;exact SeqAt.EqAt.same _
   case bl b=>subst he;cases rv;exact SeqAt.EqAt.none_bool b
   case int b=>subst he;obtain⟨t,rfl⟩:=rv;exact SeqAt.EqAt.none_int b t
   case str b=>subst he;obtain⟨t,rfl⟩:=rv;exact SeqAt.EqAt.none_str b t
   case tup es=>obtain⟨b,ys,rfl,k1,k2⟩:=he;cases rv;obtain⟨js,vj,pj,_⟩:=I.tuple k1;exact SeqAt.EqAt.none_tuple pj ay
   case lst es=>obtain⟨b,ys,rfl,k1,k2⟩:=he;cases rv;obtain⟨js,vj,pj,_⟩:=I.list k1;exact SeqAt.EqAt.none_list pj.isList ay
  |bl a=>
   rw[ql]at hd;subst hd;cases ru;cases e<;>rw[ql]at he;case aj=>subst he;cases rv;exact SeqAt.EqAt.bool_none a
   case bl b=>subst he;cases rv;exact SeqAt.EqAt.bool_bool a b
   case int b=>subst he;obtain⟨t,rfl⟩:=rv;exact SeqAt.EqAt.bool_int a b t
   case str b=>subst he;obtain⟨t,rfl⟩:=rv;exact SeqAt.EqAt.bool_str a b t
   case tup es=>obtain⟨b,ys,rfl,k1,k2⟩:=he;cases rv;obtain⟨js,vj,pj,_⟩:=I.tuple k1;exact SeqAt.EqAt.bool_tuple a pj ay
   case lst es=>obtain⟨b,ys,rfl,k1,k2⟩:=he;cases rv;obtain⟨js,vj,pj,_⟩:=I.list k1;exact SeqAt.EqAt.bool_list a pj.isList ay
  |int a=>
   rw[ql]at hd;subst hd;obtain⟨t0,rfl⟩:=ru;cases e<;>rw[ql]at he;case aj=>subst he;cases rv;exact SeqAt.EqAt.int_none a t0
   case bl b=>subst he;cases rv;exact SeqAt.EqAt.int_bool a t0 b
   case int b=>subst he;obtain⟨t,rfl⟩:=rv;exact SeqAt.EqAt.int_int a t0 b t
   case str b=>subst he;obtain⟨t,rfl⟩:=rv;exact SeqAt.EqAt.int_str a t0 b t
   case tup es=>obtain⟨b,ys,rfl,k1,k2⟩:=he;cases rv;obtain⟨js,vj,pj,_⟩:=I.tuple k1;exact SeqAt.EqAt.int_tuple a t0 pj ay
   case lst es=>obtain⟨b,ys,rfl,k1,k2⟩:=he;cases rv;obtain⟨js,vj,pj,_⟩:=I.list k1;exact SeqAt.EqAt.int_list a t0 pj.isList ay
  |str a=>
   rw[ql]at hd;subst hd;obtain⟨t0,rfl⟩:=ru;cases e<;>rw[ql]at he;case aj=>subst he;cases rv;exact SeqAt.EqAt.str_none a t0
   case bl b=>subst he;cases rv;exact SeqAt.EqAt.str_bool a t0 b
   case int b=>subst he;obtain⟨t,rfl⟩:=rv;exact SeqAt.EqAt.str_int a t0 b t
   case str b=>subst he;obtain⟨t,rfl⟩:=rv;exact SeqAt.EqAt.str_str a t0 b t
   case tup es=>obtain⟨b,ys,rfl,k1,k2⟩:=he;cases rv;obtain⟨js,vj,pj,_⟩:=I.tuple k1;exact SeqAt.EqAt.str_tuple a t0 pj ay
   case lst es=>obtain⟨b,ys,rfl,k1,k2⟩:=he;cases rv;obtain⟨js,vj,pj,_⟩:=I.list k1;exact SeqAt.EqAt.str_list a t0 pj.isList ay
 | succ n ih=>
  intro d e x y u v A hn hu hd he ru rv;have ay:A.units<cLine:=by lia
  have jE:A.in1.units+n<cLine:=by rw[units_in1];lia
  cases d with
  | tup ds=>
   rw[bg]at hn;have pR:=hd;rw[ql]at hd;obtain⟨a,xs,rfl,k1,k2⟩:=hd;cases ru;obtain⟨is,vi,pi,_⟩:=I.tuple k1;cases e with
   |tup es=>
    have CB:=he;rw[ql]at he;obtain⟨b,ys,rfl,l1,l2⟩:=he;cases rv;obtain⟨js,vj,pj,_⟩:=I.tuple l1;by_cases hG:a=b
    .subst hG;rw[Cw I _ _ _ pR CB];exact SeqAt.EqAt.same _
    .have q:=SeqAt.RcAt.tuples (A:=A) pi pj ay (items_eqAt k2 l2 vi vj λd e x y u v _ bN=>ih d e x y u v A.in1 (by lia) jE);obtain⟨z1,z2⟩:=pQ k2 l2 vi vj;rw[<-z1,<-z2,pP]at q;rw[aU];exact SeqAt.EqAt.of_refs hG q
   |lst es=>rw[ql]at he;obtain⟨b,ys,rfl,l1,l2⟩:=he;cases rv;obtain⟨js,vj,pj,_⟩:=I.list l1;exact SeqAt.EqAt.tuple_list pi pj.isList ay
   |aj=>rw[ql]at he;subst he;cases rv;exact SeqAt.EqAt.tuple_none pi ay
   |bl b=>rw[ql]at he;subst he;cases rv;exact SeqAt.EqAt.tuple_bool b pi ay
   |int b=>rw[ql]at he;subst he;obtain⟨t,rfl⟩:=rv;exact SeqAt.EqAt.tuple_int b t pi ay
   |str b=>rw[ql]at he;subst he;obtain⟨t,rfl⟩:=rv;exact SeqAt.EqAt.tuple_str b t pi ay
  | lst ds=>
   rw[bg]at hn;have pR:=hd;rw[ql]at hd;obtain⟨a,xs,rfl,k1,k2⟩:=hd;cases ru;obtain⟨is,vi,pi,_⟩:=I.list k1;cases e with
   | lst es=>
    have CB:=he;rw[ql]at he;obtain⟨b,ys,rfl,l1,l2⟩:=he;cases rv;obtain⟨js,vj,pj,_⟩:=I.list l1;obtain⟨z1,z2⟩:=pQ k2 l2 vi vj;by_cases hG:a=b
    .subst hG;rw[Cw I _ _ _ pR CB];exact SeqAt.EqAt.same _
    .rw[aU];by_cases hsz:ds.length=es.length
     .have q:=SeqAt.RcAt.lists (A:=A) pi.isList pj.isList (by lia) ay (items_eqAt k2 l2 vi vj λd e x y u v _ bN=>ih d e x y u v A.in1 (by lia) jE);rw[<-z1,Cz hsz]at q;exact SeqAt.EqAt.of_refs hG q
     .rw[CA hsz];exact SeqAt.EqAt.of_refs hG (SeqAt.RcAt.lists_lengths pi.isList pj.isList (by rw[<-z1,<-z2];simpa using hsz) ay)
   |tup es=>rw[ql]at he;obtain⟨b,ys,rfl,l1,l2⟩:=he;cases rv;obtain⟨js,vj,pj,_⟩:=I.tuple l1;exact SeqAt.EqAt.list_tuple pi.isList pj ay
   |aj=>rw[ql]at he;subst he;cases rv;exact SeqAt.EqAt.list_none pi.isList ay
   |bl b=>rw[ql]at he;subst he;cases rv;exact SeqAt.EqAt.list_bool b pi.isList ay
   |int b=>rw[ql]at he;subst he;obtain⟨t,rfl⟩:=rv;exact SeqAt.EqAt.list_int b t pi.isList ay
   |str b=>rw[ql]at he;subst he;obtain⟨t,rfl⟩:=rv;exact SeqAt.EqAt.list_str b t pi.isList ay
  |aj=>exact ih _ _ _ _ _ _ _ (zero_le n) (by lia) hd he ru rv
  |bl b=>exact ih _ _ _ _ _ _ _ (zero_le n) (by lia) hd he ru rv
  |int b=>exact ih _ _ _ _ _ _ _ (zero_le n) (by lia) hd he ru rv
  |str b=>exact ih _ _ _ _ _ _ _ (zero_le n) (by lia) hd he ru rv
theorem Sy (I:Inv X pins U H s){n:Nat}{d e:Dt}{x y:V}{u v:Value}{A:Around}(hn:bg d<=n)(hu:A.units+n<cLine)(hd:ql X.K H d x)(he:ql X.K H e y)(ru:RelV x u)(rv:RelV y v):SeqAt.RcAt A s u v (aU d e):=by
 have ay:A.units<cLine:=by lia
 cases d with
 |aj=>
  rw[ql]at hd;subst hd;cases ru;cases e<;>rw[ql]at he;case aj=>subst he;cases rv;exact SeqAt.RcAt.none_none
  case bl b=>subst he;cases rv;exact SeqAt.RcAt.none_bool b
  case int b=>subst he;obtain⟨t,rfl⟩:=rv;exact SeqAt.RcAt.none_int b t
  case str b=>subst he;obtain⟨t,rfl⟩:=rv;exact SeqAt.RcAt.none_str b t
  case tup es=>obtain⟨b,ys,rfl,k1,k2⟩:=he;cases rv;obtain⟨js,vj,pj,_⟩:=I.tuple k1;exact SeqAt.RcAt.none_tuple pj ay
  case lst es=>obtain⟨b,ys,rfl,k1,k2⟩:=he;cases rv;obtain⟨js,vj,pj,_⟩:=I.list k1;exact SeqAt.RcAt.none_list pj.isList ay
 |bl a=>
  rw[ql]at hd;subst hd;cases ru;cases e<;>rw[ql]at he;case aj=>subst he;cases rv;exact SeqAt.RcAt.bool_none a
  case bl b=>subst he;cases rv;exact SeqAt.RcAt.bool_bool a b
  case int b=>subst he;obtain⟨t,rfl⟩:=rv;exact SeqAt.RcAt.bool_int a b t
  case str b=>subst he;obtain⟨t,rfl⟩:=rv;exact SeqAt.RcAt.bool_str a b t
  case tup es=>obtain⟨b,ys,rfl,k1,k2⟩:=he;cases rv;obtain⟨js,vj,pj,_⟩:=I.tuple k1;exact SeqAt.RcAt.bool_tuple a pj ay
  case lst es=>obtain⟨b,ys,rfl,k1,k2⟩:=he;cases rv;obtain⟨js,vj,pj,_⟩:=I.list k1;exact SeqAt.RcAt.bool_list a pj.isList ay
 |int a=>
  rw[ql]at hd;subst hd;obtain⟨t0,rfl⟩:=ru;cases e<;>rw[ql]at he;case aj=>subst he;cases rv;exact SeqAt.RcAt.int_none a t0
  case bl b=>subst he;cases rv;exact SeqAt.RcAt.int_bool a t0 b
  case int b=>subst he;obtain⟨t,rfl⟩:=rv;exact SeqAt.RcAt.int_int a t0 b t
  case str b=>subst he;obtain⟨t,rfl⟩:=rv;exact SeqAt.RcAt.int_str a t0 b t
  case tup es=>obtain⟨b,ys,rfl,k1,k2⟩:=he;cases rv;obtain⟨js,vj,pj,_⟩:=I.tuple k1;exact SeqAt.RcAt.int_tuple a t0 pj ay
  case lst es=>obtain⟨b,ys,rfl,k1,k2⟩:=he;cases rv;obtain⟨js,vj,pj,_⟩:=I.list k1;exact SeqAt.RcAt.int_list a t0 pj.isList ay
 |str a=>
  rw[ql]at hd;subst hd;obtain⟨t0,rfl⟩:=ru;cases e<;>rw[ql]at he;case aj=>subst he;cases rv;exact SeqAt.RcAt.str_none a t0
  case bl b=>subst he;cases rv;exact SeqAt.RcAt.str_bool a t0 b
  case int b=>subst he;obtain⟨t,rfl⟩:=rv;exact SeqAt.RcAt.str_int a t0 b t
  case str b=>subst he;obtain⟨t,rfl⟩:=rv;exact SeqAt.RcAt.str_str a t0 b t
  case tup es=>obtain⟨b,ys,rfl,k1,k2⟩:=he;cases rv;obtain⟨js,vj,pj,_⟩:=I.tuple k1;exact SeqAt.RcAt.str_tuple a t0 pj ay
  case lst es=>obtain⟨b,ys,rfl,k1,k2⟩:=he;cases rv;obtain⟨js,vj,pj,_⟩:=I.list k1;exact SeqAt.RcAt.str_list a t0 pj.isList ay
 |tup ds=>
  rw[bg]at hn;have jE:A.in1.units+(n-1)<cLine:=by rw[units_in1];lia
  rw[ql]at hd;obtain⟨a,xs,rfl,k1,k2⟩:=hd;cases ru;obtain⟨is,vi,pi,_⟩:=I.tuple k1;cases e with
  |tup es=>rw[ql]at he;obtain⟨b,ys,rfl,l1,l2⟩:=he;cases rv;obtain⟨js,vj,pj,_⟩:=I.tuple l1;have q:=SeqAt.RcAt.tuples (A:=A) pi pj ay (items_eqAt k2 l2 vi vj λd e x y u v _ bN=>su I (n-1) d e x y u v A.in1 (by lia) jE);obtain⟨z1,z2⟩:=pQ k2 l2 vi vj;rw[<-z1,<-z2,pP]at q;rw[aU];exact q
  |lst es=>rw[ql]at he;obtain⟨b,ys,rfl,l1,l2⟩:=he;cases rv;obtain⟨js,vj,pj,_⟩:=I.list l1;exact SeqAt.RcAt.tuple_list pi pj.isList ay
  |aj=>rw[ql]at he;subst he;cases rv;exact SeqAt.RcAt.tuple_none pi ay
  |bl b=>rw[ql]at he;subst he;cases rv;exact SeqAt.RcAt.tuple_bool b pi ay
  |int b=>rw[ql]at he;subst he;obtain⟨t,rfl⟩:=rv;exact SeqAt.RcAt.tuple_int b t pi ay
  |str b=>rw[ql]at he;subst he;obtain⟨t,rfl⟩:=rv;exact SeqAt.RcAt.tuple_str b t pi ay
 | lst ds=>
  rw[bg]at hn;have jE:A.in1.units+(n-1)<cLine:=by rw[units_in1];lia
  rw[ql]at hd;obtain⟨a,xs,rfl,k1,k2⟩:=hd;cases ru;obtain⟨is,vi,pi,_⟩:=I.list k1;cases e with
  |lst es=>
   rw[ql]at he;obtain⟨b,ys,rfl,l1,l2⟩:=he;cases rv;obtain⟨js,vj,pj,_⟩:=I.list l1;obtain⟨z1,z2⟩:=pQ k2 l2 vi vj;rw[aU];by_cases hsz:ds.length=es.length
   .have q:=SeqAt.RcAt.lists (A:=A) pi.isList pj.isList (by lia) ay (items_eqAt k2 l2 vi vj λd e x y u v _ bN=>su I (n-1) d e x y u v A.in1 (by lia) jE);rw[<-z1,Cz hsz]at q;exact q
   .rw[CA hsz];exact SeqAt.RcAt.lists_lengths pi.isList pj.isList (by rw[<-z1,<-z2];simpa using hsz) ay
  |tup es=>rw[ql]at he;obtain⟨b,ys,rfl,l1,l2⟩:=he;cases rv;obtain⟨js,vj,pj,_⟩:=I.tuple l1;exact SeqAt.RcAt.list_tuple pi.isList pj ay
  |aj=>rw[ql]at he;subst he;cases rv;exact SeqAt.RcAt.list_none pi.isList ay
  |bl b=>rw[ql]at he;subst he;cases rv;exact SeqAt.RcAt.list_bool b pi.isList ay
  |int b=>rw[ql]at he;subst he;obtain⟨t,rfl⟩:=rv;exact SeqAt.RcAt.list_int b t pi.isList ay
  |str b=>rw[ql]at he;subst he;obtain⟨t,rfl⟩:=rv;exact SeqAt.RcAt.list_str b t pi.isList ay
theorem SE (I:Inv X pins U H s){n:Nat}{d e:Dt}{x y:V}{u v:Value}{A:Around}(hn:bg d<=n)(hu:A.units+n<cLine)(hd:ql X.K H d x)(he:ql X.K H e y)(ru:RelV x u)(rv:RelV y v):SeqAt.RcNeAt A s u v (!(aU d e)):=by
 have ay:A.units<cLine:=by lia
 cases d with
 |aj=>
  rw[ql]at hd;subst hd;cases ru;cases e<;>rw[ql]at he;case aj=>subst he;cases rv;exact SeqAt.RcNeAt.none_none
  case bl b=>subst he;cases rv;exact SeqAt.RcNeAt.none_bool b
  case int b=>subst he;obtain⟨t,rfl⟩:=rv;exact SeqAt.RcNeAt.none_int b t
  case str b=>subst he;obtain⟨t,rfl⟩:=rv;exact SeqAt.RcNeAt.none_str b t
  case tup es=>obtain⟨b,ys,rfl,k1,k2⟩:=he;cases rv;obtain⟨js,vj,pj,_⟩:=I.tuple k1;exact SeqAt.RcNeAt.none_tuple pj ay
  case lst es=>obtain⟨b,ys,rfl,k1,k2⟩:=he;cases rv;obtain⟨js,vj,pj,_⟩:=I.list k1;exact SeqAt.RcNeAt.none_list pj.isList ay
 |bl a=>
  rw[ql]at hd;subst hd;cases ru;cases e<;>rw[ql]at he;case aj=>subst he;cases rv;exact SeqAt.RcNeAt.bool_none a
  case bl b=>subst he;cases rv;exact SeqAt.RcNeAt.bool_bool a b
  case int b=>subst he;obtain⟨t,rfl⟩:=rv;exact SeqAt.RcNeAt.bool_int a b t
  case str b=>subst he;obtain⟨t,rfl⟩:=rv;exact SeqAt.RcNeAt.bool_str a b t
  case tup es=>obtain⟨b,ys,rfl,k1,k2⟩:=he;cases rv;obtain⟨js,vj,pj,_⟩:=I.tuple k1;exact SeqAt.RcNeAt.bool_tuple a pj ay
  case lst es=>obtain⟨b,ys,rfl,k1,k2⟩:=he;cases rv;obtain⟨js,vj,pj,_⟩:=I.list k1;exact SeqAt.RcNeAt.bool_list a pj.isList ay
 |int a=>
  rw[ql]at hd;subst hd;obtain⟨t0,rfl⟩:=ru;cases e<;>rw[ql]at he;case aj=>subst he;cases rv;exact SeqAt.RcNeAt.int_none a t0
  case bl b=>subst he;cases rv;exact SeqAt.RcNeAt.int_bool a t0 b
  case int b=>subst he;obtain⟨t,rfl⟩:=rv;exact SeqAt.RcNeAt.int_int a t0 b t
  case str b=>subst he;obtain⟨t,rfl⟩:=rv;exact SeqAt.RcNeAt.int_str a t0 b t
  case tup es=>obtain⟨b,ys,rfl,k1,k2⟩:=he;cases rv;obtain⟨js,vj,pj,_⟩:=I.tuple k1;exact SeqAt.RcNeAt.int_tuple a t0 pj ay
  case lst es=>obtain⟨b,ys,rfl,k1,k2⟩:=he;cases rv;obtain⟨js,vj,pj,_⟩:=I.list k1;exact SeqAt.RcNeAt.int_list a t0 pj.isList ay
 |str a=>
  rw[ql]at hd;subst hd;obtain⟨t0,rfl⟩:=ru;cases e<;>rw[ql]at he;case aj=>subst he;cases rv;exact SeqAt.RcNeAt.str_none a t0
  case bl b=>subst he;cases rv;exact SeqAt.RcNeAt.str_bool a t0 b
  case int b=>subst he;obtain⟨t,rfl⟩:=rv;exact SeqAt.RcNeAt.str_int a t0 b t
  case str b=>subst he;obtain⟨t,rfl⟩:=rv;exact SeqAt.RcNeAt.str_str a t0 b t
  case tup es=>obtain⟨b,ys,rfl,k1,k2⟩:=he;cases rv;obtain⟨js,vj,pj,_⟩:=I.tuple k1;exact SeqAt.RcNeAt.str_tuple a t0 pj ay
  case lst es=>obtain⟨b,ys,rfl,k1,k2⟩:=he;cases rv;obtain⟨js,vj,pj,_⟩:=I.list k1;exact SeqAt.RcNeAt.str_list a t0 pj.isList ay
 |tup ds=>
  rw[bg]at hn;have jE:A.in1.units+(n-1)<cLine:=by rw[units_in1];lia
  rw[ql]at hd;obtain⟨a,xs,rfl,k1,k2⟩:=hd;cases ru;obtain⟨is,vi,pi,_⟩:=I.tuple k1;cases e with
  |tup es=>rw[ql]at he;obtain⟨b,ys,rfl,l1,l2⟩:=he;cases rv;obtain⟨js,vj,pj,_⟩:=I.tuple l1;have q:=SeqAt.RcNeAt.tuples (A:=A) pi pj ay (items_eqAt k2 l2 vi vj λd e x y u v _ bN=>su I (n-1) d e x y u v A.in1 (by lia) jE);obtain⟨z1,z2⟩:=pQ k2 l2 vi vj;rw[<-z1,<-z2,pP]at q;rw[aU];exact q
  |lst es=>rw[ql]at he;obtain⟨b,ys,rfl,l1,l2⟩:=he;cases rv;obtain⟨js,vj,pj,_⟩:=I.list l1;exact SeqAt.RcNeAt.tuple_list pi pj.isList ay
  |aj=>rw[ql]at he;subst he;cases rv;exact SeqAt.RcNeAt.tuple_none pi ay
  |bl b=>rw[ql]at he;subst he;cases rv;exact SeqAt.RcNeAt.tuple_bool b pi ay
  |int b=>rw[ql]at he;subst he;obtain⟨t,rfl⟩:=rv;exact SeqAt.RcNeAt.tuple_int b t pi ay
  |str b=>rw[ql]at he;subst he;obtain⟨t,rfl⟩:=rv;exact SeqAt.RcNeAt.tuple_str b t pi ay
 | lst ds=>
  rw[bg]at hn;have jE:A.in1.units+(n-1)<cLine:=by rw[units_in1];lia
  rw[ql]at hd;obtain⟨a,xs,rfl,k1,k2⟩:=hd;cases ru;obtain⟨is,vi,pi,_⟩:=I.list k1;cases e with
  |lst es=>
   rw[ql]at he;obtain⟨b,ys,rfl,l1,l2⟩:=he;cases rv;obtain⟨js,vj,pj,_⟩:=I.list l1;obtain⟨z1,z2⟩:=pQ k2 l2 vi vj;rw[aU];by_cases hsz:ds.length=es.length
   .have q:=SeqAt.RcNeAt.lists (A:=A) pi.isList pj.isList (by lia) ay (items_eqAt k2 l2 vi vj λd e x y u v _ bN=>su I (n-1) d e x y u v A.in1 (by lia) jE);rw[<-z1,Cz hsz]at q;exact q
   .rw[CA hsz];exact SeqAt.RcNeAt.lists_lengths pi.isList pj.isList (by rw[<-z1,<-z2];simpa using hsz) ay
  |tup es=>rw[ql]at he;obtain⟨b,ys,rfl,l1,l2⟩:=he;cases rv;obtain⟨js,vj,pj,_⟩:=I.tuple l1;exact SeqAt.RcNeAt.list_tuple pi.isList pj ay
  |aj=>rw[ql]at he;subst he;cases rv;exact SeqAt.RcNeAt.list_none pi.isList ay
  |bl b=>rw[ql]at he;subst he;cases rv;exact SeqAt.RcNeAt.list_bool b pi.isList ay
  |int b=>rw[ql]at he;subst he;obtain⟨t,rfl⟩:=rv;exact SeqAt.RcNeAt.list_int b t pi.isList ay
  |str b=>rw[ql]at he;subst he;obtain⟨t,rfl⟩:=rv;exact SeqAt.RcNeAt.list_str b t pi.isList ay
end
noncomputable def Ks (K:PySem.W.Frag):R2:=λx y H Q=>∃d e,ql K H d x/\ql K H e y/\bg d<=60/\Q (.bl (aU d e)) H
noncomputable def SG (K:PySem.W.Frag):R2:=λx y H Q=>∃d e,ql K H d x/\ql K H e y/\bg d<=60/\Q (.bl (!aU d e)) H
section
variable {X:Cx}
theorem Kt (hu:X.A.units+64<cLine):bB X (compareOp .Eq) (Ks X.K):=by intro pins s U H x y v u Q I rx ry h;obtain⟨d,e,hd,he,hn,q⟩:=h;exact Sy I hn (by lia) hd he rx ry _ _ _ _ ⟨.bl _,H,I,rfl,q⟩
theorem jF (hu:X.A.units+64<cLine):bB X (compareOp .NotEq) (SG X.K):=by intro pins s U H x y v u Q I rx ry h;obtain⟨d,e,hd,he,hn,q⟩:=h;exact SE I hn (by lia) hd he rx ry _ _ _ _ ⟨.bl _,H,I,rfl,q⟩
end
theorem CC (K:PySem.W.Frag)(H:Hp):∀ns:List Int,xu K H (ns.map Dt.int) (ns.map V.int)
 |[]=>by rw[map_nil,map_nil,xu]
 |n::ns=>by rw[map_cons,map_cons,xu];exact⟨_,_,rfl,by rw[ql],CC K H ns⟩
theorem sy {K:PySem.W.Frag}{H:Hp}{a:Addr}{ns:List Int}(h:ag K H a (ns.map V.int)):ql K H (.lst (ns.map Dt.int)) (.ref a):=by rw[ql];exact⟨a,_,rfl,h,CC K H ns⟩
theorem Ku {K:PySem.W.Frag}{H:Hp}{a:Addr}{ns:List Int}(h:aw K H a (ns.map V.int)):ql K H (.tup (ns.map Dt.int)) (.ref a):=by rw[ql];exact⟨a,_,rfl,h,CC K H ns⟩
theorem CD:∀ns:List Int,cM (ns.map Dt.int)=0
 |[]=>by rw[map_nil,cM]
 |n::ns=>by show max (bg (Dt.int n)) (cM (ns.map Dt.int))=0;rw[CD ns];rfl
theorem CF:∀ms ns:List Int,cv (ms.map Dt.int) (ns.map Dt.int)=decide (ms=ns)
 |[],[]=>by simp[cv]
 |[],n::ns=>by simp[cv]
 |m::ms,[]=>by simp[cv]
 |m::ms,n::ns=>by
  rw[map_cons,map_cons,cv,CF ms ns,aU];by_cases h:m=n
  .subst h;simp
  .simp[h]
theorem SH (ms ns:List Int):aU (.lst (ms.map Dt.int)) (.lst (ns.map Dt.int))=decide (ms=ns):=by rw[aU,CF]
theorem SI (ms ns:List Int):aU (.tup (ms.map Dt.int)) (.tup (ns.map Dt.int))=decide (ms=ns):=by rw[aU,CF]
theorem xJ (ns:List Int):bg (.lst (ns.map Dt.int))<=60:=by rw[bg,CD];decide
theorem SJ (ns:List Int):bg (.tup (ns.map Dt.int))<=60:=by rw[bg,CD];decide
section
variable {X:Cx}
noncomputable def SK (K:PySem.W.Frag):R2:=λx y H Q=>∃p xs i v,x= .ref p/\y= .int i/\ag K H p xs/\0<=i/\xs[i.toNat]?=some v/\Q v H
theorem CG:IY X (SK X.K):=by intro pins s U H o i ov iv Q I ro ri h;obtain⟨p,xs,k,z,rfl,rfl,hq,h0,he,q⟩:=h;cases ro;obtain⟨t,rfl⟩:=ri;obtain⟨its,r,pl,hz⟩:=I.list hq;obtain⟨w,ew,cy⟩:=r.get he;have hl:=r.length;have hn:=nH;have hk:k.toNat<its.length:=(List.getElem?_eq_some_iff.mp ew).1;exact wpAny_getItem_list pl.isList h0 (by lia) (by simpa using ew) ⟨z,H,I,cy,q⟩
end
noncomputable def fT {α:Type}:List α->List α->List α
 |[u0],[w0]=>[u0,w0]
 |_,_=>[]
theorem SM {vs:List V}{us:List Value}{zs:List V}{ws:List Value}(r1:Vals vs us)(r2:Vals zs ws):Vals (fT vs zs) (fT us ws):=by
 cases r1 with
 |nil=>exact .nil
 | cons a ra=>
  cases ra with
  | nil=>
   cases r2 with
   |nil=>exact .nil
   |cons b rb=>
    cases rb with
    |nil=>exact .cons a (.cons b .nil)
    |cons _ _=>exact .nil
  |cons _ _=>exact .nil
theorem SN {K:PySem.W.Frag}{fd:FuncData}{p k:Str}{kd:Addr}{v:Value}(e:PySem.W.nsIn K kd k=some (some v))(hp:fd.params.posonlyargs=[])(ha:fd.params.args.map (·.arg)=[p])(hv:fd.params.vararg=none)(hk:fd.params.kwonlyargs.map (·.arg)=[k])(rF:fd.params.kwarg=none)(hd:fd.defaults= .none)(SO:fd.kwdefaults= .ref kd)(Kv:(k==p)=false):Binds K fd [p,k] [v]:=by
 intro s us KX hl;obtain⟨u,rfl⟩:∃u,us=[u]:=by match us,hl with
  |[u],_=>exact⟨u,rfl⟩
  |_::_::_,hl=>simp at hl
 intro Mo A E Q hq;have L:=PySem.W.looks_nsIn (M:=Mo) KX e;unfold bindArgs;have hz:seqItems? Value.none=pure none:=rfl;simp only[hp,ha,hv,hk,rF,hd,SO,hz,map_nil,List.nil_append,length_cons,length_nil,List.zip_cons_cons,List.zip_nil_right,pure_bind,Option.getD_none,List.forIn_nil];simp[lookup_cons,Kv];refine wpAny_bind (L A _ E s (λ_ _ h=>h) ?_);simp[lookup_cons,Kv];exact wpAny_pure hq
theorem yx.there {P:Program}{w:World}{H:Hp}{h:Heap}{a:Addr}{o:HO}(x:yx P w H h a o):∃ob,h.get? a=some ob:=by
 cases o with
 |lst xs=>obtain⟨_,_,_,_,e⟩:=x;exact⟨_,e⟩
 |tup xs=>obtain⟨_,_,_,p⟩:=x;obtain⟨o,e,_⟩:=p;exact⟨_,e⟩
 |dK kvs=>obtain⟨_,_,_,_,o,_,_,e,_⟩:=x;exact⟨_,e⟩
 |dT kvs=>obtain⟨_,_,_,_,o,_,_,e,_⟩:=x;exact⟨_,e⟩
 |set S n=>obtain⟨o,_,_,_,e,_⟩:=x;exact⟨_,e⟩
 |ins C dx fs=>obtain⟨_,_,_,e,_⟩:=x;exact⟨_,e⟩
 |own y=>obtain⟨_,e⟩:=x;exact⟨_,e⟩
 |xd fs=>obtain⟨_,⟨_,_,_,e,_⟩,_⟩:=x;exact⟨_,e⟩
 |vW lo hi=>obtain⟨_,_,_,e⟩:=x;exact⟨_,e⟩
 |aA ob u=>obtain⟨e,_⟩:=x;exact⟨_,e⟩
 |lP ps=>exact⟨_,(show h.get? a=some _ from x)⟩
 |met f y=>exact⟨_,(show h.get? a=some _ from x)⟩
 |ext φ=>obtain⟨_,⟨_,e⟩,_⟩:=x;exact⟨_,e⟩
structure pS (P:Program)(w:World)(l:List Env)(H H':Hp)(s s':Shared)(ea:Addr)(cls:Value):Prop where
 os:s'.os=s.os
 bare:AllBare s'.gens
 un:Un (bj l) [] H H' s.heap s'.heap
 af:bG P w H' s'.heap
 Kw:∃(Bq:Heap)(t:Addr),Heap.FlyingW Bq l ea cls (.ref t) s'.heap/\(∀b o o',s.heap.get? b=some o->s'.heap.get? b=some o'->b∉bj l->Bq.get? b=some o')/\(∀b u o',H' b=some u->s'.heap.get? b=some o'->Bq.get? b=some o')
 new:s.heap.get? ea=none
section
variable {X:Cx}{pins:List (Addr×Obj)}{U:St}{H H':Hp}{s s':Shared}{ea:Addr}{cls:Value}
theorem Inv.jG (I:Inv X pins U H s){b:Addr}{o:Obj}(e:X.ar.heap.get? b=some o)(hb:b∉X.fs):b∉bj X.stack:=λz=>by
 rcases mem_cons.mp (I.ny b z)with q|q
 .have h1:@LT.lt Nat _ b X.ar.heap.objs.size:=Heap.lt_size e;have h2:@LE.le Nat _ X.ar.heap.objs.size X.env.locals:=I.ok.above;have h3:@Eq Nat b X.env.locals:=q;lia
 .exact hb q
theorem Inv.SQ (I:Inv X pins U H s){b:Addr}(hb:b∈X.fs):b∈bj X.stack:=by
 rcases I.ok.cQ with e|⟨e,hf⟩
 .rw[e];exact hb
 .rw[e];unfold bj;rw[filterMap_cons,hf];exact mem_cons_of_mem _ hb
theorem SR (I:Inv X pins U H s)(hex:X.ex=[])(F:pS X.prog X.w X.stack H H' s s' ea cls){h':Heap}{Bq:Heap}{t:Addr}(hf:Heap.FlyingW Bq X.outer ea cls (.ref t) h')(hu:s'.heap.UpToSlots h')(k1:∀b o o',s.heap.get? b=some o->s'.heap.get? b=some o'->b∉bj X.stack->Bq.get? b=some o')(k2:∀b u o',H' b=some u->s'.heap.get? b=some o'->Bq.get? b=some o'):
  pS X.prog X.w X.outer X.bz H' X.ar {s' with heap:=h'} ea cls:=by
 have base:=I.base;rw[hex]at base;have cw:∀b:Addr,b∉([]:List Addr):=λb=>by simp
 have lift:∀b o,X.ar.heap.get? b=some o->b∉X.fs->∃o1 o2,s.heap.get? b=some o1/\s'.heap.get? b=some o2/\h'.get? b=some o2:=λb o e hb=>by obtain⟨o1,e1⟩:=base.there b o e (cw b);obtain⟨o2,e2⟩:=F.un.there b o1 e1 (cw b);exact⟨o1,o2,e1,e2,hf.1 _ _ (k1 b o1 o2 e1 e2 (I.jG e hb))⟩
 have slots:∀b o,X.ar.heap.get? b=some o->X.bz b=none->b∈X.fs->∃sl,h'.get? b=some {o with slots:=sl}:=λb o e n hb=>by obtain⟨sl,e1⟩:=base.slot b o e n hb (cw b);obtain⟨SS,e2⟩:=F.un.slot b _ e1 (base.free b o e n (cw b)) (I.SQ hb) (cw b);obtain⟨_,o3,e3,nf⟩:=I.ok.eL.mem hb;rw[e]at e3;cases e3;obtain⟨sA,e4⟩:=hu b _ e2 nf;exact⟨sA,e4⟩
 refine⟨F.os.trans I.os,F.bare,⟨λb o e n hb _=>?_,λb o e n hb _=>slots b o e n hb,λb o e n _=>?_,λb o e _=>?_,λb xs q=>F.un.dE b xs (base.dE b xs q),λb o xs q=>F.un.dh b o xs (base.dh b o xs q),λb ps q=>?_⟩,λb u e=>?_,⟨Bq,t,hf,λb o o' e e' hb=>?_,λb u o' q e'=>?_⟩,?_⟩
 .have e1:=base.keep b o e n hb (cw b);have e2:=F.un.keep b o e1 (base.free b o e n (cw b)) (I.jG e hb) (cw b);exact hf.1 _ _ (k1 b o o e1 e2 (I.jG e hb))
 .obtain⟨o1,e1⟩:=base.there b o e (cw b);exact F.un.free b o1 e1 (base.free b o e n (cw b)) (cw b)
 .by_cases hb:b∈X.fs
  .obtain⟨sl,q⟩:=slots b o e (I.ok.il b hb) hb;exact⟨_,q⟩
  .obtain⟨_,o2,_,_,q⟩:=lift b o e hb;exact⟨o2,q⟩
 .obtain⟨m1,e1⟩:=base.dP b ps q;obtain⟨m2,e2⟩:=F.un.dP b _ e1;exact⟨m1++m2,by rw[e2,Array.append_assoc]⟩
 .refine(F.af b u e).cC (λc v hc q=>?_) (λ_ q=>q) λ_ _ q=>q;rcases hc with z|z
  .subst z;exact hf.1 _ _ (k2 _ _ _ e q)
  .exact hf.1 _ _ (k2 _ _ _ z q)
 .by_cases CH:b∈X.fs
  .exact absurd CH hb
  .obtain⟨o1,o2,e1,e2,q⟩:=lift b o e CH;have q':h'.get? b=some o':=e';rw[q]at q';cases q';exact k1 b o1 _ e1 e2 (I.jG e CH)
 .obtain⟨o2,e2⟩:=(F.af b u q).there;have z:=k2 b u o2 q e2;have q':h'.get? b=some o':=e';rw[hf.1 _ _ z]at q';cases q';exact z
 .cases q:X.ar.heap.get? ea with
  |none=>rfl
  |some o=>obtain⟨o1,e1⟩:=base.there ea o q (cw ea);rw[F.new]at e1;cases e1
end
noncomputable def sF:List Value:=[.type "ValueError",.type "Exception",.type "BaseException",.type "object"]
noncomputable def xK (K:PySem.W.Frag)(C:Addr):Prop:=PySem.W.excIn K C sF "ValueError.__new__"=true
theorem SU {K:PySem.W.Frag}{h:Heap}{C:Addr}{nZ:List Value}{newId:String}(X:K.In h)(q:PySem.W.excIn K C nZ newId=true):∃bm N nm qn bs hdct sn sub ab col dd k0 k1 k2 k3 k5 mN,h.get? C=some (excClassObj nm qn C N bs bm hdct sn sub ab col dd k0 k1 k2 k3 k5 newId)/\h.Ns N mN/\mN "__init__"=none/\OwnTail h nZ bm:=by
 unfold PySem.W.excIn at q;split at q
 .rename_i dd cd sl ho;split at q
  .rename_i C' bm k0 k1 k2 k3 n k5 hm hs;simp only[Bool.and_eq_true,beq_iff_eq,Bool.not_eq_true']at q;obtain⟨⟨⟨⟨⟨rfl,rfl⟩,iG⟩,ht⟩,af⟩,xM⟩:=q;obtain⟨nm,bs,mro,ns,qn,hd,sn,sub,ab,col,del⟩:=cd;dsimp only at hm iG af xM;subst hm iG;have CI:sl=#[k0,k1,k2,k3,some (.builtin n),k5]:=by
    obtain⟨l⟩:=sl;simp only at hs;rw[hs]
   subst CI;exact⟨bm,ns,nm,qn,bs,hd,sn,sub,ab,col,dd,k0,k1,k2,k3,k5,_,X _ _ ho,.of_isNs (PySem.W.isNs_of_in X af),PySem.W.nsMap_none_of_in X af xM,PySem.W.tail_of_in X ht⟩
  .cases q
 .cases q
theorem SV {K:PySem.W.Frag}{M:Model}{h:Heap}{ea C Pc:Addr}{oe:Obj}{b:Bool}(X:K.In h)(he:h.get? ea=some oe)(hc:oe.cls= .ref C)(m:PySem.W.kitCls K (.ref C) (.ref Pc)=some b)(hb:PySem.W.mroIn K Pc (.type "BaseException")=some true):PySem.W.Looks M h (excMatches (.ref ea) (.ref Pc)) b:=by
 obtain⟨L1,L2,L3⟩:=PySem.W.kit_cls (M:=M) X m;have L4:=PySem.W.looks_mroIn (M:=M) X hb;have L5:PySem.W.Looks M h (typeOf (.ref ea)) (.ref C):=hc ▸ (PySem.W.Looks.ld he).andThen .now;have f:=tc_notTuple;intro A Q E s k q;unfold excMatches isInstance isExcClass;simp only[bind_assoc];refine wpAny_bind (L1 A _ E s k ?_);rw[f];simp only[pure_bind,Bool.false_eq_true,if_false,List.forIn_cons,List.forIn_nil,bind_assoc];refine wpAny_bind (L2 A _ E s k ?_);simp only[if_true];refine wpAny_bind (L4 A _ E s k ?_);simp only[Bool.not_true,Bool.false_eq_true,if_false,pure_bind];refine wpAny_bind (L5 A _ E s k ?_);refine wpAny_bind (L3 A _ E s k ?_);cases b
 .exact wpAny_pure q
 .exact wpAny_pure q
noncomputable def Kx (W:Hp->Prop)(t:TA):TS:=λ_ U H=>t U H λvs H1=>vs.length<=sizeLine/\W H1
section
variable {X:Cx}
theorem SW {x:Str}{C:Addr}{e:Expr}{es:List Expr}{t:TA}{np au pos:Pos}{W:Hp->Prop}(hc:X.calm=true)(hg:Gl X x)(hm:X.mg x=some (.ref C))(hC:xK X.K C)(ha:PA X (e::es) t)(CJ:∀{pins:List (Addr×Obj)}{U:St}{H:Hp}{s:Shared}{ea:Addr}{vs:List Value}{h1:Heap},Inv X pins U H s->Heap.MadeExcOf s.heap h1 ea (.ref C) vs->W H->X.xe (.ref ea) {s with heap:=h1})(cD:autoParam ((x==("__debug__":Str))=false) aP2)(he:autoParam (starEach (e::es) X.env=(false,eval e X.env)::starEach es X.env) aP1)(cg:autoParam ((backTo au (starEach es X.env)).any (·.1)=false) aP1):
  PS X (.Raise (some (.Call (.Name x np) (e::es) [] au)) none pos) (Kx W t):=by
 intro pins s U H D I h;obtain⟨bm,N,nm,qn,bs,hdct,sn,sub,ab,col,dd,k0,k1,k2,k3,k5,mN,hC,hN,xM,T⟩:=SU I.mod.dQ hC;have FB:=F.excBase_ValueError;refine wpAny_Raise_call_subT (C:=C) (nm:=nm) (q:=qn) (N:=N) (bs:=bs) (bm:=bm) (hdct:=hdct) (sn:=sn) (sub:=sub) (ab:=ab) (col:=col) (dd:=dd) (k0:=k0) (k1:=k1) (k2:=k2) (k3:=k3) (k5:=k5) FB (mN:=mN) (T.hasType FB.hasBase) (I.ok.hd hc) (by rw[he];show(false||(backTo au (starEach es X.env)).any (·.1))=false;rw[cg];rfl) xM (lR I hg hm ⟨rfl,?_⟩ cD);have hA:=ha au pins s U H _ I h;rw[he]at hA⊢;exact Calls.evalArgs_plain (ah hA λus s2 ⟨vs,H2,I2,r2,hz,q2⟩=>⟨rfl,by rw[<-r2.length];exact hz,I2.bk _ _ hC,hN.keeps I2.bk,T.keeps I2.bk,λh' e hm=>CJ I2 hm q2⟩)
end
noncomputable def pT (X:Cx)(ea:Addr):Cx:={X with A:=X.A.mark (some (.ref ea)),calm:=false,xe:=λ_ _=>False}
noncomputable def mv (ea:Addr)(cls:Value):HO:=.ext λh=>∃o vs,h.get? ea=some o/\o.cls=cls/\o.data= .fields vs
section
variable {X:Cx}{pins pn:List (Addr×Obj)}{U:St}{H H':Hp}{s s':Shared}
theorem Inv.jH {X Yq:Cx}(I:Inv X pins U H s)(ok:Yq.Ok)(hs:Yq.ar=X.ar)(hH:Yq.bz=X.bz)(he:Yq.env=X.env)(ho:Yq.outer=X.outer)(hx:Yq.ex=X.ex)(hN:Yq.N=X.N)(hp:Yq.prog=X.prog)(hw:Yq.w=X.w){bF:List (Addr×Obj)}(CK:∀p∈Yq.pn++bF,p∈X.pn++pins):Inv Yq bF U H s:=by
 obtain⟨prog,w,K,mg,base,A,N,ar,bz,env,outer,stack,ex,fn,calm,SX,xe⟩:=X;obtain⟨sJ,w',K',SY,sL,A',N',sM,sN,CL,oa,og,IE,Ta,sO,Tb,Tc⟩:=Yq;dsimp only at hs hH he ho hx hN hp hw;subst hs hH he ho hx hN hp hw;exact⟨ok,I.os,I.bare,I.base,I.loc,I.cell,I.free,I.dm,λp hp=>I.pin p (CK p hp),I.af,I.len⟩
theorem Cx.Ok.jH {X Yq:Cx}(ok:X.Ok)(hm:Yq.K=X.K/\Yq.mg=X.mg/\Yq.base=X.base)(he:Yq.env=X.env)(hs:Yq.ar=X.ar)(hH:Yq.bz=X.bz)(ho:Yq.outer=X.outer)(gT:Yq.stack=X.stack)(hx:Yq.ex=X.ex)(hf:Yq.fn=X.fn)(hd:Yq.calm=true->Yq.A.handled=none)(mx:Yq.A.frames=some Yq.stack):Yq.Ok:=by
 obtain⟨prog,w,K,mg,base,A,N,ar,bz,env,outer,stack,ex,fn,calm,SX,xe⟩:=X;obtain⟨sJ,w',K',SY,sL,A',N',sM,sN,CL,oa,og,IE,Ta,sO,Tb,Tc⟩:=Yq;obtain⟨xN,Ky,Kz⟩:=hm;dsimp only at xN Ky Kz he hs hH ho gT hx hf;subst xN Ky Kz he hs hH ho gT hx hf;exact⟨ok.mod,ok.kind,ok.glob,ok.blt,ok.above,ok.inj,ok.has,ok.mZ,hd,mx,ok.cQ,ok.vX,ok.bs,ok.i5,ok.ni,ok.pC,ok.eL,ok.il⟩
theorem Inv.KA {bF:List (Addr×Obj)}(I:Inv {X with pn:=pn} bF U H s)(h:∀p∈X.pn++pins,p∈pn):Inv X pins U H s:=I.jH (Yq:=X) (I.ok.jH (Yq:=X) ⟨rfl,rfl,rfl⟩ rfl rfl rfl rfl rfl rfl rfl I.ok.hd I.ok.frames) rfl rfl rfl rfl rfl rfl rfl rfl λp hp=>mem_append_left _ (h p hp)
theorem Inv.Td {ea:Addr}(I:Inv X pins U H s):Inv (pT X ea) pins U H s:=I.jH (Yq:=pT X ea) (I.ok.jH (Yq:=pT X ea) ⟨rfl,rfl,rfl⟩ rfl rfl rfl rfl rfl rfl rfl (λz=>by have z':false=true:=z;cases z') I.ok.frames) rfl rfl rfl rfl rfl rfl rfl rfl λ_ hp=>hp
theorem Inv.xO {ea:Addr}(ok:X.Ok)(I:Inv (pT X ea) pins U H s):Inv X pins U H s:=I.jH (Yq:=X) ok rfl rfl rfl rfl rfl rfl rfl rfl λ_ hp=>hp
theorem Te {CX:eP}{k:Nat}{f:Addr}{fd:FuncData}{ps:List Str}{sp:Sp}{bu:List V}{ds:List Value}{E:XK}{Q:VK}{us:List Value}{vs:List V}(F:xm X.prog X.w X.K X.mg X.base CX k f fd ps sp)(hr:aT k X.A)(hb:Binds X.K fd ps ds)(hd:Vals bu ds)(I:Inv X pins U H s)(hx:∀e s',CX X.stack H s E e s'->X.xe e s')(r:Vals vs us)(h:sp (vs++bu) H Q E):wpAny (model X.prog X.w) X.A (call (.ref f) us) (EP X pins U Q) X.xe s:=by
 have r2:Vals (vs++bu) (us++ds):=r.append hd;have hl:(us++ds).length=ps.length:=by rw[<-r2.length];exact F.len _ _ _ _ h
 refine wpAny_call (codeAny_mono (F.run X.A X.stack s H ⟨us,[]⟩ (us++ds) (vs++bu) Q E hr I.pH (hb s us I.aO hl) r2 h) λr s' hq=>?_);cases r with
 |error e=>exact hx e s' hq
 |ok fl=>
  cases fl with
  |ret u=>exact I.after hq
  |next=>exact False.elim hq
  |brk=>exact False.elim hq
  |cont=>exact False.elim hq
theorem KC {ea:Addr}{cls:Value}(I:Inv X pins U H s)(F:pS X.prog X.w X.stack H H' s s' ea cls){h':Heap}{Bq:Heap}{t:Addr}(hf:Heap.FlyingW Bq X.stack ea cls (.ref t) h')(hu:s'.heap.UpToSlots h')(k1:∀b o o',s.heap.get? b=some o->s'.heap.get? b=some o'->b∉bj X.stack->Bq.get? b=some o')(k2:∀b u o',H' b=some u->s'.heap.get? b=some o'->Bq.get? b=some o'):
  Inv X pins U H' {s' with heap:=h'}:=by
 have cw:∀b:Addr,b∉([]:List Addr):=λb=>by simp
 have slots:∀b o,s.heap.get? b=some o->H b=none->b∈bj X.stack->∃sl,h'.get? b=some {o with slots:=sl}:=λb o e n hb=>by obtain⟨SS,e2⟩:=F.un.slot b _ e n hb (cw b);obtain⟨_,o3,e3,nf⟩:=I.stack.mem hb;rw[e]at e3;cases e3;obtain⟨sA,e4⟩:=hu b _ e2 nf;exact⟨sA,e4⟩
 refine I.BB (ch:=[]) F.os ⟨λb o e n hb _=>?_,λb o e n hb _=>slots b o e n hb,λb o e n _=>F.un.free b o e n (cw b),λb o e _=>?_,F.un.dE,F.un.dh,F.un.dP⟩ (λb u e=>?_) F.bare λb z=>absurd z (cw b)
 .have e2:=F.un.keep b o e n hb (cw b);exact hf.1 _ _ (k1 b o o e e2 hb)
 .by_cases hb:b∈bj X.stack
  .obtain⟨sl,q⟩:=slots b o e (I.vY b hb) hb;exact⟨_,q⟩
  .obtain⟨o2,e2⟩:=F.un.there b o e (cw b);exact⟨o2,hf.1 _ _ (k1 b o o2 e e2 hb)⟩
 .refine(F.af b u e).cC (λc v hc q=>?_) (λ_ q=>q) λ_ _ q=>q;rcases hc with z|z
  .subst z;exact hf.1 _ _ (k2 _ _ _ e q)
  .exact hf.1 _ _ (k2 _ _ _ z q)
theorem Inv.CM {a:Addr}{o:HO}(I:Inv X pins U H s)(hex:X.ex=[])(hn:H a=none)(h0:X.ar.heap.get? a=none)(hL:a≠X.env.locals)(hc:∀x c,X.env.cells.lookup x=some c->c≠a)(hp:∀p∈X.pn++pins,p.1≠a)(new:yx X.prog X.w (upd H a o) s.heap a o):Inv X pins U (upd H a o) s:=by
 have gK:∀b ob,X.ar.heap.get? b=some ob->b≠a:=λb ob e z=>by rw[z,h0]at e;cases e
 refine⟨I.ok,I.os,I.bare,⟨I.base.keep,I.base.slot,λb ob e n hx=>?_,I.base.there,λb xs q=>?_,λb ob u q=>?_,λb ps q=>?_⟩,I.loc,I.cell,?_,λx c e=>?_,λp xP=>?_,λb u e=>?_,I.len⟩
 .rw[jd (gK b ob e)];exact I.base.free b ob e n hx
 .rw[jd (ji (I.base.dE b xs q) hn)];exact I.base.dE b xs q
 .rw[jd (ji (I.base.dh b ob u q) hn)];exact I.base.dh b ob u q
 .obtain⟨more,z⟩:=I.base.dP b ps q;exact⟨more,by rw[jd (ji z hn)];exact z⟩
 .rw[jd (Ne.symm hL)];exact I.free
 .rw[jd (hc x c e)];exact I.dm x c e
 .obtain⟨q1,q2,q3⟩:=I.pin p xP;exact⟨q1,by rw[jd (hp p xP)];exact q2,q3⟩
 .by_cases hb:b=a
  .subst hb;rw[ja]at e;cases e;exact new
  .rw[jd hb]at e;exact(I.af b u e).cC (λ_ _ _ q=>q) (λc q=>by rw[jd (ji q hn)];exact q) λc xs q=>by rw[jd (ji q hn)];exact q
theorem Inv.unset {i:Nat}{n:Str}(I:Inv X pins U H s)(hN:X.N.Nodup)(hi:X.N[i]?=some n){m:Str->Option Value}(hm:s.heap.Ns X.env.locals m)(hl:∀(i:Nat)(x:Str)(v:V),X.N[i]?=some x->U[i]?=some (some v)->qX X.env.scope x->∃u,RelV v u/\Look X.env s.heap m x u){h':Heap}{u:Option Value}(iq:h'.Ns X.env.locals (λx=>if x=n then u else m x))(hs:Heap.SameBut X.env.locals s.heap h'):Inv X pins (U.set i none) H {s with heap:=h'}:=by
 obtain⟨oL,_,_,IJ,_⟩:=id hm;have pD:i<U.length:=by rw[I.len];exact(List.getElem?_eq_some_iff.mp hi).1
 have ip:=I.ip;refine⟨I.ok,I.os,I.bare,⟨λb o e n hb hx=>?_,λb o e n hb hx=>?_,I.base.free,λb o e hx=>?_,I.base.dE,I.base.dh,I.base.dP⟩,⟨_,iq,λj y v' e1 e2 e3=>?_⟩,λy c e=>?_,I.free,I.dm,λp hp=>?_,λb ob e=>?_,by simpa using I.len⟩
 .exact(hs.2 b (ne_of_lt (lt_of_lt_of_le (Heap.lt_size e) I.ok.above))).trans (I.base.keep b o e n hb hx)
 .obtain⟨sl,e1⟩:=I.base.slot b o e n hb hx;exact⟨sl,(hs.2 b (ne_of_lt (lt_of_lt_of_le (Heap.lt_size e) I.ok.above))).trans e1⟩
 .obtain⟨o',e1⟩:=I.base.there b o e hx;exact⟨o',(hs.2 b (ne_of_lt (lt_of_lt_of_le (Heap.lt_size e) I.ok.above))).trans e1⟩
 .by_cases hj:j=i
  .subst hj;rw[getElem?_set_self pD]at e2;cases e2
  .rw[getElem?_set_ne (Ne.symm hj)]at e2;obtain⟨u',r',q⟩:=hl j y v' e1 e2 e3;refine⟨u',r',?_⟩;rcases q with⟨k,e⟩|⟨k,c,e,z⟩
   .refine .inl ⟨k,?_⟩;have:y≠n:=λe=>hj (Bx hN e1 (e ▸ hi));simp[this,e]
   .exact .inr ⟨k,c,e,z.sameBut hs (ip y c e)⟩
 .obtain⟨w',z⟩:=I.cell y c e;exact⟨w',z.sameBut hs (ip y c e)⟩
 .obtain⟨e,n,ne,nf,d⟩:=I.pin p hp;exact⟨(hs.2 p.1 ne).trans e,n,ne,nf,d⟩
 .refine(I.af b ob e).cC (λc w' hc q=>(hs.2 c ?_).trans q) (λ_ q=>q) λ_ _ q=>q;have fr:=I.free
  rintro rfl
  rcases hc with rfl|hc
  .rw[fr]at e;cases e
  .rw[fr]at hc;cases hc
end
structure hJ (K:PySem.W.Frag)(C:Addr):Prop where
 ga:PySem.W.findIn K (.ref C) "__getattribute__"=some (some (.builtin "BaseException.__getattribute__"))
 gn:PySem.W.findIn K (.ref C) "__getattr__"=some none
 cl:PySem.W.findIn K (.ref C) "__class__"=some (some (.builtin "object.__class__"))
 be:PySem.W.mroIn K C (.type "BaseException")=some true
 ob:PySem.W.mroIn K C (.type "object")=some true
 is:(PySem.W.clsIn K C).isSome=true
section
variable {prog:Program}{w:World}{A:Around}{E:Value->Shared->Prop}{K:PySem.W.Frag}{h:Heap}{g:Array GenState}{d:Drawn}{t:Nat}{os:OsState}{a C:Addr}{o:Obj}
theorem Tf {M:Model}(hx:h.get? a=some o)(hc:o.cls= .ref C):PySem.W.Looks M h (typeOf (.ref a)) (.ref C):=hc ▸ (PySem.W.Looks.ld hx).andThen .now
theorem Tg {R:Result->Shared->Prop}{tp:Value}(X:K.In h)(I:hJ K C)(hx:h.get? a=some o)(hc:o.cls= .ref C)(hq:R (.ok (.ret (.ref C))) ⟨h,g,d,t,os⟩):codeAny (model prog w) A (.call (.builtin "getset_descriptor.__get__") ⟨[.builtin "object.__class__",.ref a,tp],[]⟩) R ⟨h,g,d,t,os⟩:=by
 have L1:=PySem.W.looks_mroIn (M:=model prog w) X I.ob;have xQ:(⟨h,g,d,t,os⟩:Shared).TypeIs (.builtin "object.__class__") "getset_descriptor":=F.typeOf_object_class;refine codeAny_call_builtin F.slot_gs_get.plain F.entry_gs_get (F.slot_gs_get.check _ _ _ _ _ _ _ _ xQ (F.args_gs_get _ _ _) ?_);have ow:=F.owner_object_class;repeat(any_goals (first|assumption|(with_reducible refine wpAny_loadPart_at hx ?_;rw[hc])|(rw[ow];with_reducible refine L1.at ?_)|(with_reducible refine L1.at ?_)|wp_step))
 refine⟨Code.quiet_builtin _ (by decide+kernel),codeAny_builtin F.entry_object_class ?_⟩;repeat(any_goals (first|assumption|(with_reducible refine wpAny_loadPart_at hx ?_;rw[hc])|wp_step))
theorem Th {tk:Tok}{Q:Fin->Shared->Prop}(X:K.In h)(I:hJ K C)(hx:h.get? a=some o)(hc:o.cls= .ref C)(hq:Q (.done (.ret (.ref C))) ⟨h,g,d,t,os⟩):wpAny (model prog w) A (Builtin.«object.__getattribute__» ⟨[.ref a,.str "__class__" tk],[]⟩) Q E ⟨h,g,d,t,os⟩:=by
 have xQ:(⟨h,g,d,t,os⟩:Shared).TypeIs (.builtin "object.__class__") "getset_descriptor":=F.typeOf_object_class;have f5:=F.typeOf_object_class;have f6:=F.slot_gs_get.lookup;have f7:=F.slot_gs_set.lookup;have L1:=PySem.W.looks_findIn (M:=model prog w) X I.cl;repeat(any_goals (first|assumption|(with_reducible refine wpAny_loadPart_at hx ?_;rw[hc])|(with_reducible refine L1.at ?_)|wp_step))
 refine Tg X I hx hc ?_;repeat(any_goals (first|assumption|wp_step))
theorem Ti {M:Model}{eC:Value}{Q:Unit->Shared->Prop}(X:K.In h)(I:hJ K C)(hx:h.get? a=some o)(hc:o.cls= .ref C)(hq:Q () ⟨h,g,d,t,os⟩):wpAny M A (checkBuiltinCall "BaseException.__getattribute__" ⟨[.ref a,eC],[]⟩) Q E ⟨h,g,d,t,os⟩:=by
 have hk:builtinKind "BaseException.__getattribute__"=some .slot:=by decide+kernel
 have oh:splitId "BaseException.__getattribute__"=some ("BaseException","__getattribute__"):=by decide+kernel
 have L1:=PySem.W.looks_mroIn (M:=M) X I.be;have ha:=F.args_bexc_ga (.ref a) eC;simp only[checkBuiltinCall,hk,oh];refine wpAny_bind ?_
 .unfold isInstance;repeat(first|(with_reducible refine wpAny_loadPart_at hx ?_;rw[hc])|(with_reducible refine L1.at ?_)|wp_step)
  exact hq
theorem Tj {tk:Tok}{R:Result->Shared->Prop}(X:K.In h)(I:hJ K C)(hx:h.get? a=some o)(hc:o.cls= .ref C)(hq:R (.ok (.ret (.ref C))) ⟨h,g,d,t,os⟩):codeAny (model prog w) A (.call (.builtin "BaseException.__getattribute__") ⟨[.ref a,.str "__class__" tk],[]⟩) R ⟨h,g,d,t,os⟩:=
 codeAny_call_builtin F.attr_ValueError.ga.plain F.entry_bexc_ga (Ti X I hx hc (Th X I hx hc hq))
theorem Tn {tk:Tok}{Q:Value->Shared->Prop}(X:K.In h)(I:hJ K C)(hx:h.get? a=some o)(hc:o.cls= .ref C)(hq:Q (.ref C) ⟨h,g,d,t,os⟩):wpAny (model prog w) A (getAttrBy (.ref a) (.str "__class__" tk) false) Q E ⟨h,g,d,t,os⟩:=by
 have f3:=F.attr_ValueError.ga.bind (.ref a);have L1:=PySem.W.looks_findIn (M:=model prog w) X I.ga;have L2:=PySem.W.looks_findIn (M:=model prog w) X I.gn;have Tp:(Value.builtin "BaseException.__getattribute__"==Value.builtin "object.__getattribute__")=false:=by decide+kernel
 have sP:(onTheHeap (Value.ref C)&&Value.builtin "BaseException.__getattribute__"==Value.builtin "object.__getattribute__")=false:=by rw[Tp];rfl
 repeat(any_goals (first|assumption|(with_reducible refine wpAny_loadPart_at hx ?_;rw[hc])|(with_reducible refine L1.at ?_)|(with_reducible refine L2.at ?_)|wp_step))
 refine Tj X I hx hc ?_;repeat(any_goals (first|assumption|wp_step))
theorem Tq {Q:Option Value->Shared->Prop}(X:K.In h)(I:hJ K C)(hx:h.get? a=some o)(hc:o.cls= .ref C)(hq:Q (some (.ref C)) ⟨h,g,d,t+1,os⟩):wpAny (model prog w) A (getAttr? (.ref a) "__class__") Q E ⟨h,g,d,t,os⟩:=by unfold getAttr? getAttrBy?;repeat(any_goals (first|assumption|with_reducible apply Tn X I hx hc|wp_step))
end
theorem Tr {K:PySem.W.Frag}{ea C:Addr}(I:hJ K C):PySem.W.KitX K (.ref ea) (.ref C) (λh=>∃o vs,h.get? ea=some o/\o.cls= .ref C/\o.data= .fields vs) where
 ty:=λ_ _ _ ⟨o,_,h1,h2,_⟩=>Tf h1 h2
 it:=λ_ _ X _=>by
  have iw:=I.is;unfold PySem.W.clsIn at iw;split at iw
  .rename_i c' d' Ts nB ho;intro A' Q' E' s' k q;unfold isType loadHead;exact wpAny_bind (wpAny_loadPart (k _ _ (X _ _ ho)) (wpAny_pure q))
  .cases iw
 ne:=λh tp dd its n sl X Tt=>by
  refine Bool.eq_false_iff.mpr λq=>?_;have e:C=tp:=Value.ref.inj (beq_iff_eq.mp q);subst e;have iw:=I.is;unfold PySem.W.clsIn at iw;split at iw
  .rename_i c' d' Ts nB ho;have z:=(X _ _ ho).symm.trans Tt;cases z
  .cases iw
 ca:=λ{_ _ _ _ _ s} X ⟨o,_,h1,h2,_⟩ k=>by obtain⟨hh,g,d,t,os⟩:=s;exact Tq X I h1 h2 k
section
variable {X:Cx}
theorem xg:dW X (.builtin "isinstance") (λxs H Q=>∃ea C y c b,xs=[.ref ea,y]/\H ea=some (mv ea (.ref C))/\hJ X.K C/\RelV y c/\PySem.W.kitOne X.K (.ref C) c=some b/\Q (.bl b) H):=by
 intro pins s U H xs us Q I r h;obtain⟨ea,C,y,c,b,rfl,hH,hX,ry,hk,q⟩:=h;obtain⟨u,w,rfl,r1,r2⟩:=vals2 r;obtain rfl:u=Value.ref ea:=r1;have hw:w=c:=by
  cases y with
  |ref z=>exact(show w=Value.ref z from r2).trans (show c=Value.ref z from ry).symm
  |ty z=>exact(show w=Value.type z from r2).trans (show c=Value.type z from ry).symm
  |aj=>exact(show w=Value.none from r2).trans (show c=Value.none from ry).symm
  |bl z=>exact(show w=Value.bool z from r2).trans (show c=Value.bool z from ry).symm
  |int z=>exfalso;obtain⟨_,rfl⟩:=ry;unfold PySem.W.kitOne PySem.W.kitCls at hk;simp at hk
  |str z=>exfalso;obtain⟨_,rfl⟩:=ry;unfold PySem.W.kitOne PySem.W.kitCls at hk;simp at hk
  |eV z=>exfalso;obtain⟨_,rfl⟩:=ry;unfold PySem.W.kitOne PySem.W.kitCls at hk;simp at hk
  |lO z=>exfalso;obtain⟨_,rfl⟩:=ry;unfold PySem.W.kitOne PySem.W.kitCls at hk;simp at hk
 subst hw;obtain⟨p,_,_⟩:=(show yx X.prog X.w H s.heap ea (mv ea (.ref C))from I.af ea _ hH);exact PySem.W.kia_one (Tr hX) I.aO p hk (λz=>nomatch z) λtk=>⟨.bl b,H,I.tok tk,rfl,q⟩
end
theorem KG {A:Around}{s:Shared}(k:Bool)(bs:List Bool):∀y,y∈(bs.map Value.bool).toArray->SeqAt.EqAt A s y (.bool k) (isBoolOf k y):=λy hy=>by
 have Tu:y∈bs.map Value.bool:=by simpa using hy
 obtain⟨b,_,rfl⟩:=mem_map.mp Tu;exact SeqAt.EqAt.bool_bool b k
theorem KH (k:Bool):∀bs:List Bool,(bs.map Value.bool).countP (isBoolOf k)=bs.count k
 |[]=>rfl
 |b::bs=>by rw[map_cons,List.countP_cons,List.count_cons,KH k bs];rfl
noncomputable def Tv (K:PySem.W.Frag):V->List V->Hp->VK->Prop:=λx vs H Q=>∃(l:Addr)(bs:List Bool)(k:Bool),x= .ref l/\vs=[.bl k]/\ag K H l (bs.map V.bl)/\Q (.int (bs.count k)) H
noncomputable def Tx (K:PySem.W.Frag):V->List V->Hp->VK->Prop:=λx vs H Q=>∃(l:Addr)(bs:List Bool)(k:Bool),x= .ref l/\vs=[.bl k]/\ag K H l (bs.map V.bl)/\k∈bs/\Q (.int (bs.idxOf k)) H
section
variable {X:Cx}
theorem Tz:pI X "list.count" (Tv X.K):=by intro pins s U H x vs v us Q I rx rv h;obtain⟨l,bs,k,rfl,rfl,hH,q⟩:=h;cases rx;obtain⟨u,rfl,ru⟩:=rv.one;obtain rfl:u=Value.bool k:=ru;obtain⟨its,r,pl,hz⟩:=I.list hH;have e:=xH r;subst e;obtain⟨⟨cls,dd,data,sl⟩,ho,hc,n,hd⟩:=pl.isList;simp only at hc hd;subst hc hd;refine call_meets PySem.F.slot_list_count ⟨_,ho,rfl⟩ PySem.F.entry_list_count (PySem.F.args_list_count_2 _ _) (SeqAt.list_countAt l _ n dd sl (.bool k) (isBoolOf k)) ⟨ho,λy hy=>KG k bs y hy,?_⟩;rw[show(bs.map Value.bool).toArray.toList=bs.map Value.bool from rfl,KH k bs];exact⟨.int (bs.count k),H,I.tok _,⟨_,rfl⟩,q⟩
theorem TB:pI X "list.index" (Tx X.K):=by
 intro pins s U H x vs v us Q I rx rv h;obtain⟨l,bs,k,rfl,rfl,hH,hk,q⟩:=h;cases rx;obtain⟨u,rfl,ru⟩:=rv.one;obtain rfl:u=Value.bool k:=ru;obtain⟨its,r,pl,hz⟩:=I.list hH;have e:=xH r;subst e;obtain⟨⟨cls,dd,data,sl⟩,ho,hc,n,hd⟩:=pl.isList;simp only at hc hd;subst hc hd;have hj:bs.idxOf k<bs.length:=List.idxOf_lt_length_iff.mpr hk;have KI:bs.length<=sizeLine:=by rw[length_map]at hz;exact hz
 have hs:(sizeLine:Int)<2^63-1:=by decide
 refine call_meets PySem.F.slot_list_index ⟨_,ho,rfl⟩ PySem.F.entry_list_index (PySem.F.args_list_index_2 _ _) (SeqAt.list_indexAt l _ n dd sl (.bool k) (isBoolOf k) (bs.idxOf k) (by simpa using hj) (by lia) ?_ ?_) ⟨ho,λy hy=>KG k bs y hy,?_⟩
 .have e:(bs.map Value.bool).toArray[bs.idxOf k]'(by simpa using hj)=Value.bool (bs[bs.idxOf k]):=by simp
  rw[e];show(bs[bs.idxOf k]==k)=true;simpa using List.getElem_idxOf hj
 .intro j KJ az;have hjl:j<bs.length:=by simpa using KJ
  have e:(bs.map Value.bool).toArray[j]'KJ=Value.bool (bs[j]):=by simp
  rw[e];show(bs[j]==k)=false;exact Bool.eq_false_iff.mpr λz=>by simpa[z]using List.not_of_lt_findIdx (p:=(·==k)) (xs:=bs) (i:=j) az
 .exact⟨.int (bs.idxOf k),H,I.tok _,⟨_,rfl⟩,q⟩
end
end L2
namespace L2
open PySem
noncomputable def kinds (K:PySem.W.Frag)(C:Value)(Ds:List Value):List (Option Bool):=Ds.map (PySem.W.kitOne K C)
end L2
namespace L2
open PySem PySem.Spec PyProof.Rows
noncomputable def isStar:Expr->Bool
 | .Starred _ _=>true
 |_=>false
theorem TC {e:Expr}{es:List Expr}{env:Env}(h:isStar e=false):starEach (e::es) env=(false,eval e env)::starEach es env:=by cases e<;>first|rfl|cases h
section
variable {X:Cx}{e:Expr}{es:List Expr}{te:TE}{t:TA}
theorem jc (ha:PE X e te)(hr:PA X es t)(h:autoParam (isStar e=false) aP1):PA X (e::es) (vp te t):=QU ha hr (TC h)
end
noncomputable def xR {α:Type}:List α->List α->List α
 |[u0],[w0,w1,w2]=>[u0,w0,w1,w2]
 |_,_=>[]
noncomputable def pU {α:Type}:List α->List α->List α
 |[u0],[w0,w1]=>[u0,w0,w1]
 |_,_=>[]
theorem TF {vs:List V}{us:List Value}{zs:List V}{ws:List Value}(r1:Vals vs us)(r2:Vals zs ws):Vals (xR vs zs) (xR us ws):=by rcases r1 with _|⟨a,_|⟨_,_⟩⟩<;>rcases r2 with _|⟨b,_|⟨c,_|⟨d,_|⟨_,_⟩⟩⟩⟩;all_goals first|exact .nil|exact .cons a (.cons b (.cons c (.cons d .nil)))
theorem TH {vs:List V}{us:List Value}{zs:List V}{ws:List Value}(r1:Vals vs us)(r2:Vals zs ws):Vals (pU vs zs) (pU us ws):=by rcases r1 with _|⟨a,_|⟨_,_⟩⟩<;>rcases r2 with _|⟨b,_|⟨c,_|⟨_,_⟩⟩⟩;all_goals first|exact .nil|exact .cons a (.cons b (.cons c .nil))
section
variable {X:Cx}{pins:List (Addr×Obj)}{U:St}{H:Hp}{s:Shared}{a:Addr}{o:Obj}{u:HO}
theorem Inv.freeze (I:Inv X pins U H s)(hm:gA (some u))(ha:H a=some u)(ho:s.heap.get? a=some o):Inv X pins U (upd H a (.aA o u)) s:=by
 have new:yx X.prog X.w (upd H a (.aA o u)) s.heap a (.aA o u):=by
  refine⟨ho,(I.af a u ha).cC (λ_ _ _ q=>q) (λc q=>?_) λc xs q=>?_⟩
  .have hc:c≠a:=λz=>by
    subst z;rw[ha]at q;cases q;exact hm
   rw[jd hc];exact q
  .have hc:c≠a:=λz=>by
    subst z;rw[ha]at q;cases q;exact hm
   rw[jd hc];exact q
 exact I.write (t':=s.toks) (x:=a) (e:=a) (o:=.aA o u) (h':=s.heap) (by rw[ha];exact hm) (.inl rfl) (λb v _ q=>q) ⟨o,ho⟩ new
theorem Inv.CN (I:Inv X pins U H s)(ha:H a=some (.aA o u))(h0:∀o' u',X.bz a≠some (.aA o' u'))(hm:gA (some u)):Inv X pins U (upd H a u) s:=by
 have ne:∀{b:Addr}{v:HO},H b=some v->(∀o' u',v≠.aA o' u')->b≠a:=λ{b v} e h z=>by subst z;rw[ha]at e;exact h _ _ (Option.some.inj e).symm
 have xS:∀{b:Addr},H b=none->b≠a:=λ{b} e z=>by subst z;rw[ha]at e;cases e
 refine⟨I.ok,I.os,I.bare,⟨I.base.keep,I.base.slot,λb ob e n hx=>?_,I.base.there,λb xs q=>?_,λb ob v q=>?_,λb ps q=>?_⟩,I.loc,I.cell,?_,λx c e=>?_,λp hp=>?_,λb v e=>?_,I.len⟩
 .have q:=I.base.free b ob e n hx;rw[jd (xS q)];exact q
 .have q':=I.base.dE b xs q;rw[jd (ne q' λ_ _ z=>nomatch z)];exact q'
 .have hb:b≠a:=λz=>by
   subst z;exact h0 _ _ q
  rw[jd hb];exact I.base.dh b ob v q
 .obtain⟨more,z⟩:=I.base.dP b ps q;exact⟨more,by rw[jd (ne z λ_ _ z=>nomatch z)];exact z⟩
 .rw[jd (xS I.free)];exact I.free
 .rw[jd (xS (I.dm x c e))];exact I.dm x c e
 .obtain⟨q1,q2,q3⟩:=I.pin p hp;exact⟨q1,by rw[jd (xS q2)];exact q2,q3⟩
 .have own:∀(c y:Addr),H c=some (.own y)->upd H a u c=some (.own y):=λc y q=>by
   rw[jd (ne q λ_ _ z=>nomatch z)];exact q
  have tup:∀(c:Addr)(xs:List V),H c=some (.tup xs)->upd H a u c=some (.tup xs):=λc xs q=>by rw[jd (ne q λ_ _ z=>nomatch z)];exact q
  by_cases hb:b=a
  .subst hb;rw[ja]at e;cases e;obtain⟨_,q⟩:=I.af _ _ ha;exact q.cC (λ_ _ _ q=>q) (λc q=>own c _ q) tup
  .rw[jd hb]at e;exact(I.af b v e).cC (λ_ _ _ q=>q) (λc q=>own c _ q) tup
noncomputable def TJ (H0:Hp)(t:TS):TS:=λD U H=>
 let un:(Hp->Prop)->Hp->Prop:=λQ H'=>∃a o u,H' a=some (.aA o u)/\(∀o' u',H0 a≠some (.aA o' u'))/\gA (some u)/\Q (upd H' a u)
 t {nx:=λU' H'=>un (D.nx U') H',rt:=λv H'=>un (D.rt v) H',bk:=D.bk,ct:=D.ct} U H
theorem TK {st:Stmt}{t:TS}(h:PS X st t):PS X st (TJ X.bz t):=by
 intro pins s U H D I q;refine ah (h pins s U H _ I q) λf s1 q1=>?_;cases f with
 |next=>obtain⟨U1,H1,I1,a,o,u,ha,h0,hm,q⟩:=q1;exact⟨U1,_,I1.CN ha h0 hm,q⟩
 |ret v=>obtain⟨x,U1,H1,I1,r,a,o,u,ha,h0,hm,q⟩:=q1;exact⟨x,U1,_,I1.CN ha h0 hm,r,q⟩
 |brk=>exact q1
 |cont=>exact q1
noncomputable def TL (H0:Hp)(t:TE):TE:=λU H Q=>t U H λv H'=>∃a o u,H' a=some (.aA o u)/\(∀o' u',H0 a≠some (.aA o' u'))/\gA (some u)/\Q v (upd H' a u)
theorem CO {e:Expr}{t:TE}(h:PE X e t):PE X e (TL X.bz t):=by intro pins s U H Q I q;refine ah (h pins s U H _ I q) λv s1 zQ=>?_;obtain⟨x,H1,I1,r,a,o,u,ha,h0,hm,q⟩:=zQ;exact⟨x,_,I1.CN ha h0 hm,r,q⟩
end
theorem KL {k:Key}{v:Value}(h:mV k v=true):RelV (kV k) v:=by
 rcases zq h with⟨i,t,rfl,rfl⟩|⟨x,t,rfl,rfl⟩
 .exact⟨t,rfl⟩
 .exact⟨t,rfl⟩
noncomputable def sQ (a:Addr)(o:Obj)(kvs:List (Key×V)):It where
 go:=λi H=>i<kvs.length/\H a=some (.aA o (.dK kvs))
 du:=λi H x H'=>H'=H/\∃kv,kvs[i]?=some kv/\x=kV kv.1
 stop:=λi H=>kvs.length<=i/\H a=some (.aA o (.dK kvs))
theorem CP {kvs:List (Key×V)}{vs:List (Key×Value)}:∀{i:Nat}{kv:Key×V},KV kvs vs->kvs[i]?=some kv->∃v,vs[i]?=some (kv.1,v)/\RelV kv.2 v:=by
 intro i kv r;unfold KV at r;induction r generalizing i with
 |nil=>intro e;simp at e
 |@cons p q ps qs h t ih=>
  intro e;cases i with
  |zero=>have e':=Option.some.inj e;subst e';exact⟨q.2,by rw[h.1];rfl,h.2⟩
  |succ i=>exact ih e
theorem TM {P:Program}{w:World}{K:PySem.W.Frag}{tg:Expr}(a it:Addr)(o:Obj)(kvs:List (Key×V))(es:Array DictEntry)(ep:Nat)(hd:o.data= .dict es ep):Turn P w K tg (sQ a o kvs) [it] it (λi h=>h.IsKeyIter it a i kvs.length ep) where
 mem:=by simp
 obj:=λi h st b hb=>by
  have e:b=it:=by simpa using hb
  subst e;obtain⟨o,e,c,d⟩:=st;exact⟨o,e,λv z=>by rw[d]at z;cases z⟩
 keep:=λi h h' st k=>st.at λo e=>k it (by simp) o e
 item:=by
  intro X hP hw hK hc i pins s U H E I hf st hg;subst hP hw hK;obtain⟨hi,hq⟩:=hg;obtain⟨ho,hz,hs,vs,r,o',eW,dq,bc,eD,bA,r1,r2,r3⟩:=I.af a _ hq;have eo:o'=o:=Option.some.inj (bc.symm.trans ho);subst eo;have ee:dq=ep:=by rw[hd]at bA;cases bA;rfl
  subst ee;have hlen:kvs.length=vs.length:=Paired.length r;have hm:s.heap.DictAt (qg X.prog X.w) a vs dq:=⟨o',eW,ho,eD,bA,r1,r2,r3⟩;obtain⟨kv,iH⟩:∃kv,kvs[i]?=some kv:=⟨kvs[i],by simp[hi]⟩;obtain⟨v,ev,rv⟩:=CP r iH;obtain⟨f0,f1,f2,f3,f4,f5⟩:=hf it (by simp);rw[hlen]at st;refine wpAny_pyNext_dict_item st hm ev λkey h' hk bL sb=>?_;have I1:Inv X pins U H {s with heap:=h'}:=I.turned (t':=s.toks) (λb o hb e=>(sb.2 b hb).trans e) f0 f1 f3 f4 f5;rw[<-hlen]at bL;obtain⟨oi,ei,ci,di⟩:=id bL;exact⟨key,rfl,pF (s:={s with heap:=h'}) ei ci di (by decide) ⟨kV kv.1,H,I1,KL hk,⟨rfl,kv,iH,rfl⟩,bL,λb hb=>(hf b hb).1⟩⟩
 done:=by
  intro X hP hw hK hc i pins s U H E I hf st hg;subst hP hw hK;obtain⟨hi,hq⟩:=hg;obtain⟨ho,hz,hs,vs,r,o',eW,dq,bc,eD,bA,r1,r2,r3⟩:=I.af a _ hq;have eo:o'=o:=Option.some.inj (bc.symm.trans ho);subst eo;have ee:dq=ep:=by rw[hd]at bA;cases bA;rfl
  subst ee;have hlen:kvs.length=vs.length:=Paired.length r;have hm:s.heap.DictAt (qg X.prog X.w) a vs dq:=⟨o',eW,ho,eD,bA,r1,r2,r3⟩;obtain⟨f0,f1,f2,f3,f4,f5⟩:=hf it (by simp);rw[hlen]at st;exact wpAny_pyNext_dict_end (I.ok.hd hc) st hm (List.getElem?_eq_none_iff.mpr (by lia)) λh' eb=>⟨rfl,I.turned (t':=s.toks) (λb o hb e=>eb b o hb e) f0 f1 f3 f4 f5⟩
 self:=λ_ _ _ _ _ st h=>wpAny_pyIter_keyiter st h
noncomputable def TN (tl:TE):TI:=λU H R=>tl U H λx H1=>∃a kvs,x= .ref a/\H1 a=some (.dK kvs)/\∀o,R (sQ a o kvs) (upd H1 a (.aA o (.dK kvs)))
theorem TQ {X:Cx}{tg l:Expr}{tl:TE}(hl:PE X l tl):PI X tg l (TN tl):=by
 intro pins s U H R I h;refine ah (hl pins s U H _ I h) λv s1 zQ=>?_;obtain⟨x,H1,I1,r1,q1⟩:=zQ;obtain⟨a,kvs,e,hq,q⟩:=q1;subst e;cases r1;obtain⟨hz,hs,vs,r,o,es,ep,ho,hx,hd,r1,r2,r3⟩:=I1.af a _ hq;have hlen:kvs.length=vs.length:=Paired.length r;have hm:s1.heap.DictAt (qg X.prog X.w) a vs ep:=⟨o,es,ho,hx,hd,r1,r2,r3⟩;refine wpAny_pyIter_dict hs hm ?_;have I2:=I1.freeze (show gA (some (HO.dK kvs))from True.intro) hq ho;have hn:upd H1 a (.aA o (.dK kvs)) s1.heap.objs.size=none:=I2.af.fresh (le_refl _);refine⟨s1.heap.objs.size,[s1.heap.objs.size],_,_,_,rfl,I2.kept (t':=s1.toks) λb o e=>Heap.get?_push_of_some _ e,TM a _ o kvs es ep hd,?_,λb hb=>?_,q o⟩
 .rw[hlen];exact⟨_,Heap.get?_push_size _ rfl,rfl,rfl⟩
 .have e:b=s1.heap.objs.size:=by simpa using hb
  subst e;exact I2.nC (le_refl _) hn
noncomputable def jI (v d:Addr):HO:=.ext λh=>h.IsValuesView v d
noncomputable def sR (a:Addr)(o:Obj)(kvs:List (Key×V)):It where
 go:=λi H=>i<kvs.length/\H a=some (.aA o (.dK kvs))
 du:=λi H x H'=>H'=H/\∃kv,kvs[i]?=some kv/\x=kv.2
 stop:=λi H=>kvs.length<=i/\H a=some (.aA o (.dK kvs))
section
variable {X:Cx}
theorem TR:pI X "dict.values" (λx xs H Q=>∃d kvs,x= .ref d/\xs=[]/\H d=some (.dK kvs)/\∀p,H p=none->Q (.ref p) (upd H p (jI p d))):=by intro pins s U H x xs v us Q I rx rs h;obtain⟨d,kvs,rfl,rfl,hq,q⟩:=h;cases rx;cases rs;obtain⟨hz,hs,vs,r,hd⟩:=I.af d _ hq;refine call_meetsIn PySem.F.slot_dict_values hd.typeIs PySem.F.entry_dict_values (PySem.F.args_dict_values_1 _) (meets_dict_values (qg X.prog X.w) d hs) ⟨⟨vs,hd⟩,?_⟩;refine⟨.ref s.heap.objs.size,_,I.laid (t':=s.toks) (o:=jI s.heap.objs.size d) (λb ob q=>Heap.get?_push_of_some _ q) (le_refl _) ?_,rfl,q _ I.fresh⟩;refine⟨⟨_,Heap.get?_push_size _ rfl,rfl,rfl⟩,⟨_,Heap.get?_push_size _ rfl⟩,λh1 h2 p k=>?_⟩;obtain⟨o,e,c,d⟩:=p;exact⟨o,k o e,c,d⟩
end
theorem TU {P:Program}{w:World}{K:PySem.W.Frag}{tg:Expr}(a it:Addr)(o:Obj)(kvs:List (Key×V))(es:Array DictEntry)(ep:Nat)(hd:o.data= .dict es ep):Turn P w K tg (sR a o kvs) [it] it (λi h=>h.IsValIter it a i kvs.length ep) where
 mem:=by simp
 obj:=λi h st b hb=>by
  have e:b=it:=by simpa using hb
  subst e;obtain⟨o,e,c,d⟩:=st;exact⟨o,e,λv z=>by rw[d]at z;cases z⟩
 keep:=λi h h' st k=>st.at λo e=>k it (by simp) o e
 item:=by
  intro X hP hw hK hc i pins s U H E I hf st hg;subst hP hw hK;obtain⟨hi,hq⟩:=hg;obtain⟨ho,hz,hs,vs,r,o',eW,dq,bc,eD,bA,r1,r2,r3⟩:=I.af a _ hq;have eo:o'=o:=Option.some.inj (bc.symm.trans ho);subst eo;have ee:dq=ep:=by rw[hd]at bA;cases bA;rfl
  subst ee;have hlen:kvs.length=vs.length:=Paired.length r;have hm:s.heap.DictAt (qg X.prog X.w) a vs dq:=⟨o',eW,ho,eD,bA,r1,r2,r3⟩;obtain⟨kv,iH⟩:∃kv,kvs[i]?=some kv:=⟨kvs[i],by simp[hi]⟩;obtain⟨v,ev,rv⟩:=CP r iH;obtain⟨f0,f1,f2,f3,f4,f5⟩:=hf it (by simp);rw[hlen]at st;refine wpAny_pyNext_values_item st hm ev λh' bL sb=>?_;have I1:Inv X pins U H {s with heap:=h'}:=I.turned (t':=s.toks) (λb o hb e=>(sb.2 b hb).trans e) f0 f1 f3 f4 f5;rw[<-hlen]at bL;obtain⟨oi,ei,ci,di⟩:=id bL;exact⟨v,rfl,pF (s:={s with heap:=h'}) ei ci di (by decide) ⟨kv.2,H,I1,rv,⟨rfl,kv,iH,rfl⟩,bL,λb hb=>(hf b hb).1⟩⟩
 done:=by
  intro X hP hw hK hc i pins s U H E I hf st hg;subst hP hw hK;obtain⟨hi,hq⟩:=hg;obtain⟨ho,hz,hs,vs,r,o',eW,dq,bc,eD,bA,r1,r2,r3⟩:=I.af a _ hq;have eo:o'=o:=Option.some.inj (bc.symm.trans ho);subst eo;have ee:dq=ep:=by rw[hd]at bA;cases bA;rfl
  subst ee;have hlen:kvs.length=vs.length:=Paired.length r;have hm:s.heap.DictAt (qg X.prog X.w) a vs dq:=⟨o',eW,ho,eD,bA,r1,r2,r3⟩;obtain⟨f0,f1,f2,f3,f4,f5⟩:=hf it (by simp);rw[hlen]at st;exact wpAny_pyNext_values_end (I.ok.hd hc) st hm (List.getElem?_eq_none_iff.mpr (by lia)) λh' eb=>⟨rfl,I.turned (t':=s.toks) (λb o hb e=>eb b o hb e) f0 f1 f3 f4 f5⟩
 self:=λ_ _ _ _ _ st h=>wpAny_pyIter_valiter st h
noncomputable def TV (tl:TE):TI:=λU H R=>tl U H λx H1=>∃v a kvs,x= .ref v/\H1 v=some (jI v a)/\H1 a=some (.dK kvs)/\∀o,R (sR a o kvs) (upd H1 a (.aA o (.dK kvs)))
theorem TX {X:Cx}{tg l:Expr}{tl:TE}(hl:PE X l tl):PI X tg l (TV tl):=by
 intro pins s U H R I h;refine ah (hl pins s U H _ I h) λv s1 zQ=>?_;obtain⟨x,H1,I1,r1,q1⟩:=zQ;obtain⟨v,a,kvs,e,hv,hq,q⟩:=q1;subst e;cases r1;obtain⟨hz,hs,vs,r,o,es,ep,ho,hx,hd,r1,r2,r3⟩:=I1.af a _ hq;have hlen:kvs.length=vs.length:=Paired.length r;have hm:s1.heap.DictAt (qg X.prog X.w) a vs ep:=⟨o,es,ho,hx,hd,r1,r2,r3⟩;obtain⟨CQ,_,_⟩:=(show yx X.prog X.w H1 s1.heap v (jI v a)from I1.af v _ hv);refine wpAny_pyIter_values CQ hm ?_;have I2:=I1.freeze (show gA (some (HO.dK kvs))from True.intro) hq ho;have hn:upd H1 a (.aA o (.dK kvs)) s1.heap.objs.size=none:=I2.af.fresh (le_refl _);refine⟨s1.heap.objs.size,[s1.heap.objs.size],_,_,_,rfl,I2.kept (t':=s1.toks) λb o e=>Heap.get?_push_of_some _ e,TU a _ o kvs es ep hd,?_,λb hb=>?_,q o⟩
 .rw[hlen];exact⟨_,Heap.get?_push_size _ rfl,rfl,rfl⟩
 .have e:b=s1.heap.objs.size:=by simpa using hb
  subst e;exact I2.nC (le_refl _) hn
end L2
namespace cj
open PySem PyProof.Rows PySem.W
noncomputable def Wp (f:Nat->Nat->Bool)(n:Nat){α:Type}:KasT α->(α->Prop)->Prop
 | .ret a,R=>R a
 | .ask i j k,R=>i<n/\j<n/\i≠j/\Wp f n (k (f i j)) R
theorem Wp.mono {f:Nat->Nat->Bool}{n:Nat}{α:Type}{R R':α->Prop}(h:∀a,R a->R' a):∀{t:KasT α},Wp f n t R->Wp f n t R'
 | .ret a,q=>h a q
 | .ask _ _ _,⟨a,b,c,q⟩=>⟨a,b,c,Wp.mono h q⟩
theorem Wp.bind {f:Nat->Nat->Bool}{n:Nat}{α β:Type}{g:α->KasT β}{R:β->Prop}:∀{t:KasT α},Wp f n t (λa=>Wp f n (g a) R)->Wp f n (t.bind g) R
 | .ret _,q=>q
 | .ask _ _ _,⟨a,b,c,q⟩=>⟨a,b,c,Wp.bind q⟩
structure jJ (f:Nat->Nat->Bool)(n:Nat):Prop where
 bO:∀i j,i<n->j<n->i≠j->f i j=false->f j i=true
 TY:∀i j,i<n->j<n->f i j=true->f j i=false
 tr:∀i j k,i<n->j<n->k<n->f i j=true->f j k=true->f i k=true
noncomputable def P (n:Nat)(p:Array Nat):Prop:=p.toList.Perm (List.range n)
section
variable {n:Nat}{p:Array Nat}
theorem P.size (h:P n p):p.size=n:=by have:=h.length_eq;rw[length_range]at this;simpa using this
theorem getD_eq {k:Nat}(h:k<p.size):p.getD k 0=p[k]:=by simp[Array.getD,h]
theorem P.lt (h:P n p){k:Nat}(hk:k<n):p.getD k 0<n:=by have hs:=h.size;rw[getD_eq (by lia)];exact mem_range.mp (h.mem_iff.mp (by simp))
theorem P.inj (h:P n p){a b:Nat}(ha:a<n)(hb:b<n)(e:p.getD a 0=p.getD b 0):a=b:=by have hs:=h.size;rw[getD_eq (by lia),getD_eq (by lia)]at e;have nd:p.toList.Nodup:=h.nodup_iff.mpr nodup_range;exact(List.getElem_inj (h₀:=by simp;lia) (h₁:=by simp;lia) nd).mp (by simpa using e)
noncomputable def Up (f:Nat->Nat->Bool)(p:Array Nat)(m:Nat):Prop:=∀a b,a<b->b<m->f (p.getD a 0) (p.getD b 0)=true
noncomputable def Down (f:Nat->Nat->Bool)(p:Array Nat)(m:Nat):Prop:=∀a b,a<b->b<m->f (p.getD b 0) (p.getD a 0)=true
variable {f:Nat->Nat->Bool}
theorem Up.more (T:jJ f n)(hp:P n p){m:Nat}(h1:1<=m)(hm:m<n)(u:Up f p m)(h:f (p.getD (m-1) 0) (p.getD m 0)=true):Up f p (m+1):=by
 intro a b ab bm;by_cases e:b=m
 .subst e;by_cases e2:a=b-1
  .subst e2;exact h
  .exact T.tr _ _ _ (hp.lt (by lia)) (hp.lt (by lia)) (hp.lt hm) (u a (b-1) (by lia) (by lia)) h
 .exact u a b ab (by lia)
theorem Down.more (T:jJ f n)(hp:P n p){m:Nat}(h1:1<=m)(hm:m<n)(u:Down f p m)(h:f (p.getD m 0) (p.getD (m-1) 0)=true):Down f p (m+1):=by
 intro a b ab bm;by_cases e:b=m
 .subst e;by_cases e2:a=b-1
  .subst e2;exact h
  .exact T.tr _ _ _ (hp.lt hm) (hp.lt (by lia)) (hp.lt (by lia)) h (u a (b-1) (by lia) (by lia))
 .exact u a b ab (by lia)
theorem asc (T:jJ f n)(hp:P n p):∀(c m:Nat),1<=m->m+c<=n->Up f p m->Wp f n (kas_asc p c m) λr=>m<=r/\r<=m+c/\Up f p r/\(r<m+c->f (p.getD r 0) (p.getD (r-1) 0)=true)
 |0,m,_,_,u=>⟨le_refl _,le_refl _,u,λh=>absurd h (by lia)⟩
 |c+1,m,h1,hm,u=>by
  refine⟨hp.lt (by lia),hp.lt (by lia),λe=>?_,?_⟩
  .have:=hp.inj (by lia) (by lia) e;lia
  cases h:f (p.getD m 0) (p.getD (m-1) 0)with
  |true=>exact⟨le_refl _,by lia,u,λ_=>h⟩
  |false=>have u':=u.more T hp h1 (by lia) (T.bO _ _ (hp.lt (by lia)) (hp.lt (by lia)) (λe=>by have:=hp.inj (by lia) (by lia) e;lia) h);show Wp f n (kas_asc p c (m+1)) _;refine(asc T hp c (m+1) (by lia) (by lia) u').mono λr q=>?_;exact⟨by lia,by lia,q.2.2.1,λz=>q.2.2.2 (by lia)⟩
theorem desc (T:jJ f n)(hp:P n p):∀(c m:Nat),2<=m->m+c<=n->Down f p m->Wp f n (kas_desc c p m 0) λr=>r.1=p/\r.2.2=0/\m<=r.2.1/\r.2.1<=m+c/\Down f p r.2.1
 |0,m,_,_,u=>⟨rfl,rfl,le_refl _,le_refl _,u⟩
 | c+1,m,h1,hm,u=>by
  refine⟨hp.lt (by lia),hp.lt (by lia),λe=>?_,?_⟩
  .have:=hp.inj (by lia) (by lia) e;lia
  cases h:f (p.getD m 0) (p.getD (m-1) 0)with
  |true=>show Wp f n (kas_desc c p (m+1) 0) _;refine(desc T hp c (m+1) (by lia) (by lia) (u.more T hp (by lia) (by lia) h)).mono λr q=>?_;exact⟨q.1,q.2.1,by lia,by lia,q.2.2.2.2⟩
  |false=>
   have h':=T.bO _ _ (hp.lt (by lia)) (hp.lt (by lia)) (λe=>by have:=hp.inj (by lia) (by lia) e;lia) h;refine⟨hp.lt (by lia),hp.lt (by lia),λe=>?_,?_⟩
   .have:=hp.inj (by lia) (by lia) e;lia
   rw[h'];exact⟨rfl,rfl,le_refl _,Nat.le_add_right _ _,u⟩
theorem sS {q:Array Nat}{a b:Nat}(e:q[a]?=p[b]?):q.getD a 0=p.getD b 0:=by rw[Array.getD_eq_getD_getElem?,Array.getD_eq_getD_getElem?,e]
theorem KN (hp:P n p){m:Nat}(hm:m<=n)(k:Nat):(kas_rev p 0 m).getD k 0=if k<m then p.getD (m-1-k) 0 else p.getD k 0:=by
 have h:=getElem?_mirror_all (xs:=p) (i:=0) (j:=m) (by rw[hp.size];exact hm) k;by_cases hk:k<m
 .rw[if_pos hk];rw[if_pos ⟨zero_le _,hk⟩]at h;refine sS (h.trans ?_);congr 1;lia
 .rw[if_neg hk];rw[if_neg (by lia)]at h;exact sS h
theorem KO (hp:P n p)(m:Nat):P n (kas_rev p 0 m):=(Array.perm_iff_toList_perm.mp (mirror_perm p 0 m _)).trans hp
theorem TZ (hp:P n p){m:Nat}(hm:m<=n)(d:Down f p m):Up f (kas_rev p 0 m) m:=by intro a b ab bm;rw[KN hp hm,KN hp hm,if_pos (by lia),if_pos bm];exact d _ _ (by lia) (by lia)
theorem tail3 (T:jJ f n)(hp:P n p){m:Nat}(h1:1<=m)(hm:m<=n)(d:Down f p m):Wp f n (kas_tail3 m n p) λr=>1<=r.1/\r.1<=n/\P n r.2/\Up f r.2 r.1:=by refine Wp.bind ((asc T (KO hp m) (n-m) m h1 (by lia) (TZ hp hm d)).mono λr q=>?_);exact⟨by lia,by lia,KO hp m,q.2.2.1⟩
theorem count (T:jJ f n)(hp:P n p)(h1:1<=n):Wp f n (kas_count n p) λr=>1<=r.1/\r.1<=n/\P n r.2/\Up f r.2 r.1:=by
 refine Wp.bind ((asc T hp (n-1) 1 (le_refl _) (by lia) (λa b ab hb=>absurd hb (by lia))).mono λm q=>?_);obtain⟨q1,q2,q3,q4⟩:=q;by_cases e:m=n
 .rw[if_pos (by simp[e])];exact⟨q1,by lia,hp,q3⟩
 .rw[if_neg (by simp[e])];by_cases e2:m>1
  .rw[if_pos e2];refine⟨hp.lt (by lia),hp.lt (by lia),λz=>?_,?_⟩
   .have:=hp.inj (by lia) (by lia) z;lia
   rw[q3 0 (m-1) (by lia) (by lia)];exact⟨q1,by lia,hp,q3⟩
  .rw[if_neg e2];have e3:m=1:=by lia
   subst e3;have h:=q4 (by lia);have d2:Down f p 2:=λa b ab hb=>by
    have ea:a=0:=by lia
    have eb:b=1:=by lia
    subst ea eb;exact h
   refine Wp.bind ((desc T hp (n-2) 2 (le_refl _) (by lia) d2).mono λr q=>?_);obtain⟨r1,r2,r3,r4,r5⟩:=q;rw[if_neg (by lia),r1];exact tail3 T hp (by lia) (by lia) r5
theorem place (T:jJ f n)(hp:P n p){k:Nat}(hk:k<n)(u:Up f p k):∀(c l r:Nat),l<=r->r<=k->r-l<=c->(∀i,i<l->f (p.getD i 0) (p.getD k 0)=true)->(∀i,r<=i->i<k->f (p.getD k 0) (p.getD i 0)=true)->Wp f n (kas_place p k c l r) λq=>q<=k/\(∀i,i<q->f (p.getD i 0) (p.getD k 0)=true)/\(∀i,q<=i->i<k->f (p.getD k 0) (p.getD i 0)=true)
 |0,l,r,h1,h2,h3,h4,h5=>⟨by lia,h4,λi a b=>h5 i (by lia) b⟩
 | c+1,l,r,h1,h2,h3,h4,h5=>by
  show Wp f n (if l>=r then .ret l else _) _;by_cases e:l>=r
  .rw[if_pos e];exact⟨by lia,h4,λi a b=>h5 i (by lia) b⟩
  .rw[if_neg e];refine⟨hp.lt hk,hp.lt (by lia),λz=>?_,?_⟩
   .have:=hp.inj hk (by lia) z;lia
   cases h:f (p.getD k 0) (p.getD ((l+r) / 2) 0)with
   |true=>
    show Wp f n (kas_place p k c l ((l+r) / 2)) _;refine place T hp hk u c l _ (by lia) (by lia) (by lia) h4 λi a b=>?_;by_cases ei:i=(l+r) / 2
    .rw[ei];exact h
    .exact T.tr _ _ _ (hp.lt hk) (hp.lt (by lia)) (hp.lt (by lia)) h (u _ _ (by lia) b)
   |false=>
    have h':=T.bO _ _ (hp.lt hk) (hp.lt (by lia)) (λz=>by have:=hp.inj hk (by lia) z;lia) h;show Wp f n (kas_place p k c ((l+r) / 2+1) r) _;refine place T hp hk u c _ r (by lia) h2 (by lia) (λi a=>?_) h5;by_cases ei:i=(l+r) / 2
    .rw[ei];exact h'
    .exact T.tr _ _ _ (hp.lt (by lia)) (hp.lt (by lia)) (hp.lt hk) (u _ _ (by lia) (by lia)) h'
theorem KP (hp:P n p){k l:Nat}(hk:k<n)(hl:l<=k)(i:Nat):(bubble p k (k-l)).getD i 0=if i=l then p.getD k 0 else if l<i/\i<=k then p.getD (i-1) 0 else p.getD i 0:=by
 have h:=getElem?_bubble (xs:=p) (src:=k) (by rw[hp.size];exact hk) (k-l) (by lia) i;rw[show k-(k-l)=l by lia]at h;by_cases e:i=l
 .rw[if_pos e]at h⊢;exact sS h
 .rw[if_neg e]at h⊢;by_cases e2:l<i/\i<=k
  .rw[if_pos e2]at h⊢;exact sS h
  .rw[if_neg e2]at h⊢;exact sS h
theorem T1 (hp:P n p){k l:Nat}(hk:k<n)(hl:l<=k)(u:Up f p k)(h1:∀i,i<l->f (p.getD i 0) (p.getD k 0)=true)(h2:∀i,l<=i->i<k->f (p.getD k 0) (p.getD i 0)=true):Up f (bubble p k (k-l)) (k+1):=by
 intro a b ab bm;rw[KP hp hk hl,KP hp hk hl];by_cases ea:a=l
 .rw[if_pos ea,if_neg (by lia),if_pos ⟨by lia,by lia⟩];exact h2 _ (by lia) (by lia)
 .rw[if_neg ea];by_cases eb:b=l
  .rw[if_neg (by lia),if_pos eb];exact h1 _ (by lia)
  .rw[if_neg eb];by_cases e1:l<a/\a<=k
   .rw[if_pos e1,if_pos ⟨by lia,by lia⟩];exact u _ _ (by lia) (by lia)
   .rw[if_neg e1];by_cases e2:l<b/\b<=k
    .rw[if_pos e2];exact u _ _ (by lia) (by lia)
    .rw[if_neg e2];exact u _ _ ab (by lia)
theorem T3 (hp:P n p)(k d:Nat):P n (bubble p k d):=(Array.perm_iff_toList_perm.mp (bubble_perm p k d)).trans hp
end
theorem bin {f:Nat->Nat->Bool}{n:Nat}(T:jJ f n):∀(c:Nat)(p:Array Nat)(k:Nat),P n p->k+c<=n->Up f p k->Wp f n (kas_bin c p k) λr=>P n r/\Up f r (k+c)
 |0,p,k,hp,_,u=>⟨hp,u⟩
 |c+1,p,k,hp,hk,u=>by refine Wp.bind ((place T hp (k:=k) (by lia) u k 0 k (zero_le _) (le_refl _) (by lia) (λi h=>absurd h (by lia)) (λi a b=>absurd b (by lia))).mono λl q=>?_);refine(bin T c _ (k+1) (T3 hp k _) (by lia) (T1 hp (by lia) q.1 u q.2.1 q.2.2)).mono λr q=>?_;rw[show k+1+c=k+(c+1)by lia]at q;exact q
theorem T4 (n:Nat):P n (List.toArray (List.range n)):=by unfold P;rw[List.toList_toArray]
theorem sort {f:Nat->Nat->Bool}{n:Nat}(T:jJ f n)(h1:1<=n):Wp f n (kas_sort n) λr=>P n r/\Up f r n:=by
 refine Wp.bind ((count T (T4 n) h1).mono λr q=>?_);obtain⟨q1,q2,q3,q4⟩:=q;by_cases e:r.1<n
 .rw[if_pos e];refine(bin T _ _ _ q3 (by lia) (by rw[show max r.1 1=r.1 by lia];exact q4)).mono λz q=>?_;rw[show max r.1 1+(n-max r.1 1)=n by lia]at q;exact q
 .rw[if_neg e];exact⟨q3,by rw[show n=r.1 by lia];exact q4⟩
end cj
namespace L2
open PySem PySem.Spec PyProof.Rows PySem.W
section
variable {prog:Program}{w:World}{A:Around}{E:Value->Shared->Prop}{s:Shared}
theorem KQ {Q:Bool->Shared->Prop}:∀{vs us:List Value}{ns ms:List Int}(i:Nat),IntsAre vs ns->IntsAre us ms->Q (HT.lexLt ns ms) s->KatLex prog w A true (decide (ns.length<ms.length)) Q (vs.zip us) i s
 |[],[],[],[],_,_,_,q=>kat_nil (by simpa[HT.lexLt]using q)
 |[],_::_,[],_::_,_,_,_,q=>kat_nil (by simpa[HT.lexLt]using q)
 |_::_,[],_::_,[],_,_,_,q=>kat_nil (by simpa[HT.lexLt]using q)
 | _::vs,_::us,n::ns,m::ms,i,.cons _ t hv,.cons _ t' hu,q=>by
  rw[HT.wR]at q;refine kat_cons (wpAny_eqBool_int (kat_go (λe=>?_) λe=>?_))
  .have e':n=m:=by simpa using e
   rw[if_pos e']at q;refine kat_yes ?_;show KatLex prog w A true _ Q (vs.zip us) (i+1) s;have h:=KQ (i+1) hv hu q;rw[show decide ((n::ns).length<(m::ms).length)=decide (ns.length<ms.length)by simp];exact h
  .have e':¬n=m:=by simpa using e
   rw[if_neg e']at q;refine kat_no ?_;cases i with
   |zero=>exact oneLt_int q
   |succ i=>exact kat_one _ _ (PyProof.Rows.lt_int q)
theorem T5 {a:Addr}{vs:List Value}{n:Nat}{R:PySem.Fin->Shared->Prop}{Good:Array Nat->Prop}(ho:s.heap.get? a=some (seqObj "list" vs.toArray n))(my:vs.length<64)(ask:2<=vs.length->∀s':Shared,(∀b o,b≠a->s.heap.get? b=some o->s'.heap.get? b=some o)->wpAny (model prog w) A (keyKind' vs.toArray) (λ B s1=>s1=s'/\(kas_sort vs.length).kasWp (kas_ask prog w A B vs) (λp s2=>s2=s'/\Good p) s') (λ_ _=>False) s')(one:vs.length<2->R (.done (.ret .none)) {s with heap:=sortedHeap s.heap a vs vs.toArray})(more:∀p:Array Nat,p.size=vs.length->Good p->R (.done (.ret .none)) {s with heap:=sortedHeap s.heap a vs (List.toArray (p.toList.map λi=>vs.getD i Value.none))}):
  wpAny (model prog w) A (Builtin.«list.sort» ⟨[.ref a],[]⟩) R E s:=by
 have big:(64:Nat)<=sizeLine:=by decide
 obtain⟨e1,kP⟩:∃e1,(s.heap.update a (Obj.mapSeq λ_=>#[])).get? a=some (seqObj "list" #[] e1):=⟨_,get?_update_seq ho (λ_=>#[])⟩;have la:a<(s.heap.update a (Obj.mapSeq λ_=>(#[]:Array Value))).objs.size:=Heap.lt_size kP;have xT:=Heap.get?_push_of_some (seqObj "list" #[] 0) (Heap.get?_push_of_some (seqObj "tuple" vs.toArray 0) kP);have old:∀b o,b≠a->s.heap.get? b=some o->(((s.heap.update a (Obj.mapSeq λ_=>#[])).push (seqObj "tuple" vs.toArray 0)).push (seqObj "list" #[] 0)).get? b=some o:=λb o hb e=>Heap.get?_push_of_some _ (Heap.get?_push_of_some _ ((Heap.get?_update_ne _ _ _ _ hb).trans e));rw[list_sort_plain];refine wpAny_bind (listItems_at ho rfl (wpAny_bind (listUpdate_at ho rfl (wpAny_bind (seqEpoch_at kP rfl (wpAny_bind (wpAny_newTuple (wpAny_bind (wpAny_newList (wpAny_holding ?_) (zero_le _))) (by show vs.length<=_;lia))))) (by show vs.toArray.size<=_;simp;lia) (zero_le _))));by_cases h2:vs.length<2
 .have mr:vs.toArray.size<2:=by simpa using h2
  have e:((vs.toArray.zip vs.toArray).map λx:Value×Value=>x.2)=vs.toArray:=by apply Array.toList_inj.mp;simp;exact List.map_snd_zip (le_refl _)
  dsimp only;rw[if_pos mr,if_pos mr];refine wpAny_bind (wpAny_pure ?_);rw[StateT.run_pure];refine wpAny_bind (wpAny_pure (wpAny_bind (seqEpoch_at xT rfl (wpAny_bind (listUpdate_at xT rfl ?_ (zero_le _) ?_)))))
  .simp only[bne_self_eq_false,Bool.false_eq_true,if_false];have q:=one h2;rw[<-e]at q;exact wpAny_pure q
  .show((vs.toArray.zip vs.toArray).map λx:Value×Value=>x.2).size<=_;rw[e];simp;lia
 .have mr:¬vs.toArray.size<2:=by simpa using h2
  dsimp only;rw[if_neg mr,if_neg mr];refine wpAny_bind (wpAny_mono (ask (by lia) _ old) (λ B s1 hk=>?_) λ_ _ z=>z.elim);obtain⟨rfl,hk⟩:=hk;refine wpAny_bind (wpAny_mono (kat_run (ks:=vs) (vs:=vs) (Q:=λbL s2=>∃p:Array Nat,p.size=vs.length/\arrOf bL=p.map (kas_item (vs.toArray.zip vs.toArray))/\failedOf bL=none/\s2=_/\Good p) rfl (by lia) my (λp bL s2 a1 a2 a3 a4=>⟨p,a1,a2,a3,a4⟩) hk) ?_ λ_ _ z=>z)
  rintro⟨⟨⟩,st⟩ s2 ⟨p,hp,T6,hf,rfl,good⟩
  have e:=kat_snds (ks:=vs) (vs:=vs) rfl T6;dsimp only;rw[e];refine wpAny_bind (seqEpoch_at xT rfl (wpAny_bind (listUpdate_at xT rfl ?_ (zero_le _) ?_)))
  .rw[hf];simp only[bne_self_eq_false,Bool.false_eq_true,if_false];exact wpAny_pure (more p hp good)
  .rw[size_toArray,length_map,Array.length_toList,hp];lia
theorem T7 {l:Addr}{vs:List Value}{Q:Value->Shared->Prop}{Good:Array Nat->Prop}(hl:s.heap.IsList l vs.toArray)(my:vs.length<64)(ask:2<=vs.length->∀s':Shared,(∀b o,s.heap.get? b=some o->s'.heap.get? b=some o)->wpAny (model prog w) A.in1.in1 (keyKind' vs.toArray) (λ B s1=>s1=s'/\(kas_sort vs.length).kasWp (kas_ask prog w A.in1.in1 B vs) (λp s2=>s2=s'/\Good p) s') (λ_ _=>False) s')(one:vs.length<2->Q (.ref (s.heap.objs.size+1)) {s with heap:=sortedAll s.heap vs vs.toArray})(more:∀p:Array Nat,p.size=vs.length->Good p->Q (.ref (s.heap.objs.size+1)) {s with heap:=sortedAll s.heap vs (List.toArray (p.toList.map λi=>vs.getD i Value.none))}):
  wpAny (model prog w) A (call (.builtin "sorted") [.ref l]) Q E s:=by
 have big:(64:Nat)<=sizeLine:=by decide
 have sz:((s.heap.push (seqObj "list" #[] 0)).update s.heap.objs.size (Obj.mapSeq (·++vs.toArray))).objs.size=s.heap.objs.size+1:=(Heap.size_update ..).trans (size_push' ..);have KR:(((s.heap.push (seqObj "list" #[] 0)).update s.heap.objs.size (Obj.mapSeq (·++vs.toArray))).push (seqObj "list" vs.toArray 0)).get? (s.heap.objs.size+1)=some (seqObj "list" vs.toArray 0):=sz ▸ Heap.get?_push_size _ rfl;have old:∀b o,s.heap.get? b=some o->(((s.heap.push (seqObj "list" #[] 0)).update s.heap.objs.size (Obj.mapSeq (·++vs.toArray))).push (seqObj "list" vs.toArray 0)).get? b=some o:=λb o e=>Heap.get?_push_of_some _ ((Heap.get?_update_ne _ _ _ _ (ne_of_lt (Heap.lt_size e))).trans (Heap.get?_push_of_some _ e));have body:=T5 (prog:=prog) (w:=w) (A:=A.in1.in1) (E:=E) (a:=s.heap.objs.size+1) (Good:=Good) (R:=λf s'=>f= .done (.ret .none)/\Q (.ref (s.heap.objs.size+1)) s') (s:={s with heap:=((s.heap.push (seqObj "list" #[] 0)).update s.heap.objs.size (Obj.mapSeq (·++vs.toArray))).push (seqObj "list" vs.toArray 0)}) KR my (λh2 s' k=>ask h2 s' λb o e=>k b o (ne_of_lt (Nat.lt_succ_of_lt (Heap.lt_size e))) (old b o e)) (λh=>⟨rfl,one h⟩) (λp hp g=>⟨rfl,more p hp g⟩);refine Calls.call_function_entry kind_sorted plain_sorted entry_sorted (args_sorted1 _) ?_;show wpAny (model prog w) A.in1 (do checkCount "sorted" 1 1 _;_) _ _ s;refine wpAny_bind (m:=checkCount "sorted" 1 1 _) (wpAny_pure (wpAny_bind (collect_list hl (wpAny_bind (wpAny_newList ?_ (by lia))) (by lia))));show wpAny (model prog w) A.in1 _ _ E {s with heap:=((s.heap.push (seqObj "list" #[] 0)).update s.heap.objs.size (Obj.mapSeq (·++vs.toArray))).push (seqObj "list" vs.toArray 0)};rw[sz];exact wpAny_bind (wpAny_holding (wpAny_call_entry slot_list_sort ⟨_,KR,rfl⟩ entry_list_sort (wpAny_mono body (λf s' z=>⟨_,z.1,wpAny_pure ⟨_,rfl,z.2⟩⟩) λ_ _ z=>z) (args_list_sort _)))
end
theorem CS:∀{a b:List Int},HT.lexLt a b=true->HT.lexLt b a=false
 |[],[],h=>by cases h
 |[],_::_,_=>rfl
 |_::_,[],h=>by cases h
 |x::a,y::b,h=>by
  rw[HT.wR]at h⊢;by_cases e:x=y
  .rw[if_pos e]at h;rw[if_pos e.symm];exact CS h
  .rw[if_neg e]at h;rw[if_neg (λz=>e z.symm)];have:=of_decide_eq_true h;exact decide_eq_false (by lia)
theorem KS:∀{a b:List Int},a≠b->HT.lexLt a b=false->HT.lexLt b a=true
 |[],[],h,_=>absurd rfl h
 |[],_::_,_,h=>by cases h
 |_::_,[],_,_=>rfl
 |x::a,y::b,h,h'=>by
  rw[HT.wR]at h'⊢;by_cases e:x=y
  .subst e;rw[if_pos rfl]at h'⊢;exact KS (λz=>h (by rw[z])) h'
  .rw[if_neg e]at h';rw[if_neg (λz=>e z.symm)];have:=of_decide_eq_false h';exact decide_eq_true (by lia)
theorem KU:∀{a b c:List Int},HT.lexLt a b=true->HT.lexLt b c=true->HT.lexLt a c=true
 |[],[],_,h,_=>by cases h
 |[],_::_,[],_,h=>by cases h
 |[],_::_,_::_,_,_=>rfl
 |_::_,[],_,h,_=>by cases h
 |_::_,_::_,[],_,h=>by cases h
 | x::a,y::b,z::c,h,h'=>by
  rw[HT.wR]at h h'⊢;by_cases e:x=y
  .subst e;rw[if_pos rfl]at h;by_cases e2:x=z
   .rw[if_pos e2]at h'⊢;exact KU h h'
   .rw[if_neg e2]at h'⊢;exact h'
  .rw[if_neg e]at h;have h1:=of_decide_eq_true h;by_cases e2:y=z
   .subst e2;rw[if_neg e];exact h
   .rw[if_neg e2]at h';have h2:=of_decide_eq_true h';rw[if_neg (by lia)];exact decide_eq_true (by lia)
theorem wp_ask {f:Nat->Nat->Bool}{n:Nat}{s:Shared}{cmp:Nat->Nat->(Bool->Shared->Prop)->Shared->Prop}{α:Type}{R:α->Prop}(hc:∀i j C,i<n->j<n->C (f i j) s->cmp i j C s):∀{t:KasT α},cj.Wp f n t R->t.kasWp cmp (λp s2=>s2=s/\R p) s
 | .ret _,h=>⟨rfl,h⟩
 | .ask i j _,⟨a,b,_,h⟩=>hc i j _ a b (wp_ask hc h)
theorem range_getD {α:Type}(d:α)(l:List α):(List.range l.length).map (λi=>l.getD i d)=l:=by
 apply List.ext_getElem
 .simp
 .intro i h1 h2;simp[h2]
section
variable {X:Cx}{pins:List (Addr×Obj)}{U:St}{H:Hp}{s:Shared}
theorem xU {α β:Type}{F:α->β->Prop}{d:α}{e:β}:∀{xs:List α}{ys:List β}{i:Nat},Paired F xs ys->i<xs.length->F (xs.getD i d) (ys.getD i e)
 |_,_,_,.nil,h=>absurd h (Nat.not_lt_zero _)
 |_,_,0,.cons h _,_=>h
 |_,_,i+1,.cons _ r,h=>xU (i:=i) r (by simpa using h)
theorem CT {α β:Type}{F:α->β->Prop}{d:α}{e:β}{xs:List α}{ys:List β}(h:Paired F xs ys):∀{l:List Nat},(∀i∈l,i<xs.length)->Paired F (l.map λi=>xs.getD i d) (l.map λi=>ys.getD i e)
 |[],_=>.nil
 |i::l,q=>.cons (xU h (q i (by simp))) (CT h λj hj=>q j (by simp[hj]))
noncomputable def iI (K:PySem.W.Frag)(H:Hp)(vs:List V)(ts:List (List Int)):Prop:=Paired (λv t=>∃a,v= .ref a/\aw K H a (t.map V.int)) vs ts
theorem T8:∀{h:Heap}{its:List Value}{ts:List (List Int)},Paired (λu t=>∃a xs,u=Value.ref a/\IsTup h a xs/\IntsAre xs.toList t) its ts->(∀t∈ts,t≠[])->∃fs,KatTups h its fs/\fs.length=its.length/\∀v∈fs,∃i k,v=Value.int i k:=λ{h its ts} q ne=>by
 induction q with
 |nil=>exact⟨[],KatTups.nil,rfl,λ_ z=>by cases z⟩
 | @cons _ t _ ts a r ih=>
  obtain⟨a,xs,e,⟨o,ho,hc,n,hd⟩,hi⟩:=a;subst e;obtain⟨fs,k,l,q⟩:=ih λz hz=>ne z (by simp[hz]);obtain⟨x,hx⟩:∃x r,xs.toList=x::r:=by
   cases sT:xs.toList with
   |nil=>rw[sT]at hi;cases hi;exact absurd rfl (ne [] (by simp))
   |cons x r=>exact⟨x,r,rfl⟩
  obtain⟨rr,hx⟩:=hx;have h0:xs[0]?=some x:=by rw[<-Array.getElem?_toList,hx];rfl
  rw[hx]at hi;refine⟨x::fs,KatTups.cons ho hc hd h0 k,by simp[l],λv hv=>?_⟩;rcases mem_cons.mp hv with rfl|hv
  .cases hi with|cons i k _=>exact⟨i,k,rfl⟩
  .exact q v hv
theorem KW {α β γ:Type}{F:α->β->Prop}{G:α->γ->Prop}{L:β->γ->Prop}(h:∀v u t,F v u->G v t->L u t):∀{vs:List α}{us:List β}{ts:List γ},Paired F vs us->Paired G vs ts->Paired L us ts:=λ{vs us ts} p q=>by
 induction p generalizing ts with
 |nil=>cases q;exact .nil
 |cons a r ih=>
  cases q with
  |cons b s=>exact .cons (h _ _ _ a b) (ih s)
theorem T9 {ts:List (List Int)}(nd:ts.Nodup):cj.jJ (λi j=>HT.lexLt (ts.getD i []) (ts.getD j [])) ts.length where
 bO:=λi j hi hj ne h=>KS (λe=>ne (by rw[getD_eq_getElem?_getD,getD_eq_getElem?_getD,getElem?_eq_getElem hi,getElem?_eq_getElem hj]at e;exact(List.getElem_inj nd).mp e)) h
 TY:=λ_ _ _ _ h=>CS h
 tr:=λ_ _ _ _ _ _ h1 h2=>KU h1 h2
theorem CU:∀{vs:List Value}{ns:List Int},IntsAre vs ns->vs.length=ns.length
 |_,_,.nil=>rfl
 |_,_,.cons _ _ r=>by rw[length_cons,length_cons,CU r]
theorem KY:dW X (.builtin "sorted") (λxs H Q=>∃(p:Addr)(vs:List V)(ts:List (List Int)),xs=[.ref p]/\ag X.K H p vs/\iI X.K H vs ts/\vs.length<64/\ts.Nodup/\(∀t∈ts,t≠[])/\∀(q:Addr)(bh:List V)(cF:List (List Int))(ix:List Nat),H q=none->ix.Perm (List.range vs.length)->bh=ix.map (λi=>vs.getD i .aj)->cF=ix.map (λi=>ts.getD i [])->bh.Perm vs->cF.Perm ts->iI X.K H bh cF->cF.Pairwise (λa b=>HT.lexLt a b=true)->Q (.ref q) (upd H q (.lst bh))):=by
 intro pins s U H xs us Q I r h;obtain⟨p,vs,ts,rfl,hq,ht,my,nd,ne,q⟩:=h;obtain⟨u,rfl,rx⟩:=vals1 r;cases rx;obtain⟨its,r',pl,hz⟩:=I.list hq;have l1:vs.length=its.length:=r'.length;have l2:vs.length=ts.length:=Paired.length ht;have hn:H (s.heap.objs.size+1)=none:=I.af.fresh (le_succ _);have end_:∀(out:List Value)(bh:List V)(cF:List (List Int))(ix:List Nat),ix.Perm (List.range vs.length)->bh=ix.map (λi=>vs.getD i .aj)->cF=ix.map (λi=>ts.getD i [])->Vals bh out->bh.Perm vs->cF.Perm ts->iI X.K H bh cF->cF.Pairwise (λa b=>HT.lexLt a b=true)->EP X pins U Q (.ref (s.heap.objs.size+1)) {s with heap:=sortedAll s.heap its out.toArray}:=λout bh cF ix b1 b2 b3 a1 a2 a3 a4 a5=>by
  obtain⟨e,he⟩:=sortedAll_at s.heap its out.toArray;refine⟨.ref (s.heap.objs.size+1),_,I.laid (a:=s.heap.objs.size+1) (o:=.lst bh) (t':=s.toks) (λb o z=>sortedAll_old z) (le_succ _) ⟨?_,out,e,a1,he⟩,rfl,q _ bh cF ix hn b1 b2 b3 a2 a3 a4 a5⟩;rw[a2.length_eq];exact hz
 have tt:Paired (λu t=>∃a xs,u=Value.ref a/\IsTup s.heap a xs/\IntsAre xs.toList t) its ts:=KW (λv u t hv hu=>by obtain⟨a,rfl,ha⟩:=hu;cases hv;obtain⟨ys,ry,hy,_⟩:=I.tuple ha;exact⟨a,ys.toArray,rfl,hy,intsAre_of ry⟩) r' ht;refine T7 pl.isList (by lia) (Good:=λp=>cj.P its.length p/\cj.Up (λi j=>HT.lexLt (ts.getD i []) (ts.getD j [])) p its.length) (λh2 s' k=>?_) (λh=>?_) (λp hp g=>?_)
 .have CV:Paired (λu t=>∃a xs,u=Value.ref a/\IsTup s'.heap a xs/\IntsAre xs.toList t) its ts:=Paired.ub tt λu t ⟨a,xs,e,⟨o,ho,hr⟩,hi⟩=>⟨a,xs,e,⟨o,k a o ho,hr⟩,hi⟩;obtain⟨fs,kt,lf,hf⟩:=T8 CV ne;refine kat_kind (T:=Value.type "int") kt (by lia) (λv hv=>?_) rfl ⟨rfl,?_⟩
  .obtain⟨i,t,rfl⟩:=hf v hv;exact .now
  have hs:=cj.sort (T9 nd) (by lia);rw[<-l2,l1]at hs;refine wp_ask (λi j C hi hj c=>?_) hs;obtain⟨a,xs,ea,⟨o,ho,hc,n,hd⟩,ia⟩:=xU (d:=Value.none) (e:=[]) CV hi;obtain⟨b,ys,eb,⟨o',bc,i7,n',bA⟩,ib⟩:=xU (d:=Value.none) (e:=[]) CV hj;unfold kas_ask;rw[ea,eb];have q:=KQ (prog:=X.prog) (w:=X.w) (A:=X.A.in1.in1) 0 ia ib c;rw[<-CU ia,<-CU ib]at q;refine kat_lt ho hd bc bA ?_;rw[show(Value.type "int" != Value.type "tuple")=true from rfl];simpa using q
 .refine end_ its vs ts (List.range vs.length) (List.Perm.refl _) (range_getD ..).symm (by rw[l2];exact(range_getD ..).symm) r' (List.Perm.refl _) (List.Perm.refl _) ht ?_
  match ts,l2 with
  |[],_=>exact .nil
  |[_],_=>exact List.pairwise_singleton _ _
  |_::_::_,e=>exact absurd e (by simp;lia)
 .obtain⟨g1,g2⟩:=g;have hm:∀i∈p.toList,i<vs.length:=λi hi=>by
   rw[l1];exact mem_range.mp (g1.mem_iff.mp hi)
  refine end_ _ (p.toList.map λi=>vs.getD i .aj) (p.toList.map λi=>ts.getD i []) p.toList (by rw[l1];exact g1) rfl rfl (CT r' hm) ?_ ?_ (CT ht hm) ?_
  .refine(g1.map _).trans ?_;rw[<-l1,range_getD]
  .refine(g1.map _).trans ?_;rw[<-l1,l2,range_getD]
  .rw[List.pairwise_map,List.pairwise_iff_getElem];intro i j hi hj ij;have Ua:j<its.length:=by rw[Array.length_toList,hp]at hj;exact hj
   have:=g2 i j ij Ua;rw[cj.getD_eq (by rw[hp];lia),cj.getD_eq (by rw[hp];lia)]at this;simpa using this
end
end L2
namespace L2
open PySem PySem.Spec PyProof.Rows
noncomputable def jK (K:PySem.W.Frag)(H:Hp)(x:V)(ns:List Int):Prop:=∃a,x= .ref a/\aw K H a (ns.map V.int)
noncomputable def gL (K:PySem.W.Frag)(H:Hp)(n:List Int)(u:Value):Bool:=@decide (∃a,u= .ref a/\aw K H a (n.map V.int)) (Classical.propDecidable _)
theorem Ub {ns ms:List Int}(h:ns.map V.int=ms.map V.int):ns=ms:=by
 induction ns generalizing ms with
 |nil=>cases ms with
  |nil=>rfl
  |cons _ _=>cases h
 |cons n ns ih=>cases ms with
  |nil=>cases h
  |cons m ms=>rw[map_cons,map_cons]at h;injection h with h1 h2;injection h1 with h1;rw[h1,ih h2]
section
variable {X:Cx}{pins:List (Addr×Obj)}{U:St}{H:Hp}{s:Shared}
theorem CW (I:Inv X pins U H s){x:V}{u:Value}{ns n:List Int}(h:jK X.K H x ns)(r:RelV x u):gL X.K H n u=decide (ns=n):=by
 obtain⟨a,rfl,ha⟩:=h;cases r;unfold gL;by_cases e:ns=n
 .subst e;rw[decide_eq_true rfl];exact@decide_eq_true _ (Classical.propDecidable _) ⟨a,rfl,ha⟩
 .rw[decide_eq_false e];refine@decide_eq_false _ (Classical.propDecidable _) λzQ=>?_;obtain⟨b,z,hb⟩:=zQ;cases z;exact e (Ub (I.BC ha hb))
theorem CY (I:Inv X pins U H s){A:Around}(hu:A.units+60<cLine){x:V}{v:Value}{n:List Int}(hx:jK X.K H x n)(rx:RelV x v):∀{xs:List V}{us:List Value}{bQ:List (List Int)},Vals xs us->Paired (jK X.K H) xs bQ->∀u∈us,SeqAt.EqAt A s u v (gL X.K H n u):=λ{xs us bQ} p q=>by
 induction p generalizing bQ with
 |nil=>exact λu hu=>by cases hu
 | @cons y w xs us r t ih=>
  cases q with
  |@cons _ m _ bQ h hs=>
   intro u hm;rcases mem_cons.mp hm with rfl|hm
   .rw[CW I h r];obtain⟨a,rfl,ha⟩:=h;obtain⟨b,rfl,hb⟩:=hx;have q:=su I 60 (.tup (m.map Dt.int)) (.tup (n.map Dt.int)) (.ref a) (.ref b) u v A (SJ _) hu (Ku ha) (Ku hb) r rx;rw[SI]at q;exact q
   .exact ih hs u hm
theorem KZ (I:Inv X pins U H s){n:List Int}:∀{xs:List V}{us:List Value}{bQ:List (List Int)},Vals xs us->Paired (jK X.K H) xs bQ->us.any (gL X.K H n)=decide (n∈bQ):=λ{xs us bQ} p q=>by
 induction p generalizing bQ with
 |nil=>cases q;simp
 | @cons y w xs us r t ih=>
  cases q with
  |@cons _ m _ bQ h hs=>
   rw[any_cons,CW I h r,ih hs];by_cases e:m=n
   .subst e;simp
   .have e':¬n=m:=λz=>e z.symm;simp[e,e']
noncomputable def K0 (K:PySem.W.Frag)(neg:Bool):R2:=λx y H Q=>∃p xs n bQ,y= .ref p/\ag K H p xs/\jK K H x n/\Paired (jK K H) xs bQ/\Q (.bl (if neg then !decide (n∈bQ)else decide (n∈bQ))) H
end
section
variable {X:Cx}
theorem Uc (hu:X.A.units+64<cLine):bB X (compareOp .In) (K0 X.K false):=by
 intro pins s U H x y v u Q I rx ry h;obtain⟨p,xs,n,bQ,rfl,hq,hx,hs,q⟩:=h;cases ry;obtain⟨its,r,pl,hz⟩:=I.list hq;refine SeqAt.in_listAt (gL X.K H n) pl.isList (λw hw=>CY I ?_ hx rx r hs w (by simpa using hw)) ⟨.bl _,H,I,rfl,?_⟩
 .first|(have e:X.A.in1.units=X.A.units+1:=rfl;lia)|(have e:X.A.in1.units=X.A.units:=rfl;lia)|(have e:=Around.units_in1 X.A;lia)
 .rw[show its.toArray.any (gL X.K H n)=its.any (gL X.K H n)by simp,KZ I r hs];exact q
theorem Ud (hu:X.A.units+64<cLine):bB X (compareOp .NotIn) (K0 X.K true):=by
 intro pins s U H x y v u Q I rx ry h;obtain⟨p,xs,n,bQ,rfl,hq,hx,hs,q⟩:=h;cases ry;obtain⟨its,r,pl,hz⟩:=I.list hq;refine SeqAt.notIn_listAt (gL X.K H n) pl.isList (λw hw=>CY I ?_ hx rx r hs w (by simpa using hw)) ⟨.bl _,H,I,rfl,?_⟩
 .first|(have e:X.A.in1.units=X.A.units+1:=rfl;lia)|(have e:X.A.in1.units=X.A.units:=rfl;lia)|(have e:=Around.units_in1 X.A;lia)
 .rw[show its.toArray.any (gL X.K H n)=its.any (gL X.K H n)by simp,KZ I r hs];exact q
end
section
variable {X:Cx}{scope:Scope}{N':List Str}{ix:List (Option Nat)}{C:Addr}{fp:List Addr}{aa:Shared}{ae:Hp}{pins:List (Addr×Obj)}{U:St}
theorem Ue (I:Inv X pins U ae aa)(hf:∀b∈fp,dU X pins ae b){ps:List (Addr×Obj)}{U':St}{H':Hp}{s':Shared}(I':Inv (aS X scope N' C fp aa ae) ps U' H' s'):Inv X pins U H' s':=I.BB (ch:=fp) I'.os I'.base I'.af I'.bare λb hb=>by obtain⟨_,f1,_,f3,f4,f5⟩:=hf b hb;exact⟨f3,f1,f4,f5⟩
end
section
variable {X:Cx}{pins:List (Addr×Obj)}{U:St}{H:Hp}{s:Shared}{a:Addr}{y v:V}{u r:Value}{A:Around}{E:Value->Shared->Prop}
theorem Ug {H':Hp}{Q:Unit->Shared->Prop}(hu:A.units<cLine)(I:Inv X pins U H s)(g:gY H a y v H')(ry:RelV y u)(rv:RelV v r)(h:∀s',Inv X pins U H' s'->Q () s'):wpAny (model X.prog X.w) A (dictSet a u r) Q E s:=by
 rcases g with⟨kvs,k,e,ey,l,eH⟩|⟨kvs,k,b,e,ey,eb,l,eH⟩
 .subst ey eH;obtain⟨z,hd,vs,rel,dd⟩:=J6 I.af e;have hz:vs.length<=sizeLine:=by rw[<-rel.length];exact z
  have hl:(putK kvs k v).length<=sizeLine:=by have:=rW kvs k v;lia
  refine wpAny_dictSet_pairs (hsz:=hz) (mh ry) dd λh' iB hs=>h _ ?_;have he:∃q,h'.get? a=some q:=let⟨q,_,_,hq,_⟩:=iB;⟨q,hq⟩;exact rZ I (by rw[e];exact True.intro) hs he (J7 hl hd (rel.put k rv) iB)
 .subst ey eH;cases(show u=Value.ref b from ry);obtain⟨z,hd,xs,rel,dd⟩:=Ck I.af e;have hz:xs.length<=sizeLine:=by rw[<-Paired.length rel];exact z
  have hl:(putK kvs k v).length<=sizeLine:=by have:=rW kvs k v;lia
  refine wpAny_dictSet_heap (hsz:=hz) (knd:=tupleKind (qg X.prog X.w)) hu (kM I.af eb) dd λh' iB hs=>h _ ?_;obtain⟨q,es,ep,hq,h2,h3,h4,_,h5⟩:=iB;refine rZ I (by rw[e];exact True.intro) hs ⟨q,hq⟩ ⟨hl,hd,_,(rel.put k eb rv).keeps λc ys ec=>?_,q,es,ep,hq,h2,h3,h4,h5⟩;rw[jd (dg ec e (λz=>nomatch z))];exact ec
end
section
variable {prog:Program}{w:World}{A:Around}{R:Result->Shared->Prop}{s:Shared}
theorem Uh {kx vx target iter:Expr}{ifs:List Expr}{scope:Scope}{pos:Pos}{it:Value}{D:Addr}{env:Env}(I:Nat->Shared->Prop)(turn:∀n s,I n s->wpAny (model prog w) A (pyNext it) (λr ai=>match r with
   |none=>R (.ok .next) ai
   |some v=>wpAny (model prog w) A (letOwnedTupleGo target it v) (λ_ ai=>wpAny (model prog w) A (assign target env v) (λ_ aa=>wpAny (model prog w) A (forIn ifs true λc r=>if r=true then do let ok<-isTrue c env (eval c env);pure (ForInStep.yield ok)else pure (ForInStep.yield r)) (λok aQ=>if ok=true then wpAny (model prog w) A (eval kx env) (λkv dy=>wpAny (model prog w) A (eval vx env) (λvv iD=>wpAny (model prog w) A (dictSet D kv vv) (λ_ sU=>∃m,m<n/\I m sU) dH iD) dH dy) dH aQ
      else ∃m,m<n/\I m aQ) dH aa) dH ai) dH ai) dH s)(n:Nat)(h:I n s):codeAny (model prog w) A (.compLoop (.DictComp kx vx [⟨target,iter,ifs,0⟩] scope pos) 0 it (.ref D) env) R s:=by
 refine codeAny_loop rfl I (λn s hI=>?_) n h;have no:∀{α:Type}{t:Sem α}{Q:α->Shared->Prop}{E:Value->Shared->Prop}{s:Shared},wpAny (model prog w) A t Q dH s->wpAny (model prog w) A t Q E s:=λh=>wpAny_mono h (λ_ _ q=>q) λ_ _ z=>z.elim;show wpAny _ A ((compTurn (.DictComp kx vx [⟨target,iter,ifs,0⟩] scope pos) 0 it (.ref D) env).onRaise (λx=>do noteFrame x env;theTreesLotGoes x)) _ _ s;rw[compTurn_dict];refine wpAny_noted (wpAny_bind (wpAny_standAt (wpAny_bind (no (ah (turn n s hI) λr ai h₁=>?_)))));cases r with
 |none=>exact wpAny_pure h₁
 |some v=>
  refine wpAny_bind (no (ah h₁ λ_ ai h₁=>wpAny_bind (no (ah h₁ λ_ aa bV=>wpAny_bind (no (ah bV λok aQ fe=>?_))))));cases ok with
  |false=>exact wpAny_pure ⟨rfl,fe⟩
  |true=>refine wpAny_bind (wpAny_bind (no (ah fe λkv dy cE=>wpAny_bind (wpAny_holding (no (ah cE λvv iD bb=>?_))))));exact wpAny_bind (wpAny_standAt (wpAny_holding (no (ah bb λ_ sU cG=>wpAny_pure ⟨rfl,cG⟩))))
end
section
variable {X:Cx}{scope:Scope}{N':List Str}{ix:List (Option Nat)}{C:Addr}{fp:List Addr}{aa:Shared}{ae:Hp}{pins:List (Addr×Obj)}{U:St}
theorem Ui (I:Inv X pins U ae aa)(co:jC X.N X.env.scope scope N' ix){h₁:Heap}{t':Nat}(hC:@Eq Nat C aa.heap.objs.size)(hf:∀b∈fp,dU X pins ae b)(az:∀b∈fp,b<aa.heap.objs.size)(old:∀b o,aa.heap.get? b=some o->h₁.get? b=some o){m:Str->Option Value}(pK:h₁.Ns C m):
  Inv (aS X scope N' C fp aa ae) [] (gZ ix U) ae {aa with heap:=h₁,toks:=t'} where
 ok:=Kg I co (by lia) hf az
 os:=rfl
 bare:=I.bare
 base:=Un.kept old
 loc :=by
  refine⟨m,pK,λi x v e1 e2 e3=>?_⟩;unfold gZ at e2;rw[getElem?_map]at e2;cases q:ix[i]? with
  |none=>rw[q]at e2;cases e2
  | some o=>
   rw[q]at e2;cases o with
   |none=>cases e2
   | some k=>
    have eR:(U[k]?).join=some v:=Option.some.inj e2;have nP:U[k]?=some (some v):=by
     cases z:U[k]? with
     |none=>rw[z]at eR;cases eR
     |some o=>rw[z]at eR;exact congrArg some eR
    obtain⟨o1,o2,o3⟩:=co.out i x k e1 q;have hk:X.env.kindOf x=some .cell\/X.env.kindOf x=some .free:=co.frees _ o2 rfl;obtain⟨m0,_,hl⟩:=I.loc;obtain⟨u,r,l⟩:=hl k x v o1 nP (.inr hk);refine⟨u,r,?_⟩;rcases l with⟨l,_⟩|⟨_,c,ec,cY⟩
    .rcases hk with z|z
     .rw[z]at l;cases l
     .rw[z]at l;cases l
    .refine .inr ⟨?_,c,Cp o2 ec,?_⟩
     .rcases e3 with z|z|z
      .obtain⟨k',hm,q⟩:=gq z;rcases q with q|⟨_,q⟩
       .have:=o3 _ hm rfl;rw[show k'=NameKind.local from q]at this;cases this
       .cases q
      .exact .inl z
      .exact .inr z
     .obtain⟨o,ho,hd⟩:=cY;exact⟨o,old _ _ ho,hd⟩
 cell:=λx c e=>by obtain⟨v,o,ho,hd⟩:=I.cell x c (iC e);exact⟨v,o,old _ _ ho,hd⟩
 free:=I.af.fresh (by show@LE.le Nat _ aa.heap.objs.size C;lia)
 dm:=λx c e=>I.dm x c (iC e)
 pin:=λp hp=>by
  have kO:p∈([]:List (Addr×Obj)):=by simpa[aS]using hp
  cases kO
 af:=I.af.kept old
 len:=by unfold gZ;rw[length_map];exact co.len
end
noncomputable def CZ (J:It)(g:TG)(ti:TT)(tk tv:TE)(D:Addr)(QF:Hp->Prop)(W:Nat->Nat->St->Hp->Prop):Prop:=∀i m U H,W i m U H->(J.stop i H/\QF H)\/(J.go i H/\∃N:St->Hp->Prop,(∀U' H',N U' H'->∃m',m'<m/\W (i+1) m' U' H')/\∀x H',J.du i H x H'->g x U H' λU2 H2=>ti U2 H2 λb H3=>if b=true then tk U2 H3 λy H4=>tv U2 H4 λz H5=>∃H6,gY H5 D y z H6/\N U2 H6 else N U2 H3)
noncomputable def Uj (new:HO)(ix:List (Option Nat))(wi:TI)(g:TG)(ti:TT)(tk tv:TE):TE:=λU H Q=>wi U H λJ H1=>∀D,H1 D=none->∃W:Nat->Nat->St->Hp->Prop,(∃m,W 0 m (gZ ix U) (upd H1 D new))/\CZ J g ti tk tv D (λH=>Q (.ref D) H) W
section
variable {X:Cx}
theorem Uk {scope:Scope}{N':List Str}{ix:List (Option Nat)}{pins:List (Addr×Obj)}{U:St}{tg iter kx vx:Expr}{ifs:List Expr}{pos:Pos}{g:TG}{ti:TT}{tk tv:TE}{E:Value->Shared->Prop}{D:Addr}(co:jC X.N X.env.scope scope N' ix)(hc:X.calm=true)(hu:X.A.units<cLine)(hg:∀C fp aa ae,PG (aS X scope N' C fp aa ae) tg g)(hi:∀C fp aa ae,nQ (aS X scope N' C fp aa ae) ifs ti)(hk:∀C fp aa ae,PE (aS X scope N' C fp aa ae) kx tk)(hv:∀C fp aa ae,PE (aS X scope N' C fp aa ae) vx tv){ae:Hp}{aa:Shared}{J:It}{fp:List Addr}{it:Addr}{tn:Nat->Heap->Prop}{QF:Hp->Prop}{W:Nat->Nat->St->Hp->Prop}(I:Inv X pins U ae aa)(T:Turn X.prog X.w X.K tg J fp it tn)(st:tn 0 aa.heap)(hf:∀b∈fp,dU X pins ae b)(w0:∃m,W 0 m (gZ ix U) ae)(hW:CZ J g ti tk tv D QF W){RR:Addr->Result->Shared->Prop}(Cs:∀C H' s',Inv X pins U H' s'->QF H'->sf X pins H' s' C->RR C (.ok .next) s'):
  wpAny (model X.prog X.w) X.A (newFunctionEnv scope X.env.globals (gJ scope X.env) [] X.env.qual none .none (some X.env)) (λiE dy=>codeAny (model X.prog X.w) X.A (.compStart (.DictComp kx vx [⟨tg,iter,ifs,0⟩] scope pos) 0 (.ref it) (.ref D) {iE with scope:=relabel scope X.env}) (RR iE.locals) dy) E aa:=by
 have az:∀b∈fp,@LT.lt Nat _ b aa.heap.objs.size:=λb hb=>by obtain⟨o,e,_⟩:=T.obj _ _ st b hb;exact Heap.lt_size e
 refine wpAny_newFunctionEnv co.Cr (by intro y hy;simp at hy) (λh₁ bH br=>?_) co.kind;have below:∀b:Nat,b<aa.heap.objs.size->¬@Eq Nat b aa.heap.objs.size:=λb hb=>by lia
 have old:∀b o,aa.heap.get? b=some o->h₁.get? b=some o:=λb o e=>br.extBut b o (below b (Heap.lt_size e)) (Heap.get?_push_of_some _ e);have eA:tn 0 h₁:=T.keep _ _ _ st λb _ o e=>old b o e;generalize Ct:aa.heap.objs.size=C at bH br below⊢;have loop:∀aQ:Shared,aQ={aa with heap:=h₁,toks:=aa.toks+([]:List (Str×Value)).length}->codeAny (model X.prog X.w) X.A (.compLoop (.DictComp kx vx [⟨tg,iter,ifs,0⟩] scope pos) 0 (.ref it) (.ref D) (compEnvC scope (gJ scope X.env) C X.env)) (RR C) aQ:=by
  rintro aQ rfl
  obtain⟨m0,w0⟩:=w0;have I3:Inv (aS X scope N' C fp aa ae) [] (gZ ix U) ae {aa with heap:=h₁,toks:=aa.toks+([]:List (Str×Value)).length}:=Ui I co Ct.symm hf az old bH;refine Uh (λk s'=>∃i U' H',Inv (aS X scope N' C fp aa ae) [] U' H' s'/\tn i s'.heap/\(∀b∈fp,H' b=none)/\W i k U' H') ?_ m0 ⟨0,_,_,I3,eA,λb hb=>(hf b hb).1,w0⟩
  rintro k s' ⟨i,U',H',I',bL,nW,w'⟩
  have fh:∀{H':Hp},(∀b∈fp,H' b=none)->∀b∈fp,dU (aS X scope N' C fp aa ae) [] H' b:=λ{H'} hn b hb=>by
   refine⟨hn b hb,below b (Ct ▸ az b hb),λz=>?_,.inl hb,λx c e=>(hf b hb).2.2.2.2.1 x c (iC e),λp hp=>?_⟩
   .rcases mem_cons.mp (I.ny b z)with e|e
    .exact(hf b hb).2.1 e
    .exact(hf b hb).2.2.1 e
   .have kO:p∈([]:List (Addr×Obj)):=by simpa[aS]using hp
    cases kO
  rcases hW i k U' H' w' with⟨stop,q⟩|⟨go,N,hN,step⟩
  .refine ah (T.done (aS X scope N' C fp aa ae) rfl rfl rfl hc i _ s' U' H' dH I' (fh nW) bL stop) λr s4 ⟨hr,I4⟩=>?_;subst hr;have cf:H' C=none:=I4.free;refine Cs C H' s4 (Ue I hf I4) q ⟨?_,cf,?_,?_,λx c e=>?_,λp hp=>?_⟩
   .obtain⟨m,hn,_⟩:=I4.loc;exact⟨m,hn⟩
   .have z:@LT.lt Nat _ X.env.locals aa.heap.objs.size:=I.lt;show¬@Eq Nat C X.env.locals;lia
   .have z:@LE.le Nat _ X.ar.heap.objs.size aa.heap.objs.size:=I.sz;show@LE.le Nat _ X.ar.heap.objs.size C;lia
   .obtain⟨v,z⟩:=I.cell x c e;have z2:@LT.lt Nat _ c aa.heap.objs.size:=z.lt;show¬@Eq Nat c C;lia
   .have z2:@LT.lt Nat _ p.1 aa.heap.objs.size:=Heap.lt_size (I.pin p hp).1;show¬@Eq Nat p.1 C;lia
  .refine ah (T.item (aS X scope N' C fp aa ae) rfl rfl rfl hc i _ s' U' H' dH I' (fh nW) bL go) λr s4 zQ=>?_;obtain⟨u,hr,h4⟩:=zQ;subst hr;refine ah h4 λ_ s5 zQ=>?_;obtain⟨x,H5,I5,r5,y5,gB,rn⟩:=zQ;have rq:=I5.pinned (fh rn) (T.obj _ _ gB);refine ah (hg C fp aa ae _ s5 U' H5 x u _ rq r5 (step x H5 y5)) λ_ s6 zQ=>?_;obtain⟨U6,H6,I6,q6⟩:=zQ;refine ah (hi C fp aa ae _ s6 U6 H6 _ I6 q6) λok s7 zQ=>?_;obtain⟨H7,I7,q7⟩:=zQ;have back:∀{U8:St}{H8:Hp}{s8:Shared},Inv (aS X scope N' C fp aa ae) ([]++kE fp s5.heap) U8 H8 s8->N U8 H8->∃m',m'<k/\∃i U' H',Inv (aS X scope N' C fp aa ae) [] U' H' s8/\tn i s8.heap/\(∀b∈fp,H' b=none)/\W i m' U' H':=λ{U8 H8 s8} I8 n8=>by
    obtain⟨m',hm,w8⟩:=hN _ _ n8;have fj:∀b∈fp,∀o,s5.heap.get? b=some o->s8.heap.get? b=some o/\H8 b=none:=λb hb o e=>by have z:=I8.pin (b,o) (mem_append_right _ (mem_append_right _ (wJ hb e)));exact⟨z.1,z.2.1⟩
    refine⟨m',hm,i+1,U8,H8,I8.rm,T.keep _ _ _ gB λb hb o e=>(fj b hb o e).1,λb hb=>?_,w8⟩;obtain⟨o,e,_⟩:=T.obj _ _ gB b hb;exact(fj b hb o e).2
   cases ok with
   |false=>have fk:=q7;rw[if_neg Bool.false_ne_true]at fk;exact back I7 fk
   |true=>have fk:=q7;rw[if_pos rfl]at fk;show wpAny _ _ _ _ _ _;refine ah (hk C fp aa ae _ s7 U6 H7 _ I7 fk) λkv s8 zQ=>?_;obtain⟨y,H8,I8,r8,q8⟩:=zQ;refine ah (hv C fp aa ae _ s8 U6 H8 _ I8 q8) λvv s9 zQ=>?_;obtain⟨z,H9,I9,r9,H10,dp,q9⟩:=zQ;exact Ug (X:=aS X scope N' C fp aa ae) (A:=X.A) hu I9 dp r8 r9 λfq fS=>back fS q9
 exact codeAny_compStart_dict (loop _ rfl) (T.self _ 0 _ _ _ eA (loop _ rfl))
variable {scope:Scope}{N':List Str}{ix:List (Option Nat)}{tg iter kx vx:Expr}{ifs:List Expr}{pos:Pos}{wi:TI}{g:TG}{ti:TT}{tk tv:TE}
theorem Ul (new:HO)(nN:new= .dK []\/new= .dT [])(hu:X.A.units+1<cLine)(co:jC X.N X.env.scope scope N' ix)(hc:X.calm=true)(hit:PI X tg iter wi)(hg:∀C fp aa ae,PG (aS X scope N' C fp aa ae) tg g)(hi:∀C fp aa ae,nQ (aS X scope N' C fp aa ae) ifs ti)(hk:∀C fp aa ae,PE (aS X scope N' C fp aa ae) kx tk)(hv:∀C fp aa ae,PE (aS X scope N' C fp aa ae) vx tv)(hs:autoParam (∀x,foldedSetIterable iter X.env x=pure x) aP3):
  PE X (.DictComp kx vx [⟨tg,iter,ifs,0⟩] scope pos) (Uj new ix wi g ti tk tv):=by
 intro pins s U H Q I h;show wpAny _ _ (comprehension (.DictComp kx vx [⟨tg,iter,ifs,0⟩] scope pos) scope X.env _ newDict false (eval iter X.env)) _ _ s;refine wpAny_comprehension_free (use:=none) rfl hs (Cv co I) co.kind co.names (ah (hit pins s U H _ I h) λxv ai h₁=>ah h₁ λrj aa bV=>?_);obtain⟨it,fp,tn,J,ae,e,eB,T,st,hf,hq⟩:=bV;subst e;refine wpAny_newObj_type ?_;have hn:ae aa.heap.objs.size=none:=eB.af.fresh (le_refl _);have Um:yx X.prog X.w (upd ae aa.heap.objs.size new) (aa.heap.push {cls:=.type "dict",dict:=none,data:=.dict #[]}) aa.heap.objs.size new:=by
  rcases nN with z|z
  .rw[z];exact RX aa.heap eB.big
  .rw[z];exact Kb aa.heap eB.big
 have C0:Inv X pins U (upd ae aa.heap.objs.size new) {aa with heap:=aa.heap.push {cls:=.type "dict",dict:=none,data:=.dict #[]}}:=eB.laid (a:=aa.heap.objs.size) (o:=new) (t':=aa.toks) (λ_ _ q=>Heap.get?_push_of_some _ q) (le_refl _) Um;obtain⟨W,w0,hW⟩:=hq aa.heap.objs.size hn;have oj:∀b∈fp,dU X pins (upd ae aa.heap.objs.size new) b:=λb hb=>by obtain⟨f0,f⟩:=hf b hb;obtain⟨o,e,_⟩:=T.obj _ _ st b hb;exact⟨by rw[jd (ne_of_lt (Heap.lt_size e))];exact f0,f⟩
 refine Uk co hc (Nat.lt_of_succ_lt hu) hg hi hk hv C0 T (T.keep _ _ _ st λb _ o e=>Heap.get?_push_of_some _ e) oj w0 hW (RR:=λC=>compPost (model X.prog X.w) X.A X.xe none (EP X pins U Q) (.ref aa.heap.objs.size) C) λC H' s' I' q G=>?_;obtain⟨m,hn⟩:=G.ns;exact⟨m,hn,λh' nX=>⟨.ref aa.heap.objs.size,_,G.go I' nX,rfl,q⟩⟩
end
section
variable {X:Cx}{pins:List (Addr×Obj)}{U:St}{H:Hp}{s:Shared}{h':Heap}
theorem Inv.Uo {t':Nat}{ch:List Addr}{p:Addr}{o':HO}(I:Inv X pins U H s)(fH:∀b∈ch,dU X pins H b)(k:∀b o,b∉ch->s.heap.get? b=some o->h'.get? b=some o)(hp:s.heap.objs.size<=p)(new:yx X.prog X.w (upd H p o') h' p o'):Inv X pins U (upd H p o') {s with heap:=h',toks:=t'}:=by
 have neT:∀{b:Addr}{u:HO},H b=some u->b≠p:=λ{b u} e=>ne_of_lt (lt_of_lt_of_le (I.af.lt e) hp);have nA:∀{b:Addr}{u:HO},H b=some u->b∉ch:=λ{b u} e z=>by rw[(fH b z).1]at e;cases e
 refine I.step (g':=s.gens) (d':=s.drawn) (ch:=ch) (λb hb=>?_) (λb o _ _ hc e _=>k b o hc e) (λb o _ _ hc e _=>⟨o.slots,k b o hc e⟩) (λb o _ e n=>?_) (λb o hc e=>⟨o,k b o hc e⟩) (λb xs e=>by rw[jd (neT e)];exact e) (λb o u e=>by rw[jd (neT e)];exact e) (λb ps e=>⟨#[],by rw[jd (neT e),e];simp⟩) (λm hm=>?_) (λb u e=>?_) I.bare
 .obtain⟨_,f1,_,f3,f4,f5⟩:=fH b hb;exact⟨f3,f1,f4,f5⟩
 .rw[jd (ne_of_lt (lt_of_lt_of_le (Heap.lt_size e) hp))];exact n
 .obtain⟨o,es,ep,ho,r⟩:=hm;exact⟨o,es,ep,k _ o (λz=>(fH _ z).2.1 rfl) ho,r⟩
 .by_cases hb:b=p
  .subst hb;rw[ja]at e;cases e;exact new
  .rw[jd hb]at e;refine(I.af b u e).cC (λc v hc q=>k c v ?_ q) (λc q=>by rw[jd (neT q)];exact q) λc xs q=>by rw[jd (neT q)];exact q
   rcases hc with z|z
   .rw[z];exact nA e
   .exact nA z
end
theorem K1 (bt:Nat->Nat->Bool):∀k,argBest bt k<=k
 |0=>le_refl _
 |k+1=>by have:=K1 bt k;unfold argBest;split<;>lia
section
variable {prog:Program}{w:World}{A:Around}{s:Shared}{l it S:Addr}{vs:List Value}{bt:Nat->Nat->Bool}{R:Result->Shared->Prop}
theorem Ur {id:String}{args:Args}{b:Builtin}(hb:entryFor table id=some b):(model prog w).den (.builtin id args)=b args:=by show(match entryFor table id with|some b=>b args|none=>unsupported ((withoutEnding? id "#data").getD id))=_;rw[hb]
end
theorem K2:∀{vs:List Value}{ns:List Int},IntsAre vs ns->Vals (ns.map V.int) vs
 |_,_,.nil=>.nil
 |_,_,.cons n t r=>.cons ⟨t,rfl⟩ (K2 r)
section
variable {X:Cx}
theorem K3:dW X (.builtin "sorted") (λxs H Q=>∃(p:Addr)(ns:List Int),xs=[.ref p]/\ag X.K H p (ns.map V.int)/\ns.length<64/\∀(q:Addr)(pV:List Int),H q=none->pV.Perm ns->pV.Pairwise (·<=·)->Q (.ref q) (upd H q (.lst (pV.map V.int)))):=by
 intro pins s U H xs us Q I r h;obtain⟨p,ns,rfl,hq,my,q⟩:=h;obtain⟨u,rfl,rx⟩:=vals1 r;cases rx;obtain⟨its,r',pl,hz⟩:=I.list hq;have hlen:ns.length=its.length:=by have:=r'.length;rw[length_map]at this;exact this
 refine sorted_ints pl.isList (intsAre_of r') (by lia) λout pV a1 a2 a3=>?_;obtain⟨e,he⟩:=sortedAll_at s.heap its out;have hn:H (s.heap.objs.size+1)=none:=I.af.fresh (le_succ _);refine⟨.ref (s.heap.objs.size+1),_,I.laid (a:=s.heap.objs.size+1) (o:=.lst (pV.map V.int)) (t':=s.toks) (λb o z=>sortedAll_old z) (le_succ _) ⟨?_,out.toList,e,K2 a1,he⟩,rfl,q _ pV hn a2 a3⟩;rw[length_map,a2.length_eq];exact le_trans (le_of_lt my) (by rw[sizeLine_eq];lia)
end
section
variable {X:Cx}{K:PySem.W.Frag}
theorem Us {es:List Expr}{k:Nat}{pos:Pos}{t:lV}(hK:X.K=K)(hc:X.calm=true)(n:Nat)(h:qZ X es t)(hn:(assignEach es X.env).length=n)(gT:(assignEach es X.env).findIdx? (·.1)=none):PG X (.Tuple es k pos) (IV K n t):=by subst hK;exact lX hc h hn gT
theorem Ut {e:Expr}{f:Str}{pos:Pos}{ta:TE}(hK:X.K=K)(he:PE X e ta)(hb:attributeBase e f X.env (eval e X.env)=eval e X.env):PE X (.Attribute e f pos) (Jx K ta f):=by subst hK;exact j7 he hb
theorem xV (hK:X.K=K):wV X (JR K):=by subst hK;exact fP
end
end L2
namespace PySem
section
variable {prog:Program}{w:World}{K:Type}[DecidableEq K]{knd:HeapKind prog w K}{A:Around}{E:Value->Shared->Prop}{s:Shared}
theorem Uu {h:Heap}{d a:Addr}{xs:List (K×Addr×Value)}{k:K}{v:Value}{o:Obj}{es:Array DictEntry}{ep:Nat}(ho:h.get? d=some o)(hc:o.ExactDict)(hd:o.data= .dict es ep)(he:es.toList=xs.map (entryOfKey knd))(xW:∀x∈xs,knd.is h x.1 x.2.1)(hn:(xs.map (·.1)).Nodup)(bU:knd.is h k a)(C1:k∉xs.map (·.1)):(h.update d (Obj.mapDictKeys (·.push ⟨knd.hash k,.ref a,v⟩))).DictOfH knd d (xs++[(k,a,v)]):=by
 refine⟨_,_,ep+1,Heap.get?_update_self _ ho (Obj.isFreed_of_dict (Obj.data_mapDictKeys hd _)),hc.mapDictKeys _,Obj.data_mapDictKeys hd _,by simp[he,entryOfKey],λx hx=>?_,?_⟩
 .have old:knd.is h x.1 x.2.1:=(mem_append.mp hx).elim (xW x) λz=>by
   rw[mem_singleton.mp z];exact bU
  exact knd.keeps old ho hd (Heap.SameBut.update ..)
 .have p:((xs++[(k,a,v)]).map (·.1)).Perm (k::xs.map (·.1)):=by
   rw[map_append];exact List.perm_append_comm
  exact p.nodup_iff.mpr (nodup_cons.mpr ⟨C1,hn⟩)
theorem Uv {d a:Addr}{xs:List (K×Addr×Value)}{k:K}{dflt:Value}{Q:Value->Shared->Prop}(hu:knd.room A)(bU:knd.is s.heap k a)(hm:s.heap.DictOfH knd d xs)(hsz:xs.length<=sizeLine)(h1:∀p,atKey xs k=some p->Q p.2 {s with toks:=s.toks+knd.draws k})(h2:atKey xs k=none->∀h',h'.DictOfH knd d (xs++[(k,a,dflt)])->Heap.SameBut d s.heap h'->Q dflt {s with heap:=h',toks:=s.toks+knd.draws k}):
  wpAny (model prog w) A (dictSetDefault d (.ref a) dflt) Q E s:=by
 obtain⟨o,es,ep,ho,hc,hd,he,xW,hn⟩:=hm;have sz:es.size=xs.length:=by have:=congrArg List.length he;simpa using this
 unfold dictSetDefault;refine wpAny_holding (wpAny_bind (knd.pyHash hu bU (wpAny_bind (wpAny_dictFind_heap (s:={s with toks:=s.toks+knd.draws k}) hu bU ho hd he xW hn (λkI=>?_) (λj p hj=>?_)))))
 .refine wpAny_bind (wpAny_rule (wpAny_bind (wpAny_updateDictKeys (hz:=by lia) (s:={s with toks:=s.toks+knd.draws k}) ho hd (wpAny_pure (h2 (atKey_none_of_get kI) _ (Uu ho hc hd he xW hn bU (not_mem_keys_of_get kI)) (Heap.SameBut.update ..))))))
 .refine wpAny_bind (wpAny_dictEntries (s:={s with toks:=s.toks+knd.draws k}) ho hd ?_);rw[entry_at he j,hj];exact wpAny_bind (wpAny_rule (wpAny_pure (h1 _ (atKey_of_get hn hj))))
theorem Uw (knd:HeapKind prog w K)(d a:Addr)(hd:(d==sysModules)=false)(dflt:Value):MeetsIn prog w (Builtin.«dict.setdefault» ⟨[.ref d,.ref a,dflt],[]⟩) (λA R s=>knd.room A.in1/\∃k xs,knd.is s.heap k a/\s.heap.DictOfH knd d xs/\xs.length<=sizeLine/\(∀p,atKey xs k=some p->R (.ok (.ret p.2)) {s with toks:=s.toks+knd.draws k})/\(atKey xs k=none->∀h',h'.DictOfH knd d (xs++[(k,a,dflt)])->Heap.SameBut d s.heap h'->R (.ok (.ret dflt)) {s with heap:=h',toks:=s.toks+knd.draws k})):=
 .of_wp λA R s ⟨hu,k,xs,bU,hm,hz,h1,h2⟩=>by have run:=Uv (prog:=prog) (w:=w) (E:=λe s'=>R (.error e) s') (Q:=λv s'=>R (.ok (.ret v)) s') hu bU hm hz h1 h2;unfold Builtin.«dict.setdefault» Builtin.Dict.keyAndDefault;refine wpAny_bind (wpAny_bind (wpAny_notOrdered_dict hm.typeIs ?_));show wpAny _ _ (pure (d,Value.ref a,some dflt)) _ _ s;refine wpAny_pure ?_;show wpAny _ _ (if(d==sysModules)=true then _ else(dictSetDefault d (.ref a) dflt >>= _)) _ _ s;rw[if_neg (by rw[hd];exact Bool.false_ne_true)];exact wpAny_bind (wpAny_mono run (λv s' q=>wpAny_pure ⟨v,rfl,q⟩) λ_ _ z=>z)
end
end PySem
namespace L2
open PySem PySem.Spec PyProof.Rows
noncomputable def Ux (td ty tx:TE):TE:=λU H Q=>td U H λx H1=>∃a,x= .ref a/\xF H1 a/\ty U H1 λy H2=>tx U H2 λz H3=>∃kvs k b,H3 a=some (.dT kvs)/\y= .ref b/\H3 b=some (.tup (k.map kV))/\kvs.length<sizeLine/\(∀v,aX kvs k=some v->Q v H3)/\(aX kvs k=none->Q z (upd H3 a (.dT (putK kvs k z))))
section
variable {X:Cx}{o e f:Expr}{apos au:Pos}{td ty tx:TE}
theorem K4 (hu:X.A.units+1<cLine)(ho:PE X o td)(he:PE X e ty)(hf:PE X f tx)(m:M2 X o "setdefault" apos e f au):PE X (.Call (.Attribute o "setdefault" apos) [e,f] [] au) (Ux td ty tx):=by
 intro pins s U H Q I h;refine wpAny_Call_method m.base m.few m.line PySem.F.plainAttrs_dict PySem.F.slot_dict_setdefault PySem.F.type_dict_setdefault (ah (ho pins s U H _ I h) λu s1 zQ=>?_);obtain⟨x,H1,I1,rx,a,ex,d,q1⟩:=zQ;subst ex;obtain rfl:u=Value.ref a:=rx;obtain⟨t1,t2,_⟩:=Cn I1 d;refine⟨t1,t2,?_⟩;rw[m.trees];refine Calls.callWith_builtin rfl (Calls.evalArgs_plain (Calls.spliced_cons (ah (he pins s1 U H1 _ I1 q1) λiv s2 ⟨y,H2,I2,ry,q2⟩=>Calls.spliced_cons (ah (hf pins s2 U H2 _ I2 q2) λfv s3 ⟨z,H3,I3,rz,kvs,k,b,ea,ey,eb,hl,g1,g2⟩=>Calls.spliced_nil ?_))));subst ey;cases(show iv=Value.ref b from ry);obtain⟨hz,hd,xs,rel,dd⟩:=Ck I3.af ea;have KI:xs.length<=sizeLine:=by rw[<-Paired.length rel];exact hz
 refine call_meetsIn PySem.F.slot_dict_setdefault dd.typeIs PySem.F.entry_dict_setdefault (PySem.F.args_dict_setdefault_3 _ _ _) (Uw (tupleKind (qg X.prog X.w)) a b hd fv) ⟨tupleKind_room_in1 hu,k,xs,kM I3.af eb,dd,KI,λp hp=>?_,λhn h' iB hs=>?_⟩
 .have rv:=rel.val k;rw[hp]at rv;cases hv:aX kvs k with
  |none=>rw[hv]at rv;cases rv
  |some v=>rw[hv]at rv;exact⟨v,H3,I3.tok _,rv,g1 v hv⟩
 .have rv:=rel.val k;rw[hn]at rv;have hv:aX kvs k=none:=by
   cases hv:aX kvs k with
   |none=>rfl
   |some v=>rw[hv]at rv;cases rv
  have JY:(putK kvs k z).length<=sizeLine:=by have:=rW kvs k z;lia
  have sV:=rel.put k eb rz;rw[storedH_new hn]at sV;obtain⟨q,es,ep,hq,h2,h3,h4,_,h5⟩:=iB;refine⟨z,_,rZ (ob:=.dT (putK kvs k z)) I3 (by rw[ea];exact True.intro) hs ⟨q,hq⟩ ⟨JY,hd,_,sV.keeps λc ys ec=>?_,q,es,ep,hq,h2,h3,h4,h5⟩,rz,g2 hv⟩;rw[jd (dg ec ea (λz=>nomatch z))];exact ec
end
end L2
namespace PySem
section
variable {prog:Program}{w:World}{A:Around}{E:Value->Shared->Prop}{s:Shared}
theorem Uy {it d:Addr}{i ep:Nat}{es:Array DictEntry}{od:Obj}{Q:Option Value->Shared->Prop}(hit:s.heap.IsKeyIter it d i es.size ep)(dI:s.heap.get? d=some od)(bN:od.data= .dict es ep)(az:i<es.size)(hQ:∀h',h'.IsKeyIter it d (i+1) es.size ep->Heap.SameBut it s.heap h'->Q (some es[i].key) {s with heap:=h'}):wpAny (model prog w) A (pyNext (.ref it)) Q E s:=by
 obtain⟨o,ho,hc,hd⟩:=id hit;have hT:=hit.typeIs;unfold pyNext;refine wpAny_bind (wpAny_attempt ?_);refine wpAny_callSpecial?_slot hT F.slot_dict_keyiterator_next ?_;refine wpAny_call_entry F.slot_dict_keyiterator_next hT F.entry_dict_keyiterator_next ?_ (F.args_dict_keyiterator_next_1 _);unfold Builtin.«dict_keyiterator.__next__»;wp_walk using wpAny_typeNameOfWhole_keyiter hT,wpAny_fieldsOf ho hd,wpAny_dictEntries dI bN,wpAny_dictEpoch dI bN,wpAny_isOneOf_keyiter hT;rw[if_neg (show¬(i:Int)<0 by lia),Int.toNat_natCast,Array.getElem?_eq_getElem az];have Uz:Builtin.Dict_items.ownsTuple "dict_keyiterator"=false:=by decide
 have sW:(s.heap.update it (Obj.mapFields (·.setIfInBounds 1 (rawInt ((i:Int)+1))))).IsKeyIter it d (i+1) es.size ep:=⟨_,Heap.get?_update_self _ ho (Obj.isFreed_of_fields (Obj.data_mapFields hd _)),(Obj.cls_mapFields ..).trans hc,by rw[Obj.data_mapFields hd];simp[rawInt]⟩;refine wpAny_bind ?_;wp_walk using wpAny_typeNameOfWhole_keyiter hT;rw[hd];show wpAny _ _ (update it (Obj.mapFields (·.setIfInBounds 1 (rawInt ((i:Int)+1))))) _ _ s;refine wpAny_update ho (wpAny_bind (wpAny_holding ?_));wp_walk using wpAny_isOneOf_keyiter (s:={s with heap:=s.heap.update it (Obj.mapFields (·.setIfInBounds 1 (rawInt ((i:Int)+1))))}) sW.typeIs;exact⟨_,rfl,wpAny_pure (hQ _ sW (Heap.SameBut.update ..))⟩
theorem UA {it d:Addr}{i ep:Nat}{es:Array DictEntry}{od:Obj}{Q:Option Value->Shared->Prop}(hh:A.handled=none)(hit:s.heap.IsKeyIter it d i es.size ep)(dI:s.heap.get? d=some od)(bN:od.data= .dict es ep)(C2:es.size<=i)(hQ:∀h',Heap.ExtBut it s.heap h'->Q none {s with heap:=h'}):wpAny (model prog w) A (pyNext (.ref it)) Q E s:=by
  obtain⟨o,ho,hc,hd⟩:=id hit;have hT:=hit.typeIs;unfold pyNext;refine wpAny_bind (wpAny_attempt ?_);refine wpAny_callSpecial?_slot hT F.slot_dict_keyiterator_next ?_;refine wpAny_call_entry F.slot_dict_keyiterator_next hT F.entry_dict_keyiterator_next ?_ (F.args_dict_keyiterator_next_1 _);unfold Builtin.«dict_keyiterator.__next__»;wp_walk using wpAny_typeNameOfWhole_keyiter hT,wpAny_fieldsOf ho hd,wpAny_dictEntries dI bN,wpAny_dictEpoch dI bN,wpAny_isOneOf_keyiter hT;rw[if_neg (show¬(i:Int)<0 by lia),Int.toNat_natCast,Array.getElem?_eq_none C2];wp_walk using wpAny_typeNameOfWhole_keyiter hT;rw[hd];show wpAny _ _ (update it (Obj.mapFields (·.setIfInBounds 0 .none))) _ _ s;refine wpAny_update ho ?_;unfold newExc raiseNew newTuple firstArgMember;wp_walk using wpAny_newObj_type;all_goals first
    | (show wpAny _ _ (isSubtype (.type "StopIteration") (.type "StopIteration")) _ _ _
       rw[isSubtype_stop];exact wpAny_pure (wpAny_pure (hQ _ (((Heap.SameBut.update ..).extBut.push _).push _))))
    |(unfold autoParam;size_fits)
    |size_fits
theorem UB {d:Addr}{es:Array DictEntry}{ep:Nat}{od:Obj}{Q:Value->Shared->Prop}(hd:(d==sysModules)=false)(dI:s.heap.get? d=some od)(hx:od.ExactDict)(bN:od.data= .dict es ep)(hQ:Q (.ref s.heap.objs.size) {s with heap:=s.heap.push {cls:=.type "dict_keyiterator",data:=.fields #[.ref d,.int 0 0,.int es.size 0,.int ep 0]}}):wpAny (model prog w) A (pyIter (.ref d)) Q E s:=by
 have hT:s.TypeIs (.ref d) "dict":=⟨od,dI,hx.1⟩;have run:wpAny (model prog w) A.in1 (Builtin.«dict.__iter__» ⟨[.ref d],[]⟩) (λfin s'=>fin= .done (.ret (.ref s.heap.objs.size))/\s'={s with heap:=s.heap.push {cls:=.type "dict_keyiterator",data:=.fields #[.ref d,.int 0 0,.int es.size 0,.int ep 0]}}) E s:=by unfold Builtin.«dict.__iter__» Builtin.Dict.dictSlotNone Builtin.Dict.showsAll;wp_walk using wpAny_notOrdered_dict hT,wpAny_dictEntries dI bN,wpAny_dictEpoch dI bN;exact⟨rfl,rfl⟩
 refine wpAny_pyIter_slot hT F.slot_dict_iter (wpAny_call_entry F.slot_dict_iter hT F.entry_dict_iter (wpAny_mono run (λf s' z=>?_) λ_ _ z=>z) (F.args_dict_iter_1 _));obtain⟨rfl,rfl⟩:=z;exact⟨_,rfl,"dict_keyiterator",_,⟨_,Heap.get?_push_size _ rfl,rfl⟩,F.slot_dict_keyiterator_next.lookup,hQ⟩
theorem UC {v d:Addr}{es:Array DictEntry}{ep:Nat}{od:Obj}{Q:Value->Shared->Prop}(hv:s.heap.IsItemsView v d)(dI:s.heap.get? d=some od)(bN:od.data= .dict es ep)(hQ:Q (.ref s.heap.objs.size) {s with heap:=s.heap.push {cls:=.type "dict_itemiterator",data:=.fields #[.none,.bool false,.ref d,.int 0 0,.int es.size 0,.int ep 0,.none,.none]}}):wpAny (model prog w) A (pyIter (.ref v)) Q E s:=by
 obtain⟨ov,UD,hcv,UE⟩:=id hv;have hT:=hv.typeIs;have run:wpAny (model prog w) A.in1 (Builtin.«dict_items.__iter__» ⟨[.ref v],[]⟩) (λfin s'=>fin= .done (.ret (.ref s.heap.objs.size))/\s'={s with heap:=s.heap.push {cls:=.type "dict_itemiterator",data:=.fields #[.none,.bool false,.ref d,.int 0 0,.int es.size 0,.int ep 0,.none,.none]}}) E s:=by unfold Builtin.«dict_items.__iter__» Builtin.Dict_items.dictOf Builtin.Dict_items.newIterator;wp_walk using wpAny_field UD UE (x:=.ref d) rfl,wpAny_dictEntries dI bN,wpAny_dictEpoch dI bN;exact⟨rfl,by simp[rawInt,Builtin.Dict_items.ownedTupleFields,show Builtin.Dict_items.ownsTuple "dict_itemiterator"=true by decide]⟩
 refine wpAny_pyIter_slot hT F.slot_dict_items_iter (wpAny_call_entry F.slot_dict_items_iter hT F.entry_dict_items_iter (wpAny_mono run (λf s' z=>?_) λ_ _ z=>z) (F.args_dict_items_iter_1 _));obtain⟨rfl,rfl⟩:=z;exact⟨_,rfl,"dict_itemiterator",_,⟨_,Heap.get?_push_size _ rfl,rfl⟩,F.slot_dict_itemiterator_next.lookup,hQ⟩
end
end PySem
namespace L2
open PySem PySem.Spec PyProof.Rows
noncomputable def sX (a:Addr)(o:Obj)(kvs:List (List Key×V)):It where
 go:=λi H=>i<kvs.length/\H a=some (.aA o (.dT kvs))
 du:=λi H x H'=>H'=H/\∃kv b,kvs[i]?=some kv/\x= .ref b/\H b=some (.tup (kv.1.map kV))
 stop:=λi H=>kvs.length<=i/\H a=some (.aA o (.dT kvs))
theorem qd {α β:Type}{F:α->β->Prop}:∀{xs:List α}{ys:List β}{i:Nat}{x:α},Paired F xs ys->xs[i]?=some x->∃y,ys[i]?=some y/\F x y:=λ{xs ys i x} q e=>by
 induction q generalizing i with
 |nil=>simp at e
 |cons h _ ih=>
  cases i with
  |zero=>cases Option.some.inj e;exact⟨_,rfl,h⟩
  |succ i=>exact ih (i:=i) e
theorem UG {P:Program}{w:World}{K:PySem.W.Frag}{tg:Expr}(a it:Addr)(o:Obj)(kvs:List (List Key×V))(es:Array DictEntry)(ep:Nat)(hd:o.data= .dict es ep):Turn P w K tg (sX a o kvs) [it] it (λi h=>h.IsKeyIter it a i kvs.length ep) where
 mem:=by simp
 obj:=λi h st b hb=>by
  have e:b=it:=by simpa using hb
  subst e;obtain⟨o,e,c,d⟩:=st;exact⟨o,e,λv z=>by rw[d]at z;cases z⟩
 keep:=λi h h' st k=>st.at λo e=>k it (by simp) o e
 item:=by
  intro X hP hw hK hc i pins s U H E I hf st hg;subst hP hw hK;obtain⟨hi,hq⟩:=hg;obtain⟨ho,hz,hs,xs,r,o',eW,dq,bc,eD,bA,he,nd⟩:=I.af a _ hq;cases Option.some.inj (bc.symm.trans ho);rw[hd]at bA;cases bA;have hsz:es.size=kvs.length:=by have e1:=congrArg List.length he;rw[length_map,<-Paired.length r]at e1;simpa using e1
  obtain⟨kv,iH⟩:∃kv,kvs[i]?=some kv:=⟨kvs[i],by simp[hi]⟩;obtain⟨x,ex,e1,e2,e3⟩:=qd r iH;have az:i<es.size:=by lia
  have bU:es[i].key= .ref x.2.1:=by
   have h1:es.toList[i]?=some es[i]:=by simp[az]
   rw[he,getElem?_map,ex]at h1;rw[<-Option.some.inj h1];rfl
  obtain⟨f0,f1,f2,f3,f4,f5⟩:=hf it (by simp);rw[<-hsz]at st;refine Uy st ho hd az λh' bL sb=>?_;have I1:Inv X pins U H {s with heap:=h'}:=I.turned (t':=s.toks) (λb o hb e=>(sb.2 b hb).trans e) f0 f1 f3 f4 f5;rw[hsz]at bL;rw[bU];obtain⟨oi,ei,ci,di⟩:=id bL;exact⟨_,rfl,pF (s:={s with heap:=h'}) ei ci di (by decide) ⟨.ref x.2.1,H,I1,rfl,⟨rfl,kv,x.2.1,iH,rfl,by rw[e1];rw[e1]at e2;exact e2⟩,bL,λb hb=>(hf b hb).1⟩⟩
 done:=by
  intro X hP hw hK hc i pins s U H E I hf st hg;subst hP hw hK;obtain⟨hi,hq⟩:=hg;obtain⟨ho,hz,hs,xs,r,o',eW,dq,bc,eD,bA,he,nd⟩:=I.af a _ hq;cases Option.some.inj (bc.symm.trans ho);rw[hd]at bA;cases bA;have hsz:es.size=kvs.length:=by have e1:=congrArg List.length he;rw[length_map,<-Paired.length r]at e1;simpa using e1
  obtain⟨f0,f1,f2,f3,f4,f5⟩:=hf it (by simp);rw[<-hsz]at st;exact UA (I.ok.hd hc) st ho hd (by lia) λh' eb=>⟨rfl,I.turned (t':=s.toks) (λb o hb e=>eb b o hb e) f0 f1 f3 f4 f5⟩
 self:=λ_ _ _ _ _ st h=>wpAny_pyIter_keyiter st h
noncomputable def UH (tl:TE):TI:=λU H R=>tl U H λx H1=>∃a kvs,x= .ref a/\H1 a=some (.dT kvs)/\∀o,R (sX a o kvs) (upd H1 a (.aA o (.dT kvs)))
theorem UI {X:Cx}{tg l:Expr}{tl:TE}(hl:PE X l tl):PI X tg l (UH tl):=by
 intro pins s U H R I h;refine ah (hl pins s U H _ I h) λv s1 zQ=>?_;obtain⟨x,H1,I1,r1,q1⟩:=zQ;obtain⟨a,kvs,e,hq,q⟩:=q1;subst e;cases r1;obtain⟨hz,hs,xs,r,o,es,ep,ho,hx,hd,he,nd⟩:=I1.af a _ hq;have hsz:es.size=kvs.length:=by have e1:=congrArg List.length he;rw[length_map,<-Paired.length r]at e1;simpa using e1
 refine UB hs ho hx hd ?_;have I2:=I1.freeze (show gA (some (HO.dT kvs))from True.intro) hq ho;have hn:upd H1 a (.aA o (.dT kvs)) s1.heap.objs.size=none:=I2.af.fresh (le_refl _);refine⟨s1.heap.objs.size,[s1.heap.objs.size],_,_,_,rfl,I2.kept (t':=s1.toks) λb o e=>Heap.get?_push_of_some _ e,UG a _ o kvs es ep hd,?_,λb hb=>?_,q o⟩
 .rw[<-hsz];exact⟨_,Heap.get?_push_size _ rfl,rfl,rfl⟩
 .have e:b=s1.heap.objs.size:=by simpa using hb
  subst e;exact I2.nC (le_refl _) hn
end L2
namespace PySem
theorem UJ {h:Heap}{it d:Addr}{i n ep:Nat}{ok ov:Value}(hit:IsItemIter h it d i n ep ok ov)(k v:Value):
  let h':=(((((h.update it (Obj.mapFields λx=>x.setIfInBounds 3 (rawInt ((i:Int)+1)))).push {cls:=.type "tuple",data:=.seq #[k,v]}).update it (Obj.mapFields λx=>x.setIfInBounds 6 k)).update it (Obj.mapFields λx=>x.setIfInBounds 7 v)).update it (Obj.mapFields λx=>x.setIfInBounds 0 (rawInt (h.objs.size:Int)))).update it (Obj.mapFields λx=>x.setIfInBounds 1 (.bool false))
  IsItemIterOut h' it d (i+1) n ep k v h.objs.size/\h'.get? h.objs.size=some {cls:=.type "tuple",data:=.seq #[k,v]}/\∀b o,b≠it->h.get? b=some o->h'.get? b=some o:=by
 have ne:h.objs.size≠it:=Ne.symm (ne_of_lt (Heap.lt_size hit));have up:∀{g:Heap}{vs:Array Value}(j:Nat)(x:Value),g.get? it=some {cls:=.type "dict_itemiterator",dict:=none,data:=.fields vs,slots:=#[]}->(g.update it (Obj.mapFields λy=>y.setIfInBounds j x)).get? it=some {cls:=.type "dict_itemiterator",dict:=none,data:=.fields (vs.setIfInBounds j x),slots:=#[]}:=λ{g vs} j x e=>
  Heap.get?_update_self _ e (Obj.isFreed_of_fields (Obj.data_mapFields rfl _));have h1:=up 3 (rawInt ((i:Int)+1)) hit;have h2:=Heap.get?_push_of_some ({cls:=.type "tuple",data:=.seq #[k,v]}:Obj) h1;have h3:=up 1 (.bool false) (up 0 (rawInt (h.objs.size:Int)) (up 7 v (up 6 k h2)));refine⟨?_,?_,λb o hb e=>?_⟩
 .refine h3.trans ?_;simp[rawInt]
 .simp only[Heap.get?_update_ne _ _ _ _ ne];have sz:(h.update it (Obj.mapFields λx=>x.setIfInBounds 3 (rawInt ((i:Int)+1)))).objs.size=h.objs.size:=Heap.size_update ..;rw[<-sz];exact Heap.get?_push_size _ rfl
 .simp only[Heap.get?_update_ne _ _ _ _ hb];exact Heap.get?_push_of_some _ ((Heap.get?_update_ne _ _ _ _ hb).trans e)
section
variable {prog:Program}{w:World}{A:Around}{E:Value->Shared->Prop}{s:Shared}
set_option maxHeartbeats 0 in
theorem next_item {it d:Addr} {i ep:Nat} {es:Array DictEntry} {od:Obj} {ok ov:Value} {Q:Option Value -> Shared -> Prop} (hit:IsItemIter s.heap it d i es.size ep ok ov) (dI:s.heap.get? d = some od) (bN:od.data = .dict es ep) (az:i < es.size)
  (hQ : ∀ h',IsItemIterOut h' it d (i + 1) es.size ep es[i].key es[i].val s.heap.objs.size -> h'.get? s.heap.objs.size = some { cls:=.type "tuple",data:=.seq #[es[i].key,es[i].val] } ->
   (∀ b o,b ≠ it -> s.heap.get? b = some o -> h'.get? b = some o) -> Q (some (.ref s.heap.objs.size)) { s with heap:=h' }) : wpAny (model prog w) A (pyNext (.ref it)) Q E s:=by
 have hT:s.TypeIs (.ref it) "dict_itemiterator" := ⟨_,hit,rfl⟩
 unfold pyNext
 refine wpAny_bind (wpAny_attempt ?_)
 refine wpAny_callSpecial?_slot hT F.slot_dict_itemiterator_next ?_
 refine wpAny_call_entry F.slot_dict_itemiterator_next hT F.entry_dict_itemiterator_next ?_ (F.args_dict_itemiterator_next_1 _)
 unfold Builtin.«dict_itemiterator.__next__»
 have fl : ∀ {Q':Array Value -> Shared -> Prop} {E':Value -> Shared -> Prop},Q' #[.none,.bool false,.ref d,.int i 0,.int es.size 0,.int ep 0,ok,ov] s -> wpAny (model prog w) A.in1 (fieldsOf (.ref it)) Q' E' s:=λh=>wpAny_fieldsOf hit rfl h
 wp_walk using wpAny_typeNameOfWhole_itemiter hT,fl,wpAny_dictEntries dI bN,wpAny_dictEpoch dI bN
 rw [if_neg (show ¬ (i:Int) < 0 by lia),Int.toNat_natCast,Array.getElem?_eq_getElem az]
 refine wpAny_bind ?_
 wp_walk using wpAny_typeNameOfWhole_itemiter hT
 refine ⟨_,rfl,wpAny_pure ?_⟩
 rw [Heap.size_update]
 obtain ⟨f1,f2,f3⟩:=UJ hit es[i].key es[i].val
 exact hQ _ f1 f2 f3
set_option maxHeartbeats 0 in
theorem UK {it d:Addr} {i ep:Nat} {es:Array DictEntry} {od:Obj} {ok ov:Value} {Q:Option Value -> Shared -> Prop} (hh:A.handled = none) (hit:IsItemIter s.heap it d i es.size ep ok ov) (dI:s.heap.get? d = some od) (bN:od.data = .dict es ep) (C2:es.size <= i)
    (hQ : ∀ h',Heap.ExtBut it s.heap h' -> Q none { s with heap:=h' }) : wpAny (model prog w) A (pyNext (.ref it)) Q E s:=by
  have hT:s.TypeIs (.ref it) "dict_itemiterator" := ⟨_,hit,rfl⟩
  unfold pyNext
  refine wpAny_bind (wpAny_attempt ?_)
  refine wpAny_callSpecial?_slot hT F.slot_dict_itemiterator_next ?_
  refine wpAny_call_entry F.slot_dict_itemiterator_next hT F.entry_dict_itemiterator_next ?_ (F.args_dict_itemiterator_next_1 _)
  have UL:A.in1.handled = none:=hh
  unfold Builtin.«dict_itemiterator.__next__»
  have fl : ∀ {Q':Array Value -> Shared -> Prop} {E':Value -> Shared -> Prop},Q' #[.none,.bool false,.ref d,.int i 0,.int es.size 0,.int ep 0,ok,ov] s -> wpAny (model prog w) A.in1 (fieldsOf (.ref it)) Q' E' s:=λh=>wpAny_fieldsOf hit rfl h
  wp_walk using wpAny_typeNameOfWhole_itemiter hT,fl,wpAny_dictEntries dI bN,wpAny_dictEpoch dI bN
  rw [if_neg (show ¬ (i:Int) < 0 by lia),Int.toNat_natCast,Array.getElem?_eq_none C2]
  wp_walk using wpAny_typeNameOfWhole_itemiter hT
  all_goals (try (unfold raiseNew; refine wpAny_bind (wpAny_handled ?_); rw [UL]))
  all_goals (try wp_walk)
  all_goals first
    | (show wpAny _ _ (isSubtype (.type "StopIteration") (.type "StopIteration")) _ _ _
       rw [isSubtype_stop]
       exact wpAny_pure (wpAny_pure (hQ _ (((Heap.SameBut.update ..).extBut.push _).push _))))
    | (unfold autoParam; size_fits)
    | size_fits
end
end PySem
namespace L2
open PySem PySem.Spec PyProof.Rows
noncomputable def K5 (led:Bool)(js:List Nat):SetTable:={mask:=if js.length<5 then 7 else 31,place:=js.toArray,dummies:=#[],finger:=0,led:=led,moves:=if js.length<5 then 0 else 1,plain:=true}
noncomputable def K6 (w:World):Bool:=!w.params.followText "set-order"
section
variable {prog:Program}{w:World}{A:Around}{E:Value->Shared->Prop}{s:Shared}{a:Addr}{js:List Nat}
noncomputable abbrev kQ (w:World):Obj:={cls:=.type "set",dict:=none,data:=.set #[] 0 (K5 (K6 w) [])}
theorem UM {v:Value}{R:Result->Shared->Prop}(h:R (.ok (.ret (.ref s.heap.objs.size))) {s with heap:=s.heap.push (kQ w)}):codeAny (model prog w) A (.call (.builtin "set.__new__") ⟨[.type "set",v],[]⟩) R s:=by
 refine codeAny_call_builtin F.plain_set_new F.entry_set_new (wpAny_of_eq (F.newCall_set_1 v) ?_);unfold Builtin.«set.__new__» Builtin.Frozenset.newClass;have i1:=sub_set_self;obtain⟨hp,g,d,tk,os⟩:=s;wp_walk;refine wpAny_askSetting (wpAny_pure ?_);exact wpAny_newObj_type (wpAny_pure h)
end
section
variable {X:Cx}{K:PySem.W.Frag}
theorem UN (hK:X.K=K):BY X (JO K):=by subst hK;exact Rk
theorem UO (hK:X.K=K)(hu:X.A.units+64<cLine):bB X (compareOp .Eq) (Ks K):=by subst hK;exact Kt hu
end
noncomputable def mz (v d:Addr):HO:=.ext λh=>h.IsItemsView v d
theorem UP (d:Addr)(hd:(d==sysModules)=false):Meets (Builtin.«dict.items» ⟨[.ref d],[]⟩) (λ_ R s=>(∃o es ep,s.heap.get? d=some o/\o.ExactDict/\o.data= .dict es ep)/\R (.ok (.ret (.ref s.heap.objs.size))) {s with heap:=s.heap.push {cls:=.type "dict_items",data:=.fields #[.ref d]}}):=
 .of_wp λprog w A R s h=>by obtain⟨hp,g,dr,tk,os⟩:=s;obtain⟨⟨o,es,ep,ho,hx,bN⟩,h⟩:=h;have hT:Shared.TypeIs ⟨hp,g,dr,tk,os⟩ (.ref d) "dict":=⟨o,ho,hx.1⟩;unfold Builtin.«dict.items» Builtin.Dict.showsAll;wp_walk using wpAny_notOrdered_dict hT;exact⟨_,rfl,h⟩
noncomputable def sY (a:Addr)(o:Obj)(kvs:List (List Key×V)):It where
 go:=λi H=>i<kvs.length/\H a=some (.aA o (.dT kvs))
 du:=λi H x H'=>∃p kv b,H p=none/\x= .ref p/\kvs[i]?=some kv/\H b=some (.tup (kv.1.map kV))/\H'=upd H p (.tup [.ref b,kv.2])
 stop:=λi H=>kvs.length<=i/\H a=some (.aA o (.dT kvs))
section
variable {X:Cx}
theorem UQ:pI X "dict.items" (λx xs H Q=>∃d kvs,x= .ref d/\xs=[]/\H d=some (.dT kvs)/\∀p,H p=none->Q (.ref p) (upd H p (mz p d))):=by intro pins s U H x xs v us Q I rx rs h;obtain⟨d,kvs,rfl,rfl,hq,q⟩:=h;cases rx;cases rs;obtain⟨hz,hs,xs,r,o,es,ep,ho,hx,hd,he,nd⟩:=I.af d _ hq;refine call_meets PySem.F.slot_dict_items ⟨o,ho,hx.1⟩ PySem.F.entry_dict_items (PySem.F.args_dict_items_1 _) (UP d hs) ⟨⟨o,es,ep,ho,hx,hd⟩,?_⟩;refine⟨.ref s.heap.objs.size,_,I.laid (t':=s.toks) (o:=mz s.heap.objs.size d) (λb ob q=>Heap.get?_push_of_some _ q) (le_refl _) ?_,rfl,q _ I.fresh⟩;refine⟨⟨_,Heap.get?_push_size _ rfl,rfl,rfl⟩,⟨_,Heap.get?_push_size _ rfl⟩,λh1 h2 p k=>?_⟩;obtain⟨o,e,c,d⟩:=p;exact⟨o,k o e,c,d⟩
end
theorem UR:entryFor table "dict_itemiterator.__iter__"=some Builtin.«dict_keyiterator.__iter__»:=entryFor_alias (id':="dict_keyiterator.__iter__") (by kernel_rfl) rfl (by decide+kernel) (by kernel_rfl)
theorem US {prog:Program}{w:World}{A:Around}{E:Value->Shared->Prop}{s:Shared}{it d:Addr}{i n ep:Nat}{ok ov:Value}{Q:Value->Shared->Prop}(hit:IsItemIter s.heap it d i n ep ok ov)(h:Q (.ref it) s):wpAny (model prog w) A (pyIter (.ref it)) Q E s:=by have hT:s.TypeIs (.ref it) "dict_itemiterator":=⟨_,hit,rfl⟩;refine wpAny_pyIter_slot hT F.slot_dict_itemiterator_iter (wpAny_call_entry F.slot_dict_itemiterator_iter hT UR ?_ (F.args_dict_itemiterator_iter_1 _));unfold Builtin.«dict_keyiterator.__iter__»;wp_walk;exact⟨_,rfl,"dict_itemiterator",_,hT,F.slot_dict_itemiterator_next.lookup,h⟩
theorem UT {P:Program}{w:World}{K:PySem.W.Frag}{elts:List Expr}{k:Nat}{eX:Pos}(a it:Addr)(o:Obj)(kvs:List (List Key×V))(es:Array DictEntry)(ep:Nat)(hd:o.data= .dict es ep):Turn P w K (.Tuple elts k eX) (sY a o kvs) [it] it (λi h=>∃ok ov,IsItemIter h it a i kvs.length ep ok ov) where
 mem:=by simp
 obj:=λi h st b hb=>by
  have e:b=it:=by simpa using hb
  subst e;obtain⟨ok,ov,st⟩:=st;exact⟨_,st,λv z=>by have z':Data.fields _=Data.cell v:=z;cases z'⟩
 keep:=λi h h' st k=>st.imp λok=>Exists.imp λov st=>k it (by simp) _ st
 item:=by
  intro X hP hw hK hc i pins s U H E I hf st hg;subst hP hw hK;obtain⟨hi,hq⟩:=hg;obtain⟨ho,hz,hs,xs,r,o',eW,dq,bc,eD,bA,he,nd⟩:=I.af a _ hq;cases Option.some.inj (bc.symm.trans ho);rw[hd]at bA;cases bA;have hsz:es.size=kvs.length:=by have e1:=congrArg List.length he;rw[length_map,<-Paired.length r]at e1;simpa using e1
  obtain⟨kv,iH⟩:∃kv,kvs[i]?=some kv:=⟨kvs[i],by simp[hi]⟩;obtain⟨x,ex,e1,e2,e3⟩:=qd r iH;have az:i<es.size:=by lia
  have sZ:es[i]=entryOfKey (tupleKind (qg X.prog X.w)) x:=by
   have h1:es.toList[i]?=some es[i]:=by simp[az]
   rw[he,getElem?_map,ex]at h1;exact(Option.some.inj h1).symm
  have bU:es[i].key= .ref x.2.1:=by rw[sZ];rfl
  have C3:es[i].val=x.2.2:=by rw[sZ];rfl
  obtain⟨ok,ov,st⟩:=st;rw[<-hsz]at st;refine next_item st ho hd az λh' io ht hk=>?_;rw[bU,C3]at ht;refine⟨_,rfl,wpAny_letOwnedTupleGo_items io λh'' UU sb=>?_⟩;have ne:s.heap.objs.size≠it:=Ne.symm (ne_of_lt (Heap.lt_size st));have C4:=(sb.2 s.heap.objs.size ne).trans ht;have hb:H x.2.1=some (.tup (kv.1.map kV)):=by rw[e1];rw[e1]at e2;exact e2
  refine⟨.ref s.heap.objs.size,upd H s.heap.objs.size (.tup [.ref x.2.1,kv.2]),?_,rfl,⟨_,kv,x.2.1,I.fresh,rfl,iH,hb,rfl⟩,⟨_,_,by rw[<-hsz];exact UU⟩,λb UW=>?_⟩
  .refine I.Uo (ch:=[it]) (t':=s.toks) hf (λb o hb q=>?_) (le_refl _) ⟨(by show 2<=sizeLine;decide),[.ref x.2.1,x.2.2],.cons rfl (.cons e3 .nil),_,C4,rfl,_,rfl⟩;have K7:b≠it:=λz=>hb (by simp[z]);exact(sb.2 b K7).trans (hk b o K7 q)
  .have e:b=it:=by simpa using UW
   subst e;rw[jd (Ne.symm ne)];exact(hf b (by simp)).1
 done:=by
  intro X hP hw hK hc i pins s U H E I hf st hg;subst hP hw hK;obtain⟨hi,hq⟩:=hg;obtain⟨ho,hz,hs,xs,r,o',eW,dq,bc,eD,bA,he,nd⟩:=I.af a _ hq;cases Option.some.inj (bc.symm.trans ho);rw[hd]at bA;cases bA;have hsz:es.size=kvs.length:=by have e1:=congrArg List.length he;rw[length_map,<-Paired.length r]at e1;simpa using e1
  obtain⟨ok,ov,st⟩:=st;rw[<-hsz]at st;obtain⟨f0,f1,f2,f3,f4,f5⟩:=hf it (by simp);exact UK (I.ok.hd hc) st ho hd (by lia) λh' eb=>⟨rfl,I.turned (t':=s.toks) (λb o hb e=>eb b o hb e) f0 f1 f3 f4 f5⟩
 self:=λ_ _ _ _ _ ⟨_,_,st⟩ h=>US st h
noncomputable def UX (tl:TE):TI:=λU H R=>tl U H λx H1=>∃v a kvs,x= .ref v/\H1 v=some (mz v a)/\H1 a=some (.dT kvs)/\∀o,R (sY a o kvs) (upd H1 a (.aA o (.dT kvs)))
theorem UY {X:Cx}{elts:List Expr}{k:Nat}{eX:Pos}{l:Expr}{tl:TE}(hl:PE X l tl):PI X (.Tuple elts k eX) l (UX tl):=by
 intro pins s U H R I h;refine ah (hl pins s U H _ I h) λv s1 zQ=>?_;obtain⟨x,H1,I1,r1,q1⟩:=zQ;obtain⟨v,a,kvs,e,hv,hq,q⟩:=q1;subst e;cases r1;obtain⟨hz,hs,xs,r,o,es,ep,ho,hx,hd,he,nd⟩:=I1.af a _ hq;have hsz:es.size=kvs.length:=by have e1:=congrArg List.length he;rw[length_map,<-Paired.length r]at e1;simpa using e1
 obtain⟨CQ,_,_⟩:=(show yx X.prog X.w H1 s1.heap v (mz v a)from I1.af v _ hv);refine UC CQ ho hd ?_;have I2:=I1.freeze (show gA (some (HO.dT kvs))from True.intro) hq ho;have hn:upd H1 a (.aA o (.dT kvs)) s1.heap.objs.size=none:=I2.af.fresh (le_refl _);refine⟨s1.heap.objs.size,[s1.heap.objs.size],_,_,_,rfl,I2.kept (t':=s1.toks) λb o e=>Heap.get?_push_of_some _ e,UT a _ o kvs es ep hd,⟨.none,.none,?_⟩,λb hb=>?_,q o⟩
 .rw[<-hsz];exact Heap.get?_push_size _ rfl
 .have e:b=s1.heap.objs.size:=by simpa using hb
  subst e;exact I2.nC (le_refl _) hn
theorem UZ {a:Addr}{o:Obj}{kvs:List (List Key×V)}{g:TG}{ti:TT}{te:TE}{U0:St}{H0:Hp}{Q:VK}(Pv:Nat->List V->St->Hp->Prop)(h0:Pv 0 [] U0 H0)(hl:∀i ys U H,i<=kvs.length->Pv i ys U H->H a=some (.aA o (.dT kvs))/\ys.length<=sizeLine)(hs:∀i kv b p ys U H,kvs[i]?=some kv->H b=some (.tup (kv.1.map kV))->H p=none->Pv i ys U H->g (.ref p) U (upd H p (.tup [.ref b,kv.2])) λU2 H2=>ti U2 H2 λc H3=>if c=true then te U2 H3 λy H4=>Pv (i+1) (ys++[y]) U2 H4 else Pv (i+1) ys U2 H3)(hd:∀ys U H,Pv kvs.length ys U H->∀p,H p=none->Q (.ref p) (upd H p (.lst ys))):∃W:Nat->Nat->List V->St->Hp->Prop,(∃m,W 0 m [] U0 H0)/\∀i m ys U H,W i m ys U H->ys.length<=sizeLine/\(((sY a o kvs).stop i H/\nU Q ys H)\/((sY a o kvs).go i H/\∃N:List V->St->Hp->Prop,(∀bC U' H',N bC U' H'->∃m',m'<m/\W (i+1) m' bC U' H')/\∀x H',(sY a o kvs).du i H x H'->g x U H' λU2 H2=>ti U2 H2 λb H3=>if b=true then te U2 H3 λy H4=>N (ys++[y]) U2 H4 else N ys U2 H3)):=by
 refine⟨λi m ys U H=>m=kvs.length-i/\i<=kvs.length/\Pv i ys U H,⟨kvs.length,by simp,zero_le _,h0⟩,?_⟩
 rintro i m ys U H ⟨rfl,hi,p⟩
 obtain⟨q,hz⟩:=hl i ys U H hi p;refine⟨hz,?_⟩;by_cases az:i<kvs.length
 .refine .inr ⟨⟨az,q⟩,Pv (i+1),λbC U' H' p'=>⟨kvs.length-(i+1),by lia,rfl,az,p'⟩,λx H' y=>?_⟩;obtain⟨c,kv,b,hc,rfl,ek,eb,rfl⟩:=y;exact hs i kv b c ys U H ek eb hc p
 .have e:i=kvs.length:=by lia
  subst e;exact .inl ⟨⟨le_refl _,q⟩,hd ys U H p⟩
theorem xX {X:Cx}{K:PySem.W.Frag}(hK:X.K=K):bB X (compareOp .In) (wY K false):=by subst hK;exact BZ
section
variable {X:Cx}
theorem U5:dW X (.builtin "isinstance") (λxs H Q=>∃x q,xs=[.ref x,.ref q]/\H q=some (.tup [.ty "list",.ty "tuple"])/\((∃ys,ag X.K H x ys)\/∃ys,aw X.K H x ys)/\Q (.bl true) H):=by
 intro pins s U H xs us Q I r h;obtain⟨x,q,rfl,hq,hx,k⟩:=h;obtain⟨u,w,rfl,r1,r2⟩:=vals2 r;cases r1;cases r2;obtain⟨ts,rt,ht,_⟩:=I.tuple (aw.of hq);obtain⟨a,b,rfl,ra,rb⟩:=vals2 rt;obtain rfl:a=Value.type "list":=ra;obtain rfl:b=Value.type "tuple":=rb;obtain⟨⟨c,dd,dt,sl⟩,ho,hc,n,hd⟩:=ht;simp only at hc hd;subst hc hd;have fin:∀tk,EP X pins U Q (.bool true) {s with toks:=tk}:=λtk=>⟨.bl true,H,I.tok tk,rfl,k⟩;rcases hx with⟨ys,hy⟩|⟨ys,hy⟩
 .obtain⟨its,_,pl,_⟩:=I.list hy;obtain⟨o,pW,tf,_⟩:=pl.isList;exact PySem.W.kia_tup (its:=[.type "list",.type "tuple"]) PySem.W.kitx_list I.aO ⟨o,pW,tf⟩ ho rfl (λz=>nomatch z) fin
 .obtain⟨its,_,⟨o,pW,tf,_⟩,_⟩:=I.tuple hy;exact PySem.W.kia_tup (its:=[.type "list",.type "tuple"]) PySem.W.kitx_tuple I.aO ⟨o,pW,tf⟩ ho rfl (λz=>nomatch z) fin
noncomputable def K8 (a b:TI):TI:=λU H R=>a U H R\/b U H R
theorem Va {tg l:Expr}{a b:TI}(h1:PI X tg l a)(h2:PI X tg l b):PI X tg l (K8 a b):=by
 intro pins s U H R I h;rcases h with h|h
 .exact h1 pins s U H R I h
 .exact h2 pins s U H R I h
theorem Vb {tg l:Expr}{tl:TE}(hl:PE X l tl):PI X tg l (K8 (Jd X.K tl) (Je X.K tl)):=Va (fJ hl) (Jf hl)
end
noncomputable def Vc (K:PySem.W.Frag)(t:TE):TT:=λU H Q=>t U H λx H'=>∃k,BQ K x H' k/\Q k H'
theorem Vd {X:Cx}{K:PySem.W.Frag}{a:Expr}{ta:TE}(hK:X.K=K)(ha:PE X a ta)(he:∀whole,isTrue a X.env whole=(do let v<-whole;standAt a.pos;holding [v] (truthy v))):PT X a (Vc K ta):=by
 subst hK;exact Ju ha he
section
variable {X:Cx}{CX:eP}{k:Nat}{C f:Addr}{fd:FuncData}{ps ks:List Str}{sp:Sp}{E:XK}{g:List Value->List Value->List Value}{gV:List V->List V->List V}{x:Str}{p pos:Pos}{e:Expr}{es:List Expr}{eQ:List Keyword}{t tk:TA}
theorem Ve {pins:List (Addr×Obj)}{U:St}{H:Hp}{s:Shared}{Q:VK}{us ws:List Value}{vs zs:List V}(M:Mk X.K C f)(F:xm X.prog X.w X.K X.mg X.base CX k f fd ps sp)(hr:aT (k+1) X.A)(hb:fM X.K fd ps ks g gV)(hx:Passes CX X E)(I:Inv X pins U H s)(r:Vals vs us)(rz:Vals zs ws)(h:∀x dx,H x=none->H dx=none->dx≠x->sp (gV (.ref x::vs) zs) (upd (upd H dx (.own x)) x (.ins C dx [])) (λv H2=>v= .aj/\Q (.ref x) H2) E):
  wpAny (model X.prog X.w) X.A (call (.ref C) us (ks.zip ws)) (EP X pins U Q) X.xe s:=by
 have hq:=h (s.heap.objs.size+1) s.heap.objs.size (I.af.fresh (le_succ _)) (I.af.fresh (le_refl _)) (ne_of_lt (lt_succ_self _));have I2:=Inv.made (C:=C) I;have r2:=hb.rel (Paired.cons (show RelV (V.ref (s.heap.objs.size+1)) (Value.ref (s.heap.objs.size+1))from rfl) r) rz;have hl:(g (Value.ref (s.heap.objs.size+1)::us) ws).length=ps.length:=by rw[<-Paired.length r2];exact F.len _ _ _ _ hq
 refine wpAny_call (Jv (f:=f) I.aO M.makes M.init (beq_iff_eq.mp M.fn) (codeAny_mono (F.run _ X.stack _ _ ⟨Value.ref (s.heap.objs.size+1)::us,ks.zip ws⟩ _ _ _ E (hr.make C us (ks.zip ws)) (I2.pH.make C us (ks.zip ws)) (hb.to _ _ _ I2.aO hl) r2 hq) λr s' dv=>?_));cases r with
 |error e=>exact hx pins U _ _ e s' I2 dv
 |ok fl=>
  cases fl with
  |ret u=>obtain⟨v,H',I3,rv,ev,q3⟩:=I2.after dv;subst ev;exact⟨rv,⟨V.ref (s.heap.objs.size+1),H',I3,rfl,q3⟩⟩
  |next=>exact False.elim dv
  |brk=>exact False.elim dv
  |cont=>exact False.elim dv
noncomputable def Vf (C:Addr)(sp:Sp)(gV:List V->List V->List V)(E:XK)(t tk:TA):TE:=λU H Q=>t U H λvs H1=>tk U H1 λzs H2=>∀x dx,H2 x=none->H2 dx=none->dx≠x->sp (gV (.ref x::vs) zs) (upd (upd H2 dx (.own x)) x (.ins C dx [])) (λv H3=>v= .aj/\Q (.ref x) H3) E
theorem Vg (M:Mk X.K C f)(F:xm X.prog X.w X.K X.mg X.base CX k f fd ps sp)(hr:aT (k+1) X.A)(hg:Gl X x)(hm:X.mg x=some (.ref C))(hb:fM X.K fd ps ks g gV)(hx:Passes CX X E)(ha:PA X (e::es) t)(rF:PK X eQ tk)(eY:autoParam ((backToKw pos (keywordEach eQ X.env)).all (·.1.isSome)=true) aP1)(BX:autoParam ((backToKw pos (keywordEach eQ X.env)).filterMap (·.1)=ks) aP1)(cD:autoParam ((x==("__debug__":Str))=false) aP2)(he:autoParam (starEach (e::es) X.env=(false,eval e X.env)::starEach es X.env) aP1)(cg:autoParam (((backTo pos (starEach (e::es) X.env)).any (·.1)||(backToKw pos (keywordEach eQ X.env)).any (·.1.isNone))=false) aP1):
  PE X (.Call (.Name x p) (e::es) eQ pos) (Vf C sp gV E t tk):=by
 intro pins s U H Q I h;refine wpAny_Call_Name_kw (lR I hg hm ?_ cD);refine PySem.W.callWith_KW (h₀:=X.base) I.ok.mod.dQ M.kp eY (ah (ha pos pins s U H _ I h) λus s1 zQ=>?_) cg he;obtain⟨vs,H1,I1,r,q⟩:=zQ;refine ah (rF pos pins s1 U H1 _ I1 q) λws s2 ⟨zs,H2,I2,rz,q2⟩=>⟨I2.aO,?_⟩;rw[BX];exact Ve M F hr hb hx I2 r rz q2
end
section
variable {X:Cx}{K:PySem.W.Frag}
theorem K9 (hK:X.K=K):bB X (compareOp .NotIn) (wY K true):=by subst hK;exact wZ
end
noncomputable def DK {α:Type}:Sem α->Prop
 | .pure _=>True
 | .raise _=>True
 | .unsupported _=>True
 | .finish _=>True
 | .rule _ k=>DK (k ())
 | .at _ k=>DK (k ())
 | .load _ _ k=>∀o,DK (k o)
 | .update _ _ f k=>(∀o:Obj,(f o).dict=o.dict/\(o.isFreed=false->(f o).isFreed=false))/\DK (k ())
 | .loadIfAlive _ k=>∀o,DK (k o)
 | .point _ k=>DK (k ())
 | .register _ _=>True
 | .alloc _ k=>∀a,DK (k a)
 | .fresh k=>∀t,DK (k t)
 | .ask k=>∀x,DK (k x)
 | .handled _ k=>∀x,DK (k x)
 | .stack k=>∀x,DK (k x)
 |_=>False
theorem Vh {α β:Type}{f:α->Sem β}(hf:∀a,DK (f a))(m:Sem α)(h:DK m):DK (m.bind f):=by
 induction m with
 |pure a=>exact hf a
 |raise _=>exact True.intro
 |unsupported _=>exact True.intro
 |finish _=>exact True.intro
 |rule _ k ih=>exact ih () h
 |«at» _ k ih=>exact ih () h
 |load _ _ k ih=>exact λo=>ih o (h o)
 |update _ _ _ k ih=>exact⟨h.1,ih () h.2⟩
 |loadIfAlive _ k ih=>exact λo=>ih o (h o)
 |point _ k ih=>exact ih () h
 |register _ _ _=>exact True.intro
 |alloc _ k ih=>exact λa=>ih a (h a)
 |fresh k ih=>exact λa=>ih a (h a)
 |ask k ih=>exact λa=>ih a (h a)
 |handled _ k ih=>exact λa=>ih a (h a)
 |stack k ih=>exact λa=>ih a (h a)
 |choose _ _ _ _=>exact False.elim h
 |os _ _ _ _=>exact False.elim h
 |call _ _ _ _ _ _=>exact False.elim h
 |newGen _ _ _=>exact False.elim h
 |genState _ _ _=>exact False.elim h
 |resume _ _ _ _ _=>exact False.elim h
 |yield _ _ _ _ _=>exact False.elim h
 |fork _ _ _=>exact False.elim h
 |thread _ _=>exact False.elim h
 |await _ _ _ _ _ _=>exact False.elim h
theorem zl {α β:Type}{m:Sem α}{f:α->Sem β}(hm:DK m)(hf:∀a,DK (f a)):DK (m >>= f):=Vh hf m hm
theorem C5 {a:Addr}:DK (load a):=λ_=>True.intro
theorem Vi {o:Obj}:DK (alloc o):=λ_=>True.intro
theorem C6:DK stack:=λ_=>True.intro
theorem La {a:Addr}{f:Obj->Obj}(h:∀o:Obj,(f o).dict=o.dict/\(o.isFreed=false->(f o).isFreed=false)):DK (update a f):=⟨h,True.intro⟩
noncomputable def KD (h h':Heap):Prop:=∀b o,h.get? b=some o->∃o',h'.get? b=some o'/\o'.dict=o.dict
theorem KD.refl (h:Heap):KD h h:=λ_ o e=>⟨o,e,rfl⟩
theorem KD.trans {a b c:Heap}(x:KD a b)(y:KD b c):KD a c:=λi o e=>by obtain⟨o1,e1,d1⟩:=x i o e;obtain⟨o2,e2,d2⟩:=y i o1 e1;exact⟨o2,e2,d2.trans d1⟩
theorem KD.push (h:Heap)(o:Obj):KD h (h.push o):=λ_ o' e=>⟨o',Heap.get?_push_of_some o e,rfl⟩
theorem KD.update {h:Heap}{a:Addr}{f:Obj->Obj}(hf:∀o:Obj,(f o).dict=o.dict/\(o.isFreed=false->(f o).isFreed=false)):KD h (h.update a f):=λb o e=>by
 by_cases z:a=b
 .subst z;exact⟨f o,Heap.get?_update_self f e ((hf o).2 (Heap.get?_some_iff.mp e).2),(hf o).1⟩
 .exact⟨o,by rw[Heap.get?_update_other h f z];exact e,rfl⟩
theorem Vj {α:Type}{M:Model}{Γ:PySem.Ctx}{Q:α->Pos->Shared->Prop}{E:Value->Pos->Shared->Prop}(t:Sem α)(p:Pos)(s:Shared)(d:DK t)(h:Sem.wp M Γ t Q E p s):Sem.wp M Γ t (λa p' s'=>Q a p' s'/\KD s.heap s'.heap) (λe p' s'=>E e p' s'/\KD s.heap s'.heap) p s:=by
 induction t generalizing p s with
 |pure a=>rw[Sem.wp]at h⊢;exact⟨h,KD.refl _⟩
 |raise _=>rw[Sem.wp]at h⊢;exact⟨h,KD.refl _⟩
 |unsupported _=>rw[Sem.wp]at h;exact h.elim
 |finish _=>rw[Sem.wp]at h;exact h.elim
 |rule _ k ih=>rw[Sem.wp]at h⊢;exact ih () p s d h
 |«at» p' k ih=>rw[Sem.wp]at h⊢;exact ih () p' s d h
 |load a x k ih=>rw[Sem.wp]at h⊢;obtain⟨o,e,h⟩:=h;exact⟨o,e,ih o p s (d o) h⟩
 |update a x f k ih=>rw[Sem.wp]at h⊢;obtain⟨e,h⟩:=h;exact⟨e,Sem.wp_mono M Γ (k ()) (λ_ _ s' q=>⟨q.1,(KD.update d.1).trans q.2⟩) (λ_ _ s' q=>⟨q.1,(KD.update d.1).trans q.2⟩) p _ (ih () p _ d.2 h)⟩
 |loadIfAlive a k ih=>rw[Sem.wp]at h⊢;exact ih _ p s (d _) h
 |point _ k ih=>rw[Sem.wp]at h⊢;exact ih () p s d h
 |register _ _ _=>rw[Sem.wp]at h;exact h.elim
 |alloc o k ih=>rw[Sem.wp]at h⊢;exact Sem.wp_mono M Γ (k s.heap.objs.size) (λ_ _ s' q=>⟨q.1,(KD.push _ o).trans q.2⟩) (λ_ _ s' q=>⟨q.1,(KD.push _ o).trans q.2⟩) p _ (ih _ p _ (d _) h)
 |fresh k ih=>rw[Sem.wp]at h⊢;exact ih _ p _ (d _) h
 |ask k ih=>rw[Sem.wp]at h⊢;exact ih _ p s (d _) h
 |handled own k ih=>rw[Sem.wp]at h⊢;exact ih _ p s (d _) h
 |stack k ih=>rw[Sem.wp]at h⊢;exact ih _ p s (d _) h
 |choose _ _ _ _=>exact False.elim d
 |os _ _ _ _=>exact False.elim d
 |call _ _ _ _ _ _=>exact False.elim d
 |newGen _ _ _=>exact False.elim d
 |genState _ _ _=>exact False.elim d
 |resume _ _ _ _ _=>exact False.elim d
 |yield _ _ _ _ _=>exact False.elim d
 |fork _ _ _=>exact False.elim d
 |thread _ _=>exact False.elim d
 |await _ _ _ _ _ _=>exact False.elim d
theorem tj {α:Type}{M:Model}{A:Around}{t:Sem α}{Q:α->Shared->Prop}{E:Value->Shared->Prop}{s:Shared}(d:DK t)(h:wpAny M A t Q E s):wpAny M A t (λa s'=>Q a s'/\KD s.heap s'.heap) (λe s'=>E e s'/\KD s.heap s'.heap) s:=λΓ p Vl=>Vj t p s d (h Γ p Vl)
theorem Vm {v:Value}:DK (fieldsOf v):=by
 unfold fieldsOf;split
 .refine zl C5 λo=>?_;split<;>exact True.intro
 .exact True.intro
theorem xY {v:Value}{i:Nat}:DK (field v i):=by unfold field;refine zl Vm λvs=>?_;split<;>exact True.intro
theorem Vn (f:Array Value->Array Value)(o:Obj):(Obj.mapFields f o).dict=o.dict/\(o.isFreed=false->(Obj.mapFields f o).isFreed=false):=by obtain⟨c,d,dt,sl⟩:=o;cases dt<;>exact⟨rfl,λh=>h⟩
theorem C7 {v x:Value}{i:Nat}:DK (setField v i x):=by
 unfold setField;split
 .unfold updateField;refine zl C5 λo=>?_;split
  .split
   .exact La (Vn _)
   .exact True.intro
  .exact True.intro
 .exact True.intro
theorem C8 {e:Value}{f:Option Addr}:DK (setFlight e f):=by
 unfold setFlight;refine zl xY λtb=>?_;split
 .exact C7
 .exact True.intro
theorem Lb:∀l:List Env,DK (readyFrames l)
 |[]=>True.intro
 | env::outer=>by
  unfold readyFrames;split
  .refine zl C5 λo=>?_;split
   .exact True.intro
   .refine zl ?_ λim=>zl ?_ λback=>zl (La λo=>⟨rfl,λh=>?_⟩) λ_=>Lb outer
    .unfold behindIsImport;split
     .exact True.intro
     .split
      .exact True.intro
      .exact zl xY λ_=>True.intro
    .unfold keptBack;split
     .split
      .exact True.intro
      .refine zl ?_ λ_=>True.intro;unfold underTheClaimsCaller;exact zl C6 λ_=>True.intro
     .exact True.intro
    .obtain⟨c,d,dt,sl⟩:=o;cases dt<;>exact h
  .exact True.intro
theorem Vo {env:Env}:DK (PySem.frameOf env):=by
 unfold PySem.frameOf;refine zl (zl C6 λ_=>True.intro) λes=>zl ?_ λr=>?_
 .cases es.dropWhile (·.frame != env.frame)with
  |nil=>exact True.intro
  |cons e r=>unfold frameObject;exact zl (Lb _) λ_=>True.intro
 .split<;>exact True.intro
theorem Vp {ty:String}{vs:List Value}:DK (newFields ty vs):=by
 unfold newFields newObj;dsimp only;have rest:DK (newObjAsIs (Value.type ty) (Data.fields vs.toArray)):=by unfold newObjAsIs;exact zl Vi λ_=>True.intro
 split
 .exact zl True.intro λ_=>rest
 .exact rest
theorem Vq {f:Addr}{b:Bool}:DK (entryPlaceOf f b):=by unfold entryPlaceOf;refine zl C6 λVr=>?_;split<;>exact True.intro
theorem Lc {e:Value}{env:Env}:DK (noteFrame e env):=by
 unfold noteFrame;split
 .have rest:∀{head:Value}{f:Addr},DK (do setField e 1 (<-EntryCells.newEntry head (<-PySem.frameOf env) .none (rawInt f) .none (<-entryPlaceOf f (head != .none)))):=λ{head f}=>zl Vo λa=>zl Vq λpl=>zl Vp λb=>C7;refine zl xY λhead=>?_;split
  .refine zl xY λx=>?_;split
   .exact True.intro
   .exact zl C7 λ_=>rest
  .exact rest
 .exact True.intro
theorem Ld {env:Env}{e:Value}:DK (leaving env e):=zl Lc λ_=>C8
end L2
namespace PySem
section
variable {prog:Program}{w:World}{A:Around}{E:Value->Shared->Prop}{h:Heap}{g:Array GenState}{d:Drawn}{t:Nat}{os:OsState}
variable {nm q:Str}{C N:Addr}{bs bm nZ:List Value}{hdct:Bool}{sn:List Str}{sub:List Value}{ab:Bool}{col:Option Bool}{dd:Option Addr}{k0 k1 k2 k3 k5:Option Value}{Bq newId iJ:String}
theorem Vs (F:ExcBaseFacts Bq newId iJ nZ)(T:OwnTail h nZ bm){rest:List Value}{fI:Addr}{oI:Obj}{Q:Fin->Shared->Prop}(hC:h.get? C=some (excClassObj nm q C N bs bm hdct sn sub ab col dd k0 k1 k2 k3 k5 newId))(L:PySem.W.Looks (model prog w) h (typeLookup (.ref C) "__init__") (some (.ref fI)))(C9:h.get? fI=some oI)(Dc:oI.cls= .type "function")(iK:rest.length<=sizeLine)(hq:∀h' e,Heap.MadeExcOf h h' e (.ref C) rest->wpAny (model prog w) A (call (.ref fI) (.ref e::rest)) (λr s'=>r= .none/\Q (.done (.ret (.ref e))) s') E ⟨h',g,d,t,os⟩):
  wpAny (model prog w) A (Builtin.«type.__call__» ⟨.ref C::rest,[]⟩) Q E ⟨h,g,d,t,os⟩:=by
 repeat(first|with_reducible refine wpAny_loadPart_at hC ?_|with_reducible refine wpAny_madeBy_exc hC ?_|wp_step)
 refine codeAny_call_builtin_code (Code.quiet_builtin _ F.quiet) (wpAny_check_new_subT F T hC (codeAny_exc_new_subT F T hC ?_ iK));show wpAny _ _ _ _ _ _;have hk:∀b o,h.get? b=some o->((h.push {cls:=.type "tuple",data:=.seq rest.toArray}).push {cls:=.ref C,data:=.fields #[.ref h.objs.size,.none,.none,.none,.bool false,.none]}).get? b=some o:=λb o e=>Heap.get?_push_of_some _ (Heap.get?_push_of_some _ e);have tm:((h.push {cls:=.type "tuple",data:=.seq rest.toArray}).push {cls:=.ref C,data:=.fields #[.ref h.objs.size,.none,.none,.none,.bool false,.none]}).get? (h.objs.size+1)=some {cls:=.ref C,data:=.fields #[.ref h.objs.size,.none,.none,.none,.bool false,.none]}:=by heap_get
 have hm:Heap.MadeExcOf h ((h.push {cls:=.type "tuple",data:=.seq rest.toArray}).push {cls:=.ref C,data:=.fields #[.ref h.objs.size,.none,.none,.none,.bool false,.none]}) (h.objs.size+1) (.ref C) rest:=⟨hk,Heap.get?_none_of_le (le_succ _),h.objs.size,tm,Heap.get?_none_of_le (le_refl _),Heap.get?_push_of_some _ (Heap.get?_push_at rfl rfl)⟩;have dv:=hq _ _ hm;have Vu:=hk _ _ hC;have Dd:=hk _ _ C9;have Vv:(Value.ref C::bm).contains (.ref C)=true:=by simp
 unfold isInstance;repeat(first|with_reducible refine wpAny_loadPart_at tm ?_|(with_reducible refine wpAny_isSubtype_exc Vu ?_;rw[Vv])|wp_step)
 show wpAny _ _ (typeLookup (.ref C) _) _ _ _;refine L _ _ _ _ hk (wpAny_holding (wpAny_bind ?_));unfold bindSpecial;refine wpAny_bind (wpAny_typeOf (T:="function") ⟨_,Dd,Dc⟩ ?_);rw[if_pos (by decide)];refine wpAny_pure (wpAny_bind (wpAny_mono dv (λr s' hr=>?_) λ_ _ x=>x));obtain⟨rfl,hQ⟩:=hr;wp_walk;exact hQ
theorem Vw (F:ExcBaseFacts Bq newId iJ nZ)(T:OwnTail h nZ bm){rest:List Value}{fI:Addr}{oI:Obj}{Q:Value->Shared->Prop}(hC:h.get? C=some (excClassObj nm q C N bs bm hdct sn sub ab col dd k0 k1 k2 k3 k5 newId))(L:PySem.W.Looks (model prog w) h (typeLookup (.ref C) "__init__") (some (.ref fI)))(C9:h.get? fI=some oI)(Dc:oI.cls= .type "function")(iK:rest.length<=sizeLine)(hq:∀h' e,Heap.MadeExcOf h h' e (.ref C) rest->wpAny (model prog w) (A.under (.builtin "type.__call__" ⟨.ref C::rest,[]⟩)) (call (.ref fI) (.ref e::rest)) (λr s'=>r= .none/\Q (.ref e) s') E ⟨h',g,d,t,os⟩):
  wpAny (model prog w) A (call (.ref C) rest) Q E ⟨h,g,d,t,os⟩:=by
 have f1:=tc_lookup;have f2:=tc_bind (.ref C);have hT:(⟨h,g,d,t,os⟩:Shared).TypeIs (.ref C) "type":=⟨_,hC,rfl⟩;refine wpAny_call (codeAny_of_tree ?_);show wpAny _ _ (callAny (.ref C) _) _ _ _;repeat(any_goals (first|assumption|with_reducible refine wpAny_loadPart_at hC ?_|wp_step))
 refine⟨rfl,?_⟩;exact codeAny_call_builtin_at (Code.quiet_builtin _ (by decide+kernel)) entry_typeCall (wpAny_check_type_call_sub hC (Vs F T hC L C9 Dc iK λh' e hm=>hq h' e hm))
theorem Vx {s:Shared}{env:Env}{x:Sem Value}{Q:Flow->Shared->Prop}(dY:bm.contains (.type "BaseException")=true)(hh:A.handled=none)(hx:wpAny (model prog w) A x (λv s1=>∃e oe t,v= .ref e/\s1.heap.get? C=some (excClassObj nm q C N bs bm hdct sn sub ab col dd k0 k1 k2 k3 k5 newId)/\s1.heap.get? e=some oe/\oe.cls= .ref C/\oe.data= .fields #[.ref t,.none,.none,.none,.bool false,.none]/\E (.ref e) s1) E s):
  wpAny (model prog w) A (raiseStmt env (some x) none) Q E s:=by
 have De:(Value.ref C::bm).contains (.type "BaseException")=true:=by rw[List.contains_cons,dY,Bool.or_true]
 unfold raiseStmt;refine wpAny_bind (wpAny_mono hx (λv s1 q1=>?_) λ_ _ z=>z);obtain⟨e,oe,t,rfl,hC,he,hc,hd,hE⟩:=q1;obtain⟨hp,g,dr,tk,os⟩:=s1;obtain⟨c0,di,da,sl⟩:=oe;dsimp only at hc hd;subst hc hd;repeat(first|with_reducible refine wpAny_loadPart_at he ?_|with_reducible refine wpAny_loadPart_at hC ?_|(with_reducible refine wpAny_isSubtype_exc hC ?_;rw[De])|wp_step)
 exact wpAny_raiseNew_none hh hE
end
end PySem
namespace PySem
open Builtin Builtin.ObjectAttr
noncomputable abbrev xZ:List Value:=[.type "ValueError",.type "Exception",.type "BaseException",.type "object"]
section
variable {prog:Program}{w:World}{A:Around}{E:Value->Shared->Prop}{h:Heap}{g:Array GenState}{d:Drawn}{t:Nat}{os:OsState}
variable {nm q:Str}{C N x:Addr}{bs bm:List Value}{hdct:Bool}{sn:List Str}{sub:List Value}{ab:Bool}{col:Option Bool}{dd:Option Addr}{k0 k1 k2 k3 k5:Option Value}{newId:String}{name:Str}{v:Value}{o:Obj}
theorem Le {M:Model}{α:Type}{p:Sem α}{r:α}{Q:α->Shared->Prop}(L:PySem.W.Looks M h p r)(hq:Q r ⟨h,g,d,t,os⟩):wpAny M A p Q E ⟨h,g,d,t,os⟩:=L _ _ _ _ (λ_ _ e=>e) hq
theorem Vy {self:Value}(T:OwnTail h xZ bm):refuseLoop self "__setattr__" bm=pure ():=by
 induction T with
 |base=>exact F.store_ValueError.passes self
 |own _ _ _ _ ih=>rw[refuseLoop_ref];exact ih
theorem Vz {tk:Tok}{Q:Fin->Shared->Prop}(T:OwnTail h xZ bm)(hC:h.get? C=some (excClassObj nm q C N bs bm true sn sub ab col dd k0 k1 k2 k3 k5 newId))(Ln:PySem.W.Looks (model prog w) h (typeLookup (.ref C) name) none)(hx:h.get? x=some o)(hc:o.cls= .ref C)(Df:∀c,o.data≠.cls c)(Dg:o.dict=none)(hq:∀h' kR dx,h.get? dx=none->dx≠x->h'.get? x=some {o with dict:=some dx}->h'.Ns1 dx (λy=>if y=name then some v else none)->(∀b ob,b≠x->h.get? b=some ob->h'.get? b=some ob)->Q (.done (.ret .none)) ⟨h',g,d,kR,os⟩):
  wpAny (model prog w) A (Builtin.«object.__setattr__» ⟨[.ref x,.str name tk,v],[]⟩) Q E ⟨h,g,d,t,os⟩:=by
 have tq:=Vy (self:=.ref x) T;unfold Builtin.«object.__setattr__»;repeat(first|rw[refuse_eq]|(rw[refuseLoop_ref,tq])|(with_reducible refine wpAny_loadPart_at hx ?_;rw[hc])|with_reducible refine wpAny_mroOf_exc hC ?_|with_reducible refine Le Ln ?_|wp_step)
 rw[Dg,if_neg (by simp[typeHasDict])];split
 .rename_i dR;cases dR
 split
 .rename_i c dR;exact absurd dR (Df c)
 have sP:(h.push {cls:=.type "dict",data:=.dict #[]}).get? x=some o:=Heap.get?_push_of_some _ hx;have sT:x≠h.objs.size:=ne_of_lt (Heap.lt_size hx);refine wpAny_bind (wpAny_alloc' (wpAny_bind (wpAny_update' sP (wpAny_pure ?_))));have VA:((h.push {cls:=.type "dict",data:=.dict #[]}).update x λo=>{cls:=o.cls,dict:=some h.objs.size,data:=o.data,slots:=o.slots}).get? h.objs.size=some {cls:=.type "dict",data:=.dict #[]}:=(Heap.get?_update_ne _ _ _ _ sT.symm).trans (Heap.get?_push_at rfl rfl);show wpAny _ _ (storeInDict h.objs.size (.str name tk) name v) _ _ _;unfold storeInDict newKeyGuard;refine wpAny_bind (wpAny_pure (wpAny_bind (wpAny_nsSet1 (Heap.Ns1.of_empty ⟨_,#[],_,VA,rfl,λe he=>absurd he (by simp),λ_=>rfl⟩) λh' iq hs=>?_)));obtain⟨oD,QK,QL,BS,BU,iw⟩:=iq.count (Within.cons name v Within.nil);refine wpAny_bind (wpAny_lookBehind BS (by rw[BU];exact pastItsLine_dict (le_trans iw (by rw[length_cons,length_nil,sizeLine_eq];lia))) ?_);wp_walk;refine hq h' _ h.objs.size (Heap.get?_none_of_le (le_refl _)) sT.symm ?_ iq λb ob VB hb=>(hs.2 b (ne_of_lt (Heap.lt_size hb))).trans ((Heap.get?_update_ne _ _ _ _ VB).trans (Heap.get?_push_of_some _ hb));refine(hs.2 x sT).trans (Heap.get?_update_self _ sP ?_);have mx:=(Heap.get?_some_iff.mp hx).2;obtain⟨oc,od,VC,jB⟩:=o;cases VC<;>first|rfl|exact mx
theorem VD {M:Model}{eC:Value}{Q:Unit->Shared->Prop}(T:OwnTail h xZ bm)(hC:h.get? C=some (excClassObj nm q C N bs bm hdct sn sub ab col dd k0 k1 k2 k3 k5 newId))(hx:h.get? x=some o)(hc:o.cls= .ref C)(hq:Q () ⟨h,g,d,t,os⟩):wpAny M A (checkBuiltinCall "object.__setattr__" ⟨[.ref x,eC,v],[]⟩) Q E ⟨h,g,d,t,os⟩:=by
 have De:(Value.ref C::bm).contains (.type "object")=true:=by rw[List.contains_cons,T.hasType F.store_ValueError.hasOwner,Bool.or_true]
 have ha:=F.store_ValueError.args (.ref x) eC v;simp only[checkBuiltinCall,F.store_ValueError.kind,F.store_ValueError.split];refine wpAny_bind ?_;unfold isInstance;repeat(first|(with_reducible refine wpAny_loadPart_at hx ?_;rw[hc])|(with_reducible refine wpAny_isSubtype_exc hC ?_;rw[De])|wp_step)
 exact hq
theorem VE {Q:Unit->Shared->Prop}(T:OwnTail h xZ bm)(hC:h.get? C=some (excClassObj nm q C N bs bm true sn sub ab col dd k0 k1 k2 k3 k5 newId))(Ls:PySem.W.Looks (model prog w) h (typeLookup (.ref C) "__setattr__") (some (.builtin "object.__setattr__")))(Ln:PySem.W.Looks (model prog w) h (typeLookup (.ref C) name) none)(hx:h.get? x=some o)(hc:o.cls= .ref C)(Df:∀c,o.data≠.cls c)(Dg:o.dict=none)(hq:∀h' kR dx,h.get? dx=none->dx≠x->h'.get? x=some {o with dict:=some dx}->h'.Ns1 dx (λy=>if y=name then some v else none)->(∀b ob,b≠x->h.get? b=some ob->h'.get? b=some ob)->Q () ⟨h',g,d,kR,os⟩):
  wpAny (model prog w) A (setAttr (.ref x) name v) Q E ⟨h,g,d,t,os⟩:=by
 have f3:=F.store_ValueError.slot.bind (.ref x);unfold setAttr callSpecial? specialOf;repeat(any_goals (first|assumption|(with_reducible refine wpAny_loadPart_at hx ?_;rw[hc])|with_reducible refine Le Ls ?_|wp_step))
 refine codeAny_call_builtin F.store_ValueError.slot.plain F.store_ValueError.entry (VD T hC hx hc (Vz T hC Ln hx hc Df Dg λh' kR dx a1 a2 a3 a4 a5=>?_));repeat(any_goals (first|assumption|wp_step))
 exact hq h' kR dx a1 a2 a3 a4 a5
end
end PySem
namespace L2
open PySem PySem.Spec PyProof.Rows
noncomputable def yA (K:PySem.W.Frag)(C f:Addr):Bool:=(match K.lookup f with
 |some o=>o.cls== .type "function"
 |none=>false)&&match K.lookup C with
 |some ⟨.type "type",_,.cls cd,sl⟩=>(match cd.mro,sl.toList with
  | .ref C'::bm,[_,_,_,_,some (.builtin n),_]=>C'==C&&n=="ValueError.__new__"&&!cd.hasDel&&cd.hasDict&&PySem.W.tailIn K sF bm
  |_,_=>false)
 |_=>false
theorem Dh {K:PySem.W.Frag}{h:Heap}{C f:Addr}(X:K.In h)(q:yA K C f=true):(∃oI,h.get? f=some oI/\oI.cls= .type "function")/\∃bm N nm qn bs sn sub ab col dd k0 k1 k2 k3 k5,h.get? C=some (excClassObj nm qn C N bs bm true sn sub ab col dd k0 k1 k2 k3 k5 "ValueError.__new__")/\OwnTail h sF bm:=by
 unfold yA at q;rw[Bool.and_eq_true]at q;obtain⟨q0,q⟩:=q;refine⟨?_,?_⟩
 .split at q0
  .rename_i o ho;exact⟨o,X _ _ ho,beq_iff_eq.mp q0⟩
  .cases q0
 split at q
 .rename_i dd cd sl ho;split at q
  .rename_i C' bm k0 k1 k2 k3 n k5 hm hs;simp only[Bool.and_eq_true,beq_iff_eq,Bool.not_eq_true']at q;obtain⟨⟨⟨⟨rfl,rfl⟩,iG⟩,Lf⟩,ht⟩:=q;obtain⟨nm,bs,mro,ns,qn,hd,sn,sub,ab,col,del⟩:=cd;dsimp only at hm iG Lf;subst hm iG Lf;have CI:sl=#[k0,k1,k2,k3,some (.builtin "ValueError.__new__"),k5]:=by
    obtain⟨l⟩:=sl;simp only at hs;rw[hs]
   subst CI;exact⟨bm,ns,nm,qn,bs,sn,sub,ab,col,dd,k0,k1,k2,k3,k5,X _ _ ho,PySem.W.tail_of_in X ht⟩
  .cases q
 .cases q
structure yB (K:PySem.W.Frag)(C f:Addr)(x:Str):Prop where
 cls:yA K C f=true
 VF:PySem.W.findIn K (.ref C) "__init__"=some (some (.ref f))
 sa:PySem.W.findIn K (.ref C) "__setattr__"=some (some (.builtin "object.__setattr__"))
 ga:PySem.W.findIn K (.ref C) "__getattribute__"=some (some (.builtin "BaseException.__getattribute__"))
 gn:PySem.W.findIn K (.ref C) "__getattr__"=some none
 no:PySem.W.findIn K (.ref C) x=some none
noncomputable def tw (ea C:Addr):HO:=.ext λh=>∃t sl,h.get? ea=some ⟨.ref C,none,.fields #[.ref t,.none,.none,.none,.bool false,.none],sl⟩
noncomputable def oq (ea C d:Addr):HO:=.ext λh=>∃t sl,h.get? ea=some ⟨.ref C,some d,.fields #[.ref t,.none,.none,.none,.bool false,.none],sl⟩
section
variable {X:Cx}{pins:List (Addr×Obj)}{U:St}{H:Hp}{s:Shared}
theorem Inv.tD (I:Inv X pins U H s)(hex:X.ex=[]){b:Addr}(e:s.heap.get? b=none):X.ar.heap.get? b=none:=by
 cases q:X.ar.heap.get? b with
 |none=>rfl
 |some o=>have base:=I.base;rw[hex]at base;obtain⟨o1,e1⟩:=base.there b o q (by simp);rw[e]at e1;cases e1
noncomputable def VG (C:Addr)(ta tv:TE)(f:Str):TS:=λD U H=>tv U H λy H1=>ta U H1 λx H2=>∃a,x= .ref a/\H2 a=some (tw a C)/\∀d,H2 d=none->D.nx U (upd (upd H2 a (oq a C d)) d (.xd [(f,y)]))
theorem VH {C fi:Addr}{o value:Expr}{f:Str}{pos pos':Pos}{ta tv:TE}(hI:yB X.K C fi f)(hex:X.ex=[])(ha:PE X o ta)(hv:PE X value tv)(hs:swapsWith value (some (.Attribute o f pos')) pos.line X.env=pure false):PS X (.Assign [.Attribute o f pos'] value pos) (VG C ta tv f):=by
 intro pins s U H D I h;refine plainObj_wpAny_Assign_Attribute (ah (hv pins s U H _ I h) λu s1 ⟨y,H1,I1,ry,q⟩=>ah (ha pins s1 U H1 _ I1 q) λov s2 zQ=>?_) hs;obtain⟨x,H2,I2,rx,a,ex,ea,q2⟩:=zQ;subst ex;obtain rfl:ov=Value.ref a:=rx;obtain⟨⟨t,sl,hx⟩,_,_⟩:=I2.af a _ ea;obtain⟨_,bm,N,nm,qn,bs,sn,sub,ab,col,dd,k0,k1,k2,k3,k5,hC,T⟩:=Dh I2.aO hI.cls;obtain⟨hp,g,dr,tk,os⟩:=s2;refine VE T hC (PySem.W.looks_findIn I2.aO hI.sa) (PySem.W.looks_findIn I2.aO hI.no) hx rfl (λc z=>by cases z) rfl λh' kR d n1 n2 e1 e2 kp=>?_;have pR:H2 d=none:=by
  cases z:H2 d with
  |none=>rfl
  |some u=>obtain⟨o',e'⟩:=(I2.af d u z).there;rw[show hp.get? d=none from n1]at e';cases e'
 have I3:Inv X pins U (upd H2 a (oq a C d)) ⟨h',g,dr,kR,os⟩:=by refine I2.write (x:=a) (e:=a) (h':=h') (t':=kR) (by rw[ea];exact True.intro) (.inl rfl) (λb u hb e=>kp b u hb e) ⟨_,e1⟩ ⟨⟨t,sl,e1⟩,⟨_,e1⟩,λh1 h2 p k=>?_⟩;obtain⟨t',nB,e'⟩:=p;exact⟨t',nB,k _ e'⟩
 have yC:hp.get? d=none:=n1;have gK:∀b o,hp.get? b=some o->b≠d:=λb o e z=>by rw[z,yC]at e;cases e
 have I4:Inv X pins U (upd (upd H2 a (oq a C d)) d (.xd [(f,y)])) ⟨h',g,dr,kR,os⟩:=by
  refine I3.CM hex (by rw[jd n2];exact pR) (I2.tD hex yC) ?_ (λz c e=>?_) (λp kO=>?_) ⟨_,e2,λz=>?_⟩
  .obtain⟨m,⟨o',_,_,bc,_⟩,_⟩:=I2.loc;exact(gK _ _ bc).symm
  .obtain⟨v',o',bc,_⟩:=I2.cell z c e;exact gK _ _ bc
  .exact gK _ _ (I2.pin p kO).1
  .rw[lookup_cons];by_cases hz:z=f
   .subst hz;simp only[beq_self_eq_true,if_true];exact ry
   .have:(z==f)=false:=by simpa using hz
    rw[this,if_neg hz];exact True.intro
 exact⟨U,_,I4,q2 d pR⟩
theorem Inv.drop {a:Addr}{φ:Heap->Prop}(I:Inv X pins U H s)(ha:H a=some (.ext φ)):Inv X pins U (λb=>if b=a then none else H b) s:=by
 have ne:∀{b:Addr}{u:HO},H b=some u->(∀ψ,u≠.ext ψ)->b≠a:=λ{b u} e h z=>by subst z;rw[ha]at e;exact h _ (Option.some.inj e).symm
 have at_:∀{b:Addr},b≠a->(λb=>if b=a then none else H b) b=H b:=λh=>if_neg h;have nn:∀{b:Addr},H b=none->(λb=>if b=a then none else H b) b=none:=λ{b} h=>by
  by_cases z:b=a
  .exact if_pos z
  .exact(if_neg z).trans h
 refine⟨I.ok,I.os,I.bare,⟨I.base.keep,I.base.slot,λb ob e n hx=>nn (I.base.free b ob e n hx),I.base.there,λb xs q=>?_,λb ob v q=>?_,λb ps q=>?_⟩,I.loc,I.cell,nn I.free,λx c e=>nn (I.dm x c e),λp hp=>?_,λb v e=>?_,I.len⟩
 .have q':=I.base.dE b xs q;exact(at_ (ne q' λ_ z=>nomatch z)).trans q'
 .have q':=I.base.dh b ob v q;exact(at_ (ne q' λ_ z=>nomatch z)).trans q'
 .obtain⟨more,z⟩:=I.base.dP b ps q;exact⟨more,(at_ (ne z λ_ z=>nomatch z)).trans z⟩
 .obtain⟨q1,q2,q3⟩:=I.pin p hp;exact⟨q1,nn q2,q3⟩
 .by_cases z:b=a
  .have e':(if b=a then none else H b)=some v:=e;rw[if_pos z]at e';cases e'
  .have e':H b=some v:=(at_ z).symm.trans e;exact(I.af b v e').cC (λ_ _ _ q=>q) (λc q=>(at_ (ne q λ_ z=>nomatch z)).trans q) λc xs q=>(at_ (ne q λ_ z=>nomatch z)).trans q
end
noncomputable def cT (P:Program)(w:World):eP:=λl H s E e s'=>∃ea cls dd H',e= .ref ea/\pS P w l H H' s s' ea cls/\(∃oe,s'.heap.get? ea=some oe/\oe.dict=dd)/\E cls dd H'
section
variable {P:Program}{w:World}{K:PySem.W.Frag}{mg:Str->Option Value}{base:Heap}{N:List Str}{qual:Str}{scope:Scope}{f:Addr}{cd:Value}{A:Around}{outer:List Env}{s:Shared}{H:Hp}{E:XK}
theorem VI:Passes (cT P w) (cR (cT P w) P w K mg base N qual scope f cd A outer s H E) E:=by
 intro pins U H1 s1 e s' I h;obtain⟨ea,cls,dd,H',rfl,F,⟨oe,he,bN⟩,q⟩:=h;obtain⟨Bq,t,hf,k1,k2⟩:=F.Kw;show wpAny (model P w) (A.deeper (envOfC qual scope s.heap.objs.size f cd)) (leaving (envOfC qual scope s.heap.objs.size f cd) (.ref ea)) _ _ s';refine wpAny_mono (tj Ld (wpAny_leaves_onW (E:=λ_ _=>False) (Q:=λ_ bP=>∃h',bP={s' with heap:=h'}/\Heap.FlyingW Bq outer ea cls (.ref t) h'/\s'.heap.UpToSlots h') I.ok.frames (L:=s.heap.objs.size) rfl hf λh' oj hu=>⟨h',rfl,oj,hu⟩)) (λ_ bP zQ=>?_) (λ_ _ c=>c.1.elim);obtain⟨⟨h',e1,oj,hu⟩,kd⟩:=zQ;subst e1;obtain⟨o2,e2,d2⟩:=kd ea oe he;exact⟨ea,cls,dd,H',rfl,SR I rfl F oj hu k1 k2,⟨o2,e2,d2.trans bN⟩,q⟩
theorem Lg {pins:List (Addr×Obj)}{U:St}{H1:Hp}{s1:Shared}{ea t:Addr}{oe:Obj}(I:Inv (cR (cT P w) P w K mg base N qual scope f cd A outer s H E) pins U H1 s1)(he:s1.heap.get? ea=some oe)(hd:oe.data= .fields #[.ref t,.none,.none,.none,.bool false,.none])(new:s.heap.get? ea=none)(hn:H1 ea=none)(q:E oe.cls oe.dict H1):(cR (cT P w) P w K mg base N qual scope f cd A outer s H E).xe (.ref ea) s1:=by
 have cw:∀b:Addr,b∉([]:List Addr):=λb=>by simp
 have ib:Un (bj outer) [] H H1 s.heap s1.heap:=I.base;obtain⟨cQ,kS⟩:∃cQ,cQ=envOfC qual scope s.heap.objs.size f cd::outer:=⟨_,rfl⟩;have Lh:∀env∈cQ,∀b,env.frame=some b->b∈ea::bj cQ:=λenv he b hb=>mem_cons_of_mem _ (mem_filterMap.mpr ⟨env,he,hb⟩);have iL:∀b o,s1.heap.get? b=some o->b≠ea->b∉bj cQ->(PySem.W.hideAll s1.heap (ea::bj cQ)).get? b=some o:=λb o e h1 h2=>PySem.W.hideAll_get _ e λz=>(mem_cons.mp z).elim h1 h2;have jG:∀b o,s.heap.get? b=some o->b∉bj outer->b∉bj cQ:=λb o e hb=>by rw[kS];exact I.jG e hb
 have yD:∀b o,s.heap.get? b=some o->b≠ea:=λb o e z=>by rw[z,new]at e;cases e
 have mn:∀b u,H1 b=some u->b≠ea:=λb u e z=>by rw[z,hn]at e;cases e
 have jV:∀b u,H1 b=some u->b∉bj cQ:=λb u e z=>by rw[kS]at z;have:=I.vY b z;rw[e]at this;cases this
 have IS:s1.heap.FunFrames (PySem.W.hideAll s1.heap (ea::bj cQ)) (envOfC qual scope s.heap.objs.size f cd::outer):=by rw[kS];exact PySem.W.funFrames_hide I.stack (by rw[kS]at Lh;exact Lh)
 show wpAny (model P w) (A.deeper (envOfC qual scope s.heap.objs.size f cd)) (leaving (envOfC qual scope s.heap.objs.size f cd) (.ref ea)) _ _ s1;refine wpAny_mono (tj Ld (wpAny_leaving_firstW (E:=λ_ _=>False) (base:=PySem.W.hideAll s1.heap (ea::bj cQ)) (a0:=.ref t) (Q:=λ_ bP=>∃h',bP={s1 with heap:=h'}/\Heap.LeftW (PySem.W.hideAll s1.heap (ea::bj cQ)) (envOfC qual scope s.heap.objs.size f cd::outer) ea oe.cls (.ref t) s1.heap h') I.ok.frames IS rfl he (λb o q=>PySem.W.of_hideAll _ q) (PySem.W.hideAll_none _ (by simp)) hd rfl rfl λh' hL=>⟨h',rfl,hL⟩)) (λ_ bP ⟨⟨h',e1,hL⟩,kd⟩=>?_) (λ_ _ c=>c.1.elim);subst e1;obtain⟨o2,e2,d2⟩:=kd ea oe he;obtain⟨x1,⟨_,_,x2⟩,x3,x4⟩:=hL;have cC:∀b o,s1.heap.get? b=some o->b≠ea->b∉bj cQ->h'.get? b=some o:=λb o e h1 h2=>x1 _ _ (iL b o e h1 h2);have slots:∀b o,s.heap.get? b=some o->H b=none->b∈bj outer->∃sl,h'.get? b=some {o with slots:=sl}:=λb o e n hb=>by
  obtain⟨sl,e1⟩:=ib.slot b o e n hb (cw b);obtain⟨_,o3,e3,nf⟩:=I.ok.eL.mem hb;have Li:s.heap.get? b=some o3:=e3;rw[e]at Li;cases Li;obtain⟨sA,e4⟩:=x4 b _ e1 nf;exact⟨sA,e4⟩
 refine⟨ea,oe.cls,oe.dict,H1,rfl,⟨I.os,I.bare,⟨λb o e n hb _=>?_,λb o e n hb _=>slots b o e n hb,λb o e n _=>ib.free b o e n (cw b),λb o e _=>?_,ib.dE,ib.dh,ib.dP⟩,λb u e=>?_,⟨PySem.W.hideAll s1.heap (ea::bj cQ),t,⟨x1,PySem.W.hideAll_none _ (by simp),x2,x3⟩,λb o o' e e' hb=>?_,λb u o' q e'=>?_⟩,new⟩,⟨o2,e2,d2⟩,q⟩
 .exact cC b o (ib.keep b o e n hb (cw b)) (yD b o e) (jG b o e hb)
 .by_cases hb:b∈bj outer
  .obtain⟨sl,q⟩:=slots b o e (I.ok.il b hb) hb;exact⟨_,q⟩
  .obtain⟨o1,e1⟩:=ib.there b o e (cw b);exact⟨o1,cC b o1 e1 (yD b o e) (jG b o e hb)⟩
 .refine(I.af b u e).cC (λc v hc q=>?_) (λ_ q=>q) λ_ _ q=>q;rcases hc with z|z
  .subst z;exact cC _ _ q (mn _ _ e) (jV _ _ e)
  .exact cC _ _ q (mn _ _ z) (jV _ _ z)
 .obtain⟨o1,e1⟩:=ib.there b o e (cw b);have z:=cC b o1 e1 (yD b o e) (jG b o e hb);have e2:h'.get? b=some o':=e';rw[z]at e2;cases e2;exact iL b _ e1 (yD b o e) (jG b o e hb)
 .obtain⟨o1,e1⟩:=(I.af b u q).there;have z:=cC b o1 e1 (mn _ _ q) (jV _ _ q);have e2:h'.get? b=some o':=e';rw[z]at e2;cases e2;exact iL b _ e1 (mn _ _ q) (jV _ _ q)
end
section
variable {P:Program}{w:World}{K:PySem.W.Frag}{mg:Str->Option Value}{base:Heap}
theorem av.Lj {x qual:Str}{st:Stmt}{f:Addr}{fd:FuncData}{N ps:List Str}{k:Nat}{sp:Sp}(F:av K x qual st f fd)(S:qi N ps (ju st))(len:∀vs H Q E,sp vs H Q E->vs.length=ps.length)(aW:∀(aB:Value)(A:Around)(outer:List Env)(s:Shared)(H:Hp)(vs:List V)(Q:VK)(E:XK),aT k (A.deeper (envOfC qual (ju st) s.heap.objs.size f aB))->sp vs H Q E->∃t,cL (cR (cT P w) P w K mg base N qual (ju st) f aB A outer s H E) (gX st) t/\t {nx:=λ_ H'=>Q .aj H',rt:=Q} (start N vs) H):xm P w K mg base (cT P w) (k+1) f fd ps sp:=by
 obtain⟨oc,od,kV,doc,pm,an,aB,ct,jB,rfl,lk,dR⟩:=F.ex;exact JJ lk dR S len λA outer s H vs Q E hr gW=>aW aB A outer s H vs Q E hr gW
theorem av.VJ {x qual:Str}{st:Stmt}{f:Addr}{fd:FuncData}{N ps:List Str}{k:Nat}{sp:Sp}(F:av K x qual st f fd)(S:qi N ps (ju st))(aW:∀(aB:Value)(A:Around)(outer:List Env)(s:Shared)(H:Hp)(vs:List V)(Q:VK)(E:XK),aT k (A.deeper (envOfC qual (ju st) s.heap.objs.size f aB))->sp vs H Q E->∃t,cL (cR (cT P w) P w K mg base N qual (ju st) f aB A outer s H E) (gX st) t/\t {nx:=λ_ H'=>Q .aj H',rt:=Q} (start N vs) H)(len:autoParam (∀vs H Q E,sp vs H Q E->vs.length=ps.length) aP6):xm P w K mg base (cT P w) (k+1) f fd ps sp:=F.Lj S len aW
theorem av.VL {x qual:Str}{st:Stmt}{f:Addr}{fd:FuncData}{N ps:List Str}{k:Nat}{sp:Sp}(F:av K x qual st f fd)(aW:∀(aB:Value)(A:Around)(outer:List Env)(s:Shared)(H:Hp)(vs:List V)(Q:VK)(E:XK),aT k (A.deeper (envOfC qual (ju st) s.heap.objs.size f aB))->sp vs H Q E->∃t,cL (cR (cT P w) P w K mg base N qual (ju st) f aB A outer s H E) (gX st) t/\t {nx:=λ_ H'=>Q .aj H',rt:=Q} (start N vs) H)(S:autoParam (qi N ps (ju st)) aP8)(len:autoParam (∀vs H Q E,sp vs H Q E->vs.length=ps.length) aP6):xm P w K mg base (cT P w) (k+1) f fd ps sp:=F.Lj S len aW
theorem Inv.Lk {X:Cx}{pins:List (Addr×Obj)}{U:St}{H:Hp}{s:Shared}(I:Inv X pins U H s){a:Addr}(e:s.heap.get? a=none):H a=none:=by
 cases z:H a with
 |none=>rfl
 |some u=>obtain⟨o,q⟩:=(I.af a u z).there;rw[e]at q;cases q
theorem Ll {N:List Str}{qual:Str}{scope:Scope}{f:Addr}{cd:Value}{A:Around}{outer:List Env}{s:Shared}{H:Hp}{E:XK}{x:Str}{C:Addr}{e:Expr}{es:List Expr}{t:TA}{np au pos:Pos}(hg:Gl (cR (cT P w) P w K mg base N qual scope f cd A outer s H E) x)(hm:mg x=some (.ref C))(hC:xK K C)(ha:PA (cR (cT P w) P w K mg base N qual scope f cd A outer s H E) (e::es) t)(cD:autoParam ((x==("__debug__":Str))=false) aP2)(he:autoParam (starEach (e::es) (envOfC qual scope s.heap.objs.size f cd)=(false,eval e (envOfC qual scope s.heap.objs.size f cd))::starEach es (envOfC qual scope s.heap.objs.size f cd)) aP1)(cg:autoParam ((backTo au (starEach es (envOfC qual scope s.heap.objs.size f cd))).any (·.1)=false) aP1):
  PS (cR (cT P w) P w K mg base N qual scope f cd A outer s H E) (.Raise (some (.Call (.Name x np) (e::es) [] au)) none pos) (Kx (E (.ref C) none) t):=
 SW rfl hg hm hC ha (λ{pins U H1 s1 ea vs h1} I hx q=>by obtain⟨t,h2,_,_⟩:=hx.there;exact Lg (I.kept (t':=s1.toks) hx.keeps) h2 rfl (I.tD rfl hx.new) (I.Lk hx.new) q) cD he cg
end
noncomputable def Lm (C:Addr)(sp:Sp)(W:Option Addr->Hp->Prop)(t:TA):TS:=λ_ U H=>t U H λvs H1=>vs.length<=sizeLine/\∀ea,H1 ea=none->sp (.ref ea::vs) (upd H1 ea (tw ea C)) (λv H2=>v= .aj/\∃d,H2 ea=some (oq ea C d)/\W (some d) (λb=>if b=ea then none else H2 b)) E0
section
variable {X:Cx}
theorem VM {k:Nat}{fI C:Addr}{fd:FuncData}{ps:List Str}{sp:Sp}{fld x:Str}{e:Expr}{es:List Expr}{t:TA}{np au pos:Pos}{W:Option Addr->Hp->Prop}(hc:X.calm=true)(hex:X.ex=[])(hg:Gl X x)(hm:X.mg x=some (.ref C))(hI:yB X.K C fI fld)(Fn:xm X.prog X.w X.K X.mg X.base CX0 k fI fd ps sp)(hr:aT (k+1) X.A)(hb:Binds X.K fd ps [])(ha:PA X (e::es) t)(CJ:∀{pins:List (Addr×Obj)}{U:St}{H:Hp}{s:Shared}{ea t:Addr}{oe:Obj},Inv X pins U H s->s.heap.get? ea=some oe->oe.data= .fields #[.ref t,.none,.none,.none,.bool false,.none]->X.ar.heap.get? ea=none->H ea=none->oe.cls= .ref C->W oe.dict H->X.xe (.ref ea) s)(cD:autoParam ((x==("__debug__":Str))=false) aP2)(he:autoParam (starEach (e::es) X.env=(false,eval e X.env)::starEach es X.env) aP1)(cg:autoParam ((backTo au (starEach es X.env)).any (·.1)=false) aP1):
  PS X (.Raise (some (.Call (.Name x np) (e::es) [] au)) none pos) (Lm C sp W t):=by
 intro pins s U H D I h;have FB:=F.excBase_ValueError;obtain⟨_,bm,N,nm,qn,bs,sn,sub,ab,col,dd,k0,k1,k2,k3,k5,Lo,T0⟩:=Dh I.mod.dQ hI.cls;have Di:((backTo au (starEach (e::es) X.env)).any λx=>x.fst)=false:=by rw[he];show(false||(backTo au (starEach es X.env)).any (·.1))=false;rw[cg];rfl
 rw[arm_exec_Raise];refine wpAny_bind (wpAny_standAt ?_);refine Vx (C:=C) (nm:=nm) (q:=qn) (N:=N) (bs:=bs) (bm:=bm) (hdct:=true) (sn:=sn) (sub:=sub) (ab:=ab) (col:=col) (dd:=dd) (k0:=k0) (k1:=k1) (k2:=k2) (k3:=k3) (k5:=k5) (newId:="ValueError.__new__") (T0.hasType FB.hasBase) (I.ok.hd hc) (wpAny_bind (wpAny_mono (wpAny_Call_ofName (lR I hg hm ?_ cD)) (λv s3 h3=>wpAny_bind (wpAny_standAt (wpAny_pure h3))) λ_ _ x=>x));have h1:wpAny (model X.prog X.w) X.A (evalArgs (.ref C) true (backTo au (starEach (e::es) X.env)) []) (λa s2=>∃us vs H2,a=⟨us,[]⟩/\Inv X pins U H2 s2/\Vals vs us/\vs.length<=sizeLine/\∀ea,H2 ea=none->sp (.ref ea::vs) (upd H2 ea (tw ea C)) (λv H3=>v= .aj/\∃d,H3 ea=some (oq ea C d)/\W (some d) (λb=>if b=ea then none else H3 b)) E0) X.xe s:=by
  have hA:=ha au pins s U H _ I h;rw[he]at hA⊢;exact Calls.evalArgs_plain (ah hA λus s2 ⟨vs,H2,I2,r2,hz,q2⟩=>⟨us,vs,H2,rfl,I2,r2,hz,q2⟩)
 delta callWith;refine wpAny_bind (wpAny_holding (wpAny_mono h1 (λa s2 h2=>wpAny_bind (wpAny_standAt ?_)) λ_ _ x=>x));obtain⟨us,vs,H2,rfl,I2,r2,hz,q2⟩:=h2;have hC:=I2.bk _ _ Lo;have T:=T0.keeps I2.bk;obtain⟨⟨oI,VN,wA⟩,_⟩:=Dh I2.aO hI.cls;obtain⟨hp,g,dr,tk,os⟩:=s2;simp only[Di];refine wpAny_bind (wpAny_keeperOf_exc hC ?_);refine wpAny_bind (Vw FB T hC (PySem.W.looks_findIn I2.aO hI.VF) VN wA (by show us.length<=sizeLine;rw[<-r2.length];exact hz) λh' ea Dj=>?_);have yE:hp.get? ea=none:=Dj.new;have gK:∀b o,hp.get? b=some o->b≠ea:=λb o e z=>by rw[z,yE]at e;cases e
 obtain⟨t0,het,_,_⟩:=Dj.there;have I3:Inv X pins U H2 ⟨h',g,dr,tk,os⟩:=I2.kept (t':=tk) Dj.keeps;have pN:H2 ea=none:=I2.Lk yE;have I4:Inv X pins U (upd H2 ea (tw ea C)) ⟨h',g,dr,tk,os⟩:=by
  refine I3.CM hex pN (I2.tD hex yE) ?_ (λz c e=>?_) (λp kO=>?_) ⟨⟨t0,_,het⟩,⟨_,het⟩,λh1 h2 p k=>?_⟩
  .obtain⟨m,⟨o',_,_,bc,_⟩,_⟩:=I2.loc;exact(gK _ _ bc).symm
  .obtain⟨v',o',bc,_⟩:=I2.cell z c e;exact gK _ _ bc
  .exact gK _ _ (I2.pin p kO).1
  .obtain⟨t',nB,e'⟩:=p;exact⟨t',nB,k _ e'⟩
 have hq:=q2 ea pN;have r3:Vals (V.ref ea::vs) (Value.ref ea::us):=.cons rfl r2;have hl:(Value.ref ea::us++[]).length=ps.length:=by have e:=r3.length;rw[Fn.len _ _ _ _ hq]at e;rw[append_nil];exact e.symm
 have Lp:=hb ⟨h',g,dr,tk,os⟩ (Value.ref ea::us) I4.aO hl;rw[append_nil]at Lp;refine wpAny_call (codeAny_mono (Fn.run _ X.stack _ _ ⟨Value.ref ea::us,[]⟩ (Value.ref ea::us) _ _ E0 (hr.make C us []) (I4.pH.make C us []) Lp r3 hq) λr s' dv=>?_);cases r with
 |error e'=>exact False.elim dv
 |ok fl=>
  cases fl with
  |ret u=>obtain⟨v,H5,I5,rv,⟨ev,d,Lq,w5⟩⟩:=I4.after dv;subst ev;refine⟨rv,wpAny_bind (wpAny_holding (wpAny_point (wpAny_pure ?_)))⟩;obtain⟨⟨t5,sl5,tE⟩,_,_⟩:=I5.af ea _ Lq;exact⟨ea,_,t5,rfl,I5.bk _ _ Lo,tE,rfl,rfl,CJ (I5.drop Lq) tE rfl (I2.tD hex yE) (if_pos rfl) rfl w5⟩
  |next=>exact False.elim dv
  |brk=>exact False.elim dv
  |cont=>exact False.elim dv
end
noncomputable def mB (ea:Addr)(cls:Value)(dd:Option Addr):HO:=.ext λh=>∃o vs,h.get? ea=some o/\o.cls=cls/\o.data= .fields vs/\o.dict=dd
noncomputable def iM (X:Cx)(pn:List (Addr×Obj))(W:St->Value->Option Addr->Hp->Prop):Cx:={X with pn:=pn,xe:=λe s'=>∃(pins:List (Addr×Obj))(U:St)(H:Hp)(s0:Shared)(ea:Addr)(cls:Value)(dd:Option Addr)(H':Hp),e= .ref ea/\Inv {X with pn:=pn} pins U H s0/\pS X.prog X.w X.stack H H' s0 s' ea cls/\(∃oe,s'.heap.get? ea=some oe/\oe.dict=dd)/\W U cls dd H'}
section
variable {X:Cx}{pins pn:List (Addr×Obj)}{U:St}{H H':Hp}{s s':Shared}
theorem Inv.VO {W:St->Value->Option Addr->Hp->Prop}(I:Inv X pins U H s)(h:∀p∈pn,p∈X.pn++pins):Inv (iM X pn W) pins U H s:=I.jH (Yq:=iM X pn W) (I.ok.jH (Yq:=iM X pn W) ⟨rfl,rfl,rfl⟩ rfl rfl rfl rfl rfl rfl rfl I.ok.hd I.ok.frames) rfl rfl rfl rfl rfl rfl rfl rfl λp hp=>(mem_append.mp hp).elim (h p) λz=>mem_append_right _ z
theorem Inv.Lr {W:St->Value->Option Addr->Hp->Prop}(I:Inv (iM X pn W) pins U H s):Inv {X with pn:=pn} pins U H s:=I.jH (Yq:={X with pn:=pn}) (I.ok.jH (Yq:={X with pn:=pn}) ⟨rfl,rfl,rfl⟩ rfl rfl rfl rfl rfl rfl rfl I.ok.hd I.ok.frames) rfl rfl rfl rfl rfl rfl rfl rfl λ_ hp=>hp
theorem VP {W:St->Value->Option Addr->Hp->Prop}(I:Inv (iM X pn W) pins U H s)(e:Value)(s':Shared)(h:cT X.prog X.w X.stack H s (λcls dd H'=>W U cls dd H') e s'):(iM X pn W).xe e s':=by obtain⟨ea,cls,dd,H',rfl,F,hd,q⟩:=h;exact⟨pins,U,H,s,ea,cls,dd,H',rfl,I.Lr,F,hd,q⟩
theorem Inv.less {a:Addr}{φ ψ:Heap->Prop}(I:Inv X pins U H s)(ha:H a=some (.ext φ))(h:∀h,φ h->ψ h)(st:∀h1 h2:Heap,ψ h1->(∀o,h1.get? a=some o->h2.get? a=some o)->ψ h2):Inv X pins U (upd H a (.ext ψ)) s:=by obtain⟨p,⟨o,e⟩,_⟩:=I.af a _ ha;exact I.write (t':=s.toks) (x:=a) (e:=a) (h':=s.heap) (by rw[ha];exact True.intro) (.inl rfl) (λb u _ q=>q) ⟨o,e⟩ ⟨h _ p,⟨o,e⟩,st⟩
noncomputable def Lu (D:Ends)(i:Nat)(ea:Addr)(cls:Value)(dd:Option Addr):Ends:=
  { nx:=λU2 H2=>H2 ea=some (mB ea cls dd)/\D.nx (U2.set i none) (upd H2 ea (mv ea cls))
    rt:=λv H2=>H2 ea=some (mB ea cls dd)/\D.rt v (upd H2 ea (mv ea cls))
    bk:=λU2 H2=>H2 ea=some (mB ea cls dd)/\D.bk (U2.set i none) (upd H2 ea (mv ea cls))
    ct:=λU2 H2=>H2 ea=some (mB ea cls dd)/\D.ct (U2.set i none) (upd H2 ea (mv ea cls))}
theorem VQ {s0 s1:Shared}{H1:Hp}{D:Ends}{x n:Str}{i:Nat}{np tF:Pos}{tG:Stmt}{mC:List Stmt}{rest:List ExceptHandler}{Pc C ea t:Addr}{dd:Option Addr}{ts:TS}{bb Bq:Heap}{U':St}(iN:X.stack=X.env::X.outer)(hex:X.ex=[])(hg:Gl X x)(hm:X.mg x=some (.ref Pc))(hB:PySem.W.mroIn X.K Pc (.type "BaseException")=some true)(hN:X.N.Nodup)(hi:X.N[i]?=some n)(hn:X.env.scope.names.lookup n=some .local)(hs:∀ea,cL (pT X ea) (tG::mC) ts)(cD:(x==("__debug__":Str))=false)(IX:Inv X pins U' H1 s0)(F:pS X.prog X.w X.stack H1 H' s0 s1 ea (.ref C))(iP:Heap.FlyingW Bq X.stack ea (.ref C) (.ref t) bb)(hu:s1.heap.UpToSlots bb)(k1:∀b o o',s0.heap.get? b=some o->s1.heap.get? b=some o'->b∉bj X.stack->Bq.get? b=some o')(k2:∀b u o',H' b=some u->s1.heap.get? b=some o'->Bq.get? b=some o')(mD:H' ea=none)(bN:∃oe,bb.get? ea=some oe/\oe.dict=dd)(Dk:PySem.W.kitCls X.K (.ref C) (.ref Pc)=some true)(VR:ts (Lu D i ea (.ref C) dd) (U'.set i (some (.ref ea))) (upd H' ea (mB ea (.ref C) dd))):
  wpAny (model X.prog X.w) X.A (handleBy (.ref ea) X.env (.ExceptHandler (some (.Name x np)) (some n) (tG::mC) tF::rest)) (SP X pins D) X.xe {s1 with heap:=bb}:=by
 have cw:∀b:Addr,b∉([]:List Addr):=λb=>by simp
 have I5:Inv X pins U' H' {s1 with heap:=bb}:=KC IX F iP hu k1 k2;obtain⟨oe,ve,Dl,Dm,VS,_⟩:=iP.first;refine wpAny_handleBy_cons (codeAny_handlers_test (Calls.Name_function_global I5.ok.kind hg (Calls.loadGlobal_global (by rw[I5.ok.glob];exact I5.mod.glob.keeps I5.bk) hm ?_) cD)) (by intro q;cases q);refine SV (K:=X.K) (h:=bb) I5.aO Dl Dm Dk hB _ _ _ _ (λ_ _ q=>q) ?_;show codeAny _ _ _ _ _;refine codeAny_handlers_suite_as ?_;refine wpAny_mono (tj C8 (lands_againW (E:=λ_ _=>False) (Q:=λ_ bP=>∃cG,bP={s1 with heap:=cG}/\Heap.FlyingW Bq X.stack ea (.ref C) (.ref t) cG/\bb.UpToSlots cG) iP λcG dz ft=>⟨cG,rfl,dz,ft⟩)) (λ_ bP zQ=>?_) (λ_ _ z=>z.1.elim);obtain⟨⟨cG,e6,dz,ft⟩,kd⟩:=zQ;subst e6;have I6:Inv X pins U' H' {s1 with heap:=cG}:=KC IX F dz (hu.trans ft) k1 k2;obtain⟨Dn,VT,ot,tH,tI,_⟩:=dz.first;have VU:Dn.dict=dd:=by obtain⟨o5,e5,d5⟩:=bN;obtain⟨o6,e6,d6⟩:=kd ea o5 e5;have Lv:cG.get? ea=some o6:=e6;rw[ot]at Lv;cases Lv;exact d6.trans d5
 have Dp:X.ar.heap.get? ea=none:=IX.tD hex F.new;have gK:∀b o,s0.heap.get? b=some o->b≠ea:=λb o e z=>by rw[z,F.new]at e;cases e
 have I7:Inv X pins U' (upd H' ea (mB ea (.ref C) dd)) {s1 with heap:=cG}:=by
  refine I6.CM hex mD Dp ?_ (λy c e=>?_) (λp hp=>?_) ⟨⟨Dn,VT,ot,tH,tI,VU⟩,⟨Dn,ot⟩,λh1 h2 p k=>?_⟩
  .obtain⟨m,⟨o,_,_,ho,_⟩,_⟩:=IX.loc;exact(gK _ _ ho).symm
  .obtain⟨v,o,ho,_⟩:=IX.cell y c e;exact gK _ _ ho
  .exact gK _ _ (IX.pin p hp).1
  .obtain⟨o,vs,e1,e2,e3,e4⟩:=p;exact⟨o,vs,k o e1,e2,e3,e4⟩
 refine wB (v:=.ref ea) I7 hN hi (.inl hn) rfl (λs8 I8=>?_) (.inr hn);refine wpAny_mono (hs ea pins s8 _ _ _ I8.Td VR) (λf s9 q=>?_) (λ_ _ z=>z.elim);have wk:∀{U9:St}{H9:Hp},Inv X pins U9 H9 s9->H9 ea=some (mB ea (.ref C) dd)->Inv X pins U9 (upd H9 ea (mv ea (.ref C))) s9:=λJ e=>J.less e (λh ⟨o,vs,a1,a2,a3,_⟩=>⟨o,vs,a1,a2,a3⟩) λh1 h2 p k=>by obtain⟨o,vs,e1,e2,e3⟩:=p;exact⟨o,vs,k o e1,e2,e3⟩
 have behind:∀{U9:St}{H9:Hp},Inv X pins U9 H9 s9->(∀fq,Inv X pins (U9.set i none) H9 fq->SP X pins D f fq)->wpAny (model X.prog X.w) X.A (do bindName X.env n .none;unbindBehindTheSuite X.env n tF) (λ_ aQ=>SP X pins D f aQ) X.xe s9:=λ{U9 H9} J k=>by
  refine wpAny_bind (wpAny_bindName (wB (v:=.aj) J hN hi (.inl hn) rfl (λfq fS=>?_) (.inr hn)));obtain⟨m,tJ,tK⟩:=id fS.loc;have pD:i<U9.length:=by rw[J.len];exact(List.getElem?_eq_some_iff.mp hi).1
  obtain⟨u,ru,lk⟩:=tK i n .aj hi (by rw[getElem?_set_self pD]) (.inl hn);have VV:m n=some u:=by
   rcases lk with⟨_,q⟩|⟨q,_⟩
   .exact q
   .rcases q with q|q
    .have q':X.env.scope.names.lookup n=some .cell:=q;rw[hn]at q';cases q'
    .have q':X.env.scope.names.lookup n=some .free:=q;rw[hn]at q';cases q'
  unfold unbindBehindTheSuite;refine wpAny_onRaise (wpAny_unbindName_local (env:=X.env) hn tJ VV (by rw[J.ok.kind];rfl) λh' u' iq nX=>?_);have Lw:=fS.unset hN hi tJ tK iq nX;rw[List.set_set]at Lw;exact k _ Lw
 show wpAny _ _ _ _ _ _;cases f with
 |next=>obtain⟨U9,H9,I9,e9,q⟩:=q;exact behind (wk (I9.xO I8.ok) e9) λfq fS=>⟨_,_,fS,q⟩
 |brk=>obtain⟨U9,H9,I9,e9,q⟩:=q;exact behind (wk (I9.xO I8.ok) e9) λfq fS=>⟨_,_,fS,q⟩
 |cont=>obtain⟨U9,H9,I9,e9,q⟩:=q;exact behind (wk (I9.xO I8.ok) e9) λfq fS=>⟨_,_,fS,q⟩
 |ret u=>obtain⟨v,U9,H9,I9,r,e9,q⟩:=q;exact behind (wk (I9.xO I8.ok) e9) λfq fS=>⟨v,_,_,fS,r,q⟩
end
theorem VW {P:Program}{w:World}{K:PySem.W.Frag}{mg:Str->Option Value}{base:Heap}{N:List Str}{qual:Str}{scope:Scope}{f:Addr}{cd:Value}{A:Around}{outer:List Env}{s:Shared}{H:Hp}{E:XK}{k:Nat}{fI C:Addr}{fd:FuncData}{ps:List Str}{sp:Sp}{fld x:Str}{e:Expr}{es:List Expr}{t:TA}{np au pos:Pos}(hg:Gl (cR (cT P w) P w K mg base N qual scope f cd A outer s H E) x)(hm:mg x=some (.ref C))(hI:yB K C fI fld)(Fn:xm P w K mg base CX0 k fI fd ps sp)(hr:aT (k+1) (cR (cT P w) P w K mg base N qual scope f cd A outer s H E).A)(hb:Binds K fd ps [])(ha:PA (cR (cT P w) P w K mg base N qual scope f cd A outer s H E) (e::es) t)(cD:autoParam ((x==("__debug__":Str))=false) aP2)(he:autoParam (starEach (e::es) (envOfC qual scope s.heap.objs.size f cd)=(false,eval e (envOfC qual scope s.heap.objs.size f cd))::starEach es (envOfC qual scope s.heap.objs.size f cd)) aP1)(cg:autoParam ((backTo au (starEach es (envOfC qual scope s.heap.objs.size f cd))).any (·.1)=false) aP1):
  PS (cR (cT P w) P w K mg base N qual scope f cd A outer s H E) (.Raise (some (.Call (.Name x np) (e::es) [] au)) none pos) (Lm C sp (E (.ref C)) t):=
 VM rfl rfl hg hm hI Fn hr hb ha (λI he hd new hn hc q=>Lg I he hd new hn (by rw[hc];exact q)) cD he cg
section
variable {X:Cx}{pn:List (Addr×Obj)}
noncomputable def VX (C:Addr)(m:Str)(sp:Sp)(bu:List V)(W:St->Value->Option Addr->Hp->Prop)(ta:TE)(t:TA):TE:=λU H Q=>ta U H λx H1=>∃a dx fs,x= .ref a/\H1 a=some (.ins C dx fs)/\fs.lookup m=none/\t U H1 λvs H2=>sp (x::(vs++bu)) H2 Q λcls dd H'=>W U cls dd H'
theorem Lx {W:St->Value->Option Addr->Hp->Prop}{k:Nat}{f C:Addr}{fd:FuncData}{ps:List Str}{sp:Sp}{bu:List V}{ds:List Value}{m:Str}{apos pos:Pos}{o e:Expr}{es:List Expr}{ta:TE}{t:TA}{pl:Sem Bool}(he:PE (iM X pn W) o ta)(c:dX X.K C)(hm:Meth X.K C m f)(F:xm X.prog X.w X.K X.mg X.base (cT X.prog X.w) k f fd ps sp)(hr:aT k X.A)(hb:Binds X.K fd ps ds)(hd:Vals bu ds)(ha:PA (iM X pn W) (e::es) t)(gT:autoParam (starEach (e::es) X.env=(false,eval e X.env)::starEach es X.env) aP1)(cg:autoParam ((backTo pos (starEach es X.env)).any (·.1)=false) aP1)(ht:autoParam (eval (.Call (.Attribute o m apos) (e::es) [] pos) X.env=(do
   let ov<-eval o X.env
   standAt apos.atName
   let(f,first)<-holding [ov] (getMethod ov m pl)
   callWith pos f first (backTo pos (starEach (e :: es) X.env)) (backToKw pos (keywordEach [] X.env)))) aP1) :
  PE (iM X pn W) (.Call (.Attribute o m apos) (e::es) [] pos) (VX C m sp bu W ta t):=by
 intro pins s U H Q I h;refine PySem.W.methodCall_KW (pl:=pl) (ah (he pins s U H _ I h) λu s1 zQ=>?_) ht;obtain⟨x,H1,I1,rx,a,dx,fs,ex,ea,l,q⟩:=zQ;subst ex;obtain rfl:u=Value.ref a:=rx;refine wO I1 ea c hm l ?_;refine PySem.W.callWith_K (first:=[.ref a]) (h₀:=X.base) I.ok.mod.dQ hm.kp (ah (ha pos pins s1 U H1 _ I1 q) λus s2 ⟨vs,H2,I2,r,q2⟩=>⟨I2.aO,?_⟩) gT cg;exact Te (us:=.ref a::us) (vs:=.ref a::vs) F hr hb hd I2 (VP I2) (.cons rfl r) q2
end
noncomputable def VY (K:PySem.W.Frag)(P1:Addr)(i:Nat)(tb:(St->Value->Option Addr->Hp->Prop)->TS)(ts:TS):TS:=λD U H=>∃W:St->Value->Option Addr->Hp->Prop,tb W D U H/\∀U' cls dd H' ea,W U' cls dd H'->H' ea=none->∃C,cls= .ref C/\PySem.W.kitCls K (.ref C) (.ref P1)=some true/\ts (Lu D i ea cls dd) (U'.set i (some (.ref ea))) (upd H' ea (mB ea cls dd))
section
variable {X:Cx}
theorem Ly {body:List Stmt}{x1 n:Str}{i:Nat}{VZ V0 pos:Pos}{b1:Stmt}{Lz:List Stmt}{P1:Addr}{tb:(St->Value->Option Addr->Hp->Prop)->TS}{LA:TS}(iN:X.stack=X.env::X.outer)(mx:X.env.frame=some X.env.locals)(hex:X.ex=[])(V1:Gl X x1)(xN:X.mg x1=some (.ref P1))(V2:PySem.W.mroIn X.K P1 (.type "BaseException")=some true)(hN:X.N.Nodup)(hi:X.N[i]?=some n)(hn:X.env.scope.names.lookup n=some .local)(hb:∀pn W,cL (iM X pn W) body (tb W))(yF:∀ea,cL (pT X ea) (b1::Lz) LA)(yC:autoParam ((x1==("__debug__":Str))=false) aP2):
  PS X (.Try body [.ExceptHandler (some (.Name x1 VZ)) (some n) (b1::Lz) V0] [] [] pos) (VY X.K P1 i tb LA):=by
 intro pins s U H D I h;obtain⟨W,h1,h2⟩:=h;refine wpAny_Try_except ?_;have back:∀{bF:List (Addr×Obj)}{U':St}{H':Hp}{s':Shared},Inv (iM X (X.pn++pins) W) bF U' H' s'->Inv X pins U' H' s':=λJ=>J.Lr.KA λ_ hp=>hp;refine wpAny_mono (hb (X.pn++pins) W pins s U H D (I.VO λ_ hp=>hp) h1) (λf s1 q=>?_) (λe s1 q=>?_)
 .cases f with
  |next=>obtain⟨U1,H1,I1,q⟩:=q;exact wpAny_execs_nil ⟨U1,H1,back I1,q⟩
  |brk=>obtain⟨U1,H1,I1,q⟩:=q;exact⟨U1,H1,back I1,q⟩
  |cont=>obtain⟨U1,H1,I1,q⟩:=q;exact⟨U1,H1,back I1,q⟩
  |ret u=>obtain⟨v,U1,H1,I1,r,q⟩:=q;exact⟨v,U1,H1,back I1,r,q⟩
 .obtain⟨bF,U',H1,s0,ea,cls,dd,H',rfl,I0,F,⟨oe,Dl,bN⟩,wW⟩:=q;have IX:Inv X pins U' H1 s0:=I0.KA λ_ hp=>hp;obtain⟨Bq,t,hf,k1,k2⟩:=F.Kw;have mD:H' ea=none:=by
   cases q:H' ea with
   |none=>rfl
   |some u=>obtain⟨o,e⟩:=(F.af ea u q).there;have z:=k2 ea u o q e;rw[hf.2.1]at z;cases z
  obtain⟨C,rfl,m1,q1⟩:=h2 U' cls dd H' ea wW mD;have frames:X.A.frames=some (X.env::X.outer):=by rw[IX.ok.frames,iN]
  have oj:Heap.FlyingW Bq (X.env::X.outer) ea (.ref C) (.ref t) s1.heap:=by rw[<-iN];exact hf
  refine wpAny_mono (tj Lc (wpAny_looks_onW (E:=λ_ _=>False) (Q:=λ_ bP=>∃cE,bP={s1 with heap:=cE}/\Heap.HeldW Bq (X.env::X.outer) ea (.ref C) (.ref t) X.env.locals cE/\s1.heap.UpToSlots cE) frames mx oj λcE a b=>⟨cE,rfl,a,b⟩)) (λ_ bP zQ=>?_) (λ_ _ z=>z.1.elim);obtain⟨⟨cE,e4,iQ,ou⟩,V3⟩:=zQ;subst e4;refine wpAny_mono (tj C8 (wpAny_landsW (E:=λ_ _=>False) (Q:=λ_ bP=>∃bb,bP={s1 with heap:=bb}/\Heap.FlyingW Bq (X.env::X.outer) ea (.ref C) (.ref t) bb/\cE.UpToSlots bb) iQ λbb a b=>⟨bb,rfl,a,b⟩)) (λ_ bP zQ=>?_) (λ_ _ z=>z.1.elim);obtain⟨⟨bb,e5,ox,oy⟩,V4⟩:=zQ;subst e5;have iP:Heap.FlyingW Bq X.stack ea (.ref C) (.ref t) bb:=by rw[iN];exact ox
  obtain⟨o4,e4,d4⟩:=V3 ea oe Dl;obtain⟨o5,e5,d5⟩:=V4 ea o4 e4;exact VQ iN hex V1 xN V2 hN hi hn yF yC IX F iP (ou.trans oy) k1 k2 mD ⟨o5,e5,(d5.trans d4).trans bN⟩ m1 q1
end
noncomputable def yG {α:Type}:List α->List α->List α
 |[a,b],[c,d,e,f]=>[a,b,c,d,e,f]
 |_,_=>[]
theorem V5 {vs:List V}{us:List Value}{zs:List V}{ws:List Value}(r1:Vals vs us)(r2:Vals zs ws):Vals (yG vs zs) (yG us ws):=by
 cases r1 with
 |nil=>exact .nil
 | cons a r1=>
  cases r1 with
  |nil=>exact .nil
  | cons b r1=>
   cases r1 with
   |cons _ _=>exact .nil
   | nil=>
    cases r2 with
    |nil=>exact .nil
    | cons c r2=>
     cases r2 with
     |nil=>exact .nil
     | cons d r2=>
      cases r2 with
      |nil=>exact .nil
      | cons e r2=>
       cases r2 with
       |nil=>exact .nil
       |cons f r2=>
        cases r2 with
        |nil=>exact .cons a (.cons b (.cons c (.cons d (.cons e (.cons f .nil)))))
        |cons _ _=>exact .nil
theorem V6 {lo:Int}{n:Nat}{D:Addr}{g:TG}{ti:TT}{tk tv:TE}{U0:St}{H0:Hp}{QF:Hp->Prop}(Pv:Nat->St->Hp->Prop)(h0:Pv 0 U0 H0)(hs:∀i U H,i<n->Pv i U H->g (.int (lo+i)) U H λU2 H2=>ti U2 H2 λb H3=>if b=true then tk U2 H3 λy H4=>tv U2 H4 λz H5=>∃H6,gY H5 D y z H6/\Pv (i+1) U2 H6 else Pv (i+1) U2 H3)(hd:∀U H,Pv n U H->QF H):∃W:Nat->Nat->St->Hp->Prop,(∃m,W 0 m U0 H0)/\CZ (i9 lo n) g ti tk tv D QF W:=by
 refine⟨λi m U H=>m=n-i/\i<=n/\Pv i U H,⟨n,by simp,zero_le _,h0⟩,?_⟩
 rintro i m U H ⟨rfl,hi,p⟩
 by_cases az:i<n
 .refine .inr ⟨az,Pv (i+1),λU' H' p'=>⟨n-(i+1),by lia,rfl,az,p'⟩,λx H' y=>?_⟩;obtain⟨e,y⟩:=y;subst e y;exact hs i U _ az p
 .have e:i=n:=by lia
  subst e;exact .inl ⟨le_refl _,hd U H p⟩
theorem LB (val:Nat->Int):∀k i,i<=k->val i<=val (argBest (λi j=>decide (val i>val j)) k)
 |0,i,h=>by
  have:i=0:=by lia
  subst this;exact Int.le_refl _
 | k+1,i,h=>by
  have ih:=LB val k;unfold argBest;by_cases z:val (k+1)>val (argBest (λi j=>decide (val i>val j)) k)
  .rw[if_pos (decide_eq_true z)];by_cases q:i=k+1
   .rw[q];exact Int.le_refl _
   .have:=ih i (by lia);lia
  .rw[if_neg (by simpa using z)];by_cases q:i=k+1
   .rw[q];lia
   .exact ih i (by lia)
theorem yH {α β:Type}{R:α->β->Prop}:∀{xs:List α}{ys:List β}{i:Nat}{y:β},Paired R xs ys->ys[i]?=some y->∃x,xs[i]?=some x/\R x y:=λ{xs ys i y} q e=>by
 induction q generalizing i with
 |nil=>simp at e
 |cons h _ ih=>
  cases i with
  |zero=>cases Option.some.inj e;exact⟨_,rfl,h⟩
  |succ i=>exact ih (i:=i) e
section
variable {X:Cx}
theorem V7 (hc:X.calm=true):dW X (.builtin "max") (λxs H Q=>∃(p:Addr)(ns:List Int),xs=[.ref p]/\ag X.K H p (ns.map V.int)/\0<ns.length/\∀M,M∈ns->(∀a∈ns,a<=M)->Q (.int M) H):=by
 intro pins s U H xs us Q I r h;obtain⟨p,ns,rfl,hq,hne,q⟩:=h;obtain⟨u,rfl,rx⟩:=vals1 r;cases rx;obtain⟨its,r',pl,hz⟩:=I.list hq;have hlen:ns.length=its.length:=by have:=r'.length;rw[length_map]at this;exact this
 have hv:∀i v,its.toArray[i]?=some v->∃t,v=Value.int (ns.getD i 0) t:=λi v e=>by
  have e':its[i]?=some v:=by simpa using e
  obtain⟨y,ey,ry⟩:=yH r' e';rw[getElem?_map]at ey;cases hn:ns[i]? with
  |none=>rw[hn]at ey;cases ey
  |some n=>rw[hn]at ey;cases ey;obtain⟨t,et⟩:=ry;refine⟨t,?_⟩;rw[et,getD_eq_getElem?_getD,hn];rfl
 have hp:p≠s.heap.objs.size:=by obtain⟨o,ho,_⟩:=pl.isList;exact ne_of_lt (Heap.lt_size ho)
 refine call_max_walk (wpAny_pyIter_list pl.isList ⟨s.heap.objs.size,_,_,_,_,_,_,rfl,Walks.list (A:=X.A.in1) (show X.A.in1.handled=none from I.ok.hd hc) s.heap.objs.size p hp its.toArray,⟨⟨_,Heap.get?_push_size _ rfl,rfl,rfl⟩,?_⟩,λb hb=>?_,by simpa using(by lia:0<its.length),CmpOf.ints_gt (λi=>ns.getD i 0) hv,λv h' tk hP hk=>?_⟩)
 .obtain⟨o,ho,hr⟩:=pl.isList;exact⟨o,Heap.get?_push_of_some _ ho,hr⟩
 .rw[Heap.size_push];rcases mem_cons.mp hb with rfl|hb
  .exact lt_succ_self _
  .rw[mem_singleton.mp hb];obtain⟨o,ho,_⟩:=pl.isList;exact Nat.lt_succ_of_lt (Heap.lt_size ho)
 .obtain⟨t,rfl⟩:=hv _ _ hP;refine⟨V.int (ns.getD (argBest (λi j=>decide (ns.getD i 0>ns.getD j 0)) (its.toArray.size-1)) 0),H,I.kept (t':=tk) λb o e=>hk b o (λz=>?_) (Heap.get?_push_of_some _ e),⟨t,rfl⟩,q _ ?_ λa ha=>?_⟩
  .have:b=s.heap.objs.size:=by simpa using z
   have lt:=Heap.lt_size e;rw[this]at lt;exact lt_irrefl _ lt
  .have hb:=K1 (λi j=>decide (ns.getD i 0>ns.getD j 0)) (its.toArray.size-1);have hs:its.toArray.size=its.length:=by simp
   generalize argBest (λi j=>decide (ns.getD i 0>ns.getD j 0)) (its.toArray.size-1)=j at hb;have hj:j<ns.length:=by lia
   rw[getD_eq_getElem?_getD,getElem?_eq_getElem hj];exact List.getElem_mem hj
  .obtain⟨i,hi,rfl⟩:=mem_iff_getElem.mp ha;have:=LB (λi=>ns.getD i 0) (its.toArray.size-1) i (by simp;lia);rw[show ns.getD i 0=ns[i]by rw[getD_eq_getElem?_getD,getElem?_eq_getElem hi];rfl]at this;exact this
end
structure LC (K:PySem.W.Frag)(C:Addr)(m:Str)(f:Addr):Prop where
 sp:PySem.W.specialIn K (.ref C) "__getattribute__"=some (some (.builtin "type.__getattribute__"))
 rd:PySem.W.readsIn K C (.type "type")=true
 at_:PySem.W.findCls K (.ref C) (.type "type") m=some (.val (.ref f))
 kp:PySem.W.keepIn K (.ref f)=true
section
variable {X:Cx}{CX:eP}{E:XK}{k:Nat}{f C:Addr}{fd:FuncData}{ps:List Str}{sp:Sp}{bu:List V}{ds:List Value}{x m:Str}{p apos pos:Pos}{e:Expr}{es:List Expr}{t:TA}
theorem V8 {pl:Sem Bool}(hg:Gl X x)(hC:X.mg x=some (.ref C))(hm:LC X.K C m f)(F:xm X.prog X.w X.K X.mg X.base CX k f fd ps sp)(hr:aT k X.A)(hb:Binds X.K fd ps ds)(hd:Vals bu ds)(hx:Passes CX X E)(ha:PA X (e::es) t)(cD:autoParam ((x==("__debug__":Str))=false) aP2)(gT:autoParam (starEach (e::es) X.env=(false,eval e X.env)::starEach es X.env) aP1)(cg:autoParam ((backTo pos (starEach es X.env)).any (·.1)=false) aP1)(ht:autoParam (eval (.Call (.Attribute (.Name x p) m apos) (e::es) [] pos) X.env=(do
   let ov<-eval (.Name x p) X.env
   standAt apos.atName
   let(f,first)<-holding [ov] (getMethod ov m pl)
   callWith pos f first (backTo pos (starEach (e :: es) X.env)) (backToKw pos (keywordEach [] X.env)))) aP1) :
  PE X (.Call (.Attribute (.Name x p) m apos) (e::es) [] pos) (JA sp bu E t):=by
 intro pins s U H Q I h;refine PySem.W.methodCall_KW (pl:=pl) (ah (lR (Q:=EP X pins U λv H'=>v=V.ref C/\H'=H) I hg hC ⟨V.ref C,H,I,rfl,rfl,rfl⟩ cD) λu s1 zQ=>?_) ht;obtain⟨y,H1,I1,ry,ey,eH⟩:=zQ;subst ey eH;obtain rfl:u=Value.ref C:=ry;refine PySem.W.method_cls I1.aO hm.sp (PySem.W.cls_value I1.aO hm.rd hm.at_ rfl ?_);have I2:=I1.tok (s1.toks+1);refine PySem.W.callWith_K (first:=[]) (h₀:=X.base) I.ok.mod.dQ hm.kp (ah (ha pos pins _ U H1 _ I2 h) λus s2 ⟨vs,H2,I3,r,q2⟩=>⟨I3.aO,?_⟩) gT cg;exact wQ F hr hb hd hx I3 r q2
end
open AutoSeq1 (wpAny_loadPart')
theorem LF {l:Addr}{its:List Value}{n:Nat}{x:Value}{e:Value->Bool}{j:Nat}{y:Value}(hj:its[j]?=some y)(hit:e y=true)(hz:its.length<=sizeLine):∀(d i:Nat),i+d=j->(∀m z,i<=m->m<j->its[m]?=some z->e z=false)->Meets (Builtin.«list.remove.loop» ⟨[.ref l,x,rawInt i],[]⟩) (λA R s=>s.heap.get? l=some {cls:=.type "list",dict:=none,data:=.seq its.toArray n,slots:=#[]}/\(∀u∈its,SeqAt.EqAt A.in1 s u x (e u))/\R (.ok (.ret .none)) {s with heap:=s.heap.update l (Obj.mapSeq λxs=>xs.eraseIdxIfInBounds j)})
 | d,i,hd,kI=>by
  intro prog w A R s h;obtain⟨hp,g,dp,tk,os⟩:=s;obtain⟨hl,he,h⟩:=h;have lt:i<its.length:=by have:=(List.getElem?_eq_some_iff.mp hj).1;lia
  obtain⟨v,hv⟩:∃v,its[i]?=some v:=⟨_,getElem?_eq_getElem lt⟩;have hi:its.toArray[((i:Nat):Int).toNat]?=some v:=by simpa using hv
  have yF:its.toArray.size<=sizeLine:=by rw[size_toArray];exact hz
  wp_walk using wpAny_loadPart' hl;rw[hi];refine wpAny_bind (he v (mem_of_getElem? hv) prog w _ _ ?_);cases d with
  |zero=>
   have e1:i=j:=by lia
   subst e1;rw[hj]at hv;cases hv;rw[hit];wp_walk using wpAny_loadPart' hl;have small:(Obj.mapSeq (λx=>x.eraseIdxIfInBounds ((i:Nat):Int).toNat) {cls:=Value.type "list",data:=Data.seq its.toArray n}).data.pastItsLine=none:=by refine pastItsLine_seq (le_trans ?_ (le_succ_of_le hz));show(its.toArray.eraseIdxIfInBounds ((i:Nat):Int).toNat).size<=its.length;rw[List.eraseIdxIfInBounds_toArray,size_toArray];exact length_eraseIdx_le _ _
   rw[small];wp_walk;exact h
  |succ d=>
   rw[kI i v (le_refl _) (by lia) hv];wp_walk;have ec:((i:Int)+1)=((i+1:Nat):Int):=by push_cast;rfl
   rw[ec];refine⟨plainId_quiet MeetsSeq.plain_remove_loop _,codeAny_builtin MeetsSeq.entry_remove_loop ?_⟩;rw[Around.under_plainId MeetsSeq.plain_remove_loop _];exact LF hj hit hz d (i+1) (by lia) (λm z h1 h2=>kI m z (by lia) h2) prog w A R _ ⟨hl,he,h⟩
theorem V9 {l:Addr}{its:List Value}{n:Nat}{x:Value}{e:Value->Bool}{j:Nat}{y:Value}(hj:its[j]?=some y)(hit:e y=true)(hz:its.length<=sizeLine)(kI:∀m z,m<j->its[m]?=some z->e z=false):Meets (Builtin.«list.remove» ⟨[.ref l,x],[]⟩) (λA R s=>s.heap.get? l=some {cls:=.type "list",dict:=none,data:=.seq its.toArray n,slots:=#[]}/\(∀u∈its,SeqAt.EqAt A.in1 s u x (e u))/\R (.ok (.ret .none)) {s with heap:=s.heap.update l (Obj.mapSeq λxs=>xs.eraseIdxIfInBounds j)}):=by
 intro prog w A R s h;obtain⟨hp,g,dp,tk,os⟩:=s;have go:=LF (l:=l) (n:=n) (x:=x) hj hit hz j 0 (zero_add j) (λm z _ h2=>kI m z h2) prog w A R _ h;wp_walk using wpAny_loadPart' h.1;refine⟨plainId_quiet MeetsSeq.plain_remove_loop _,codeAny_builtin MeetsSeq.entry_remove_loop ?_⟩;rw[Around.under_plainId MeetsSeq.plain_remove_loop _];exact go
noncomputable def Wa (K:PySem.W.Frag):V->List V->Hp->VK->Prop:=λx vs H Q=>∃l xs y n bQ,x= .ref l/\vs=[y]/\H l=some (.lst xs)/\jK K H y n/\Paired (jK K H) xs bQ/\n∈bQ/\Q .aj (upd H l (.lst (xs.eraseIdx (bQ.idxOf n))))
section
variable {X:Cx}
theorem Wb (hu:X.A.units+64<cLine):Ca X "list.remove" (Wa X.K):=by
 intro pins s U H x vs v us Q I rx rv h;obtain⟨l,xs,y,n,bQ,rfl,rfl,hH,hy,hs,hm,q⟩:=h;cases rx;obtain⟨u,rfl,ru⟩:=rv.one;obtain⟨z,its,k,r,hl,e⟩:=I.pJ hH;have lx:=Paired.length hs;have hi:bQ.idxOf n<bQ.length:=List.idxOf_lt_length_iff.mpr hm;obtain⟨w,hw,cy⟩:=r.get (getElem?_eq_getElem (show bQ.idxOf n<xs.length by lia));have is:∀(m:Nat)(v:Value),its[m]?=some v->∃t,bQ[m]?=some t/\gL X.K H n v=decide (t=n):=λm v hv=>by obtain⟨x',eD,Wc⟩:=yH r hv;obtain⟨t,ht,q'⟩:=qd hs eD;exact⟨t,ht,CW I q' Wc⟩
 have yes:gL X.K H n w=true:=by obtain⟨t,ht,q'⟩:=is _ _ hw;rw[getElem?_eq_getElem hi,List.getElem_idxOf hi]at ht;rw[q',<-Option.some.inj ht];exact decide_eq_true rfl
 refine call_meets F.slot_list_remove ⟨_,e,rfl⟩ F.entry_list_remove (F.args_list_remove_2 _ _) (V9 (e:=gL X.K H n) hw yes (by lia) (λm v az hv=>?_)) ⟨e,λv hv=>CY I ?_ hy ru r hs v hv,?_⟩
 .obtain⟨t,ht,q'⟩:=is _ _ hv;rw[q'];refine decide_eq_false λz=>?_;subst z;obtain⟨a1,b1⟩:=List.getElem?_eq_some_iff.mp ht;have no:=List.not_of_lt_findIdx (p:=(·==t)) (xs:=bQ) (i:=m) az;rw[b1]at no;simp at no
 .first|(have e:X.A.in1.units=X.A.units+1:=rfl;lia)|(have e:X.A.in1.units=X.A.units:=rfl;lia)|(have e:=Around.units_in1 X.A;lia)
 .refine⟨.aj,_,I.Cb (its':=its.eraseIdx (bQ.idxOf n)) hH e ?_ (r.eraseIdx _) ?_,rfl,q⟩
  .show its.toArray.eraseIdxIfInBounds _=(its.eraseIdx _).toArray;rw[List.eraseIdxIfInBounds_toArray]
  .have:=length_eraseIdx_le xs (bQ.idxOf n);lia
theorem LG {α β:Type}{F:α->β->Prop}:∀{xs:List α}{ys:List β},xs.length=ys.length->(∀(i:Nat) x y,xs[i]?=some x->ys[i]?=some y->F x y)->Paired F xs ys
 |[],[],_,_=>.nil
 |x::xs,y::ys,e,h=>.cons (h 0 x y rfl rfl) (LG (Nat.succ.inj e) λi a b ea eb=>h (i+1) a b ea eb)
theorem We (hc:X.calm=true):dW X (.type "list") (λxs H Q=>∃(p:Addr)(kvs:List (Key×V)),xs=[.ref p]/\H p=some (.dK kvs)/\∀l,H l=none->Q (.ref l) (upd H l (.lst (kvs.map λkv=>kV kv.1)))):=by
 intro pins s U H xs us Q I r h;obtain⟨p,kvs,rfl,hp,q⟩:=h;obtain⟨u,rfl,rx⟩:=vals1 r;cases rx;obtain⟨hz,lo,vs,rel,o,es,ep,ho,hx,hd,r1,r2,r3⟩:=I.af p _ hp;have hm:s.heap.DictAt (qg X.prog X.w) p vs ep:=⟨o,es,ho,hx,hd,r1,r2,r3⟩;have hlen:kvs.length=vs.length:=Paired.length rel;refine PySem.W.kdl_call (PySem.W.kdl_dict (knd:=qg X.prog X.w) (kvs:=vs) (ep:=ep) lo) (I.ok.hd hc) hm (by lia) λh' tk oz c' hk hD fg=>?_;refine⟨.ref s.heap.objs.size,_,I.laid (t':=tk) hk (le_refl _) (show yx X.prog X.w _ h' _ (.lst (kvs.map λkv=>kV kv.1))from⟨?_,oz.toList,c',?_,?_⟩),rfl,q _ (I.af.fresh (le_refl _))⟩
 .rw[length_map];lia
 .refine LG (by have e:=fg.1;rw[length_map,show oz.toList.length=oz.size from Array.length_toList,e];exact hlen) λi x v ex ev=>?_;obtain⟨k,y,e1,fU⟩:=fg.2 i v (by rw[<-Array.getElem?_toList];exact ev);rw[getElem?_map]at ex;cases e2:kvs[i]? with
  |none=>rw[e2]at ex;cases ex
  |some kv=>rw[e2]at ex;cases ex;obtain⟨z,e3,_⟩:=CP rel e2;rw[e3]at e1;cases e1;exact KL fU
 .simpa using hD
end
structure LH (K:PySem.W.Frag)(C:Addr):Prop where
 ha:PySem.W.findIn K (.ref C) "__class__"=some (some (.builtin "object.__class__"))
 hn:PySem.W.specialIn K (.builtin "object.__class__") "__get__"=some (some (.builtin "getset_descriptor.__get__"))
 tk:PySem.W.takesIn K (.builtin "object.__class__")=some true
 hm:PySem.W.mroIn K C (.type "object")=some true
 ki:PySem.W.kitOne K (.ref C) (.ref C)=some true
section
variable {X:Cx}
theorem Wf:dW X (.builtin "isinstance") (λxs H Q=>∃a C dx fs,xs=[.ref a,.ref C]/\H a=some (.ins C dx fs)/\dX X.K C/\LH X.K C/\Q (.bl true) H):=by intro pins s U H xs us Q I r h;obtain⟨a,C,dx,fs,rfl,ha,cl,io,q⟩:=h;obtain⟨u,w,rfl,r1,r2⟩:=vals2 r;cases r2;exact Jz I r1 (.ins ha cl io.ha io.hn io.tk io.hm) io.ki λtk=>⟨.bl true,H,I.tok tk,rfl,q⟩
end
section
variable {K:PySem.W.Frag}{x qual:Str}{st:Stmt}{f:Addr}{fd:FuncData}{p1 p2 p3 p4 p5:Str}
noncomputable abbrev tL (x qual:Str)(st:Stmt)(ps:List Str)(us:List Value):Prop:=∀(kV doc pm:Value)(an:Option Addr)(aB ct:Value),bindArgs (PySem.W.fnOf x qual (pL st) (gX st) (ju st) .none kV doc pm an aB ct) ⟨us,[]⟩=pure (ps.zip us)
theorem cZ (F:av K x qual st f fd)(h:∀a,tL x qual st [p1] [a]:=by exact λ_ _ _ _ _ _ _=>rfl):Binds K fd [p1] []:=F.binds λkV doc pm an aB ct us hl=>by obtain⟨a,rfl⟩:=length_eq_one_iff.mp hl;exact h a kV doc pm an aB ct
theorem jL {us:List Value}{n:Nat}(h:us.length=n+1):∃a r,us=a::r/\r.length=n:=by
 cases us with
 |nil=>cases h
 |cons a r=>exact⟨a,r,rfl,Nat.succ.inj h⟩
theorem cA (F:av K x qual st f fd)(h:∀a b,tL x qual st [p1,p2] [a,b]:=by exact λ_ _ _ _ _ _ _ _=>rfl):Binds K fd [p1,p2] []:=F.binds λkV doc pm an aB ct us hl=>by obtain⟨a,r1,rfl,h1⟩:=jL hl;obtain⟨b,rfl⟩:=length_eq_one_iff.mp h1;exact h a b kV doc pm an aB ct
theorem hU (F:av K x qual st f fd)(h:∀a b c,tL x qual st [p1,p2,p3] [a,b,c]:=by exact λ_ _ _ _ _ _ _ _ _=>rfl):Binds K fd [p1,p2,p3] []:=F.binds λkV doc pm an aB ct us hl=>by obtain⟨a,r1,rfl,h1⟩:=jL hl;obtain⟨b,r2,rfl,h2⟩:=jL h1;obtain⟨c,rfl⟩:=length_eq_one_iff.mp h2;exact h a b c kV doc pm an aB ct
theorem LI (F:av K x qual st f fd)(h:∀a b c d,tL x qual st [p1,p2,p3,p4] [a,b,c,d]:=by exact λ_ _ _ _ _ _ _ _ _ _=>rfl):Binds K fd [p1,p2,p3,p4] []:=F.binds λkV doc pm an aB ct us hl=>by obtain⟨a,r1,rfl,h1⟩:=jL hl;obtain⟨b,r2,rfl,h2⟩:=jL h1;obtain⟨c,r3,rfl,h3⟩:=jL h2;obtain⟨d,rfl⟩:=length_eq_one_iff.mp h3;exact h a b c d kV doc pm an aB ct
theorem Wg (F:av K x qual st f fd)(h:∀a b c d e,tL x qual st [p1,p2,p3,p4,p5] [a,b,c,d,e]:=by exact λ_ _ _ _ _ _ _ _ _ _ _=>rfl):Binds K fd [p1,p2,p3,p4,p5] []:=F.binds λkV doc pm an aB ct us hl=>by obtain⟨a,r1,rfl,h1⟩:=jL hl;obtain⟨b,r2,rfl,h2⟩:=jL h1;obtain⟨c,r3,rfl,h3⟩:=jL h2;obtain⟨d,r4,rfl,h4⟩:=jL h3;obtain⟨e,rfl⟩:=length_eq_one_iff.mp h4;exact h a b c d e kV doc pm an aB ct
theorem tM {k1:Str}(h:∀(s:Shared) a b,BindsTo s fd ⟨[a],[(k1,b)]⟩ [(p1,a),(p2,b)]):fM K fd [p1,p2] [k1] fT fT:=⟨λs us ws _ hl=>by rcases us with _|⟨a,_|⟨_,_⟩⟩<;>rcases ws with _|⟨b,_|⟨_,_⟩⟩;all_goals first|exact h s a b|(cases hl),λr1 r2=>SM r1 r2⟩
theorem Wh {k1 k2:Str}(h:∀(s:Shared) a b c,BindsTo s fd ⟨[a],[(k1,b),(k2,c)]⟩ [(p1,a),(p2,b),(p3,c)]):fM K fd [p1,p2,p3] [k1,k2] pU pU:=⟨λs us ws _ hl=>by rcases us with _|⟨a,_|⟨_,_⟩⟩<;>rcases ws with _|⟨b,_|⟨c,_|⟨_,_⟩⟩⟩;all_goals first|exact h s a b c|(cases hl),λr1 r2=>TH r1 r2⟩
end
theorem LJ {α:Type}[DecidableEq α]:∀{xs ys:List α},xs.Nodup->(∀x∈xs,x∈ys)->xs.length<=ys.length
 |[],_,_,_=>zero_le _
 |x::xs,ys,nd,h=>by rw[nodup_cons]at nd;have hx:=h x mem_cons_self;have:=LJ (xs:=xs) (ys:=ys.erase x) nd.2 λy hy=>(List.mem_erase_of_ne (λz=>nd.1 (by rw[<-z];exact hy))).mpr (h y (mem_cons_of_mem _ hy));rw[length_erase_of_mem hx]at this;have:=length_pos_of_mem hx;rw[length_cons];lia
noncomputable def hV (mask:Nat):Nat->Nat×Nat->Nat×Nat
 |0,x=>x
 |m+1,x=>hV mask m (SetTable.leap mask x.1 x.2)
noncomputable def tN (mask:Nat):Nat->Nat->Nat
 |0,i=>i
 |m+1,i=>tN mask m ((i*5+1)%(mask+1))
noncomputable def yI (mask:Nat):Nat->Nat->Nat->Nat
 |0,_,b=>b
 |n+1,i,b=>yI mask n ((i*5+1)%(mask+1)) (b|||2^i)
theorem LK {mask e:Nat}:∀{n i b:Nat},(yI mask n i b).testBit e=true->b.testBit e=true\/∃m,m<n/\tN mask m i=e
 |0,_,_,h=>.inl h
 | n+1,i,b,h=>by
  rcases LK (n:=n) h with h|⟨m,hm,e⟩
  .rw[Nat.testBit_or,Bool.or_eq_true]at h;rcases h with h|h
   .exact .inl h
   .rw[Nat.testBit_two_pow]at h;exact .inr ⟨0,succ_pos _,of_decide_eq_true h⟩
  .exact .inr ⟨m+1,Nat.succ_lt_succ hm,e⟩
noncomputable def kU (mask:Nat):Prop:=mask=7\/mask=31\/mask=127
set_option maxRecDepth 100000 in
theorem Wi : ∀ mask ∈ [7,31,127],∀ i ∈ List.range (mask + 1),yI mask (mask + 1) i 0 = 2 ^ (mask + 1) - 1:=by decide +kernel
theorem kU.mem {mask:Nat}(h:kU mask):mask∈[7,31,127]:=by rcases h with h|h|h<;>rw[h]<;>decide
theorem Wj {mask i e:Nat}(h:kU mask)(hi:i<=mask)(he:e<=mask):∃m,m<=mask/\tN mask m i=e:=by
 have q:(yI mask (mask+1) i 0).testBit e=true:=by rw[Wi mask h.mem i (mem_range.mpr (by lia)),Nat.testBit_two_pow_sub_one];exact decide_eq_true (by lia)
 rcases LK q with z|⟨m,hm,z⟩
 .rw[Nat.zero_testBit]at z;cases z
 .exact⟨m,by lia,z⟩
theorem LL {mask:Nat}:∀{m i p:Nat},p<32->(hV mask m (i,p)).1=tN mask m i
 |0,_,_,_=>rfl
 |m+1,i,p,h=>by have e:p / 32=0:=Nat.div_eq_of_lt h;show(hV mask m ((i*5+1+p / 32)%(mask+1),p / 32)).1=tN mask m ((i*5+1)%(mask+1));rw[e];exact LL (by decide)
theorem LM {mask:Nat}:∀{a b:Nat}{x:Nat×Nat},hV mask (a+b) x=hV mask b (hV mask a x)
 |0,b,x=>by rw[zero_add];rfl
 |a+1,b,x=>by rw[Nat.succ_add];exact LM (a:=a)
theorem LN {mask:Nat}:∀{m i p:Nat},i<=mask->(hV mask m (i,p)).1<=mask
 |0,_,_,h=>h
 |m+1,i,p,_=>LN (m:=m) (Nat.le_of_lt_succ (Nat.mod_lt (i*5+1+p / 32) (succ_pos mask)))
theorem LO {mask:Nat}:∀{m i p:Nat},(hV mask m (i,p)).2=p / 32^m
 |0,_,p=>(Nat.div_one p).symm
 |m+1,i,p=>by refine(LO (m:=m) (p:=p / 32)).trans ?_;rw[Nat.div_div_eq_div_mul,Nat.pow_succ,Nat.mul_comm]
theorem LP {mask i p e:Nat}(h:kU mask)(hi:i<=mask)(hp:p<2^64)(he:e<=mask):∃m,m<=mask+14/\(hV mask m (i,p)).1=e:=by
 have Wk:(hV mask 12 (i,p)).2<32:=by rw[LO];exact Nat.div_lt_of_lt_mul (lt_of_lt_of_le hp (by decide))
 obtain⟨m,hm,q⟩:=Wj h (LN (m:=12) (p:=p) hi) he;refine⟨12+m,by lia,?_⟩;rw[LM,<-q];exact LL Wk
theorem LQ (h:Int):SetTable.bits h<2^64:=by
 unfold SetTable.bits;have h1:=Int.emod_nonneg h (show(2^64:Int)≠0 by decide);have h2:=Int.emod_lt_of_pos h (show(0:Int)<2^64 by decide);have:((2:Int)^64)=((2^64:Nat):Int):=by decide
 lia
structure tO (t:SetTable)(n:Nat):Prop where
 d:t.dummies=#[]
 z:t.place.size=n
 r:5*n<3*t.mask
 m:kU t.mask
theorem LR {t:SetTable}(hd:t.dummies=#[]){j:Nat}:(∃i,t.slot j= .live i)\/t.slot j= .empty:=by
 unfold SetTable.slot;dsimp only;split
 .exact .inl ⟨_,rfl⟩
 .have:SetTable.has t.dummies j=false:=by
   unfold SetTable.has;rw[hd];rfl
  rw[this];exact .inr rfl
theorem Wm {t:SetTable}{j i:Nat}(e:t.slot j= .live i):i<t.place.size:=by
 unfold SetTable.slot at e;dsimp only at e;split at e
 .rename_i z;cases e;obtain⟨h,_⟩:=Array.getElem?_eq_some_iff.mp (eq_of_beq z);exact h
 .split at e<;>cases e
theorem Wn {t:SetTable}(hd:t.dummies=#[]){j:Nat}(hj:j∉t.place.toList):t.slot j= .empty:=by
 rcases LR hd (j:=j)with⟨i,e⟩|e
 .exfalso;unfold SetTable.slot at e;dsimp only at e;split at e
  .rename_i z;have z':=eq_of_beq z;exact hj (by rw[<-Array.mem_def];exact Array.mem_of_getElem? z')
  .split at e<;>cases e
 .exact e
theorem Wo {t:SetTable}{n:Nat}(T:tO t n):∃e,e<=t.mask/\t.slot e= .empty:=by
 by_cases z:∃e,e<=t.mask/\e∉t.place.toList
 .obtain⟨e,he,hn⟩:=z;exact⟨e,he,Wn T.d hn⟩
 .exfalso;have:=LJ (ys:=t.place.toList) (nodup_range (n:=t.mask+1)) λx hx=>by
   by_cases y:x∈t.place.toList
   .exact y
   .exact absurd ⟨x,by have:=mem_range.mp hx;lia,y⟩ z
  rw[length_range,Array.length_toList,T.z]at this;have:=T.r;lia
section
variable {t:SetTable}{hashAt:Nat->Int}{h:Int}
theorem Wq {f i:Nat}{p:SetTable.Probe}(e:t.slot p.j= .live i)(hh:¬(hashAt i==h)=true):SetTable.probe.go t hashAt h (f+1) p=SetTable.probe.go t hashAt h f (t.advance p):=by
 conv=>lhs;unfold SetTable.probe.go
 rw[e];dsimp only;rw[if_neg hh]
theorem LS {f:Nat}{p:SetTable.Probe}(e:t.slot p.j= .empty):SetTable.probe.go t hashAt h (f+1) p=some (.empty p.j p.dummy):=by unfold SetTable.probe.go;rw[e]
theorem LU (hd:t.dummies=#[])(hh:∀i,i<t.place.size->¬(hashAt i==h)=true):∀{r fuel:Nat}{p:SetTable.Probe},p.more=r->(∃j,SetTable.probe.go t hashAt h (fuel+(r+1)) p=some (.empty j p.dummy))\/SetTable.probe.go t hashAt h (fuel+(r+1)) p=SetTable.probe.go t hashAt h fuel {p with j:=(SetTable.leap t.mask p.i p.perturb).1,more:=SetTable.runEnd t.mask (SetTable.leap t.mask p.i p.perturb).1-(SetTable.leap t.mask p.i p.perturb).1,i:=(SetTable.leap t.mask p.i p.perturb).1,perturb:=(SetTable.leap t.mask p.i p.perturb).2}
 | r,fuel,p,hr=>by
  rw[<-Nat.add_assoc];rcases LR hd (j:=p.j)with⟨i,e⟩|e
  .rw[Wq e (hh i (Wm e))]
   match r,hr with
   |0,hr=>right;unfold SetTable.advance;rw[if_neg (by lia)];rfl
   |r+1,hr=>
    have ea:t.advance p={p with j:=p.j+1,more:=p.more-1}:=by unfold SetTable.advance;rw[if_pos (by lia)]
    rw[ea];exact LU hd hh (r:=r) (fuel:=fuel) (p:={p with j:=p.j+1,more:=p.more-1}) (by show p.more-1=r;lia)
  .exact .inl ⟨_,LS e⟩
theorem LW (mask i:Nat):SetTable.runEnd mask i-i<=9:=by unfold SetTable.runEnd;split<;>lia
theorem LX (hd:t.dummies=#[])(hh:∀i,i<t.place.size->¬(hashAt i==h)=true){e:Nat}(he:t.slot e= .empty):∀{m fuel:Nat}{p:SetTable.Probe},p.j=p.i->p.more<=9->(hV t.mask m (p.i,p.perturb)).1=e->10*m+1<=fuel->∃j,SetTable.probe.go t hashAt h fuel p=some (.empty j p.dummy)
 |0,fuel,p,h1,_,h3,h4=>by have Wr:p.i=e:=h3;obtain⟨f,rfl⟩:∃f,fuel=f+1:=⟨fuel-1,by lia⟩;exact⟨_,LS (by rw[h1,Wr,he])⟩
 |m+1,fuel,p,h1,h2,h3,h4=>by
  obtain⟨f,rfl⟩:∃f,fuel=f+(p.more+1):=⟨fuel-(p.more+1),by lia⟩;rcases LU hd hh (fuel:=f) (p:=p) rfl with x|x
  .exact x
  .rw[x];exact LX hd hh he (m:=m) (p:={p with j:=(SetTable.leap t.mask p.i p.perturb).1,more:=_,i:=(SetTable.leap t.mask p.i p.perturb).1,perturb:=(SetTable.leap t.mask p.i p.perturb).2}) rfl (LW _ _) h3 (by lia)
theorem Ws {n:Nat}(T:tO t n)(hh:∀i,i<t.place.size->¬(hashAt i==h)=true):∃j,t.probe hashAt h (t.probeStart h)=some (.empty j none):=by obtain⟨e,he,hs⟩:=Wo T;obtain⟨m,hm,q⟩:=LP (i:=SetTable.bits h%(t.mask+1)) (p:=SetTable.bits h) T.m (Nat.le_of_lt_succ (Nat.mod_lt _ (succ_pos _))) (LQ h) he;exact LX T.d hh hs (m:=m) (p:=t.probeStart h) rfl (LW _ _) q (by unfold SetTable.turns;lia)
end
section
variable {mask:Nat}
structure Own (mask:Nat)(owner:Array (Option Nat))(k:Nat):Prop where
 s:owner.size=mask+1
 c:owner.toList.countP (·.isSome)=k
 b:∀x,some x∈owner.toList->x<k
theorem LY {owner:Array (Option Nat)}{e:Nat}(he:owner.getD e (some 0)=none):∀{m fuel i p:Nat},(hV mask m (i,p)).1=e->m<fuel->∃j,SetTable.layClean.free mask owner fuel i p=some j/\owner.getD j (some 0)=none
 |m,0,_,_,_,h=>absurd h (Nat.not_lt_zero _)
 | m,fuel+1,i,p,hl,hf=>by
  unfold SetTable.layClean.free;cases hr:(List.range (SetTable.runEnd mask i+1-i)).find? λk=>(owner.getD (i+k) (some 0)).isNone with
  |some k=>dsimp only;exact⟨i+k,rfl,by simpa using find?_some hr⟩
  |none=>
   dsimp only;cases m with
   |zero=>exfalso;have h0:i=e:=hl;have:=List.find?_eq_none.mp hr 0 (mem_range.mpr (by unfold SetTable.runEnd;split<;>lia));rw[Nat.add_zero,h0,he]at this;exact this rfl
   |succ m=>exact LY he (m:=m) (fuel:=fuel) hl (by lia)
theorem Own.more {owner:Array (Option Nat)}{k:Nat}(hm:kU mask)(O:Own mask owner k)(hk:k<=mask)(h:Int):∃j,SetTable.layClean.free mask owner (SetTable.turns mask) (SetTable.bits h%(mask+1)) (SetTable.bits h)=some j/\Own mask (owner.setIfInBounds j (some k)) (k+1):=by
 obtain⟨e,he,en⟩:∃e,e<=mask/\owner.getD e (some 0)=none:=by
  by_cases z:∀x∈owner.toList,x.isSome=true
  .have:=List.countP_eq_length.mpr z;rw[O.c,Array.length_toList,O.s]at this;lia
  .have:∃x∈owner.toList,¬x.isSome=true:=by
    by_cases y:∃x∈owner.toList,¬x.isSome=true
    .exact y
    .exact absurd (λx hx=>by
      by_cases w:x.isSome=true
      .exact w
      .exact absurd ⟨x,hx,w⟩ y) z
   obtain⟨x,hx,hn⟩:=this;obtain⟨e,he,ee⟩:=List.getElem_of_mem hx;rw[Array.length_toList,O.s]at he;refine⟨e,by lia,?_⟩;have:owner[e]?=some x:=by rw[<-Array.getElem?_toList,getElem?_eq_getElem (by rw[Array.length_toList,O.s];exact he),ee]
   rw[Array.getD_eq_getD_getElem?,this];cases x with
   |none=>rfl
   |some _=>exact absurd rfl hn
 obtain⟨m,yJ,q⟩:=LP (i:=SetTable.bits h%(mask+1)) (p:=SetTable.bits h) hm (Nat.le_of_lt_succ (Nat.mod_lt _ (succ_pos _))) (LQ h) he;obtain⟨j,ej,nj⟩:=LY en q (show m<SetTable.turns mask by unfold SetTable.turns;lia);refine⟨j,ej,?_⟩;have lj:j<owner.size:=by
  by_cases z:j<owner.size
  .exact z
  .rw[Array.getD_eq_getD_getElem?,Array.getElem?_eq_none (by lia)]at nj;cases nj
 have gj:owner.toList[j]'(by rw[Array.length_toList];exact lj)=none:=by rw[Array.getD_eq_getD_getElem?,Array.getElem?_eq_getElem lj]at nj;rw[Array.getElem_toList];exact nj
 refine⟨by rw[Array.size_setIfInBounds];exact O.s,?_,λx hx=>?_⟩
 .rw[Array.toList_setIfInBounds,List.countP_set (by rw[Array.length_toList];exact lj),gj,O.c];rfl
 .rw[Array.toList_setIfInBounds]at hx;rcases List.mem_or_eq_of_mem_set hx with hx|hx
  .have:=O.b x hx;lia
  .cases hx;lia
theorem Wt {hashes:Array Int}(hm:kU mask)(hl:hashes.size<=mask):∃owner,SetTable.layClean mask hashes=some owner/\Own mask owner hashes.size:=by
 unfold SetTable.layClean;rw[<-Array.foldl_toList];have all:∀(hs:List Int)(owner:Array (Option Nat))(k:Nat),Own mask owner k->k+hs.length<=mask->∃dA,hs.foldl (λacc h=>do
  let(owner,k)<-acc;let j<-SetTable.layClean.free mask owner (SetTable.turns mask) (SetTable.bits h%(mask+1)) (SetTable.bits h)
  pure (owner.setIfInBounds j (some k),k+1)) (some (owner,k))=some (dA,k+hs.length)/\Own mask dA (k+hs.length):=by
  intro hs;induction hs with
  |nil=>intro owner k O _;exact⟨owner,rfl,O⟩
  |cons h hs ih=>intro owner k O hk;rw[length_cons]at hk;obtain⟨j,ej,O'⟩:=O.more hm (by lia) h;obtain⟨dA,e,O2⟩:=ih _ (k+1) O' (by lia);refine⟨dA,?_,by rw[length_cons,show k+(hs.length+1)=k+1+hs.length by lia];exact O2⟩;rw[foldl_cons,length_cons,show k+(hs.length+1)=k+1+hs.length by lia,<-e];congr 1;show(SetTable.layClean.free mask owner (SetTable.turns mask) (SetTable.bits h%(mask+1)) (SetTable.bits h)).bind _=_;rw[ej];rfl
 obtain⟨owner,e,O⟩:=all hashes.toList (Array.replicate (mask+1) none) 0 ⟨by simp,by simp,λx hx=>by simp at hx⟩ (by rw[zero_add,Array.length_toList];exact hl);rw[zero_add,Array.length_toList]at e O;refine⟨owner,?_,O⟩;rw[e];rfl
theorem Wu {hashes:Array Int}{fi mo:Nat}{led pl:Bool}(hm:kU mask)(hl:hashes.size<=mask):∃t order,SetTable.laid mask fi mo led pl hashes=some (t,order)/\t.mask=mask/\t.dummies=#[]/\t.place.size=hashes.size/\order.size=hashes.size/\∀x∈order.toList,x<hashes.size:=by
 obtain⟨owner,e,O⟩:=Wt hm hl;have el:owner.toList=(List.range (mask+1)).map λj=>owner.getD j none:=by refine List.ext_getElem (by rw[Array.length_toList,O.s,length_map,length_range]) λi h1 h2=>?_;rw[List.getElem_map,List.getElem_range,Array.getD_eq_getD_getElem?,Array.getElem?_eq_getElem (by rw[Array.length_toList]at h1;exact h1)];rfl
 refine⟨_,_,by unfold SetTable.laid;rw[e];rfl,rfl,rfl,?_,?_,λx hx=>?_⟩
 .have c:=O.c;rw[el,List.countP_map]at c;rw[size_toArray,length_map,List.length_filterMap_eq_countP,<-c];refine List.countP_congr λj _=>?_;show((owner.getD j none).map _).isSome=true↔(owner.getD j none).isSome=true;rw[Option.isSome_map]
 .have c:=O.c;rw[el,List.countP_map]at c;rw[size_toArray,length_map,List.length_filterMap_eq_countP,<-c];refine List.countP_congr λj _=>?_;show((owner.getD j none).map _).isSome=true↔(owner.getD j none).isSome=true;rw[Option.isSome_map]
 .rw[List.toList_toArray]at hx;obtain⟨y,hy,rfl⟩:=mem_map.mp hx;obtain⟨j,hj,ej⟩:=mem_filterMap.mp hy;refine O.b _ ?_;rw[el];refine mem_map.mpr ⟨j,hj,?_⟩;cases q:owner.getD j none with
  |none=>rw[q]at ej;cases ej
  |some x=>rw[q]at ej;cases ej;rfl
end
noncomputable def hK (p n:Int):Int:=reduceHash (Builtin.Tuple.tupleHashOf [hashInt p,hashInt n])
noncomputable def pX:List Int:=(List.range 800).map λi=>hK ((i / 100:Nat):Int) ((i%100:Nat):Int)
noncomputable def apart:Nat->List Int->Bool
 |0,xs=>decide (xs.length<=1)
 |n+1,xs=>decide (xs.length<=1)||(apart n ((xs.filter λx=>x%2==0).map (· / 2))&&apart n ((xs.filter λx=>!(x%2==0)).map (· / 2)))
set_option maxRecDepth 100000 in
theorem Wv:apart 40 pX = true:=by decide +kernel
theorem LZ {xs:List Int}(h:xs.length<=1):xs.Nodup:=by match xs,h with
 |[],_=>exact nodup_nil
 |[_],_=>simp
theorem Dq:∀{n:Nat}{xs:List Int},apart n xs=true->xs.Nodup
 |0,xs,h=>LZ (of_decide_eq_true h)
 | n+1,xs,h=>by
  unfold apart at h;rw[Bool.or_eq_true,Bool.and_eq_true]at h;rcases h with h|⟨h1,h2⟩
  .exact LZ (of_decide_eq_true h)
  .have q1:=List.nodup_iff_count.mp (Dq h1);have q2:=List.nodup_iff_count.mp (Dq h2);refine List.nodup_iff_count.mpr λa=>?_;cases z:a%2==0 with
   |true=>rw[<-List.count_filter (p:=λx:Int=>x%2==0) (by simpa using z)];exact le_trans (List.count_le_count_map (f:=λx:Int=>x / 2)) (q1 _)
   |false=>rw[<-List.count_filter (p:=λx:Int=>!(x%2==0)) (by simp[z])];exact le_trans (List.count_le_count_map (f:=λx:Int=>x / 2)) (q2 _)
noncomputable def mE (k:Int×Int):Prop:=0<=k.1/\k.1<8/\0<=k.2/\k.2<100
theorem Ww {a b:Int×Int}(ha:mE a)(hb:mE b)(h:hK a.1 a.2=hK b.1 b.2):a=b:=by
 have at_:∀{c:Int×Int},mE c->pX[(c.1*100+c.2).toNat]?=some (hK c.1 c.2)/\(c.1*100+c.2).toNat<pX.length:=λ{c} ⟨c1,c2,c3,c4⟩=>by
  have hl:pX.length=800:=by unfold pX;rw[length_map,length_range]
  have lt:(c.1*100+c.2).toNat<800:=by lia
  refine⟨?_,by rw[hl];exact lt⟩;unfold pX;rw[getElem?_map,List.getElem?_range lt];show some (hK _ _)=_;have e1:(((c.1*100+c.2).toNat / 100:Nat):Int)=c.1:=by lia
  have e2:(((c.1*100+c.2).toNat%100:Nat):Int)=c.2:=by lia
  rw[e1,e2]
 obtain⟨e1,l1⟩:=at_ ha;obtain⟨e2,l2⟩:=at_ hb;have:=(List.getElem?_inj l1 (Dq Wv)).mp (e1.trans ((congrArg some h).trans e2.symm));obtain⟨a1,a2,a3,a4⟩:=ha;obtain⟨b1,b2,b3,b4⟩:=hb;have x1:a.1=b.1:=by lia
 have x2:a.2=b.2:=by lia
 exact Prod.ext x1 x2
noncomputable def kW (h:Heap)(a:Addr)(n:Nat)(ps:List (Int×Int)):Prop:=∃o es ep t,h.get? a=some o/\o.ExactSet/\o.data= .set es ep t/\es.size=n/\tO t n/\∀e∈es.toList,∃k∈ps,e.1=hK k.1 k.2
theorem tO.fits {t:SetTable}{n:Nat}(T:tO t n):t.fits n=true:=by unfold SetTable.fits SetTable.fill;rw[T.d,T.z];have h1:=T.r;simp;rcases T.m with z|z|z<;>lia
theorem L0 {α:Type}(xs:Array α)(p:Nat)(x:α):(SetTable.insertAt xs p x).size=xs.size+1:=by unfold SetTable.insertAt;simp only[Array.size_append,Array.size_push,Array.size_extract];lia
theorem Wx {α:Type}{xs:Array α}{p:Nat}{x y:α}(h:y∈(SetTable.insertAt xs p x).toList):y∈xs.toList\/y=x:=by
 unfold SetTable.insertAt at h;rw[Array.toList_append,mem_append,Array.toList_push,mem_append,mem_singleton,Array.toList_extract,Array.toList_extract]at h;rcases h with(h|h)|h
 .exact .inl (List.mem_of_mem_drop (List.mem_of_mem_take h))
 .exact .inr h
 .exact .inl (List.mem_of_mem_drop (List.mem_of_mem_take h))
section
variable {prog:Program}{w:World}{A:Around}{E:Value->Shared->Prop}{s:Shared}{a:Addr}
theorem kW.keep {h h':Heap}{n:Nat}{ps:List (Int×Int)}(x:kW h a n ps)(k:∀o,h.get? a=some o->h'.get? a=some o):kW h' a n ps:=by obtain⟨o,es,ep,t,e,r⟩:=x;exact⟨o,es,ep,t,k o e,r⟩
theorem Wy {b:Addr}{p n:Int}{Q:Bool->Shared->Prop}(hb:IsTupleKey (qg prog w) s.heap [.inl p,.inl n] b)(h:∀r,Q r s):wpAny (model prog w) A (hashByValue 8 (.ref b)) Q E s:=by
 have hT:=hb.typeIs;obtain⟨o,items,m,ho,_,hd,hi⟩:=hb;unfold hashByValue;refine wpAny_bind (wpAny_specialOf hT F.slot_tuple_hash.lookup ?_);dsimp only;refine wpAny_bind (wpAny_seqItems ho hd ?_);refine wpAny_bind ?_;show wpAny _ _ (forIn items _ _) _ _ s;rw[<-Array.forIn_toList];generalize items.toList=l at hi;have all:∀v∈l,hashByValue 7 v=pure true:=by
  cases hi with
  | cons h1 r=>
   cases r with
   | cons h2 r=>
    cases r;intro v hv;rcases zq (k:=.inl p) h1 with⟨i,t,e,rfl⟩|⟨x,t,e,rfl⟩
    .rcases zq (k:=.inl n) h2 with⟨j,u,e',rfl⟩|⟨x,t,e',rfl⟩
     .rcases mem_cons.mp hv with rfl|hv
      .rfl
      .rw[mem_singleton.mp hv];rfl
     .cases e'
    .cases e
 refine wpAny_forIn_list _ (λrest r s'=>r.1=none/\s'=s/\∀v∈rest,hashByValue 7 v=pure true) _ ?_ ?_ _ _ ⟨rfl,rfl,all⟩
 .rintro v rest r s' ⟨hr,rfl,ha⟩
  refine wpAny_bind (wpAny_of_eq (ha v mem_cons_self) (wpAny_pure ?_));simp only[Bool.not_true,Bool.false_eq_true,if_false];exact⟨trivial,trivial,λu ay=>ha u (mem_cons_of_mem _ ay)⟩
 .rintro⟨r1,r2⟩ s' ⟨hr,rfl,_⟩
  simp only at hr;subst hr;exact wpAny_pure (h _)
theorem Wz {b:Addr}{k:Int×Int}{n:Nat}{ps:List (Int×Int)}{Q:Bool->Shared->Prop}(hb:IsTupleKey (qg prog w) s.heap [.inl k.1,.inl k.2] b)(S:kW s.heap a n ps)(hn:n<70)(hk:mE k)(hp:∀x∈ps,mE x/\x≠k)(h:∀h',Heap.SameBut a s.heap h'->kW h' a (n+1) (ps++[k])->Q true {s with heap:=h'}):wpAny (model prog w) A (setAddHashed a (.ref b) (hK k.1 k.2)) Q E s:=by
 obtain⟨o,es,ep,t,ho,hex,hd,hz,T,he⟩:=S;have hf:t.fits es.size=true:=by rw[hz];exact T.fits
 have line:∀n:Nat,n<=200->n<=sizeLine:=λn hn=>by rw[sizeLine_eq];lia
 have hh:∀i,i<t.place.size->∀x,(es[i]?.map (·.1)).getD 0=x->¬(x==hK k.1 k.2)=true:=λi hi x e z=>by rw[T.z,<-hz]at hi;rw[Array.getElem?_eq_getElem hi]at e;obtain⟨y,hy,ey⟩:=he es[i] (by rw[<-Array.mem_def];exact Array.getElem_mem hi);have e':es[i].1=x:=e;rw[<-e',ey]at z;exact(hp y hy).2 (Ww (hp y hy).1 hk (eq_of_beq z))
 have odd:t.gaveWay=false:=by unfold SetTable.gaveWay;rcases T.m with z|z|z<;>rw[z]<;>rfl
 refine wpAny_holding ?_;unfold setAddHashedIn;refine wpAny_bind (wpAny_setState_of ho hd hf ?_);dsimp only;rw[if_neg (show¬byScan (.ref b) es=true by unfold byScan Value.scannable;simp)];refine wpAny_bind ?_;unfold setSearch setSearchFrom;refine wpAny_bind (wpAny_setState_of ho hd hf ?_);dsimp only;rw[odd];obtain⟨j,ej⟩:=Ws (h:=hK k.1 k.2) T (hashAt:=λi=>(es[i]?.map (·.1)).getD 0) λi hi=>hh i hi _ rfl;rw[if_neg (by decide)];generalize hq:t.probe _ _ (none.getD _)=q;have eq:q=some (.empty j none):=hq.symm.trans ej;subst eq;dsimp only;refine wpAny_pure ?_;dsimp only;refine wpAny_bind (wpAny_setState_of ho hd hf ?_);dsimp only;have keep:∀(t1:SetTable),t1.place=(t.put j).1.place->t1.dummies=(t.put j).1.dummies->t1.mask=t.mask->t1.led=t.led->wpAny (model prog w) A (do
   storeSet a (SetTable.insertAt es (t.put j).2 (hK k.1 k.2,Value.ref b)) t1
   if(!false&&t1.tooFull)=true then setRelay a (SetTable.grown (es.size+1))
   return true) Q E s:=λt1 q1 q2 q3 _=>by
  have tP:=L0 es (t.put j).2 (hK k.1 k.2,Value.ref b);have p1:t1.place.size=n+1:=by rw[q1];show(SetTable.insertAt t.place _ j).size=n+1;rw[L0,T.z]
  have d1:t1.dummies=#[]:=by
   rw[q2];show(if SetTable.has t.dummies j=true then SetTable.eraseAt t.dummies (SetTable.below t.dummies j)else t.dummies)=#[];have:SetTable.has t.dummies j=false:=by unfold SetTable.has;rw[T.d];rfl
   rw[this,if_neg (by decide),T.d]
  have m1:=T.m;have r1:=T.r;have f1:t1.fits (SetTable.insertAt es (t.put j).2 (hK k.1 k.2,Value.ref b)).size=true:=by unfold SetTable.fits SetTable.fill;rw[tP,hz,p1,d1,q3];simp;rcases m1 with z|z|z<;>lia
  have e1:∀e∈(SetTable.insertAt es (t.put j).2 (hK k.1 k.2,Value.ref b)).toList,∃x∈ps++[k],e.1=hK x.1 x.2:=λe hm=>by
   rcases Wx hm with hm|rfl
   .obtain⟨x,hx,ex⟩:=he e hm;exact⟨x,mem_append_left _ hx,ex⟩
   .exact⟨k,mem_append_right _ (mem_singleton.mpr rfl),rfl⟩
  generalize SetTable.insertAt es (t.put j).2 (hK k.1 k.2,Value.ref b)=oA at*;rw[hz]at tP;refine wpAny_bind (wpAny_storeSet_of ho hd ?_ (line _ (by lia)));have kP:=Heap.get?_update_self (Obj.putSet oA t1) ho (by rw[putSet_of _ _ hd];rfl);rw[putSet_of _ _ hd]at kP;by_cases full:t1.tooFull=true
  .rw[full];show wpAny _ _ (setRelay a (SetTable.grown (es.size+1)) >>= _) _ _ _;have cH:t1.mask*3<=t1.fill*5:=by
    unfold SetTable.tooFull at full;exact of_decide_eq_true full
   unfold SetTable.fill at cH;rw[p1,d1,q3]at cH;simp at cH;obtain⟨M,hM,eM,lM,nM⟩:∃M,kU M/\SetTable.sizeAbove (SetTable.grown (es.size+1))=M+1/\n+1<=M/\5*(n+1)<3*M:=by
    rcases m1 with z|z|z
    .have:n=4:=by lia
     rw[hz,this];exact⟨31,.inr (.inl rfl),by decide,by lia,by lia⟩
    .have:n=18:=by lia
     rw[hz,this];exact⟨127,.inr (.inr rfl),by decide,by lia,by lia⟩
    .omega
   unfold setRelay;refine wpAny_bind (wpAny_bind (wpAny_setState_of kP rfl f1 ?_));dsimp only;rw[eM,if_neg (by rw[sizeLine_eq];rcases hM with z|z|z<;>lia)];obtain⟨t2,order,el,a1,a2,a3,a4,a5⟩:=Wu (mask:=M) (hashes:=oA.map (·.1)) (fi:=t1.finger) (mo:=t1.movedTo M) (led:=t1.led) (pl:=t1.plain) hM (by rw[Array.size_map];lia);rw[Array.size_map]at a3 a4 a5;generalize hq:SetTable.relaid _ _ _=q;have eq:q=some (t2,order):=by rw[<-hq];unfold SetTable.relaid;rw[eM];exact el
   subst eq;have sz:(order.filterMap (oA[·]?)).size=oA.size:=by rw[<-Array.length_toList,Array.toList_filterMap,List.length_filterMap_eq_countP,<-a4,<-Array.length_toList];refine List.countP_eq_length.mpr λx hx=>?_;rw[Array.getElem?_eq_getElem (a5 x hx)];rfl
   refine wpAny_bind ?_;show wpAny _ _ (if((order.filterMap (oA[·]?)).size != oA.size)=true then _ else _) _ _ _;rw[if_neg (by rw[sz];simp)];refine wpAny_pure ?_;refine wpAny_storeSet_of kP rfl ?_ (line _ (by rw[sz];lia));have pW:=Heap.get?_update_self (Obj.putSet (order.filterMap (oA[·]?)) t2) kP (by rw[putSet_of _ _ rfl];rfl);rw[putSet_of _ _ rfl]at pW;refine wpAny_pure (h _ ((Heap.SameBut.update _ a _).trans (Heap.SameBut.update _ a _)) ⟨_,_,_,t2,pW,hex,rfl,by rw[sz,tP],⟨a2,by rw[a3,tP],by rw[a1];exact nM,by rw[a1];exact hM⟩,λe hm=>?_⟩);rw[Array.toList_filterMap]at hm;obtain⟨x,_,ex⟩:=mem_filterMap.mp hm;exact e1 e (by rw[<-Array.mem_def];exact Array.mem_of_getElem? ex)
  .rw[Bool.eq_false_iff.mpr full];show wpAny _ _ (pure true) _ _ _;have cH:¬t1.mask*3<=t1.fill*5:=by
    unfold SetTable.tooFull at full;exact λz=>full (decide_eq_true z)
   unfold SetTable.fill at cH;rw[p1,d1,q3]at cH;simp at cH;exact wpAny_pure (h _ (Heap.SameBut.update _ a _) ⟨_,_,_,t1,kP,hex,rfl,tP,⟨d1,p1,by rw[q3];lia,by rw[q3];exact m1⟩,e1⟩)
 refine wpAny_ite_split (λ_=>wpAny_bind (Wy hb λr=>keep (if r=true then(t.put j).1 else{(t.put j).1 with plain:=false}) ?_ ?_ ?_ ?_)) λ_=>wpAny_bind (wpAny_pure (keep (t.put j).1 rfl rfl rfl rfl));all_goals cases r<;>rfl
theorem WB (k:Int×Int):tupleKeyHash (qg prog w) [.inl k.1,.inl k.2]=hK k.1 k.2:=rfl
structure Dr (s:Shared)(l it S:Addr)(ks:List (Int×Int))(i:Nat)(s':Shared):Prop where
 same:s'={s with heap:=s'.heap,toks:=s'.toks}
 it:s'.heap.IsListIter it l i
 old:∀b o,s.heap.get? b=some o->s'.heap.get? b=some o
 le:i<=ks.length
 set:kW s'.heap S i (ks.take i)
theorem WC {l it S:Addr}{vs:List Value}{ks:List (Int×Int)}{R:Result->Shared->Prop}(hh:A.handled=none)(hu:A.units+2<cLine)(hl:s.heap.IsList l vs.toArray)(hI:Paired (λv (k:Int×Int)=>∃b,v= .ref b/\IsTupleKey (qg prog w) s.heap [.inl k.1,.inl k.2] b) vs ks)(hz:ks.length<70)(nd:ks.Nodup)(hp:∀k∈ks,mE k)(hit:∀o,s.heap.get? it≠some o)(hS:∀o,s.heap.get? S≠some o)(Du:it≠S)(hR:∀h' tk,kW h' S ks.length ks->(∀b o,s.heap.get? b=some o->h'.get? b=some o)->R (.ok (.ret .none)) {s with heap:=h',toks:=tk}){s1:Shared}(h1:Dr s l it S ks 0 s1):
  codeAny (model prog w) A (.builtin "set.update.loop" ⟨[.ref S,.ref it],[]⟩) R s1:=by
 have si:vs.length=ks.length:=Paired.length hI;refine codeAny_loop (plainId_quiet F.plain_set_update_loop _) (λn s'=>∃i,n=ks.length-i/\Dr s l it S ks i s') (λn s' ⟨i,en,M⟩=>?_) ks.length ⟨0,by simp,h1⟩;rw[Around.under_plainId F.plain_set_update_loop,Ur F.entry_set_update_loop];have xI:s'.heap.IsList l vs.toArray:=by obtain⟨o,ho,r⟩:=hl;exact⟨o,M.old l o ho,r⟩
 show wpAny _ A.in1 (pyNext (.ref it) >>= _) _ _ s';by_cases hi:i<ks.length
 .obtain⟨v,hv⟩:∃v,vs[i]?=some v:=⟨vs[i]'(by lia),by simp[si,hi]⟩;have hk:ks[i]?=some ks[i]:=getElem?_eq_getElem hi;obtain⟨k',fU,b,rfl,hb⟩:=qd hI hv;rw[hk]at fU;have Dv:=Option.some.inj fU;subst Dv;have hm:ks[i]∈ks:=List.getElem_mem hi;refine wpAny_bind (wpAny_pyNext_list_item M.it xI (by simpa using hv) λh2 i2 sb=>?_);have tQ:∀b o,s.heap.get? b=some o->h2.get? b=some o:=λb o e=>(sb.2 b (λq=>hit o (by rw[<-q];exact e))).trans (M.old b o e);have L6:IsTupleKey (qg prog w) h2 [.inl ks[i].1,.inl ks[i].2] b:=by
   obtain⟨o,its,m,ho,r⟩:=hb;exact⟨o,its,m,tQ b o ho,r⟩
  show wpAny _ A.in1 (holding [Value.ref b] (setAdd S (.ref b)) >>= _) _ _ _;refine wpAny_bind (wpAny_holding (wpAny_holding (wpAny_bind (wpAny_pyHash_tuple (by first|(have e:A.in1.units=A.units:=rfl;lia)|(have e:A.in1.units=A.units+1:=rfl;lia)) L6 ?_))));rw[WB];refine Wz (n:=i) (ps:=ks.take i) (s:={s' with heap:=h2,toks:=s'.toks+_}) L6 (M.set.keep λo e=>(sb.2 S (Ne.symm Du)).trans e) (by lia) (hp _ hm) (λx hx=>⟨hp x (List.mem_of_mem_take hx),λz=>?_⟩) λh3 L7 WD=>?_
  .obtain⟨m,yJ,em⟩:=List.getElem_of_mem hx;rw[length_take]at yJ;rw[List.getElem_take,z]at em;have:=(List.getElem?_inj (show m<ks.length by lia) nd).mp ((getElem?_eq_getElem (by lia)).trans ((congrArg some em).trans hk.symm));lia
  refine wpAny_pure ⟨rfl,ks.length-(i+1),by lia,i+1,rfl,?_,i2.at λo q=>(L7.2 it Du).trans q,λb o e=>(L7.2 b (λq=>hS o (by rw[<-q];exact e))).trans (tQ b o e),hi,?_⟩
  .rw[M.same]
  .rw[List.take_succ,hk];exact WD
 .have ei:i=ks.length:=by have:=M.le;lia
  subst ei;refine wpAny_bind (wpAny_pyNext_list_end hh M.it xI (by simp;lia) λh2 eb=>?_);refine wpAny_pure ?_;have:=hR h2 s'.toks (by have:=M.set;rw[take_length]at this;exact this.keep λo e=>eb S o (Ne.symm Du) e) (λb o e=>eb b o (λq=>hit o (by rw[<-q];exact e)) (M.old b o e));rw[M.same];exact this
set_option maxHeartbeats 4000000 in
theorem WE {l:Addr} {vs:List Value} {ks:List (Int × Int)} {Q:Value -> Shared -> Prop} (hh:A.handled = none) (hu:A.units + 64 < cLine) (hl:s.heap.IsList l vs.toArray) (hI:Paired (λv (k:Int × Int)=>∃ b,v = .ref b /\ IsTupleKey (qg prog w) s.heap [.inl k.1,.inl k.2] b) vs ks)
  (hz:ks.length < 70) (nd:ks.Nodup) (hp : ∀ k ∈ ks,mE k)
  (h : ∀ h' tk,kW h' s.heap.objs.size ks.length ks -> (∀ b o,s.heap.get? b = some o -> h'.get? b = some o) -> Q (.ref s.heap.objs.size) { s with heap:=h',toks:=tk }) :
  wpAny (model prog w) A (call (.type "set") [.ref l]) Q E s:=by
 have cs:=F.called_set
 obtain ⟨c,tl,m1⟩:=cs.mro
 have m2:=cs.made
 have m3:=cs.sub
 have m4:=cs.notType
 have m5:=cs.canCreate
 have m6:=F.typeCall_set_1 (.ref l)
 refine wpAny_call (codeAny_of_tree ?_)
 refine wpAny_pure ⟨Code.quiet_builtin _ (by decide +kernel),codeAny_builtin F.entry_type_call ?_⟩
 rw [Around.under_plain (weight_type_call_type "set" [.ref l] []) rfl]
 repeat (any_goals (first | assumption | wp_step))
 refine UM ?_
 have L8:(s.heap.push (kQ w)).get? s.heap.objs.size = some (kQ w):=Heap.get?_push_size _ rfl
 have hT:Shared.TypeIs { s with heap:=s.heap.push (kQ w) } (.ref s.heap.objs.size) "set" := ⟨_,L8,rfl⟩
 have m7:=cs.init.lookup
 have m8:=cs.init.bind (.ref s.heap.objs.size)
 dsimp only
 repeat (any_goals (first | assumption | wp_step))
 refine codeAny_call_builtin cs.init.plain F.entry_set_init (check_set_init_1 hT ?_)
 obtain ⟨ol,WH,WI,nl,hdl⟩:=id hl
 have WJ:(s.heap.push (kQ w)).IsList l vs.toArray:=hl.push _
 have WK:Shared.TypeIs { s with heap:=s.heap.push (kQ w) } (.ref l) "list" := ⟨ol,Heap.get?_push_of_some _ WH,WI⟩
 have n1:=F.sub_list_set
 have n2:=F.sub_list_frozenset
 unfold Builtin.«set.__init__» noKeywords Builtin.Frozenset.updateFrom
 generalize WL:pyIter = PI
 wp_walk using wpAny_typeOf WK
 subst WL
 have hsz:(s.heap.push (kQ w)).objs.size = s.heap.objs.size + 1:=Heap.size_push ..
 refine wpAny_pyIter_list WJ (wpAny_bind (wpAny_runValue ?_))
 show codeAny (model prog w) A.in1.in1 (.builtin "set.update.loop" ⟨[.ref s.heap.objs.size,.ref (s.heap.push (kQ w)).objs.size],[]⟩) _ _
 rw [hsz]
 have fr : ∀ {b:Addr},s.heap.objs.size <= b -> ∀ o,s.heap.get? b ≠ some o:=λ{b} z o e=>absurd (Heap.lt_size e) (Nat.not_lt.mpr z)
 have Uq:Dr s l (s.heap.objs.size + 1) s.heap.objs.size ks 0 { s with heap:=(s.heap.push (kQ w)).push { cls:=.type "list_iterator",data:=.fields #[.ref l,.int 0 0] } }:=
  ⟨rfl,⟨_,hsz ▸ Heap.get?_push_size _ rfl,rfl,rfl⟩,λb o e=>Heap.get?_push_of_some _ (Heap.get?_push_of_some _ e),zero_le _,⟨_,#[],0,K5 (K6 w) [],Heap.get?_push_of_some _ L8,⟨rfl,rfl,rfl⟩,rfl,rfl,⟨rfl,rfl,by show 5 * 0 < 3 * 7; decide,.inl rfl⟩,λe he=>by simp at he⟩⟩
 refine WC (A:=A.in1.in1) (prog:=prog) (s:=s) (show A.in1.in1.handled = none from hh) (by first | (have e:A.in1.in1.units = A.units:=rfl; lia) | (have e:A.in1.in1.units = A.units + 1 + 1:=rfl; lia)) hl hI hz nd hp (fr (le_succ _)) (fr (le_refl _)) (Nat.ne_of_gt (lt_succ_self _)) (λh' tk a3 a4=>?_) Uq
 exact wpAny_pure (wpAny_pure (wpAny_pure (wpAny_pure (h h' tk a3 a4))))
end
noncomputable def mF (a:Addr)(n:Nat):HO:=.ext λh=>∃ps,kW h a n ps
section
variable {X:Cx}
theorem WM (hc:X.calm=true)(hu:X.A.units+64<cLine):dW X (.type "set") (λxs H Q=>∃(p:Addr)(vs:List V)(ks:List (Int×Int)),xs=[.ref p]/\ag X.K H p vs/\iI X.K H vs (ks.map λk=>[k.1,k.2])/\ks.length<70/\ks.Nodup/\(∀k∈ks,mE k)/\∀q,H q=none->Q (.ref q) (upd H q (mF q ks.length))):=by
 intro pins s U H xs us Q I r h;obtain⟨p,vs,ks,rfl,hq,ht,hz,nd,hp,q⟩:=h;obtain⟨u,rfl,rx⟩:=vals1 r;cases rx;obtain⟨its,r',pl,_⟩:=I.list hq;have hI:Paired (λu (k:Int×Int)=>∃b,u=Value.ref b/\IsTupleKey (qg X.prog X.w) s.heap [.inl k.1,.inl k.2] b) its ks:=KW (F:=RelV) (G:=λv (k:Int×Int)=>∃a,v= .ref a/\aw X.K H a ([k.1,k.2].map V.int)) (λv u k hv hu=>by
  obtain⟨a,rfl,ha⟩:=hu;cases hv;obtain⟨ys,ry,⟨o,ho,hc,n,hd⟩,_⟩:=I.tuple ha;refine⟨a,rfl,o,ys.toArray,n,ho,hc,hd,?_⟩;cases ry with
  |cons x1 r=>
   cases r with
   |cons x2 r=>cases r;obtain⟨t1,e1⟩:=x1;obtain⟨t2,e2⟩:=x2;subst e1;subst e2;exact .cons (intKind_is X.prog X.w k.1 t1) (.cons (intKind_is X.prog X.w k.2 t2) .nil)) r' (by
  have all:∀{vs:List V}{ks:List (Int×Int)},iI X.K H vs (ks.map λk=>[k.1,k.2])->Paired (λv (k:Int×Int)=>∃a,v= .ref a/\aw X.K H a ([k.1,k.2].map V.int)) vs ks:=λ{vs ks} h=>by
   induction ks generalizing vs with
   |nil=>cases h;exact .nil
   |cons k ks ih=>
    cases h with
    |cons a r=>exact .cons a (ih r)
  exact all ht)
 refine WE (I.ok.hd hc) hu pl.isList hI hz nd hp λh' tk a3 a4=>?_;have hn:H s.heap.objs.size=none:=I.fresh;obtain⟨o,_,_,_,ho,_⟩:=id a3;exact⟨.ref s.heap.objs.size,_,I.laid (a:=s.heap.objs.size) (o:=mF s.heap.objs.size ks.length) (t':=tk) a4 (le_refl _) ⟨⟨ks,a3⟩,⟨o,ho⟩,λh1 h2 ⟨ps,x⟩ k=>⟨ps,x.keep k⟩⟩,rfl,q _ hn⟩
theorem WN:dW X (.builtin "len") (λxs H Q=>∃(p:Addr)(n:Nat),xs=[.ref p]/\H p=some (mF p n)/\n<70/\Q (.int n) H):=by intro pins s U H xs us Q I r h;obtain⟨p,n,rfl,hq,hn,q⟩:=h;obtain⟨u,rfl,rx⟩:=vals1 r;cases rx;obtain⟨⟨ps,o,es,ep,t,ho,hex,hd,hz,T,_⟩,_,_⟩:=I.af p _ hq;refine call_len_set ho hex hd (by rw[hz];exact T.fits) (by rw[hz];lia) ?_;rw[hz];exact⟨.int n,H,I.tok _,⟨_,rfl⟩,q⟩
end
end L2
set_option Elab.async false
set_option linter.all false
set_option maxRecDepth 100000
namespace M
structure O where
 p:Int
 n:Int
 g:Int
 m:Int
 deriving DecidableEq
noncomputable def y4 (q:Int)(o:O):Bool:=decide (0<=o.p/\o.p<=q-1/\0<=o.g/\o.g<=q-1/\o.p≠o.g/\0<=o.n/\o.n<=99/\1<=o.m/\o.m<=1000)
theorem mG {q:Int}{o:O}:y4 q o=true↔(0<=o.p/\o.p<=q-1/\0<=o.g/\o.g<=q-1/\o.p≠o.g/\0<=o.n/\o.n<=99/\1<=o.m/\o.m<=1000):=by unfold y4;rw[decide_eq_true_iff]
end M
namespace M
open PySem L2
theorem cI:0<=sizeLine:=by decide
theorem oB:1<=sizeLine:=by decide
theorem kX:2<=sizeLine:=by decide
theorem kY:3<=sizeLine:=by decide
theorem Dw:4<=sizeLine:=by decide
theorem WO:5<=sizeLine:=by decide
theorem WQ:6<=sizeLine:=by decide
theorem WR:7<=sizeLine:=by decide
theorem WS:9<=sizeLine:=by decide
theorem L9:11<=sizeLine:=by decide
theorem y3 {X:Cx}{e0 e1:Expr}{t0 t1:TE}(h0:PE X e0 t0)(h1:PE X e1 t1)(s0:autoParam (isStar e0=false) aP1)(s1:autoParam (isStar e1=false) aP1):PA X [e0,e1] (vp t0 (vp t1 kH)):=by refine jc h0 ?_ s0;refine jc h1 ?_ s1;exact jf
theorem bW {X:Cx}{e0 e1 e2:Expr}{t0 t1 t2:TE}(h0:PE X e0 t0)(h1:PE X e1 t1)(h2:PE X e2 t2)(s0:autoParam (isStar e0=false) aP1)(s1:autoParam (isStar e1=false) aP1)(s2:autoParam (isStar e2=false) aP1):PA X [e0,e1,e2] (vp t0 (vp t1 (vp t2 kH))):=by refine jc h0 ?_ s0;refine jc h1 ?_ s1;refine jc h2 ?_ s2;exact jf
theorem Dx {X:Cx}{e0 e1 e2 e3:Expr}{t0 t1 t2 t3:TE}(h0:PE X e0 t0)(h1:PE X e1 t1)(h2:PE X e2 t2)(h3:PE X e3 t3)(s0:autoParam (isStar e0=false) aP1)(s1:autoParam (isStar e1=false) aP1)(s2:autoParam (isStar e2=false) aP1)(s3:autoParam (isStar e3=false) aP1):PA X [e0,e1,e2,e3] (vp t0 (vp t1 (vp t2 (vp t3 kH)))):=by refine jc h0 ?_ s0;refine jc h1 ?_ s1;refine jc h2 ?_ s2;refine jc h3 ?_ s3;exact jf
theorem Dy {X:Cx}{e0 e1 e2 e3 e4:Expr}{t0 t1 t2 t3 t4:TE}(h0:PE X e0 t0)(h1:PE X e1 t1)(h2:PE X e2 t2)(h3:PE X e3 t3)(h4:PE X e4 t4)(s0:autoParam (isStar e0=false) aP1)(s1:autoParam (isStar e1=false) aP1)(s2:autoParam (isStar e2=false) aP1)(s3:autoParam (isStar e3=false) aP1)(s4:autoParam (isStar e4=false) aP1):PA X [e0,e1,e2,e3,e4] (vp t0 (vp t1 (vp t2 (vp t3 (vp t4 kH))))):=by refine jc h0 ?_ s0;refine jc h1 ?_ s1;refine jc h2 ?_ s2;refine jc h3 ?_ s3;refine jc h4 ?_ s4;exact jf
theorem WT {X:Cx}{e0 e1 e2 e3 e4 e5 e6:Expr}{t0 t1 t2 t3 t4 t5 t6:TE}(h0:PE X e0 t0)(h1:PE X e1 t1)(h2:PE X e2 t2)(h3:PE X e3 t3)(h4:PE X e4 t4)(h5:PE X e5 t5)(h6:PE X e6 t6)(s0:autoParam (isStar e0=false) aP1)(s1:autoParam (isStar e1=false) aP1)(s2:autoParam (isStar e2=false) aP1)(s3:autoParam (isStar e3=false) aP1)(s4:autoParam (isStar e4=false) aP1)(s5:autoParam (isStar e5=false) aP1)(s6:autoParam (isStar e6=false) aP1):PA X [e0,e1,e2,e3,e4,e5,e6] (vp t0 (vp t1 (vp t2 (vp t3 (vp t4 (vp t5 (vp t6 kH))))))):=by refine jc h0 ?_ s0;refine jc h1 ?_ s1;refine jc h2 ?_ s2;refine jc h3 ?_ s3;refine jc h4 ?_ s4;refine jc h5 ?_ s5;refine jc h6 ?_ s6;exact jf
theorem WU {X:Cx}{e0 e1 e2 e3 e4 e5 e6 e7 e8 e9 Dz:Expr}{t0 t1 t2 t3 t4 t5 t6 t7 t8 t9 DA:TE}(h0:PE X e0 t0)(h1:PE X e1 t1)(h2:PE X e2 t2)(h3:PE X e3 t3)(h4:PE X e4 t4)(h5:PE X e5 t5)(h6:PE X e6 t6)(h7:PE X e7 t7)(h8:PE X e8 t8)(h9:PE X e9 t9)(WV:PE X Dz DA)(s0:autoParam (isStar e0=false) aP1)(s1:autoParam (isStar e1=false) aP1)(s2:autoParam (isStar e2=false) aP1)(s3:autoParam (isStar e3=false) aP1)(s4:autoParam (isStar e4=false) aP1)(s5:autoParam (isStar e5=false) aP1)(s6:autoParam (isStar e6=false) aP1)(s7:autoParam (isStar e7=false) aP1)(s8:autoParam (isStar e8=false) aP1)(s9:autoParam (isStar e9=false) aP1)(fq:autoParam (isStar Dz=false) aP1):PA X [e0,e1,e2,e3,e4,e5,e6,e7,e8,e9,Dz] (vp t0 (vp t1 (vp t2 (vp t3 (vp t4 (vp t5 (vp t6 (vp t7 (vp t8 (vp t9 (vp DA kH))))))))))):=by refine jc h0 ?_ s0;refine jc h1 ?_ s1;refine jc h2 ?_ s2;refine jc h3 ?_ s3;refine jc h4 ?_ s4;refine jc h5 ?_ s5;refine jc h6 ?_ s6;refine jc h7 ?_ s7;refine jc h8 ?_ s8;refine jc h9 ?_ s9;refine jc WV ?_ fq;exact jf
noncomputable def top (i:Nat):Stmt:=PySem.Challenge.pw_manypurses_k03_whole_one_paper.main.body.getD i (.Pass ⟨0,0,0,0⟩)
noncomputable abbrev yK:Stmt:=top 2
noncomputable abbrev yL:Stmt:=top 3
noncomputable abbrev yM:Stmt:=top 30
noncomputable abbrev yN:Stmt:=top 31
noncomputable abbrev tR:Stmt:=top 4
noncomputable abbrev uv:Stmt:=top 5
abbrev gs:Stmt:=top 9
noncomputable abbrev yO:Stmt:=top 10
noncomputable abbrev DB:Stmt:=top 11
noncomputable abbrev DC:Stmt:=top 12
noncomputable abbrev yP:Stmt:=top 44
noncomputable abbrev gw:Stmt:=top 45
noncomputable abbrev va:Stmt:=inClass (top 19) 0
noncomputable abbrev yQ:Stmt:=top 35
noncomputable abbrev DD:Stmt:=top 49
noncomputable abbrev DE:Stmt:=top 50
noncomputable abbrev yR:Stmt:=top 51
noncomputable abbrev yi:Stmt:=top 32
noncomputable abbrev yS:Stmt:=top 33
noncomputable abbrev kb:Stmt:=inClass (top 36) 0
noncomputable abbrev vb:Stmt:=inClass (top 36) 4
noncomputable abbrev tS:Stmt:=inClass (top 36) 1
noncomputable abbrev yT:Stmt:=inClass (top 36) 5
noncomputable abbrev y7:Stmt:=inClass (top 36) 2
noncomputable abbrev wg:Stmt:=inClass (top 36) 3
noncomputable abbrev yU:Stmt:=inClass (top 38) 0
noncomputable abbrev yV:Stmt:=inClass (top 38) 1
noncomputable abbrev tT:Stmt:=inClass (top 38) 2
noncomputable abbrev tU:Stmt:=inClass (top 38) 3
noncomputable abbrev wq:Stmt:=inClass (top 40) 0
noncomputable abbrev gy:Stmt:=inClass (top 40) 2
noncomputable abbrev xh:Stmt:=inClass (top 40) 8
noncomputable abbrev xr:Stmt:=inClass (top 40) 7
noncomputable abbrev gm:Stmt:=inClass (top 40) 6
noncomputable abbrev yW:Stmt:=inClass (top 40) 3
noncomputable abbrev yt:Stmt:=inClass (top 40) 4
noncomputable abbrev DF:Stmt:=inClass (top 52) 0
noncomputable abbrev yX:Stmt:=inClass (top 52) 7
noncomputable abbrev yY:Stmt:=inClass (top 52) 1
noncomputable abbrev yZ:Stmt:=inClass (top 52) 13
noncomputable abbrev zA:Stmt:=inClass (top 52) 15
noncomputable abbrev wc:Stmt:=inClass (top 52) 20
noncomputable abbrev ui:Stmt:=inClass (top 52) 12
noncomputable abbrev wo:Stmt:=inClass (top 52) 14
noncomputable abbrev ym:Stmt:=inClass (top 52) 22
noncomputable abbrev yo:Stmt:=inClass (top 52) 23
noncomputable abbrev yr:Stmt:=inClass (top 52) 24
noncomputable abbrev y9:Stmt:=inClass (top 52) 21
noncomputable abbrev zt:Stmt:=inClass (top 52) 19
noncomputable abbrev yf:Stmt:=inClass (top 52) 18
noncomputable abbrev tV:Stmt:=inClass (top 52) 3
noncomputable abbrev zB:Stmt:=inClass (top 52) 4
noncomputable abbrev zC:Stmt:=inClass (top 52) 5
noncomputable abbrev zE:Stmt:=inClass (top 52) 6
noncomputable abbrev tW:Stmt:=inClass (top 52) 8
noncomputable abbrev gg:Stmt:=top 54
noncomputable abbrev zF:Stmt:=top 56
noncomputable abbrev tX:Stmt:=top 57
noncomputable abbrev zG:Stmt:=top 58
noncomputable abbrev gh:Stmt:=top 59
noncomputable abbrev tY:Stmt:=top 60
noncomputable abbrev tZ:Stmt:=top 61
noncomputable abbrev uA:Stmt:=top 62
noncomputable abbrev uB:Stmt:=top 63
noncomputable abbrev uC:Stmt:=top 64
noncomputable abbrev uD:Stmt:=top 65
noncomputable abbrev uE:Stmt:=top 66
theorem uF:qi ["thing","purses","purse","number","goal","much"] ["thing","purses"] (ju yM):=bT
theorem zH:qi ["things","bound","least","thing"] ["things","bound"] (ju tR):=bT
theorem DG:qi ["paper","houses","few","purses","order","signers"] ["paper","houses","few","purses"] (ju yQ):=bT
theorem y6:qi ["orders","firsts","found","order"] ["orders"] (ju yi):=bT
theorem Ma:qi ["houses","few","shared"] ["houses","few"] (ju yS):=bT
theorem Mb:qi ["self","house","thing","houses"] ["self","house","thing"] (ju tS):=bT
theorem gp:qi ["self","order","purse","number","goal","much"] ["self","order"] (ju tT):=bT
theorem gk:qi ["self","order","purse","number","goal","much"] ["self","order"] (ju tU):=bT
theorem xy:qi ["self","votes","later","order"] ["self"] (ju xh):=bT
theorem Mc:qi ["self","order"] ["self"] (ju xr):=bT
theorem DH:qi ["self","order"] ["self"] (ju gm):=bT
theorem Md:qi ["self","house","purse","number","keeper"] ["self","house","purse","number"] (ju ui):=bT
theorem Me:qi ["self","word","order","house"] ["self","word","order"] (ju zt):=bT
theorem Mf:qi ["self","house","orders","order"] ["self","house","orders"] (ju yf):=bT
theorem DI:qi ["self","purse","goal","much","asked","order"] ["self","purse","goal","much"] (ju tV):=bT
theorem wa:qi ["self","at","letter","word","house","order","keeper"] ["self","at"] (ju tW):=bT
theorem Mg:qi ["world","houses"] ["world"] (ju gg):=bT
theorem ud:qi ["_law_town_here","_law_many","_law_row","_law_at","_law_cell","_law_mixed"] ["_law_town_here","_law_many"] (ju tX):=bT
theorem ye:qi ["_law_caught","_law_kinds","_law_words"] ["_law_caught"] (ju gh):=bT
theorem DJ:qi ["_law_town_here","_law_size","_law_most","_law_found","_law_one"] ["_law_town_here","_law_size","_law_most"] (ju tY):=bT
theorem yw:qi ["_law_town_here","_law_some_here","_law_crew","_law_foes","_law_begin","_law_rogues","_law_world_here"] ["_law_town_here"] (ju tZ):=bT
theorem qp:qi ["_law_kind","_law_world_here","_law_one","_law_two","_law_three","_law_told_here","_law_caught","e"] ["_law_kind","_law_world_here","_law_one","_law_two","_law_three"] (ju uA):=bT
theorem Mh:qi ["_law_town_here","_law_world_here","_law_there"] ["_law_town_here","_law_world_here"] (ju uB):=bT
theorem DL:qi ["_law_town_here","_law_parts","_law_purse","_law_many","_law_goal"] ["_law_town_here","_law_parts","_law_purse"] (ju uC):=bT
theorem xb:qi ["_law_town_here","_law_parts","_law_share","_law_world_here","_law_crew","_law_some_here","_law_foes","_law_honest","_law_begin","_law_rogues","_law_many","_law_kind","_law_order_here","_law_purse","_law_goal"] ["_law_town_here","_law_parts","_law_share"] (ju uD):=bT
theorem eE:qi ["_law_script","_law_town_here","_law_parts","_law_world_here","_law_crew","_law_some_here","_law_foes","_law_honest","_law_begin","_law_rogues","_law_share","_law_turn","_law_papers","_law_order_here","_law_told_here","_law_other","_law_shared"] ["_law_script"] (ju uE):=bT
theorem WW:(["thing","self"]:List Str).Nodup:=by decide+kernel
theorem WX:(["order","self"]:List Str).Nodup:=by decide+kernel
theorem WY:(["keeper","purse","asked"]:List Str).Nodup:=by decide+kernel
theorem WZ:(["each"]:List Str).Nodup:=by decide+kernel
theorem W0:(["each"]:List Str).Nodup:=by decide+kernel
theorem W2:(["house","sums","liars"]:List Str).Nodup:=by decide+kernel
theorem W3:(["_law_k","_law_foes"]:List Str).Nodup:=by decide+kernel
theorem W4:(["_law_k","_law_town_here"]:List Str).Nodup:=by decide+kernel
theorem Mi:(["thing","houses","house"]:List Str).Nodup:=by decide+kernel
theorem W5:(["house","world"]:List Str).Nodup:=by decide+kernel
theorem W6:(["_law_k","_law_honest"]:List Str).Nodup:=by decide+kernel
theorem W7:(["_law_k","_law_other","_law_world_here"]:List Str).Nodup:=by decide+kernel
theorem W8:(["_law_k","_law_order_here","_law_told_here","_law_world_here"]:List Str).Nodup:=by decide+kernel
theorem W9:(["_law_order_here"]:List Str).Nodup:=by decide+kernel
theorem boot_isinstance:bootBuiltins "isinstance"=some (.builtin "isinstance"):=by decide+kernel
theorem boot_bool:bootBuiltins "bool"=some (.type "bool"):=by decide+kernel
theorem boot_int:bootBuiltins "int"=some (.type "int"):=by decide+kernel
theorem boot_len:bootBuiltins "len"=some (.builtin "len"):=by decide+kernel
theorem boot_tuple:bootBuiltins "tuple"=some (.type "tuple"):=by decide+kernel
theorem boot_sorted:bootBuiltins "sorted"=some (.builtin "sorted"):=by decide+kernel
theorem boot_list:bootBuiltins "list"=some (.type "list"):=by decide+kernel
theorem boot_sum:bootBuiltins "sum"=some (.builtin "sum"):=by decide+kernel
theorem boot_max:bootBuiltins "max"=some (.builtin "max"):=by decide+kernel
theorem boot_all:bootBuiltins "all"=some (.builtin "all"):=by decide+kernel
theorem Xa:bootBuiltins "ValueError"=some (.type "ValueError"):=by decide+kernel
theorem boot_set:bootBuiltins "set"=some (.type "set"):=by decide+kernel
set_option genInjectivity false in
structure Ad where
 DM:Addr
 DN:FuncData
 DO:Addr
 DP:FuncData
 DQ:Addr
 zI:FuncData
 DR:Addr
 DS:FuncData
 DT:Addr
 DU:FuncData
 DV:Addr
 DW:FuncData
 DX:Addr
 DY:FuncData
 DZ:Addr
 D0:FuncData
 D1:Addr
 D2:FuncData
 D3:Addr
 D4:FuncData
 D5:Addr
 D6:FuncData
 D7:Addr
 D8:FuncData
 ur:Addr
 D9:FuncData
 Ea:Addr
 Eb:FuncData
 Ec:Addr
 Ed:FuncData
 Ee:Addr
 Ef:FuncData
 Eg:Addr
 Eh:FuncData
 Ei:Addr
 Ej:FuncData
 Ek:Addr
 El:FuncData
 kc:Addr
 Em:FuncData
 En:Addr
 uy:FuncData
 Eo:Addr
 Ep:FuncData
 Er:Addr
 Es:FuncData
 Et:Addr
 uf:FuncData
 Eu:Addr
 Ew:FuncData
 vm:Addr
 Ex:FuncData
 zJ:Addr
 Ey:FuncData
 zK:Addr
 Ez:FuncData
 zL:Addr
 EA:FuncData
 vy:Addr
 EB:FuncData
 EC:Addr
 ED:FuncData
 kn:Addr
 ph:FuncData
 uh:Addr
 uu:FuncData
 EE:Addr
 EF:FuncData
 EG:Addr
 EH:FuncData
 kj:Addr
 kh:FuncData
 ka:Addr
 EI:FuncData
 EJ:Addr
 EK:FuncData
 EL:Addr
 EM:FuncData
 EN:Addr
 EO:FuncData
 ER:Addr
 ES:FuncData
 ET:Addr
 EU:FuncData
 EV:Addr
 EW:FuncData
 EX:Addr
 EY:FuncData
 ky:Addr
 kz:FuncData
 pe:Addr
 pz:FuncData
 pf:Addr
 ku:FuncData
 um:Addr
 EZ:FuncData
 wz:Addr
 gc:FuncData
 E1:Addr
 E2:FuncData
 E3:Addr
 E4:FuncData
 E5:Addr
 E6:FuncData
 E7:Addr
 E8:FuncData
 E9:Addr
 Fb:FuncData
 Fc:Addr
 Fd:FuncData
 Fe:Addr
 Ff:FuncData
 Fg:Addr
 Fh:FuncData
 Fi:Addr
 Fj:FuncData
 Fl:Addr
 Fm:FuncData
 Fo:Addr
 Fp:FuncData
 Fq:Addr
 Fs:FuncData
 Ft:Addr
 Fu:FuncData
 Fv:Addr
 Fw:FuncData
 Fx:Addr
 Fy:FuncData
 Fz:Addr
 FA:FuncData
 FC:Addr
 FE:FuncData
 FF:Addr
 FG:FuncData
 ko:Addr
 j4:Addr
 jz:Addr
 iR:Addr
 xj:Addr
 vk:Addr
 iS:Addr
 vn:Addr
 FH:Addr
 FI:Addr
 FJ:Addr
 FK:Addr
 FL:Addr
 FN:Addr
 FO:Addr
 FP:Addr
noncomputable def asked (t:Ad):List Value:=[.ref t.FN,.ref t.FO,.ref t.FP,.ref t.FK,.ref t.xj,.ref t.FL,.ref t.iS,.ref t.vk,.ref t.FJ,.ref t.FH,.ref t.FI,.ref t.vn,.type "ValueError"]
structure Txt (K:W.Frag)(mg:Str->Option Value)(t:Ad):Prop where
 uG:av K "is_whole" "is_whole" yK t.DM t.DN
 zM:mg "is_whole"=some (.ref t.DM)
 zN:Binds K t.DN ["thing"] []
 qq:av K "is_between" "is_between" yL t.DO t.DP
 qu:mg "is_between"=some (.ref t.DO)
 qw:Binds K t.DP ["thing","low","high"] []
 uH:av K "is_order" "is_order" yM t.DQ t.zI
 zO:mg "is_order"=some (.ref t.DQ)
 FQ:fM K t.zI ["thing","purses"] ["purses"] fT fT
 Xb:∃tk,Binds K t.zI ["thing","purses"] [.int 8 tk]
 pY:av K "place_of" "place_of" yN t.DR t.DS
 uI:mg "place_of"=some (.ref t.DR)
 uJ:Binds K t.DS ["order"] []
 FR:av K "are_rising" "are_rising" tR t.DT t.DU
 Mj:mg "are_rising"=some (.ref t.DT)
 Ml:Binds K t.DU ["things","bound"] []
 FT:av K "is_rising_row" "is_rising_row" uv t.DV t.DW
 Mm:mg "is_rising_row"=some (.ref t.DV)
 Mn:Binds K t.DW ["thing","bound"] []
 Mp:av K "is_house_count" "is_house_count" gs t.DX t.DY
 Xc:mg "is_house_count"=some (.ref t.DX)
 Xd:Binds K t.DY ["thing"] []
 Mq:av K "is_few" "is_few" yO t.DZ t.D0
 Xe:mg "is_few"=some (.ref t.DZ)
 Xf:Binds K t.D0 ["thing"] []
 Mr:av K "outnumber" "outnumber" DB t.D1 t.D2
 Xg:mg "outnumber"=some (.ref t.D1)
 Xh:fM K t.D2 ["houses","few"] ["few"] fT fT
 zP:av K "enough_of" "enough_of" DC t.D3 t.D4
 FU:mg "enough_of"=some (.ref t.D3)
 FV:fM K t.D4 ["houses","few"] ["few"] fT fT
 Ms:av K "are_sums" "are_sums" yP t.D5 t.D6
 Xi:mg "are_sums"=some (.ref t.D5)
 Xj:Binds K t.D6 ["thing"] []
 Mt:av K "are_first_sums" "are_first_sums" gw t.D7 t.D8
 Xk:mg "are_first_sums"=some (.ref t.D7)
 Xl:Binds K t.D8 ["thing"] []
 Xm:av K "__init__" "NoPurse.__init__" va t.ur t.D9
 Mu:yB K t.xj t.ur "purse"
 Xn:Binds K t.D9 ["self","purse"] []
 Mv:av K "checked" "checked" yQ t.Ea t.Eb
 Xo:mg "checked"=some (.ref t.Ea)
 Xp:fM K t.Eb ["paper","houses","few","purses"] ["houses","few","purses"] xR xR
 Mw:av K "check_houses" "check_houses" DD t.Ec t.Ed
 Xq:mg "check_houses"=some (.ref t.Ec)
 Xr:fM K t.Ed ["houses","few","liars"] ["few","liars"] pU pU
 Mx:av K "check_purses" "check_purses" DE t.Ee t.Ef
 Xs:mg "check_purses"=some (.ref t.Ee)
 Xt:fM K t.Ef ["sums","cheats"] ["cheats"] fT fT
 My:av K "check_world" "check_world" yR t.Eg t.Eh
 Xu:mg "check_world"=some (.ref t.Eg)
 Xv:Binds K t.Eh ["thing"] []
 Mz:av K "clashing_places" "clashing_places" yi t.Ei t.Ej
 Xw:mg "clashing_places"=some (.ref t.Ei)
 Xx:Binds K t.Ej ["orders"] []
 FW:av K "in_common" "in_common" yS t.Ek t.El
 MA:mg "in_common"=some (.ref t.Ek)
 MB:fM K t.El ["houses","few"] ["few"] fT fT
 Xy:av K "__init__" "Board.__init__" kb t.kc t.Em
 jnm:Meth K t.ko "__init__" t.kc
 Xz:Mk K t.ko t.kc
 XA:Binds K t.Em ["self","enough"] []
 XB:av K "is_carried" "Board.is_carried" vb t.En t.uy
 xl:Meth K t.ko "is_carried" t.En
 xt:Binds K t.uy ["self","thing"] []
 XC:av K "put" "Board.put" tS t.Eo t.Ep
 XD:Meth K t.ko "put" t.Eo
 XE:Binds K t.Ep ["self","house","thing"] []
 XF:av K "carried" "Board.carried" yT t.Er t.Es
 XG:Meth K t.ko "carried" t.Er
 XH:Binds K t.Es ["self"] []
 XI:av K "houses_for" "Board.houses_for" y7 t.Et t.uf
 kq:Meth K t.ko "houses_for" t.Et
 uw:Binds K t.uf ["self","thing"] []
 XJ:av K "things_of" "Board.things_of" wg t.Eu t.Ew
 XM:Meth K t.ko "things_of" t.Eu
 XN:Binds K t.Ew ["self","house"] []
 XO:av K "__init__" "Book.__init__" yU t.vm t.Ex
 jow:Meth K t.iR "__init__" t.vm
 j4g:Mk K t.iR t.vm
 XQ:Binds K t.Ex ["self","sums"] []
 XR:av K "is_past" "Book.is_past" yV t.zJ t.Ey
 jp6:Meth K t.iR "is_past" t.zJ
 FX:Binds K t.Ey ["self","order"] []
 XS:av K "is_due" "Book.is_due" tT t.zK t.Ez
 jq5:Meth K t.iR "is_due" t.zK
 MC:Binds K t.Ez ["self","order"] []
 XT:av K "settle" "Book.settle" tU t.zL t.EA
 jq9:Meth K t.iR "settle" t.zL
 XU:Binds K t.EA ["self","order"] []
 XW:av K "__init__" "Keeper.__init__" wq t.vy t.EB
 jl1:Meth K t.j4 "__init__" t.vy
 XX:Mk K t.j4 t.vy
 XY:Binds K t.EB ["self","sums"] []
 XZ:av K "left_of" "Keeper.left_of" gy t.EC t.ED
 X0:Meth K t.j4 "left_of" t.EC
 X1:Binds K t.ED ["self","purse","orders"] []
 X2:av K "give_votes" "Keeper.give_votes" xh t.kn t.ph
 gb:Meth K t.j4 "give_votes" t.kn
 kg:Binds K t.ph ["self"] []
 X3:av K "first_due" "Keeper.first_due" xr t.uh t.uu
 pq:Meth K t.j4 "first_due" t.uh
 MD:Binds K t.uu ["self"] []
 X4:av K "go_on" "Keeper.go_on" gm t.EE t.EF
 X5:Meth K t.j4 "go_on" t.EE
 X6:Binds K t.EF ["self"] []
 X7:av K "hear" "Keeper.hear" yW t.EG t.EH
 X8:Meth K t.j4 "hear" t.EG
 X9:Binds K t.EH ["self","order"] []
 Ya:av K "take_paper" "Keeper.take_paper" yt t.kj t.kh
 Yb:Meth K t.j4 "take_paper" t.kj
 Yc:Binds K t.kh ["self","order"] []
 Yd:av K "__init__" "World.__init__" DF t.ka t.EI
 jnd:Meth K t.jz "__init__" t.ka
 Ye:Mk K t.jz t.ka
 Yf:fM K t.EI ["self","houses","few","sums","liars","cheats"] ["few","sums","liars","cheats"] yG yG
 Yg:av K "letters" "World.letters" yX t.EJ t.EK
 gz:Meth K t.jz "letters" t.EJ
 FY:Binds K t.EK ["self"] []
 Yh:av K "honest" "World.honest" yY t.EL t.EM
 Yi:Meth K t.jz "honest" t.EL
 Yj:Binds K t.EM ["self"] []
 Yk:av K "papers" "World.papers" yZ t.EN t.EO
 yj:Meth K t.jz "papers" t.EN
 yy:Binds K t.EO ["self"] []
 Yl:av K "paper" "World.paper" zA t.ER t.ES
 Ym:Meth K t.jz "paper" t.ER
 Yn:Binds K t.ES ["self","order"] []
 Yo:av K "keeper_of" "World.keeper_of" wc t.ET t.EU
 y8:Meth K t.jz "keeper_of" t.ET
 wj:Binds K t.EU ["self","house"] []
 Yp:av K "voted" "World.voted" ui t.EV t.EW
 Yr:Meth K t.jz "voted" t.EV
 Ys:Binds K t.EW ["self","house","purse","number"] []
 Yt:av K "votes_for" "World.votes_for" wo t.EX t.EY
 uk:Meth K t.jz "votes_for" t.EX
 ME:Binds K t.EY ["self","order"] []
 Yu:av K "check_purse" "World.check_purse" ym t.ky t.kz
 x9:Meth K t.jz "check_purse" t.ky
 yu:Binds K t.kz ["self","purse"] []
 Yv:av K "check_asker" "World.check_asker" yo t.pe t.pz
 Yw:Meth K t.jz "check_asker" t.pe
 Yx:Binds K t.pz ["self","purse","goal"] []
 Yy:av K "check_order" "World.check_order" yr t.pf t.ku
 zw:Meth K t.jz "check_order" t.pf
 xk:Binds K t.ku ["self","order"] []
 Yz:av K "check_liar" "World.check_liar" y9 t.um t.EZ
 YA:Meth K t.jz "check_liar" t.um
 YB:Binds K t.EZ ["self","liar"] []
 YC:av K "write_to_all" "World.write_to_all" zt t.wz t.gc
 vf:Meth K t.jz "write_to_all" t.wz
 w9:Binds K t.gc ["self","word","order"] []
 YD:av K "put_votes" "World.put_votes" yf t.E1 t.E2
 vc:Meth K t.jz "put_votes" t.E1
 we:Binds K t.E2 ["self","house","orders"] []
 YE:av K "ask" "World.ask" tV t.E3 t.E4
 MF:Meth K t.jz "ask" t.E3
 MG:Binds K t.E4 ["self","purse","goal","much"] []
 YF:av K "cheat" "World.cheat" zB t.E5 t.E6
 YG:Meth K t.jz "cheat" t.E5
 YH:Binds K t.E6 ["self","order","house"] []
 YI:av K "lie" "World.lie" zC t.E7 t.E8
 FZ:Meth K t.jz "lie" t.E7
 F0:Binds K t.E8 ["self","liar","order"] []
 YJ:av K "show" "World.show" zE t.E9 t.Fb
 YK:Meth K t.jz "show" t.E9
 YL:Binds K t.Fb ["self","order","house"] []
 YM:av K "come" "World.come" tW t.Fc t.Fd
 YN:Meth K t.jz "come" t.Fc
 YO:Binds K t.Fd ["self","at"] []
 MH:av K "false_houses" "false_houses" gg t.Fe t.Ff
 YQ:mg "false_houses"=some (.ref t.Fe)
 YR:Binds K t.Ff ["world"] []
 MI:av K "_law_town" "_law_town" zF t.Fg t.Fh
 YS:mg "_law_town"=some (.ref t.Fg)
 YT:Binds K t.Fh ["_law_script"] []
 qf:av K "_law_draw" "_law_draw" tX t.Fi t.Fj
 qj:mg "_law_draw"=some (.ref t.Fi)
 qh:Binds K t.Fj ["_law_town_here","_law_many"] []
 zb:av K "_law_pick" "_law_pick" zG t.Fl t.Fm
 zm:mg "_law_pick"=some (.ref t.Fl)
 zo:Binds K t.Fm ["_law_town_here","_law_some_here"] []
 F1:av K "_law_refusal" "_law_refusal" gh t.Fo t.Fp
 MJ:mg "_law_refusal"=some (.ref t.Fo)
 MK:Binds K t.Fp ["_law_caught"] []
 F8:av K "_law_some" "_law_some" tY t.Fq t.Fs
 ML:mg "_law_some"=some (.ref t.Fq)
 MM:Binds K t.Fs ["_law_town_here","_law_size","_law_most"] []
 MN:av K "_law_world" "_law_world" tZ t.Ft t.Fu
 YU:mg "_law_world"=some (.ref t.Ft)
 YV:Binds K t.Fu ["_law_town_here"] []
 F9:av K "_law_told" "_law_told" uA t.Fv t.Fw
 MO:mg "_law_told"=some (.ref t.Fv)
 MP:Binds K t.Fw ["_law_kind","_law_world_here","_law_one","_law_two","_law_three"] []
 MQ:av K "_law_letter" "_law_letter" uB t.Fx t.Fy
 YW:mg "_law_letter"=some (.ref t.Fx)
 YX:Binds K t.Fy ["_law_town_here","_law_world_here"] []
 MR:av K "_law_order" "_law_order" uC t.Fz t.FA
 YY:mg "_law_order"=some (.ref t.Fz)
 YZ:Binds K t.FA ["_law_town_here","_law_parts","_law_purse"] []
 MS:av K "_law_go" "_law_go" uD t.FC t.FE
 Y2:mg "_law_go"=some (.ref t.FC)
 Y3:Binds K t.FE ["_law_town_here","_law_parts","_law_share"] []
 Y4:av K "law" "law" uE t.FF t.FG
 Y6:mg "law"=some (.ref t.FF)
 qac:Binds K t.FG ["_law_script"] []
 MT:∃tk,mg "MOST_MUCH"=some (.int 1000 tk)
 MU:∃tk,mg "LAST_NUMBER"=some (.int 99 tk)
 MV:∃tk,mg "PAPER_LETTER"=some (.str "paper" tk)
 Ga:∃tk,mg "ORDER_LETTER"=some (.str "order" tk)
 Y7:∃tk,mg "MOST_HOUSES"=some (.int 16 tk)
 Y8:∃tk,mg "MOST_FEW"=some (.int 5 tk)
 Y9:∃tk,mg "MOST_FIRST_SUM"=some (.int 1000 tk)
 Za:∃tk,mg "LEAST_PURSES"=some (.int 2 tk)
 Zb:∃tk,mg "MOST_PURSES"=some (.int 8 tk)
 Zc:mg "Board"=some (.ref t.ko)
 zf:dX K t.ko
 yg:yk K t.ko "enough"
 zr:yk K t.ko "signers"
 Zd:mg "Keeper"=some (.ref t.j4)
 jr:dX K t.j4
 yz:yk K t.j4 "held"
 qx:yk K t.j4 "next_numbers"
 MW:yk K t.j4 "done"
 Gb:yk K t.j4 "heard"
 yb:yk K t.j4 "unvoted"
 zc:yk K t.j4 "choices"
 xf:yk K t.j4 "waiting"
 MX:mg "World"=some (.ref t.jz)
 jh:dX K t.jz
 Ze:LH K t.jz
 vg:yk K t.jz "purses"
 Zf:yk K t.jz "total"
 Gd:yk K t.jz "lying"
 yc:yk K t.jz "cheating"
 qv:yk K t.jz "keepers"
 qr:yk K t.jz "board"
 Ge:yk K t.jz "asked"
 zi:yk K t.jz "on_way"
 Zg:mg "Book"=some (.ref t.iR)
 j5o:dX K t.iR
 jum:yk K t.iR "held"
 jjg:yk K t.iR "next_numbers"
 jut:yk K t.iR "done"
 MY:Meth K t.j4 "is_due" t.zK
 vz:Meth K t.j4 "is_past" t.zJ
 Zh:Meth K t.j4 "settle" t.zL
 Zi:LC K t.iR "__init__" t.vm
 MZ:mg "NoPurse"=some (.ref t.xj)
 M0:mg "TooMuch"=some (.ref t.vk)
 M3:mg "NotNow"=some (.ref t.iS)
 Gf:mg "PurseError"=some (.ref t.vn)
 Zj:mg "BadCut"=some (.ref t.FH)
 Zk:mg "BadText"=some (.ref t.FI)
 Zl:mg "BadPaper"=some (.ref t.FJ)
 Zm:mg "NoHouse"=some (.ref t.FK)
 Zn:mg "NoLetter"=some (.ref t.FL)
 Zo:mg "BadNumber"=some (.ref t.FN)
 Zp:mg "BadOrder"=some (.ref t.FO)
 Zr:mg "BadHouses"=some (.ref t.FP)
 Zs:hJ K t.xj
 Zt:kinds K (.ref t.xj) (asked t)=[some false,some false,some false,some false,some true,some false,some false,some false,some false,some false,some false,some true,some true]
 Zu:W.kitCls K (.ref t.xj) (.ref t.vn)=some true
 Zv:xK K t.vk
 Zw:hJ K t.vk
 Zx:kinds K (.ref t.vk) (asked t)=[some false,some false,some false,some false,some false,some false,some false,some true,some false,some false,some false,some true,some true]
 Zy:W.kitCls K (.ref t.vk) (.ref t.vn)=some true
 Zz:xK K t.iS
 ZA:hJ K t.iS
 ZC:kinds K (.ref t.iS) (asked t)=[some false,some false,some false,some false,some false,some false,some true,some false,some false,some false,some false,some true,some true]
 ZD:W.kitCls K (.ref t.iS) (.ref t.vn)=some true
 M4:W.mroIn K t.vn (.type "BaseException")=some true
 jx:mg "isinstance"=none
 ZE:mg "bool"=none
 ZF:mg "int"=none
 ue:mg "len"=none
 pZ:mg "tuple"=none
 zQ:mg "sorted"=none
 mH:mg "list"=none
 M5:mg "sum"=none
 ZG:mg "max"=none
 ZH:mg "all"=none
 uK:mg "range"=none
 ZI:mg "ValueError"=none
 ZJ:mg "set"=none
noncomputable def bI (o:O):List V:=[.int o.p,.int o.n,.int o.g,.int o.m]
noncomputable def fu (H:Hp)(x:V)(o:O):Prop:=∃a,x= .ref a/\H a=some (.tup (bI o))
noncomputable abbrev zR (H:Hp)(xs:List V)(os:List O):Prop:=Paired (fu H) xs os
theorem M6 {F:V->O->Prop}:∀{xs:List V}{os:List O}{i:Nat}{x:V},Paired F xs os->xs[i]?=some x->∃o,os[i]?=some o/\F x o
 |_,_,i,x,.nil,e=>by simp at e
 |_,_,0,x,.cons h _,e=>by have e':=Option.some.inj e;subst e';exact⟨_,rfl,h⟩
 |_,_,i+1,x,.cons _ t,e=>M6 (i:=i) t e
theorem fu.same {H H':Hp}{x:V}{o:O}(s:xp H H')(h:fu H x o):fu H' x o:=by obtain⟨a,e,q⟩:=h;exact⟨a,e,s _ _ q⟩
theorem jg {H:Hp}{p:Addr}{o:HO}(h:H p=none):xp H (upd H p o):=λb u e=>by rw[jd (ji e h)];exact e
theorem nd {c:Prop}[Decidable c](h:(!decide c)=true):¬c:=λz=>by rw[decide_eq_true z]at h;cases h
theorem yd {c:Prop}[Decidable c](h:¬(!decide c)=true):c:=by
 by_cases z:c
 .exact z
 .exact absurd (by rw[decide_eq_false z];rfl) h
theorem ZK {b:Bool}{A Bq:Prop}(e:b=true)(h:Bq):if(!b)=true then A else Bq:=by subst e;exact vd h
theorem take_snoc {α:Type}{l:List α}{i:Nat}{x:α}(h:l[i]?=some x):l.take (i+1)=l.take i++[x]:=by rw[List.take_add_one,h];rfl
theorem BR (s:List Int)(i:Nat)(z:Int):(s.map V.int).set i (.int z)=(s.set i z).map V.int:=by rw[map_set]
theorem get_map {s:List Int}{i:Nat}(h:i<s.length):(s.map V.int)[i]?=some (.int (s.getD i 0)):=by rw[getElem?_map,getElem?_eq_getElem h,getD_eq_getElem?_getD,getElem?_eq_getElem h];rfl
theorem uL {n:Nat}{i:Int}(h0:0<=i)(h1:i.toNat<n):md n i=some i.toNat:=by unfold md;rw[if_pos h0,if_pos (by lia)]
theorem kZ {α:Type}{xs:List α}{i:Int}{v:α}(h0:0<=i)(h:xs[i.toNat]?=some v):me xs i=some v:=by unfold me;rw[uL h0 (List.getElem?_eq_some_iff.mp h).1];exact h
theorem oC {n:Nat}(h:n<=1000):n<=sizeLine:=le_of_lt (xi h)
noncomputable def cJ (T R:Addr)(H:Hp):Prop:=∃(row:List Int)(c:Int),H T=some (.lst [.ref R,.int c])/\H R=some (.lst (row.map V.int))/\0<row.length
noncomputable def hZ (T R:Addr)(H H':Hp):Prop:=∀b o,H b=some o->b≠T->b≠R->H' b=some o
theorem cJ.ne {T R:Addr}{H:Hp}(h:cJ T R H):T≠R:=by
 obtain⟨row,c,h1,h2,h3⟩:=h;refine dg h1 h2 λe=>?_;have e':=HO.lst.inj e;cases row with
 |nil=>cases h3
 |cons x r=>rw[map_cons]at e';cases(List.cons.inj e').1
theorem cJ.same {T R:Addr}{H H':Hp}(h:cJ T R H)(s:xp H H'):cJ T R H':=by obtain⟨row,c,h1,h2,h3⟩:=h;exact⟨row,c,s _ _ h1,s _ _ h2,h3⟩
theorem cJ.fresh {T R b:Addr}{H:Hp}(h:cJ T R H)(hb:H b=none):b≠T/\b≠R:=by obtain⟨row,c,h1,h2,h3⟩:=h;exact⟨(ji h1 hb).symm,(ji h2 hb).symm⟩
noncomputable def ZL:Sp:=λvs H Q _=>∃i,vs=[.int i]/\Q (.bl true) H
noncomputable def ZM:Sp:=λvs H Q _=>∃i l h,vs=[.int i,.int l,.int h]/\Q (.bl (decide (l<=i/\i<=h))) H
noncomputable def ZN:Sp:=λvs H Q _=>∃a o q,vs=[.ref a,.int q]/\H a=some (.tup (bI o))/\Q (.bl (y4 q o)) H
noncomputable def ZO:Sp:=λvs H Q _=>∃a o,vs=[.ref a]/\H a=some (.tup (bI o))/\y4 8 o=true/\∀p,H p=none->Q (.ref p) (upd H p (.tup [.int o.p,.int o.n]))
theorem zS (T:Txt K mg t):xm P w K mg base CX0 1 t.DM t.DN ["thing"] ZL:=by refine T.uG.aZ (N:=["thing"]) λ_ A _ s H vs Q E hr h=>?_;obtain⟨i,rfl,q⟩:=h;refine⟨_,(@je _ _ _ (j3 (kA (jm pO rfl T.jx boot_isinstance (@y3 _ _ _ _ _ (pv 0) (jY (v:=.ty "int") rfl T.ZF boot_int rfl) rfl rfl)) (lT (P5 (jm pO rfl T.jx boot_isinstance (@y3 _ _ _ _ _ (pv 0) (jY (v:=.ty "bool") rfl T.ZE boot_bool rfl) rfl rfl))))))),?_⟩;refine⟨_,rfl,_,_,_,true,rfl,.int _,rfl,_,rfl,bM ?_⟩;exact⟨_,rfl,_,_,_,false,rfl,.int _,rfl,_,rfl,q⟩
theorem qt (T:Txt K mg t):xm P w K mg base CX0 2 t.DO t.DP ["thing","low","high"] ZM:=by
 refine T.qq.aZ (N:=["thing","low","high"]) λ_ A _ s H vs Q E hr h=>?_;obtain⟨i,l,u,rfl,q⟩:=h;refine⟨_,(@je _ _ _ (j3 (kA (jo (zS T) hr.dn rfl T.zM T.uG.kp T.zN .nil jn (jc (pv 0) jf)) (lT (QD rB rB (pv 1) (pv 0) (pv 2)))))),?_⟩;refine⟨_,rfl,i,rfl,_,rfl,bM ?_⟩;refine⟨_,rfl,_,rfl,_,_,rfl,rfl,_,rfl,?_⟩;refine bq (λh1=>?_) (λh1=>?_)
 .refine⟨_,rfl,_,_,rfl,rfl,?_⟩;have e:decide (l<=i/\i<=u)=decide (i<=u):=by
   have mq:=of_decide_eq_true h1;simp[mq]
  rw[e]at q;exact q
 .have e:decide (l<=i/\i<=u)=false:=by
   have mq:¬l<=i:=λz=>h1 (decide_eq_true z);simp[mq]
  rw[e]at q;exact q
theorem zT (T:Txt K mg t):xm P w K mg base CX0 3 t.DQ t.zI ["thing","purses"] ZN:=by
 refine T.uH.cz uF λ_ A _ s H vs Q E hr h=>?_;obtain⟨a,o,q,rfl,ha,k⟩:=h;refine⟨_,(@jb _ _ _ _ _ (zd (PW.pt (dF (zy (qz (jm pO rfl T.jx boot_isinstance (@y3 _ _ _ _ _ (pv 0) (jY (v:=.ty "tuple") rfl T.pZ boot_tuple rfl) rfl rfl)))) (dS (jw pG (jm jt rfl T.ue boot_len (jc (pv 0) jf)) jk (qc _))))) (@je _ _ _ (j3 eN)) j6) (@jb _ _ _ _ _ (kB (pv 0) (lX rfl (j9 (jv (i:=2) uF.nd rfl (Or.inl rfl)) (j9 (jv (i:=3) uF.nd rfl (Or.inl rfl)) (j9 (jv (i:=4) uF.nd rfl (Or.inl rfl)) (j9 (jv (i:=5) uF.nd rfl (Or.inl rfl)) lW)))))) (@jb _ _ _ _ _ (zd (PW.pt (dF (zy (qz (jo (qt T) hr.dn rfl T.qu T.qq.kp T.qw .nil jn (@bW _ _ _ _ _ _ _ (pv 2) jk (xc gU (pv 1) jk) rfl rfl rfl)))) (dS (zy (qz (jo (qt T) hr.dn rfl T.qu T.qq.kp T.qw .nil jn (@bW _ _ _ _ _ _ _ (pv 4) jk (xc gU (pv 1) jk) rfl rfl rfl))))))) (@je _ _ _ (j3 eN)) j6) (@je _ _ _ (j3 (kA (gE pG (pv 2) (pv 4) (qc _)) (kA (jo (qt T) hr.dn rfl T.qu T.qq.kp T.qw .nil jn (@bW _ _ _ _ _ _ _ (pv 3) jk (ze (v:=.int 99) rfl T.MU.choose_spec ⟨_,rfl⟩) rfl rfl rfl)) (lT (jo (qt T) hr.dn rfl T.qu T.qq.kp T.qw .nil jn (@bW _ _ _ _ _ _ _ (pv 5) jk (ze (v:=.int 1000) rfl T.MT.choose_spec ⟨_,rfl⟩) rfl rfl rfl)))))))))),?_⟩;refine⟨_,rfl,_,_,_,true,rfl,.tup ha,rfl,_,rfl,?_⟩;refine vd ?_;refine⟨_,rfl,a,bI o,rfl,.inr (aw.of ha),rfl,_,rfl,?_⟩;refine vd ?_;refine⟨_,rfl,a,bI o,rfl,aw.of ha,rfl,_,_,rfl,_,_,rfl,_,_,rfl,_,_,rfl,rfl,?_⟩;have fin:∀b,b=y4 q o->Q (.bl b) H:=λb e=>e ▸ k;refine⟨_,rfl,_,rfl,_,_,rfl,rfl,_,_,_,rfl,_,rfl,?_⟩;refine bq (λh1=>fin _ ?_) (λh1=>?_)
 .have z:=nd h1;unfold y4;exact(decide_eq_false (λh=>z ⟨h.1,h.2.1⟩)).symm
 have z1:=yd h1;refine⟨_,rfl,_,rfl,_,_,rfl,rfl,_,_,_,rfl,_,rfl,?_⟩;refine bq (λh2=>fin _ ?_) (λh2=>?_)
 .have z:=nd h2;unfold y4;exact(decide_eq_false (λh=>z ⟨h.2.2.1,h.2.2.2.1⟩)).symm
 have z2:=yd h2;refine⟨_,rfl,_,rfl,rfl,_,rfl,?_⟩;refine bq (λh3=>?_) (λh3=>fin _ ?_)
 .have z3:¬o.p=o.g:=by simpa using h3
  refine⟨_,rfl,_,_,_,rfl,_,rfl,?_⟩;refine bq (λh4=>?_) (λh4=>fin _ ?_)
  .have z4:=of_decide_eq_true h4;refine⟨_,rfl,_,_,_,rfl,fin _ ?_⟩;unfold y4;rw[Bool.eq_iff_iff,decide_eq_true_iff,decide_eq_true_iff];exact⟨λh=>⟨z1.1,z1.2,z2.1,z2.2,z3,z4.1,z4.2,h.1,h.2⟩,λh=>h.2.2.2.2.2.2.2⟩
  .have z4:¬(0<=o.n/\o.n<=99):=λh=>h4 (decide_eq_true h);unfold y4;exact(decide_eq_false (λh=>z4 ⟨h.2.2.2.2.2.1,h.2.2.2.2.2.2.1⟩)).symm
 .have z3:o.p=o.g:=by simpa using h3
  unfold y4;exact(decide_eq_false (λh=>h.2.2.2.2.1 z3)).symm
theorem uM (T:Txt K mg t):xm P w K mg base CX0 4 t.DR t.DS ["order"] ZO:=by
 refine T.pY.aZ (N:=["order"]) λ_ A _ s H vs Q E hr h=>?_;obtain⟨a,o,rfl,ha,ho,k⟩:=h;refine⟨_,(@jb _ _ _ _ _ (zd (zy (qz (jo (zT T) hr.dn rfl T.zO T.uH.kp T.Xb.choose_spec (show Vals [.int 8] _ from .cons ⟨_,rfl⟩ .nil) jn (jc (pv 0) jf)))) (@je _ _ _ (Qb)) j6) (@je _ _ _ (j3 (@gG _ _ _ _ _ (@y3 _ _ _ _ _ (kl fP (pv 0) jk (λ_ _=>rfl)) (kl fP (pv 0) jk (λ_ _=>rfl)) rfl rfl))))),?_⟩;refine⟨_,rfl,a,o,8,rfl,ha,_,rfl,ZK ho ?_⟩;exact⟨_,rfl,a,bI o,0,.int o.p,rfl,rfl,aw.of ha,rfl,_,rfl,a,bI o,1,.int o.n,rfl,rfl,aw.of ha,rfl,kX,λp hp=>k p hp⟩
theorem uN {H:Hp}{a b:Addr}{o:HO}(h:upd H a o b=none):b≠a/\H b=none:=by
 have hb:b≠a:=λz=>by rw[z,ja]at h;cases h
 rw[jd hb]at h;exact⟨hb,h⟩
noncomputable def lg (S:Addr)(en:Int):List (Str×V):=ua "signers" (.ref S) (ua "enough" (.int en) [])
theorem uO (S:Addr)(en:Int):(lg S en).lookup ("signers":Str)=some (.ref S):=by unfold lg;rw[jl,if_pos rfl]
theorem zU (S:Addr)(en:Int):(lg S en).lookup ("enough":Str)=some (.int en):=by unfold lg;rw[jl,if_neg (by decide+kernel),jl,if_pos rfl]
theorem lq (S:Addr)(en:Int){m:Str}(h1:¬m="signers")(h2:¬m="enough"):(lg S en).lookup m=none:=by unfold lg;rw[jl,if_neg h1,jl,if_neg h2];rfl
noncomputable abbrev fB:=List (List Key×List Int)
noncomputable def ic (H:Hp)(kv:List Key×V)(p:List Key×List Int):Prop:=kv.1=p.1/\∃b,kv.2= .ref b/\H b=some (.lst (p.2.map V.int))
structure yl (t:Ad)(H:Hp)(p dx S:Addr)(en:Int)(kvs:List (List Key×V))(ps:fB):Prop where
 ob:H p=some (.ins t.ko dx (lg S en))
 sg:H S=some (.dT kvs)
 hs:Paired (ic H) kvs ps
 un:(kvs.map (·.2)).Nodup
theorem yl.same {t:Ad}{H H':Hp}{p dx S:Addr}{en:Int}{kvs:List (List Key×V)}{ps:fB}(s:xp H H')(b:yl t H p dx S en kvs ps):yl t H' p dx S en kvs ps:=⟨s _ _ b.ob,s _ _ b.sg,Paired.ub b.hs λ_ _ ⟨e,c,ec,h⟩=>⟨e,c,ec,s _ _ h⟩,b.un⟩
structure zV (t:Ad)(H:Hp)(p dx S:Addr)(en:Int)(kvs:List (List Key×V))(ps:fB):Prop where
 ob:H p=some (.ins t.ko dx (lg S en))
 sg:Rd H S (.dT kvs)
 hs:Paired (ic H) kvs ps
theorem yl.rd {t:Ad}{H:Hp}{p dx S:Addr}{en:Int}{kvs:List (List Key×V)}{ps:fB}(b:yl t H p dx S en kvs ps):zV t H p dx S en kvs ps:=⟨b.ob,.inl b.sg,b.hs⟩
theorem uP {H H':Hp}{a:Addr}{u:HO}(s:xp H H')(h:Rd H a u):Rd H' a u:=by
 rcases h with h|⟨o,h⟩
 .exact .inl (s _ _ h)
 .exact .inr ⟨o,s _ _ h⟩
noncomputable def qb:fB->List Key->List Int
 |[],_=>[]
 |p::ps,k=>if p.1=k then p.2 else qb ps k
theorem zW {H:Hp}{k:List Key}:∀{kvs:List (List Key×V)}{ps:fB},Paired (ic H) kvs ps->(aX kvs k=none/\qb ps k=[]/\k∉ps.map (·.1))\/∃b,aX kvs k=some (.ref b)/\H b=some (.lst ((qb ps k).map V.int)):=λ{kvs ps} q=>by
 induction q with
 |nil=>exact .inl ⟨rfl,rfl,by simp⟩
 | @cons kv p kvs ps a r ih=>
  obtain⟨e,b,eb,h⟩:=a;by_cases z:p.1=k
  .refine .inr ⟨b,?_,?_⟩
   .rw[iz (e.trans z),eb]
   .rw[qb,if_pos z];exact h
  .have z':¬kv.1=k:=λq=>z (e.symm.trans q);rw[qb,if_neg z,uj z'];rcases ih with⟨h1,h2,h3⟩|h
   .exact .inl ⟨h1,h2,by rw[map_cons,mem_cons];exact λq=>q.elim (λq=>z q.symm) h3⟩
   .exact .inr h
noncomputable def ZP (t:Ad):Sp:=λvs H Q _=>∃x dx en,vs=[.ref x,.int en]/\H x=some (.ins t.ko dx [])/\∀S H',H S=none->yl t H' x dx S en [] []->(∀b o,H b=some o->b≠x->H' b=some o)->Q .aj H'
noncomputable def ZQ (t:Ad):Sp:=λvs H Q _=>∃p dx S en kvs ps b k,vs=[.ref p,.ref b]/\zV t H p dx S en kvs ps/\H b=some (.tup (k.map kV))/\(qb ps k).length<64/\∀(r:Addr)(ns:List Int)(H':Hp),H r=none->xp H H'->ns.Perm (qb ps k)->ns.Pairwise (·<=·)->H' r=some (.lst (ns.map V.int))->Q (.ref r) H'
noncomputable def ZR (t:Ad):Sp:=λvs H Q _=>∃p dx S en kvs ps b k,vs=[.ref p,.ref b]/\zV t H p dx S en kvs ps/\H b=some (.tup (k.map kV))/\∀H',xp H H'->Q (.bl (decide (en<=((qb ps k).length:Int)))) H'
noncomputable def lA:fB->List Key->Int->fB
 |[],k,h=>[(k,[h])]
 |p::ps,k,h=>if p.1=k then(p.1,p.2++[h])::ps else p::lA ps k h
noncomputable def NotIn (kvs:List (List Key×V))(c:Addr):Prop:=∀kv∈kvs,kv.2≠.ref c
noncomputable def ZS (t:Ad):Sp:=λvs H Q _=>∃p dx S en kvs ps b k h,vs=[.ref p,.int h,.ref b]/\yl t H p dx S en kvs ps/\H b=some (.tup (k.map kV))/\kvs.length<=1000/\(qb ps k).length<=1000/\(h∈qb ps k->∀H',xp H H'->Q (.bl false) H')/\(h∉qb ps k->∀bD H',yl t H' p dx S en bD (lA ps k h)->(∀c u,H c=some u->c≠S->NotIn kvs c->H' c=some u)->(∀c u,H c=some u->NotIn kvs c->NotIn bD c)->Q (.bl (decide (((qb ps k).length:Int)+1=en))) H')
theorem M7:∀{ps:fB}{k:List Key}{h:Int},k∉ps.map (·.1)->lA ps k h=ps++[(k,[h])]
 |[],_,_,_=>rfl
 |p::ps,k,h,z=>by rw[map_cons,mem_cons]at z;rw[lA,if_neg (λe=>z (.inl e.symm)),M7 λe=>z (.inr e)];rfl
theorem qo {α β:Type}{F:α->β->Prop}:∀{xs:List α}{ys:List β}{x:α}{y:β},Paired F xs ys->F x y->Paired F (xs++[x]) (ys++[y]):=λ{xs ys x y} q h=>by
 induction q with
 |nil=>exact .cons h .nil
 |cons a _ ih=>exact .cons a ih
theorem M8 {k:List Key}{v:V}{kvs:List (List Key×V)}(ev:aX kvs k=some v):v∈kvs.map (·.2):=by
 unfold aX at ev;cases hf:kvs.find? (λkv=>decide (kv.1=k))with
 |none=>rw[hf]at ev;cases ev
 |some q=>rw[hf]at ev;have e3:q.2=v:=Option.some.inj ev;rw[<-e3];exact mem_map_of_mem (mem_of_find?_eq_some hf)
theorem ya {h:Int}:∀{hs:List Int},wX (.int h) (hs.map V.int)=decide (h∈hs)
 |[]=>rfl
 |x::hs=>by
  have ih:=ya (h:=h) (hs:=hs);simp only[map_cons,wX,any_cons]at ih⊢;rw[ih];show(x==h||decide (h∈hs))=_;by_cases e:h=x
  .simp[e]
  .have e':¬x=h:=λz=>e z.symm;simp[e,e']
theorem vq (hs:List Int):(hs.map V.int).all kJ=true:=by rw[all_eq_true];intro y hy;obtain⟨i,_,rfl⟩:=mem_map.mp hy;rfl
theorem ZT {H:Hp}{r:Addr}(hr:H r=none):∀{kvs:List (List Key×V)}{ps:fB},Paired (ic H) kvs ps->V.ref r∉kvs.map (·.2):=λ{kvs ps} q=>by
 induction q with
 |nil=>simp
 |@cons kv p kvs ps a r ih=>
  obtain⟨_,b,eb,hb⟩:=a;rw[map_cons,mem_cons]
  rintro(z|z)
  .rw[eb]at z;cases z;rw[hr]at hb;cases hb
  .exact ih z
theorem grown {H:Hp}{k:List Key}{h:Int}{c:Addr}:∀{kvs:List (List Key×V)}{ps:fB},Paired (ic H) kvs ps->(kvs.map (·.2)).Nodup->aX kvs k=some (.ref c)->Paired (ic (upd H c (.lst ((qb ps k++[h]).map V.int)))) kvs (lA ps k h):=λ{kvs ps} q nd ev=>by
 induction q with
 |nil=>cases ev
 | @cons kv p kvs ps a r ih=>
  obtain⟨e,b,eb,hb⟩:=a;rw[map_cons,nodup_cons]at nd;have keep:∀{kvs:List (List Key×V)}{ps:fB}{o:HO}{a:Addr},V.ref a∉kvs.map (·.2)->Paired (ic H) kvs ps->Paired (ic (upd H a o)) kvs ps:=λ{kvs ps o a} ha r=>by
   induction r with
   |nil=>exact .nil
   |cons q _ ih=>rw[map_cons,mem_cons]at ha;obtain⟨q1,b,q2,q3⟩:=q;refine .cons ⟨q1,b,q2,?_⟩ (ih λz=>ha (.inr z));rw[jd (λz=>ha (.inl (by rw[q2,z])))];exact q3
  by_cases z:p.1=k
  .rw[iz (e.trans z),eb]at ev;cases ev;rw[lA,if_pos z,qb,if_pos z];rw[eb]at nd;exact .cons ⟨e,c,eb,ja⟩ (keep nd.1 r)
  .have z':¬kv.1=k:=λq=>z (e.symm.trans q);rw[uj z']at ev;rw[lA,if_neg z,qb,if_neg z];have hm:V.ref c∈kvs.map (·.2):=M8 ev;have ZU:b≠c:=λq=>nd.1 (by rw[eb,q];exact hm);exact .cons ⟨e,b,eb,by rw[jd ZU];exact hb⟩ (ih nd.2 ev)
theorem ZV {a:Addr}{o:Obj}{kvs:List (List Key×V)}{g:TG}{ti:TT}{te:TE}{U0:St}{H0:Hp}{Q:VK}(Pv:Nat->List V->St->Hp->Prop)(h0:Pv 0 [] U0 H0)(hl:∀i ys U H,i<=kvs.length->Pv i ys U H->H a=some (.aA o (.dT kvs))/\ys.length<=sizeLine)(hs:∀i kv b ys U H,kvs[i]?=some kv->H b=some (.tup (kv.1.map kV))->Pv i ys U H->g (.ref b) U H λU2 H2=>ti U2 H2 λc H3=>if c=true then te U2 H3 λy H4=>Pv (i+1) (ys++[y]) U2 H4 else Pv (i+1) ys U2 H3)(hd:∀ys U H,Pv kvs.length ys U H->∀p,H p=none->Q (.ref p) (upd H p (.lst ys))):∃W:Nat->Nat->List V->St->Hp->Prop,(∃m,W 0 m [] U0 H0)/\∀i m ys U H,W i m ys U H->ys.length<=sizeLine/\(((sX a o kvs).stop i H/\nU Q ys H)\/((sX a o kvs).go i H/\∃N:List V->St->Hp->Prop,(∀bC U' H',N bC U' H'->∃m',m'<m/\W (i+1) m' bC U' H')/\∀x H',(sX a o kvs).du i H x H'->g x U H' λU2 H2=>ti U2 H2 λb H3=>if b=true then te U2 H3 λy H4=>N (ys++[y]) U2 H4 else N ys U2 H3)):=by
 refine⟨λi m ys U H=>m=kvs.length-i/\i<=kvs.length/\Pv i ys U H,⟨kvs.length,by simp,zero_le _,h0⟩,?_⟩
 rintro i m ys U H ⟨rfl,hi,p⟩
 obtain⟨q,hz⟩:=hl i ys U H hi p;refine⟨hz,?_⟩;by_cases az:i<kvs.length
 .refine .inr ⟨⟨az,q⟩,Pv (i+1),λbC U' H' p'=>⟨kvs.length-(i+1),by lia,rfl,az,p'⟩,λx H' y=>?_⟩;obtain⟨e,kv,b,ek,ex,eb⟩:=y;subst e ex;exact hs i kv b ys U _ ek eb p
 .have e:i=kvs.length:=by lia
  subst e;exact .inl ⟨⟨le_refl _,q⟩,hd ys U H p⟩
noncomputable abbrev zx:=List (List Int×List Int)
noncomputable def bX (t:List Int):List Key:=t.map Sum.inl
noncomputable def aY (is:zx):fB:=is.map λp=>(bX p.1,p.2)
theorem M9 (t:List Int):(bX t).map kV=t.map V.int:=by unfold bX;rw[map_map];rfl
theorem Gg {t u:List Int}(h:bX t=bX u):t=u:=(List.map_inj_right (λ_ _ z=>Sum.inl.inj z)).mp h
noncomputable def zk (is:zx)(en:Int):List (List Int):=(is.filter λp=>decide (en<=(p.2.length:Int))).map (·.1)
theorem zX:∀{is:zx}{i:Nat}{p:List Int×List Int},(is.map (·.1)).Nodup->is[i]?=some p->qb (aY is) (bX p.1)=p.2
 |[],_,_,_,e=>by simp at e
 |x::is,0,p,_,e=>by cases Option.some.inj e;show(if bX x.1=bX x.1 then x.2 else _)=_;rw[if_pos rfl]
 |x::is,i+1,p,nd,e=>by rw[map_cons,nodup_cons]at nd;have hm:p∈is:=mem_of_getElem? (by simpa using e);show(if bX x.1=bX p.1 then x.2 else qb (aY is) (bX p.1))=_;rw[if_neg λz=>nd.1 (by rw[Gg z];exact mem_map_of_mem hm)];exact zX nd.2 (by simpa using e)
theorem zY {K:W.Frag}{H H':Hp}{vs:List V}{ts:List (List Int)}(s:xp H H')(h:iI K H vs ts):iI K H' vs ts:=Paired.ub h λ_ _ ⟨a,e,q⟩=>⟨a,e,by
 rcases q with q|q
 .exact .inl (uP s q)
 .exact .inr q⟩
section
variable {P:Program}{w:World}{K:W.Frag}{mg:Str->Option Value}{base:Heap}{t:Ad}
theorem yp (T:Txt K mg t):xm P w K mg base CX0 1 t.En t.uy ["self","thing"] (ZR t):=by
 refine T.XB.aZ (N:=["self","thing"]) λ_ A _ s H vs Q E hr h=>?_;obtain⟨p,dx,S,en,kvs,ps,b,k,rfl,Bq,hb,q⟩:=h;refine⟨_,(@je _ _ _ (j3 (gE BO (jm jt rfl T.ue boot_len (jc (Kc (fR hr) (j7 (pv 0) rfl) (pv 1) (@zj _ _ _ _ jf) ⟨rfl,rfl,rfl,rfl⟩) jf)) (j7 (pv 0) rfl) (qc _)))),?_⟩;refine⟨_,rfl,p,_,dx,_,_,rfl,Bq.ob,T.zf,T.zr,uO _ _,S,rfl,.inr ⟨kvs,Bq.sg⟩,_,rfl,cI,λr hr=>?_⟩;have s1:=jg (o:=.lst []) hr;refine⟨_,.inr ⟨kvs,k,b,uP s1 Bq.sg,rfl,s1 _ _ hb,rfl⟩,?_⟩;rcases zW (k:=k) Bq.hs with⟨h1,h2,h3⟩|⟨c,h1,h2⟩
 .rw[h1];refine⟨r,[],rfl,.inl (ag.of ja),_,rfl,p,_,dx,_,_,rfl,s1 _ _ Bq.ob,T.zf,T.yg,zU _ _,_,_,rfl,rfl,?_⟩;have:=q _ s1;rw[h2]at this;exact this
 .rw[h1];refine⟨c,_,rfl,.inl (ag.of (s1 _ _ h2)),_,rfl,p,_,dx,_,_,rfl,s1 _ _ Bq.ob,T.zf,T.yg,zU _ _,_,_,rfl,rfl,?_⟩;rw[length_map];exact q _ s1
theorem ZW (T:Txt K mg t):xm P w K mg base CX0 1 t.Eo t.Ep ["self","house","thing"] (ZS t):=by
 refine T.XC.cz Mb λ_ A _ s H vs Q E hr h=>?_;obtain⟨p,dx,S,en,kvs,ps,b,k,h,rfl,Bq,hb,l1,l2,q1,q2⟩:=h;refine⟨_,(@jb _ _ _ _ _ (qa (i:=3) Mb.nd rfl (Or.inl rfl) (K4 (fR hr) (j7 (pv 0) rfl) (pv 2) (@zj _ _ _ _ jf) ⟨rfl,rfl,rfl,rfl⟩)) (@jb _ _ _ _ _ (zd (jw BZ (pv 1) (pv 3) (by with_unfolding_all rfl)) (@je _ _ _ (j3 eN)) j6) (@jb _ _ _ _ _ (j8 (dZ PySem.F.plainAttrs_list PySem.F.slot_list_append PySem.F.type_list_append yh (pv 3) (jc (pv 1) jf))) (@je _ _ _ (j3 (gE fK (jm jt rfl T.ue boot_len (jc (pv 3) jf)) (j7 (pv 0) rfl) (qc _))))))),?_⟩;refine⟨_,rfl,p,_,dx,_,_,rfl,Bq.ob,T.zf,T.zr,uO _ _,S,rfl,.inr ⟨kvs,.inl Bq.sg⟩,_,rfl,cI,λr hr=>?_⟩;have s1:=jg (o:=.lst []) hr;have B1:=Bq.same s1;refine⟨kvs,k,b,B1.sg,rfl,s1 _ _ hb,xi l1,λv hv=>?_,λhv=>?_⟩
 .rcases zW (k:=k) B1.hs with⟨z,_⟩|⟨c,h1,h2⟩
  .rw[hv]at z;cases z
  cases Option.some.inj (hv.symm.trans h1);refine⟨_,rfl,_,rfl,c,_,rfl,.inl (ag.of h2),rfl,vq _,_,rfl,bq (λz=>?_) (λz=>?_)⟩
  .rw[if_neg (by decide),ya]at z;exact q1 (of_decide_eq_true z) _ s1
  rw[if_neg (by decide),ya]at z;have nh:h∉qb ps k:=λy=>z (decide_eq_true y);have pc:p≠c:=dg B1.ob h2 (by intro z;cases z);have Sc:S≠c:=dg B1.sg h2 (by intro z;cases z);refine⟨_,rfl,.inl ⟨rfl,_,ag.of h2⟩,_,rfl,c,_,_,rfl,rfl,h2,xi (by rw[length_map];exact l2),?_⟩;refine⟨_,rfl,c,_,rfl,.inl (ag.of ja),_,rfl,p,_,dx,_,_,rfl,(by rw[jd pc];exact B1.ob),T.zf,T.yg,zU _ _,rfl,?_⟩;have G:=grown (h:=h) B1.hs B1.un h1;rw[map_append]at G;have e:decide (V.int (((qb ps k).map V.int++[V.int h]).length:Nat)=V.int en)=decide (((qb ps k).length:Int)+1=en):=by rw[length_append,length_map];simp
  have goal:=q2 nh kvs _ ⟨by rw[jd pc];exact B1.ob,by rw[jd Sc];exact B1.sg,G,B1.un⟩ λc' u hc cS cN=>by
   have ne:c'≠c:=λy=>by obtain⟨kv,hm,ek⟩:=mem_map.mp (M8 h1);exact cN kv hm (by rw[ek,y])
   rw[jd ne];exact s1 _ _ hc
  have goal:=goal λ_ _ _ z=>z;rw[<-e]at goal;exact goal
 .rcases zW (k:=k) B1.hs with⟨_,h2,h3⟩|⟨c,z,_⟩;case inr=>rw[hv]at z;cases z
  have rS:r≠S:=(ji Bq.sg hr).symm;have rp:r≠p:=(ji Bq.ob hr).symm;have Sp:S≠p:=dg Bq.sg Bq.ob (by intro z;cases z);rw[rX _ hv];have qA:upd (upd H r (.lst [])) S (.dT (kvs++[(k,.ref r)])) r=some (.lst []):=by rw[jd rS];exact ja
  refine⟨_,rfl,_,rfl,r,[],rfl,.inl (ag.of qA),rfl,rfl,_,rfl,vd ?_⟩;refine⟨_,rfl,.inl ⟨rfl,_,ag.of qA⟩,_,rfl,r,[],_,rfl,rfl,qA,(by show 0<sizeLine;decide),?_⟩;have Na:upd (upd (upd H r (.lst [])) S (.dT (kvs++[(k,.ref r)]))) r (.lst ([]++[.int h])) p=some (.ins t.ko dx (lg S en)):=by rw[jd rp.symm,jd Sp.symm];exact B1.ob
  refine⟨_,rfl,r,_,rfl,.inl (ag.of ja),_,rfl,p,_,dx,_,_,rfl,Na,T.zf,T.yg,zU _ _,rfl,?_⟩;have goal:=q2 (by rw[h2];simp) (kvs++[(k,.ref r)]) (upd (upd (upd H r (.lst [])) S (.dT (kvs++[(k,.ref r)]))) r (.lst ([]++[.int h]))) ⟨Na,by rw[jd rS.symm];exact ja,by
   rw[M7 h3];refine qo (Paired.ub Bq.hs λkv pp ⟨e1,c,e2,e3⟩=>⟨e1,c,e2,?_⟩) ⟨rfl,r,rfl,ja⟩;rw[jd (ji e3 hr),jd (dg e3 Bq.sg (by intro z;cases z)),jd (ji e3 hr)];exact e3,by
   rw[map_append,nodup_append];refine⟨Bq.un,by simp,λx hx y hy e=>?_⟩;rw[map_cons,map_nil,mem_singleton]at hy;rw[e,hy]at hx;exact ZT hr Bq.hs hx⟩ λc' u hc cS _=>by rw[jd (ji hc hr),jd cS,jd (ji hc hr)];exact hc
  have goal:=goal λc u hc z kv hm=>by
   rcases mem_append.mp hm with y|y
   .exact z kv y
   .have y':kv=(k,.ref r):=by simpa using y
    rw[y'];intro w;have w':r=c:=by simpa using w
    rw[<-w',hr]at hc;cases hc
  rw[h2]at goal;have e:decide (V.int ((([]:List V)++[V.int h]).length:Nat)=V.int en)=decide ((([]:List Int).length:Int)+1=en):=by simp
  rw[<-e]at goal;exact goal
noncomputable def eF (H:Hp)(v:V)(t:List Int):Prop:=∃a,v= .ref a/\H a=some (.tup (t.map V.int))
theorem eF.same {H H':Hp}(s:xp H H'){v:V}{t:List Int}(h:eF H v t):eF H' v t:=let⟨a,e,q⟩:=h;⟨a,e,s _ _ q⟩
theorem eF.at_ {K:W.Frag}{H:Hp}{vs:List V}{ts:List (List Int)}(h:Paired (eF H) vs ts):iI K H vs ts:=Paired.ub h λ_ _ ⟨a,e,q⟩=>⟨a,e,aw.of q⟩
theorem Nb {F:V->List Int->Prop}{vs:List V}{ts:List (List Int)}(p:Paired F vs ts):∀{ix:List Nat},(∀i∈ix,i<vs.length)->Paired F (ix.map λi=>vs.getD i .aj) (ix.map λi=>ts.getD i [])
 |[],_=>.nil
 |i::ix,h=>by obtain⟨t,e,q⟩:=qd p (getElem?_eq_getElem (h i mem_cons_self));rw[map_cons,map_cons];refine .cons ?_ (Nb p λj hj=>h j (mem_cons_of_mem _ hj));rw[getD_eq_getElem?_getD,getD_eq_getElem?_getD,e,getElem?_eq_getElem (h i mem_cons_self)];exact q
noncomputable def ZX (t:Ad):Sp:=λvs H Q _=>∃p dx S en kvs is,vs=[.ref p]/\yl t H p dx S en kvs (aY is)/\kvs.length<64/\(is.map (·.1)).Nodup/\(∀x∈is,x.1≠[])/\∀(r:Addr)(bh:List V)(cF:List (List Int))(H':Hp),H r=none->xp H H'->cF.Perm (zk is en)->cF.Pairwise (λa b=>HT.lexLt a b=true)->Paired (eF H') bh cF->H' r=some (.lst bh)->Q (.ref r) H'
theorem ZY (T:Txt K mg t):xm P w K mg base CX0 2 t.Er t.Es ["self"] (ZX t):=by
 refine T.XF.aZ (N:=["self"]) λ_ A _ s H vs Q E hr h=>?_;obtain⟨p,dx,S,en,kvs,is,rfl,Bq,l64,nd,ne,q⟩:=h;refine⟨_,(@je _ _ _ (j3 (jm KY rfl T.zQ boot_sorted (jc (CO (iF (N':=["thing","self"]) (ix:=[none,some 0]) (xq (by kernel_rfl)) rfl (UI (j7 (pv 0) rfl)) (λ_ _ _ _=>(jv (i:=0) WW rfl (Or.inl rfl) (.inr rfl))) (λ_ _ _ _=>(kN (qz (j5 (pv 1) T.zf T.xl (yp T) hr.dn T.xt .nil jn (jc (pv 0) jf))))) (λ_ _ _ _=>(pv 0)))) jf)))),?_⟩;have len:kvs.length=is.length:=by have:=Paired.length Bq.hs;rwa[aY,length_map]at this
 refine⟨_,rfl,p,_,dx,_,_,rfl,Bq.ob,T.zf,T.zr,uO _ _,S,kvs,rfl,Bq.sg,λo=>ZV (λi ys U H'=>∃v,U=[v,some (.ref p)]/\xp (upd H S (.aA o (.dT kvs))) H'/\Paired (eF H') ys (zk (is.take i) en)) ⟨none,rfl,xp.refl _,.nil⟩ ?_ ?_ ?_⟩
 .rintro i ys U H' hi ⟨v,rfl,sm,tu⟩
  refine⟨sm _ _ ja,?_⟩;rw[Paired.length tu,zk,length_map];exact oC (le_trans (length_filter_le _ _) (by rw[length_take];omega))
 .rintro i kv b ys U H' ek eb ⟨v,rfl,sm,tu⟩
  obtain⟨pp,ep,e1,c,e2,e3⟩:=qd Bq.hs ek;obtain⟨x,ex,rfl⟩:∃x,is[i]?=some x/\(bX x.1,x.2)=pp:=by
   rw[aY,getElem?_map]at ep;cases hx:is[i]? with
   |none=>rw[hx]at ep;cases ep
   |some x=>rw[hx]at ep;exact⟨x,rfl,Option.some.inj ep⟩
  have mx:∀c u,H c=some u->c≠S->H' c=some u:=λc u hc cS=>sm _ _ (by rw[jd cS];exact hc);have lB:H' S=some (.aA o (.dT kvs)):=sm _ _ ja;have R:zV t H' p dx S en kvs (aY is):=⟨mx _ _ Bq.ob (dg Bq.ob Bq.sg (by intro z;cases z)),.inr ⟨o,lB⟩,Paired.ub Bq.hs λ_ _ ⟨a1,c,a2,a3⟩=>⟨a1,c,a2,mx _ _ a3 (dg a3 Bq.sg (by intro z;cases z))⟩⟩;have hk:kv.1=bX x.1:=e1;rw[hk]at eb;have hh:=zX nd ex;have tk:zk (is.take (i+1)) en=zk (is.take i) en++(if en<=(x.2.length:Int)then[x.1]else[]):=by unfold zk;rw[take_snoc ex,filter_append,map_append];by_cases z:en<=(x.2.length:Int)<;>simp[z]
  refine⟨_,rfl,p,dx,_,rfl,R.ob,lq _ _ (by decide+kernel) (by decide+kernel),_,rfl,p,dx,S,en,kvs,aY is,b,bX x.1,rfl,R,eb,λH3 s3=>⟨_,rfl,?_⟩⟩;rw[hh];have ZZ:H3 b=some (.tup (x.1.map V.int)):=by have:=s3 _ _ eb;rwa[M9]at this
  refine bq (λz=>?_) (λz=>?_)
  .refine⟨_,rfl,_,rfl,sm.trans s3,?_⟩;rw[tk,if_pos (of_decide_eq_true z)];exact qo (Paired.ub tu λ_ _ h=>h.same s3) ⟨b,rfl,ZZ⟩
  .refine⟨_,rfl,sm.trans s3,?_⟩;rw[tk,if_neg (λy=>z (decide_eq_true y)),append_nil];exact Paired.ub tu λ_ _ h=>h.same s3
 .rintro ys U H' ⟨v,rfl,sm,tu⟩ r hr
  rw[len,take_length]at tu;have lB:H' S=some (.aA o (.dT kvs)):=sm _ _ ja;have rS:r≠S:=(ji lB hr).symm;have mI:∀c u,H' c=some u->c≠S->upd (upd H' r (.lst ys)) S (.dT kvs) c=some u:=λc u hc cS=>by rw[jd cS,jd (ji hc hr)];exact hc
  have Nc:Paired (eF (upd (upd H' r (.lst ys)) S (.dT kvs))) ys (zk is en):=Paired.ub tu λ_ _ ⟨a,e,h⟩=>⟨a,e,mI _ _ h (dg h lB (by intro z;cases z))⟩;refine⟨S,o,.dT kvs,(by rw[jd rS.symm];exact lB),(λo' u' z=>?_),True.intro,r,ys,zk is en,rfl,ag.of (by rw[jd rS];exact ja),eF.at_ Nc,?_,?_,?_,λq' bh cF ix hq Z6 ev et _ pt _ pw=>?_⟩
  .have z':H S=some (.aA o' u'):=z;rw[Bq.sg]at z';cases z'
  .rw[Paired.length tu,zk,length_map];exact lt_of_le_of_lt (length_filter_le _ _) (by omega)
  .exact nd.sublist (List.filter_sublist.map _)
  .intro u hu;obtain⟨x,hx,rfl⟩:=mem_map.mp hu;exact ne x (mem_filter.mp hx).1
  .obtain⟨n1,n2⟩:=uN hq;obtain⟨n3,n4⟩:=uN n2;have h0:=(uN (sm.free n4)).2;have Z7:Paired (eF (upd (upd (upd H' r (.lst ys)) S (.dT kvs)) q' (.lst bh))) bh cF:=by
    have:=Nb (Paired.ub Nc λ_ _ h=>h.same (jg (o:=.lst bh) hq)) (ix:=ix) (λi hi=>mem_range.mp (Z6.mem_iff.mp hi));rw[ev,et];rw[ev]at this;exact this
   refine q q' bh cF _ h0 (λc u hc=>?_) pt pw Z7 ja;rw[jd (ji hc h0)];by_cases cS:c=S
   .subst cS;rw[ja,<-hc,Bq.sg]
   .exact mI c u (sm _ _ (by rw[jd cS];exact hc)) cS
theorem Z8 (T:Txt K mg t):xm P w K mg base CX0 1 t.kc t.Em ["self","enough"] (ZP t):=by
 refine T.Xy.aZ (N:=["self","enough"]) λ_ A _ s H vs Q E hr h=>?_;obtain⟨x,dx,en,rfl,hx,k⟩:=h;refine⟨_,(@jb _ _ _ _ _ (dG (pv 0) (pv 1) rfl) (@je _ _ _ (dG (pv 0) xE rfl))),?_⟩;refine⟨_,rfl,_,rfl,x,_,dx,_,rfl,hx,T.zf,T.yg,(by show 0<1000;decide),λS hS=>?_⟩;obtain⟨Sx,Nd⟩:=uN hS;refine⟨_,rfl,x,_,dx,_,rfl,(by rw[jd (Ne.symm Sx),ja]),T.zf,T.zr,(by show 1<1000;decide),?_⟩;refine k S _ Nd ⟨ja,by rw[jd Sx];exact ja,.nil,.nil⟩ λb o e bx=>?_;rw[jd bx,jd (ji e Nd),jd bx];exact e
theorem jkd (T:Txt K mg t):xm P w K mg base CX0 1 t.ur t.D9 ["self","purse"] (λvs H Q _=>∃x v,vs=[.ref x,v]/\H x=some (tw x t.xj)/\∀d,H d=none->Q .aj (upd (upd H x (oq x t.xj d)) d (.xd [("purse",v)]))):=by refine T.Xm.aZ (N:=["self","purse"]) λ_ A _ s H vs Q E hr h=>?_;obtain⟨x,v,rfl,hx,k⟩:=h;refine⟨_,(@je _ _ _ (VH T.Mu rfl (pv 0) (pv 1) rfl)),?_⟩;exact⟨_,rfl,_,rfl,x,rfl,hx,k⟩
theorem j95 {H:Hp}{ea d:Addr}{X Yq Zq:HO}(h:H ea=none)(hd:upd H ea X d=none):H d=none/\upd (upd (upd H ea X) ea Yq) d Zq ea=some Yq/\xp H (λb=>if b=ea then none else upd (upd (upd H ea X) ea Yq) d Zq b)/\(λb=>if b=ea then none else upd (upd (upd H ea X) ea Yq) d Zq b) d=some Zq:=by
 have n1:d≠ea:=λz=>by rw[z,ja]at hd;cases hd
 have n2:H d=none:=by rw[jd n1]at hd;exact hd
 refine⟨n2,by rw[jd (Ne.symm n1),ja],λb u e=>?_,?_⟩
 .have be:=ji e h;show(if b=ea then none else upd (upd (upd H ea X) ea Yq) d Zq b)=some u;rw[if_neg be,jd (ji e n2),jd be,jd be];exact e
 .show(if d=ea then none else upd (upd (upd H ea X) ea Yq) d Zq d)=some Zq;rw[if_neg n1,ja]
theorem aJ {a b:TS}{D:Ends}{U:St}{H:Hp}(h:∀N:St->Hp->Prop,(∀U' H',b D U' H'->N U' H')->a {D with nx:=N} U H):IP a b D U H:=h _ λ_ _ x=>x
theorem uQ {c:TT}{a b:TS}{D:Ends}{U:St}{H:Hp}(h:∀N:Bool->Hp->Prop,(∀k H',(if k=true then a D U H' else b D U H')->N k H')->c U H N):IQ c a b D U H:=h _ λ_ _ x=>x
structure Kp where
 held:List Int
 cO:List Int
 done:List O
 de:List O
 aH:List O
 cho:List ((Int×Int)×O)
 wait:List O
noncomputable def gI (xs:List Int)(i:Int):Int:=(xs[i.toNat]?).getD 0
noncomputable def ba (xs:List Int)(i d:Int):List Int:=xs.set i.toNat (gI xs i+d)
theorem zZ (xs:List Int)(i d:Int):(ba xs i d).length=xs.length:=length_set ..
theorem Gh {xs:List Int}{i:Int}(h0:0<=i)(h:i<xs.length):xs[i.toNat]?=some (gI xs i):=by unfold gI;rw[getElem?_eq_getElem (by lia)];rfl
noncomputable def Kp.past (k:Kp)(o:O):Bool:=decide (o.n<gI k.cO o.p)
noncomputable def Kp.iT (k:Kp)(o:O):Bool:=decide (o.n=gI k.cO o.p)&&decide (o.m<=gI k.held o.p)
noncomputable def Kp.settle (k:Kp)(o:O):Kp:={k with held:=ba (ba k.held o.p (-o.m)) o.g o.m,cO:=ba k.cO o.p 1,done:=k.done++[o]}
noncomputable def jM (c:List ((Int×Int)×O))(o:O):Bool:=c.any λx=>decide (x.1=(o.p,o.n))
noncomputable abbrev Gv:=List ((Int×Int)×O)×List O×List O
noncomputable def cK (k:Kp)(o:O)(a:Gv):Gv:=if(k.iT o&&!jM a.1 o)=true then(a.1++[((o.p,o.n),o)],a.2.1++[o],a.2.2)else if(!k.past o&&!jM a.1 o)=true then(a.1,a.2.1,a.2.2++[o])else a
noncomputable def gv (k:Kp)(os:List O)(a:Gv):Gv:=os.foldl (λa o=>cK k o a) a
noncomputable def Kp.zg (k:Kp):Kp×List O:=({k with cho:=(gv k k.aH (k.cho,[],[])).1,aH:=(gv k k.aH (k.cho,[],[])).2.2},(gv k k.aH (k.cho,[],[])).2.1)
noncomputable def Kp.first (k:Kp):Option O:=k.wait.find? k.iT
noncomputable def Kp.step (k:Kp)(o:O):Kp:={k with wait:=k.wait.erase o}.settle o
noncomputable def Kp.go:Nat->Kp->Kp
 |0,k=>k
 |n+1,k=>match k.first with
  |none=>k
  |some o=>Kp.go n (k.step o)
noncomputable def Kp.iU (k:Kp):Kp:=Kp.go k.wait.length k
noncomputable def Kp.oE (k:Kp)(o:O):Kp×List O:=if o∈k.de then(k,[])else Kp.zg {k with de:=k.de++[o],aH:=k.aH++[o]}
noncomputable def Kp.jN (k:Kp)(o:O):Kp×List O:=if(k.past o||decide (o∈k.wait))=true then(k,[])else(Kp.iU {k with wait:=k.wait++[o]}).zg
structure Kp.Ok (n:Nat)(k:Kp):Prop where
 h:k.held.length=n
 x:k.cO.length=n
 u:∀o∈k.aH,y4 n o=true
 w:∀o∈k.wait,y4 n o=true
 nd:k.wait.Nodup
theorem Kp.Ok.settle {n:Nat}{k:Kp}(q:k.Ok n)(o:O):(k.settle o).Ok n:=⟨by show(ba (ba _ _ _) _ _).length=n;rw[zZ,zZ];exact q.h,by show(ba _ _ _).length=n;rw[zZ];exact q.x,q.u,q.w,q.nd⟩
theorem Kp.Ok.step {n:Nat}{k:Kp}(q:k.Ok n)(o:O):(k.step o).Ok n:=Kp.Ok.settle (k:={k with wait:=k.wait.erase o}) ⟨q.h,q.x,q.u,λo' h=>q.w o' (List.mem_of_mem_erase h),q.nd.erase o⟩ o
theorem Gi (k:Kp){P:O->Prop}:∀(os:List O)(a:Gv),(∀o∈os,P o)->(∀o∈a.2.2,P o)->∀o∈(gv k os a).2.2,P o
 |[],a,_,h=>h
 | o::os,a,h1,h2=>by
  unfold gv;rw[foldl_cons];refine Gi k os _ (λo' h=>h1 o' (mem_cons_of_mem _ h)) ?_;unfold cK;split
  .exact h2
  .split
   .intro o' h;rcases mem_append.mp h with h|h
    .exact h2 o' h
    .rw[mem_singleton.mp h];exact h1 o mem_cons_self
   .exact h2
theorem Kp.Ok.zg {n:Nat}{k:Kp}(q:k.Ok n):k.zg.1.Ok n:=⟨q.h,q.x,Gi k k.aH _ q.u (λo h=>by cases h),q.w,q.nd⟩
set_option genInjectivity true in
inductive Part where
 | x | wy | ak | bd | sd | sg | kd
 | row (i:Nat)
 | kp (h:Int) (f:Nat)
 | own (i:Nat)
 deriving DecidableEq
abbrev Role:=Nat×Part
noncomputable abbrev aq:=Addr->Option Role
noncomputable def oF:HO->Prop
 | .tup _=>False
 | .aA _ (.tup _)=>False
 |_=>True
noncomputable def ax (Z:aq)(H:Hp):Prop:=∀a r,Z a=some r->∃u,H a=some u/\oF u
noncomputable def Fr (P:Role->Prop)(Z:aq)(H:Hp)(Z':aq)(H':Hp):Prop:=∀a u,H a=some u->(∀r,Z a=some r->¬P r)->H' a=some u/\Z' a=Z a
noncomputable def aD (Z:aq)(p:Addr)(r:Role):aq:=λa=>if a=p then some r else Z a
theorem zu {Z:aq}{p:Addr}{r:Role}:aD Z p r p=some r:=if_pos rfl
theorem xo {Z:aq}{p a:Addr}{r:Role}(h:a≠p):aD Z p r a=Z a:=if_neg h
theorem Fr.refl {P:Role->Prop}{Z:aq}{H:Hp}:Fr P Z H Z H:=λ_ _ e _=>⟨e,rfl⟩
theorem Fr.trans {P:Role->Prop}{Z Z' Nf:aq}{H H' mJ:Hp}(f:Fr P Z H Z' H')(g:Fr P Z' H' Nf mJ):Fr P Z H Nf mJ:=λa u e n=>by obtain⟨e1,r1⟩:=f a u e n;obtain⟨e2,r2⟩:=g a u e1 (λr h=>n r (r1 ▸ h));exact⟨e2,r2.trans r1⟩
theorem Fr.mono {P P':Role->Prop}{Z Z':aq}{H H':Hp}(h:∀r,P r->P' r)(f:Fr P Z H Z' H'):Fr P' Z H Z' H':=λa u e n=>f a u e λr hr p=>n r hr (h r p)
theorem Fr.same {P:Role->Prop}{Z:aq}{H H':Hp}(s:xp H H'):Fr P Z H Z H':=λ_ _ e _=>⟨s _ _ e,rfl⟩
theorem ax.same {Z:aq}{H H':Hp}(s:xp H H')(o:ax Z H):ax Z H':=λa r h=>let⟨u,e,n⟩:=o a r h;⟨u,s _ _ e,n⟩
theorem ax.none {Z:aq}{H:Hp}{p:Addr}(o:ax Z H)(h:H p=none):Z p= .none:=by
 cases e:Z p with
 |none=>rfl
 |some r=>obtain⟨u,q,_⟩:=o p r e;rw[h]at q;cases q
theorem ax.tup {Z:aq}{H:Hp}{p:Addr}{xs:List V}(o:ax Z H)(h:H p=some (.tup xs)):Z p= .none:=by
 cases e:Z p with
 |none=>rfl
 |some r=>obtain⟨u,q,n⟩:=o p r e;rw[h]at q;cases q;exact n.elim
theorem Fr.put {P:Role->Prop}{Z:aq}{H:Hp}{a:Addr}{r:Role}{o:HO}(h:Z a=some r)(p:P r):Fr P Z H Z (upd H a o):=λb u e n=>by have:b≠a:=λz=>n r (z ▸ h) p;exact⟨by rw[jd this];exact e,rfl⟩
theorem ax.put {Z:aq}{H:Hp}{a:Addr}{o:HO}(k:ax Z H)(ho:autoParam (oF o) aP7):ax Z (upd H a o):=λb r h=>by
 by_cases z:b=a
 .subst z;exact⟨_,ja,ho⟩
 .obtain⟨u,e,n⟩:=k b r h;exact⟨u,by rw[jd z];exact e,n⟩
theorem Fr.cx {P:Role->Prop}{Z:aq}{H:Hp}{p:Addr}{r:Role}{o:HO}(n:H p=none):Fr P Z H (aD Z p r) (upd H p o):=λb u e _=>by have:b≠p:=ji e n;exact⟨by rw[jd this];exact e,xo this⟩
theorem ax.cx {Z:aq}{H:Hp}{p:Addr}{r:Role}{o:HO}(k:ax Z H)(ho:autoParam (oF o) aP7):ax (aD Z p r) (upd H p o):=λb r' h=>by
 by_cases z:b=p
 .subst z;exact⟨_,ja,ho⟩
 .rw[xo z]at h;obtain⟨u,e,n⟩:=k b r' h;exact⟨u,by rw[jd z];exact e,n⟩
theorem eS {Z:aq}{a b:Addr}{r r':Role}(ha:Z a=some r)(hb:Z b=some r')(n:r≠r'):a≠b:=λz=>by subst z;rw[ha]at hb;exact n (Option.some.inj hb)
theorem Aa {Z:aq}{a b:Addr}{r:Role}(ha:Z a=none)(hb:Z b=some r):a≠b:=λz=>by subst z;rw[ha]at hb;cases hb
noncomputable def zv (H:Hp)(Z:aq)(x:V)(o:O):Prop:=∃a,x= .ref a/\Z a=none/\H a=some (.tup (bI o))
theorem zv.fr {P:Role->Prop}{Z Z':aq}{H H':Hp}{x:V}{o:O}(f:Fr P Z H Z' H')(h:zv H Z x o):zv H' Z' x o:=by
 obtain⟨a,e,n,q⟩:=h;obtain⟨q',n'⟩:=f a _ q λr hr=>by rw[n]at hr;cases hr
 exact⟨a,e,n'.trans n,q'⟩
theorem zv.at_ {H:Hp}{Z:aq}{x:V}{o:O}(h:zv H Z x o):fu H x o:=let⟨a,e,_,q⟩:=h;⟨a,e,q⟩
noncomputable def bJ (o:O):List Key:=[.inl o.p,.inl o.n,.inl o.g,.inl o.m]
theorem j2o {o u:O}(h:bJ o=bJ u):o=u:=by cases o;cases u;unfold bJ at h;simp at h;simp[h]
noncomputable def iV (he nn dn:Addr):List (Str×V):=ua "done" (.ref dn) (ua "next_numbers" (.ref nn) (ua "held" (.ref he) []))
noncomputable def kf (he nn dn hd un cs wt:Addr):List (Str×V):=ua "waiting" (.ref wt) (ua "choices" (.ref cs) (ua "unvoted" (.ref un) (ua "heard" (.ref hd) (iV he nn dn))))
noncomputable abbrev eG (A:Nat->Addr):List (Str×V):=kf (A 1) (A 2) (A 3) (A 4) (A 5) (A 6) (A 7)
noncomputable def dJ (H:Hp)(Z:aq)(B:Kp)(f:Nat)(u:HO):Prop:=match f with
 |1=>u= .lst (B.held.map V.int)
 |2=>u= .lst (B.cO.map V.int)
 |3=>∃xs,u= .lst xs/\Paired (zv H Z) xs B.done
 |4=>∃kvs,u= .dT kvs/\kvs.map (·.1)=B.de.map bJ
 |5=>∃xs,u= .lst xs/\Paired (zv H Z) xs B.aH
 |6=>∃kvs,u= .dT kvs/\Paired (λkv (c:(Int×Int)×O)=>kv.1=[.inl c.1.1,.inl c.1.2]/\zv H Z kv.2 c.2) kvs B.cho
 |7=>∃xs,u= .lst xs/\Paired (zv H Z) xs B.wait
 |_=>True
theorem dJ.fr {P:Role->Prop}{Z Z':aq}{H H':Hp}{B:Kp}{f:Nat}{u:HO}(fr:Fr P Z H Z' H')(h:dJ H Z B f u):dJ H' Z' B f u:=by
 unfold dJ at h⊢;split at h
 .exact h
 .exact h
 .obtain⟨xs,e,p⟩:=h;exact⟨xs,e,Paired.ub p λ_ _=>zv.fr fr⟩
 .exact h
 .obtain⟨xs,e,p⟩:=h;exact⟨xs,e,Paired.ub p λ_ _=>zv.fr fr⟩
 .obtain⟨xs,e,p⟩:=h;exact⟨xs,e,Paired.ub p λ_ _ ⟨a,b⟩=>⟨a,b.fr fr⟩⟩
 .obtain⟨xs,e,p⟩:=h;exact⟨xs,e,Paired.ub p λ_ _=>zv.fr fr⟩
 .trivial
structure xn (t:Ad)(H:Hp)(Z:aq)(id:Nat)(h:Int)(k:Addr)(A:Nat->Addr)(dk:Addr)(B:Kp):Prop where
 ob:H k=some (.ins t.j4 dk (eG A))
 r0:Z k=some (id,.kp h 0)
 fl:∀f,1<=f->f<=7->Z (A f)=some (id,.kp h f)/\∃u,H (A f)=some u/\dJ H Z B f u
noncomputable def bp (id:Nat)(h:Int):Role->Prop:=λr=>∃f,r=(id,.kp h f)
section
variable {t:Ad}{H H':Hp}{Z Z':aq}{id:Nat}{h:Int}{k dk:Addr}{A:Nat->Addr}{B κ':Kp}{P:Role->Prop}
theorem xn.fr (hP:∀f,¬P (id,.kp h f))(f:Fr P Z H Z' H')(K:xn t H Z id h k A dk B):xn t H' Z' id h k A dk B:=by
 obtain⟨e1,r1⟩:=f _ _ K.ob λr hr=>by rw[K.r0]at hr;cases hr;exact hP 0
 refine⟨e1,r1.trans K.r0,λi h1 h7=>?_⟩;obtain⟨ri,u,hu,q⟩:=K.fl i h1 h7;obtain⟨e2,r2⟩:=f _ _ hu λr hr=>by rw[ri]at hr;cases hr;exact hP i
 exact⟨r2.trans ri,u,e2,q.fr f⟩
theorem xn.put (K:xn t H Z id h k A dk B){f0:Nat}(h1:1<=f0)(h7:f0<=7){u0:HO}(q0:dJ (upd H (A f0) u0) Z κ' f0 u0)(hs:∀f u,f≠f0->dJ H Z B f u->dJ H Z κ' f u):xn t (upd H (A f0) u0) Z id h k A dk κ'/\Fr (bp id h) Z H Z (upd H (A f0) u0):=by
 obtain⟨r0,_⟩:=K.fl f0 h1 h7;have fr:Fr (bp id h) Z H Z (upd H (A f0) u0):=Fr.put r0 ⟨f0,rfl⟩;refine⟨⟨?_,K.r0,λf a b=>?_⟩,fr⟩
 .rw[jd (eS K.r0 r0 (by intro z;cases z;lia))];exact K.ob
 .obtain⟨rf,u,hu,q⟩:=K.fl f a b;by_cases z:f=f0
  .subst z;exact⟨rf,_,ja,q0⟩
  .refine⟨rf,u,?_,(hs f u z q).fr fr⟩;rw[jd (eS rf r0 (by intro y;cases y;exact z rfl))];exact hu
end
theorem xw (A:Nat->Addr):(eG A).lookup ("held":Str)=some (.ref (A 1))/\(eG A).lookup ("next_numbers":Str)=some (.ref (A 2))/\(eG A).lookup ("done":Str)=some (.ref (A 3))/\(eG A).lookup ("heard":Str)=some (.ref (A 4))/\(eG A).lookup ("unvoted":Str)=some (.ref (A 5))/\(eG A).lookup ("choices":Str)=some (.ref (A 6))/\(eG A).lookup ("waiting":Str)=some (.ref (A 7)):=by unfold eG kf iV;refine⟨?_,?_,?_,?_,?_,?_,?_⟩<;>repeat(first|rw[jl,if_pos rfl]|rw[jl,if_neg (by decide+kernel)])
theorem fE (A:Nat->Addr){m:Str}(h:autoParam (¬m="waiting"/\¬m="choices"/\¬m="unvoted"/\¬m="heard"/\¬m="done"/\¬m="next_numbers"/\¬m="held") aP4):(eG A).lookup m=none:=by obtain⟨h1,h2,h3,h4,h5,h6,h7⟩:=h;unfold eG kf iV;rw[jl,if_neg h1,jl,if_neg h2,jl,if_neg h3,jl,if_neg h4,jl,if_neg h5,jl,if_neg h6,jl,if_neg h7];rfl
theorem xn.he {t:Ad}{H:Hp}{Z:aq}{id:Nat}{h:Int}{k dk:Addr}{A:Nat->Addr}{B:Kp}(K:xn t H Z id h k A dk B):H (A 1)=some (.lst (B.held.map V.int)):=by obtain⟨_,u,hu,q⟩:=K.fl 1 (by decide) (by decide);rw[hu,show u=_ from q]
theorem xn.nn {t:Ad}{H:Hp}{Z:aq}{id:Nat}{h:Int}{k dk:Addr}{A:Nat->Addr}{B:Kp}(K:xn t H Z id h k A dk B):H (A 2)=some (.lst (B.cO.map V.int)):=by obtain⟨_,u,hu,q⟩:=K.fl 2 (by decide) (by decide);rw[hu,show u=_ from q]
theorem xn.dn {t:Ad}{H:Hp}{Z:aq}{id:Nat}{h:Int}{k dk:Addr}{A:Nat->Addr}{B:Kp}(K:xn t H Z id h k A dk B):∃xs,H (A 3)=some (.lst xs)/\Paired (zv H Z) xs B.done:=by obtain⟨_,u,hu,xs,rfl,q⟩:=K.fl 3 (by decide) (by decide);exact⟨xs,hu,q⟩
theorem xn.hd {t:Ad}{H:Hp}{Z:aq}{id:Nat}{h:Int}{k dk:Addr}{A:Nat->Addr}{B:Kp}(K:xn t H Z id h k A dk B):∃kvs,H (A 4)=some (.dT kvs)/\kvs.map (·.1)=B.de.map bJ:=by obtain⟨_,u,hu,xs,rfl,q⟩:=K.fl 4 (by decide) (by decide);exact⟨xs,hu,q⟩
theorem xn.un {t:Ad}{H:Hp}{Z:aq}{id:Nat}{h:Int}{k dk:Addr}{A:Nat->Addr}{B:Kp}(K:xn t H Z id h k A dk B):∃xs,H (A 5)=some (.lst xs)/\Paired (zv H Z) xs B.aH:=by obtain⟨_,u,hu,xs,rfl,q⟩:=K.fl 5 (by decide) (by decide);exact⟨xs,hu,q⟩
theorem xn.cs {t:Ad}{H:Hp}{Z:aq}{id:Nat}{h:Int}{k dk:Addr}{A:Nat->Addr}{B:Kp}(K:xn t H Z id h k A dk B):∃kvs,H (A 6)=some (.dT kvs)/\Paired (λkv (c:(Int×Int)×O)=>kv.1=[.inl c.1.1,.inl c.1.2]/\zv H Z kv.2 c.2) kvs B.cho:=by obtain⟨_,u,hu,xs,rfl,q⟩:=K.fl 6 (by decide) (by decide);exact⟨xs,hu,q⟩
theorem xn.wt {t:Ad}{H:Hp}{Z:aq}{id:Nat}{h:Int}{k dk:Addr}{A:Nat->Addr}{B:Kp}(K:xn t H Z id h k A dk B):∃xs,H (A 7)=some (.lst xs)/\Paired (zv H Z) xs B.wait:=by obtain⟨_,u,hu,xs,rfl,q⟩:=K.fl 7 (by decide) (by decide);exact⟨xs,hu,q⟩
theorem uR {n:Nat}{o:O}{xs:List Int}(h:y4 n o=true)(l:xs.length=n):xs[o.p.toNat]?=some (gI xs o.p)/\0<=o.p/\o.p<n:=by obtain⟨a1,a2,_⟩:=mG.mp h;exact⟨Gh a1 (by lia),a1,by lia⟩
theorem Gj (T:Txt K mg t):xm P w K mg base CX0 1 t.zJ t.Ey ["self","order"] (λvs H Q _=>∃Z id h k A dk B n q o,vs=[.ref k,.ref q]/\xn t H Z id h k A dk B/\H q=some (.tup (bI o))/\y4 (n:Nat) o=true/\B.cO.length=n/\Q (.bl (B.past o)) H):=by refine T.XR.aZ (N:=["self","order"]) λ_ A _ s H vs Q E hr h=>?_;obtain⟨Z,id,h,k,A',dk,B,n,q,o,rfl,R,hq,ho,l,g⟩:=h;refine⟨_,(@je _ _ _ (j3 (gE nG (kl fP (pv 1) jk (λ_ _=>rfl)) (kl fO (j7 (pv 0) rfl) (kl fP (pv 1) jk (λ_ _=>rfl)) (λ_ _=>rfl)) (qc _)))),?_⟩;obtain⟨e,p0,_⟩:=uR ho l;refine⟨_,rfl,q,bI o,1,.int o.n,rfl,rfl,aw.of hq,rfl,_,rfl,k,_,dk,_,_,rfl,R.ob,T.jr,T.qx,(xw A').2.1,_,rfl,q,bI o,0,.int o.p,rfl,rfl,aw.of hq,rfl,A' 2,_,o.p,.int (gI B.cO o.p),rfl,rfl,ag.of R.nn,kZ p0 (by rw[getElem?_map,e];rfl),_,_,rfl,rfl,g⟩
theorem Ng (T:Txt K mg t):xm P w K mg base CX0 1 t.zK t.Ez ["self","order"] (λvs H Q _=>∃Z id h k A dk B n q o,vs=[.ref k,.ref q]/\xn t H Z id h k A dk B/\H q=some (.tup (bI o))/\y4 (n:Nat) o=true/\B.cO.length=n/\B.held.length=n/\Q (.bl (B.iT o)) H):=by
 refine T.XS.cz gp λ_ A _ s H vs Q E hr h=>?_;obtain⟨Z,id,h,k,A',dk,B,n,q,o,rfl,R,hq,ho,l,l2,g⟩:=h;refine⟨_,(@jb _ _ _ _ _ (kB (pv 1) (lX rfl (j9 (jv (i:=2) gp.nd rfl (Or.inl rfl)) (j9 (jv (i:=3) gp.nd rfl (Or.inl rfl)) (j9 (jv (i:=4) gp.nd rfl (Or.inl rfl)) (j9 (jv (i:=5) gp.nd rfl (Or.inl rfl)) lW)))))) (@je _ _ _ (j3 (kA (gE fK (pv 3) (kl fO (j7 (pv 0) rfl) (pv 2) (λ_ _=>rfl)) (qc _)) (lT (gE rB (pv 5) (kl fO (j7 (pv 0) rfl) (pv 2) (λ_ _=>rfl)) (qc _))))))),?_⟩;obtain⟨e,p0,_⟩:=uR ho l;obtain⟨e2,_,_⟩:=uR ho l2;refine⟨_,rfl,q,_,rfl,aw.of hq,rfl,_,_,rfl,_,_,rfl,_,_,rfl,_,_,rfl,rfl,?_⟩;refine⟨_,rfl,_,rfl,k,_,dk,_,_,rfl,R.ob,T.jr,T.qx,(xw A').2.1,_,rfl,A' 2,_,o.p,.int (gI B.cO o.p),rfl,rfl,ag.of R.nn,kZ p0 (by rw[getElem?_map,e];rfl),rfl,_,rfl,?_⟩;unfold Kp.iT at g;refine bq (λz=>?_) (λz=>?_)
 .refine⟨_,rfl,_,rfl,k,_,dk,_,_,rfl,R.ob,T.jr,T.yz,(xw A').1,_,rfl,A' 1,_,o.p,.int (gI B.held o.p),rfl,rfl,ag.of R.he,kZ p0 (by rw[getElem?_map,e2];rfl),_,_,rfl,rfl,?_⟩;rw[decide_eq_true (V.int.inj (of_decide_eq_true z)),Bool.true_and]at g;exact g
 .rw[decide_eq_false (λy=>z (by rw[y];exact decide_eq_true rfl)),Bool.false_and]at g;exact g
theorem jrg (T:Txt K mg t):xm P w K mg base CX0 1 t.zL t.EA ["self","order"] (λvs H Q _=>∃Z id h k A dk B n q o,vs=[.ref k,.ref q]/\xn t H Z id h k A dk B/\zv H Z (.ref q) o/\y4 (n:Nat) o=true/\B.cO.length=n/\B.held.length=n/\B.done.length<=1000/\ax Z H/\∀H',xn t H' Z id h k A dk (B.settle o)->Fr (bp id h) Z H Z H'->ax Z H'->Q .aj H'):=by
 refine T.XT.cz gk λ_ A _ s H vs Q E hr h=>?_;obtain⟨Z,id,h,k,A',dk,B,n,q,o,rfl,R,uq,ho,l,l2,ld,kr,g⟩:=h;refine⟨_,(@jb _ _ _ _ _ (kB (pv 1) (lX rfl (j9 (jv (i:=2) gk.nd rfl (Or.inl rfl)) (j9 (jv (i:=3) gk.nd rfl (Or.inl rfl)) (j9 (jv (i:=4) gk.nd rfl (Or.inl rfl)) (j9 (jv (i:=5) gk.nd rfl (Or.inl rfl)) lW)))))) (@jb _ _ _ _ _ (BJ (j7 (pv 0) rfl) (pv 2) CG (pv 5) Qf set_list) (@jb _ _ _ _ _ (BJ (j7 (pv 0) rfl) (pv 4) CG (pv 5) Ja set_list) (@jb _ _ _ _ _ (BJ (j7 (pv 0) rfl) (pv 2) CG jk Ja set_list) (@je _ _ _ (j8 (dZ PySem.F.plainAttrs_list PySem.F.slot_list_append PySem.F.type_list_append yh (j7 (pv 0) rfl) (jc (pv 1) jf)))))))),?_⟩;obtain⟨_,eq,nq,hq⟩:=uq;cases eq;obtain⟨e,p0,p1⟩:=uR ho l;obtain⟨e2,_,_⟩:=uR ho l2;refine⟨_,rfl,q,_,rfl,aw.of hq,rfl,_,_,rfl,_,_,rfl,_,_,rfl,_,_,rfl,rfl,?_⟩;obtain⟨g0,g1⟩:=(λa=>⟨a.2.2.1,a.2.2.2.1⟩:_->0<=o.g/\o.g<=(n:Int)-1) (mG.mp ho);refine⟨_,rfl,k,_,dk,_,_,rfl,R.ob,T.jr,T.yz,(xw A').1,_,rfl,A' 1,_,o.p,.int (gI B.held o.p),rfl,rfl,ag.of R.he,p0,(by rw[getElem?_map,e2];rfl),_,rfl,_,_,rfl,rfl,A' 1,_,o.p,_,rfl,rfl,R.he,uL p0 (by rw[length_map];omega),?_⟩;have m1:((B.held.map V.int).set o.p.toNat (.int (gI B.held o.p-o.m)))=(ba B.held o.p (-o.m)).map V.int:=by
  rw[ba,map_set];rfl
 dsimp only;rw[m1];obtain⟨R1,f1⟩:=R.put (κ':={B with held:=ba B.held o.p (-o.m)}) (f0:=1) (by decide) (by decide) (u0:=.lst ((ba B.held o.p (-o.m)).map V.int)) rfl (λf u hf q=>by unfold dJ at q⊢;split at q<;>first|exact q|exact absurd rfl hf);have bK:=kr.put (a:=A' 1) (o:=.lst ((ba B.held o.p (-o.m)).map V.int));generalize upd H (A' 1) (.lst ((ba B.held o.p (-o.m)).map V.int))=H1 at R1 f1 bK;have l3:(ba B.held o.p (-o.m)).length=n:=(zZ ..).trans l2;have e3:(ba B.held o.p (-o.m))[o.g.toNat]?=some (gI (ba B.held o.p (-o.m)) o.g):=Gh g0 (by omega);refine⟨_,rfl,k,_,dk,_,_,rfl,R1.ob,T.jr,T.yz,(xw A').1,_,rfl,A' 1,_,o.g,.int (gI (ba B.held o.p (-o.m)) o.g),rfl,rfl,ag.of R1.he,g0,(by rw[getElem?_map,e3];rfl),_,rfl,_,_,rfl,rfl,A' 1,_,o.g,_,rfl,rfl,R1.he,uL g0 (by rw[length_map];show o.g.toNat<(ba B.held o.p (-o.m)).length;omega),?_⟩;have m2:((ba B.held o.p (-o.m)).map V.int).set o.g.toNat (.int (gI (ba B.held o.p (-o.m)) o.g+o.m))=(ba (ba B.held o.p (-o.m)) o.g o.m).map V.int:=by rw[ba.eq_def (ba B.held o.p (-o.m)),map_set]
 dsimp only;rw[m2];obtain⟨R2,f2⟩:=R1.put (κ':={B with held:=ba (ba B.held o.p (-o.m)) o.g o.m}) (f0:=1) (by decide) (by decide) (u0:=.lst ((ba (ba B.held o.p (-o.m)) o.g o.m).map V.int)) rfl (λf u hf q=>by unfold dJ at q⊢;split at q<;>first|exact q|exact absurd rfl hf);have bR:=bK.put (a:=A' 1) (o:=.lst ((ba (ba B.held o.p (-o.m)) o.g o.m).map V.int));generalize upd H1 (A' 1) (.lst ((ba (ba B.held o.p (-o.m)) o.g o.m).map V.int))=H2 at R2 f2 bR;refine⟨_,rfl,k,_,dk,_,_,rfl,R2.ob,T.jr,T.qx,(xw A').2.1,_,rfl,A' 2,_,o.p,.int (gI B.cO o.p),rfl,rfl,ag.of R2.nn,p0,(by rw[getElem?_map,e];rfl),_,_,rfl,rfl,A' 2,_,o.p,_,rfl,rfl,R2.nn,uL p0 (by rw[length_map];show o.p.toNat<B.cO.length;rw[l];omega),?_⟩;have m3:(B.cO.map V.int).set o.p.toNat (.int (gI B.cO o.p+1))=(ba B.cO o.p 1).map V.int:=by rw[ba,map_set]
 dsimp only;rw[m3];obtain⟨R3,f3⟩:=R2.put (κ':={B with held:=ba (ba B.held o.p (-o.m)) o.g o.m,cO:=ba B.cO o.p 1}) (f0:=2) (by decide) (by decide) (u0:=.lst ((ba B.cO o.p 1).map V.int)) rfl (λf u hf q=>by unfold dJ at q⊢;split at q<;>first|exact q|exact absurd rfl hf);have ie:=bR.put (a:=A' 2) (o:=.lst ((ba B.cO o.p 1).map V.int));generalize upd H2 (A' 2) (.lst ((ba B.cO o.p 1).map V.int))=H3 at R3 f3 ie;obtain⟨xs,hx,px⟩:=R3.dn;have fr:=(f1.trans f2).trans f3;have uq3:zv H3 Z (.ref q) o:=zv.fr fr ⟨q,rfl,nq,hq⟩;have lx:xs.length<=1000:=by rw[Paired.length px];exact ld
 refine⟨_,rfl,k,_,dk,_,_,rfl,R3.ob,T.jr,T.MW,(xw A').2.2.1,.inl ⟨rfl,_,ag.of hx⟩,_,rfl,A' 3,xs,.ref q,rfl,rfl,hx,xi lx,?_⟩;obtain⟨r3,_⟩:=R3.fl 3 (by decide) (by decide);obtain⟨R4,f4⟩:=R3.put (κ':=B.settle o) (f0:=3) (by decide) (by decide) (u0:=.lst (xs++[.ref q])) ⟨_,rfl,qo (Paired.ub px λ_ _=>zv.fr (Fr.put (P:=bp id h) r3 ⟨3,rfl⟩)) (uq3.fr (Fr.put (P:=bp id h) r3 ⟨3,rfl⟩))⟩ (λf u hf q=>by unfold dJ at q⊢;split at q<;>first|exact q|exact absurd rfl hf);exact g _ R4 (fr.trans f4) ie.put
theorem zv.ref {H:Hp}{Z:aq}{x:V}{o:O}(h:zv H Z x o):∃q,x= .ref q/\H q=some (.tup (bI o)):=let⟨q,e,_,h⟩:=h;⟨q,e,h⟩
theorem Nh (T:Txt K mg t):xm P w K mg base CX0 2 t.uh t.uu ["self"] (λvs H Q _=>∃Z id h k A dk B n,vs=[.ref k]/\xn t H Z id h k A dk B/\B.Ok n/\∀v,((B.first=none/\v= .aj)\/∃o,B.first=some o/\zv H Z v o)->Q v H):=by
 refine T.X3.cz Mc λ_ A _ s H vs Q E hr h=>?_;obtain⟨Z,id,h,k,A',dk,B,n,rfl,R,af,g⟩:=h;refine⟨_,(@jb _ _ _ _ _ (jA PassesOwn.never rfl (@fJ _ _ _ _ (j7 (pv 0) rfl)) (jv (i:=1) Mc.nd rfl (Or.inl rfl)) (@je _ _ _ (zd (qz (j5 (pv 0) T.jr T.MY (Ng T) hr.dn T.MC .nil jn (jc (pv 1) jf))) (@je _ _ _ (j3 (pv 1))) j6))) (@je _ _ _ (j3 jX))),?_⟩;obtain⟨xs,hx,px⟩:=R.wt;refine⟨_,rfl,k,_,dk,_,_,rfl,R.ob,T.jr,T.xf,(xw A').2.2.2.2.2.2,A' 7,rfl,⟨_,ag.of hx⟩,nF (K:=K) (a:=A' 7) (xs:=xs) (λi U H'=>∃v,U=[some (.ref k),v]/\H'=H/\(B.wait.take i).find? B.iT=none) ⟨none,rfl,rfl,rfl⟩ (λi U H' _ ⟨_,_,e,_⟩=>ag.of (by rw[e];exact hx)) ?_ ?_⟩
 .rintro i x U H' ex ⟨v,rfl,rfl,hf⟩
  obtain⟨o,eo,uo⟩:=qd px ex;obtain⟨q,rfl,hq⟩:=uo.ref;have om:o∈B.wait:=mem_of_getElem? eo;refine⟨_,rfl,k,dk,_,rfl,R.ob,fE A',_,rfl,Z,id,h,k,A',dk,B,n,q,o,rfl,R,hq,af.w o om,af.x,af.h,_,rfl,?_⟩;cases hd:B.iT o with
  |true=>
   refine bM ⟨_,rfl,g _ (.inr ⟨o,?_,uo⟩)⟩;have:(B.wait.take (i+1)).find? B.iT=some o:=by rw[take_snoc eo,List.find?_append,hf,find?_cons,hd];rfl
   unfold Kp.first;rw[<-List.take_append_drop (i+1) B.wait,List.find?_append,this];rfl
  |false=>refine vd ⟨_,rfl,rfl,?_⟩;rw[take_snoc eo,List.find?_append,hf,find?_cons,hd];rfl
 .rintro U H' ⟨v,rfl,rfl,hf⟩
  refine g _ (.inl ⟨?_,rfl⟩);rw[Paired.length px,take_length]at hf;exact hf
theorem Fr.Gk {P:Role->Prop}{Z:aq}{H:Hp}{a:Addr}{r r':Role}(h:Z a=some r)(p:P r):Fr P Z H (aD Z a r') H:=λb u e n=>by have:b≠a:=λz=>n r (z ▸ h) p;exact⟨e,xo this⟩
theorem ax.Gk {Z:aq}{H:Hp}{a:Addr}{r r':Role}(h:Z a=some r)(k:ax Z H):ax (aD Z a r') H:=λb r'' hb=>by
 by_cases z:b=a
 .subst z;exact k _ _ h
 .rw[xo z]at hb;exact k _ _ hb
theorem j37 {H:Hp}{Z:aq}{o:O}:∀{kvs:List (List Key×V)}{c:List ((Int×Int)×O)},Paired (λkv (c:(Int×Int)×O)=>kv.1=[.inl c.1.1,.inl c.1.2]/\zv H Z kv.2 c.2) kvs c->(aX kvs [.inl o.p,.inl o.n]).isSome=jM c o:=λ{kvs c} q=>by
 induction q with
 |nil=>rfl
 |@cons kv c kvs cs a r ih=>
  obtain⟨e,_⟩:=a;unfold jM at ih⊢;rw[any_cons];by_cases z:c.1=(o.p,o.n)
  .rw[iz (show kv.1=_ by rw[e,z]),decide_eq_true z];rfl
  .rw[uj (λy=>z ?_),ih,decide_eq_false z,Bool.false_or];rw[e]at y;have y1:=(List.cons.inj y).1;have y2:=(List.cons.inj (List.cons.inj y).2).1;exact Prod.ext (Sum.inl.inj y1) (Sum.inl.inj y2)
theorem Gm {n:Nat}{o:O}(h:y4 n o=true)(l:n<=8):y4 8 o=true:=by rw[mG]at h⊢;lia
theorem j58 (B:Kp){os:List O}{i:Nat}{o:O}(e:os[i]?=some o)(a:Gv):gv B (os.take (i+1)) a=cK B o (gv B (os.take i) a):=by unfold gv;rw[take_snoc e,List.foldl_append];rfl
theorem j55 (B:Kp)(o:O)(a:Gv):(cK B o a).1.length<=a.1.length+1/\(cK B o a).2.1.length<=a.2.1.length+1/\(cK B o a).2.2.length<=a.2.2.length+1:=by
 unfold cK;split
 .simp
 .split
  .simp
  .simp
theorem Gp (B:Kp):∀(os:List O)(a:Gv),(gv B os a).1.length<=a.1.length+os.length/\(gv B os a).2.1.length<=a.2.1.length+os.length/\(gv B os a).2.2.length<=a.2.2.length+os.length
 |[],a=>by simp[gv]
 |o::os,a=>by have h1:=Gp B os (cK B o a);have h2:=j55 B o a;unfold gv at h1⊢;rw[foldl_cons,length_cons];lia
structure gM (t:Ad)(Z:aq)(id:Nat)(h:Int)(k:Addr)(A:Nat->Addr)(dk:Addr)(B:Kp)(Vt Lt:Addr)(xs:List V)(H0:Hp)(a:Gv)(H:Hp):Prop where
 fr:Fr (bp id h) Z H0 Z H
 kr:ax Z H
 R:xn t H Z id h k A dk {B with cho:=a.1}
 hv:∃vs,H Vt=some (.lst vs)/\Paired (zv H Z) vs a.2.1
 hl:∃ls,H Lt=some (.lst ls)/\Paired (zv H Z) ls a.2.2
 hx:H (A 5)=some (.lst xs)
 px:Paired (zv H Z) xs B.aH
theorem gM.same {t:Ad}{Z:aq}{id:Nat}{h:Int}{k:Addr}{A:Nat->Addr}{dk:Addr}{B:Kp}{Vt Lt:Addr}{xs:List V}{H0 H H':Hp}{a:Gv}(s:xp H H')(J:gM t Z id h k A dk B Vt Lt xs H0 a H):gM t Z id h k A dk B Vt Lt xs H0 a H':=by have f:Fr (λ_=>False) Z H Z H':=Fr.same s;obtain⟨vs,v1,v2⟩:=J.hv;obtain⟨ls,l1,l2⟩:=J.hl;exact⟨J.fr.trans (Fr.same s),J.kr.same s,J.R.fr (λ_ z=>z) f,⟨vs,s _ _ v1,Paired.ub v2 λ_ _=>zv.fr f⟩,⟨ls,s _ _ l1,Paired.ub l2 λ_ _=>zv.fr f⟩,s _ _ J.hx,Paired.ub J.px λ_ _=>zv.fr f⟩
theorem gM.putL {t:Ad}{Z:aq}{id:Nat}{h:Int}{k:Addr}{A:Nat->Addr}{dk:Addr}{B:Kp}{Vt Lt:Addr}{xs ls qB:List V}{H0 H:Hp}{a:Gv}{later:List O}(J:gM t Z id h k A dk B Vt Lt xs H0 a H)(hl:H Lt=some (.lst ls))(rL:Z Lt=some (id,.kp h 9))(rV:Z Vt=some (id,.kp h 8))(LV:Lt≠Vt)(fL:Fr (bp id h) Z H Z (upd H Lt (.lst qB)))(pl:Paired (zv (upd H Lt (.lst qB)) Z) qB later):gM t Z id h k A dk B Vt Lt xs H0 (a.1,a.2.1,later) (upd H Lt (.lst qB)):=by
 have f9:Fr (λr=>r=(id,.kp h 9)) Z H Z (upd H Lt (.lst qB)):=Fr.put rL rfl;obtain⟨vs,v1,v2⟩:=J.hv;have nf:∀{f:Nat},f<=7->∀{b:Addr},Z b=some (id,.kp h f)->b≠Lt:=λ{f} hf {b} hb=>eS hb rL (by intro z;cases z;lia);refine⟨J.fr.trans fL,J.kr.put,⟨?_,J.R.r0,λf a1 b1=>?_⟩,⟨vs,?_,Paired.ub v2 λ_ _=>zv.fr fL⟩,⟨qB,ja,pl⟩,?_,Paired.ub J.px λ_ _=>zv.fr fL⟩
 .rw[jd (nf (by decide) J.R.r0)];exact J.R.ob
 .obtain⟨rf,u,hu,q⟩:=J.R.fl f a1 b1;exact⟨rf,u,by rw[jd (nf b1 rf)];exact hu,q.fr fL⟩
 .rw[jd LV.symm];exact v1
 .rw[jd (nf (by decide) (J.R.fl 5 (by decide) (by decide)).1)];exact J.hx
theorem gM.qb5 {t:Ad}{Z:aq}{id:Nat}{h:Int}{k:Addr}{A:Nat->Addr}{dk:Addr}{B:Kp}{Vt Lt:Addr}{xs bh:List V}{H0 H:Hp}{a:Gv}{zg:List O}(J:gM t Z id h k A dk B Vt Lt xs H0 a H)(rV:Z Vt=some (id,.kp h 8))(LV:Lt≠Vt)(fL:Fr (bp id h) Z H Z (upd H Vt (.lst bh)))(pv:Paired (zv (upd H Vt (.lst bh)) Z) bh zg):gM t Z id h k A dk B Vt Lt xs H0 (a.1,zg,a.2.2) (upd H Vt (.lst bh)):=by
 obtain⟨ls,l1,l2⟩:=J.hl;have nf:∀{f:Nat},f<=7->∀{b:Addr},Z b=some (id,.kp h f)->b≠Vt:=λ{f} hf {b} hb=>eS hb rV (by intro z;cases z;lia);refine⟨J.fr.trans fL,J.kr.put,⟨?_,J.R.r0,λf a1 b1=>?_⟩,⟨bh,ja,pv⟩,⟨ls,?_,Paired.ub l2 λ_ _=>zv.fr fL⟩,?_,Paired.ub J.px λ_ _=>zv.fr fL⟩
 .rw[jd (nf (by decide) J.R.r0)];exact J.R.ob
 .obtain⟨rf,u,hu,q⟩:=J.R.fl f a1 b1;exact⟨rf,u,by rw[jd (nf b1 rf)];exact hu,q.fr fL⟩
 .rw[jd LV];exact l1
 .rw[jd (nf (by decide) (J.R.fl 5 (by decide) (by decide)).1)];exact J.hx
theorem gM.qbu {t:Ad}{Z:aq}{id:Nat}{h:Int}{k:Addr}{A:Nat->Addr}{dk:Addr}{B:Kp}{Vt Lt:Addr}{xs:List V}{H0 H:Hp}{a:Gv}{cho:List ((Int×Int)×O)}{kvs:List (List Key×V)}(J:gM t Z id h k A dk B Vt Lt xs H0 a H)(rL:Z Lt=some (id,.kp h 9))(rV:Z Vt=some (id,.kp h 8))(pc:Paired (λkv (c:(Int×Int)×O)=>kv.1=[.inl c.1.1,.inl c.1.2]/\zv (upd H (A 6) (.dT kvs)) Z kv.2 c.2) kvs cho):gM t Z id h k A dk B Vt Lt xs H0 (cho,a.2.1,a.2.2) (upd H (A 6) (.dT kvs)):=by
 obtain⟨R,fL⟩:=J.R.put (κ':={B with cho:=cho}) (f0:=6) (by decide) (by decide) (u0:=.dT kvs) ⟨kvs,rfl,pc⟩ (λf u hf q=>by unfold dJ at q⊢;split at q<;>first|exact q|exact absurd rfl hf);obtain⟨vs,v1,v2⟩:=J.hv;obtain⟨ls,l1,l2⟩:=J.hl;have r6:=(J.R.fl 6 (by decide) (by decide)).1;refine⟨J.fr.trans fL,J.kr.put,R,⟨vs,?_,Paired.ub v2 λ_ _=>zv.fr fL⟩,⟨ls,?_,Paired.ub l2 λ_ _=>zv.fr fL⟩,?_,Paired.ub J.px λ_ _=>zv.fr fL⟩
 .rw[jd (eS rV r6 (by intro z;cases z))];exact v1
 .rw[jd (eS rL r6 (by intro z;cases z))];exact l1
 .rw[jd (eS (J.R.fl 5 (by decide) (by decide)).1 r6 (by intro z;cases z))];exact J.hx
theorem j6r (A:Nat->Addr)(p:Addr):ua "unvoted" (.ref p) (eG A)=eG (λf=>if f=5 then p else A f):=by unfold eG kf iV;rfl
theorem Ni (T:Txt K mg t):xm P w K mg base CX0 5 t.kn t.ph ["self"] (λvs H Q _=>∃Z id h k A dk B n,vs=[.ref k]/\xn t H Z id h k A dk B/\B.Ok n/\n<=8/\B.aH.length+B.cho.length<=1000/\ax Z H/\∀Z' H' A' r xs,xn t H' Z' id h k A' dk B.zg.1->Fr (bp id h) Z H Z' H'->ax Z' H'->Z' r=some (id,.kp h 8)->H' r=some (.lst xs)->Paired (zv H' Z') xs B.zg.2->Q (.ref r) H'):=by
 refine T.X2.cz xy λ_ A _ s H vs Q E hr h=>?_;obtain⟨Z,id,h,k,A',dk,B,n,rfl,R,af,n8,ll,kr,g⟩:=h;refine⟨_,(@jb _ _ _ _ _ (@qa _ _ 1 _ _ _ _ xy.nd rfl (Or.inl rfl) (@zj _ _ _ _ jf) (by rfl) (by first|exact .inl rfl|exact .inr rfl)) (@jb _ _ _ _ _ (@qa _ _ 2 _ _ _ _ xy.nd rfl (Or.inl rfl) (@zj _ _ _ _ jf) (by rfl) (by first|exact .inl rfl|exact .inr rfl)) (@jb _ _ _ _ _ (jA PassesOwn.never rfl (@fJ _ _ _ _ (j7 (pv 0) rfl)) (jv (i:=3) xy.nd rfl (Or.inl rfl)) (@je _ _ _ (zd (PW.pt (jZ (qz (j5 (pv 0) T.jr T.MY (Ng T) hr.dn T.MC .nil jn (jc (pv 3) jf))) (lS (wD (Cm (fR hr) (jo (uM T) hr.dn rfl T.uI T.pY.kp T.uJ .nil jn (jc (pv 3) jf)) (j7 (pv 0) rfl)))))) (@jb _ _ _ _ _ (Ka (fR hr) (j7 (pv 0) rfl) (jo (uM T) hr.dn rfl T.uI T.pY.kp T.uJ .nil jn (jc (pv 3) jf)) (pv 3) rfl) (@je _ _ _ (j8 (dZ PySem.F.plainAttrs_list PySem.F.slot_list_append PySem.F.type_list_append yh (pv 1) (jc (pv 3) jf))))) (@je _ _ _ (zd (PW.pt (jZ (zy (qz (j5 (pv 0) T.jr T.vz (Gj T) hr.dn T.FX .nil jn (jc (pv 3) jf)))) (lS (wD (Cm (fR hr) (jo (uM T) hr.dn rfl T.uI T.pY.kp T.uJ .nil jn (jc (pv 3) jf)) (j7 (pv 0) rfl)))))) (@je _ _ _ (j8 (dZ PySem.F.plainAttrs_list PySem.F.slot_list_append PySem.F.type_list_append yh (pv 2) (jc (pv 3) jf)))) j6))))) (@jb _ _ _ _ _ (dG (pv 0) (pv 2) rfl) (@je _ _ _ (j3 (pv 1))))))),?_⟩;refine⟨cI,λVt nV=>⟨cI,λLt nL=>?_⟩⟩;have kf0:∀f,bp id h (id,.kp h f):=λf=>⟨f,rfl⟩;have f1:Fr (bp id h) Z H (aD Z Vt (id,.kp h 8)) (upd H Vt (.lst [])):=Fr.cx nV;have bK:ax (aD Z Vt (id,.kp h 8)) (upd H Vt (.lst [])):=kr.cx;have f2:Fr (bp id h) (aD Z Vt (id,.kp h 8)) (upd H Vt (.lst [])) (aD (aD Z Vt (id,.kp h 8)) Lt (id,.kp h 9)) (upd (upd H Vt (.lst [])) Lt (.lst [])):=Fr.cx nL;have bR:ax (aD (aD Z Vt (id,.kp h 8)) Lt (id,.kp h 9)) (upd (upd H Vt (.lst [])) Lt (.lst [])):=bK.cx;generalize eZ:aD (aD Z Vt (id,.kp h 8)) Lt (id,.kp h 9)=Z2 at f2 bR;have dB:=f1.trans f2;have LV:Lt≠Vt:=λz=>by
  rw[z,ja]at nL;cases nL
 have rV:Z2 Vt=some (id,.kp h 8):=by rw[<-eZ,xo LV.symm,zu]
 have rL:Z2 Lt=some (id,.kp h 9):=by rw[<-eZ,zu]
 have Nj:upd (upd H Vt (.lst [])) Lt (.lst []) Vt=some (.lst []):=by rw[jd LV.symm,ja]
 have Nk:upd (upd H Vt (.lst [])) Lt (.lst []) Lt=some (.lst []):=ja;have R2:xn t (upd (upd H Vt (.lst [])) Lt (.lst [])) Z2 id h k A' dk B:=by
  have s2:=(jg (o:=.lst []) nV).trans (jg (o:=.lst []) nL);have Nl:∀{a:Addr}{u:HO},H a=some u->Z2 a=Z a:=λ{a u} e=>by rw[<-eZ,xo (ji ((jg (o:=.lst []) nV) _ _ e) nL),xo (ji e nV)]
  refine⟨s2 _ _ R.ob,(Nl R.ob).trans R.r0,λf a b=>?_⟩;obtain⟨rf,u,hu,q⟩:=R.fl f a b;exact⟨(Nl hu).trans rf,u,s2 _ _ hu,q.fr dB⟩
 generalize upd (upd H Vt (.lst [])) Lt (.lst [])=H2 at dB bR R2 Nj Nk;obtain⟨xs,hx,px⟩:=R2.un;have lx:xs.length=B.aH.length:=Paired.length px;clear f1 f2 bK nV nL R;refine⟨_,rfl,k,_,dk,_,_,rfl,R2.ob,T.jr,T.yb,(xw A').2.2.2.2.1,A' 5,rfl,⟨_,ag.of hx⟩,nF (K:=K) (a:=A' 5) (xs:=xs) (λi U H'=>∃v,U=[some (.ref k),some (.ref Vt),some (.ref Lt),v]/\gM t Z2 id h k A' dk B Vt Lt xs H2 (gv B (B.aH.take i) (B.cho,[],[])) H') ⟨none,rfl,Fr.refl,bR,R2,⟨_,Nj,.nil⟩,⟨_,Nk,.nil⟩,hx,px⟩ (λi U H' _ ⟨_,_,J⟩=>ag.of J.hx) ?_ ?_⟩
 .rintro i x U H3 ex ⟨v,rfl,J⟩
  obtain⟨o,eo,uo⟩:=qd J.px ex;have gl:=Gp B (B.aH.take i) (B.cho,[],[]);have li:(B.aH.take i).length<=B.aH.length:=by rw[length_take];omega
  rw[j58 B eo];generalize gv B (B.aH.take i) (B.cho,[],[])=a at J gl⊢;obtain⟨q,rfl,hq⟩:=uo.ref;have om:o∈B.aH:=mem_of_getElem? eo;have ho:=af.u o om;have oG:=Gm ho n8;obtain⟨kvs,hk,pk⟩:=J.R.cs;have ck:=j37 (o:=o) pk;refine⟨_,rfl,k,dk,_,rfl,J.R.ob,fE A',_,rfl,Z2,id,h,k,A',dk,_,n,q,o,rfl,J.R,hq,ho,af.x,af.h,_,rfl,?_⟩;show(if B.iT o=true then _ else _);have Js:xp H3 H3:=xp.refl _;cases hd:B.iT o with
  | false=>
   refine vd ?_;have no:¬(B.iT o&&!jM a.1 o)=true:=by simp[hd]
   refine⟨_,rfl,k,dk,_,rfl,J.R.ob,fE A',_,rfl,Z2,id,h,k,A',dk,_,n,q,o,rfl,J.R,hq,ho,af.x,_,rfl,?_⟩;show(if(!B.past o)=true then _ else _);cases hp:B.past o with
   |true=>refine vd ⟨_,rfl,?_⟩;rw[cK,if_neg no,if_neg (by simp[hp])];exact J
   | false=>
    refine bM ⟨_,rfl,q,o,rfl,hq,oG,λp np=>?_⟩;have sp:=jg (o:=.tup [.int o.p,.int o.n]) np;have Jp:=J.same sp;refine⟨_,rfl,k,_,dk,_,_,rfl,Jp.R.ob,T.jr,T.zc,(xw A').2.2.2.2.2.1,A' 6,aX kvs [.inl o.p,.inl o.n],rfl,.inr ⟨kvs,[.inl o.p,.inl o.n],p,.inl (sp _ _ hk),rfl,ja,rfl⟩,_,rfl,?_⟩;rw[ck];cases hc:jM a.1 o with
    |true=>refine vd ⟨_,rfl,?_⟩;rw[cK,if_neg no,if_neg (by rw[hc,Bool.not_true,Bool.and_false];decide)];exact Jp
    |false=>
     obtain⟨ls,hl,pl⟩:=Jp.hl;have Gq:ls.length<=1000:=by rw[Paired.length pl];have:=gl.2.2;simp at this;omega
     refine bM ⟨_,rfl,.inl ⟨rfl,_,ag.of hl⟩,_,rfl,Lt,ls,.ref q,rfl,rfl,hl,xi Gq,⟨_,rfl,?_⟩⟩;rw[cK,if_neg no,if_pos (by rw[hp,hc];rfl)];have fL:Fr (bp id h) Z2 (upd H3 p (.tup [.int o.p,.int o.n])) Z2 (upd (upd H3 p (.tup [.int o.p,.int o.n])) Lt (.lst (ls++[.ref q]))):=Fr.put rL ⟨9,rfl⟩;have uq:=(uo.fr (Fr.same (P:=λ_=>False) ((Js).trans sp))).fr fL;exact Jp.putL hl rL rV LV fL (qo (Paired.ub pl λ_ _=>zv.fr fL) uq)
  | true=>
   refine bM ⟨_,rfl,q,o,rfl,hq,oG,λp0 lC=>?_⟩;have qC:=jg (o:=.tup [.int o.p,.int o.n]) lC;have J0:=J.same qC;have uS:=qC;have uT:=qC _ _ hk;have oH:=qC _ _ hq;refine⟨_,rfl,k,_,dk,_,_,rfl,J0.R.ob,T.jr,T.zc,(xw A').2.2.2.2.2.1,A' 6,aX kvs [.inl o.p,.inl o.n],rfl,.inr ⟨kvs,[.inl o.p,.inl o.n],p0,.inl uT,rfl,ja,rfl⟩,_,rfl,?_⟩;rw[ck];cases Gr:jM a.1 o with
   | true=>
    refine vd ?_;have no:¬(B.iT o&&!jM a.1 o)=true:=by rw[Gr,Bool.not_true,Bool.and_false];decide
    generalize upd H3 p0 (.tup [.int o.p,.int o.n])=H4 at qC J0 uS uT oH;refine⟨_,rfl,k,dk,_,rfl,J0.R.ob,fE A',_,rfl,Z2,id,h,k,A',dk,_,n,q,o,rfl,J0.R,oH,ho,af.x,_,rfl,?_⟩;show(if(!B.past o)=true then _ else _);cases hp:B.past o with
    |true=>refine vd ⟨_,rfl,?_⟩;rw[cK,if_neg no,if_neg (by simp[hp])];exact J0
    | false=>
     refine bM ⟨_,rfl,q,o,rfl,oH,oG,λp np=>?_⟩;have sp:=jg (o:=.tup [.int o.p,.int o.n]) np;have Jp:=J0.same sp;refine⟨_,rfl,k,_,dk,_,_,rfl,Jp.R.ob,T.jr,T.zc,(xw A').2.2.2.2.2.1,A' 6,aX kvs [.inl o.p,.inl o.n],rfl,.inr ⟨kvs,[.inl o.p,.inl o.n],p,.inl (sp _ _ uT),rfl,ja,rfl⟩,_,rfl,?_⟩;rw[ck];cases hc:jM a.1 o with
     |true=>refine vd ⟨_,rfl,?_⟩;rw[cK,if_neg no,if_neg (by rw[hc,Bool.not_true,Bool.and_false];decide)];exact Jp
     |false=>
      obtain⟨ls,hl,pl⟩:=Jp.hl;have Gq:ls.length<=1000:=by rw[Paired.length pl];have:=gl.2.2;simp at this;omega
      refine bM ⟨_,rfl,.inl ⟨rfl,_,ag.of hl⟩,_,rfl,Lt,ls,.ref q,rfl,rfl,hl,xi Gq,⟨_,rfl,?_⟩⟩;rw[cK,if_neg no,if_pos (by rw[hp,hc];rfl)];have fL:Fr (bp id h) Z2 (upd H4 p (.tup [.int o.p,.int o.n])) Z2 (upd (upd H4 p (.tup [.int o.p,.int o.n])) Lt (.lst (ls++[.ref q]))):=Fr.put rL ⟨9,rfl⟩;have uq:=(uo.fr (Fr.same (P:=λ_=>False) ((uS).trans sp))).fr fL;exact Jp.putL hl rL rV LV fL (qo (Paired.ub pl λ_ _=>zv.fr fL) uq)
   | false=>
    refine bM ?_;generalize upd H3 p0 (.tup [.int o.p,.int o.n])=H4 at qC J0 uS uT oH;refine⟨_,rfl,_,rfl,k,_,dk,_,_,rfl,J0.R.ob,T.jr,T.zc,(xw A').2.2.2.2.2.1,_,rfl,q,o,rfl,oH,oG,λp np=>?_⟩;have sp:=jg (o:=.tup [.int o.p,.int o.n]) np;have Jp:=J0.same sp;have lk:kvs.length<=1000:=by rw[Paired.length pk];have:=gl.1;show a.1.length<=1000;simp at this;omega
    have nk:aX kvs [.inl o.p,.inl o.n]=none:=by
     cases e:aX kvs [.inl o.p,.inl o.n]with
     |none=>rfl
     |some v=>rw[e,Gr]at ck;cases ck
    refine⟨A' 6,_,rfl,gY.t (k:=[.inl o.p,.inl o.n]) (sp _ _ uT) ja (xi lk),?_⟩;rw[rX _ nk];have r6:=(Jp.R.fl 6 (by decide) (by decide)).1;have f6:Fr (bp id h) Z2 (upd H4 p (.tup [.int o.p,.int o.n])) Z2 (upd (upd H4 p (.tup [.int o.p,.int o.n])) (A' 6) (.dT (kvs++[([.inl o.p,.inl o.n],.ref q)]))):=Fr.put r6 ⟨6,rfl⟩;have u4:=uo.fr (Fr.same (P:=λ_=>False) (uS.trans sp));have pk4:=Paired.ub pk λ_ _ ⟨e,b⟩=>(⟨e,(b.fr (Fr.same (P:=λ_=>False) (uS.trans sp))).fr f6⟩:_/\zv _ Z2 _ _);have J5:=Jp.qbu rL rV (cho:=a.1++[((o.p,o.n),o)]) (qo pk4 ⟨rfl,u4.fr f6⟩);have u5:=u4.fr f6;generalize upd (upd H4 p (.tup [.int o.p,.int o.n])) (A' 6) (.dT (kvs++[([.inl o.p,.inl o.n],.ref q)]))=H5 at J5 u5;obtain⟨vs,hv,pv⟩:=J5.hv;have lv:vs.length<=1000:=by rw[Paired.length pv];have:=gl.2.1;show a.2.1.length<=1000;simp at this;omega
    refine⟨_,rfl,.inl ⟨rfl,_,ag.of hv⟩,_,rfl,Vt,vs,.ref q,rfl,rfl,hv,xi lv,⟨_,rfl,?_⟩⟩;rw[cK,if_pos (by simp[hd,Gr])];have fV:Fr (bp id h) Z2 H5 Z2 (upd H5 Vt (.lst (vs++[.ref q]))):=Fr.put rV ⟨8,rfl⟩;exact J5.qb5 rV LV fV (qo (Paired.ub pv λ_ _=>zv.fr fV) (u5.fr fV))
 .rintro U H3 ⟨v,rfl,J⟩
  rw[lx,take_length]at J;obtain⟨vs,hv,pv⟩:=J.hv;obtain⟨ls,hl,pl⟩:=J.hl;refine⟨_,rfl,_,rfl,k,_,dk,_,rfl,J.R.ob,T.jr,T.yb,(by show 7<1000;decide),⟨_,rfl,?_⟩⟩;rw[j6r];have fo:Fr (bp id h) Z2 H3 Z2 (upd H3 k (.ins t.j4 dk (eG λf=>if f=5 then Lt else A' f))):=Fr.put J.R.r0 ⟨0,rfl⟩;have fo':Fr (bp id h) Z2 (upd H3 k (.ins t.j4 dk (eG λf=>if f=5 then Lt else A' f))) (aD Z2 Lt (id,.kp h 5)) (upd H3 k (.ins t.j4 dk (eG λf=>if f=5 then Lt else A' f))):=Fr.Gk rL ⟨9,rfl⟩;have ff:=fo.trans fo';have kL:Lt≠k:=eS rL J.R.r0 (by intro z;cases z);have Vk:Vt≠k:=eS rV J.R.r0 (by intro z;cases z);refine g (aD Z2 Lt (id,.kp h 5)) _ (λf=>if f=5 then Lt else A' f) Vt vs ⟨ja,?_,λf a1 b1=>?_⟩ (dB.trans (J.fr.trans ff)) ?_ ?_ ?_ (Paired.ub pv λ_ _=>zv.fr ff)
  .rw[xo kL.symm];exact J.R.r0
  .by_cases z:f=5
   .subst z;exact⟨zu,.lst ls,(by show upd H3 k _ Lt=_;rw[jd kL];exact hl),ls,rfl,Paired.ub pl λ_ _=>zv.fr ff⟩
   .obtain⟨rf,u,hu,q⟩:=J.R.fl f a1 b1;have nL:A' f≠Lt:=eS rf rL (by intro y;cases y;omega);show aD Z2 Lt (id,.kp h 5) (if f=5 then Lt else A' f)=_/\∃u,upd H3 k _ (if f=5 then Lt else A' f)=_/\_;rw[if_neg z];refine⟨by rw[xo nL];exact rf,u,by rw[jd (eS rf J.R.r0 (by intro y;cases y;omega))];exact hu,?_⟩;have q':=q.fr ff;unfold dJ at q'⊢;split at q'<;>first|exact q'|exact absurd rfl z
  .exact ax.Gk rL J.kr.put
  .rw[xo LV.symm];exact rV
  .rw[jd Vk];exact hv
theorem Gs {α β:Type}{F:α->β->Prop}:∀{xs:List α}{ys:List β}{j:Nat},Paired F xs ys->Paired F (xs.eraseIdx j) (ys.eraseIdx j)
 |_,_,_,.nil=>.nil
 |_,_,0,.cons _ t=>t
 |_,_,j+1,.cons h t=>.cons h (Gs t)
theorem Nm {α:Type}[DecidableEq α](a:α):∀l:List α,l.erase a=l.eraseIdx (l.idxOf a)
 |[]=>rfl
 | b::l=>by
  by_cases z:b=a
  .subst z;simp
  .have e:(b::l).idxOf a=l.idxOf a+1:=by
    rw[List.idxOf_cons,show(b==a)=false by simpa using z];rfl
   rw[List.erase_cons_tail (by simpa using z),e,List.eraseIdx_cons_succ,Nm a l]
noncomputable def za (o:O):List Int:=[o.p,o.n,o.g,o.m]
theorem qD {o u:O}(h:za o=za u):o=u:=by cases o;cases u;unfold za at h;simp at h;simp[h]
theorem Nn (o:O):∀l:List O,(l.map za).idxOf (za o)=l.idxOf o
 |[]=>rfl
 |b::l=>by
  rw[map_cons];by_cases z:b=o
  .subst z;simp
  .rw[List.idxOf_cons,List.idxOf_cons,show(b==o)=false by simpa using z,show(za b==za o)=false by simpa using λy=>z (qD y),Nn o l]
theorem Np {K:W.Frag}{H:Hp}{Z:aq}:∀{xs:List V}{os:List O},Paired (zv H Z) xs os->Paired (jK K H) xs (os.map za):=λ{xs os} q=>by
 induction q with
 |nil=>exact .nil
 |cons a _ ih=>obtain⟨a,e,_,h⟩:=a;exact .cons ⟨a,e,aw.of h⟩ ih
theorem Ab {B:Kp}{o:O}(h:B.first=some o):o∈B.wait:=mem_of_find?_eq_some h
theorem j33 {B:Kp}(h:B.first=none):∀m,Kp.go m B=B
 |0=>rfl
 |m+1=>by unfold Kp.go;rw[h]
theorem j52 {B:Kp}{o:O}(h:B.first=some o):Kp.go B.wait.length B=Kp.go (B.step o).wait.length (B.step o):=by have e:(B.step o).wait.length=B.wait.length-1:=length_erase_of_mem (Ab h);have p:0<B.wait.length:=length_pos_of_mem (Ab h);obtain⟨m,hm⟩:∃m,B.wait.length=m+1:=⟨B.wait.length-1,by lia⟩;rw[e,hm];show(match B.first with|none=>B|some o=>Kp.go m (B.step o))=_;rw[h];rfl
theorem jpy (T:Txt K mg t):xm P w K mg base CX0 6 t.EE t.EF ["self"] (λvs H Q _=>∃Z id h k A dk B n,vs=[.ref k]/\xn t H Z id h k A dk B/\B.Ok n/\n<=8/\B.aH.length+B.cho.length<=1000/\B.done.length+B.wait.length<=1000/\ax Z H/\∀Z' H' A' r xs,xn t H' Z' id h k A' dk B.iU.zg.1->Fr (bp id h) Z H Z' H'->ax Z' H'->Z' r=some (id,.kp h 8)->H' r=some (.lst xs)->Paired (zv H' Z') xs B.iU.zg.2->Q (.ref r) H'):=by
 refine T.X4.cz DH λ_ A _ s H vs Q E hr h=>?_;obtain⟨Z,id,h,k,A',dk,B,n,rfl,R,af,n8,ll,ld,kr,g⟩:=h;refine⟨_,(@jb _ _ _ _ _ (qa (i:=1) DH.nd rfl (Or.inl rfl) (yq (pv 0) T.jr T.pq (Nh T) hr.dn T.MD .nil jn)) (@jb _ _ _ _ _ (Qg PassesOwn.never (jw QA (pv 1) jX (qc _)) (@jb _ _ _ _ _ (j8 (dZ PySem.F.plainAttrs_list PySem.F.slot_list_remove PySem.F.type_list_remove (Wb hr.units) (j7 (pv 0) rfl) (jc (pv 1) jf))) (@jb _ _ _ _ _ (j8 (j5 (pv 0) T.jr T.Zh (jrg T) hr.dn T.XU .nil jn (jc (pv 1) jf))) (@je _ _ _ (qa (i:=1) DH.nd rfl (Or.inl rfl) (yq (pv 0) T.jr T.pq (Nh T) hr.dn T.MD .nil jn)))))) (@je _ _ _ (j3 (yq (pv 0) T.jr T.gb (Ni T) hr.dn T.kg .nil jn))))),?_⟩;refine⟨_,rfl,k,dk,_,rfl,R.ob,fE A',Z,id,h,k,A',dk,B,n,rfl,R,af,λv0 h0=>?_⟩;refine Qp (λU H'=>∃κ' v,U=[some (.ref k),some v]/\xn t H' Z id h k A' dk κ'/\κ'.Ok n/\Fr (bp id h) Z H Z H'/\ax Z H'/\Kp.go κ'.wait.length κ'=B.iU/\κ'.aH=B.aH/\κ'.cho=B.cho/\κ'.done.length+κ'.wait.length<=1000/\((κ'.first=none/\v= .aj)\/∃o,κ'.first=some o/\zv H' Z v o)) (λ_ H'=>match H' (A' 7)with|some (.lst xs)=>xs.length|_=>0) ⟨B,v0,rfl,R,af,Fr.refl,kr,rfl,rfl,rfl,ld,h0⟩ ?_ ?_
 .rintro U H1 ⟨κ',v,rfl,R1,iW,f1,bK,eg,eu,ec,ld1,hv⟩
  refine⟨_,rfl,rfl,_,rfl,?_⟩;rcases hv with⟨e,rfl⟩|⟨o,e,uo⟩
  .refine vd ?_;rw[j33 e]at eg;subst eg;refine⟨_,rfl,k,dk,_,rfl,R1.ob,fE A',Z,id,h,k,A',dk,_,n,rfl,R1,iW,n8,by rw[eu,ec];exact ll,bK,λZ' H' uU r xs q1 q2 q3 q4 q5 q6=>g Z' H' uU r xs q1 (f1.trans q2) q3 q4 q5 q6⟩
  .obtain⟨q,rfl,nq,hq⟩:=uo;refine bM ?_;obtain⟨xs,hx,px⟩:=R1.wt;have om:=Ab e;refine⟨_,rfl,k,_,dk,_,_,rfl,R1.ob,T.jr,T.xf,(xw A').2.2.2.2.2.2,.inl ⟨rfl,_,ag.of hx⟩,_,rfl,A' 7,xs,.ref q,za o,κ'.wait.map za,rfl,rfl,hx,⟨q,rfl,aw.of hq⟩,Np px,mem_map_of_mem om,?_⟩;rw[Nn];obtain⟨r7,_⟩:=R1.fl 7 (by decide) (by decide);obtain⟨R2,f2⟩:=R1.put (κ':={κ' with wait:=κ'.wait.erase o}) (f0:=7) (by decide) (by decide) (u0:=.lst (xs.eraseIdx (κ'.wait.idxOf o))) ⟨_,rfl,by show Paired _ _ (κ'.wait.erase o);rw[Nm];exact Gs (Paired.ub px λ_ _=>zv.fr (Fr.put (P:=bp id h) r7 ⟨7,rfl⟩))⟩ (λf u hf q=>by unfold dJ at q⊢;split at q<;>first|exact q|exact absurd rfl hf);have bR:=bK.put (a:=A' 7) (o:=.lst (xs.eraseIdx (κ'.wait.idxOf o)));have qE:zv (upd H1 (A' 7) (.lst (xs.eraseIdx (κ'.wait.idxOf o)))) Z (.ref q) o:=zv.fr f2 ⟨q,rfl,nq,hq⟩;have ho:=iW.w o om;generalize upd H1 (A' 7) (.lst (xs.eraseIdx (κ'.wait.idxOf o)))=H2 at R2 f2 bR qE;refine⟨_,rfl,k,dk,_,rfl,R2.ob,fE A',_,rfl,Z,id,h,k,A',dk,_,n,q,o,rfl,R2,qE,ho,iW.x,iW.h,by show κ'.done.length<=1000;omega,bR,λH3 R3 f3 ie=>?_⟩;have Nq:(κ'.step o).Ok n:=iW.step o;refine⟨_,rfl,k,dk,_,rfl,R3.ob,fE A',Z,id,h,k,A',dk,κ'.step o,n,rfl,R3,Nq,λv1 hv1=>⟨⟨κ'.step o,v1,rfl,R3,Nq,(f1.trans f2).trans f3,ie,by rw[<-j52 e];exact eg,eu,ec,?_,hv1⟩,?_⟩⟩
   .have l1:(κ'.step o).done.length=κ'.done.length+1:=by show(κ'.done++[o]).length=_;rw[length_append];rfl
    have l2:(κ'.step o).wait.length=κ'.wait.length-1:=length_erase_of_mem om;have:=length_pos_of_mem om;omega
   .obtain⟨ys,hy,py⟩:=R3.wt;have l2:(κ'.step o).wait.length=κ'.wait.length-1:=length_erase_of_mem om;have:=length_pos_of_mem om;have e1:=Paired.length px;have e2:ys.length=(κ'.step o).wait.length:=Paired.length py;rw[hy,hx];show ys.length<xs.length;omega
 .intro U H Q Q' hQ h;obtain⟨v,e1,e2,c,e3,q⟩:=h;exact⟨v,e1,e2,c,e3,hQ _ _ q⟩
theorem jzt {o:O}:∀{kvs:List (List Key×V)}{os:List O},kvs.map (·.1)=os.map bJ->(aX kvs (bJ o)).isSome=decide (o∈os):=λ{kvs os} e=>by
 induction kvs generalizing os with
 |nil=>
  cases os with
  |nil=>rfl
  |cons _ _=>simp at e
 | cons kv kvs ih=>
  cases os with
  |nil=>simp at e
  |cons u os=>
   rw[map_cons,map_cons]at e;obtain⟨e1,e2⟩:=List.cons.inj e;have ih:=ih e2;by_cases z:u=o
   .subst z;rw[iz e1];simp
   .rw[uj (λy=>z (j2o (e1.symm.trans y))),ih];simp[Ne.symm z]
theorem xn.cx {t:Ad}{H:Hp}{Z:aq}{id:Nat}{h:Int}{k dk:Addr}{A:Nat->Addr}{B:Kp}{r:Addr}{ro:Role}{o:HO}(R:xn t H Z id h k A dk B)(kr:ax Z H)(nr:H r=none):xn t (upd H r o) (aD Z r ro) id h k A dk B:=R.fr (P:=λ_=>False) (λ_ z=>z) (Fr.cx nr)
noncomputable def Nr (t:Ad)(κ':Kp->O->Kp×List O):Sp:=λvs H Q _=>∃Z id h k A dk B n q o,vs=[.ref k,.ref q]/\xn t H Z id h k A dk B/\zv H Z (.ref q) o/\B.Ok n/\n<=8/\y4 (n:Nat) o=true/\B.de.length<=900/\B.aH.length+B.cho.length<=900/\B.done.length+B.wait.length<=900/\ax Z H/\∀Z' H' A' r xs,xn t H' Z' id h k A' dk (κ' B o).1->Fr (bp id h) Z H Z' H'->ax Z' H'->Z' r=some (id,.kp h 8)->H' r=some (.lst xs)->Paired (zv H' Z') xs (κ' B o).2->Q (.ref r) H'
theorem jq1 (T:Txt K mg t):xm P w K mg base CX0 6 t.EG t.EH ["self","order"] (Nr t Kp.oE):=by
 refine T.X7.aZ (N:=["self","order"]) λ_ A _ s H vs Q E hr h=>?_;obtain⟨Z,id,h,k,A',dk,B,n,q,o,rfl,R,uq,af,n8,ho,lh,lu,ld,kr,g⟩:=h;refine⟨_,(@jb _ _ _ _ _ (zd (wD (RW (fR hr) (pv 1) (j7 (pv 0) rfl))) (@je _ _ _ (j3 (@zj _ _ _ _ jf))) j6) (@jb _ _ _ _ _ (Ka (fR hr) (j7 (pv 0) rfl) (pv 1) eN rfl) (@jb _ _ _ _ _ (j8 (dZ PySem.F.plainAttrs_list PySem.F.slot_list_append PySem.F.type_list_append yh (j7 (pv 0) rfl) (jc (pv 1) jf))) (@je _ _ _ (j3 (yq (pv 0) T.jr T.gb (Ni T) hr.dn T.kg .nil jn)))))),?_⟩;obtain⟨_,eq,nq,hq⟩:=uq;cases eq;obtain⟨kvs,hk,ek⟩:=R.hd;have hv:=jzt (o:=o) ek;refine⟨_,rfl,_,rfl,k,_,dk,_,_,rfl,R.ob,T.jr,T.Gb,(xw A').2.2.2.1,A' 4,aX kvs (bJ o),rfl,.inr ⟨kvs,bJ o,q,.inl hk,rfl,hq,rfl⟩,_,rfl,?_⟩;rw[hv];unfold Kp.oE at g;refine bq (λz=>?_) (λz=>?_)
 .have z':o∈B.de:=of_decide_eq_true z;rw[if_pos z']at g;refine⟨cI,λr nr=>?_⟩;have f1:Fr (bp id h) Z H (aD Z r (id,.kp h 8)) (upd H r (.lst [])):=Fr.cx nr;refine g _ _ A' r [] (xn.cx R kr nr) f1 kr.cx zu ja .nil
 .have z':¬o∈B.de:=λy=>z (decide_eq_true y);rw[if_neg z']at g;have nk:aX kvs (bJ o)=none:=by
   cases e:aX kvs (bJ o)with
   |none=>rfl
   |some v=>rw[e,decide_eq_false z']at hv;cases hv
  have lk:kvs.length<=1000:=by have:=congrArg List.length ek;rw[length_map,length_map]at this;omega
  refine⟨_,rfl,k,_,dk,_,_,rfl,R.ob,T.jr,T.Gb,(xw A').2.2.2.1,_,rfl,A' 4,_,rfl,gY.t (k:=bJ o) hk hq (xi lk),?_⟩;rw[rX _ nk];obtain⟨R1,f1⟩:=R.put (κ':={B with de:=B.de++[o]}) (f0:=4) (by decide) (by decide) (u0:=.dT (kvs++[(bJ o,.bl true)])) ⟨_,rfl,by rw[map_append,ek,map_append];rfl⟩ (λf u hf q=>by unfold dJ at q⊢;split at q<;>first|exact q|exact absurd rfl hf);have bK:=kr.put (a:=A' 4) (o:=.dT (kvs++[(bJ o,.bl true)]));have mK:zv _ Z (.ref q) o:=zv.fr f1 ⟨q,rfl,nq,hq⟩;generalize upd H (A' 4) (.dT (kvs++[(bJ o,.bl true)]))=H1 at R1 f1 bK mK;obtain⟨xs,hx,px⟩:=R1.un;have lx:xs.length<=1000:=by rw[Paired.length px];show B.aH.length<=1000;omega
  refine⟨_,rfl,k,_,dk,_,_,rfl,R1.ob,T.jr,T.yb,(xw A').2.2.2.2.1,.inl ⟨rfl,_,ag.of hx⟩,_,rfl,A' 5,xs,.ref q,rfl,rfl,hx,xi lx,?_⟩;obtain⟨r5,_⟩:=R1.fl 5 (by decide) (by decide);obtain⟨R2,f2⟩:=R1.put (κ':={B with de:=B.de++[o],aH:=B.aH++[o]}) (f0:=5) (by decide) (by decide) (u0:=.lst (xs++[.ref q])) ⟨_,rfl,qo (Paired.ub px λ_ _=>zv.fr (Fr.put (P:=bp id h) r5 ⟨5,rfl⟩)) (mK.fr (Fr.put (P:=bp id h) r5 ⟨5,rfl⟩))⟩ (λf u hf q=>by unfold dJ at q⊢;split at q<;>first|exact q|exact absurd rfl hf);have bR:=bK.put (a:=A' 5) (o:=.lst (xs++[.ref q]));dsimp only;generalize upd H1 (A' 5) (.lst (xs++[.ref q]))=H2 at R2 f2 bR;have Gu:Kp.Ok n {B with de:=B.de++[o],aH:=B.aH++[o]}:=⟨af.h,af.x,λu hu=>by
   rcases mem_append.mp hu with hu|hu
   .exact af.u u hu
   .rw[mem_singleton.mp hu];exact ho,af.w,af.nd⟩;exact⟨_,rfl,k,dk,_,rfl,R2.ob,fE A',Z,id,h,k,A',dk,_,n,rfl,R2,Gu,n8,by show(B.aH++[o]).length+B.cho.length<=1000;rw[length_append];show B.aH.length+1+B.cho.length<=1000;omega,bR,λZ' H' uU r ys q1 q2 q3 q4 q5 q6=>g Z' H' uU r ys q1 ((f1.trans f2).trans q2) q3 q4 q5 q6⟩
theorem jji (T:Txt K mg t):xm P w K mg base CX0 7 t.kj t.kh ["self","order"] (Nr t Kp.jN):=by
 refine T.Ya.aZ (N:=["self","order"]) λ_ A _ s H vs Q E hr h=>?_;obtain⟨Z,id,h,k,A',dk,B,n,q,o,rfl,R,uq,af,n8,ho,lh,lu,ld,kr,g⟩:=h;refine⟨_,(@jb _ _ _ _ _ (zd (PW.pt (dF (qz (j5 (pv 0) T.jr T.vz (Gj T) hr.dn T.FX .nil jn (jc (pv 1) jf))) (dS (jw (Uc hr.units) (pv 1) (j7 (pv 0) rfl) (by with_unfolding_all rfl))))) (@je _ _ _ (j3 (@zj _ _ _ _ jf))) j6) (@jb _ _ _ _ _ (j8 (dZ PySem.F.plainAttrs_list PySem.F.slot_list_append PySem.F.type_list_append yh (j7 (pv 0) rfl) (jc (pv 1) jf))) (@je _ _ _ (j3 (yq (pv 0) T.jr T.X5 (jpy T) hr.dn T.X6 .nil jn))))),?_⟩;obtain⟨_,eq,nq,hq⟩:=uq;cases eq;obtain⟨xs,hx,px⟩:=R.wt;unfold Kp.jN at g;have none_:(B.past o||decide (o∈B.wait))=true->∀r H1,xp H H1->H1 r=none->Q (.ref r) (upd H1 r (.lst [])):=λz r H1 s1 nr=>by
  rw[if_pos z]at g;have f0:Fr (bp id h) Z H Z H1:=Fr.same s1;have f1:Fr (bp id h) Z H1 (aD Z r (id,.kp h 8)) (upd H1 r (.lst [])):=Fr.cx nr;exact g _ _ A' r [] (xn.cx (R.fr (P:=λ_=>False) (λ_ z=>z) (Fr.same s1)) (kr.same s1) nr) (f0.trans f1) (kr.same s1).cx zu ja .nil
 refine⟨_,rfl,k,dk,_,rfl,R.ob,fE A',_,rfl,Z,id,h,k,A',dk,B,n,q,o,rfl,R,hq,ho,af.x,_,rfl,?_⟩;cases hp:B.past o with
 |true=>refine bM (bM ⟨cI,λr nr=>none_ (by rw[hp];rfl) r H (xp.refl _) nr⟩)
 | false=>
  refine vd ⟨_,rfl,_,rfl,k,_,dk,_,_,rfl,R.ob,T.jr,T.xf,(xw A').2.2.2.2.2.2,A' 7,xs,za o,B.wait.map za,rfl,ag.of hx,⟨q,rfl,aw.of hq⟩,Np px,_,rfl,bq (λz=>?_) (λz=>?_)⟩
  .have z':o∈B.wait:=by
    obtain⟨u,hu,e⟩:=mem_map.mp (of_decide_eq_true z);rw[<-qD e];exact hu
   exact⟨cI,λr nr=>none_ (by rw[decide_eq_true z',Bool.or_true]) r H (xp.refl _) nr⟩
  .have z':¬o∈B.wait:=λy=>z (decide_eq_true (mem_map_of_mem y));rw[if_neg (by rw[hp,decide_eq_false z'];decide)]at g;have lx:xs.length<=1000:=by rw[Paired.length px];omega
   refine⟨_,rfl,k,_,dk,_,_,rfl,R.ob,T.jr,T.xf,(xw A').2.2.2.2.2.2,.inl ⟨rfl,_,ag.of hx⟩,_,rfl,A' 7,xs,.ref q,rfl,rfl,hx,xi lx,?_⟩;obtain⟨r7,_⟩:=R.fl 7 (by decide) (by decide);obtain⟨R2,f2⟩:=R.put (κ':={B with wait:=B.wait++[o]}) (f0:=7) (by decide) (by decide) (u0:=.lst (xs++[.ref q])) ⟨_,rfl,qo (Paired.ub px λ_ _=>zv.fr (Fr.put (P:=bp id h) r7 ⟨7,rfl⟩)) (zv.fr (Fr.put (P:=bp id h) r7 ⟨7,rfl⟩) ⟨q,rfl,nq,hq⟩)⟩ (λf u hf q=>by unfold dJ at q⊢;split at q<;>first|exact q|exact absurd rfl hf);have bR:=kr.put (a:=A' 7) (o:=.lst (xs++[.ref q]));dsimp only;generalize upd H (A' 7) (.lst (xs++[.ref q]))=H2 at R2 f2 bR;have Gu:Kp.Ok n {B with wait:=B.wait++[o]}:=⟨af.h,af.x,af.u,λu hu=>by
    rcases mem_append.mp hu with hu|hu
    .exact af.w u hu
    .rw[mem_singleton.mp hu];exact ho,nodup_append.mpr ⟨af.nd,by simp,λx hx y hy e=>by rw[mem_singleton.mp hy]at e;subst e;exact z' hx⟩⟩;exact⟨_,rfl,k,dk,_,rfl,R2.ob,fE A',Z,id,h,k,A',dk,_,n,rfl,R2,Gu,n8,by show B.aH.length+B.cho.length<=1000;omega,by show B.done.length+(B.wait++[o]).length<=1000;rw[length_append];show B.done.length+(B.wait.length+1)<=1000;omega,bR,λZ' H' uU r ys q1 q2 q3 q4 q5 q6=>g Z' H' uU r ys q1 (f2.trans q2) q3 q4 q5 q6⟩
noncomputable def cU (n bO:Int)(ly ch kd bd ak wy:Addr):List (Str×V):=ua "on_way" (.ref wy) (ua "asked" (.ref ak) (ua "board" (.ref bd) (ua "keepers" (.ref kd) (ua "cheating" (.ref ch) (ua "lying" (.ref ly) (ua "total" (.int bO) (ua "purses" (.int n) [])))))))
theorem Gw {n bO:Int}{ly ch kd bd ak wy:Addr}:(cU n bO ly ch kd bd ak wy).lookup ("purses":Str)=some (.int n):=by unfold cU;repeat(first|rw[jl,if_pos rfl]|rw[jl,if_neg (by decide+kernel)])
theorem Nt {n bO:Int}{ly ch kd bd ak wy:Addr}:(cU n bO ly ch kd bd ak wy).lookup ("lying":Str)=some (.ref ly):=by unfold cU;repeat(first|rw[jl,if_pos rfl]|rw[jl,if_neg (by decide+kernel)])
theorem Gx {n bO:Int}{ly ch kd bd ak wy:Addr}:(cU n bO ly ch kd bd ak wy).lookup ("cheating":Str)=some (.ref ch):=by unfold cU;repeat(first|rw[jl,if_pos rfl]|rw[jl,if_neg (by decide+kernel)])
theorem qF {n bO:Int}{ly ch kd bd ak wy:Addr}:(cU n bO ly ch kd bd ak wy).lookup ("keepers":Str)=some (.ref kd):=by unfold cU;repeat(first|rw[jl,if_pos rfl]|rw[jl,if_neg (by decide+kernel)])
theorem mL {n bO:Int}{ly ch kd bd ak wy:Addr}:(cU n bO ly ch kd bd ak wy).lookup ("board":Str)=some (.ref bd):=by unfold cU;repeat(first|rw[jl,if_pos rfl]|rw[jl,if_neg (by decide+kernel)])
theorem Nu {n bO:Int}{ly ch kd bd ak wy:Addr}:(cU n bO ly ch kd bd ak wy).lookup ("asked":Str)=some (.ref ak):=by unfold cU;repeat(first|rw[jl,if_pos rfl]|rw[jl,if_neg (by decide+kernel)])
theorem qG {n bO:Int}{ly ch kd bd ak wy:Addr}:(cU n bO ly ch kd bd ak wy).lookup ("on_way":Str)=some (.ref wy):=by unfold cU;repeat(first|rw[jl,if_pos rfl]|rw[jl,if_neg (by decide+kernel)])
theorem qy {n bO:Int}{ly ch kd bd ak wy:Addr}{m:Str}(h:autoParam (¬m="on_way"/\¬m="asked"/\¬m="board"/\¬m="keepers"/\¬m="cheating"/\¬m="lying"/\¬m="total"/\¬m="purses") aP4):(cU n bO ly ch kd bd ak wy).lookup m=none:=by obtain⟨h1,h2,h3,h4,h5,h6,h7,h8⟩:=h;unfold cU;rw[jl,if_neg h1,jl,if_neg h2,jl,if_neg h3,jl,if_neg h4,jl,if_neg h5,jl,if_neg h6,jl,if_neg h7,jl,if_neg h8];rfl
structure Wd where
 n:Nat
 gf:List Int
 ks:List (Int×Kp)
 bd:zx
 en:Int
 asked:List (List O)
 way:List (Bool×Int×O)
noncomputable def bY (ks:List (Int×Kp))(h:Int)(B:Kp):List (Int×Kp):=ks.map λc=>if c.1=h then(h,B)else c
noncomputable def Wd.post (w:Wd)(b:Bool)(o:O):Wd:={w with way:=w.way++w.ks.map λc=>(b,c.1,o)}
noncomputable def jq:zx->List Int->List Int
 |[],_=>[]
 |p::ps,k=>if p.1=k then p.2 else jq ps k
noncomputable def cP:zx->List Int->Int->zx
 |[],k,h=>[(k,[h])]
 |p::ps,k,h=>if p.1=k then(p.1,p.2++[h])::ps else p::cP ps k h
noncomputable def Wd.put (w:Wd)(h:Int)(o:O):Wd×Bool:=if h∈jq w.bd (za o)then(w,false)else({w with bd:=cP w.bd (za o) h},decide (((jq w.bd (za o)).length:Int)+1=w.en))
noncomputable def Wd.bE (h:Int)(w:Wd)(o:O):Wd:=if(w.put h o).2=true then(w.put h o).1.post false o else(w.put h o).1
noncomputable def Wd.zg (w:Wd)(h:Int)(os:List O):Wd:=os.foldl (Wd.bE h) w
noncomputable def Wd.keep (w:Wd)(h:Int):Option Kp:=(w.ks.find? λc=>decide (c.1=h)).map (·.2)
noncomputable def Kp.take (B:Kp)(b:Bool)(o:O):Kp×List O:=if b=true then B.oE o else B.jN o
noncomputable def Wd.iX (w:Wd)(i:Nat)(l:Bool×Int×O)(B:Kp):Wd:=Wd.zg {w with way:=w.way.eraseIdx i,ks:=bY w.ks l.2.1 (B.take l.1 l.2.2).1} l.2.1 (B.take l.1 l.2.2).2
theorem wd (k:List Int):∀is:zx,qb (aY is) (bX k)=jq is k
 |[]=>rfl
 |p::ps=>by
  show(if bX p.1=bX k then p.2 else qb (aY ps) (bX k))=if p.1=k then p.2 else jq ps k;by_cases z:p.1=k
  .rw[if_pos z,if_pos (by rw[z])]
  .rw[if_neg z,if_neg (λy=>z (Gg y)),wd k ps]
theorem Nv (k:List Int)(h:Int):∀is:zx,lA (aY is) (bX k) h=aY (cP is k h)
 |[]=>rfl
 |p::ps=>by
  show(if bX p.1=bX k then(bX p.1,p.2++[h])::aY ps else(bX p.1,p.2)::lA (aY ps) (bX k) h)=aY (if p.1=k then(p.1,p.2++[h])::ps else p::cP ps k h);by_cases z:p.1=k
  .rw[if_pos z,if_pos (by rw[z])];rfl
  .rw[if_neg z,if_neg (λy=>z (Gg y)),Nv k h ps];rfl
noncomputable def qH (b:Bool):V:=.str (if b=true then"order"else"paper")
noncomputable def cq (H:Hp)(Z:aq)(x:V)(l:Bool×Int×O):Prop:=∃a q,x= .ref a/\Z a=none/\H a=some (.tup [qH l.1,.int l.2.1,.ref q])/\zv H Z (.ref q) l.2.2
theorem cq.fr {P:Role->Prop}{Z Z':aq}{H H':Hp}{x:V}{l:Bool×Int×O}(f:Fr P Z H Z' H')(h:cq H Z x l):cq H' Z' x l:=by
 obtain⟨a,q,e,n,h1,h2⟩:=h;obtain⟨mq,n'⟩:=f a _ h1 λr hr=>by rw[n]at hr;cases hr
 exact⟨a,q,e,n'.trans n,mq,h2.fr f⟩
structure WA where
 x:Addr
 dx:Addr
 bO:Int
 ly:Addr
 ch:Addr
 kd:Addr
 bd:Addr
 ak:Addr
 wy:Addr
 db:Addr
 S:Addr
noncomputable abbrev WA.fs (W:WA)(n:Nat):List (Str×V):=cU n W.bO W.ly W.ch W.kd W.bd W.ak W.wy
noncomputable def xx (t:Ad)(H:Hp)(Z:aq)(id:Nat)(kvs:List (Key×V))(ks:List (Int×Kp)):Prop:=Paired (λkv (c:Int×Kp)=>kv.1= .inl c.1/\∃k A dk,kv.2= .ref k/\xn t H Z id c.1 k A dk c.2) kvs ks
noncomputable def lD (H:Hp)(Z:aq)(id:Nat)(rs:List Addr)(asked:List (List O)):Prop:=rs.length=asked.length/\∀(i:Nat)(r:Addr)(os:List O),rs[i]?=some r->asked[i]?=some os->Z r=some (id,.row i)/\∃xs,H r=some (.lst xs)/\Paired (zv H Z) xs os
noncomputable def lE (Z:aq)(id:Nat)(kvs:List (List Key×V)):Prop:=∀kv∈kvs,∃c,kv.2= .ref c/\Z c=some (id,.sg)
structure qk (t:Ad)(H:Hp)(Z:aq)(id:Nat)(W:WA)(w:Wd):Prop where
 ob:H W.x=some (.ins t.jz W.dx (W.fs w.n))/\Z W.x=some (id,.x)
 ch:H W.ch=some (.lst (w.gf.map V.int))/\Z W.ch=none
 kd:Z W.kd=some (id,.kd)/\∃kvs,H W.kd=some (.dK kvs)/\xx t H Z id kvs w.ks
 bd:Z W.bd=some (id,.bd)/\Z W.S=some (id,.sd)/\∃kvs,yl t H W.bd W.db W.S w.en kvs (aY w.bd)/\lE Z id kvs
 ak:Z W.ak=some (id,.ak)/\∃rs,H W.ak=some (.lst (rs.map V.ref))/\lD H Z id rs w.asked
 wy:Z W.wy=some (id,.wy)/\∃xs,H W.wy=some (.lst xs)/\Paired (cq H Z) xs w.way
section
variable {t:Ad}{H H':Hp}{Z Z':aq}{id:Nat}{W:WA}{w:Wd}{P:Role->Prop}
theorem cV {a:Addr}{u:HO}{r:Role}(f:Fr P Z H Z' H')(e:H a=some u)(er:Z a=some r)(n:¬P r):H' a=some u/\Z' a=some r:=by
 obtain⟨e1,r1⟩:=f a u e λr' hr=>by rw[er]at hr;cases hr;exact n
 exact⟨e1,r1.trans er⟩
theorem ig {a:Addr}{u:HO}(f:Fr P Z H Z' H')(e:H a=some u)(er:Z a=none):H' a=some u/\Z' a=none:=by
 obtain⟨e1,r1⟩:=f a u e λr' hr=>by rw[er]at hr;cases hr
 exact⟨e1,r1.trans er⟩
theorem xx.fr {kvs:List (Key×V)}{ks:List (Int×Kp)}(f:Fr P Z H Z' H')(hP:∀h i,¬P (id,.kp h i))(k:xx t H Z id kvs ks):xx t H' Z' id kvs ks:=Paired.ub k λ_ c ⟨e,k,A,dk,ek,q⟩=>⟨e,k,A,dk,ek,q.fr (hP c.1) f⟩
theorem lD.fr {rs:List Addr}{asked:List (List O)}(f:Fr P Z H Z' H')(hP:∀i,¬P (id,.row i))(k:lD H Z id rs asked):lD H' Z' id rs asked:=⟨k.1,λi r os e1 e2=>by obtain⟨rr,xs,h,p⟩:=k.2 i r os e1 e2;obtain⟨h',r'⟩:=cV f h rr (hP i);exact⟨r',xs,h',Paired.ub p λ_ _=>zv.fr f⟩⟩
theorem yl.fr {p dx S:Addr}{en:Int}{kvs:List (List Key×V)}{ps:fB}(f:Fr P Z H Z' H')(rp:Z p=some (id,.bd))(rS:Z S=some (id,.sd))(sg:lE Z id kvs)(n1:¬P (id,.bd))(n2:¬P (id,.sd))(n3:¬P (id,.sg))(Bq:yl t H p dx S en kvs ps):yl t H' p dx S en kvs ps/\Z' p=some (id,.bd)/\Z' S=some (id,.sd)/\lE Z' id kvs:=by
 obtain⟨e1,r1⟩:=cV f Bq.ob rp n1;obtain⟨e2,r2⟩:=cV f Bq.sg rS n2;have hs:∀{kv:List Key×V}{q:List Key×List Int},kv∈kvs->ic H kv q->ic H' kv q/\∃c,kv.2= .ref c/\Z' c=some (id,.sg):=λ{kv q} m ⟨a,c,ec,hc⟩=>by obtain⟨c',Nw,rc⟩:=sg kv m;rw[ec]at Nw;cases Nw;obtain⟨h1,h2⟩:=cV f hc rc n3;exact⟨⟨a,c,ec,h1⟩,c,ec,h2⟩
 have all:∀{xs:List (List Key×V)}{ys:fB},(∀x∈xs,x∈kvs)->Paired (ic H) xs ys->Paired (ic H') xs ys/\lE Z' id xs:=λ{xs ys} m q=>by
  induction q with
  |nil=>exact⟨.nil,λ_ z=>by cases z⟩
  |cons h _ ih=>
   obtain⟨i1,i2⟩:=ih λx hx=>m x (mem_cons_of_mem _ hx);obtain⟨j1,j2⟩:=hs (m _ mem_cons_self) h;refine⟨.cons j1 i1,λx hx=>?_⟩;rcases mem_cons.mp hx with rfl|hx
   .exact j2
   .exact i2 x hx
 obtain⟨a1,a2⟩:=all (λ_ h=>h) Bq.hs;exact⟨⟨e1,e2,a1,Bq.un⟩,r1,r2,a2⟩
theorem qk.fr (hP:∀p,¬P (id,p))(f:Fr P Z H Z' H')(w1:qk t H Z id W w):qk t H' Z' id W w:=by obtain⟨rk,kvs,hk,ks⟩:=w1.kd;obtain⟨rb,rS,fW,Bq,sg⟩:=w1.bd;obtain⟨ra,rs,ha,rows⟩:=w1.ak;obtain⟨dM,xs,hw,pw⟩:=w1.wy;obtain⟨fU,rk'⟩:=cV f hk rk (hP _);obtain⟨B',Ac,Ae,Gy⟩:=Bq.fr f rb rS sg (hP _) (hP _) (hP _);obtain⟨Gz,GA⟩:=cV f ha ra (hP _);obtain⟨oJ,cy⟩:=cV f hw dM (hP _);exact⟨cV f w1.ob.1 w1.ob.2 (hP _),ig f w1.ch.1 w1.ch.2,⟨rk',kvs,fU,ks.fr f λ_ _=>hP _⟩,⟨Ac,Ae,fW,B',Gy⟩,⟨GA,rs,Gz,rows.fr f λ_=>hP _⟩,⟨cy,xs,oJ,Paired.ub pw λ_ _=>cq.fr f⟩⟩
theorem qk.but (f:Fr P Z H Z' H')(w1:qk t H Z id W w)(w':Wd)(n1:¬P (id,.x))(en:w'.n=w.n)(ec:w'.gf=w.gf)(kd:(Z W.kd=some (id,.kd)->(∃kvs,H W.kd=some (.dK kvs)/\xx t H Z id kvs w.ks)->Z' W.kd=some (id,.kd)/\∃kvs,H' W.kd=some (.dK kvs)/\xx t H' Z' id kvs w'.ks))(bd:(Z W.bd=some (id,.bd)->Z W.S=some (id,.sd)->(∃kvs,yl t H W.bd W.db W.S w.en kvs (aY w.bd)/\lE Z id kvs)->Z' W.bd=some (id,.bd)/\Z' W.S=some (id,.sd)/\∃kvs,yl t H' W.bd W.db W.S w'.en kvs (aY w'.bd)/\lE Z' id kvs))(ak:(Z W.ak=some (id,.ak)->(∃rs,H W.ak=some (.lst (rs.map V.ref))/\lD H Z id rs w.asked)->Z' W.ak=some (id,.ak)/\∃rs,H' W.ak=some (.lst (rs.map V.ref))/\lD H' Z' id rs w'.asked))(wy:(Z W.wy=some (id,.wy)->(∃xs,H W.wy=some (.lst xs)/\Paired (cq H Z) xs w.way)->Z' W.wy=some (id,.wy)/\∃xs,H' W.wy=some (.lst xs)/\Paired (cq H' Z') xs w'.way)):qk t H' Z' id W w':=by
 refine⟨?_,?_,kd w1.kd.1 w1.kd.2,bd w1.bd.1 w1.bd.2.1 w1.bd.2.2,ak w1.ak.1 w1.ak.2,wy w1.wy.1 w1.wy.2⟩
 .rw[en];exact cV f w1.ob.1 w1.ob.2 n1
 .rw[ec];exact ig f w1.ch.1 w1.ch.2
theorem fX (f:Fr P Z H Z' H')(n1:¬P (id,.kd))(n2:∀h i,¬P (id,.kp h i)){kd:Addr}{ks:List (Int×Kp)}(r:Z kd=some (id,.kd))(h:∃kvs,H kd=some (.dK kvs)/\xx t H Z id kvs ks):Z' kd=some (id,.kd)/\∃kvs,H' kd=some (.dK kvs)/\xx t H' Z' id kvs ks:=by obtain⟨kvs,hk,q⟩:=h;obtain⟨h',r'⟩:=cV f hk r n1;exact⟨r',kvs,h',q.fr f n2⟩
theorem ik (f:Fr P Z H Z' H')(n1:¬P (id,.bd))(n2:¬P (id,.sd))(n3:¬P (id,.sg)){b db S:Addr}{en:Int}{is:zx}(rb:Z b=some (id,.bd))(rS:Z S=some (id,.sd))(h:∃kvs,yl t H b db S en kvs (aY is)/\lE Z id kvs):Z' b=some (id,.bd)/\Z' S=some (id,.sd)/\∃kvs,yl t H' b db S en kvs (aY is)/\lE Z' id kvs:=by obtain⟨kvs,Bq,sg⟩:=h;obtain⟨B',Ac,Ae,Gy⟩:=Bq.fr f rb rS sg n1 n2 n3;exact⟨Ac,Ae,kvs,B',Gy⟩
theorem lF (f:Fr P Z H Z' H')(n1:¬P (id,.ak))(n2:∀i,¬P (id,.row i)){ak:Addr}{asked:List (List O)}(r:Z ak=some (id,.ak))(h:∃rs,H ak=some (.lst (rs.map V.ref))/\lD H Z id rs asked):Z' ak=some (id,.ak)/\∃rs,H' ak=some (.lst (rs.map V.ref))/\lD H' Z' id rs asked:=by obtain⟨rs,hk,q⟩:=h;obtain⟨h',r'⟩:=cV f hk r n1;exact⟨r',rs,h',q.fr f n2⟩
theorem GC (f:Fr P Z H Z' H')(n1:¬P (id,.wy)){wy:Addr}{way:List (Bool×Int×O)}(r:Z wy=some (id,.wy))(h:∃xs,H wy=some (.lst xs)/\Paired (cq H Z) xs way):Z' wy=some (id,.wy)/\∃xs,H' wy=some (.lst xs)/\Paired (cq H' Z') xs way:=by obtain⟨rs,hk,q⟩:=h;obtain⟨h',r'⟩:=cV f hk r n1;exact⟨r',rs,h',Paired.ub q λ_ _=>cq.fr f⟩
end
theorem jxw {α β:Type}{F:α->β->Prop}:∀{xs mM:List α}{ys bC:List β},Paired F xs ys->Paired F mM bC->Paired F (xs++mM) (ys++bC):=λ{xs mM ys bC} q h=>by
 induction q with
 |nil=>exact h
 |cons a _ ih=>exact .cons a ih
theorem big {n:Nat}(h:n<=1000000):n<sizeLine:=lt_of_le_of_lt h (by decide)
theorem oK {n:Nat}(h:n<=1000000):n<=sizeLine:=le_of_lt (big h)
noncomputable abbrev Af (H:Hp)(x:Addr)(G:Hp):Prop:=∀b u,H b=some u->b≠x->G b=some u
theorem Fr.GF {P:Role->Prop}{Z:aq}{H G:Hp}{x:Addr}{r:Role}(h:Z x=some r)(p:P r)(f:Af H x G):Fr P Z H Z G:=λb u e n=>⟨f b u e λz=>n r (z ▸ h) p,rfl⟩
theorem ax.GF {Z:aq}{H G:Hp}{x:Addr}{u:HO}(k:ax Z H)(f:Af H x G)(hx:G x=some u)(nu:oF u):ax Z G:=λb r h=>by
 by_cases z:b=x
 .subst z;exact⟨u,hx,nu⟩
 .obtain⟨v,e,n⟩:=k b r h;exact⟨v,f b v e z,n⟩
noncomputable def eT (id:Nat)(p:Part):Role->Prop:=λr=>r=(id,p)
theorem jy {id:Nat}{p q:Part}(h:q≠p:=by intro z;cases z):¬eT id p (id,q):=λz=>h (Prod.mk.inj z).2
theorem j76 {a:Addr}{o:Obj}{kvs:List (Key×V)}{g:TG}{tb:TS}{D:Ends}{U:St}{H:Hp}(Pv:Nat->St->Hp->Prop)(h0:Pv 0 U H)(hl:∀i U H,i<=kvs.length->Pv i U H->H a=some (.aA o (.dK kvs)))(hs:∀i kv U H,kvs[i]?=some kv->Pv i U H->g (kV kv.1) U H λU2 H2=>tb {D with nx:=Pv (i+1),ct:=Pv (i+1),bk:=D.nx} U2 H2)(hd:∀U H,Pv kvs.length U H->D.nx U H):∃W:Nat->Nat->St->Hp->Prop,(∃m,W 0 m U H)/\∀i m U H,W i m U H->((sQ a o kvs).stop i H/\D.nx U H)\/((sQ a o kvs).go i H/\∃N:St->Hp->Prop,(∀U' H',N U' H'->∃m',m'<m/\W (i+1) m' U' H')/\∀x H',(sQ a o kvs).du i H x H'->g x U H' λU2 H2=>tb {D with nx:=N,ct:=N,bk:=D.nx} U2 H2):=by
 refine⟨λi m U H=>m=kvs.length-i/\i<=kvs.length/\Pv i U H,⟨kvs.length,by simp,zero_le _,h0⟩,?_⟩
 rintro i m U H ⟨rfl,hi,p⟩
 have q:=hl i U H hi p;by_cases az:i<kvs.length
 .refine .inr ⟨⟨az,q⟩,Pv (i+1),λU' H' p'=>⟨kvs.length-(i+1),by lia,rfl,az,p'⟩,λx H' y=>?_⟩;obtain⟨e,kv,ek,ex⟩:=y;subst e ex;exact hs i kv U _ ek p
 .have e:i=kvs.length:=by lia
  subst e;exact .inl ⟨⟨le_refl _,q⟩,hd U H p⟩
theorem GH (T:Txt K mg t):xm P w K mg base CX0 1 t.EJ t.EK ["self"] (λvs H Q _=>∃Z id W Y,vs=[.ref W.x]/\qk t H Z id W Y/\Y.way.length<=100000/\∀r xs,H r=none->Paired (cq H Z) xs Y.way->Q (.ref r) (upd H r (.lst xs))):=by refine T.Yg.aZ (N:=["self"]) λ_ A _ s H vs Q E hr h=>?_;obtain⟨Z,id,W,Y,rfl,O,l,k⟩:=h;refine⟨_,(@je _ _ _ (j3 (uz rN rfl T.mH boot_list (jc (j7 (pv 0) rfl) jf)))),?_⟩;obtain⟨dM,xs,hw,pw⟩:=O.wy;exact⟨_,rfl,W.x,_,W.dx,_,_,rfl,O.ob.1,T.jh,T.zi,qG,W.wy,xs,rfl,.inl (ag.of hw),λr nr=>k r xs nr pw⟩
theorem Nx (T:Txt K mg t):xm P w K mg base CX0 1 t.wz t.gc ["self","word","order"] (λvs H Q _=>∃Z id W Y b q o,vs=[.ref W.x,qH b,.ref q]/\qk t H Z id W Y/\ax Z H/\zv H Z (.ref q) o/\Y.way.length<=100000/\Y.ks.length<=16/\∀H',qk t H' Z id W (Y.post b o)->Fr (eT id .wy) Z H Z H'->ax Z H'->Q .aj H'):=by
 refine T.YC.cz Me λ_ A _ s H vs Q E hr h=>?_;obtain⟨Z,id,W,Y,b,q,o,rfl,O,kr,uq,l,l2,k⟩:=h;refine⟨_,(@je _ _ _ (TK (jA PassesOwn.never rfl (TQ (j7 (pv 0) rfl)) (jv (i:=3) Me.nd rfl (Or.inl rfl)) (@je _ _ _ (j8 (dZ PySem.F.plainAttrs_list PySem.F.slot_list_append PySem.F.type_list_append yh (j7 (pv 0) rfl) (jc (@gG _ _ _ _ _ (@bW _ _ _ _ _ _ _ (pv 1) (pv 3) (pv 2) rfl rfl rfl)) jf))))))),?_⟩;obtain⟨rk,kvs,kd,ks⟩:=O.kd;obtain⟨dM,way,wy,pw⟩:=O.wy;have ob:=O.ob.1;have kw:W.kd≠W.wy:=eS rk dM (by intro z;cases z);have kx:W.x≠W.kd:=eS O.ob.2 rk (by intro z;cases z);have wx:W.x≠W.wy:=eS O.ob.2 dM (by intro z;cases z);have lk:kvs.length=Y.ks.length:=Paired.length ks;have lw:way.length=Y.way.length:=Paired.length pw;refine⟨_,rfl,W.x,_,W.dx,_,_,rfl,ob,T.jh,T.qv,qF,W.kd,kvs,rfl,kd,λoo=>j76 (λi U H'=>∃v ts,U=[some (.ref W.x),some (qH b),some (.ref q),v]/\ts.length=i/\H' W.wy=some (.lst (way++ts))/\Af (upd H W.kd (.aA oo (.dK kvs))) W.wy H'/\Paired (λx (c:Int×Kp)=>∃a,x= .ref a/\H a=none/\H' a=some (.tup [qH b,.int c.1,.ref q])) ts (Y.ks.take i)) ?_ ?_ ?_ ?_⟩
 .exact⟨none,[],rfl,rfl,(by rw[append_nil,jd kw.symm];exact wy),(λb u e _=>e),.nil⟩
 .rintro i U H' _ ⟨v,ts,_,_,_,f,_⟩
  exact f _ _ ja kw
 .rintro i kv U H' ek ⟨v,ts,rfl,lt,hw,f,pt⟩
  obtain⟨c,ec,e1,_⟩:=qd ks ek;have ob':H' W.x=some (.ins t.jz W.dx (W.fs Y.n)):=f _ _ (by rw[jd kx];exact ob) wx;have hi:=(List.getElem?_eq_some_iff.mp ek).1;refine⟨_,rfl,W.x,_,W.dx,_,_,rfl,ob',T.jh,T.zi,qG,.inl ⟨rfl,_,ag.of hw⟩,_,rfl,_,rfl,_,rfl,kY,λp np=>?_⟩;have sp:=jg (o:=.tup [qH b,kV kv.1,.ref q]) np;have lC:H p=none:=by
   cases e:H p with
   |none=>rfl
   | some u=>
    exfalso;by_cases z:p=W.wy
    .rw[z,hw]at np;cases np
    .by_cases z2:p=W.kd
     .rw[z2,f _ _ ja kw]at np;cases np
     .have:=f p u (by rw[jd z2];exact e) z;rw[np]at this;cases this
  have pw_:p≠W.wy:=λz=>by rw[z,hw]at np;cases np
  refine⟨W.wy,_,_,rfl,rfl,sp _ _ hw,big (by rw[length_append,lt];omega),_,ts++[.ref p],rfl,?_,?_,λb' u e bw=>?_,?_⟩
  .rw[length_append,lt];rfl
  .rw[ja,List.append_assoc]
  .rw[jd bw];exact sp _ _ (f _ _ e bw)
  .rw[take_snoc ec];refine qo (Paired.ub pt λ_ _ ⟨a,e,n,h'⟩=>⟨a,e,n,?_⟩) ⟨p,rfl,lC,?_⟩
   .rw[jd (λz=>by rw[z,hw]at h';cases h')];exact sp _ _ h'
   .rw[jd pw_,ja,e1];rfl
 .rintro U H' ⟨v,ts,rfl,lt,hw,f,pt⟩
  have fin:Af H W.wy (upd H' W.kd (.dK kvs)):=λb' u e bw=>by
   by_cases z:b'=W.kd
   .subst z;rw[kd]at e;rw[ja,<-e]
   .rw[jd z];exact f _ _ (by rw[jd z];exact e) bw
  have oJ:upd H' W.kd (.dK kvs) W.wy=some (.lst (way++ts)):=by rw[jd kw.symm];exact hw
  refine⟨W.kd,oo,.dK kvs,f _ _ ja kw,λo' u' z=>?_,True.intro,?_⟩
  .have z':H W.kd=some (.aA o' u'):=z;rw[kd]at z';cases z'
  have fr:Fr (eT id .wy) Z H Z (upd H' W.kd (.dK kvs)):=Fr.GF dM rfl fin;rw[lk,take_length]at pt;refine k _ (O.but fr (Y.post b o) jy rfl rfl (fX fr jy (λ_ _=>jy)) (ik fr jy jy jy) (lF fr jy (λ_=>jy)) (λ_ _=>⟨dM,_,oJ,?_⟩)) fr (kr.GF fin oJ (by exact True.intro));have up:=uq.fr fr;have q2:Paired (cq (upd H' W.kd (.dK kvs)) Z) ts (Y.ks.map λc=>(b,c.1,o)):=by
   clear oJ lt hw;have gen:∀{xs:List V}{cs:List (Int×Kp)},Paired (λx (c:Int×Kp)=>∃a,x= .ref a/\H a=none/\H' a=some (.tup [qH b,.int c.1,.ref q])) xs cs->Paired (cq (upd H' W.kd (.dK kvs)) Z) xs (cs.map λc=>(b,c.1,o)):=λ{xs cs} h=>by
    induction h with
    |nil=>exact .nil
    |cons a _ ih=>obtain⟨p,e,n,hp⟩:=a;refine .cons ⟨p,q,e,kr.none n,?_,up⟩ ih;rw[jd (λz=>by rw[z,kd]at n;cases n)];exact hp
   exact gen pt
  exact jxw (Paired.ub pw λ_ _=>cq.fr fr) q2
noncomputable def qI (id:Nat):Role->Prop:=λr=>r=(id,.wy)\/r=(id,.sd)\/r=(id,.sg)
theorem oM {id:Nat}{p:Part}(h1:p≠.wy)(h2:p≠.sd)(h3:p≠.sg):¬qI id (id,p):=λz=>by
 rcases z with z|z|z
 .exact h1 (Prod.mk.inj z).2
 .exact h2 (Prod.mk.inj z).2
 .exact h3 (Prod.mk.inj z).2
structure Sz (Y:Wd)(a b c:Nat):Prop where
 bd:Y.bd.length<=a
 hs:∀x∈Y.bd,x.2.length<=b
 wy:Y.way.length<=c
 ks:Y.ks.length<=16
theorem Ny {k:List Int}{h:Int}:∀{is:zx}{a b:Nat},is.length<=a->(∀x∈is,x.2.length<=b)->(cP is k h).length<=a+1/\∀x∈cP is k h,x.2.length<=b+1
 |[],a,b,_,_=>⟨by show 1<=a+1;lia,λx hx=>by rw[mem_singleton.mp hx];show 1<=b+1;lia⟩
 | p::ps,a,b,h1,h2=>by
  unfold cP;split
  .refine⟨by rw[length_cons]at h1⊢;lia,λx hx=>?_⟩;rcases mem_cons.mp hx with rfl|hx
   .have:=h2 p mem_cons_self;show(p.2++[h]).length<=b+1;rw[length_append];show p.2.length+1<=b+1;lia
   .have:=h2 x (mem_cons_of_mem _ hx);lia
  .rw[length_cons]at h1;obtain⟨i1,i2⟩:=Ny (k:=k) (h:=h) (is:=ps) (a:=a-1) (b:=b) (by lia) (λx hx=>h2 x (mem_cons_of_mem _ hx));refine⟨by rw[length_cons];lia,λx hx=>?_⟩;rcases mem_cons.mp hx with rfl|hx
   .have:=h2 x mem_cons_self;lia
   .exact i2 x hx
theorem Sz.put {Y:Wd}{a b c:Nat}(z:Sz Y a b c)(h:Int)(o:O):Sz (Y.put h o).1 (a+1) (b+1) c:=by
 unfold Wd.put;split
 .exact⟨le_succ_of_le z.bd,λx hx=>le_succ_of_le (z.hs x hx),z.wy,z.ks⟩
 .obtain⟨i1,i2⟩:=Ny (k:=za o) (h:=h) z.bd z.hs;exact⟨i1,i2,z.wy,z.ks⟩
theorem Sz.bE {Y:Wd}{a b c:Nat}(z:Sz Y a b c)(h:Int)(o:O):Sz (Y.bE h o) (a+1) (b+1) (c+16):=by
 have p:=z.put h o;unfold Wd.bE;split
 .refine⟨p.bd,p.hs,?_,p.ks⟩;show((Y.put h o).1.way++_).length<=c+16;rw[length_append,length_map];have:=p.wy;have:=p.ks;lia
 .exact⟨p.bd,p.hs,by have:=p.wy;lia,p.ks⟩
theorem Sz.mono {Y:Wd}{a b c a' b' c':Nat}(z:Sz Y a b c)(h1:a<=a')(h2:b<=b')(h3:c<=c'):Sz Y a' b' c':=⟨le_trans z.bd h1,λx hx=>le_trans (z.hs x hx) h2,le_trans z.wy h3,z.ks⟩
theorem Nz (Y:Wd)(h:Int){os:List O}{i:Nat}{o:O}(e:os[i]?=some o):Y.zg h (os.take (i+1))=(Y.zg h (os.take i)).bE h o:=by unfold Wd.zg;rw[take_snoc e,List.foldl_append];rfl
theorem Sz.zg {Y:Wd}{a b c:Nat}(z:Sz Y a b c)(h:Int){os:List O}:∀i,i<=os.length->Sz (Y.zg h (os.take i)) (a+i) (b+i) (c+16*i)
 |0,_=>z
 |i+1,hi=>by rw[Nz Y h (getElem?_eq_getElem (show i<os.length by lia))];exact((Sz.zg z h i (by lia)).bE h _).mono (by lia) (by lia) (by lia)
theorem NA {k:List Int}:∀{is:zx},jq is k=[]\/∃x∈is,jq is k=x.2
 |[]=>.inl rfl
 | p::ps=>by
  unfold jq;split
  .exact .inr ⟨p,mem_cons_self,rfl⟩
  .rcases NA (k:=k) (is:=ps)with h|⟨x,hx,e⟩
   .exact .inl h
   .exact .inr ⟨x,mem_cons_of_mem _ hx,e⟩
theorem Sz.hl {Y:Wd}{a b c:Nat}(z:Sz Y a b c)(k:List Int):(jq Y.bd k).length<=b:=by
 rcases NA (k:=k) (is:=Y.bd)with h|⟨x,hx,e⟩
 .rw[h];exact zero_le _
 .rw[e];exact z.hs x hx
open Classical in
noncomputable def jO (Z : aq) (id:Nat) (kvs bD:List (List Key × V)) : aq:=λa=>if ∃ kv ∈ bD,kv.2 = .ref a then some (id,.sg) else if ∃ kv ∈ kvs,kv.2 = .ref a then none else Z a
theorem GI (T:Txt K mg t):xm P w K mg base CX0 2 t.E1 t.E2 ["self","house","orders"] (λvs H Q _=>∃Z id W Y h r xs os a b c,vs=[.ref W.x,.int h,.ref r]/\qk t H Z id W Y/\ax Z H/\H r=some (.lst xs)/\(∀ro,Z r=some ro->¬qI id ro)/\Paired (zv H Z) xs os/\Sz Y a b c/\a+os.length<=1000/\b+os.length<=1000/\c+16*os.length<=100000/\∀Z' H',qk t H' Z' id W (Y.zg h os)->Fr (qI id) Z H Z' H'->ax Z' H'->Q .aj H'):=by
 refine T.YD.cz Mf λ_ A _ s H vs Q E hr h=>?_;obtain⟨Z,id,W,Y,h,r,xs,os,a,b,c,rfl,O,kr,hx,nr,px,sz,la,lb,lc,k⟩:=h;refine⟨_,(@je _ _ _ (jA PassesOwn.never rfl (@fJ _ _ _ _ (pv 2)) (jv (i:=3) Mf.nd rfl (Or.inl rfl)) (@je _ _ _ (zd (qz (j5 (j7 (pv 0) rfl) T.zf T.XD (ZW T) hr.dn T.XE .nil jn (@y3 _ _ _ _ _ (pv 1) (pv 3) rfl rfl))) (@je _ _ _ (j8 (j5 (pv 0) T.jh T.vf (Nx T) hr.dn T.w9 .nil jn (@y3 _ _ _ _ _ (ze (v:=.str "paper") rfl T.MV.choose_spec ⟨_,rfl⟩) (pv 3) rfl rfl)))) j6)))),?_⟩;have lx:xs.length=os.length:=Paired.length px;refine⟨_,rfl,r,rfl,⟨_,ag.of hx⟩,nF (K:=K) (a:=r) (xs:=xs) (λi U H'=>∃v Z',U=[some (.ref W.x),some (.int h),some (.ref r),v]/\qk t H' Z' id W (Y.zg h (os.take i))/\Fr (qI id) Z H Z' H'/\ax Z' H') ⟨none,Z,rfl,O,Fr.refl,kr⟩ (λi U H' _ ⟨_,Z',_,_,f,_⟩=>ag.of (f _ _ hx nr).1) ?_ ?_⟩
 .rintro i x U H1 ex ⟨v,Z1,rfl,O1,f1,bK⟩
  obtain⟨o,eo,uo⟩:=qd px ex;have uo1:=uo.fr f1;obtain⟨q,rfl,nq,hq⟩:=uo1;have hi:=(List.getElem?_eq_some_iff.mp eo).1;have z1:=sz.zg h (os:=os) i (by omega);rw[Nz Y h eo];generalize Y.zg h (os.take i)=Y1 at O1 z1⊢;obtain⟨rb,rS,kvs,Bq,sg⟩:=O1.bd;have ek:qb (aY Y1.bd) (bJ o)=jq Y1.bd (za o):=wd (za o) Y1.bd;have lk:kvs.length<=1000:=by rw[Paired.length Bq.hs,aY,length_map];have:=z1.bd;omega
  have lh:=z1.hl (za o);refine⟨_,rfl,W.x,_,W.dx,_,_,rfl,O1.ob.1,T.jh,T.qr,mL,W.bd,W.db,_,rfl,Bq.ob,lq _ _ (by decide+kernel) (by decide+kernel),_,rfl,_,rfl,W.bd,W.db,W.S,Y1.en,kvs,aY Y1.bd,q,bJ o,h,rfl,Bq,hq,lk,by rw[ek];omega,λhm H2 s2=>?_,λhm bD H2 B2 k2 GJ=>?_⟩
  .rw[ek]at hm;refine⟨_,rfl,vd ⟨_,Z1,rfl,?_,f1.trans (Fr.same s2),bK.same s2⟩⟩;have e:Y1.bE h o=Y1:=by
    unfold Wd.bE Wd.put;rw[if_pos hm];rfl
   rw[e];exact O1.fr (P:=λ_=>False) (λ_ z=>z) (Fr.same s2)
  .rw [ek]at hm;rw[ek];have GK:∀{a:Addr},(∃kv∈kvs,kv.2= .ref a)->Z1 a=some (id,.sg):=λ{a} ⟨kv,m,e⟩=>by
    obtain⟨c,ec,rc⟩:=sg kv m;rw[e]at ec;cases ec;exact rc
   have f2:Fr (qI id) Z1 H1 (jO Z1 id kvs bD) H2:=λa u e n=>by have n1:¬∃kv∈kvs,kv.2= .ref a:=λz=>n _ (GK z) (.inr (.inr rfl));have n2:NotIn kvs a:=λkv m e=>n1 ⟨kv,m,e⟩;have n3:¬∃kv∈bD,kv.2= .ref a:=λ⟨kv,m,e'⟩=>GJ a u e n2 kv m e';refine⟨k2 a u e (λz=>n _ (z ▸ rS) (.inr (.inl rfl))) n2,?_⟩;unfold jO;rw[if_neg n3,if_neg n1]
   have bR:ax (jO Z1 id kvs bD) H2:=λa ro e=>by
    unfold jO at e;split at e
    .rename_i yJ;obtain⟨kv,m,ev⟩:=yJ;obtain⟨j,hj,ej⟩:=mem_iff_getElem.mp m;obtain⟨pp,_,_,c,ec,hc⟩:=qd B2.hs (by rw[getElem?_eq_getElem hj,ej]);rw[ev]at ec;cases ec;exact⟨_,hc,True.intro⟩
    .split at e
     .cases e
     .rename_i n1;obtain⟨u,hu,nu⟩:=bK a ro e;by_cases z:a=W.S
      .subst z;exact⟨_,B2.sg,True.intro⟩
      .exact⟨u,k2 a u hu z (λkv m e=>n1 ⟨kv,m,e⟩),nu⟩
   have O2:qk t H2 (jO Z1 id kvs bD) id W {Y1 with bd:=cP Y1.bd (za o) h}:=by
    refine O1.but f2 _ (oM (by intro z;cases z) (by intro z;cases z) (by intro z;cases z)) rfl rfl (fX f2 (oM (by intro z;cases z) (by intro z;cases z) (by intro z;cases z)) λ_ _=>oM (by intro z;cases z) (by intro z;cases z) (by intro z;cases z)) (λAc Ae _=>?_) (lF f2 (oM (by intro z;cases z) (by intro z;cases z) (by intro z;cases z)) λ_=>oM (by intro z;cases z) (by intro z;cases z) (by intro z;cases z)) (λcy oJ=>?_)
    .have e:=Nv (za o) h Y1.bd;rw[show bX (za o)=bJ o from rfl]at e;rw[e]at B2;have nS:∀{a:Addr}{r:Role}{u:HO},Z1 a=some r->H1 a=some u->r≠(id,.sg)->jO Z1 id kvs bD a=some r:=λ{a r u} er eu n=>by
      have n1:¬∃kv∈kvs,kv.2= .ref a:=λz=>n (Option.some.inj (er.symm.trans (GK z)));have n3:¬∃kv∈bD,kv.2= .ref a:=λ⟨kv,m,e'⟩=>GJ a u eu (λkv m e=>n1 ⟨kv,m,e⟩) kv m e';unfold jO;rw[if_neg n3,if_neg n1];exact er
     refine⟨nS rb Bq.ob (by intro z;cases z),nS rS Bq.sg (by intro z;cases z),bD,B2,λkv m=>?_⟩;obtain⟨j,hj,ej⟩:=mem_iff_getElem.mp m;obtain⟨pp,_,_,c,ec,hc⟩:=qd B2.hs (by rw[getElem?_eq_getElem hj,ej]);refine⟨c,ec,?_⟩;unfold jO;rw[if_pos ⟨kv,m,ec⟩]
    .obtain⟨ws,h1,p1⟩:=oJ;have n1:¬∃kv∈kvs,kv.2= .ref W.wy:=λz=>by
      have:=GK z;rw[cy]at this;cases this
     have n2:NotIn kvs W.wy:=λkv m e=>n1 ⟨kv,m,e⟩;have n3:¬∃kv∈bD,kv.2= .ref W.wy:=λ⟨kv,m,e'⟩=>GJ _ _ h1 n2 kv m e';refine⟨?_,ws,k2 _ _ h1 (eS cy rS (by intro z;cases z)) n2,Paired.ub p1 λ_ _=>cq.fr f2⟩;unfold jO;rw[if_neg n3,if_neg n1];exact cy
   have ev:Y1.put h o=({Y1 with bd:=cP Y1.bd (za o) h},decide (((jq Y1.bd (za o)).length:Int)+1=Y1.en)):=by unfold Wd.put;rw[if_neg hm]
   refine⟨_,rfl,bq (λz=>?_) (λz=>?_)⟩
   .have zp:=z1.put h o;rw[ev]at zp;have uV:zv H2 (jO Z1 id kvs bD) (.ref q) o:=zv.fr f2 ⟨q,rfl,nq,hq⟩;refine⟨_,rfl,W.x,W.dx,_,rfl,O2.ob.1,qy,_,rfl,_,id,W,_,false,q,o,rfl,O2,bR,uV,by show Y1.way.length<=100000;have:=z1.wy;omega,zp.ks,λH3 O3 f3 ie=>⟨_,_,rfl,?_,(f1.trans f2).trans (f3.mono λr hr=>.inl hr),ie⟩⟩;have e:Y1.bE h o=Wd.post {Y1 with bd:=cP Y1.bd (za o) h} false o:=by
     unfold Wd.bE;rw[ev,if_pos z]
    rw[e];exact O3
   .refine⟨_,_,rfl,?_,f1.trans f2,bR⟩;have e:Y1.bE h o={Y1 with bd:=cP Y1.bd (za o) h}:=by
     unfold Wd.bE;rw[ev,if_neg z]
    rw[e];exact O2
 .rintro U H1 ⟨v,Z1,rfl,O1,f1,bK⟩
  rw[lx,take_length]at O1;exact k Z1 H1 O1 f1 bK
theorem Ag (ks:List (Int×Kp))(h:Int)(B:Kp):(bY ks h B).length=ks.length:=length_map ..
theorem NB {t:Ad}{H:Hp}{Z:aq}{id:Nat}{h:Int}{B:Kp}:∀{kvs:List (Key×V)}{ks:List (Int×Kp)},xx t H Z id kvs ks->(ks.find? λc=>decide (c.1=h)).map (·.2)=some B->∃k A dk,aX kvs (.inl h)=some (.ref k)/\xn t H Z id h k A dk B:=λ{kvs ks} q e=>by
 unfold xx at q;induction q with
 |nil=>cases e
 |@cons kv c kvs ks a r ih=>
  obtain⟨e1,k,A,dk,e2,R⟩:=a;by_cases z:c.1=h
  .rw[find?_cons,decide_eq_true z]at e;obtain rfl:c.2=B:=Option.some.inj e;subst z;exact⟨k,A,dk,by rw[iz (by rw[e1]),e2],R⟩
  .rw[find?_cons,decide_eq_false z]at e;obtain⟨k',A',dk',v,R'⟩:=ih e;exact⟨k',A',dk',by rw[uj (λy=>z (Sum.inl.inj (e1.symm.trans y)))];exact v,R'⟩
theorem j0x {t:Ad}{H H':Hp}{Z Z':aq}{id:Nat}{h:Int}{κ':Kp}{k:Addr}{A':Nat->Addr}{dk:Addr}(f:Fr (bp id h) Z H Z' H')(R':xn t H' Z' id h k A' dk κ'):∀{kvs:List (Key×V)}{ks:List (Int×Kp)},(ks.map (·.1)).Nodup->aX kvs (.inl h)=some (.ref k)->xx t H Z id kvs ks->xx t H' Z' id kvs (bY ks h κ'):=λ{kvs ks} nd ev q=>by
 unfold xx at q;induction q with
 |nil=>exact .nil
 | @cons kv c kvs ks a r ih=>
  obtain⟨e1,k0,A,dk0,e2,R⟩:=a;rw[map_cons,nodup_cons]at nd;show Paired _ (kv::kvs) ((if c.1=h then(h,κ')else c)::bY ks h κ');have oth:∀{kvs:List (Key×V)}{ks:List (Int×Kp)},h∉ks.map (·.1)->xx t H Z id kvs ks->xx t H' Z' id kvs (bY ks h κ'):=λ{kvs ks} nh q=>by
   induction q with
   |nil=>exact .nil
   |cons a _ ih=>rename_i b _ _ _;rw[map_cons,mem_cons]at nh;obtain⟨x1,x2,x3,x4,x5,x6⟩:=a;have nb:¬b.1=h:=λz=>nh (.inl z.symm);show Paired _ (_::_) ((if b.1=h then(h,κ')else b)::bY _ h κ');rw[if_neg nb];exact .cons ⟨x1,x2,x3,x4,x5,x6.fr (λi ⟨j,e⟩=>nb (by cases e;rfl)) f⟩ (ih λz=>nh (.inr z))
  by_cases z:c.1=h
  .subst z;rw[if_pos rfl];rw[iz (by rw[e1])]at ev;exact .cons ⟨e1,k,A',dk,Option.some.inj ev,R'⟩ (oth nd.1 r)
  .rw[if_neg z];refine .cons ⟨e1,k0,A,dk0,e2,R.fr (λi ⟨j,e⟩=>z (by cases e;rfl)) f⟩ (ih nd.2 ?_);rw[uj (λy=>z (Sum.inl.inj (e1.symm.trans y)))]at ev;exact ev
theorem qk.NC {t:Ad}{H H':Hp}{Z Z':aq}{id:Nat}{W:WA}{Y:Wd}{h:Int}{κ':Kp}{k:Addr}{A':Nat->Addr}{dk:Addr}(f:Fr (bp id h) Z H Z' H')(O:qk t H Z id W Y)(nd:(Y.ks.map (·.1)).Nodup)(ek:∀kvs,H W.kd=some (.dK kvs)->aX kvs (.inl h)=some (.ref k))(R':xn t H' Z' id h k A' dk κ'):qk t H' Z' id W {Y with ks:=bY Y.ks h κ'}:=by have no:∀{p:Part},(∀i,p≠.kp h i)->¬bp id h (id,p):=λhp ⟨i,e⟩=>hp i (Prod.mk.inj e).2;refine O.but f _ (no λ_ z=>by cases z) rfl rfl (λrk hk=>?_) (ik f (no λ_ z=>by cases z) (no λ_ z=>by cases z) (no λ_ z=>by cases z)) (lF f (no λ_ z=>by cases z) λ_=>no λ_ z=>by cases z) (GC f (no λ_ z=>by cases z));obtain⟨kvs,h1,q⟩:=hk;obtain⟨h2,r2⟩:=cV f h1 rk (no λ_ z=>by cases z);exact⟨r2,kvs,h2,j0x f R' nd (ek kvs h1) q⟩
theorem ug (T:Txt K mg t):xm P w K mg base CX0 2 t.ET t.EU ["self","house"] (λvs H Q _=>∃Z id W Y h B,vs=[.ref W.x,.int h]/\qk t H Z id W Y/\Y.keep h=some B/\∀k A dk,xn t H Z id h k A dk B->Q (.ref k) H):=by
 refine T.Yo.aZ (N:=["self","house"]) λ_ A _ s H vs Q E hr h=>?_;obtain⟨Z,id,W,Y,h,B,rfl,O,e,g⟩:=h;refine⟨_,(@jb _ _ _ _ _ (zd (PW.pt (dF (zy (qz (jo (zS T) hr.dn rfl T.zM T.uG.kp T.zN .nil jn (jc (pv 1) jf)))) (dS (wD (Cm (fR hr) (pv 1) (j7 (pv 0) rfl)))))) qm j6) (@je _ _ _ (j3 (J9 (fR hr) (j7 (pv 0) rfl) (pv 1) (λ_ _=>rfl))))),?_⟩;obtain⟨rk,kvs,hk,ks⟩:=O.kd;obtain⟨k,A',dk,ev,R⟩:=NB ks e;refine⟨_,rfl,h,rfl,_,rfl,vd ?_⟩;refine⟨_,rfl,_,rfl,W.x,_,W.dx,_,_,rfl,O.ob.1,T.jh,T.qv,qF,W.kd,some (.ref k),rfl,.inl ⟨kvs,.inl h,.inl hk,rfl,ev.symm⟩,_,rfl,vd ?_⟩;exact⟨_,rfl,W.x,_,W.dx,_,_,rfl,O.ob.1,T.jh,T.qv,qF,_,rfl,W.kd,.ref k,rfl,.inl ⟨kvs,.inl h,.inl hk,rfl,ev.symm⟩,g k A' dk R⟩
theorem gd (T:Txt K mg t):xm P w K mg base CX0 3 t.ky t.kz ["self","purse"] (λvs H Q _=>∃Z id W Y p,vs=[.ref W.x,.int p]/\qk t H Z id W Y/\0<=p/\p<(Y.n:Int)/\Q .aj H):=by refine T.Yu.aZ (N:=["self","purse"]) λ_ A _ s H vs Q E hr h=>?_;obtain⟨Z,id,W,Y,p,rfl,O,p0,p1,g⟩:=h;refine⟨_,(@je _ _ _ (zd (zy (qz (jo (qt T) hr.dn rfl T.qu T.qq.kp T.qw .nil jn (@bW _ _ _ _ _ _ _ (pv 1) jk (xc gU (j7 (pv 0) rfl) jk) rfl rfl rfl)))) qm j6)),?_⟩;refine⟨_,rfl,_,rfl,W.x,_,W.dx,_,_,rfl,O.ob.1,T.jh,T.vg,Gw,_,_,rfl,rfl,p,0,(Y.n:Int)-1,rfl,_,rfl,?_⟩;rw[decide_eq_true (show 0<=p/\p<=(Y.n:Int)-1 from⟨p0,by omega⟩)];exact vd g
theorem jje (T:Txt K mg t):xm P w K mg base (cT P w) 4 t.pe t.pz ["self","purse","goal"] (λvs H Q E=>∃Z id W Y p q,vs=[.ref W.x,.int p,.int q]/\qk t H Z id W Y/\(0<=p/\p<(Y.n:Int))/\(0<=q/\q<(Y.n:Int))/\q≠p/\(p∈Y.gf->∀d H',xp H H'->E (.ref t.xj) (some d) H')/\(p∉Y.gf->Q .aj H)):=by
 refine T.Yv.VL (N:=["self","purse","goal"]) λ_ A _ s H vs Q E hr h=>?_;obtain⟨Z,id,W,Y,p,q,rfl,O,hp,hq,nq,gx,g⟩:=h;refine⟨_,(@jb _ _ _ _ _ (j8 (j5 (pv 0) T.jh T.x9 (gd T) hr.dn T.yu .nil jn (jc (pv 1) jf))) (@jb _ _ _ _ _ (j8 (j5 (pv 0) T.jh T.x9 (gd T) hr.dn T.yu .nil jn (jc (pv 2) jf))) (@je _ _ _ (zd (PW.pt (dF (jw BZ (pv 1) (j7 (pv 0) rfl) (by with_unfolding_all rfl)) (dS (jw fK (pv 2) (pv 1) (qc _))))) (@je _ _ _ (VW rfl T.MZ T.Mu (jkd T) hr.dn T.Xn (jc (pv 1) jf))) j6)))),?_⟩;refine⟨_,rfl,W.x,W.dx,_,rfl,O.ob.1,qy,_,rfl,Z,id,W,Y,p,rfl,O,hp.1,hp.2,?_⟩;refine⟨_,rfl,W.x,W.dx,_,rfl,O.ob.1,qy,_,rfl,Z,id,W,Y,q,rfl,O,hq.1,hq.2,?_⟩;refine⟨_,rfl,_,rfl,W.x,_,W.dx,_,_,rfl,O.ob.1,T.jh,T.yc,Gx,W.ch,_,rfl,.inl (ag.of O.ch.1),rfl,vq _,_,rfl,?_⟩;refine bq (λz=>?_) (λz=>?_)
 .rw[if_neg (by decide),ya]at z;refine bM ⟨_,rfl,oB,λea mD=>⟨ea,_,rfl,ja,λd hd=>?_⟩⟩;obtain⟨g1,g2,g3,g4⟩:=j95 (Yq:=oq ea t.xj d) (Zq:=.xd [("purse",.int p)]) mD hd;exact⟨rfl,d,g2,gx (of_decide_eq_true z) d _ g3⟩
 .rw[if_neg (by decide),ya]at z;refine⟨_,rfl,_,rfl,rfl,_,rfl,bq (λy=>?_) (λ_=>g λy=>z (decide_eq_true y))⟩;exact absurd (V.int.inj (of_decide_eq_true y)) nq
theorem x8 (T:Txt K mg t):xm P w K mg base CX0 5 t.pf t.ku ["self","order"] (λvs H Q _=>∃Z id W Y q o,vs=[.ref W.x,.ref q]/\qk t H Z id W Y/\H q=some (.tup (bI o))/\y4 Y.n o=true/\Q .aj H):=by refine T.Yy.aZ (N:=["self","order"]) λ_ A _ s H vs Q E hr h=>?_;obtain⟨Z,id,W,Y,q,o,rfl,O,hq,ho,g⟩:=h;refine⟨_,(@je _ _ _ (zd (zy (qz (gu (zT T) hr.dn rfl T.zO T.uH.kp T.FQ jn (jc (pv 1) jf) (yn (j7 (pv 0) rfl) gH)))) qm j6)),?_⟩;refine⟨_,rfl,_,rfl,W.x,_,W.dx,_,_,rfl,O.ob.1,T.jh,T.vg,Gw,q,o,(Y.n:Int),rfl,hq,_,rfl,?_⟩;rw[ho];exact vd g
theorem jpl (T:Txt K mg t):xm P w K mg base CX0 1 t.EL t.EM ["self"] (λvs H Q _=>∃Z id W Y,vs=[.ref W.x]/\qk t H Z id W Y/\∀r,H r=none->Q (.ref r) (upd H r (.lst ((Y.ks.map (·.1)).map V.int)))):=by
 refine T.Yh.aZ (N:=["self"]) λ_ A _ s H vs Q E hr h=>?_;obtain⟨Z,id,W,Y,rfl,O,g⟩:=h;refine⟨_,(@je _ _ _ (j3 (uz (We rfl) rfl T.mH boot_list (jc (j7 (pv 0) rfl) jf)))),?_⟩;obtain⟨rk,kvs,hk,ks⟩:=O.kd;have e:(kvs.map λkv=>kV kv.1)=(Y.ks.map (·.1)).map V.int:=by
  clear hk;have gen:∀{kvs:List (Key×V)}{ks:List (Int×Kp)},xx t H Z id kvs ks->(kvs.map λkv=>kV kv.1)=(ks.map (·.1)).map V.int:=λ{kvs ks} q=>by
   induction q with
   |nil=>rfl
   |cons a _ ih=>rw[map_cons,map_cons,map_cons,ih,a.1];rfl
  exact gen ks
 refine⟨_,rfl,W.x,_,W.dx,_,_,rfl,O.ob.1,T.jh,T.qv,qF,W.kd,kvs,rfl,hk,λr nr=>?_⟩;rw[e];exact g r nr
theorem vh (T:Txt K mg t):xm P w K mg base CX0 3 t.EN t.EO ["self"] (λvs H Q _=>∃Z id W Y,vs=[.ref W.x]/\qk t H Z id W Y/\Y.bd.length<64/\(Y.bd.map (·.1)).Nodup/\(∀x∈Y.bd,x.1≠[])/\∀(r:Addr)(bh:List V)(cF:List (List Int))(H':Hp),H r=none->xp H H'->cF.Perm (zk Y.bd Y.en)->cF.Pairwise (λa b=>HT.lexLt a b=true)->Paired (eF H') bh cF->H' r=some (.lst bh)->Q (.ref r) H'):=by
 refine T.Yk.aZ (N:=["self"]) λ_ A _ s H vs Q E hr h=>?_;obtain⟨Z,id,W,Y,rfl,O,l,nd,ne,g⟩:=h;refine⟨_,(@je _ _ _ (j3 (yq (j7 (pv 0) rfl) T.zf T.XG (ZY T) hr.dn T.XH .nil jn))),?_⟩;obtain⟨rb,rS,kvs,Bq,sg⟩:=O.bd;have lk:kvs.length<64:=by rw[Paired.length Bq.hs,aY,length_map];exact l
 exact⟨_,rfl,W.x,_,W.dx,_,_,rfl,O.ob.1,T.jh,T.qr,mL,W.bd,W.db,_,rfl,Bq.ob,lq _ _ (by decide+kernel) (by decide+kernel),W.bd,W.db,W.S,Y.en,kvs,Y.bd,rfl,Bq,lk,nd,ne,g⟩
theorem jq6 (T:Txt K mg t):xm P w K mg base CX0 6 t.E5 t.E6 ["self","order","house"] (λvs H Q _=>∃Z id W Y q o h B,vs=[.ref W.x,.ref q,.int h]/\qk t H Z id W Y/\ax Z H/\zv H Z (.ref q) o/\y4 Y.n o=true/\o.p∈Y.gf/\Y.keep h=some B/\Y.way.length<=100000/\∀H',qk t H' Z id W {Y with way:=Y.way++[(true,h,o)]}->Fr (eT id .wy) Z H Z H'->ax Z H'->Q .aj H'):=by
 refine T.YF.aZ (N:=["self","order","house"]) λ_ A _ s H vs Q E hr h=>?_;obtain⟨Z,id,W,Y,q,o,h,B,rfl,O,kr,uq,ho,oc,ek,l,g⟩:=h;refine⟨_,(@jb _ _ _ _ _ (j8 (j5 (pv 0) T.jh T.zw (x8 T) hr.dn T.xk .nil jn (jc (pv 1) jf))) (@jb _ _ _ _ _ (zd (jw wZ (kl fP (pv 1) jk (λ_ _=>rfl)) (j7 (pv 0) rfl) (by with_unfolding_all rfl)) qm j6) (@jb _ _ _ _ _ (j8 (j5 (pv 0) T.jh T.y8 (ug T) hr.dn T.wj .nil jn (jc (pv 2) jf))) (@je _ _ _ (j8 (dZ PySem.F.plainAttrs_list PySem.F.slot_list_append PySem.F.type_list_append yh (j7 (pv 0) rfl) (jc (@gG _ _ _ _ _ (@bW _ _ _ _ _ _ _ (ze (v:=.str "order") rfl T.Ga.choose_spec ⟨_,rfl⟩) (pv 2) (pv 1) rfl rfl rfl)) jf))))))),?_⟩;have uW:=uq;obtain⟨_,eq,nq,hq⟩:=uW;cases eq;refine⟨_,rfl,W.x,W.dx,_,rfl,O.ob.1,qy,_,rfl,Z,id,W,Y,q,o,rfl,O,hq,ho,?_⟩;refine⟨_,rfl,q,bI o,0,.int o.p,rfl,rfl,aw.of hq,rfl,_,rfl,W.x,_,W.dx,_,_,rfl,O.ob.1,T.jh,T.yc,Gx,W.ch,_,rfl,.inl (ag.of O.ch.1),rfl,vq _,_,rfl,?_⟩;rw[if_pos rfl,ya,decide_eq_true oc];refine vd ?_;refine⟨_,rfl,W.x,W.dx,_,rfl,O.ob.1,qy,_,rfl,Z,id,W,Y,h,B,rfl,O,ek,λk A' dk R=>?_⟩;obtain⟨dM,xs,hw,pw⟩:=O.wy;refine⟨_,rfl,W.x,_,W.dx,_,_,rfl,O.ob.1,T.jh,T.zi,qG,.inl ⟨rfl,_,ag.of hw⟩,_,rfl,_,rfl,kY,λp np=>?_⟩;have sp:=jg (o:=.tup [.str "order",.int h,.ref q]) np;have lx:xs.length<=1000000:=by rw[Paired.length pw];omega
 refine⟨W.wy,xs,.ref p,rfl,rfl,sp _ _ hw,big lx,?_⟩;have O1:=O.fr (P:=λ_=>False) (λ_ z=>z) (Fr.same sp);have bK:=kr.same sp;have f2:Fr (eT id .wy) Z (upd H p (.tup [.str "order",.int h,.ref q])) Z (upd (upd H p (.tup [.str "order",.int h,.ref q])) W.wy (.lst (xs++[.ref p]))):=Fr.put dM rfl;have f0:Fr (eT id .wy) Z H Z (upd H p (.tup [.str "order",.int h,.ref q])):=Fr.same sp;refine g _ (O1.but f2 _ jy rfl rfl (fX f2 jy (λ_ _=>jy)) (ik f2 jy jy jy) (lF f2 jy (λ_=>jy)) (λ_ _=>⟨dM,_,ja,?_⟩)) (f0.trans f2) bK.put;have lC:=kr.none np;refine qo (Paired.ub pw λ_ _=>cq.fr (f0.trans f2)) ⟨p,q,rfl,lC,?_,uq.fr (f0.trans f2)⟩;rw[jd (Aa lC dM),ja];rfl
theorem jt6 {α β:Type}{F:α->β->Prop}{xs:List α}{ys:List β}{j:Nat}(h:Paired F xs ys):Paired F (xs.eraseIdx j) (ys.eraseIdx j):=Gs h
structure ND (B:Kp)(m:Nat):Prop where
 hd:B.de.length<=m
 uc:B.aH.length+B.cho.length<=m
 dw:B.done.length+B.wait.length<=m
theorem jsw (T:Txt K mg t):xm P w K mg base CX0 8 t.Fc t.Fd ["self","at"] (λvs H Q _=>∃Z id W Y i l B a b c,vs=[.ref W.x,.int (i:Nat)]/\qk t H Z id W Y/\ax Z H/\Y.way[i]?=some l/\Y.keep l.2.1=some B/\(Y.ks.map (·.1)).Nodup/\B.Ok Y.n/\Y.n<=8/\y4 Y.n l.2.2=true/\ND B 900/\Sz Y a b c/\a+(B.take l.1 l.2.2).2.length<=1000/\b+(B.take l.1 l.2.2).2.length<=1000/\c+16*(B.take l.1 l.2.2).2.length<=100000/\∀Z' H' x,qk t H' Z' id W (Y.iX i l B)->Fr (λr=>r.1=id) Z H Z' H'->ax Z' H'->cq H' Z' x l->Q x H'):=by
 refine T.YM.cz wa λ_ A _ s H vs Q E hr h=>?_;obtain⟨Z,id,W,Y,i,l,B,a,b,c,rfl,O,kr,el,ek,nd,af,n8,ho,qJ,sz,la,lb,lc,g⟩:=h;refine⟨_,(@jb _ _ _ _ _ (zd (zy (qz (jo (qt T) hr.dn rfl T.qu T.qq.kp T.qw .nil jn (@bW _ _ _ _ _ _ _ (pv 1) jk (xc gU (jm jt rfl T.ue boot_len (jc (j7 (pv 0) rfl) jf)) jk) rfl rfl rfl)))) qm j6) (@jb _ _ _ _ _ (qa (i:=2) wa.nd rfl (Or.inl rfl) (dZ PySem.F.plainAttrs_list PySem.F.slot_list_pop PySem.F.type_list_pop Rx (j7 (pv 0) rfl) (jc (pv 1) jf))) (@jb _ _ _ _ _ (kB (pv 2) (lX rfl (j9 (jv (i:=3) wa.nd rfl (Or.inl rfl)) (j9 (jv (i:=4) wa.nd rfl (Or.inl rfl)) (j9 (jv (i:=5) wa.nd rfl (Or.inl rfl)) lW))))) (@jb _ _ _ _ _ (qa (i:=6) wa.nd rfl (Or.inl rfl) (J9 (fR hr) (j7 (pv 0) rfl) (pv 4) (λ_ _=>rfl))) (@jb _ _ _ _ _ (zd (jw fK (pv 3) (ze (v:=.str "order") rfl T.Ga.choose_spec ⟨_,rfl⟩) (qc _)) (@je _ _ _ (j8 (j5 (pv 0) T.jh T.vc (GI T) hr.dn T.we .nil jn (@y3 _ _ _ _ _ (pv 4) (j5 (pv 6) T.jr T.X8 (jq1 T) hr.dn T.X9 .nil jn (jc (pv 5) jf)) rfl rfl)))) (@je _ _ _ (j8 (j5 (pv 0) T.jh T.vc (GI T) hr.dn T.we .nil jn (@y3 _ _ _ _ _ (pv 4) (j5 (pv 6) T.jr T.Yb (jji T) hr.dn T.Yc .nil jn (jc (pv 5) jf)) rfl rfl))))) (@je _ _ _ (j3 (pv 2)))))))),?_⟩;obtain⟨dM,xs,hw,pw⟩:=O.wy;have lx:xs.length=Y.way.length:=Paired.length pw;have hi:=(List.getElem?_eq_some_iff.mp el).1;have wl:=sz.wy;refine⟨_,rfl,_,rfl,W.x,_,W.dx,_,_,rfl,O.ob.1,T.jh,T.zi,qG,W.wy,xs,rfl,.inl (ag.of hw),_,_,rfl,rfl,(i:Int),0,(xs.length:Int)-1,rfl,_,rfl,?_⟩;rw[decide_eq_true (show 0<=(i:Int)/\(i:Int)<=(xs.length:Int)-1 by omega)];refine vd ?_;obtain⟨x,ex,ux⟩:=yH pw el;refine⟨_,rfl,W.x,_,W.dx,_,_,rfl,O.ob.1,T.jh,T.zi,qG,.inl ⟨rfl,_,ag.of hw⟩,_,rfl,W.wy,xs,(i:Int),i,x,rfl,rfl,hw,by omega,by omega,?_,ex,?_⟩
 .unfold seqIndex?;simp;omega
 have f1:Fr (eT id .wy) Z H Z (upd H W.wy (.lst (xs.eraseIdx i))):=Fr.put dM rfl;have O1:qk t (upd H W.wy (.lst (xs.eraseIdx i))) Z id W {Y with way:=Y.way.eraseIdx i}:=O.but f1 _ jy rfl rfl (fX f1 jy (λ_ _=>jy)) (ik f1 jy jy jy) (lF f1 jy (λ_=>jy)) (λ_ _=>⟨dM,_,ja,jt6 (Paired.ub pw λ_ _=>cq.fr f1)⟩);have bK:=kr.put (a:=W.wy) (o:=.lst (xs.eraseIdx i));have NF:=ux.fr f1;generalize upd H W.wy (.lst (xs.eraseIdx i))=H1 at f1 O1 bK NF;obtain⟨la',q,rfl,nl,hl,uq⟩:=NF;refine⟨_,rfl,la',_,rfl,aw.of hl,rfl,_,_,rfl,_,_,rfl,_,_,rfl,rfl,?_⟩;obtain⟨rk,kvs,hk,ks⟩:=O1.kd;obtain⟨k,A',dk,ev,R⟩:=NB ks ek;refine⟨_,rfl,W.x,_,W.dx,_,_,rfl,O1.ob.1,T.jh,T.qv,qF,_,rfl,W.kd,.ref k,rfl,.inl ⟨kvs,.inl l.2.1,.inl hk,rfl,ev.symm⟩,?_⟩;obtain⟨wb,h,o⟩:=l;cases wb with
 |true=>
  refine⟨_,rfl,rfl,_,rfl,bM ?_⟩;refine⟨_,rfl,W.x,W.dx,_,rfl,O1.ob.1,qy,_,rfl,_,rfl,k,dk,_,rfl,R.ob,fE A',_,rfl,Z,id,h,k,A',dk,B,Y.n,q,o,rfl,R,uq,af,n8,ho,qJ.hd,qJ.uc,qJ.dw,bK,λZ2 H2 A2 r ys R2 f2 bR rr lG pr=>?_⟩;have O2:=O1.NC f2 nd (λbD fU=>by rw[hk]at fU;cases fU;exact ev) R2;have z2:Sz {{Y with way:=Y.way.eraseIdx i}with ks:=bY Y.ks h (Kp.oE B o).1} a b c:=⟨sz.bd,sz.hs,le_trans (length_eraseIdx_le _ _) sz.wy,by show(bY _ _ _).length<=16;rw[Ag];exact sz.ks⟩;refine⟨Z2,id,W,_,h,r,ys,(Kp.oE B o).2,a,b,c,rfl,O2,bR,lG,λro e=>?_,pr,z2,la,lb,lc,λZ3 H3 O3 f3 ie=>?_⟩
  .rw[rr]at e;cases e;exact oM (by intro z;cases z) (by intro z;cases z) (by intro z;cases z)
  .have fr:Fr (λr=>r.1=id) Z H Z3 H3:=((f1.mono λr hr=>by rw[hr]).trans (f2.mono λr ⟨j,hr⟩=>by rw[hr])).trans (f3.mono λr hr=>by rcases hr with hr|hr|hr<;>rw[hr]);exact⟨_,rfl,g Z3 H3 _ O3 fr ie (cq.fr fr ux)⟩
 |false=>
  refine⟨_,rfl,rfl,_,rfl,vd ?_⟩;refine⟨_,rfl,W.x,W.dx,_,rfl,O1.ob.1,qy,_,rfl,_,rfl,k,dk,_,rfl,R.ob,fE A',_,rfl,Z,id,h,k,A',dk,B,Y.n,q,o,rfl,R,uq,af,n8,ho,qJ.hd,qJ.uc,qJ.dw,bK,λZ2 H2 A2 r ys R2 f2 bR rr lG pr=>?_⟩;have O2:=O1.NC f2 nd (λbD fU=>by rw[hk]at fU;cases fU;exact ev) R2;have z2:Sz {{Y with way:=Y.way.eraseIdx i}with ks:=bY Y.ks h (Kp.jN B o).1} a b c:=⟨sz.bd,sz.hs,le_trans (length_eraseIdx_le _ _) sz.wy,by show(bY _ _ _).length<=16;rw[Ag];exact sz.ks⟩;refine⟨Z2,id,W,_,h,r,ys,(Kp.jN B o).2,a,b,c,rfl,O2,bR,lG,λro e=>?_,pr,z2,la,lb,lc,λZ3 H3 O3 f3 ie=>?_⟩
  .rw[rr]at e;cases e;exact oM (by intro z;cases z) (by intro z;cases z) (by intro z;cases z)
  .have fr:Fr (λr=>r.1=id) Z H Z3 H3:=((f1.mono λr hr=>by rw[hr]).trans (f2.mono λr ⟨j,hr⟩=>by rw[hr])).trans (f3.mono λr hr=>by rcases hr with hr|hr|hr<;>rw[hr]);exact⟨_,rfl,g Z3 H3 _ O3 fr ie (cq.fr fr ux)⟩
noncomputable def Kp.qK (B:Kp)(p:Int)(os:List O):Int:=gI B.held p-((os.filter λo=>!B.past o).map λo=>o.m).sum
theorem jny (T:Txt K mg t):xm P w K mg base CX0 2 t.EC t.ED ["self","purse","orders"] (λvs H Q _=>∃Z id h k A dk B n p r xs os,vs=[.ref k,.int p,.ref r]/\xn t H Z id h k A dk B/\B.Ok n/\0<=p/\p<(n:Int)/\H r=some (.lst xs)/\Paired (zv H Z) xs os/\(∀o∈os,y4 (n:Nat) o=true)/\os.length<=1000/\∀H',xp H H'->Q (.int (B.qK p os)) H'):=by
 refine T.XZ.aZ (N:=["self","purse","orders"]) λ_ A _ s H vs Q E hr h=>?_;obtain⟨Z,id,h,k,A',dk,B,n,p,r,xs,os,rfl,R,af,p0,p1,hx,px,ho,ll,g⟩:=h;refine⟨_,(@je _ _ _ (j3 (xc gU (kl fO (j7 (pv 0) rfl) (pv 1) (λ_ _=>rfl)) (jm (Ko rfl) rfl T.M5 boot_sum (jc (iF (N':=["order","self"]) (ix:=[none,some 0]) (xq (by kernel_rfl)) rfl (@fJ _ _ _ _ (pv 2)) (λ_ _ _ _=>(jv (i:=0) WX rfl (Or.inl rfl) (.inr rfl))) (λ_ _ _ _=>(kN (zy (qz (j5 (pv 1) T.jr T.vz (Gj T) hr.dn T.FX .nil jn (jc (pv 0) jf)))))) (λ_ _ _ _=>(kl (xV (K:=K) rfl) (pv 0) jk (λ_ _=>rfl)))) jf))))),?_⟩;have e:=Gh (xs:=B.held) p0 (by rw[af.h];exact p1);refine⟨_,rfl,k,_,dk,_,_,rfl,R.ob,T.jr,T.yz,(xw A').1,_,rfl,A' 1,_,p,.int (gI B.held p),rfl,rfl,ag.of R.he,kZ p0 (by rw[getElem?_map,e];rfl),?_⟩;refine⟨_,rfl,r,rfl,⟨_,ag.of hx⟩,nY (K:=K) (a:=r) (xs:=xs) (λi ys U H'=>∃v,U=[v,some (.ref k)]/\H'=H/\ys=(((os.take i).filter λo=>!B.past o).map λo=>o.m).map V.int) ⟨none,rfl,rfl,rfl⟩ ?_ ?_ ?_⟩
 .rintro i ys U H' hi ⟨v,rfl,rfl,rfl⟩
  refine⟨ag.of hx,oC ?_⟩;rw[length_map,length_map];refine le_trans (length_filter_le _ _) ?_;rw[length_take];omega
 .rintro i x ys U H' ex ⟨v,rfl,rfl,rfl⟩
  obtain⟨o,eo,uo⟩:=qd px ex;obtain⟨q,rfl,hq⟩:=uo.ref;have om:o∈os:=mem_of_getElem? eo;refine⟨_,rfl,k,dk,_,rfl,R.ob,fE A',_,rfl,Z,id,h,k,A',dk,B,n,q,o,rfl,R,hq,ho o om,af.x,_,rfl,?_⟩;rw[take_snoc eo,filter_append,map_append,map_append];cases hp:B.past o with
  |true=>refine vd ⟨_,rfl,rfl,?_⟩;simp[hp]
  |false=>refine bM ⟨_,rfl,q,bI o,3,.int o.m,rfl,rfl,aw.of hq,rfl,_,rfl,rfl,?_⟩;simp[hp]
 .rintro ys U H' ⟨v,rfl,rfl,rfl⟩ l nl
  rw[Paired.length px,take_length];refine⟨l,_,rfl,ag.of ja,_,_,rfl,rfl,g _ (jg nl)⟩
noncomputable def Wd.carried (Y:Wd)(o:O):Bool:=decide (Y.en<=((jq Y.bd (za o)).length:Int))
theorem j7h {ns:List Int}{M:Int}(h1:M∈ns)(h2:∀a∈ns,a<=M):ns.max?=some M:=List.max?_eq_some_iff.mpr ⟨h1,h2⟩
noncomputable def Wd.asks (Y:Wd)(o:O)(row:List O):Wd:=Wd.post {Y with asked:=Y.asked.set o.p.toNat (row++[o])} true o
theorem j9b {a:Addr}{o:Obj}{kvs:List (Key×V)}{g:TG}{ti:TT}{te:TE}{U0:St}{H0:Hp}{Q:VK}(Pv:Nat->List V->St->Hp->Prop)(h0:Pv 0 [] U0 H0)(hl:∀i ys U H,i<=kvs.length->Pv i ys U H->H a=some (.aA o (.dK kvs))/\ys.length<=sizeLine)(hs:∀i kv ys U H,kvs[i]?=some kv->Pv i ys U H->g kv.2 U H λU2 H2=>ti U2 H2 λc H3=>if c=true then te U2 H3 λy H4=>Pv (i+1) (ys++[y]) U2 H4 else Pv (i+1) ys U2 H3)(hd:∀ys U H,Pv kvs.length ys U H->∀p,H p=none->Q (.ref p) (upd H p (.lst ys))):∃W:Nat->Nat->List V->St->Hp->Prop,(∃m,W 0 m [] U0 H0)/\∀i m ys U H,W i m ys U H->ys.length<=sizeLine/\(((sR a o kvs).stop i H/\nU Q ys H)\/((sR a o kvs).go i H/\∃N:List V->St->Hp->Prop,(∀bC U' H',N bC U' H'->∃m',m'<m/\W (i+1) m' bC U' H')/\∀x H',(sR a o kvs).du i H x H'->g x U H' λU2 H2=>ti U2 H2 λb H3=>if b=true then te U2 H3 λy H4=>N (ys++[y]) U2 H4 else N ys U2 H3)):=by
 refine⟨λi m ys U H=>m=kvs.length-i/\i<=kvs.length/\Pv i ys U H,⟨kvs.length,by simp,zero_le _,h0⟩,?_⟩
 rintro i m ys U H ⟨rfl,hi,p⟩
 obtain⟨q,hz⟩:=hl i ys U H hi p;refine⟨hz,?_⟩;by_cases az:i<kvs.length
 .refine .inr ⟨⟨az,q⟩,Pv (i+1),λbC U' H' p'=>⟨kvs.length-(i+1),by lia,rfl,az,p'⟩,λx H' y=>?_⟩;obtain⟨e,kv,ek,ex⟩:=y;subst e ex;exact hs i kv ys U _ ek p
 .have e:i=kvs.length:=by lia
  subst e;exact .inl ⟨⟨le_refl _,q⟩,hd ys U H p⟩
theorem j47 {H:Hp}{Z:aq}{xs:List V}{os:List O}{o:O}(p:Paired (zv H Z) xs os)(e:os.getLast?=some o):∃x,me xs (-1)=some x/\zv H Z x o:=by rw[List.getLast?_eq_getElem?]at e;obtain⟨x,ex,u⟩:=yH p e;have l:=Paired.length p;have lt:=(List.getElem?_eq_some_iff.mp e).1;refine⟨x,?_,u⟩;unfold me md;rw[if_neg (by decide),if_pos (by lia)];show xs[(-1+(xs.length:Int)).toNat]?=some x;rw[show(-1+(xs.length:Int)).toNat=os.length-1 by lia];exact ex
structure Wd.Ok (Y:Wd):Prop where
 n8:Y.n<=8
 al:Y.asked.length=Y.n
 ao:∀row∈Y.asked,(∀o∈row,y4 Y.n o=true)
 ks:∀c∈Y.ks,c.2.Ok Y.n
 nd:(Y.ks.map (·.1)).Nodup
 k0:0<Y.ks.length
 k1:Y.ks.length<=16
noncomputable def j8g (t:Ad):Sp:=λvs H Q E=>∃Z id W Y p g m row,vs=[.ref W.x,.int p,.int g,.int m]/\qk t H Z id W Y/\ax Z H/\Y.Ok/\(0<=p/\p<(Y.n:Int))/\(0<=g/\g<(Y.n:Int))/\g≠p/\(1<=m/\m<=1000)/\Y.asked[p.toNat]?=some row/\row.length<=90/\Y.way.length<=90000/\(p∈Y.gf->∀d H',xp H H'->E (.ref t.xj) (some d) H')/\(∀o,row.getLast?=some o->Y.carried o=false->∀H',xp H H'->E (.ref t.iS) none H')/\((∀o,row.getLast?=some o->Y.carried o=true)->∀M,(Y.ks.map λc=>c.2.qK p row).max?=some M->(M<m->∀H',xp H H'->E (.ref t.vk) none H')/\(m<=M->p∉Y.gf->∀H' q,qk t H' Z id W (Y.asks ⟨p,row.length,g,m⟩ row)->Fr (λr=>r.1=id) Z H Z H'->ax Z H'->zv H' Z (.ref q) ⟨p,row.length,g,m⟩->Q (.ref q) H'))
set_option maxHeartbeats 0 in
theorem NG (T:Txt K mg t) : xm P w K mg base (cT P w) 6 t.E3 t.E4 ["self","purse","goal","much"] (j8g t):=by
 refine T.YE.VJ DI λ_ A _ s H vs Q E hr h=>?_
 obtain ⟨Z,id,W,Y,p,g,m,row,rfl,O,kr,af,hp,hg,ng,hm,dC,GL,uX,e0,e1,e2⟩:=h
 refine ⟨_,(@jb _ _ _ _ _ (j8 (j5 (pv 0) T.jh T.Yw (jje T) hr.dn T.Yx .nil VI (@y3 _ _ _ _ _ (pv 1) (pv 2) rfl rfl)))
  (@jb _ _ _ _ _ (zd (zy (qz (jo (qt T) hr.dn rfl T.qu T.qq.kp T.qw .nil jn (@bW _ _ _ _ _ _ _ (pv 3) jk (ze (v:=.int 1000) rfl T.MT.choose_spec ⟨_,rfl⟩) rfl rfl rfl)))) qm j6)
  (@jb _ _ _ _ _ (qa (i:=4) DI.nd rfl (Or.inr rfl) (kl fO (j7 (pv 0) rfl) (pv 1) (λ_ _=>rfl)))
  (@jb _ _ _ _ _ (zd (PW.pt (dF (jw rC (jm jt rfl T.ue boot_len (jc (pv 4) jf)) (ze (v:=.int 99) rfl T.MU.choose_spec ⟨_,rfl⟩) (qc _)) (dS (PW.pt (jZ (Ju (pv 4) (λ_=>rfl)) (lS (zy (qz (j5 (j7 (pv 0) rfl) T.zf T.xl (yp T) hr.dn T.xt .nil jn (jc (kl fO (pv 4) (Qs Qx jk) (λ_ _=>rfl)) jf)))))))))) (@je _ _ _ (Ll rfl T.M3 T.Zz (jc wu jf))) j6)
  (@jb _ _ _ _ _ (zd (jw rC (pv 3) (jm (V7 rfl) rfl T.ZG boot_max (jc (CO (iF (N':=["keeper","purse","asked"]) (ix:=[none,some 1,some 4]) (xq (by kernel_rfl)) rfl (TX (JV PySem.F.plainAttrs_dict PySem.F.slot_dict_values PySem.F.type_dict_values TR (j7 (pv 0) rfl))) (λ_ _ _ _=>(jv (i:=0) WY rfl (Or.inl rfl) (.inr rfl))) (λ_ _ _ _=>se) (λ_ _ _ _=>(j5 (pv 0) T.jr T.X0 (jny T) hr.dn T.X1 .nil jn (@y3 _ _ _ _ _ (pv 1) (pv 2) rfl rfl))))) jf)) (qc _)) (@je _ _ _ (Ll rfl T.M0 T.Zv (jc wu jf))) j6)
  (@jb _ _ _ _ _ (@qa _ _ 5 _ _ _ _ DI.nd rfl (Or.inl rfl) (@gG _ _ _ _ _ (@Dx _ _ _ _ _ _ _ _ _ (pv 1) (jm jt rfl T.ue boot_len (jc (pv 4) jf)) (pv 2) (pv 3) rfl rfl rfl rfl)) (by rfl) (by first | exact .inl rfl | exact .inr rfl))
  (@jb _ _ _ _ _ (j8 (dZ PySem.F.plainAttrs_list PySem.F.slot_list_append PySem.F.type_list_append yh (pv 4) (jc (pv 5) jf)))
  (@jb _ _ _ _ _ (j8 (j5 (pv 0) T.jh T.vf (Nx T) hr.dn T.w9 .nil jn (@y3 _ _ _ _ _ (ze (v:=.str "order") rfl T.Ga.choose_spec ⟨_,rfl⟩) (pv 5) rfl rfl)))
  (@je _ _ _ (j3 (pv 5))))))))))),?_⟩
 obtain ⟨ra,rs,ha,eI⟩:=O.ak
 obtain ⟨r,er⟩ : ∃ r,rs[p.toNat]? = some r:=⟨_,getElem?_eq_getElem (by rw [eI.1]; exact (List.getElem?_eq_some_iff.mp dC).1)⟩
 obtain ⟨rr,xs,mO,px⟩:=eI.2 _ _ _ er dC
 obtain ⟨rk,kvs,NH,NI⟩:=O.kd
 have lk:kvs.length = Y.ks.length:=Paired.length NI
 have lx:xs.length = row.length:=Paired.length px
 refine aJ λN hN=>⟨_,rfl,W.x,W.dx,_,rfl,O.ob.1,qy,_,rfl,_,rfl,Z,id,W,Y,p,g,rfl,O,hp,hg,ng,e0,λnc=>?_⟩
 refine hN _ _ (aJ λN hN=>⟨_,rfl,m,1,1000,rfl,_,rfl,?_⟩)
 rw [decide_eq_true hm]
 refine vd ?_
 refine hN _ _ (aJ λN hN=>⟨_,rfl,W.x,_,W.dx,_,_,rfl,O.ob.1,T.jh,T.Ge,Nu,_,rfl,W.ak,_,p,.ref r,rfl,rfl,ag.of ha,kZ hp.1 (by rw [getElem?_map,er]; rfl),?_⟩)
 refine hN [some (.ref W.x),some (.int p),some (.int g),some (.int m),some (.ref r),none] _ (aJ λN hN=>⟨_,rfl,r,xs,rfl,.inl (ag.of mO),_,_,rfl,rfl,_,rfl,bq (λz=>absurd (of_decide_eq_true z) (by show ¬ (99:Int) < (xs.length:Int); omega)) (λ_=>?_)⟩)
 refine' (λkey=>_:(∀ HC,xp H HC -> (∀ o,row.getLast? = some o -> Y.carried o = true) -> (_:Hp -> Prop) HC) -> _) _
 rotate_left
 .cases eJ:row.getLast?
  case some o=>
   obtain ⟨x,ex,ux⟩:=j47 px eJ
   have x0:(!xs.isEmpty) = true:=by
    cases xs with
    | nil=>cases ex
    | cons _ _=>rfl
   refine ⟨_,rfl,true,.inl ⟨_,ag.of mO,x0.symm⟩,bM ?_⟩
   obtain ⟨q0,rfl,oH⟩:=ux.ref
   obtain ⟨rb,rS,fW,Bq,sg⟩:=O.bd
   refine ⟨_,rfl,W.x,_,W.dx,_,_,rfl,O.ob.1,T.jh,T.qr,mL,W.bd,W.db,_,rfl,Bq.ob,lq _ _ (by decide +kernel) (by decide +kernel),_,rfl,_,rfl,r,xs,-1,.ref q0,rfl,rfl,ag.of mO,ex,W.bd,W.db,W.S,Y.en,fW,aY Y.bd,q0,bJ o,rfl,Bq.rd,oH,λHC jP=>⟨_,rfl,?_⟩⟩
   have ec:decide (Y.en <= ((qb (aY Y.bd) (bJ o)).length:Int)) = Y.carried o:=by
    unfold Wd.carried
    rw [show qb (aY Y.bd) (bJ o) = jq Y.bd (za o) from wd (za o) Y.bd]
   rw [ec]
   cases hc : Y.carried o with
   | false=>exact bM ⟨oB,e1 o eJ hc _ jP⟩
   | true=>
    refine vd ?_
    have iY : ∀ o',row.getLast? = some o' -> Y.carried o' = true:=λo' e=>by rw [eJ] at e; cases e; exact hc
    exact key HC jP iY
  case none=>
   have e0:row = []:=List.getLast?_eq_none_iff.mp eJ
   have x0:xs = []:=List.length_eq_zero_iff.mp (by rw [lx,e0]; rfl)
   refine ⟨_,rfl,false,.inl ⟨_,ag.of mO,by rw [x0]; rfl⟩,vd ?_⟩
   have iY : ∀ o,row.getLast? = some o -> Y.carried o = true:=λo e=>by rw [eJ] at e; cases e
   exact key H (xp.refl _) iY
 .rintro HC jP iY
  have OC:=O.fr (P:=λ_=>False) (λ_ z=>z) (Fr.same jP)
  have kd:=jP _ _ NH
  have ksR:xx t HC Z id kvs Y.ks:=xx.fr (P:=λ_=>False) (Fr.same jP) (λ_ _ z=>z) NI
  have hrC:=jP _ _ mO
  have pxC:Paired (zv HC Z) xs row:=Paired.ub px λ_ _=>zv.fr (P:=λ_=>False) (Fr.same jP)
  refine hN _ _ (aJ λN hN=>⟨_,rfl,_,rfl,W.x,_,W.dx,_,_,rfl,OC.ob.1,T.jh,T.qv,qF,.inr (.inr (.inl ⟨rfl,.inl ⟨_,kd⟩⟩)),W.kd,kvs,rfl,rfl,kd,λvw Ah=>?_⟩)
  have sv:=jg (o:=jI vw W.kd) Ah
  have Ai:=sv _ _ kd
  have NJ:xx t (upd HC vw (jI vw W.kd)) Z id kvs Y.ks:=xx.fr (P:=λ_=>False) (Fr.same sv) (λ_ _ z=>z) ksR
  have qA:=sv _ _ hrC
  have NK:Paired (zv (upd HC vw (jI vw W.kd)) Z) xs row:=Paired.ub pxC λ_ _=>zv.fr (P:=λ_=>False) (Fr.same sv)
  have gv:upd HC vw (jI vw W.kd) vw = some (jI vw W.kd):=ja
  generalize upd HC vw (jI vw W.kd) = H1 at sv Ai NJ gv qA NK
  refine ⟨vw,W.kd,kvs,rfl,gv,Ai,λoo=>j9b (λi' ys U H'=>∃ v0,U = [v0,some (.int p),some (.ref r)] /\ xp (upd H1 W.kd (.aA oo (.dK kvs))) H' /\ ys = ((Y.ks.take i').map λc=>c.2.qK p row).map V.int) ⟨none,rfl,xp.refl _,rfl⟩ ?_ ?_ ?_⟩
  .rintro i' ys U H' hi ⟨v0,rfl,sm,rfl⟩
   refine ⟨sm _ _ ja,oC ?_⟩
   rw [length_map,length_map,length_take]
   have:=af.k1
   omega
  .rintro i' kv ys U H' ek ⟨v0,rfl,sm,rfl⟩
   obtain ⟨c,ec,e1,kk,A',dk,e2,R⟩:=qd NJ ek
   have cm:c ∈ Y.ks:=mem_of_getElem? ec
   rw [e2]
   have fz:Fr (eT id .kd) Z H1 Z H':=(Fr.put rk rfl:Fr (eT id .kd) Z H1 Z (upd H1 W.kd (.aA oo (.dK kvs)))).trans (Fr.same sm)
   have R':=R.fr (λf=>jy) fz
   have lG:=(cV fz qA rr jy).1
   have GN:Paired (zv H' Z) xs row:=Paired.ub NK λ_ _=>zv.fr fz
   dsimp only [eO,pM]
   rw [if_pos rfl]
   refine ⟨_,rfl,kk,dk,_,rfl,R'.ob,fE A',_,rfl,_,rfl,Z,id,c.1,kk,A',dk,c.2,Y.n,p,r,xs,row,rfl,R',af.ks c cm,hp.1,hp.2,lG,GN,af.ao row (mem_of_getElem? dC),by omega,λmJ bP=>⟨_,rfl,sm.trans bP,?_⟩⟩
   rw [take_snoc ec,map_append,map_append]
   rfl
  .rintro ys U H' ⟨v0,rfl,sm,rfl⟩ L nL
   rw [lk,take_length]
   have lH:=sm _ _ (ja (H:=H1) (a:=W.kd) (o:=.aA oo (.dK kvs)))
   have LD:L ≠ W.kd:=(ji lH nL).symm
   have SF:xp HC (upd (upd H' L (.lst ((Y.ks.map λc=>c.2.qK p row).map V.int))) W.kd (.dK kvs)):=λc u hc=>by
    have h1:=sv _ _ hc
    by_cases z:c = W.kd
    .subst z
     rw [Ai] at h1
     rw [ja,h1]
    .have i7:H' c = some u:=sm _ _ (by rw [jd z]; exact h1)
     rw [jd z,jd (ji i7 nL)]
     exact i7
   refine ⟨W.kd,oo,.dK kvs,(by rw [jd LD.symm]; exact lH),λo' u' z=>?_,True.intro,L,Y.ks.map λc=>c.2.qK p row,rfl,ag.of (by rw [jd LD]; exact ja),(by rw [length_map]; exact af.k0),λM hM hA=>?_⟩
   .have z':H W.kd = some (.aA o' u'):=z
    rw [NH] at z'
    cases z'
   obtain ⟨eM,qM⟩:=e2 iY M (j7h hM hA)
   refine ⟨_,_,rfl,rfl,_,rfl,bq (λz=>?_) (λz=>?_)⟩
   .exact ⟨oB,eM (of_decide_eq_true z) _ (jP.trans SF)⟩
   .have z' : m <= M:=by
     have : ¬ M < m:=λy=>z (decide_eq_true y)
     omega
    have sG:=jP.trans SF
    generalize upd (upd H' L (.lst ((Y.ks.map λc=>c.2.qK p row).map V.int))) W.kd (.dK kvs) = G at SF sG
    have OG:=O.fr (P:=λ_=>False) (λ_ z=>z) (Fr.same sG)
    have NL:=kr.same sG
    have NM:=sG _ _ mO
    have pxG:Paired (zv G Z) xs row:=Paired.ub px λ_ _=>zv.fr (P:=λ_=>False) (Fr.same sG)
    refine hN _ _ (aJ λN hN=>⟨_,rfl,_,rfl,r,xs,rfl,.inl (ag.of NM),_,rfl,_,rfl,Dw,λq nq=>?_⟩)
    have eo : [V.int p,.int xs.length,.int g,.int m] = bI ⟨p,row.length,g,m⟩:=by rw [lx]; rfl
    rw [eo]
    have s1:=jg (o:=.tup (bI ⟨p,row.length,g,m⟩)) nq
    have O1:=OG.fr (P:=λ_=>False) (λ_ z=>z) (Fr.same s1)
    have bK:=NL.same s1
    have oN:=s1 _ _ NM
    have uY:Paired (zv (upd G q (.tup (bI ⟨p,row.length,g,m⟩))) Z) xs row:=Paired.ub pxG λ_ _=>zv.fr (P:=λ_=>False) (Fr.same s1)
    have mK:zv (upd G q (.tup (bI ⟨p,row.length,g,m⟩))) Z (.ref q) ⟨p,row.length,g,m⟩:=⟨q,rfl,NL.none nq,ja⟩
    dsimp only
    generalize upd G q (.tup (bI ⟨p,row.length,g,m⟩)) = G1 at s1 O1 bK oN uY mK
    refine hN _ _ (aJ λN hN=>⟨_,rfl,.inl ⟨rfl,_,ag.of oN⟩,_,rfl,r,xs,.ref q,rfl,rfl,oN,xi (by omega),?_⟩)
    have f2:Fr (eT id (.row p.toNat)) Z G1 Z (upd G1 r (.lst (xs ++ [.ref q]))):=Fr.put rr rfl
    have O2 : qk t (upd G1 r (.lst (xs ++ [.ref q]))) Z id W { Y with asked:=Y.asked.set p.toNat (row ++ [⟨p,row.length,g,m⟩]) }:=by
     refine O1.but f2 _ jy rfl rfl (fX f2 jy (λ_ _=>jy)) (ik f2 jy jy jy) (λGA Gz=>?_) (GC f2 jy)
     obtain ⟨NN,h1,h2⟩:=Gz
     have eq':NN = rs:=by
      have h3:=s1 _ _ (sG _ _ ha)
      rw [h1] at h3
      have h4:=HO.lst.inj (Option.some.inj h3)
      exact (List.map_inj_right (λa b e=>V.ref.inj e)).mp h4
     subst eq'
     obtain ⟨h5,r5⟩:=cV f2 h1 GA jy
     refine ⟨r5,NN,h5,?_,λi r' os GO eR=>?_⟩
     .rw [length_set]
      exact h2.1
     .by_cases z:i = p.toNat
      .subst z
       have:r' = r:=by
        rw [er] at GO
        exact (Option.some.inj GO).symm
       subst this
       have lt:=(List.getElem?_eq_some_iff.mp dC).1
       rw [getElem?_set_self lt] at eR
       cases eR
       exact ⟨rr,_,ja,qo (Paired.ub uY λ_ _=>zv.fr f2) (mK.fr f2)⟩
      .rw [getElem?_set_ne (λy=>z y.symm)] at eR
       obtain ⟨q1,q2,q3,q4⟩:=h2.2 i r' os GO eR
       obtain ⟨q5,q6⟩:=cV f2 q3 q1 (jy (by intro y; cases y; exact z rfl))
       exact ⟨q6,q2,q5,Paired.ub q4 λ_ _=>zv.fr f2⟩
    have bR:=bK.put (a:=r) (o:=.lst (xs ++ [.ref q]))
    have qE:=mK.fr f2
    dsimp only
    generalize upd G1 r (.lst (xs ++ [.ref q])) = G2 at f2 O2 bR qE
    refine hN _ _ (aJ λN hN=>⟨_,rfl,W.x,W.dx,_,rfl,O2.ob.1,qy,_,rfl,Z,id,W,_,true,q,⟨p,row.length,g,m⟩,rfl,O2,bR,qE,by show Y.way.length <= 100000; omega,af.k1,λG3 O3 f3 ie=>hN _ _ ⟨_,rfl,?_⟩⟩)
    have fr:Fr (λr=>r.1 = id) Z H Z G3:=((Fr.same (sG.trans s1)).trans (f2.mono λr hr=>by rw [hr])).trans (f3.mono λr hr=>by rw [hr])
    exact qM z' nc G3 q O3 fr ie (qE.fr f3)
noncomputable def wm (K:W.Frag)(H:Hp)(a:Addr)(ks:List Int):Prop:=H a=some (.lst (ks.map V.int))\/(ks=[]/\aw K H a [])
noncomputable def jzo (K:W.Frag):Sp:=λvs H Q _=>∃a b,∃ks:List Int,vs=[.ref a,.int b]/\(H a=some (.lst (ks.map V.int))\/aw K H a (ks.map V.int))/\ks.Pairwise (·<·)/\(∀k∈ks,0<=k/\k<b)/\Q (.bl true) H
theorem NO (T:Txt K mg t):xm P w K mg base CX0 3 t.DT t.DU ["things","bound"] (jzo K):=by
  refine T.FR.cz zH λ_ A _ s H vs Q E hr h=>?_;obtain⟨a,b,ks,rfl,hc,up,rg,k⟩:=h;refine⟨_,(@jb _ _ _ _ _ (qa (i:=2) zH.nd rfl (Or.inl rfl) jk) (@jb _ _ _ _ _ (jA PassesOwn.never rfl (Vb (pv 0)) (jv (i:=3) zH.nd rfl (Or.inl rfl)) (@jb _ _ _ _ _ (zd (zy (qz (jo (qt T) hr.dn rfl T.qu T.qq.kp T.qw .nil jn (@bW _ _ _ _ _ _ _ (pv 3) (pv 2) (xc gU (pv 1) jk) rfl rfl rfl)))) (@je _ _ _ (j3 eN)) j6) (@je _ _ _ (qa (i:=2) zH.nd rfl (Or.inl rfl) (xc gC (pv 3) jk))))) (@je _ _ _ (j3 eN)))),?_⟩;refine hc.elim (λha=>.inl ⟨_,rfl,a,rfl,⟨_,ag.of ha⟩,nF (K:=K) (a:=a) (xs:=ks.map V.int) (λi U H'=>∃v l,U=[some (.ref a),some (.int b),some (.int l),v]/\H'=H/\∀z∈ks.drop i,l<=z) ⟨none,0,rfl,rfl,λz hz=>(rg z hz).1⟩ (λi U H' _ ⟨_,_,_,e,_⟩=>ag.of (by rw[e];exact ha)) ?_ ?_⟩) (λha=>.inr ⟨_,rfl,a,rfl,⟨_,ha⟩,Qo (K:=K) (a:=a) (xs:=ks.map V.int) (λi U H'=>∃v l,U=[some (.ref a),some (.int b),some (.int l),v]/\H'=H/\∀z∈ks.drop i,l<=z) ⟨none,0,rfl,rfl,λz hz=>(rg z hz).1⟩ (λi U H' _ ⟨_,_,_,e,_⟩=>by rw[e];exact ha) ?_ ?_⟩);all_goals first
    | (rintro U H' ⟨v,l,rfl,rfl,_⟩
       exact k)
    | (rintro i x U H' hx ⟨v,l,rfl,rfl,hl⟩
       obtain⟨z,ez,rfl⟩:∃z,ks[i]?=some z/\x= .int z:=by
         rw[getElem?_map]at hx;cases e:ks[i]? with
         |none=>rw[e]at hx;cases hx
         |some z=>rw[e]at hx;exact⟨z,rfl,(Option.some.inj hx).symm⟩
       obtain⟨hi,NP⟩:=List.getElem?_eq_some_iff.mp ez;have r:=rg z (mem_of_getElem? ez);have lz:l<=z:=hl z (by rw[List.drop_eq_getElem_cons hi,NP];simp);refine⟨_,rfl,_,rfl,_,rfl,_,_,rfl,rfl,_,_,_,rfl,?_⟩;rw[decide_eq_true ⟨lz,(by omega:z<=b-1)⟩];refine⟨_,rfl,vd ?_⟩;refine⟨_,rfl,_,_,rfl,rfl,_,_,rfl,rfl,λy hy=>?_⟩;obtain⟨j,hj,e⟩:=mem_iff_getElem.mp hy;rw[List.length_drop]at hj;rw[List.getElem_drop]at e;have:=List.pairwise_iff_getElem.mp up i (i+1+j) hi (by omega) (by omega);rw[NP,e]at this;omega)
theorem NQ (T:Txt K mg t):xm P w K mg base CX0 4 t.DV t.DW ["thing","bound"] (λvs H Q _=>∃a b ks,vs=[.ref a,.int b]/\wm K H a ks/\ks.Pairwise (·<·)/\(∀k∈ks,0<=k/\k<b)/\∀H',xp H H'->Q (.bl true) H'):=by
 refine T.FT.aZ (N:=["thing","bound"]) λ_ A _ s H vs Q E hr h=>?_;obtain⟨a,b,ks,rfl,hc,up,rg,k⟩:=h;refine⟨_,(@je _ _ _ (j3 (kA (jm U5 rfl T.jx boot_isinstance (@y3 _ _ _ _ _ (pv 0) (@gG _ _ _ _ _ (@y3 _ _ _ _ _ (jY (v:=.ty "list") rfl T.mH boot_list rfl) (jY (v:=.ty "tuple") rfl T.pZ boot_tuple rfl) rfl rfl)) rfl rfl)) (lT (jo (NO T) hr.dn rfl T.Mj T.FR.kp T.Ml .nil jn (@y3 _ _ _ _ _ (pv 0) (pv 1) rfl rfl)))))),?_⟩;refine⟨_,rfl,kX,λq hq=>?_⟩;have s1:=jg (o:=.tup [.ty "list",.ty "tuple"]) hq;have NR:wm K (upd H q (.tup [.ty "list",.ty "tuple"])) a ks:=by
  rcases hc with h|⟨e,h⟩
  .exact .inl (s1 _ _ h)
  .refine .inr ⟨e,?_⟩;rcases h with h|h
   .exact .inl (uP s1 h)
   .exact .inr h
 refine⟨a,q,rfl,ja,?_,?_⟩
 .rcases NR with h|⟨_,h⟩
  .exact .inl ⟨_,ag.of h⟩
  .exact .inr ⟨_,h⟩
 exact⟨_,rfl,bM ⟨_,rfl,_,rfl,a,b,ks,rfl,NR.imp id λ⟨e,h⟩=>by rw[e];exact h,up,rg,k _ s1⟩⟩
theorem wm.same {K:W.Frag}{H H':Hp}{a:Addr}{ks:List Int}(s1:xp H H')(hc:wm K H a ks):wm K H' a ks:=by
 rcases hc with h|⟨e,h⟩
 .exact .inl (s1 _ _ h)
 .refine .inr ⟨e,?_⟩;rcases h with h|h
  .exact .inl (uP s1 h)
  .exact .inr h
theorem wm.sq {K:W.Frag}{H:Hp}{a:Addr}{ks:List Int}(hc:wm K H a ks):ag K H a (ks.map V.int)\/aw K H a (ks.map V.int):=by
 rcases hc with h|⟨e,h⟩
 .exact .inl (ag.of h)
 .subst e;exact .inr h
theorem jnx (T:Txt K mg t):xm P w K mg base CX0 3 t.DX t.DY ["thing"] (λvs H Q _=>∃i,vs=[.int i]/\Q (.bl (decide (1<=i/\i<=16))) H):=by refine T.Mp.aZ (N:=["thing"]) λ_ A _ s H vs Q E hr h=>?_;obtain⟨x,rfl,k⟩:=h;refine⟨_,(@je _ _ _ (j3 (jo (qt T) hr.dn rfl T.qu T.qq.kp T.qw .nil jn (@bW _ _ _ _ _ _ _ (pv 0) jk (ze (v:=.int 16) rfl T.Y7.choose_spec ⟨_,rfl⟩) rfl rfl rfl)))),?_⟩;exact⟨_,rfl,x,1,16,rfl,k⟩
theorem jy9 (T:Txt K mg t):xm P w K mg base CX0 3 t.DZ t.D0 ["thing"] (λvs H Q _=>∃i,vs=[.int i]/\Q (.bl (decide (0<=i/\i<=5))) H):=by refine T.Mq.aZ (N:=["thing"]) λ_ A _ s H vs Q E hr h=>?_;obtain⟨x,rfl,k⟩:=h;refine⟨_,(@je _ _ _ (j3 (jo (qt T) hr.dn rfl T.qu T.qq.kp T.qw .nil jn (@bW _ _ _ _ _ _ _ (pv 0) jk (ze (v:=.int 5) rfl T.Y8.choose_spec ⟨_,rfl⟩) rfl rfl rfl)))),?_⟩;exact⟨_,rfl,x,0,5,rfl,k⟩
theorem jtg (T:Txt K mg t):xm P w K mg base CX0 1 t.D1 t.D2 ["houses","few"] (λvs H Q _=>∃h f:Int,vs=[.int h,.int f]/\Q (.bl (decide (h>3*f))) H):=by refine T.Mr.aZ (N:=["houses","few"]) λ_ A _ s H vs Q E hr h=>?_;obtain⟨i,j,rfl,q⟩:=h;refine⟨_,(@je _ _ _ (j3 (gE rC (pv 0) (xc rA jk (pv 1)) (qc _)))),?_⟩;exact⟨_,rfl,_,rfl,_,_,rfl,rfl,.inl (by decide),_,_,rfl,rfl,q⟩
theorem GP (T:Txt K mg t):xm P w K mg base CX0 1 t.D3 t.D4 ["houses","few"] (λvs H Q _=>∃i j:Int,vs=[.int i,.int j]/\Q (.int (i-j)) H):=by refine T.zP.aZ (N:=["houses","few"]) λ_ A _ s H vs Q E hr h=>?_;obtain⟨i,j,rfl,q⟩:=h;refine⟨_,(@je _ _ _ (j3 (xc gU (pv 0) (pv 1)))),?_⟩;exact⟨_,rfl,_,rfl,_,_,rfl,rfl,q⟩
theorem jve (T:Txt K mg t):xm P w K mg base CX0 3 t.D5 t.D6 ["thing"] (λvs H Q _=>∃a ns,vs=[.ref a]/\H a=some (.lst ((ns:List Int).map V.int))/\2<=ns.length/\ns.length<=8/\(∀i∈ns,0<=i/\i<=1000)/\∀H',xp H H'->Q (.bl true) H'):=by
 refine T.Ms.aZ (N:=["thing"]) λ_ A _ s H vs Q E hr h=>?_;obtain⟨a,ns,rfl,e,l2,l8,rg,k⟩:=h;refine⟨_,(@jb _ _ _ _ _ (zd (PW.pt (dF (zy (qz (jm pO rfl T.jx boot_isinstance (@y3 _ _ _ _ _ (pv 0) (jY (v:=.ty "list") rfl T.mH boot_list rfl) rfl rfl)))) (dS (jw nG (jm jt rfl T.ue boot_len (jc (pv 0) jf)) (ze (v:=.int 2) rfl T.Za.choose_spec ⟨_,rfl⟩) (qc _))))) (@je _ _ _ (j3 eN)) j6) (@je _ _ _ (j3 (jm (Sv rfl) rfl T.ZH boot_all (jc (iF (N':=["each"]) (ix:=[none]) (xq (by kernel_rfl)) rfl (@fJ _ _ _ _ (pv 0)) (λ_ _ _ _=>(jv (i:=0) WZ rfl (Or.inl rfl) (.inr rfl))) (λ_ _ _ _=>se) (λ_ _ _ _=>(jo (qt T) hr.dn rfl T.qu T.qq.kp T.qw .nil jn (@bW _ _ _ _ _ _ _ (pv 0) jk (ze (v:=.int 1000) rfl T.Y9.choose_spec ⟨_,rfl⟩) rfl rfl rfl)))) jf))))),?_⟩;refine⟨_,rfl,_,_,_,true,rfl,.lst e,rfl,_,rfl,vd ?_⟩;refine⟨_,rfl,a,_,rfl,.inl (ag.of e),_,_,rfl,rfl,_,rfl,bq (λh1=>?_) (λh1=>?_)⟩
 .exfalso;have:=of_decide_eq_true h1;rw[length_map]at this;omega
 refine⟨_,rfl,a,rfl,⟨_,ag.of e⟩,nY (K:=K) (a:=a) (xs:=ns.map V.int) (λi ys U' H'=>∃v,U'=[v]/\H'=H/\ys=(List.replicate i true).map V.bl) ⟨none,rfl,rfl,rfl⟩ ?_ ?_ ?_⟩
 .rintro i ys U' H' hi ⟨v,rfl,rfl,rfl⟩
  refine⟨ag.of e,oC ?_⟩;rw[length_map]at hi;rw[length_map,length_replicate];omega
 .rintro i x ys U' H' hx ⟨v,rfl,rfl,rfl⟩
  obtain⟨z,ez,rfl⟩:∃z,ns[i]?=some z/\x= .int z:=by
   rw[getElem?_map]at hx;cases e:ns[i]? with
   |none=>rw[e]at hx;cases hx
   |some z=>rw[e]at hx;exact⟨z,rfl,(Option.some.inj hx).symm⟩
  dsimp only[eO,pM];rw[if_pos rfl];refine⟨_,rfl,z,0,1000,rfl,?_⟩;rw[decide_eq_true (rg z (mem_of_getElem? ez))];refine⟨_,rfl,rfl,?_⟩;rw[List.replicate_succ',map_append];rfl
 .rintro ys U' H' ⟨v,rfl,rfl,rfl⟩ q hq
  refine⟨q,List.replicate (ns.map V.int).length true,rfl,ag.of ja,?_⟩;have g:=k _ (jg (o:=.lst ((List.replicate (ns.map V.int).length true).map V.bl)) hq);rw[show(List.replicate (ns.map V.int).length true).all id=true by simp];exact g
theorem jnu (T:Txt K mg t):xm P w K mg base CX0 4 t.D7 t.D8 ["thing"] (λvs H Q _=>∃a ns,vs=[.ref a]/\H a=some (.lst ((ns:List Int).map V.int))/\2<=ns.length/\ns.length<=8/\(∀i∈ns,0<=i/\i<=1000)/\∀H',xp H H'->Q (.bl true) H'):=by refine T.Mt.aZ (N:=["thing"]) λ_ A _ s H vs Q E hr h=>?_;obtain⟨a,ns,rfl,e,l2,l8,rg,k⟩:=h;refine⟨_,(@je _ _ _ (j3 (kA (jo (jve T) hr.dn rfl T.Xi T.Ms.kp T.Xj .nil jn (jc (pv 0) jf)) (lT (gE rB (jm jt rfl T.ue boot_len (jc (pv 0) jf)) (ze (v:=.int 8) rfl T.Zb.choose_spec ⟨_,rfl⟩) (qc _)))))),?_⟩;refine⟨_,rfl,a,ns,rfl,e,l2,l8,rg,λH1 s1=>⟨_,rfl,bM ?_⟩⟩;refine⟨_,rfl,a,_,rfl,.inl (ag.of (s1 _ _ e)),_,_,rfl,rfl,?_⟩;have g:=k H1 s1;show Q (.bl (decide (((ns.map V.int).length:Int)<=8))) H1;rw[show decide (((ns.map V.int).length:Int)<=8)=true from decide_eq_true (by rw[length_map];omega)];exact g
theorem jqs (T:Txt K mg t):xm P w K mg base CX0 5 t.Ec t.Ed ["houses","few","liars"] (λvs H Q _=>∃h f a ks,vs=[.int h,.int f,.ref a]/\(1<=h/\h<=16)/\(0<=f/\f<=5)/\3*f<h/\wm K H a ks/\ks.Pairwise (·<·)/\(∀k∈ks,0<=k/\k<h)/\(ks.length:Int)<=f/\∀H',xp H H'->Q .aj H'):=by
 refine T.Mw.aZ (N:=["houses","few","liars"]) λ_ A _ s H vs Q E hr h=>?_;obtain⟨h,f,a,ks,rfl,h1,f1,lt,hc,up,rg,l,k⟩:=h;refine⟨_,(@jb _ _ _ _ _ (zd (PW.pt (dF (zy (qz (jo (jnx T) hr.dn rfl T.Xc T.Mp.kp T.Xd .nil jn (jc (pv 0) jf)))) (dS (zy (qz (jo (jy9 T) hr.dn rfl T.Xe T.Mq.kp T.Xf .nil jn (jc (pv 1) jf))))))) qm j6) (@jb _ _ _ _ _ (zd (zy (qz (gu (jtg T) hr.dn rfl T.Xg T.Mr.kp T.Xh jn (jc (pv 0) jf) (yn (pv 1) gH)))) qm j6) (@je _ _ _ (zd (PW.pt (dF (zy (qz (jo (NQ T) hr.dn rfl T.Mm T.FT.kp T.Mn .nil jn (@y3 _ _ _ _ _ (pv 2) (pv 0) rfl rfl)))) (dS (jw rC (jm jt rfl T.ue boot_len (jc (pv 2) jf)) (pv 1) (qc _))))) qm j6)))),?_⟩;refine⟨_,rfl,h,rfl,_,rfl,?_⟩;rw[decide_eq_true h1];refine vd ⟨_,rfl,f,rfl,_,rfl,?_⟩;rw[decide_eq_true f1];refine vd ⟨_,rfl,_,rfl,h,f,rfl,_,rfl,?_⟩;rw[decide_eq_true (by omega)];refine vd ⟨_,rfl,_,rfl,a,h,ks,rfl,hc,up,rg,λH1 s1=>⟨_,rfl,vd ?_⟩⟩;refine⟨_,rfl,a,_,rfl,(hc.same s1).sq,_,rfl,_,_,rfl,rfl,_,rfl,bq (λz=>?_) (λ_=>k _ s1)⟩;exfalso;have:=of_decide_eq_true z;rw[length_map]at this;omega
theorem jpr (T:Txt K mg t):xm P w K mg base CX0 5 t.Ee t.Ef ["sums","cheats"] (λvs H Q _=>∃a ns b ks,vs=[.ref a,.ref b]/\H a=some (.lst ((ns:List Int).map V.int))/\2<=ns.length/\ns.length<=8/\(∀i∈ns,0<=i/\i<=1000)/\wm K H b ks/\ks.Pairwise (·<·)/\(∀k∈ks,0<=k/\k<(ns.length:Int))/\∀H',xp H H'->Q .aj H'):=by
 refine T.Mx.aZ (N:=["sums","cheats"]) λ_ A _ s H vs Q E hr h=>?_;obtain⟨a,ns,b,ks,rfl,e,l2,l8,r1,hc,up,rg,k⟩:=h;refine⟨_,(@jb _ _ _ _ _ (zd (zy (qz (jo (jnu T) hr.dn rfl T.Xk T.Mt.kp T.Xl .nil jn (jc (pv 0) jf)))) qm j6) (@je _ _ _ (zd (zy (qz (jo (NQ T) hr.dn rfl T.Mm T.FT.kp T.Mn .nil jn (@y3 _ _ _ _ _ (pv 1) (jm jt rfl T.ue boot_len (jc (pv 0) jf)) rfl rfl)))) qm j6))),?_⟩;refine⟨_,rfl,a,ns,rfl,e,l2,l8,r1,λH1 s1=>⟨_,rfl,vd ?_⟩⟩;refine⟨_,rfl,_,rfl,a,_,rfl,.inl (ag.of (s1 _ _ e)),b,_,ks,rfl,hc.same s1,up,λk hk=>?_,λH2 s2=>⟨_,rfl,vd (k _ (s1.trans s2))⟩⟩;rw[length_map];exact rg k hk
noncomputable def PK (H:Hp)(Z:aq)(id:Nat)(h:Int)(L:List (Nat×Addr×HO)):Prop:=∀x∈L,1<=x.1/\Z x.2.1=some (id,.kp h x.1)/\H x.2.1=some x.2.2
theorem PK.new {H:Hp}{Z:aq}{id:Nat}{h:Int}{L:List (Nat×Addr×HO)}{p:Addr}{f:Nat}{u:HO}(k:PK H Z id h L)(n:H p=none)(hf:1<=f):PK (upd H p u) (aD Z p (id,.kp h f)) id h ((f,p,u)::L):=λx hx=>by
 rcases mem_cons.mp hx with rfl|hx
 .exact⟨hf,zu,ja⟩
 .obtain⟨a,b,c⟩:=k x hx;have:x.2.1≠p:=ji c n;exact⟨a,by rw[xo this];exact b,by rw[jd this];exact c⟩
theorem PK.obj {H:Hp}{Z:aq}{id:Nat}{h:Int}{L:List (Nat×Addr×HO)}{x:Addr}{o:HO}(k:PK H Z id h L)(rx:Z x=some (id,.kp h 0)):PK (upd H x o) Z id h L:=λy hy=>by obtain⟨a,b,c⟩:=k y hy;exact⟨a,b,by rw[jd (eS b rx (λz=>by have e:=(Part.kp.inj (Prod.mk.inj z).2).2;lia))];exact c⟩
theorem PK.same {H H':Hp}{Z:aq}{id:Nat}{h:Int}{L:List (Nat×Addr×HO)}(s:xp H H')(k:PK H Z id h L):PK H' Z id h L:=λy hy=>let⟨a,b,c⟩:=k y hy;⟨a,b,s _ _ c⟩
theorem PK.at_ {H:Hp}{Z:aq}{id:Nat}{h:Int}{L:List (Nat×Addr×HO)}(k:PK H Z id h L)(j:Nat){f:Nat}{a:Addr}{u:HO}(e:L[j]?=some (f,a,u)):Z a=some (id,.kp h f)/\H a=some u:=(k _ (mem_of_getElem? e)).2
structure Mk (t:Ad)(Z0:aq)(H0:Hp)(id:Nat)(h:Int)(x dx:Addr)(fs:List (Str×V))(L:List (Nat×Addr×HO))(Z:aq)(H:Hp):Prop where
 ob:H x=some (.ins t.j4 dx fs)
 rx:Z x=some (id,.kp h 0)
 pk:PK H Z id h L
 fr:Fr (bp id h) Z0 H0 Z H
 kr:ax Z H
section
variable {t:Ad}{Z0 Z:aq}{H0 H H':Hp}{id:Nat}{h:Int}{x dx:Addr}{fs fs':List (Str×V)}{L:List (Nat×Addr×HO)}
theorem Mk.new {p:Addr}{u:HO}(f:Nat)(m:Mk t Z0 H0 id h x dx fs L Z H)(n:H p=none)(hf:1<=f)(hu:autoParam (oF u) aP7):Mk t Z0 H0 id h x dx fs ((f,p,u)::L) (aD Z p (id,.kp h f)) (upd H p u):=by have nx:x≠p:=ji m.ob n;exact⟨by rw[jd nx];exact m.ob,by rw[xo nx];exact m.rx,m.pk.new n hf,m.fr.trans (Fr.cx n),m.kr.cx hu⟩
theorem Mk.uZ (m:Mk t Z0 H0 id h x dx fs L Z H)(s:xp H H'):Mk t Z0 H0 id h x dx fs L Z H':=⟨s _ _ m.ob,m.rx,m.pk.same s,m.fr.trans (Fr.same s),m.kr.same s⟩
theorem Mk.obj (m:Mk t Z0 H0 id h x dx fs L Z H):Mk t Z0 H0 id h x dx fs' L Z (upd H x (.ins t.j4 dx fs')):=⟨ja,m.rx,m.pk.obj m.rx,m.fr.trans (Fr.put m.rx ⟨0,rfl⟩),m.kr.put⟩
end
theorem jox (T:Txt K mg t):xm P w K mg base CX0 1 t.vm t.Ex ["self","sums"] (λvs H Q _=>∃Z id h x dx sa,∃ns:List Int,vs=[.ref x,.ref sa]/\H x=some (.ins t.j4 dx [])/\Z x=some (id,.kp h 0)/\ax Z H/\H sa=some (.lst (ns.map V.int))/\ns.length<=1000/\∀Z' H' he nn dn,Mk t Z H id h x dx (iV he nn dn) [(3,dn,.lst []),(2,nn,.lst ((List.replicate ns.length 0).map V.int)),(1,he,.lst (ns.map V.int))] Z' H'->Q .aj H'):=by
 refine T.XO.aZ (N:=["self","sums"]) λ_ A _ s H vs Q E hr h=>?_;obtain⟨Z,id,h,x,dx,sa,ns,rfl,hx,rx,kr,hs,ln,k⟩:=h;refine⟨_,(@jb _ _ _ _ _ (dG (pv 0) (uz rN rfl T.mH boot_list (jc (pv 1) jf)) rfl) (@jb _ _ _ _ _ (dG (pv 0) (xc RA (@zj _ _ _ _ (jc jk jf)) (jm jt rfl T.ue boot_len (jc (pv 1) jf))) rfl) (@je _ _ _ (dG (pv 0) (@zj _ _ _ _ jf) rfl)))),?_⟩;have m0:Mk t Z H id h x dx [] [] Z H:=⟨hx,rx,(λ_ z=>by cases z),Fr.refl,kr⟩;have sx:sa≠x:=dg hs hx (by intro z;cases z);refine⟨_,rfl,sa,_,rfl,.inl (ag.of hs),λhe nh=>?_⟩;have m1:=m0.new 1 nh (u:=.lst (ns.map V.int)) (by decide);have yF:=jg (o:=.lst (ns.map V.int)) nh _ _ hs;refine⟨_,rfl,x,_,dx,_,rfl,m1.ob,T.jr,T.yz,(by show 0<1000;decide),?_⟩;have m2:=m1.obj (fs':=ua "held" (.ref he) []);have rE:upd (upd H he (.lst (ns.map V.int))) x (.ins t.j4 dx (ua "held" (.ref he) [])) sa=some (.lst (ns.map V.int)):=by rw[jd sx];exact yF
 dsimp only;generalize upd (upd H he (.lst (ns.map V.int))) x (.ins t.j4 dx (ua "held" (.ref he) []))=G at m2 rE;refine⟨oB,λz1 n1=>⟨_,rfl,sa,_,rfl,.inl (ag.of ((jg n1) _ _ rE)),?_⟩⟩;have m3:=m2.uZ (jg (o:=.lst [.int 0]) n1);refine⟨z1,_,[.int 0],rfl,rfl,ja,?_,?_,?_,λnn n2=>?_⟩
 .omega
 .rw[length_map];have:=nH;omega
 .rw[length_map];exact oC (by simp;omega)
 have er:(List.replicate (((ns.map V.int).length:Nat):Int).toNat [V.int 0]).flatten=(List.replicate ns.length 0).map V.int:=by
  rw[Int.toNat_natCast,length_map,List.map_replicate];generalize ns.length=n;induction n with
  |zero=>rfl
  |succ n ih=>rw[replicate_succ,flatten_cons,ih,replicate_succ];rfl
 rw[er];have m4:=m3.new 2 n2 (u:=.lst ((List.replicate ns.length 0).map V.int)) (by decide);generalize upd (upd G z1 (.lst [.int 0])) nn (.lst ((List.replicate ns.length 0).map V.int))=G4 at m4;refine⟨_,rfl,x,_,dx,_,rfl,m4.ob,T.jr,T.qx,(by show 1<1000;decide),?_⟩;have m5:=m4.obj (fs':=ua "next_numbers" (.ref nn) (ua "held" (.ref he) []));dsimp only;generalize upd G4 x (.ins t.j4 dx (ua "next_numbers" (.ref nn) (ua "held" (.ref he) [])))=G5 at m5;refine⟨cI,λdn n3=>⟨_,rfl,x,_,dx,_,rfl,(m5.new 3 n3 (u:=.lst []) (by decide)).ob,T.jr,T.MW,(by show 2<1000;decide),?_⟩⟩;exact k _ _ he nn dn ((m5.new 3 n3 (u:=.lst []) (by decide)).obj)
noncomputable def iZ (ns:List Int):Kp:=⟨ns,List.replicate ns.length 0,[],[],[],[],[]⟩
theorem jl9 (T:Txt K mg t):xm P w K mg base CX0 2 t.vy t.EB ["self","sums"] (λvs H Q _=>∃Z id h x dx sa,∃ns:List Int,vs=[.ref x,.ref sa]/\H x=some (.ins t.j4 dx [])/\Z x=some (id,.kp h 0)/\ax Z H/\H sa=some (.lst (ns.map V.int))/\ns.length<=1000/\∀Z' H' A,xn t H' Z' id h x A dx (iZ ns)->Fr (bp id h) Z H Z' H'->ax Z' H'->Q .aj H'):=by
 refine T.XW.aZ (N:=["self","sums"]) λ_ A _ s H vs Q E hr h=>?_;obtain⟨Z,id,h,x,dx,sa,ns,rfl,hx,rx,kr,hs,ln,k⟩:=h;refine⟨_,(@jb _ _ _ _ _ (j8 (V8 rfl T.Zg T.Zi (jox T) hr.dn T.XQ .nil jn (@y3 _ _ _ _ _ (pv 0) (pv 1) rfl rfl))) (@jb _ _ _ _ _ (dG (pv 0) xE rfl) (@jb _ _ _ _ _ (dG (pv 0) (@zj _ _ _ _ jf) rfl) (@jb _ _ _ _ _ (dG (pv 0) xE rfl) (@je _ _ _ (dG (pv 0) (@zj _ _ _ _ jf) rfl)))))),?_⟩;refine⟨_,rfl,_,rfl,Z,id,h,x,dx,sa,ns,rfl,hx,rx,kr,hs,ln,λZ1 H1 he nn dn m1=>?_⟩;refine λhd n1=>⟨_,rfl,x,_,dx,_,rfl,(m1.new 4 n1 (u:=.dT []) (by decide)).ob,T.jr,T.Gb,(by show 3<1000;decide),?_⟩;have m2:=(m1.new 4 n1 (u:=.dT []) (by decide)).obj (fs':=ua "heard" (.ref hd) (iV he nn dn));dsimp only;generalize upd (upd H1 hd (.dT [])) x (.ins t.j4 dx (ua "heard" (.ref hd) (iV he nn dn)))=G2 at m2;refine⟨cI,λun n2=>⟨_,rfl,x,_,dx,_,rfl,(m2.new 5 n2 (u:=.lst []) (by decide)).ob,T.jr,T.yb,(by show 4<1000;decide),?_⟩⟩;have m3:=(m2.new 5 n2 (u:=.lst []) (by decide)).obj (fs':=ua "unvoted" (.ref un) (ua "heard" (.ref hd) (iV he nn dn)));dsimp only;generalize upd (upd G2 un (.lst [])) x (.ins t.j4 dx (ua "unvoted" (.ref un) (ua "heard" (.ref hd) (iV he nn dn))))=G3 at m3;refine λcs n3=>⟨_,rfl,x,_,dx,_,rfl,(m3.new 6 n3 (u:=.dT []) (by decide)).ob,T.jr,T.zc,(by show 5<1000;decide),?_⟩;have m4:=(m3.new 6 n3 (u:=.dT []) (by decide)).obj (fs':=ua "choices" (.ref cs) (ua "unvoted" (.ref un) (ua "heard" (.ref hd) (iV he nn dn))));dsimp only;generalize upd (upd G3 cs (.dT [])) x (.ins t.j4 dx (ua "choices" (.ref cs) (ua "unvoted" (.ref un) (ua "heard" (.ref hd) (iV he nn dn)))))=G4 at m4;refine⟨cI,λwt n4=>⟨_,rfl,x,_,dx,_,rfl,(m4.new 7 n4 (u:=.lst []) (by decide)).ob,T.jr,T.xf,(by show 6<1000;decide),?_⟩⟩;have m5:=(m4.new 7 n4 (u:=.lst []) (by decide)).obj (fs':=kf he nn dn hd un cs wt);refine k _ _ (λf=>match f with|1=>he|2=>nn|3=>dn|4=>hd|5=>un|6=>cs|_=>wt) ⟨m5.ob,m5.rx,λf h1 h7=>?_⟩ m5.fr m5.kr;have p:=m5.pk
 match f,h1,h7 with
 |1,_,_=>exact⟨(p.at_ 6 rfl).1,_,(p.at_ 6 rfl).2,rfl⟩
 |2,_,_=>exact⟨(p.at_ 5 rfl).1,_,(p.at_ 5 rfl).2,rfl⟩
 |3,_,_=>exact⟨(p.at_ 4 rfl).1,_,(p.at_ 4 rfl).2,[],rfl,.nil⟩
 |4,_,_=>exact⟨(p.at_ 3 rfl).1,_,(p.at_ 3 rfl).2,[],rfl,rfl⟩
 |5,_,_=>exact⟨(p.at_ 2 rfl).1,_,(p.at_ 2 rfl).2,[],rfl,.nil⟩
 |6,_,_=>exact⟨(p.at_ 1 rfl).1,_,(p.at_ 1 rfl).2,[],rfl,.nil⟩
 |7,_,_=>exact⟨(p.at_ 0 rfl).1,_,(p.at_ 0 rfl).2,[],rfl,.nil⟩
noncomputable def qL (K:W.Frag)(H:Hp)(Z:aq)(id:Nat)(a:Addr)(ks:List Int):Prop:=(H a=some (.lst (ks.map V.int))/\∀r,Z a=some r->¬r.1=id)\/(ks=[]/\∃(o:Obj)(its:Array Value)(n:Nat),K.lookup a=some o/\o.cls= .type "tuple"/\o.data= .seq its n/\its.size<=sizeLine/\Vals [] its.toList)
theorem qL.at_ {K:W.Frag}{H:Hp}{Z:aq}{id:Nat}{a:Addr}{ks:List Int}(h:qL K H Z id a ks):wm K H a ks:=h.imp (λq=>q.1) (λq=>⟨q.1,.inr q.2⟩)
theorem qL.fr {K:W.Frag}{H H':Hp}{Z Z':aq}{id:Nat}{a:Addr}{ks:List Int}(f:Fr (λr=>r.1=id) Z H Z' H')(h:qL K H Z id a ks):wm K H' a ks:=by
 rcases h with⟨h,n⟩|⟨e,h⟩
 .exact .inl (f a _ h n).1
 .exact .inr ⟨e,.inr h⟩
theorem xx.nW {t:Ad}{P:Role->Prop}{Z Z':aq}{H H':Hp}{id:Nat}(f:Fr P Z H Z' H'):∀{kvs:List (Key×V)}{ks:List (Int×Kp)},(∀c∈ks,∀j,¬P (id,.kp c.1 j))->xx t H Z id kvs ks->xx t H' Z' id kvs ks:=λ{kvs ks} n q=>by
 unfold xx at q;induction q with
 |nil=>exact .nil
 |@cons kv c kvs ks a r ih=>obtain⟨e,k,A,dk,ek,q⟩:=a;exact .cons ⟨e,k,A,dk,ek,q.fr (n c mem_cons_self) f⟩ (ih λc' hc=>n c' (mem_cons_of_mem _ hc))
noncomputable def allI (id:Nat):Role->Prop:=λr=>r.1=id
structure cW (t:Ad)(Z0:aq)(H0:Hp)(id:Nat)(x dx:Addr)(fs:List (Str×V))(Z:aq)(H:Hp):Prop where
 ob:H x=some (.ins t.jz dx fs)
 rx:Z x=some (id,.x)
 fr:Fr (allI id) Z0 H0 Z H
 kr:ax Z H
section
variable {t:Ad}{Z0 Z Z':aq}{H0 H H':Hp}{id:Nat}{x dx:Addr}{fs fs':List (Str×V)}{P:Role->Prop}
theorem cW.step (m:cW t Z0 H0 id x dx fs Z H)(f:Fr P Z H Z' H')(n:¬P (id,.x))(hP:∀r,P r->r.1=id)(kr:ax Z' H'):cW t Z0 H0 id x dx fs Z' H':=by obtain⟨e,r⟩:=cV f m.ob m.rx n;exact⟨e,r,m.fr.trans (f.mono hP),kr⟩
theorem cW.uZ (m:cW t Z0 H0 id x dx fs Z H)(s:xp H H'):cW t Z0 H0 id x dx fs Z H':=m.step (P:=λ_=>False) (Fr.same s) (λz=>z) (λ_ z=>z.elim) (m.kr.same s)
theorem cW.new {p:Addr}{u:HO}{r:Role}(m:cW t Z0 H0 id x dx fs Z H)(n:H p=none)(hu:autoParam (oF u) aP7):cW t Z0 H0 id x dx fs (aD Z p r) (upd H p u):=m.step (P:=λ_=>False) (Fr.cx n) (λz=>z) (λ_ z=>z.elim) (m.kr.cx hu)
theorem cW.obj (m:cW t Z0 H0 id x dx fs Z H):cW t Z0 H0 id x dx fs' Z (upd H x (.ins t.jz dx fs')):=⟨ja,m.rx,m.fr.trans (Fr.put m.rx rfl),m.kr.put⟩
theorem cW.fo (m:cW t Z0 H0 id x dx fs Z H):Fr (eT id .x) Z H Z (upd H x (.ins t.jz dx fs')):=Fr.put m.rx rfl
end
noncomputable def aE (ls:List Int)(n:Nat):List Int:=((List.range n).map λ(i:Nat)=>(i:Int)).filter λi=>!decide (i∈ls)
noncomputable def w0 (h f:Int)(ns cs ls:List Int):Wd:=⟨ns.length,cs,(aE ls h.toNat).map λi=>(i,iZ ns),[],h-f,List.replicate ns.length [],[]⟩
structure qN (H:Hp)(Z:aq)(ch ly:Addr)(cs ls:List Int):Prop where
 c:H ch=some (.lst (cs.map V.int))/\Z ch=none
 l:H ly=some (.lst (ls.map V.int))/\Z ly=none
theorem qN.fr {P:Role->Prop}{Z Z':aq}{H H':Hp}{ch ly:Addr}{cs ls:List Int}(f:Fr P Z H Z' H')(h:qN H Z ch ly cs ls):qN H' Z' ch ly cs ls:=⟨ig f h.c.1 h.c.2,ig f h.l.1 h.l.2⟩
theorem Aj (ls:List Int)(n:Nat):aE ls (n+1)=aE ls n++if(n:Int)∈ls then[]else[(n:Int)]:=by
 unfold aE;rw[List.range_succ,map_append,filter_append];congr 1;by_cases z:(n:Int)∈ls
 .rw[if_pos z];simp[z]
 .rw[if_neg z];simp[z]
theorem NS {ls:List Int}{n:Nat}{i:Int}(h:i∈aE ls n):0<=i/\i<(n:Int)/\i∉ls:=by unfold aE at h;obtain⟨h1,h2⟩:=mem_filter.mp h;obtain⟨j,hj,rfl⟩:=mem_map.mp h1;have:=mem_range.mp hj;exact⟨by lia,by lia,by simpa using h2⟩
theorem GQ (ls:List Int)(n:Nat):(aE ls n).length<=n:=by unfold aE;refine le_trans (length_filter_le _ _) ?_;rw[length_map,length_range];exact le_refl _
noncomputable abbrev q2 (ns:List Int):List (Str×V):=ua "total" (.int ns.sum) (ua "purses" (.int (ns.map V.int).length) [])
noncomputable abbrev q3 (ns:List Int)(ly:Addr):List (Str×V):=ua "lying" (.ref ly) (q2 ns)
noncomputable abbrev q4 (ns:List Int)(ly ch:Addr):List (Str×V):=ua "cheating" (.ref ch) (q3 ns ly)
noncomputable abbrev q5 (ns:List Int)(ly ch D:Addr):List (Str×V):=ua "keepers" (.ref D) (q4 ns ly ch)
noncomputable abbrev q6 (ns:List Int)(ly ch D b:Addr):List (Str×V):=ua "board" (.ref b) (q5 ns ly ch D)
noncomputable abbrev q7 (ns:List Int)(ly ch D b ak:Addr):List (Str×V):=ua "asked" (.ref ak) (q6 ns ly ch D b)
noncomputable def j1e (K:PySem.W.Frag)(t:Ad):Sp:=λvs H Q _=>∃Z id x dx h f sa ns la ca cs ls,vs=[.ref x,.int h,.int f,.ref sa,.ref la,.ref ca]/\H x=some (.ins t.jz dx [])/\Z x=some (id,.x)/\ax Z H/\(1<=h/\h<=16)/\(0<=f/\f<=5)/\3*f<h/\H sa=some (.lst ((ns:List Int).map V.int))/\(∀r,Z sa=some r->¬allI id r)/\2<=ns.length/\ns.length<=8/\(∀i∈ns,0<=i/\i<=1000)/\qL K H Z id la ls/\ls.Pairwise (·<·)/\(∀k∈ls,0<=k/\k<h)/\(ls.length:Int)<=f/\qL K H Z id ca cs/\cs.Pairwise (·<·)/\(∀k∈cs,0<=k/\k<(ns.length:Int))/\∀Z' H' W,W.x=x->W.bO=ns.sum->qk t H' Z' id W (w0 h f ns cs ls)->(H' W.ly=some (.lst (ls.map V.int))/\Z' W.ly=none)->Fr (allI id) Z H Z' H'->ax Z' H'->Q .aj H'
set_option maxHeartbeats 0 in
theorem jni (T:Txt K mg t) : xm P w K mg base CX0 6 t.ka t.EI ["self","houses","few","sums","liars","cheats"] (j1e K t):=by
 refine T.Yd.aZ (N:=["self","houses","few","sums","liars","cheats"]) λ_ A _ s H vs Q E hr h=>?_
 obtain ⟨Z,id,x,dx,h,f,sa,ns,la,ca,cs,ls,rfl,hx,rx,kr,h1,f1,lt,hs,nsa,l2,l8,rg,NT,Ak,qO,llf,NU,up,Al,k⟩:=h
 have hla:=NT.at_
 have hca:=NU.at_
 refine ⟨_,(@jb _ _ _ _ _ (j8 (gu (jqs T) hr.dn rfl T.Xq T.Mw.kp T.Xr jn (jc (pv 1) jf) (yn (pv 2) (yn (pv 4) gH))))
  (@jb _ _ _ _ _ (j8 (gu (jpr T) hr.dn rfl T.Xs T.Mx.kp T.Xt jn (jc (pv 3) jf) (yn (pv 5) gH)))
  (@jb _ _ _ _ _ (dG (pv 0) (jm jt rfl T.ue boot_len (jc (pv 3) jf)) rfl)
  (@jb _ _ _ _ _ (dG (pv 0) (jm (Ko rfl) rfl T.M5 boot_sum (jc (pv 3) jf)) rfl)
  (@jb _ _ _ _ _ (dG (pv 0) (uz rN rfl T.mH boot_list (jc (pv 4) jf)) rfl)
  (@jb _ _ _ _ _ (dG (pv 0) (uz rN rfl T.mH boot_list (jc (pv 5) jf)) rfl)
  (@jb _ _ _ _ _ (dG (pv 0) (Ul (.dK []) (.inl rfl) (fR hr) (N':=["house","sums","liars"]) (ix:=[none,some 3,some 4]) (xq (by kernel_rfl)) rfl (rl rfl T.uK (jc (pv 1) jf)) (λ_ _ _ _=>(jv (i:=0) W2 rfl (Or.inl rfl) (.inr rfl))) (λ_ _ _ _=>(kN (jw (K9 (K:=K) rfl) (pv 0) (pv 2) (by with_unfolding_all rfl)))) (λ_ _ _ _=>(pv 0)) (λ_ _ _ _=>(JC T.XX (jl9 T) hr.dn rfl T.Zd T.XY .nil jn (jc (pv 1) jf)))) rfl)
  (@jb _ _ _ _ _ (dG (pv 0) (JC T.Xz (Z8 T) hr.dn rfl T.Zc T.XA .nil jn (jc (gu (GP T) hr.dn rfl T.FU T.zP.kp T.FV jn (jc (pv 1) jf) (yn (pv 2) gH)) jf)) rfl)
  (@jb _ _ _ _ _ (dG (pv 0) (iF (N':=["each"]) (ix:=[none]) (xq (by kernel_rfl)) rfl (@fJ _ _ _ _ (pv 3)) (λ_ _ _ _=>(jv (i:=0) W0 rfl (Or.inl rfl) (.inr rfl))) (λ_ _ _ _=>se) (λ_ _ _ _=>(@zj _ _ _ _ jf))) rfl)
  (@je _ _ _ (dG (pv 0) (@zj _ _ _ _ jf) rfl))))))))))),?_⟩
 refine aJ λN hN=>⟨_,rfl,_,rfl,_,rfl,h,f,la,ls,rfl,h1,f1,lt,hla,Ak,qO,llf,λH1 s1=>?_⟩
 refine hN _ _ (aJ λN hN=>⟨_,rfl,_,rfl,sa,ns,ca,cs,rfl,s1 _ _ hs,l2,l8,rg,hca.same s1,up,Al,λH2 s2=>?_⟩)
 have m2:cW t Z H id x dx [] Z H2:=cW.uZ ⟨hx,rx,Fr.refl,kr⟩ (s1.trans s2)
 have vA : ∀ {Z' H' fs},cW t Z H id x dx fs Z' H' -> H' sa = some (.lst (ns.map V.int)):=λm=>(m.fr _ _ hs nsa).1
 have NV : ∀ {Z' H' fs},cW t Z H id x dx fs Z' H' -> wm K H' la ls:=λm=>NT.fr m.fr
 have ca_ : ∀ {Z' H' fs},cW t Z H id x dx fs Z' H' -> wm K H' ca cs:=λm=>NU.fr m.fr
 refine hN _ _ (aJ λN hN=>⟨_,rfl,sa,_,rfl,.inl (ag.of (vA m2)),_,rfl,x,_,dx,_,rfl,m2.ob,T.jh,T.vg,(by show 0 < 1000; decide),?_⟩)
 have m3:=m2.obj (fs':=ua "purses" (.int (ns.map V.int).length) [])
 dsimp only
 generalize upd H2 x (.ins t.jz dx (ua "purses" (.int (ns.map V.int).length) [])) = G3 at m3
 refine hN _ _ (aJ λN hN=>⟨_,rfl,sa,ns,rfl,ag.of (vA m3),_,rfl,x,_,dx,_,rfl,m3.ob,T.jh,T.Zf,(by show 1 < 1000; decide),?_⟩)
 have m4:=m3.obj (fs':=q2 ns)
 dsimp only
 generalize upd G3 x (.ins t.jz dx (q2 ns)) = G4 at m4
 refine hN _ _ (aJ λN hN=>⟨_,rfl,la,_,rfl,(NV m4).sq,λly GR=>?_⟩)
 have m5:=m4.uZ (jg (o:=.lst (ls.map V.int)) GR)
 have l5:upd G4 ly (.lst (ls.map V.int)) ly = some (.lst (ls.map V.int)) /\ Z ly = none:=⟨ja,m4.kr.none GR⟩
 refine ⟨_,rfl,x,_,dx,_,rfl,m5.ob,T.jh,T.Gd,(by show 2 < 1000; decide),?_⟩
 have m6:=m5.obj (fs':=q3 ns ly)
 have l6:=ig (m5.fo (fs':=q3 ns ly)) l5.1 l5.2
 dsimp only
 generalize upd (upd G4 ly (.lst (ls.map V.int))) x (.ins t.jz dx (q3 ns ly)) = G6 at m6 l6
 refine hN _ _ (aJ λN hN=>⟨_,rfl,ca,_,rfl,(ca_ m6).sq,λch i6=>?_⟩)
 have m7:=m6.uZ (jg (o:=.lst (cs.map V.int)) i6)
 have c7:qN (upd G6 ch (.lst (cs.map V.int))) Z ch ly cs ls:=⟨⟨ja,m6.kr.none i6⟩,ig (P:=λ_=>False) (Fr.same (jg i6)) l6.1 l6.2⟩
 refine ⟨_,rfl,x,_,dx,_,rfl,m7.ob,T.jh,T.yc,(by show 3 < 1000; decide),?_⟩
 have m8:=m7.obj (fs':=q4 ns ly ch)
 have c8:=c7.fr (m7.fo (fs':=q4 ns ly ch))
 dsimp only
 generalize upd (upd G6 ch (.lst (cs.map V.int))) x (.ins t.jz dx (q4 ns ly ch)) = G8 at m8 c8
 clear m2 m3 m4 m5 m6 m7 c7 GR i6 l5 l6
 refine hN _ _ (aJ λN hN=>⟨_,rfl,h,rfl,(by omega),(by omega),λD nD=>?_⟩)
 have m9:=m8.new (r:=(id,.kd)) nD (u:=.dK [])
 have c9:qN (upd G8 D (.dK [])) (aD Z D (id,.kd)) ch ly cs ls:=c8.fr (P:=λ_=>False) (Fr.cx nD)
 refine V6 (lo:=0) (n:=h.toNat) (λi U H'=>∃ v kvs Z',U = [v,some (.ref sa),some (.ref la)] /\ cW t Z H id x dx (q4 ns ly ch) Z' H' /\ qN H' Z' ch ly cs ls /\ Z' D = some (id,.kd) /\ H' D = some (.dK kvs) /\ xx t H' Z' id kvs ((aE ls i).map λi=>(i,iZ ns))) ⟨none,[],_,rfl,m9,c9,zu,ja,.nil⟩ ?_ ?_
 .rintro i U H' hi ⟨v,kvs,Z',rfl,m,hc,rD,hD,ks⟩
  have e0:(0:Int) + (i:Int) = i:=Int.zero_add _
  rw [e0]
  refine ⟨_,rfl,_,rfl,la,_,rfl,(NV m).sq,rfl,vq _,_,rfl,bq (λzz=>?_) (λzz=>?_)⟩
  rotate_left
  .have nl:(i:Int) ∈ ls:=by
    rw [if_pos rfl,ya] at zz
    simpa using zz
   refine ⟨_,kvs,Z',rfl,m,hc,rD,hD,?_⟩
   rw [Aj,if_pos nl,append_nil]
   exact ks
  have nl : ¬ (i:Int) ∈ ls:=by
   rw [if_pos rfl,ya] at zz
   simpa using zz
  refine ⟨_,rfl,_,rfl,λk dk nk ndk ne=>?_⟩
  have sk:xp H' (upd H' dk (.own k)):=jg ndk
  have nk1:upd H' dk (.own k) k = none:=by rw [jd ne.symm]; exact nk
  have f1:Fr (λ_=>False) Z' H' (aD Z' k (id,.kp i 0)) (upd (upd H' dk (.own k)) k (.ins t.j4 dk [])):=(Fr.same sk).trans (Fr.cx nk1)
  have bK:ax (aD Z' k (id,.kp i 0)) (upd (upd H' dk (.own k)) k (.ins t.j4 dk [])):=(m.kr.same sk).cx
  have m1:=m.step f1 (λz=>z) (λ_ z=>z.elim) bK
  refine ⟨_,id,(i:Int),k,dk,sa,ns,rfl,ja,zu,bK,vA m1,by omega,λZ2 Am A2 R2 f2 bR=>⟨rfl,?_⟩⟩
  have dB:Fr (bp id i) Z' H' Z2 Am:=(f1.mono λ_ z=>z.elim).trans f2
  have GS : ∀ {p:Part},(∀ j,p ≠ .kp (i:Int) j) -> ¬ bp id (i:Int) (id,p):=λhp ⟨j,e⟩=>hp j (Prod.mk.inj e).2
  have mm:=m.step dB (GS λ_ z=>by cases z) (λr ⟨j,e⟩=>by rw [e]) bR
  have tf:=hc.fr dB
  obtain ⟨An,NW⟩:=cV dB hD rD (GS λ_ z=>by cases z)
  have GU:xx t Am Z2 id kvs ((aE ls i).map λi=>(i,iZ ns)):=xx.nW dB (λc hc j=>by
   obtain ⟨i',GV,rfl⟩:=mem_map.mp hc
   have:=NS GV
   refine GS λj' z=>?_
   have:i' = (i:Int):=(Part.kp.inj z).1
   omega) ks
  have nv:aX kvs (.inl (i:Int)) = none:=by
   cases e:aX kvs (.inl (i:Int)) with
   | none=>rfl
   | some v=>
    exfalso
    have hm:=R8 e
    obtain ⟨j,hj,ej⟩:=mem_iff_getElem.mp hm
    rw [length_map] at hj
    obtain ⟨c,ec,e1,_⟩:=qd GU (getElem?_eq_getElem hj)
    rw [List.getElem_map] at ej
    rw [e1] at ej
    obtain ⟨i',GV,rfl⟩:=mem_map.mp (mem_of_getElem? ec)
    have:=NS GV
    have:i' = (i:Int):=Sum.inl.inj ej
    omega
  have lk:kvs.length <= 1000:=by
   rw [Paired.length GU,length_map]
   have:=GQ ls i
   omega
  refine ⟨_,gY.k (k:=.inl (i:Int)) An (xi lk),?_⟩
  rw [rX _ nv]
  have f3:Fr (eT id .kd) Z2 Am Z2 (upd Am D (.dK (kvs ++ [(.inl (i:Int),.ref k)]))):=Fr.put NW rfl
  refine ⟨_,_,Z2,rfl,mm.step f3 jy (λr e=>by rw [e]) bR.put,tf.fr f3,NW,ja,?_⟩
  rw [Aj,if_neg nl,map_append]
  exact qo (xx.fr f3 (λ_ _=>jy) GU) ⟨rfl,k,A2,dk,rfl,R2.fr (λ_=>jy) f3⟩
 .rintro U G10 ⟨v,kvs,Z1,rfl,Ao,c10,rD,hD,ks⟩
  clear m8 c8 m9 c9 nD
  refine ⟨_,rfl,x,_,dx,_,rfl,Ao.ob,T.jh,T.qv,(by show 4 < 1000; decide),?_⟩
  have Ap:=Ao.obj (fs':=q5 ns ly ch D)
  have oO:=Ao.fo (fs':=q5 ns ly ch D)
  have c11:=c10.fr oO
  have k11:=fX oO jy (λ_ _=>jy) rD ⟨kvs,hD,ks⟩
  dsimp only
  generalize upd G10 x (.ins t.jz dx (q5 ns ly ch D)) = qP at Ap c11 k11
  clear oO Ao c10
  refine hN _ _ (aJ λN hN=>⟨_,rfl,_,rfl,h,f,rfl,λb db nb ndb neb=>?_⟩)
  have sb:xp qP (upd qP db (.own b)):=jg ndb
  have nb1:upd qP db (.own b) b = none:=by rw [jd neb.symm]; exact nb
  refine ⟨b,db,h - f,rfl,ja,λS vB nS Bq fr=>⟨rfl,?_⟩⟩
  have nS0:qP S = none:=by
   have nSb:S ≠ b:=λz=>by rw [z,ja] at nS; cases nS
   rw [jd nSb] at nS
   exact sb.free nS
  have GW:xp qP vB:=λc u e=>fr _ _ (by rw [jd (ji (sb _ _ e) nb1)]; exact sb _ _ e) (ji e nb)
  have bS:b ≠ S:=dg Bq.ob Bq.sg (by intro z; cases z)
  have dB:Fr (λ_=>False) Z1 qP (aD (aD Z1 b (id,.bd)) S (id,.sd)) vB:=λa u e _=>⟨GW _ _ e,by rw [xo (ji e nS0),xo (ji e nb)]⟩
  have oP:ax (aD (aD Z1 b (id,.bd)) S (id,.sd)) vB:=λa r e=>by
   by_cases z:a = S
   .subst z
    exact ⟨_,Bq.sg,True.intro⟩
   .rw [xo z] at e
    by_cases y:a = b
    .subst y
     exact ⟨_,Bq.ob,True.intro⟩
    .rw [xo y] at e
     obtain ⟨u,hu,nu⟩:=Ap.kr a r e
     exact ⟨u,GW _ _ hu,nu⟩
  have vC:=Ap.step dB (λz=>z) (λ_ z=>z.elim) oP
  have c12:=c11.fr dB
  have k12:=fX dB (λz=>z) (λ_ _ z=>z) k11.1 k11.2
  have mP:(aD (aD Z1 b (id,.bd)) S (id,.sd)) b = some (id,.bd) /\ (aD (aD Z1 b (id,.bd)) S (id,.sd)) S = some (id,.sd) /\ ∃ kvs,yl t vB b db S (h - f) kvs (aY []) /\ lE (aD (aD Z1 b (id,.bd)) S (id,.sd)) id kvs:=⟨by rw [xo bS,zu],zu,[],Bq,λ_ z=>by cases z⟩
  generalize aD (aD Z1 b (id,.bd)) S (id,.sd) = Z2 at vC c12 k12 mP oP dB
  clear Ap c11 k11 dB oP
  refine ⟨_,rfl,x,_,dx,_,rfl,vC.ob,T.jh,T.qr,(by show 5 < 1000; decide),?_⟩
  have GX:=vC.obj (fs':=q6 ns ly ch D b)
  have fo:=vC.fo (fs':=q6 ns ly ch D b)
  have c13:=c12.fr fo
  have k13:=fX fo jy (λ_ _=>jy) k12.1 k12.2
  have Aq:=ik fo jy jy jy mP.1 mP.2.1 mP.2.2
  dsimp only
  generalize upd vB x (.ins t.jz dx (q6 ns ly ch D b)) = G13 at GX c13 k13 Aq
  clear vC c12 k12 mP fo
  have hsa:=vA GX
  refine hN _ _ (aJ λN hN=>⟨_,rfl,sa,rfl,⟨_,ag.of hsa⟩,nY (K:=K) (a:=sa) (xs:=ns.map V.int) (λi ys U H'=>∃ v rr Z',U = [v] /\ ys = rr.map V.ref /\ rr.length = i /\ cW t Z H id x dx (q6 ns ly ch D b) Z' H' /\ Fr (λ_=>False) Z2 G13 Z' H' /\ ∀ (j:Nat) r,rr[j]? = some r -> Z' r = some (id,.row j) /\ H' r = some (.lst [])) ⟨none,[],Z2,rfl,rfl,rfl,GX,Fr.refl,λj r e=>by cases e⟩ ?_ ?_ ?_⟩)
  .rintro i ys U H' hi ⟨v,rr,Z',rfl,rfl,lr,mm,ff,Ar⟩
   rw [length_map] at hi
   refine ⟨ag.of (vA mm),oC ?_⟩
   rw [length_map]
   omega
  .rintro i y ys U H' hy ⟨v,rr,Z',rfl,rfl,lr,mm,ff,Ar⟩
   dsimp only [eO,pM]
   rw [if_pos rfl]
   refine ⟨cI,λp np=>⟨_,rr ++ [p],aD Z' p (id,.row i),rfl,?_,?_,mm.new np,ff.trans (Fr.cx np),λj r e=>?_⟩⟩
   .rw [map_append]; rfl
   .rw [length_append,lr]; rfl
   .by_cases z:j < rr.length
    .rw [List.getElem?_append_left z] at e
     obtain ⟨q1,q2⟩:=Ar j r e
     have:r ≠ p:=ji q2 np
     exact ⟨by rw [xo this]; exact q1,by rw [jd this]; exact q2⟩
    .rw [List.getElem?_append_right (by omega)] at e
     have j0:j = rr.length:=by
      have:=(List.getElem?_eq_some_iff.mp e).1
      simp at this
      omega
     subst j0
     rw [Nat.sub_self] at e
     cases e
     rw [lr]
     exact ⟨zu,ja⟩
  .rintro ys U H' ⟨v,rr,Z3,rfl,rfl,lr,m14,oQ,Ar⟩ ak NX
   rw [length_map] at lr
   have c14:=c13.fr oQ
   have k14:=fX oQ (λz=>z) (λ_ _ z=>z) k13.1 k13.2
   have GY:=ik oQ (λz=>z) (λz=>z) (λz=>z) Aq.1 Aq.2.1 Aq.2.2
   have lI:Fr (λ_=>False) Z3 H' (aD Z3 ak (id,.ak)) (upd H' ak (.lst (rr.map V.ref))):=Fr.cx NX
   have As:=m14.new (r:=(id,.ak)) NX (u:=.lst (rr.map V.ref))
   have c15:=c14.fr lI
   have k15:=fX lI (λz=>z) (λ_ _ z=>z) k14.1 k14.2
   have Au:=ik lI (λz=>z) (λz=>z) (λz=>z) GY.1 GY.2.1 GY.2.2
   have a15:(aD Z3 ak (id,.ak)) ak = some (id,.ak) /\ ∃ rs,upd H' ak (.lst (rr.map V.ref)) ak = some (.lst (rs.map V.ref)) /\ lD (upd H' ak (.lst (rr.map V.ref))) (aD Z3 ak (id,.ak)) id rs (List.replicate ns.length []):=by
    refine ⟨zu,rr,ja,by rw [lr,length_replicate],λi r os e1 e2=>?_⟩
    obtain ⟨q1,q2⟩:=Ar i r e1
    obtain ⟨q3,q4⟩:=cV lI q2 q1 (λz=>z)
    have:os = []:=eq_of_mem_replicate (mem_of_getElem? e2)
    subst this
    exact ⟨q4,[],q3,.nil⟩
   generalize aD Z3 ak (id,.ak) = Z4 at lI As c15 k15 Au a15
   refine ⟨_,rfl,x,_,dx,_,rfl,As.ob,T.jh,T.Ge,(by show 6 < 1000; decide),?_⟩
   have NY:=As.obj (fs':=q7 ns ly ch D b ak)
   have fo:=As.fo (fs':=q7 ns ly ch D b ak)
   have c16:=c15.fr fo
   have k16:=fX fo jy (λ_ _=>jy) k15.1 k15.2
   have Av:=ik fo jy jy jy Au.1 Au.2.1 Au.2.2
   have a16:=lF fo jy (λ_=>jy) a15.1 a15.2
   dsimp only
   generalize upd (upd H' ak (.lst (rr.map V.ref))) x (.ins t.jz dx (q7 ns ly ch D b ak)) = NZ at NY c16 k16 Av a16
   refine hN _ _ ⟨cI,λwy N0=>?_⟩
   have mQ:Fr (λ_=>False) Z4 NZ (aD Z4 wy (id,.wy)) (upd NZ wy (.lst [])):=Fr.cx N0
   have GZ:=NY.new (r:=(id,.wy)) N0 (u:=.lst [])
   have c17:=c16.fr mQ
   have k17:=fX mQ (λz=>z) (λ_ _ z=>z) k16.1 k16.2
   have G0:=ik mQ (λz=>z) (λz=>z) (λz=>z) Av.1 Av.2.1 Av.2.2
   have a17:=lF mQ (λz=>z) (λ_ z=>z) a16.1 a16.2
   refine ⟨_,rfl,x,_,dx,_,rfl,GZ.ob,T.jh,T.zi,(by show 7 < 1000; decide),?_⟩
   have Aw:=GZ.obj (fs':=cU (ns.map V.int).length ns.sum ly ch D b ak wy)
   have i0:=GZ.fo (fs':=cU (ns.map V.int).length ns.sum ly ch D b ak wy)
   have c18:=c17.fr i0
   have k18:=fX i0 jy (λ_ _=>jy) k17.1 k17.2
   have b18:=ik i0 jy jy jy G0.1 G0.2.1 G0.2.2
   have a18:=lF i0 jy (λ_=>jy) a17.1 a17.2
   have y18:=GC (way:=[]) i0 jy zu ⟨[],ja,.nil⟩
   refine k _ _ ⟨x,dx,ns.sum,ly,ch,D,b,ak,wy,db,S⟩ rfl rfl ⟨⟨?_,Aw.rx⟩,c18.c,k18,b18,a18,y18⟩ c18.l Aw.fr Aw.kr
   refine (Aw.ob).trans ?_
   show some (HO.ins t.jz dx (cU ((ns.map V.int).length:Int) ns.sum ly ch D b ak wy)) = some (HO.ins t.jz dx (cU (ns.length:Int) ns.sum ly ch D b ak wy))
   rw [length_map]
theorem jj9 (T:Txt K mg t):xm P w K mg base CX0 3 t.um t.EZ ["self","liar"] (λvs H Q _=>∃Z id W Y h ls,vs=[.ref W.x,.int h]/\qk t H Z id W Y/\H W.ly=some (.lst ((ls:List Int).map V.int))/\h∈ls/\Q .aj H):=by refine T.Yz.aZ (N:=["self","liar"]) λ_ A _ s H vs Q E hr h=>?_;obtain⟨Z,id,W,Y,h,ls,rfl,O,hl,hm,g⟩:=h;refine⟨_,(@je _ _ _ (zd (PW.pt (dF (zy (qz (jo (zS T) hr.dn rfl T.zM T.uG.kp T.zN .nil jn (jc (pv 1) jf)))) (dS (jw wZ (pv 1) (j7 (pv 0) rfl) (by with_unfolding_all rfl))))) qm j6)),?_⟩;refine⟨_,rfl,h,rfl,_,rfl,vd ?_⟩;refine⟨_,rfl,_,rfl,W.x,_,W.dx,_,_,rfl,O.ob.1,T.jh,T.Gd,Nt,W.ly,_,rfl,.inl (ag.of hl),rfl,vq _,_,rfl,?_⟩;rw[if_pos rfl,ya,decide_eq_true hm];exact vd g
theorem j0t {K:W.Frag}{H:Hp}{Z:aq}{xs:List V}{os:List O}(p:Paired (zv H Z) xs os):Paired (jK K H) xs (os.map za):=by
 induction p with
 |nil=>exact .nil
 |cons h _ ih=>obtain⟨a,e,_,q⟩:=h;exact .cons ⟨a,e,aw.of q⟩ ih
noncomputable def Wd.may (Y:Wd)(o:O):Prop:=o.p∈Y.gf\/∃row,Y.asked[o.p.toNat]?=some row/\o∈row
theorem G7 (T:Txt K mg t):xm P w K mg base CX0 6 t.E7 t.E8 ["self","liar","order"] (λvs H Q _=>∃Z id W Y h q o ls a b c,vs=[.ref W.x,.int h,.ref q]/\qk t H Z id W Y/\ax Z H/\H W.ly=some (.lst ((ls:List Int).map V.int))/\h∈ls/\zv H Z (.ref q) o/\y4 Y.n o=true/\Y.may o/\Sz Y a b c/\a+1<=1000/\b+1<=1000/\c+16<=100000/\∀Z' H',qk t H' Z' id W (Y.zg h [o])->Fr (qI id) Z H Z' H'->ax Z' H'->Q .aj H'):=by
 refine T.YI.aZ (N:=["self","liar","order"]) λ_ A _ s H vs Q E hr h=>?_;obtain⟨Z,id,W,Y,h,q,o,ls,a,b,c,rfl,O,kr,hl,hm,uq,ho,may,sz,la,lb,lc,g⟩:=h;refine⟨_,(@jb _ _ _ _ _ (j8 (j5 (pv 0) T.jh T.YA (jj9 T) hr.dn T.YB .nil jn (jc (pv 1) jf))) (@jb _ _ _ _ _ (j8 (j5 (pv 0) T.jh T.zw (x8 T) hr.dn T.xk .nil jn (jc (pv 2) jf))) (@jb _ _ _ _ _ (zd (PW.pt (jZ (jw wZ (kl fP (pv 2) jk (λ_ _=>rfl)) (j7 (pv 0) rfl) (by with_unfolding_all rfl)) (lS (jw (Ud hr.units) (pv 2) (kl fO (j7 (pv 0) rfl) (kl fP (pv 2) jk (λ_ _=>rfl)) (λ_ _=>rfl)) (by with_unfolding_all rfl))))) qm j6) (@je _ _ _ (j8 (j5 (pv 0) T.jh T.vc (GI T) hr.dn T.we .nil jn (@y3 _ _ _ _ _ (pv 1) (@zj _ _ _ _ (jc (pv 2) jf)) rfl rfl))))))),?_⟩;have uW:=uq;obtain⟨_,eq,nq,hq⟩:=uW;cases eq;refine⟨_,rfl,W.x,W.dx,_,rfl,O.ob.1,qy,_,rfl,Z,id,W,Y,h,ls,rfl,O,hl,hm,?_⟩;refine⟨_,rfl,W.x,W.dx,_,rfl,O.ob.1,qy,_,rfl,Z,id,W,Y,q,o,rfl,O,hq,ho,?_⟩;refine⟨_,rfl,q,bI o,0,.int o.p,rfl,rfl,aw.of hq,rfl,_,rfl,W.x,_,W.dx,_,_,rfl,O.ob.1,T.jh,T.yc,Gx,W.ch,_,rfl,.inl (ag.of O.ch.1),rfl,vq _,_,rfl,?_⟩;rw[if_pos rfl,ya];refine bq (λz=>?_) (λ_=>vd ?_)
 rotate_left
 .refine⟨_,rfl,W.x,W.dx,_,rfl,O.ob.1,qy,_,rfl,_,rfl,oB,λL nL=>?_⟩;have s1:=jg (o:=.lst [.ref q]) nL;refine⟨Z,id,W,Y,h,L,[.ref q],[o],a,b,c,rfl,O.fr (P:=λ_=>False) (λ_ z=>z) (Fr.same s1),kr.same s1,ja,λro e=>?_,.cons (uq.fr (P:=λ_=>False) (Fr.same s1)) .nil,sz,la,lb,lc,λZ' H' O' f' lJ=>g Z' H' O' ((Fr.same s1).trans f') lJ⟩;rw[kr.none nL]at e;cases e
 have nc:o.p∉Y.gf:=by simpa using z
 obtain⟨row,er,om⟩:∃row,Y.asked[o.p.toNat]?=some row/\o∈row:=may.resolve_left nc;obtain⟨ra,rs,ha,eI⟩:=O.ak;obtain⟨r,N1⟩:∃r,rs[o.p.toNat]?=some r:=⟨_,getElem?_eq_getElem (by rw[eI.1];exact(List.getElem?_eq_some_iff.mp er).1)⟩;obtain⟨rr,xs,mO,px⟩:=eI.2 _ _ _ N1 er;have p0:0<=o.p:=(mG.mp ho).1;refine⟨_,rfl,_,rfl,W.x,_,W.dx,_,_,rfl,O.ob.1,T.jh,T.Ge,Nu,_,rfl,q,bI o,0,.int o.p,rfl,rfl,aw.of hq,rfl,W.ak,_,o.p,.ref r,rfl,rfl,ag.of ha,kZ p0 (by rw[getElem?_map,N1];rfl),?_⟩;refine⟨r,xs,za o,row.map za,rfl,ag.of mO,⟨q,rfl,aw.of hq⟩,j0t px,_,rfl,?_⟩;rw[if_pos rfl,decide_eq_true (mem_map_of_mem om)];refine vd ?_;refine⟨_,rfl,W.x,W.dx,_,rfl,O.ob.1,qy,_,rfl,_,rfl,oB,λL nL=>?_⟩;have s1:=jg (o:=.lst [.ref q]) nL;refine⟨Z,id,W,Y,h,L,[.ref q],[o],a,b,c,rfl,O.fr (P:=λ_=>False) (λ_ z=>z) (Fr.same s1),kr.same s1,ja,λro e=>?_,.cons (uq.fr (P:=λ_=>False) (Fr.same s1)) .nil,sz,la,lb,lc,λZ' H' O' f' lJ=>g Z' H' O' ((Fr.same s1).trans f') lJ⟩;rw[kr.none nL]at e;cases e
theorem jsr (T:Txt K mg t):xm P w K mg base CX0 6 t.E9 t.Fb ["self","order","house"] (λvs H Q _=>∃Z id W Y q o h B,vs=[.ref W.x,.ref q,.int h]/\qk t H Z id W Y/\ax Z H/\zv H Z (.ref q) o/\y4 Y.n o=true/\Y.keep h=some B/\Y.carried o=true/\Y.way.length<=100000/\∀H',qk t H' Z id W {Y with way:=Y.way++[(false,h,o)]}->Fr (eT id .wy) Z H Z H'->ax Z H'->Q .aj H'):=by
 refine T.YJ.aZ (N:=["self","order","house"]) λ_ A _ s H vs Q E hr h=>?_;obtain⟨Z,id,W,Y,q,o,h,B,rfl,O,kr,uq,ho,ek,ecr,l,g⟩:=h;refine⟨_,(@jb _ _ _ _ _ (j8 (j5 (pv 0) T.jh T.y8 (ug T) hr.dn T.wj .nil jn (jc (pv 2) jf))) (@jb _ _ _ _ _ (zd (PW.pt (dF (zy (qz (gu (zT T) hr.dn rfl T.zO T.uH.kp T.FQ jn (jc (pv 1) jf) (yn (j7 (pv 0) rfl) gH)))) (dS (zy (qz (j5 (j7 (pv 0) rfl) T.zf T.xl (yp T) hr.dn T.xt .nil jn (jc (pv 1) jf))))))) qm j6) (@je _ _ _ (j8 (dZ PySem.F.plainAttrs_list PySem.F.slot_list_append PySem.F.type_list_append yh (j7 (pv 0) rfl) (jc (@gG _ _ _ _ _ (@bW _ _ _ _ _ _ _ (ze (v:=.str "paper") rfl T.MV.choose_spec ⟨_,rfl⟩) (pv 2) (pv 1) rfl rfl rfl)) jf)))))),?_⟩;have uW:=uq;obtain⟨_,eq,nq,hq⟩:=uW;cases eq;refine⟨_,rfl,W.x,W.dx,_,rfl,O.ob.1,qy,_,rfl,Z,id,W,Y,h,B,rfl,O,ek,λk A' dk R=>?_⟩;refine⟨_,rfl,_,rfl,W.x,_,W.dx,_,_,rfl,O.ob.1,T.jh,T.vg,Gw,q,o,(Y.n:Int),rfl,hq,_,rfl,?_⟩;rw[ho];refine vd ?_;obtain⟨rb,rS,fW,Bq,sg⟩:=O.bd;refine⟨_,rfl,W.x,_,W.dx,_,_,rfl,O.ob.1,T.jh,T.qr,mL,W.bd,W.db,_,rfl,Bq.ob,lq _ _ (by decide+kernel) (by decide+kernel),_,rfl,W.bd,W.db,W.S,Y.en,fW,aY Y.bd,q,bJ o,rfl,Bq.rd,hq,λH1 s1=>⟨_,rfl,?_⟩⟩;have ec:decide (Y.en<=((qb (aY Y.bd) (bJ o)).length:Int))=Y.carried o:=by
  unfold Wd.carried;rw[show qb (aY Y.bd) (bJ o)=jq Y.bd (za o)from wd (za o) Y.bd]
 rw[ec,ecr];refine vd ?_;have O1:=O.fr (P:=λ_=>False) (λ_ z=>z) (Fr.same s1);have bK:=kr.same s1;have mK:=uq.fr (P:=λ_=>False) (Fr.same s1);have f1:Fr (eT id .wy) Z H Z H1:=Fr.same s1;obtain⟨dM,xs,hw,pw⟩:=O1.wy;refine⟨_,rfl,W.x,_,W.dx,_,_,rfl,O1.ob.1,T.jh,T.zi,qG,.inl ⟨rfl,_,ag.of hw⟩,_,rfl,_,rfl,kY,λp np=>?_⟩;have sp:=jg (o:=.tup [.str "paper",.int h,.ref q]) np;have lx:xs.length<=1000000:=by rw[Paired.length pw];omega
 refine⟨W.wy,xs,.ref p,rfl,rfl,sp _ _ hw,big lx,?_⟩;have O2:=O1.fr (P:=λ_=>False) (λ_ z=>z) (Fr.same sp);have f2:Fr (eT id .wy) Z (upd H1 p (.tup [.str "paper",.int h,.ref q])) Z (upd (upd H1 p (.tup [.str "paper",.int h,.ref q])) W.wy (.lst (xs++[.ref p]))):=Fr.put dM rfl;have f0:Fr (eT id .wy) Z H1 Z (upd H1 p (.tup [.str "paper",.int h,.ref q])):=Fr.same sp;refine g _ (O2.but f2 _ jy rfl rfl (fX f2 jy (λ_ _=>jy)) (ik f2 jy jy jy) (lF f2 jy (λ_=>jy)) (λ_ _=>⟨dM,_,ja,?_⟩)) ((f1.trans f0).trans f2) (bK.same sp).put;have lC:=bK.none np;refine qo (Paired.ub pw λ_ _=>cq.fr (f0.trans f2)) ⟨p,q,rfl,lC,?_,mK.fr (f0.trans f2)⟩;rw[jd (Aa lC dM),ja];rfl
theorem gi {α:Type}[DecidableEq α]:∀{xs ys:List α},xs.Nodup->(∀x∈xs,x∈ys)->xs.length<=ys.length
 |[],_,_,_=>zero_le _
 |x::xs,ys,nd,h=>by rw[nodup_cons]at nd;have hx:=h x mem_cons_self;have:=gi (xs:=xs) (ys:=ys.erase x) nd.2 λy hy=>(List.mem_erase_of_ne (λz=>nd.1 (by rw[<-z];exact hy))).mpr (h y (mem_cons_of_mem _ hy));rw[length_erase_of_mem hx]at this;have:=length_pos_of_mem hx;rw[length_cons];lia
theorem j36 (B:Kp)(o:O)(a:Gv):(cK B o a).1.length+(cK B o a).2.2.length<=a.1.length+a.2.2.length+1:=by
 unfold cK;split
 .simp;lia
 .split
  .simp;lia
  .omega
theorem N2 (B:Kp):∀(os:List O)(a:Gv),(gv B os a).1.length+(gv B os a).2.2.length<=a.1.length+a.2.2.length+os.length
 |[],a=>by simp[gv]
 |o::os,a=>by have h1:=N2 B os (cK B o a);have h2:=j36 B o a;unfold gv at h1⊢;rw[foldl_cons,length_cons];lia
theorem G9 (B:Kp){P:O->Prop}:∀(os:List O)(a:Gv),(∀o∈os,P o)->(∀o∈a.2.1,P o)->∀o∈(gv B os a).2.1,P o
 |[],a,_,h=>h
 | o::os,a,h1,h2=>by
  unfold gv;rw[foldl_cons];refine G9 B os _ (λo' h=>h1 o' (mem_cons_of_mem _ h)) ?_;unfold cK;split
  .intro o' h;rcases mem_append.mp h with h|h
   .exact h2 o' h
   .rw[mem_singleton.mp h];exact h1 o mem_cons_self
  .split
   .exact h2
   .exact h2
structure cX (L:List O)(m n:Nat)(B:Kp):Prop where
 ok:B.Ok n
 sz:ND B m
 u:∀o∈B.aH,o∈L
 w:∀o∈B.wait,o∈L
theorem cX.zg {L:List O}{m n:Nat}{B:Kp}(k:cX L m n B):cX L m n B.zg.1/\(∀o∈B.zg.2,o∈L)/\B.zg.2.length<=m:=by
 refine⟨⟨k.ok.zg,⟨k.sz.hd,?_,k.sz.dw⟩,Gi B B.aH _ k.u (λo h=>by cases h),k.w⟩,G9 B B.aH _ k.u (λo h=>by cases h),?_⟩
 .have h1:=N2 B B.aH (B.cho,[],[]);have h2:=k.sz.uc;show(gv B B.aH (B.cho,[],[])).2.2.length+(gv B B.aH (B.cho,[],[])).1.length<=m;simp at h1;lia
 .have h1:=(Gp B B.aH (B.cho,[],[])).2.1;have h2:=k.sz.uc;show(gv B B.aH (B.cho,[],[])).2.1.length<=m;simp at h1;lia
theorem cX.go {L:List O}{m n:Nat}:∀{j:Nat}{B:Kp},cX L m n B->cX L m n (Kp.go j B)
 |0,_,k=>k
 | j+1,B,k=>by
  unfold Kp.go;cases e:B.first with
  |none=>exact k
  |some o=>
   have om:=Ab e;have l2:(B.step o).wait.length=B.wait.length-1:=length_erase_of_mem om;have l1:(B.step o).done.length=B.done.length+1:=by show(B.done++[o]).length=_;rw[length_append];rfl
   have:=length_pos_of_mem om;have:=k.sz.dw;exact cX.go (B:=B.step o) ⟨k.ok.step o,⟨k.sz.hd,k.sz.uc,by lia⟩,k.u,λo' h=>k.w o' (List.mem_of_mem_erase h)⟩
theorem cX.mono {L L':List O}{m m' n:Nat}{B:Kp}(k:cX L m n B)(h1:∀o∈L,o∈L')(h2:m<=m'):cX L' m' n B:=⟨k.ok,⟨le_trans k.sz.hd h2,le_trans k.sz.uc h2,le_trans k.sz.dw h2⟩,λo h=>h1 o (k.u o h),λo h=>h1 o (k.w o h)⟩
theorem cX.take {L:List O}{m n:Nat}{B:Kp}(k:cX L m n B)(b:Bool){o:O}(ol:o∈L)(ho:y4 n o=true):cX L (m+1) n (B.take b o).1/\(∀o'∈(B.take b o).2,o'∈L)/\(B.take b o).2.length<=m+1:=by
 have h1:=k.sz.hd;have h2:=k.sz.uc;have h3:=k.sz.dw;have vD:cX L (m+1) n B/\(∀o'∈([]:List O),o'∈L)/\([]:List O).length<=m+1:=⟨k.mono (λ_ h=>h) (by lia),(λ_ z=>by cases z),zero_le _⟩;unfold Kp.take;split
 .unfold Kp.oE;split
  .exact vD
  .refine cX.zg (m:=m+1) ⟨⟨k.ok.h,k.ok.x,λu hu=>?_,k.ok.w,k.ok.nd⟩,⟨by show(B.de++[o]).length<=m+1;rw[length_append];show B.de.length+1<=m+1;lia,by show(B.aH++[o]).length+B.cho.length<=m+1;rw[length_append];show B.aH.length+1+B.cho.length<=m+1;lia,by show B.done.length+B.wait.length<=m+1;lia⟩,λu hu=>?_,k.w⟩
   .rcases mem_append.mp hu with hu|hu
    .exact k.ok.u u hu
    .rw[mem_singleton.mp hu];exact ho
   .rcases mem_append.mp hu with hu|hu
    .exact k.u u hu
    .rw[mem_singleton.mp hu];exact ol
 .unfold Kp.jN;split
  .exact vD
  .rename_i nz;have no:¬o∈B.wait:=λz=>nz (by rw[decide_eq_true z,Bool.or_true]);refine cX.zg (m:=m+1) (cX.go ⟨⟨k.ok.h,k.ok.x,k.ok.u,λu hu=>?_,?_⟩,⟨by show B.de.length<=m+1;lia,by show B.aH.length+B.cho.length<=m+1;lia,by show B.done.length+(B.wait++[o]).length<=m+1;rw[length_append];show B.done.length+(B.wait.length+1)<=m+1;lia⟩,k.u,λu hu=>?_⟩)
   .rcases mem_append.mp hu with hu|hu
    .exact k.ok.w u hu
    .rw[mem_singleton.mp hu];exact ho
   .exact nodup_append.mpr ⟨k.ok.nd,by simp,λx hx y hy e=>by rw[mem_singleton.mp hy]at e;subst e;exact no hx⟩
   .rcases mem_append.mp hu with hu|hu
    .exact k.w u hu
    .rw[mem_singleton.mp hu];exact ol
structure i3 (L:List O)(hs:List Int)(is:zx):Prop where
 nd:(is.map (·.1)).Nodup
 ks:∀x∈is,∃o∈L,x.1=za o
 hn:∀x∈is,x.2.Nodup/\∀h∈x.2,h∈hs
theorem N3 {k:List Int}{h:Int}:∀{is:zx}{y:List Int},y∈(cP is k h).map (·.1)->y∈is.map (·.1)\/y=k
 |[],y,hy=>.inr (mem_singleton.mp hy)
 | p::ps,y,hy=>by
  unfold cP at hy;split at hy
  .rw[map_cons,mem_cons]at hy⊢;exact .inl hy
  .rw[map_cons,mem_cons]at hy⊢;rcases hy with hy|hy
   .exact .inl (.inl hy)
   .rcases N3 hy with h|h
    .exact .inl (.inr h)
    .exact .inr h
theorem i3.sign {L:List O}{hs:List Int}{o:O}{h:Int}(ol:o∈L)(hh:h∈hs):∀{is:zx},i3 L hs is->h∉jq is (za o)->i3 L hs (cP is (za o) h)
 |[],_,_=>⟨by simp[cP],λx hx=>by rw[mem_singleton.mp hx];exact⟨o,ol,rfl⟩,λx hx=>by rw[mem_singleton.mp hx];exact⟨by simp,λy hy=>by rw[mem_singleton.mp hy];exact hh⟩⟩
 | p ::ps,b,hn=>by
  have bt:i3 L hs ps:=⟨(nodup_cons.mp b.nd).2,λx hx=>b.ks x (mem_cons_of_mem _ hx),λx hx=>b.hn x (mem_cons_of_mem _ hx)⟩;unfold cP;unfold jq at hn;split
  .rename_i z;rw[if_pos z]at hn;refine⟨b.nd,λx hx=>?_,λx hx=>?_⟩
   .rcases mem_cons.mp hx with rfl|hx
    .exact b.ks p mem_cons_self
    .exact bt.ks x hx
   .rcases mem_cons.mp hx with rfl|hx
    .obtain⟨q1,q2⟩:=b.hn p mem_cons_self;refine⟨nodup_append.mpr ⟨q1,by simp,λx1 sP y1 hy1 e=>by rw[mem_singleton.mp hy1]at e;subst e;exact hn sP⟩,λy hy=>?_⟩;rcases mem_append.mp hy with hy|hy
     .exact q2 y hy
     .rw[mem_singleton.mp hy];exact hh
    .exact bt.hn x hx
  .rename_i z;rw[if_neg z]at hn;have ih:=bt.sign ol hh hn;refine⟨?_,λx hx=>?_,λx hx=>?_⟩
   .rw[map_cons,nodup_cons];refine⟨λy=>?_,ih.nd⟩;rcases N3 y with y|y
    .exact(nodup_cons.mp b.nd).1 y
    .exact z y
   .rcases mem_cons.mp hx with rfl|hx
    .exact b.ks _ mem_cons_self
    .exact ih.ks x hx
   .rcases mem_cons.mp hx with rfl|hx
    .exact b.hn _ mem_cons_self
    .exact ih.hn x hx
theorem i3.len {L:List O}{hs:List Int}{is:zx}(b:i3 L hs is):is.length<=L.length/\∀x∈is,x.2.length<=hs.length:=by
 refine⟨?_,λx hx=>gi (b.hn x hx).1 (b.hn x hx).2⟩;have:=gi (ys:=L.map za) b.nd λy hy=>by obtain⟨x,hx,rfl⟩:=mem_map.mp hy;obtain⟨o,ol,e⟩:=b.ks x hx;rw[e];exact mem_map_of_mem ol
 rwa[length_map,length_map]at this
structure Wd.jQ (Y Y':Wd):Prop where
 n:Y'.n=Y.n
 c:Y'.gf=Y.gf
 k:Y'.ks=Y.ks
 e:Y'.en=Y.en
 a:Y'.asked=Y.asked
theorem Wd.jQ.trans {a b c:Wd}(x:a.jQ b)(y:b.jQ c):a.jQ c:=⟨y.n.trans x.n,y.c.trans x.c,y.k.trans x.k,y.e.trans x.e,y.a.trans x.a⟩
theorem Ax (Y:Wd)(h:Int)(o:O):Y.jQ (Y.put h o).1:=by
 unfold Wd.put;split
 .exact⟨rfl,rfl,rfl,rfl,rfl⟩
 .exact⟨rfl,rfl,rfl,rfl,rfl⟩
theorem Ay (Y:Wd)(h:Int)(o:O):Y.jQ (Y.bE h o):=by
 have p:=Ax Y h o;unfold Wd.bE;split
 .exact⟨p.n,p.c,p.k,p.e,p.a⟩
 .exact p
theorem vE {Y:Wd}{h:Int}(m:h∈Y.ks.map (·.1)):∃B,Y.keep h=some B/\(h,B)∈Y.ks:=by
 unfold Wd.keep;cases e:Y.ks.find? λc=>decide (c.1=h)with
 |none=>obtain⟨c,hc,rfl⟩:=mem_map.mp m;have:=List.find?_eq_none.mp e c hc;simp at this
 |some c=>have h1:c.1=h:=of_decide_eq_true (find?_some (p:=λc:Int×Kp=>decide (c.1=h)) e);refine⟨c.2,rfl,?_⟩;rw[<-h1];exact mem_of_find?_eq_some e
theorem Az {k k':List Int}{h:Int}:∀{is:zx},jq (cP is k h) k'=if k'=k then jq is k++[h]else jq is k'
 |[]=>by
  show(if k=k' then[h]else[])=_;by_cases z:k'=k
  .rw[if_pos z,if_pos z.symm];rfl
  .rw[if_neg z,if_neg (λy=>z y.symm)];rfl
 | p::ps=>by
  unfold cP;by_cases y:p.1=k
  .rw[if_pos y];show(if p.1=k' then p.2++[h]else jq ps k')=if k'=k then(if p.1=k then p.2 else jq ps k)++[h]else if p.1=k' then p.2 else jq ps k';by_cases z:k'=k
   .rw[if_pos z,if_pos y,if_pos (by rw[y,z])]
   .rw[if_neg z,if_neg (λq=>z (by rw[<-q,y])),if_neg (λq=>z (by rw[<-q,y]))]
  .rw[if_neg y];show(if p.1=k' then p.2 else jq (cP ps k h) k')=if k'=k then(if p.1=k then p.2 else jq ps k)++[h]else if p.1=k' then p.2 else jq ps k';rw[Az (is:=ps),if_neg y];by_cases z:k'=k
   .rw[if_pos z,if_pos z,if_neg (λq=>y (by rw[q,z]))]
   .rw[if_neg z,if_neg z]
theorem jxu (Y:Wd)(h:Int)(o:O)(k:List Int):(jq Y.bd k).length<=(jq (Y.put h o).1.bd k).length:=by
 unfold Wd.put;split
 .exact le_refl _
 .show _<=(jq (cP Y.bd (za o) h) k).length;rw[Az];split
  .rename_i z;rw[z,length_append];lia
  .exact le_refl _
theorem jvz (Y:Wd)(h:Int)(o u:O)(c:Y.carried u=true):(Y.put h o).1.carried u=true:=by have e:=(Ax Y h o).e;have l:=jxu Y h o (za u);unfold Wd.carried at c⊢;have:=of_decide_eq_true c;exact decide_eq_true (by rw[e];lia)
theorem j46 {Y:Wd}{h:Int}{o:O}(c:(Y.put h o).2=true):(Y.put h o).1.carried o=true:=by
 unfold Wd.put at c⊢;split at c
 .cases c
 .rename_i z;rw[if_neg z];have:=of_decide_eq_true c;refine decide_eq_true ?_;show Y.en<=((jq (cP Y.bd (za o) h) (za o)).length:Int);rw[Az,if_pos rfl,length_append];show Y.en<=(((jq Y.bd (za o)).length+1:Nat):Int);lia
theorem vF (Y:Wd)(h:Int)(o:O):(Y.bE h o).bd=(Y.put h o).1.bd:=by unfold Wd.bE;split<;>rfl
theorem N4 {Y:Wd}{h:Int}{o u:O}(c:Y.carried u=true):(Y.bE h o).carried u=true:=by have:=jvz Y h o u c;unfold Wd.carried at this⊢;rw[vF,(Ay Y h o).e,<-(Ax Y h o).e];exact this
structure WG (Y:Wd)(L:List O)(hb:List Int):Prop where
 b:i3 L hb Y.bd
 y:∀x∈Y.way,x.2.2∈L/\x.2.1∈Y.ks.map (·.1)/\(x.1=false->Y.carried x.2.2=true)
theorem WG.bE {Y:Wd}{L:List O}{hb:List Int}{h:Int}{o:O}(g:WG Y L hb)(ol:o∈L)(hh:h∈hb):WG (Y.bE h o) L hb/\(Y.bE h o).way.length<=Y.way.length+Y.ks.length:=by
 have pb:i3 L hb (Y.put h o).1.bd/\(Y.put h o).1.way=Y.way/\(Y.put h o).1.ks=Y.ks:=by
  unfold Wd.put;split
  .exact⟨g.b,rfl,rfl⟩
  .rename_i hn;exact⟨g.b.sign ol hh hn,rfl,rfl⟩
 have lk:=Ay Y h o;have old:∀x∈Y.way,x.2.2∈L/\x.2.1∈(Y.bE h o).ks.map (·.1)/\(x.1=false->(Y.bE h o).carried x.2.2=true):=λx hx=>by obtain⟨a,b,c⟩:=g.y x hx;exact⟨a,by rw[lk.k];exact b,λe=>N4 (c e)⟩
 by_cases z:(Y.put h o).2=true
 .have ew:(Y.bE h o).way=Y.way++Y.ks.map λc=>(false,c.1,o):=by
   unfold Wd.bE;rw[if_pos z];show(Y.put h o).1.way++_=_;rw[pb.2.1,pb.2.2]
  refine⟨⟨by rw[vF];exact pb.1,λx hx=>?_⟩,by rw[ew,length_append,length_map];exact le_refl _⟩;rw[ew]at hx;rcases mem_append.mp hx with hx|hx
  .exact old x hx
  .obtain⟨c,hc,rfl⟩:=mem_map.mp hx;refine⟨ol,by rw[lk.k];exact mem_map_of_mem hc,λ_=>?_⟩;have:=j46 z;unfold Wd.carried at this⊢;rw[vF,lk.e,<-(Ax Y h o).e];exact this
 .have ew:(Y.bE h o).way=Y.way:=by
   unfold Wd.bE;rw[if_neg z,pb.2.1]
  exact⟨⟨by rw[vF];exact pb.1,λx hx=>old x (by rw[<-ew];exact hx)⟩,by rw[ew];lia⟩
theorem WG.zg {L:List O}{hb:List Int}{h:Int}(hh:h∈hb):∀{os:List O}{Y:Wd},(∀o∈os,o∈L)->WG Y L hb->WG (Y.zg h os) L hb/\Y.jQ (Y.zg h os)/\(∀u,Y.carried u=true->(Y.zg h os).carried u=true)/\(Y.zg h os).way.length<=Y.way.length+Y.ks.length*os.length
 |[],Y,_,g=>⟨g,⟨rfl,rfl,rfl,rfl,rfl⟩,λ_ h=>h,le_refl _⟩
 |o::os,Y,ol,g=>by obtain⟨g1,l1⟩:=g.bE (ol o mem_cons_self) hh;have lk:=Ay Y h o;obtain⟨g2,k2,c2,l2⟩:=WG.zg hh (os:=os) (Y:=Y.bE h o) (λo' h'=>ol o' (mem_cons_of_mem _ h')) g1;refine⟨g2,lk.trans k2,λu hu=>c2 u (N4 hu),?_⟩;show((Y.bE h o).zg h os).way.length<=_;rw[lk.k]at l2;rw[length_cons,Nat.mul_succ];lia
structure Gn (Y:Wd)(T M:Nat)(L:List O)(ls ns:List Int):Prop where
 ok:Y.Ok
 l:L.length<=T
 lo:∀o∈L,y4 Y.n o=true
 mw:∀o∈L,Y.may o
 ks:∀c∈Y.ks,cX L T Y.n c.2
 g:WG Y L (Y.ks.map (·.1)++ls)
 wl:Y.way.length<=M
 al:∀row∈Y.asked,row.length<=T
 e1:1<=Y.en
theorem i3.mono {L L':List O}{hs:List Int}{is:zx}(b:i3 L hs is)(h:∀o∈L,o∈L'):i3 L' hs is:=⟨b.nd,λx hx=>let⟨o,a,c⟩:=b.ks x hx;⟨o,h o a,c⟩,b.hn⟩
section
variable {Y:Wd}{T M T' M':Nat}{L:List O}{ls ns:List Int}
theorem Gn.mono (g:Gn Y T M L ls ns)(hT:T<=T')(hM:M<=M'):Gn Y T' M' L ls ns:=⟨g.ok,le_trans g.l hT,g.lo,g.mw,λc hc=>(g.ks c hc).mono (λ_ h=>h) hT,g.g,le_trans g.wl hM,λrow hr=>le_trans (g.al row hr) hT,g.e1⟩
theorem Gn.N5 (g:Gn Y T M L ls ns){b:Bool}{h:Int}{o:O}(ol:o∈L)(hh:h∈Y.ks.map (·.1))(hb:b=false->Y.carried o=true):Gn {Y with way:=Y.way++[(b,h,o)]} T (M+1) L ls ns:=by
 refine⟨⟨g.ok.n8,g.ok.al,g.ok.ao,g.ok.ks,g.ok.nd,g.ok.k0,g.ok.k1⟩,g.l,g.lo,g.mw,g.ks,⟨g.g.b,λx hx=>?_⟩,?_,g.al,g.e1⟩
 .rcases mem_append.mp (show x∈Y.way++[(b,h,o)]from hx)with hx|hx
  .exact g.g.y x hx
  .rw[mem_singleton.mp hx];exact⟨ol,hh,hb⟩
 .show(Y.way++[(b,h,o)]).length<=M+1;rw[length_append];have:=g.wl;show Y.way.length+1<=M+1;lia
theorem Gn.more (g:Gn Y T M L ls ns){o:O}(ho:y4 Y.n o=true)(hm:Y.may o):Gn Y (T+1) M (o::L) ls ns:=by
 have sub:∀u∈L,u∈o::L:=λu h=>mem_cons_of_mem _ h;refine⟨g.ok,by rw[length_cons];have:=g.l;lia,λu hu=>?_,λu hu=>?_,λc hc=>(g.ks c hc).mono sub (by lia),⟨g.g.b.mono sub,λx hx=>?_⟩,g.wl,λrow hr=>le_succ_of_le (g.al row hr),g.e1⟩
 .rcases mem_cons.mp hu with rfl|hu
  .exact ho
  .exact g.lo u hu
 .rcases mem_cons.mp hu with rfl|hu
  .exact hm
  .exact g.mw u hu
 .obtain⟨a,b,c⟩:=g.g.y x hx;exact⟨sub _ a,b,c⟩
theorem Gn.j9h (g:Gn Y T M L ls ns){o:O}{h:Int}(ho:y4 Y.n o=true)(hm:o.p∈Y.gf)(hh:h∈Y.ks.map (·.1)):Gn {Y with way:=Y.way++[(true,h,o)]} (T+1) (M+1) (o::L) ls ns:=(g.more ho (.inl hm)).N5 mem_cons_self hh (λz=>by cases z)
theorem Gn.zg (g:Gn Y T M L ls ns){h:Int}(hh:h∈Y.ks.map (·.1)++ls){os:List O}(ol:∀o∈os,o∈L):Gn (Y.zg h os) T (M+16*os.length) L ls ns:=by
 obtain⟨g2,lk,cc,l2⟩:=WG.zg hh ol g.g;refine⟨⟨by rw[lk.n];exact g.ok.n8,by rw[lk.a,lk.n];exact g.ok.al,by rw[lk.a,lk.n];exact g.ok.ao,by rw[lk.k,lk.n];exact g.ok.ks,by rw[lk.k];exact g.ok.nd,by rw[lk.k];exact g.ok.k0,by rw[lk.k];exact g.ok.k1⟩,g.l,by rw[lk.n];exact g.lo,λo ho=>?_,?_,by rw[lk.k];exact g2,?_,by rw[lk.a];exact g.al,by rw[lk.e];exact g.e1⟩
 .have:=g.mw o ho;unfold Wd.may at this⊢;rw[lk.c,lk.a];exact this
 .rw[lk.k,lk.n];exact g.ks
 .refine le_trans l2 ?_;have h1:=g.wl;have h2:=Nat.mul_le_mul_right os.length g.ok.k1;lia
theorem Gn.iX (g:Gn Y T M L ls ns){i:Nat}{l:Bool×Int×O}{B:Kp}(el:Y.way[i]?=some l)(ek:Y.keep l.2.1=some B):Gn (Y.iX i l B) (T+1) (M+16*(T+1)) L ls ns:=by
 obtain⟨lL,lh,lc⟩:=g.g.y l (mem_of_getElem? el);obtain⟨κ',N6,km⟩:=vE lh;rw[ek]at N6;cases N6;have kk:=g.ks _ km;obtain⟨k1,k2,k3⟩:=kk.take l.1 lL (g.lo _ lL);have fY:(bY Y.ks l.2.1 (B.take l.1 l.2.2).1).map (·.1)=Y.ks.map (·.1):=by
  unfold bY;rw[map_map];refine List.map_congr_left λc _=>?_;show(if c.1=l.2.1 then(l.2.1,(B.take l.1 l.2.2).1)else c).1=c.1;split
  .rename_i z;exact z.symm
  .rfl
 have oR:∀c∈bY Y.ks l.2.1 (B.take l.1 l.2.2).1,cX L (T+1) Y.n c.2:=λc hc=>by
  obtain⟨c',i7,rfl⟩:=mem_map.mp hc;split
  .exact k1
  .exact(g.ks c' i7).mono (λ_ h=>h) (by lia)
 have mid:Gn {Y with way:=Y.way.eraseIdx i,ks:=bY Y.ks l.2.1 (B.take l.1 l.2.2).1} (T+1) M L ls ns:=by refine⟨⟨g.ok.n8,g.ok.al,g.ok.ao,λc hc=>(oR c hc).ok,by show((bY Y.ks l.2.1 _).map _).Nodup;rw[fY];exact g.ok.nd,by show 0<(bY _ _ _).length;rw[Ag];exact g.ok.k0,by show(bY _ _ _).length<=16;rw[Ag];exact g.ok.k1⟩,le_succ_of_le g.l,g.lo,g.mw,oR,?_,le_trans (length_eraseIdx_le _ _) g.wl,λrow hr=>le_succ_of_le (g.al row hr),g.e1⟩;show WG _ L ((bY Y.ks l.2.1 _).map (·.1)++ls);rw[fY];refine⟨g.g.b,λx hx=>?_⟩;obtain⟨a,b,c⟩:=g.g.y x (List.mem_of_mem_eraseIdx hx);exact⟨a,by show _∈(bY Y.ks l.2.1 _).map (·.1);rw[fY];exact b,c⟩
 have q:=mid.zg (h:=l.2.1) (by show _∈(bY Y.ks l.2.1 _).map (·.1)++ls;rw[fY];exact mem_append_left _ lh) k2;exact q.mono (le_refl _) (by have:=Nat.mul_le_mul_left 16 k3;lia)
theorem Gn.ask (g:Gn Y T M L ls ns)(hT:T<=90){p g' m:Int}{row:List O}(hp:0<=p/\p<(Y.n:Int))(hg:0<=g'/\g'<(Y.n:Int))(ng:g'≠p)(hm:1<=m/\m<=1000)(er:Y.asked[p.toNat]?=some row):Gn (Y.asks ⟨p,row.length,g',m⟩ row) (T+1) (M+16) (⟨p,row.length,g',m⟩::L) ls ns:=by
 have lr:=g.al row (mem_of_getElem? er);have lp:=(List.getElem?_eq_some_iff.mp er).1;have ho:y4 Y.n ⟨p,row.length,g',m⟩=true:=mG.mpr ⟨hp.1,by show p<=(Y.n:Int)-1;lia,hg.1,by show g'<=(Y.n:Int)-1;lia,λz=>ng z.symm,by show(0:Int)<=row.length;lia,by show(row.length:Int)<=99;lia,hm.1,hm.2⟩;have sub:∀o∈L,o∈(⟨p,row.length,g',m⟩:O)::L:=λo h=>mem_cons_of_mem _ h;have mid:Gn {Y with asked:=Y.asked.set p.toNat (row++[⟨p,row.length,g',m⟩])} T M L ls ns->Gn {Y with asked:=Y.asked.set p.toNat (row++[⟨p,row.length,g',m⟩])} T M L ls ns:=id;refine⟨⟨g.ok.n8,by show(Y.asked.set _ _).length=Y.n;rw[length_set];exact g.ok.al,λr hr o bc=>?_,g.ok.ks,g.ok.nd,g.ok.k0,g.ok.k1⟩,by rw[length_cons];have:=g.l;lia,λo h=>?_,λo h=>?_,λc hc=>(g.ks c hc).mono sub (by lia),⟨g.g.b.mono sub,λx hx=>?_⟩,?_,λr hr=>?_,g.e1⟩
 .rcases List.mem_or_eq_of_mem_set (show r∈Y.asked.set p.toNat (row++[⟨p,row.length,g',m⟩])from hr)with hr|rfl
  .exact g.ok.ao r hr o bc
  .rcases mem_append.mp bc with h|h
   .exact g.ok.ao row (mem_of_getElem? er) o h
   .rw[mem_singleton.mp h];exact ho
 .rcases mem_cons.mp h with rfl|h
  .exact ho
  .exact g.lo o h
 .show o.p∈Y.gf\/∃gN,(Y.asked.set p.toNat (row++[⟨p,row.length,g',m⟩]))[o.p.toNat]?=some gN/\o∈gN;rcases mem_cons.mp h with rfl|h
  .exact .inr ⟨_,getElem?_set_self lp,mem_append_right _ (mem_singleton.mpr rfl)⟩
  .rcases g.mw o h with h|⟨gN,e,h⟩
   .exact .inl h
   .by_cases z:o.p.toNat=p.toNat
    .rw[z]at e⊢;rw[er]at e;cases e;exact .inr ⟨_,getElem?_set_self lp,mem_append_left _ h⟩
    .exact .inr ⟨gN,by rw[getElem?_set_ne (λy=>z y.symm)];exact e,h⟩
 .rcases mem_append.mp (show x∈Y.way++Y.ks.map λc=>(true,c.1,(⟨p,row.length,g',m⟩:O))from hx)with eD|eD
  .obtain⟨a,b,c⟩:=g.g.y x eD;exact⟨sub _ a,b,c⟩
  .obtain⟨c,hc,rfl⟩:=mem_map.mp eD;exact⟨mem_cons_self,mem_map_of_mem hc,λz=>by cases z⟩
 .show(Y.way++Y.ks.map λc=>(true,c.1,(⟨p,row.length,g',m⟩:O))).length<=M+16;rw[length_append,length_map];have:=g.wl;have:=g.ok.k1;lia
 .rcases List.mem_or_eq_of_mem_set (show r∈Y.asked.set p.toNat (row++[⟨p,row.length,g',m⟩])from hr)with hr|rfl
  .exact le_succ_of_le (g.al r hr)
  .rw[length_append];show row.length+1<=T+1;lia
theorem Gn.row (g:Gn Y T M L ls ns){p:Int}(h0:0<=p)(h1:p<(Y.n:Int)):∃row,Y.asked[p.toNat]?=some row:=⟨_,getElem?_eq_getElem (by rw[g.ok.al];lia)⟩
theorem Gn.sz (g:Gn Y T M L ls ns):Sz Y L.length (Y.ks.length+ls.length) M:=by obtain⟨b1,b2⟩:=g.g.b.len;refine⟨b1,λx hx=>?_,g.wl,g.ok.k1⟩;have:=b2 x hx;rwa[length_append,length_map]at this
end
theorem j97 {h f:Int}{ns cs ls:List Int}(h1:1<=h/\h<=16)(hf:0<=f)(lt:3*f<h)(l8:ns.length<=8)(n0:∀x∈ns,0<=x)(ll:(ls.length:Int)<=f)(lr:∀x∈ls,0<=x/\x<h):Gn (w0 h f ns cs ls) 0 0 [] ls ns:=by
 have ek:(w0 h f ns cs ls).ks.map (·.1)=aE ls h.toNat:=by show((aE ls h.toNat).map λi=>(i,iZ ns)).map (·.1)=_;rw[map_map];exact List.map_id _
 have gO:∀c∈(w0 h f ns cs ls).ks,c.2=iZ ns:=λc hc=>by obtain⟨i,_,rfl⟩:=mem_map.mp (show c∈(aE ls h.toNat).map λi=>(i,iZ ns)from hc);rfl
 have lk:(w0 h f ns cs ls).ks.length=(aE ls h.toNat).length:=length_map ..;have dQ:cX [] 0 ns.length (iZ ns):=⟨⟨rfl,by show(List.replicate _ _).length=_;rw[length_replicate],λ_ z=>(by cases z),λ_ z=>(by cases z),nodup_nil⟩,⟨le_refl _,le_refl _,le_refl _⟩,λ_ z=>(by cases z),λ_ z=>(by cases z)⟩;have cn:(aE ls h.toNat).Nodup:=by unfold aE;exact List.Pairwise.filter _ (List.Pairwise.map _ (λa b hG z=>hG (Int.ofNat.inj z)) nodup_range)
 have c1:0<(aE ls h.toNat).length:=by
  have hl:((List.range h.toNat).map λ(i:Nat)=>(i:Int)).length<=(aE ls h.toNat).length+ls.length:=by
   rw[<-length_append];refine gi (List.Pairwise.map _ (λa b hG z=>hG (Int.ofNat.inj z)) nodup_range) λx hx=>?_;by_cases z:x∈ls
   .exact mem_append_right _ z
   .exact mem_append_left _ (mem_filter.mpr ⟨hx,by simp[z]⟩)
  rw[length_map,length_range]at hl;lia
 have c2:=GQ ls h.toNat;refine⟨⟨l8,by show(List.replicate _ _).length=_;rw[length_replicate];rfl,λrow hr o ho=>?_,λc hc=>by rw[gO c hc];exact dQ.ok,by rw[ek];exact cn,by rw[lk];exact c1,by rw[lk];lia⟩,le_refl _,λ_ z=>(by cases z),λ_ z=>(by cases z),λc hc=>by rw[gO c hc];exact dQ,⟨⟨nodup_nil,λ_ z=>(by cases z),λ_ z=>(by cases z)⟩,λ_ z=>(by cases z)⟩,le_refl _,λrow hr=>?_,by show 1<=h-f;lia⟩
 .have:row=[]:=eq_of_mem_replicate hr;subst this;cases ho
 .have:row=[]:=eq_of_mem_replicate hr;subst this;exact le_refl _
theorem N7 {B:Kp}{Q:Gv->Prop}:∀{os:List O}{a:Gv},(∀o∈os,∀a,Q a->Q (cK B o a))->Q a->Q (gv B os a)
 |[],_,_,h=>h
 |o::os,a,hs,h=>by unfold gv;rw[foldl_cons];exact N7 (λu hu=>hs u (mem_cons_of_mem _ hu)) (hs o mem_cons_self a h)
structure AA (c0:List ((Int×Int)×O))(a:Gv):Prop where
 ck:(a.1.map (·.1)).Nodup
 cp:∀c∈a.1,c.1=(c.2.p,c.2.n)
 mo:∀c∈c0,c∈a.1
 vt:∀o∈a.2.1,((o.p,o.n),o)∈a.1
 nw:∀c∈a.1,c∈c0\/c.2∈a.2.1
theorem AA.step {c0:List ((Int×Int)×O)}{B:Kp}{o:O}{a:Gv}(g:AA c0 a):AA c0 (cK B o a):=by
 unfold cK;split
 .rename_i z;rw[Bool.and_eq_true]at z;have nc:∀x∈a.1,x.1≠(o.p,o.n):=λx hx e=>by
   have:jM a.1 o=true:=List.any_eq_true.mpr ⟨x,hx,decide_eq_true e⟩;rw[this]at z;cases z.2
  refine⟨?_,λc hc=>?_,λc hc=>mem_append_left _ (g.mo c hc),λu hu=>?_,λc hc=>?_⟩
  .show((a.1++[((o.p,o.n),o)]).map (·.1)).Nodup;rw[map_append];refine nodup_append.mpr ⟨g.ck,by simp,λx hx y hy e=>?_⟩;obtain⟨c,hc,rfl⟩:=mem_map.mp hx;rw[mem_singleton.mp hy]at e;exact nc c hc e
  .rcases mem_append.mp hc with hc|hc
   .exact g.cp c hc
   .rw[mem_singleton.mp hc]
  .rcases mem_append.mp hu with hu|hu
   .exact mem_append_left _ (g.vt u hu)
   .rw[mem_singleton.mp hu];exact mem_append_right _ (mem_singleton.mpr rfl)
  .rcases mem_append.mp hc with hc|hc
   .exact(g.nw c hc).imp id λh=>mem_append_left _ h
   .rw[mem_singleton.mp hc];exact .inr (mem_append_right _ (mem_singleton.mpr rfl))
 .split
  .exact⟨g.ck,g.cp,g.mo,g.vt,g.nw⟩
  .exact g
noncomputable def bZ (o:O):Int×Int:=(o.p,o.n)
structure KV (L:List O)(B:Kp):Prop where
 ck:(B.cho.map (·.1)).Nodup
 cp:∀c∈B.cho,c.1=(c.2.p,c.2.n)
 cl:∀c∈B.cho,c.2∈L
structure Ha (L:List O)(B κ':Kp)(vs:List O):Prop where
 z:KV L κ'
 mo:∀c∈B.cho,c∈κ'.cho
 vt:∀o∈vs,(bZ o,o)∈κ'.cho
 nw:∀c∈κ'.cho,c∈B.cho\/c.2∈vs
theorem KV.zg {L:List O}{B:Kp}(z:KV L B)(ul:∀o∈B.aH,o∈L):Ha L B B.zg.1 B.zg.2:=by have g:AA B.cho (gv B B.aH (B.cho,[],[])):=N7 (λo _ a h=>h.step) ⟨z.ck,z.cp,λ_ h=>h,λ_ h=>(by cases h),λ_ h=>.inl h⟩;have vl:=G9 B B.aH (B.cho,[],[]) ul (λo h=>by cases h);exact⟨⟨g.ck,g.cp,λc hc=>(g.nw c hc).elim (z.cl c) (vl c.2)⟩,g.mo,g.vt,g.nw⟩
theorem N8:∀{m:Nat}{B:Kp},(Kp.go m B).cho=B.cho/\(Kp.go m B).aH=B.aH
 |0,_=>⟨rfl,rfl⟩
 |m+1,B=>by
  unfold Kp.go;cases B.first with
  |none=>exact⟨rfl,rfl⟩
  |some o=>exact N8 (m:=m) (B:=B.step o)
theorem KV.take {L:List O}{B:Kp}(z:KV L B)(ul:∀o∈B.aH,o∈L)(b:Bool){o:O}(ol:o∈L):Ha L B (B.take b o).1 (B.take b o).2:=by
 have same:Ha L B B []:=⟨z,λ_ h=>h,λ_ h=>(by cases h),λ_ h=>.inl h⟩;unfold Kp.take;split
 .unfold Kp.oE;split
  .exact same
  .have z1:KV L {B with de:=B.de++[o],aH:=B.aH++[o]}:=⟨z.ck,z.cp,z.cl⟩;have r:=z1.zg λu hu=>by
    rcases mem_append.mp hu with hu|hu
    .exact ul u hu
    .rw[mem_singleton.mp hu];exact ol
   exact⟨r.z,r.mo,r.vt,r.nw⟩
 .unfold Kp.jN;split
  .exact same
  .obtain⟨e1,e2⟩:=N8 (m:=(B.wait++[o]).length) (B:={B with wait:=B.wait++[o]});have z1:KV L (Kp.iU {B with wait:=B.wait++[o]}):=⟨by unfold Kp.iU;rw[e1];exact z.ck,by unfold Kp.iU;rw[e1];exact z.cp,by unfold Kp.iU;rw[e1];exact z.cl⟩;have r:=z1.zg (by unfold Kp.iU;rw[e2];exact ul);exact⟨r.z,λc hc=>r.mo c (by unfold Kp.iU;rw[e1];exact hc),r.vt,λc hc=>(r.nw c hc).imp (λh=>by unfold Kp.iU at h;rw[e1]at h;exact h) id⟩
theorem Hb (Y:Wd)(h:Int)(o u:O)(x:Int):x∈jq (Y.bE h o).bd (za u)↔x∈jq Y.bd (za u)\/(x=h/\u=o):=by
 rw[vF];unfold Wd.put;split
 .rename_i hm;exact⟨.inl,λz=>z.elim id λ⟨e1,e2⟩=>by rw[e1,e2];exact hm⟩
 .show x∈jq (cP Y.bd (za o) h) (za u)↔_;rw[Az];by_cases z:za u=za o
  .rw[if_pos z,z,mem_append,mem_singleton];have:=qD z;simp[this]
  .rw[if_neg z];exact⟨.inl,λy=>y.elim id λ⟨_,e2⟩=>absurd (by rw[e2]) z⟩
theorem AB (h:Int)(u:O)(x:Int):∀(os:List O)(Y:Wd),x∈jq (Y.zg h os).bd (za u)->x∈jq Y.bd (za u)\/(x=h/\u∈os)
 |[],Y,hx=>.inl hx
 | o::os,Y,hx=>by
  rcases AB h u x os (Y.bE h o) hx with a|⟨a,b⟩
  .rcases(Hb Y h o u x).mp a with a|⟨a,b⟩
   .exact .inl a
   .exact .inr ⟨a,mem_cons.mpr (.inl b)⟩
  .exact .inr ⟨a,mem_cons_of_mem _ b⟩
theorem AD (h:Int)(u:O)(x:Int):∀(os:List O)(Y:Wd),x∈jq Y.bd (za u)\/(x=h/\u∈os)->x∈jq (Y.zg h os).bd (za u)
 |[],_,hx=>hx.elim id λ⟨_,z⟩=>by cases z
 | o::os,Y,hx=>AD h u x os (Y.bE h o) (by
  rcases hx with hx|⟨e,hx⟩
  .exact .inl ((Hb Y h o u x).mpr (.inl hx))
  .rcases mem_cons.mp hx with hx|hx
   .exact .inl ((Hb Y h o u x).mpr (.inr ⟨e,hx⟩))
   .exact .inr ⟨e,hx⟩)
theorem y0 (h:Int):∀(os:List O)(Y:Wd),Y.jQ (Y.zg h os)
 |[],Y=>⟨rfl,rfl,rfl,rfl,rfl⟩
 |o::os,Y=>(Ay Y h o).trans (y0 h os (Y.bE h o))
structure Sk (Y:Wd)(L:List O)(ls:List Int):Prop where
 kv:∀c∈Y.ks,KV L c.2
 vo:∀c∈Y.ks,∀o,c.1∈jq Y.bd (za o)->(bZ o,o)∈c.2.cho
 as:∀(p:Nat)(row:List O),Y.asked[p]?=some row->∀(i:Nat)(o:O),row[i]?=some o->o.n=(i:Int)
 nm:∀o∈L,o.p∈Y.gf->o.n<=3
 dj:∀c∈Y.ks,c.1∉ls
 ov:∀c∈Y.ks,∀x∈c.2.cho,c.1∈jq Y.bd (za x.2)
structure gP (Y Y':Wd):Prop where
 e:Y'.en=Y.en
 k:Paired (λ(c c':Int×Kp)=>∀x∈c.2.cho,x∈c'.2.cho) Y.ks Y'.ks
theorem Hc {α:Type}{F:α->α->Prop}(h:∀a,F a a):∀xs:List α,Paired F xs xs
 |[]=>.nil
 |x::xs=>.cons (h x) (Hc h xs)
theorem gP.refl (Y:Wd):gP Y Y:=⟨rfl,Hc (λ_ _ h=>h) _⟩
theorem gP.of {Y Y':Wd}(e:Y'.en=Y.en)(k:Y'.ks=Y.ks):gP Y Y':=⟨e,by rw[k];exact Hc (λ_ _ h=>h) _⟩
theorem jtx {α:Type}{F:α->α->Prop}(h:∀a b c,F a b->F b c->F a c):∀{xs ys zs:List α},Paired F xs ys->Paired F ys zs->Paired F xs zs:=λ{xs ys zs} p q=>by
 induction p generalizing zs with
 |nil=>cases q;exact .nil
 |cons a r ih=>
  cases q with
  |cons b s=>exact .cons (h _ _ _ a b) (ih s)
theorem gP.trans {a b c:Wd}(x:gP a b)(y:gP b c):gP a c:=⟨y.e.trans x.e,jtx (λ_ _ _ f g x hx=>g x (f x hx)) x.k y.k⟩
theorem j4i {ks:List (Int×Kp)}(nd:(ks.map (·.1)).Nodup){a b:Int×Kp}(ha:a∈ks)(hb:b∈ks)(e:a.1=b.1):a=b:=by
 induction ks with
 |nil=>cases ha
 |cons c cs ih=>
  rw[map_cons,nodup_cons]at nd;rcases mem_cons.mp ha with h1|h1<;>rcases mem_cons.mp hb with h2|h2
  .rw[h1,h2]
  .exact absurd (mem_map.mpr ⟨b,h2,by rw[<-e,h1]⟩) nd.1
  .exact absurd (mem_map.mpr ⟨a,h1,by rw[e,h2]⟩) nd.1
  .exact ih nd.2 h1 h2
section
variable {Y:Wd}{L:List O}{ls:List Int}
theorem KV.mono {L':List O}{B:Kp}(h:∀o∈L,o∈L')(z:KV L B):KV L' B:=⟨z.ck,z.cp,λc hc=>h _ (z.cl c hc)⟩
theorem Sk.more (s:Sk Y L ls){way:List (Bool×Int×O)}{o:O}(no:o.p∈Y.gf->o.n<=3):Sk {Y with way:=way} (o::L) ls:=by
 refine⟨λc hc=>(s.kv c hc).mono λ_ h=>mem_cons_of_mem _ h,s.vo,s.as,λu hu hc=>?_,s.dj,s.ov⟩;rcases mem_cons.mp hu with rfl|hu
 .exact no hc
 .exact s.nm u hu hc
theorem Sk.way (s:Sk Y L ls){way:List (Bool×Int×O)}:Sk {Y with way:=way} L ls:=⟨s.kv,s.vo,s.as,s.nm,s.dj,s.ov⟩
theorem Sk.lie (s:Sk Y L ls){f:Int}(hf:f∈ls)(os:List O):Sk (Y.zg f os) L ls:=by
 have lk:=y0 f os Y;refine⟨by rw[lk.k];exact s.kv,λc hc u hu=>?_,by rw[lk.a];exact s.as,by rw[lk.c];exact s.nm,by rw[lk.k];exact s.dj,λc hc x hx=>AD _ _ _ _ _ (.inl (s.ov c (by rw[lk.k]at hc;exact hc) x hx))⟩;rw[lk.k]at hc;rcases AB _ _ _ _ _ hu with hu|⟨e,_⟩
 .exact s.vo c hc u hu
 .exact absurd (e ▸ hf) (s.dj c hc)
theorem Sk.ask (s:Sk Y L ls){p g m:Int}{row:List O}(er:Y.asked[p.toNat]?=some row)(nc:p∉Y.gf):Sk (Y.asks ⟨p,row.length,g,m⟩ row) (⟨p,row.length,g,m⟩::L) ls:=by
 refine⟨λc hc=>(s.kv c hc).mono λ_ h=>mem_cons_of_mem _ h,s.vo,λq gN e i o eo=>?_,λu hu hc=>?_,s.dj,s.ov⟩
 .have e':(Y.asked.set p.toNat (row++[⟨p,row.length,g,m⟩]))[q]?=some gN:=e;by_cases z:p.toNat=q
  .subst z;rw[getElem?_set_self (List.getElem?_eq_some_iff.mp er).1]at e';cases e';by_cases y:i<row.length
   .rw[List.getElem?_append_left y]at eo;exact s.as _ _ er i o eo
   .rw[List.getElem?_append_right (by lia)]at eo;cases hi:i-row.length with
    |zero=>rw[hi]at eo;cases eo;show(row.length:Int)=i;lia
    |succ k=>rw[hi]at eo;cases eo
  .rw[getElem?_set_ne z]at e';exact s.as _ _ e' i o eo
 .rcases mem_cons.mp hu with rfl|hu
  .exact absurd hc nc
  .exact s.nm u hu hc
theorem Sk.iX (s:Sk Y L ls)(nd:(Y.ks.map (·.1)).Nodup){i:Nat}{l:Bool×Int×O}{B:Kp}(km:(l.2.1,B)∈Y.ks)(ul:∀o∈B.aH,o∈L)(lL:l.2.2∈L):Sk (Y.iX i l B) L ls/\gP Y (Y.iX i l B):=by
 have r:=(s.kv _ km).take ul l.1 lL;unfold Wd.iX;generalize (B.take l.1 l.2.2).1=κ' at r;generalize (B.take l.1 l.2.2).2=vs at r;have lk:=y0 l.2.1 vs {Y with way:=Y.way.eraseIdx i,ks:=bY Y.ks l.2.1 κ'};have oR:∀c∈bY Y.ks l.2.1 κ',(c.1=l.2.1/\c.2=κ')\/(c∈Y.ks/\c.1≠l.2.1):=λc hc=>by
  obtain⟨c',i7,rfl⟩:=mem_map.mp hc;split
  .exact .inl ⟨rfl,rfl⟩
  .rename_i z;exact .inr ⟨i7,z⟩
 refine⟨⟨λc hc=>?_,λc hc u hu=>?_,by rw[lk.a];exact s.as,by rw[lk.c];exact s.nm,λc hc=>?_,λc hc x hx=>?_⟩,lk.e,?_⟩
 .rw[lk.k]at hc;rcases oR c hc with⟨_,e⟩|⟨h,_⟩
  .rw[e];exact r.z
  .exact s.kv c h
 .rw[lk.k]at hc;rcases oR c hc with⟨e1,e⟩|⟨h,n⟩
  .rw[e];rcases AB _ _ _ _ _ hu with hu|⟨_,hu⟩
   .exact r.mo _ (s.vo _ km u (e1 ▸ hu))
   .exact r.vt u hu
  .rcases AB _ _ _ _ _ hu with hu|⟨e,_⟩
   .exact s.vo c h u hu
   .exact absurd e n
 .rw[lk.k]at hc;rcases oR c hc with⟨e1,_⟩|⟨h,_⟩
  .rw[e1];exact s.dj _ km
  .exact s.dj c h
 .rw[lk.k]at hc;rcases oR c hc with⟨e1,e⟩|⟨h,n⟩
  .rw[e]at hx;rw[e1];exact AD _ _ _ _ _ ((r.nw x hx).imp (s.ov _ km x) λz=>⟨rfl,z⟩)
  .exact AD _ _ _ _ _ (.inl (s.ov c h x hx))
 .rw[lk.k];have all:∀ks:List (Int×Kp),(∀c∈ks,c∈Y.ks)->Paired (λ(c c':Int×Kp)=>∀x∈c.2.cho,x∈c'.2.cho) ks (bY ks l.2.1 κ'):=λks=>by
   induction ks with
   |nil=>exact λ_=>.nil
   |cons c cs ih=>
    intro h;refine .cons ?_ (ih λx hx=>h x (mem_cons_of_mem _ hx));dsimp only;split
    .rename_i z;rw[j4i nd (h c mem_cons_self) km z];exact r.mo
    .exact λ_ h=>h
  exact all Y.ks λ_ h=>h
end
theorem N9 {k:List Int}:∀{is:zx},jq is k=[]\/∃x∈is,x.1=k/\jq is k=x.2
 |[]=>.inl rfl
 | p::ps=>by
  unfold jq;split
  .rename_i z;exact .inr ⟨p,mem_cons_self,z,rfl⟩
  .rcases N9 (k:=k) (is:=ps)with h|⟨x,hx,e⟩
   .exact .inl h
   .exact .inr ⟨x,mem_cons_of_mem _ hx,e⟩
theorem Gn.jR {Y:Wd}{T M:Nat}{L:List O}{ls ns:List Int}(g:Gn Y T M L ls ns)(o:O):(jq Y.bd (za o)).Nodup/\∀h∈jq Y.bd (za o),h∈Y.ks.map (·.1)++ls:=by
 rcases N9 (k:=za o) (is:=Y.bd)with e|⟨x,hx,_,e⟩
 .rw[e];exact⟨nodup_nil,λ_ z=>by cases z⟩
 .rw[e];exact g.g.b.hn x hx
theorem Hd {S hs ls:List Int}(nd:S.Nodup)(h:∀x∈S,x∈hs++ls):S.length<=(S.filter λx=>decide (x∈hs)).length+ls.length:=by
 have:=gi (ys:=(S.filter λx=>decide (x∈hs))++ls) nd λx hx=>by
  by_cases z:x∈hs
  .exact mem_append_left _ (mem_filter.mpr ⟨hx,decide_eq_true z⟩)
  .exact mem_append_right _ ((mem_append.mp (h x hx)).resolve_left z)
 rwa[length_append]at this
theorem j0l {Y:Wd}{T M:Nat}{L:List O}{ls ns:List Int}(g:Gn Y T M L ls ns)(s:Sk Y L ls)(he:((Y.ks.length+2*ls.length:Nat):Int)<2*Y.en){o u:O}(co:Y.carried o=true)(cu:Y.carried u=true)(e:bZ o=bZ u):o=u:=by
 obtain⟨n1,i1⟩:=g.jR o;obtain⟨n2,i2⟩:=g.jR u;have l1:=Hd n1 i1;have l2:=Hd n2 i2;have c1:=of_decide_eq_true co;have c2:=of_decide_eq_true cu;by_cases z:∃h,h∈(jq Y.bd (za o)).filter (λx=>decide (x∈Y.ks.map (·.1)))/\h∈(jq Y.bd (za u)).filter λx=>decide (x∈Y.ks.map (·.1))
 .obtain⟨h,h1,h2⟩:=z;obtain⟨a1,b1⟩:=mem_filter.mp h1;obtain⟨a2,_⟩:=mem_filter.mp h2;obtain⟨c,hc,rfl⟩:=mem_map.mp (of_decide_eq_true b1);have v1:=s.vo c hc o a1;have v2:=s.vo c hc u a2;have one:∀{cs:List ((Int×Int)×O)}{a b:(Int×Int)×O},(cs.map (·.1)).Nodup->a∈cs->b∈cs->a.1=b.1->a=b:=λ{cs a b} nd ha hb e=>by
   induction cs with
   |nil=>cases ha
   |cons c cs ih=>
    rw[map_cons,nodup_cons]at nd;rcases mem_cons.mp ha with h1|h1<;>rcases mem_cons.mp hb with h2|h2
    .rw[h1,h2]
    .exact absurd (mem_map.mpr ⟨b,h2,by rw[<-e,h1]⟩) nd.1
    .exact absurd (mem_map.mpr ⟨a,h1,by rw[e,h2]⟩) nd.1
    .exact ih nd.2 h1 h2
  exact(Prod.mk.inj (one (s.kv c hc).ck v1 v2 e)).2
 .exfalso;have:=gi (xs:=(jq Y.bd (za o)).filter (λx=>decide (x∈Y.ks.map (·.1)))++(jq Y.bd (za u)).filter λx=>decide (x∈Y.ks.map (·.1))) (ys:=Y.ks.map (·.1)) (nodup_append.mpr ⟨n1.filter _,n2.filter _,λx hx y hy e=>z ⟨x,hx,e ▸ hy⟩⟩) λx hx=>by
   rcases mem_append.mp hx with h|h
   .exact of_decide_eq_true (mem_filter.mp h).2
   .exact of_decide_eq_true (mem_filter.mp h).2
  rw[length_append,length_map]at this;lia
noncomputable def vG (Z:aq)(To R:Addr):Prop:=Z To=some (9,.own 0)/\Z R=some (9,.own 1)
noncomputable def df:Role->Prop:=λr=>r=(9,.own 0)\/r=(9,.own 1)
theorem He {Z:aq}{H H':Hp}{To R:Addr}(tr:vG Z To R)(k:hZ To R H H'):Fr (df) Z H Z H':=λa u e n=>⟨k a u e (λz=>n (9,.own 0) (z ▸ tr.1) (.inl rfl)) (λz=>n (9,.own 1) (z ▸ tr.2) (.inr rfl)),rfl⟩
theorem Oa {Z:aq}{H H':Hp}{To R:Addr}(kr:ax Z H)(hT:cJ To R H')(k:hZ To R H H'):ax Z H':=λa r e=>by
 obtain⟨row,c,t1,t2,_⟩:=hT;by_cases z:a=To
 .subst z;exact⟨_,t1,True.intro⟩
 .by_cases y:a=R
  .subst y;exact⟨_,t2,True.intro⟩
  .obtain⟨u,hu,nu⟩:=kr a r e;exact⟨u,k a u hu z y,nu⟩
noncomputable def fZ (ts:List Int):Dt:=.tup (ts.map Dt.int)
noncomputable def qQ (l:Bool×Int×O):Dt:=.tup [.str (if l.1=true then"order"else"paper"),.int l.2.1,fZ (za l.2.2)]
theorem Hf {α:Type}{K:W.Frag}{H:Hp}{F:α->Dt}{R:V->α->Prop}(h:∀x a,R x a->ql K H (F a) x):∀{xs:List V}{as:List α},Paired R xs as->xu K H (as.map F) xs:=λ{xs as} q=>by
 induction q with
 |nil=>rw[map_nil,xu]
 |cons a t ih=>rw[map_cons,xu];exact⟨_,_,rfl,h _ _ a,ih⟩
theorem Ob {K:W.Frag}{H:Hp}:∀ns:List Int,xu K H (ns.map Dt.int) (ns.map V.int)
 |[]=>by rw[map_nil,map_nil,xu]
 |n::ns=>by rw[map_cons,map_cons,xu];exact⟨_,_,rfl,by rw[ql],Ob ns⟩
theorem qR {K:W.Frag}{H:Hp}{a:Addr}{ts:List Int}(h:aw K H a (ts.map V.int)):ql K H (fZ ts) (.ref a):=by unfold fZ;rw[ql];exact⟨a,_,rfl,h,Ob ts⟩
theorem cq.qa6 {K:W.Frag}{H:Hp}{Z:aq}{x:V}{l:Bool×Int×O}(h:cq H Z x l):ql K H (qQ l) x:=by obtain⟨a,q,rfl,n,h1,_,e,_,h2⟩:=h;cases e;unfold qQ;rw[ql];refine⟨a,_,rfl,aw.of h1,?_⟩;rw[xu];refine⟨_,_,rfl,by rw[ql];rfl,?_⟩;rw[xu];refine⟨_,_,rfl,by rw[ql],?_⟩;rw[xu];exact⟨_,_,rfl,qR (ts:=za l.2.2) (aw.of h2),by rw[xu]⟩
theorem vH:∀ls:List (List Int),cM (ls.map fZ)<=10
 |[]=>by rw[map_nil];simp[cM]
 | l::ls=>by
  have:=vH ls;rw[map_cons,cM];have q:∀ts:List Int,cM (ts.map Dt.int)<=3:=λts=>by
   induction ts with
   |nil=>simp[cM]
   |cons t ts ih=>rw[map_cons,cM];simp[bg];lia
  have q2:bg (fZ l)<=10:=by unfold fZ;rw[bg];have:=q l;lia
  lia
theorem vI {α:Type}(F:α->Dt)(ls:List α):aU (.lst (ls.map F)) (.lst [])=decide (ls=[]):=by
 cases ls with
 |nil=>simp[aU,cv]
 |cons l ls=>simp[aU,cv]
theorem Oc:∀ls:List (Bool×Int×O),cM (ls.map qQ)<=10
 |[]=>by rw[map_nil];simp[cM]
 |l::ls=>by
  have:=Oc ls;rw[map_cons,cM];have q:bg (qQ l)<=10:=by unfold qQ fZ za;simp[bg,cM]
  lia
theorem ax.aD {Z:aq}{H:Hp}{a:Addr}{r:Role}{u:HO}(k:ax Z H)(h:H a=some u)(n:oF u):ax (aD Z a r) H:=λb r' e=>by
 by_cases z:b=a
 .subst z;exact⟨u,h,n⟩
 .rw[xo z]at e;exact k b r' e
noncomputable def Un (H:Hp)(Z:aq)(a:Addr)(xs:List V):Prop:=H a=some (.lst xs)/\Z a=none
theorem Un.fr {P:Role->Prop}{Z Z':aq}{H H':Hp}{a:Addr}{xs:List V}(f:Fr P Z H Z' H')(h:Un H Z a xs):Un H' Z' a xs:=ig f h.1 h.2
theorem Od {P:Role->Prop}{Z Z':aq}{H H':Hp}{To R:Addr}(f:Fr P Z H Z' H')(n0:¬P (9,.own 0))(n1:¬P (9,.own 1))(h:cJ To R H)(tr:vG Z To R):cJ To R H'/\vG Z' To R:=by obtain⟨row,c,t1,t2,t3⟩:=h;obtain⟨a1,a2⟩:=cV f t1 tr.1 n0;obtain⟨a3,a4⟩:=cV f t2 tr.2 n1;exact⟨⟨row,c,a1,a3,t3⟩,a2,a4⟩
theorem j9l {id:Nat}(h:id≠9)(p:Part):¬df (id,p):=λz=>h (by rcases z with z|z<;>exact(Prod.mk.inj z).1)
theorem j5n {H:Hp}{x dx:Addr}{C:Addr}(nx:H x=none)(AE:H dx=none)(ne:dx≠x){Z:aq}{r:Role}(kr:ax Z H):Fr (λ_=>False) Z H (aD Z x r) (upd (upd H dx (.own x)) x (.ins C dx []))/\ax (aD Z x r) (upd (upd H dx (.own x)) x (.ins C dx [])):=by
 have nx1:upd H dx (.own x) x=none:=by rw[jd ne.symm];exact nx
 exact⟨(Fr.same (jg AE)).trans (Fr.cx nx1),(kr.same (jg AE)).cx⟩
theorem qk.same {t:Ad}{H H':Hp}{Z:aq}{id:Nat}{W:WA}{w:Wd}(s:xp H H')(O:qk t H Z id W w):qk t H' Z id W w:=O.fr (P:=λ_=>False) (λ_ z=>z) (Fr.same s)
structure Pt where
 ns:List Int
 cs:List Int
 ls:List Int
 hs:List Int
 en:Int
structure Pt.Ok (p:Pt):Prop where
 l2:2<=p.ns.length
 l8:p.ns.length<=8
 c:∀k∈p.cs,0<=k/\k<(p.ns.length:Int)
 cl:p.cs.length<=1000
 ll:p.ls.length<=5
 h0:0<p.hs.length
 h1:p.hs.length<=16
 ct:p.cs.length<=2
 he:((p.hs.length+2*p.ls.length:Nat):Int)<2*p.en
structure Wl (t:Ad)(H:Hp)(Z:aq)(W:WA)(Y:Wd)(T:Nat)(p:Pt):Prop where
 o:qk t H Z 0 W Y
 kr:ax Z H
 ly:H W.ly=some (.lst (p.ls.map V.int))/\Z W.ly=none
 g:∃L,Gn Y T (1000*T) L p.ls p.ns/\Sk Y L p.ls
 en:Y.en=p.en
 n:Y.n=p.ns.length
 c:Y.gf=p.cs
 h:Y.ks.map (·.1)=p.hs
 bO:W.bO=p.ns.sum
section
variable {t:Ad}{H H':Hp}{Z Z':aq}{W:WA}{Y Y':Wd}{T:Nat}{p:Pt}{P:Role->Prop}{To R:Addr}
theorem Wl.fr (f:Fr P Z H Z' H')(hP:∀q,¬P (0,q))(kr:ax Z' H')(w:Wl t H Z W Y T p):Wl t H' Z' W Y T p:=⟨w.o.fr hP f,kr,ig f w.ly.1 w.ly.2,w.g,w.en,w.n,w.c,w.h,w.bO⟩
theorem Wl.wait (w:Wl t H Z W Y T p):Wl t H Z W Y (T+1) p:=⟨w.o,w.kr,w.ly,let⟨L,g,s⟩:=w.g;⟨L,g.mono (by lia) (by lia),s⟩,w.en,w.n,w.c,w.h,w.bO⟩
structure Sw (t:Ad)(H:Hp)(Z:aq)(W:WA)(Y:Wd)(T:Nat)(p:Pt)(To R:Addr):Prop where
 w:Wl t H Z W Y T p
 tn:cJ To R H
 tr:vG Z To R
theorem Sw.same (s:xp H H')(x:Sw t H Z W Y T p To R):Sw t H' Z W Y T p To R:=⟨x.w.fr (P:=λ_=>False) (Fr.same s) (λ_ z=>z) (x.w.kr.same s),x.tn.same s,x.tr⟩
theorem Sw.draw (x:Sw t H Z W Y T p To R)(hT:cJ To R H')(k:hZ To R H H'):Sw t H' Z W Y T p To R/\Fr df Z H Z H':=⟨⟨x.w.fr (He x.tr k) (j9l (by decide)) (Oa x.w.kr hT k),hT,x.tr⟩,He x.tr k⟩
theorem Sw.wait (x:Sw t H Z W Y T p To R):Sw t H Z W Y (T+1) p To R:=⟨x.w.wait,x.tn,x.tr⟩
noncomputable def qS:Role->Prop:=λr=>r.1=0\/df r
theorem Sw.go (x:Sw t H Z W Y T p To R)(f:Fr P Z H Z' H')(hP:∀r,P r->r.1=0){T2:Nat}(w:Wl t H' Z' W Y' T2 p):Sw t H' Z' W Y' T2 p To R/\Fr qS Z H Z' H':=by obtain⟨a,b⟩:=Od f (λz=>by cases hP _ z) (λz=>by cases hP _ z) x.tn x.tr;exact⟨⟨w,a,b⟩,f.mono λr z=>.inl (hP r z)⟩
theorem oS (f:Fr df Z H Z' H'):Fr qS Z H Z' H':=f.mono λ_ z=>.inr z
end
noncomputable def Hg (t:Ad)(H:Hp)(Z:aq)(W:WA)(Y:Wd)(T:Nat)(p:Pt)(To R:Addr)(Q:VK):Prop:=∀Z' H' Y' v,Sw t H' Z' W Y' (T+1) p To R->Fr qS Z H Z' H'->gP Y Y'->Q v H'
structure Ps (H:Hp)(Z:aq)(pa x:Addr)(aE few:Int)(fo ho be ro:Addr)(p:Pt):Prop where
 tp:H pa=some (.tup [.ref x,.int aE,.int few,.ref fo,.ref ho,.ref be,.ref ro])/\Z pa=none
 fo:Un H Z fo (p.ls.map V.int)
 ho:Un H Z ho (p.hs.map V.int)
 be:Un H Z be (p.ns.map V.int)
 ro:Un H Z ro (p.cs.map V.int)
 ce:aE-few=p.en
 hr:∀x∈p.hs++p.ls,0<=x/\x<aE
 cb:(1<=aE/\aE<=16)/\0<=few/\few<=5
 nr:∀i∈p.ns,0<=i/\i<=1000
 lf:(p.ls.length:Int)<=few
theorem Ps.fr {P:Role->Prop}{Z Z':aq}{H H':Hp}{pa x fo ho be ro:Addr}{aE few:Int}{p:Pt}(f:Fr P Z H Z' H')(h:Ps H Z pa x aE few fo ho be ro p):Ps H' Z' pa x aE few fo ho be ro p:=⟨ig f h.tp.1 h.tp.2,h.fo.fr f,h.ho.fr f,h.be.fr f,h.ro.fr f,h.ce,h.hr,h.cb,h.nr,h.lf⟩
theorem Un.neT {t:Ad}{H:Hp}{Z:aq}{W:WA}{Y:Wd}{T:Nat}{p:Pt}{To R a:Addr}{xs:List V}(u:Un H Z a xs)(x:Sw t H Z W Y T p To R):a≠To/\a≠R:=⟨Aa u.2 x.tr.1,Aa u.2 x.tr.2⟩
noncomputable def j40 (K:W.Frag):Sp:=λvs H Q _=>∃(a:Addr)(ns:List Int),vs=[.ref a]/\ag K H a (ns.map V.int)/\∀T R H',H T=none->H R=none->xp H H'->cJ T R H'->Q (.ref T) H'
noncomputable def j5u:Sp:=λvs H Q _=>∃(T R:Addr)(m:Int),vs=[.ref T,.int m]/\cJ T R H/\1<=m/\m<1073741824/\∀d H',0<=d->d<m->cJ T R H'->hZ T R H H'->Q (.int d) H'
noncomputable def Oe:Sp:=λvs H Q _=>∃(T R S:Addr)(xs:List V),vs=[.ref T,.ref S]/\cJ T R H/\H S=some (.lst xs)/\S≠T/\S≠R/\0<xs.length/\xs.length<=1000000/\∀(i:Nat)(x:V)(H':Hp),xs[i]?=some x->cJ T R H'->hZ T R H H'->Q x H'
theorem jtn (T:Txt K mg t):xm P w K mg base CX0 1 t.Fg t.Fh ["_law_script"] (j40 K):=by
 refine T.MI.aZ (N:=["_law_script"]) λ_ A _ s H vs Q E hr h=>?_;obtain⟨a,ns,rfl,ha,k⟩:=h;refine⟨_,(@je _ _ _ (j3 (@zj _ _ _ _ (@y3 _ _ _ _ _ (wG (jw (jF hr.units) (pv 0) (@zj _ _ _ _ jf) (qc _)) (uz rN rfl T.mH boot_list (jc (pv 0) jf)) (@zj _ _ _ _ (jc jk jf))) jk rfl rfl)))),?_⟩;refine⟨_,rfl,cI,λp hp=>?_⟩;have s1:=jg (o:=.lst []) hp;refine⟨.lst (ns.map Dt.int),.lst (([]:List Int).map Dt.int),sy (s1.seq ha),sy (ag.of ja),xJ _,_,rfl,?_⟩;rw[SH];refine bq (λh1=>?_) (λh1=>?_)
 .have ne:=nd h1;refine⟨_,rfl,a,_,rfl,.inl (s1.seq ha),λR hR=>?_⟩;refine⟨kX,λT' hT=>?_⟩;have s2:=s1.trans (jg (o:=.lst (ns.map V.int)) hR);have Hh:R≠T':=ji ja hT;refine k T' R _ (s2.free hT) (s1.free hR) (s2.trans (jg hT)) ⟨ns,0,ja,by rw[jd Hh,ja],?_⟩;cases ns with
  |nil=>exact absurd rfl ne
  |cons x r=>exact succ_pos _
 .refine⟨oB,λR hR=>?_⟩;refine⟨kX,λT' hT=>?_⟩;have s2:=s1.trans (jg (o:=.lst [.int 0]) hR);have Hh:R≠T':=ji ja hT;exact k T' R _ (s2.free hT) (s1.free hR) (s2.trans (jg hT)) ⟨[0],0,ja,by rw[jd Hh,ja];rfl,Nat.one_pos⟩
theorem qe (T:Txt K mg t):xm P w K mg base CX0 1 t.Fi t.Fj ["_law_town_here","_law_many"] j5u:=by
 refine T.qf.cz ud λ_ A _ s H vs Q E hr h=>?_;obtain⟨To,R,m,rfl,hT,m1,m2,k⟩:=h;have Of:=hT.ne;obtain⟨row,c,h1,h2,h3⟩:=hT;refine⟨_,(@jb _ _ _ _ _ (qa (i:=2) ud.nd rfl (Or.inl rfl) (kl fO (pv 0) jk (λ_ _=>rfl))) (@jb _ _ _ _ _ (kB (xc gC (kl fO (pv 0) jk (λ_ _=>rfl)) jk) (IW (pv 0) jk set_list)) (@jb _ _ _ _ _ (qa (i:=3) ud.nd rfl (Or.inl rfl) (xc kF (kl fO (pv 0) jk (λ_ _=>rfl)) (jm jt rfl T.ue boot_len (jc (pv 2) jf)))) (@jb _ _ _ _ _ (qa (i:=4) ud.nd rfl (Or.inl rfl) (kl fO (pv 2) (pv 3) (λ_ _=>rfl))) (@jb _ _ _ _ _ (zd (jw BO (pv 4) jk (qc _)) (@jb _ _ _ _ _ (kB (xc BN (pv 4) (pv 1)) (IW (pv 2) (pv 3) set_list)) (@je _ _ _ (j3 (xc kF (pv 4) (pv 1))))) j6) (@jb _ _ _ _ _ (qa (i:=5) ud.nd rfl (Or.inl rfl) (xc kF (xc gC (pv 4) (xc rA jk (kl fO (pv 0) jk (λ_ _=>rfl)))) jk)) (@jb _ _ _ _ _ (qa (i:=5) ud.nd rfl (Or.inl rfl) (xc kF (xc Qv (pv 5) jk) jk)) (@je _ _ _ (j3 (xc kF (xc BN (xc kF (xc gC (xc rA (xc BN (pv 5) jk) jk) (pv 5)) jk) jk) (pv 1))))))))))),?_⟩;refine⟨_,rfl,To,_,0,.ref R,rfl,rfl,ag.of h1,rfl,?_⟩;refine⟨_,rfl,To,_,1,.int c,rfl,rfl,ag.of h1,rfl,_,_,rfl,rfl,?_⟩;refine⟨_,rfl,To,_,1,1,rfl,rfl,h1,rfl,?_⟩;have g1:(upd H To (.lst ([V.ref R,V.int c].set 1 (V.int (c+1))))) To=some (.lst [.ref R,.int (c+1)]):=ja;have g2:(upd H To (.lst ([V.ref R,V.int c].set 1 (V.int (c+1))))) R=some (.lst (row.map V.int)):=by rw[jd Of.symm];exact h2
 have kp:hZ To R H (upd H To (.lst ([V.ref R,V.int c].set 1 (V.int (c+1))))):=λb o e n1 _=>by rw[jd n1];exact e
 generalize upd H To (.lst ([V.ref R,V.int c].set 1 (V.int (c+1))))=H1 at g1 g2 kp;have hl:(0:Int)<((row.map V.int).length:Int):=by rw[length_map];omega
 refine⟨_,rfl,To,_,1,.int (c+1),rfl,rfl,ag.of g1,rfl,_,rfl,R,_,rfl,.inl (ag.of g2),_,_,rfl,rfl,hl,?_⟩;rw[length_map]at hl⊢;have b0:0<=(c+1)%(row.length:Int):=Int.emod_nonneg _ (by omega);have b1:(c+1)%(row.length:Int)<(row.length:Int):=Int.emod_lt_of_pos _ hl;have b2:((c+1)%(row.length:Int)).toNat<row.length:=by omega
 refine⟨_,rfl,_,rfl,R,_,((c+1)%(row.length:Int)),_,rfl,rfl,ag.of g2,kZ b0 (get_map b2),?_⟩;refine⟨_,rfl,_,_,rfl,rfl,_,rfl,?_⟩;refine bq (λh5=>?_) (λh5=>?_)
 .refine⟨_,rfl,_,rfl,_,_,rfl,rfl,⟨by omega,m2⟩,?_⟩;refine⟨_,rfl,_,rfl,R,_,((c+1)%(row.length:Int)),_,rfl,rfl,g2,uL b0 (by rw[length_map];exact b2),?_⟩;rw[BR];refine⟨_,rfl,_,rfl,_,_,rfl,rfl,(by show(0:Int)<m;omega),?_⟩;refine k _ _ (Int.emod_nonneg _ (by omega)) (Int.emod_lt_of_pos _ (by omega)) ⟨_,c+1,by rw[jd Of];exact g1,ja,by rw[length_set];exact h3⟩ λb o e n1 n2=>?_;rw[jd n2];exact kp b o e n1 n2
 .have big:∀z:Int,(z%4294967291).natAbs<2^64:=λz=>by
   have u1:=Int.emod_nonneg z (show(4294967291:Int)≠0 by decide);have u2:=Int.emod_lt_of_pos z (show(0:Int)<4294967291 by decide);omega
  refine⟨_,rfl,_,rfl,To,_,1,.int (c+1),rfl,rfl,ag.of g1,rfl,_,_,rfl,rfl,.inl ⟨by decide,by decide⟩,_,_,rfl,rfl,_,_,rfl,rfl,(by show(0:Int)<4294967291;decide),?_⟩;refine⟨_,rfl,_,_,rfl,rfl,⟨by decide,by decide,big _⟩,_,_,rfl,rfl,(by show(0:Int)<4294967279;decide),?_⟩;refine⟨_,rfl,_,_,rfl,rfl,⟨by decide,by decide⟩,_,_,rfl,rfl,.inr ⟨by decide,by decide⟩,_,rfl,_,_,rfl,rfl,_,_,rfl,rfl,(by show(0:Int)<4294967231;decide),_,_,rfl,rfl,⟨by decide,by decide⟩,_,rfl,_,_,rfl,rfl,(by show(0:Int)<m;omega),?_⟩;exact k _ _ (Int.emod_nonneg _ (by omega)) (Int.emod_lt_of_pos _ (by omega)) ⟨row,c+1,g1,g2,h3⟩ kp
theorem zh (T:Txt K mg t):xm P w K mg base CX0 2 t.Fl t.Fm ["_law_town_here","_law_some_here"] Oe:=by
 refine T.zb.aZ (N:=["_law_town_here","_law_some_here"]) λ_ A _ s H vs Q E hr h=>?_;obtain⟨To,R,S,xs,rfl,hT,hS,n1,n2,l0,l1,k⟩:=h;refine⟨_,(@je _ _ _ (j3 (kl fO (pv 1) (jo (qe T) hr.dn rfl T.qj T.qf.kp T.qh .nil jn (@y3 _ _ _ _ _ (pv 0) (jm jt rfl T.ue boot_len (jc (pv 1) jf)) rfl rfl)) (λ_ _=>rfl)))),?_⟩;refine⟨_,rfl,_,rfl,_,rfl,S,xs,rfl,.inl (ag.of hS),To,R,_,rfl,hT,by omega,by omega,λd H' d0 d1 qT kp=>?_⟩;have hd:d.toNat<xs.length:=by omega
 exact⟨S,xs,d,xs[d.toNat],rfl,rfl,ag.of (kp _ _ hS n1 n2),kZ d0 (by simp[hd]),k d.toNat _ H' (by simp[hd]) qT kp⟩
noncomputable def j38:Sp:=λvs H Q _=>∃To R n m,vs=[.ref To,.int n,.int m]/\cJ To R H/\0<=n/\n<=16/\∀r (ks:List Int) H',H r=none->cJ To R H'->hZ To R H H'->H' r=some (.lst (ks.map V.int))->ks.Pairwise (·<·)->(∀k∈ks,0<=k/\k<n)->(ks.length:Int)<=(if 0<=m then m else 0)->Q (.ref r) H'
theorem Og (T:Txt K mg t):xm P w K mg base CX0 2 t.Fq t.Fs ["_law_town_here","_law_size","_law_most"] j38:=by
 refine T.F8.cz DJ λ_ A _ s H vs Q E hr h=>?_;obtain⟨To,R,n,m,rfl,hT,n0,n6,k⟩:=h;refine⟨_,(@jb _ _ _ _ _ (@qa _ _ 3 _ _ _ _ DJ.nd rfl (Or.inl rfl) (@zj _ _ _ _ jf) (by rfl) (by first|exact .inl rfl|exact .inr rfl)) (@jb _ _ _ _ _ (jA PassesOwn.never rfl (rl rfl T.uK (jc (pv 1) jf)) (jv (i:=4) DJ.nd rfl (Or.inl rfl)) (@je _ _ _ (zd (PW.pt (jZ (jw nG (jm jt rfl T.ue boot_len (jc (pv 3) jf)) (pv 2) (qc _)) (lS (jw fK (jo (qe T) hr.dn rfl T.qj T.qf.kp T.qh .nil jn (@y3 _ _ _ _ _ (pv 0) jk rfl rfl)) jk (qc _))))) (@je _ _ _ (j8 (dZ PySem.F.plainAttrs_list PySem.F.slot_list_append PySem.F.type_list_append yh (pv 3) (jc (pv 4) jf)))) j6))) (@je _ _ _ (j3 (pv 3))))),?_⟩;refine⟨cI,λr hr=>?_⟩;have fr:=hT.fresh hr;have s1:=jg (o:=.lst []) hr;refine⟨_,rfl,n,rfl,by omega,by omega,Jj (lo:=0) (n:=n.toNat) (λi U H'=>∃(v:Option V)(ks:List Int),U=[some (.ref To),some (.int n),some (.int m),some (.ref r),v]/\cJ To R H'/\hZ To R H H'/\H' r=some (.lst (ks.map V.int))/\ks.length<=i/\(ks.length:Int)<=(if 0<=m then m else 0)/\ks.Pairwise (·<·)/\∀z∈ks,0<=z/\z<(i:Int)) ⟨none,[],rfl,hT.same s1,λb o e _ _=>s1 _ _ e,ja,le_refl _,(by show(0:Int)<=_;split<;>omega),.nil,λz hz=>by cases hz⟩ ?_ ?_⟩
 .rintro i U H' hi ⟨v,ks,rfl,qT,kp,vJ,l,AF,up,rg⟩
  have lm:(ks.map V.int).length=ks.length:=length_map ..;refine⟨_,rfl,r,_,rfl,.inl (ag.of vJ),_,rfl,_,_,rfl,rfl,_,rfl,?_⟩;have old:∃(v:Option V)(ks':List Int),[some (.ref To),some (.int n),some (.int m),some (.ref r),some (.int (0+(i:Int)))]=[some (.ref To),some (.int n),some (.int m),some (.ref r),v]/\True:=⟨_,[],rfl,trivial⟩;refine bq (λh1=>?_) (λh1=>?_)
  .refine⟨_,rfl,To,R,3,rfl,qT,by decide,by decide,λd H2 d0 d1 jS Oh=>?_⟩;have lG:=Oh _ _ vJ fr.1 fr.2;have Oi:hZ To R H H2:=λb o e x1 x2=>Oh _ _ (kp b o e x1 x2) x1 x2;refine⟨rfl,_,rfl,bq (λh2=>?_) (λh2=>?_)⟩
   .refine⟨_,rfl,.inl ⟨rfl,_,ag.of lG⟩,_,rfl,r,_,_,rfl,rfl,lG,xi (by omega),?_⟩;refine⟨_,ks++[0+(i:Int)],rfl,?_,λb o e x1 x2=>?_,by rw[ja,map_append];rfl,?_,?_,?_,λz hz=>?_⟩
    .obtain⟨row,cc,t1,t2,t3⟩:=jS;exact⟨row,cc,by rw[jd (Ne.symm fr.1)];exact t1,by rw[jd (Ne.symm fr.2)];exact t2,t3⟩
    .rw[jd (ji e hr)];exact Oi b o e x1 x2
    .rw[length_append];show ks.length+1<=i+1;omega
    .rw[length_append];have:(ks.length:Int)<m:=by
      have:=of_decide_eq_true h1;rw[lm]at this;exact this
     rw[if_pos (by omega)];show((ks.length+1:Nat):Int)<=m;omega
    .rw[List.pairwise_append];refine⟨up,List.pairwise_singleton _ _,λx hx y hy=>?_⟩;have:y=0+(i:Int):=by simpa using hy
     have:=rg x hx;omega
    .rcases mem_append.mp hz with y|y
     .have:=rg z y;omega
     .have:z=0+(i:Int):=by simpa using y
      omega
   .exact⟨_,ks,rfl,jS,Oi,lG,by omega,AF,up,λz hz=>by have:=rg z hz;omega⟩
  .exact vd ⟨_,ks,rfl,qT,kp,vJ,by omega,AF,up,λz hz=>by have:=rg z hz;omega⟩
 .rintro U H' ⟨v,ks,rfl,qT,kp,vJ,l,AF,up,rg⟩
  exact⟨_,rfl,k r ks H' hr qT kp vJ up (λz hz=>by have:=rg z hz;omega) AF⟩
theorem j5i {C a0 a1 a2 a3 a4 a5 a6 a7 a8 a9 a10 a11 a12:Value}{b0 b1 b2 b3 b4 b5 b6 b7 b8 b9 dN Oj mP:Bool}(h:kinds K C [a0,a1,a2,a3,a4,a5,a6,a7,a8,a9,a10,a11,a12]=[some b0,some b1,some b2,some b3,some b4,some b5,some b6,some b7,some b8,some b9,some dN,some Oj,some mP]):W.kitOne K C a0=some b0/\W.kitOne K C a1=some b1/\W.kitOne K C a2=some b2/\W.kitOne K C a3=some b3/\W.kitOne K C a4=some b4/\W.kitOne K C a5=some b5/\W.kitOne K C a6=some b6/\W.kitOne K C a7=some b7/\
  W.kitOne K C a8=some b8/\W.kitOne K C a9=some b9/\W.kitOne K C a10=some dN/\W.kitOne K C a11=some Oj/\W.kitOne K C a12=some mP:=by
 unfold kinds at h;simpa only[map_cons,map_nil,List.cons.injEq,and_true]using h
noncomputable def words:List V:=[.str "number",.str "order",.str "houses",.str "house",.str "purse",.str "letter",.str "now",.str "much",.str "paper",.str "cut",.str "text"]
noncomputable def jx0 (K:W.Frag)(t:Ad):Sp:=λvs H Q _=>∃(ea C:Addr)(b0 b1 b2 b3 b4 b5 b6 b7 b8 b9 dN:Bool)(x:V),vs=[.ref ea]/\H ea=some (mv ea (.ref C))/\hJ K C/\kinds K (.ref C) (asked t)=[some b0,some b1,some b2,some b3,some b4,some b5,some b6,some b7,some b8,some b9,some dN,some true,some true]/\[b0,b1,b2,b3,b4,b5,b6,b7,b8,b9,dN].count true=1/\
 words[[b0,b1,b2,b3,b4,b5,b6,b7,b8,b9,dN].idxOf true]?=some x/\∀H',xp H H'->Q x H'
set_option maxHeartbeats 0 in
theorem Ol (T:Txt K mg t) : xm P w K mg base CX0 1 t.Fo t.Fp ["_law_caught"] (jx0 K t):=by
 refine T.F1.cz ye λ_ A _ s H vs Q E hr h=>?_
 obtain ⟨ea,C,b0,b1,b2,b3,b4,b5,b6,b7,b8,b9,dN,x,rfl,he,hX,hk,hc,hw,k⟩:=h
 obtain ⟨k0,k1,k2,k3,k4,k5,k6,k7,k8,k9,k10,k11,k12⟩:=j5i hk
 refine ⟨_,(@jb _ _ _ _ _ (@qa _ _ 1 _ _ _ _ ye.nd rfl (Or.inl rfl) (@zj _ _ _ _ (@bW _ _ _ _ _ _ _ (jm xg rfl T.jx boot_isinstance (@y3 _ _ _ _ _ (pv 0) (ze (v:=.ref t.FN) rfl T.Zo rfl) rfl rfl)) (jm xg rfl T.jx boot_isinstance (@y3 _ _ _ _ _ (pv 0) (ze (v:=.ref t.FO) rfl T.Zp rfl) rfl rfl)) (jm xg rfl T.jx boot_isinstance (@y3 _ _ _ _ _ (pv 0) (ze (v:=.ref t.FP) rfl T.Zr rfl) rfl rfl)) rfl rfl rfl)) (by rfl) (by first | exact .inl rfl | exact .inr rfl))
  (@jb _ _ _ _ _ (qa (i:=1) ye.nd rfl (Or.inl rfl) (xc xA (pv 1) (@zj _ _ _ _ (@bW _ _ _ _ _ _ _ (jm xg rfl T.jx boot_isinstance (@y3 _ _ _ _ _ (pv 0) (ze (v:=.ref t.FK) rfl T.Zm rfl) rfl rfl)) (jm xg rfl T.jx boot_isinstance (@y3 _ _ _ _ _ (pv 0) (ze (v:=.ref t.xj) rfl T.MZ rfl) rfl rfl)) (jm xg rfl T.jx boot_isinstance (@y3 _ _ _ _ _ (pv 0) (ze (v:=.ref t.FL) rfl T.Zn rfl) rfl rfl)) rfl rfl rfl))))
  (@jb _ _ _ _ _ (qa (i:=1) ye.nd rfl (Or.inl rfl) (xc xA (pv 1) (@zj _ _ _ _ (@bW _ _ _ _ _ _ _ (jm xg rfl T.jx boot_isinstance (@y3 _ _ _ _ _ (pv 0) (ze (v:=.ref t.iS) rfl T.M3 rfl) rfl rfl)) (jm xg rfl T.jx boot_isinstance (@y3 _ _ _ _ _ (pv 0) (ze (v:=.ref t.vk) rfl T.M0 rfl) rfl rfl)) (jm xg rfl T.jx boot_isinstance (@y3 _ _ _ _ _ (pv 0) (ze (v:=.ref t.FJ) rfl T.Zl rfl) rfl rfl)) rfl rfl rfl))))
  (@jb _ _ _ _ _ (qa (i:=1) ye.nd rfl (Or.inl rfl) (xc xA (pv 1) (@zj _ _ _ _ (@y3 _ _ _ _ _ (jm xg rfl T.jx boot_isinstance (@y3 _ _ _ _ _ (pv 0) (ze (v:=.ref t.FH) rfl T.Zj rfl) rfl rfl)) (jm xg rfl T.jx boot_isinstance (@y3 _ _ _ _ _ (pv 0) (ze (v:=.ref t.FI) rfl T.Zk rfl) rfl rfl)) rfl rfl))))
  (@jb _ _ _ _ _ (zd (PW.pt (dF (jw pG (dZ PySem.F.plainAttrs_list PySem.F.slot_list_count PySem.F.type_list_count Tz (pv 1) (jc eN jf)) jk (qc _)) (dF (zy (qz (jm xg rfl T.jx boot_isinstance (@y3 _ _ _ _ _ (pv 0) (ze (v:=.ref t.vn) rfl T.Gf rfl) rfl rfl)))) (dS (zy (qz (jm xg rfl T.jx boot_isinstance (@y3 _ _ _ _ _ (pv 0) (jY (v:=.ty "ValueError") rfl T.ZI Xa rfl) rfl rfl)))))))) (@je _ _ _ (j3 wu)) j6)
  (@jb _ _ _ _ _ (@qa _ _ 2 _ _ _ _ ye.nd rfl (Or.inl rfl) (@zj _ _ _ _ (@WU _ _ _ _ _ _ _ _ _ _ _ _ _ _ _ _ _ _ _ _ _ _ _ wu wu wu wu wu wu wu wu wu wu wu rfl rfl rfl rfl rfl rfl rfl rfl rfl rfl rfl)) (by rfl) (by first | exact .inl rfl | exact .inr rfl))
  (@je _ _ _ (j3 (kl fO (pv 2) (dZ PySem.F.plainAttrs_list PySem.F.slot_list_index PySem.F.type_list_index TB (pv 1) (jc eN jf)) (λ_ _=>rfl)))))))))),?_⟩
 refine ⟨_,rfl,ea,C,_,_,b0,rfl,he,hX,rfl,k0,_,rfl,ea,C,_,_,b1,rfl,he,hX,rfl,k1,_,rfl,ea,C,_,_,b2,rfl,he,hX,rfl,k2,kY,λp1 h1=>?_⟩
 have s1:=jg (o:=.lst [.bl b0,.bl b1,.bl b2]) h1
 have Hi:=s1 _ _ he
 refine ⟨_,rfl,_,rfl,ea,C,_,_,b3,rfl,Hi,hX,rfl,k3,_,rfl,ea,C,_,_,b4,rfl,Hi,hX,rfl,k4,_,rfl,ea,C,_,_,b5,rfl,Hi,hX,rfl,k5,kY,λp2 h2=>?_⟩
 refine ⟨p1,p2,[.bl b0,.bl b1,.bl b2],[.bl b3,.bl b4,.bl b5],rfl,rfl,(by rw [jd (ji ja h2)]; exact ja),ja,WQ,λp3 h3=>?_⟩
 have s3:=(s1.trans (jg (o:=.lst [.bl b3,.bl b4,.bl b5]) h2)).trans (jg (o:=.lst ([.bl b0,.bl b1,.bl b2] ++ [.bl b3,.bl b4,.bl b5])) h3)
 have g3:(upd (upd (upd H p1 (.lst [.bl b0,.bl b1,.bl b2])) p2 (.lst [.bl b3,.bl b4,.bl b5])) p3 (.lst ([.bl b0,.bl b1,.bl b2] ++ [.bl b3,.bl b4,.bl b5]))) p3 = some (.lst [.bl b0,.bl b1,.bl b2,.bl b3,.bl b4,.bl b5]):=ja
 generalize upd (upd (upd H p1 (.lst [.bl b0,.bl b1,.bl b2])) p2 (.lst [.bl b3,.bl b4,.bl b5])) p3 (.lst ([.bl b0,.bl b1,.bl b2] ++ [.bl b3,.bl b4,.bl b5])) = H3 at s3 g3
 have Hj:=s3 _ _ he
 refine ⟨_,rfl,_,rfl,ea,C,_,_,b6,rfl,Hj,hX,rfl,k6,_,rfl,ea,C,_,_,b7,rfl,Hj,hX,rfl,k7,_,rfl,ea,C,_,_,b8,rfl,Hj,hX,rfl,k8,kY,λp4 h4=>?_⟩
 refine ⟨p3,p4,[.bl b0,.bl b1,.bl b2,.bl b3,.bl b4,.bl b5],[.bl b6,.bl b7,.bl b8],rfl,rfl,(by rw [jd (ji g3 h4)]; exact g3),ja,WS,λp5 h5=>?_⟩
 have s5:=(s3.trans (jg (o:=.lst [.bl b6,.bl b7,.bl b8]) h4)).trans (jg (o:=.lst ([.bl b0,.bl b1,.bl b2,.bl b3,.bl b4,.bl b5] ++ [.bl b6,.bl b7,.bl b8])) h5)
 have g5:(upd (upd H3 p4 (.lst [.bl b6,.bl b7,.bl b8])) p5 (.lst ([.bl b0,.bl b1,.bl b2,.bl b3,.bl b4,.bl b5] ++ [.bl b6,.bl b7,.bl b8]))) p5 = some (.lst [.bl b0,.bl b1,.bl b2,.bl b3,.bl b4,.bl b5,.bl b6,.bl b7,.bl b8]):=ja
 generalize upd (upd H3 p4 (.lst [.bl b6,.bl b7,.bl b8])) p5 (.lst ([.bl b0,.bl b1,.bl b2,.bl b3,.bl b4,.bl b5] ++ [.bl b6,.bl b7,.bl b8])) = H5 at s5 g5
 have tE:=s5 _ _ he
 refine ⟨_,rfl,_,rfl,ea,C,_,_,b9,rfl,tE,hX,rfl,k9,_,rfl,ea,C,_,_,dN,rfl,tE,hX,rfl,k10,kX,λp6 h6=>?_⟩
 refine ⟨p5,p6,[.bl b0,.bl b1,.bl b2,.bl b3,.bl b4,.bl b5,.bl b6,.bl b7,.bl b8],[.bl b9,.bl dN],rfl,rfl,(by rw [jd (ji g5 h6)]; exact g5),ja,L9,λp7 h7=>?_⟩
 have s7:=(s5.trans (jg (o:=.lst [.bl b9,.bl dN]) h6)).trans (jg (o:=.lst ([.bl b0,.bl b1,.bl b2,.bl b3,.bl b4,.bl b5,.bl b6,.bl b7,.bl b8] ++ [.bl b9,.bl dN])) h7)
 have g7:(upd (upd H5 p6 (.lst [.bl b9,.bl dN])) p7 (.lst ([.bl b0,.bl b1,.bl b2,.bl b3,.bl b4,.bl b5,.bl b6,.bl b7,.bl b8] ++ [.bl b9,.bl dN]))) p7 = some (.lst ([b0,b1,b2,b3,b4,b5,b6,b7,b8,b9,dN].map V.bl)):=ja
 generalize upd (upd H5 p6 (.lst [.bl b9,.bl dN])) p7 (.lst ([.bl b0,.bl b1,.bl b2,.bl b3,.bl b4,.bl b5,.bl b6,.bl b7,.bl b8] ++ [.bl b9,.bl dN])) = H7 at s7 g7
 have Om:=s7 _ _ he
 have vK:true ∈ [b0,b1,b2,b3,b4,b5,b6,b7,b8,b9,dN]:=List.count_pos_iff.mp (by rw [hc]; decide)
 generalize [b0,b1,b2,b3,b4,b5,b6,b7,b8,b9,dN] = bs at hc hw g7 vK
 refine ⟨_,rfl,.inl ⟨rfl,_,ag.of g7⟩,p7,bs,true,rfl,rfl,ag.of g7,rfl,_,rfl,?_⟩
 refine bq (λz=>?_) (λ_=>?_)
 .exfalso
  rw [hc] at z
  exact absurd z (by decide)
 refine ⟨_,rfl,ea,C,_,_,true,rfl,Om,hX,rfl,k11,_,rfl,vd ?_⟩
 refine ⟨_,rfl,ea,C,_,_,true,rfl,Om,hX,rfl,k12,_,rfl,vd ?_⟩
 refine ⟨L9,λp8 h8=>?_⟩
 have s8:=s7.trans (jg (o:=.lst words) h8)
 have g8:=(jg (o:=.lst words) h8) _ _ g7
 refine ⟨_,rfl,_,rfl,.inl ⟨rfl,_,ag.of g8⟩,p7,bs,true,rfl,rfl,ag.of g8,vK,?_⟩
 exact ⟨p8,words,_,x,rfl,rfl,ag.of ja,kZ (by omega) (by rw [Int.toNat_natCast]; exact hw),k _ s8⟩
theorem j0j (ks:List (Int×Kp))(h:Int)(B:Kp):(bY ks h B).map (·.1)=ks.map (·.1):=by
 unfold bY;rw[map_map];refine List.map_congr_left λc _=>?_;show(if c.1=h then(h,B)else c).1=c.1;split
 .rename_i z;exact z.symm
 .rfl
structure Wd.Hk (Y Y':Wd):Prop where
 n:Y'.n=Y.n
 c:Y'.gf=Y.gf
 h:Y'.ks.map (·.1)=Y.ks.map (·.1)
 e:Y'.en=Y.en
theorem Wd.jQ.dQ {Y Y':Wd}(l:Y.jQ Y'):Y.Hk Y':=⟨l.n,l.c,by rw[l.k],l.e⟩
theorem j2k (Y:Wd)(i:Nat)(l:Bool×Int×O)(B:Kp):Y.Hk (Y.iX i l B):=by have k:=y0 l.2.1 (B.take l.1 l.2.2).2 {Y with way:=Y.way.eraseIdx i,ks:=bY Y.ks l.2.1 (B.take l.1 l.2.2).1};refine⟨k.n,k.c,?_,k.e⟩;show(Wd.zg _ _ _).ks.map _=_;rw[k.k];exact j0j _ _ _
section
variable {t:Ad}{H H':Hp}{Z Z':aq}{W:WA}{Y Y':Wd}{T:Nat}{p:Pt}{P:Role->Prop}{To R:Addr}{L:List O}
theorem Wl.next (w:Wl t H Z W Y T p)(f:Fr P Z H Z' H')(O':qk t H' Z' 0 W Y')(kr:ax Z' H'){T2:Nat}(g:Gn Y' T2 (1000*T2) L p.ls p.ns)(s:Sk Y' L p.ls)(e:Y.Hk Y'):Wl t H' Z' W Y' T2 p:=⟨O',kr,ig f w.ly.1 w.ly.2,⟨L,g,s⟩,e.e.trans w.en,e.n.trans w.n,e.c.trans w.c,e.h.trans w.h,w.bO⟩
end
noncomputable def j01 (t:Ad):Sp:=λvs H Q _=>∃Z W Y T p To R,vs=[.ref To,.ref W.x]/\Sw t H Z W Y T p To R/\p.ls.length<=5/\T<=60/\Hg t H Z W Y T p To R Q
theorem jq8 (T:Txt K mg t):xm P w K mg base CX0 9 t.Fx t.Fy ["_law_town_here","_law_world_here"] (j01 t):=by
 refine T.MQ.cz Mh λ_ A _ s H vs Q E hr h=>?_;obtain⟨Z,W,Y,T',p,To,R,rfl,S,l5,hT,k⟩:=h;refine⟨_,(@jb _ _ _ _ _ (qa (i:=2) Mh.nd rfl (Or.inl rfl) (jm jt rfl T.ue boot_len (jc (yq (pv 1) T.jh T.gz (GH T) hr.dn T.FY .nil jn) jf))) (@je _ _ _ (j3 (wG (jw rC (pv 2) jk (qc _)) (j5 (pv 1) T.jh T.YN (jsw T) hr.dn T.YO .nil jn (jc (jo (qe T) hr.dn rfl T.qj T.qf.kp T.qh .nil jn (@y3 _ _ _ _ _ (pv 0) (pv 2) rfl rfl)) jf)) jX)))),?_⟩;obtain⟨L,g,sk⟩:=S.w.g;have wl:=g.wl;refine⟨_,rfl,W.x,W.dx,_,rfl,S.w.o.ob.1,qy,Z,0,W,Y,rfl,S.w.o,by omega,λr xs nr px=>?_⟩;have lx:xs.length=Y.way.length:=Paired.length px;have s1:=jg (o:=.lst xs) nr;refine⟨r,xs,rfl,.inl (ag.of ja),?_⟩;have S1:=S.same s1;have f1:Fr qS Z H Z (upd H r (.lst xs)):=Fr.same s1;generalize upd H r (.lst xs)=H1 at S1 f1;refine⟨_,rfl,_,_,rfl,rfl,_,rfl,bq (λz=>?_) (λz=>k Z _ Y _ S1.wait f1 (gP.refl _))⟩;have pw:0<Y.way.length:=by
  have:=of_decide_eq_true z;omega
 refine⟨_,rfl,W.x,W.dx,_,rfl,S1.w.o.ob.1,qy,_,rfl,_,rfl,To,R,(xs.length:Int),rfl,S1.tn,by omega,by omega,λd H2 d0 d1 jS k2=>?_⟩;obtain⟨S2,f2⟩:=S1.draw jS k2;obtain⟨l,el⟩:∃l,Y.way[d.toNat]?=some l:=⟨_,getElem?_eq_getElem (by omega)⟩;obtain⟨lL,lh,lc⟩:=g.g.y l (mem_of_getElem? el);obtain⟨B,ek,km⟩:=vE lh;have kk:cX L T' Y.n B:=g.ks _ km;have ll:=(kk.take l.1 lL (g.lo _ lL)).2.2;have e1:=kk.sz.hd;have e2:=kk.sz.uc;have e3:=kk.sz.dw;have z0:=g.l;have z1:=g.ok.k1;have z2:=le_trans (show p.ls.length<=5 from l5) (show 5<=900 by decide);refine⟨Z,0,W,Y,d.toNat,l,B,_,_,_,by rw[Int.toNat_of_nonneg d0];rfl,S2.w.o,S2.w.kr,el,ek,g.ok.nd,kk.ok,g.ok.n8,g.lo _ lL,⟨by omega,by omega,by omega⟩,g.sz,by omega,by omega,by omega,λZ' H' x O' f' lJ ux=>?_⟩;have g2:=(g.iX el ek).mono (T':=T'+1) (M':=1000*(T'+1)) (le_refl _) (by omega);obtain⟨S3,f3⟩:=S2.go f' (λ_ z=>z) (S2.w.next f' O' lJ g2 (sk.iX g.ok.nd km kk.u lL).1 (j2k Y d.toNat l B));exact k Z' H' _ _ S3 ((f1.trans (oS f2)).trans f3) (sk.iX g.ok.nd km kk.u lL).2
noncomputable def j34 (t:Ad):Sp:=λvs H Q _=>∃Z W Y T p To R,Sw t H Z W Y T p To R/\T<=60/\Hg t H Z W Y T p To R Q/\((∃pu g m,vs=[.str "ask",.ref W.x,.int pu,.int g,.int m]/\(0<=pu/\pu<(Y.n:Int))/\(0<=g/\g<(Y.n:Int))/\g≠pu/\(1<=m/\m<=1000))\/(∃h q l,vs=[.str "lie",.ref W.x,.int h,.ref q,.int 0]/\h∈p.ls/\p.ls.length<=5/\zv H Z (.ref q) l.2.2/\l∈Y.way))
set_option maxHeartbeats 0 in
theorem Oo (T:Txt K mg t) : xm P w K mg base CX0 8 t.Fv t.Fw ["_law_kind","_law_world_here","_law_one","_law_two","_law_three"] (j34 t):=by
 refine T.F9.ok qp (λvs H Q E h=>?_) (λaB A outer s H vs Q E hr h=>?_)
 .obtain ⟨Z,W,Y,T',p,To,R,_,_,_,⟨pu,g,m,rfl,_⟩ | ⟨h,q,l,rfl,_⟩⟩:=h
  .rfl
  .rfl
 .obtain ⟨Z,W,Y,T',p,To,R,S,hT,k,hc⟩:=h
  obtain ⟨L,gn,sk⟩:=S.w.g
  have uX:=gn.wl
  have O:=S.w.o
  have kr:=S.w.kr
  have old : ∀ {H' v},xp H H' -> Q v H':=λsm=>k Z _ Y _ (S.same sm).wait (Fr.same sm) (gP.refl _)
  rcases hc with ⟨pu,g,m,rfl,hp,hg,ng,hm⟩ | ⟨h,q,l,rfl,hl,l5,uq,lw⟩
  .refine ⟨_,(@jb _ _ _ _ _ (qa (i:=5) qp.nd rfl (Or.inl rfl) jX)
   (@jb _ _ _ _ _ (qa (i:=6) qp.nd rfl (Or.inl rfl) jX)
   (@jb _ _ _ _ _ (Ly (i:=7) rfl rfl rfl rfl T.Gf T.M4 qp.nd rfl rfl (λ_ _=>(@je _ _ _ (zd (jw fK (pv 0) wu (qc _)) (@je _ _ _ (qa (i:=5) qp.nd rfl (Or.inl rfl) (Lx (pv 1) T.jh T.MF (NG T) hr.dn T.MG .nil (@bW _ _ _ _ _ _ _ (pv 2) (pv 3) (pv 4) rfl rfl rfl)))) (@je _ _ _ (zd (jw fK (pv 0) wu (qc _)) qm (@je _ _ _ (zd (jw fK (pv 0) wu (qc _)) (@je _ _ _ (qa (i:=5) qp.nd rfl (Or.inl rfl) (j5 (pv 1) T.jh T.FZ (G7 T) hr.dn T.F0 .nil jn (@y3 _ _ _ _ _ (pv 2) (pv 3) rfl rfl)))) qm))))))) (λ_=>(@je _ _ _ (qa (i:=6) qp.nd rfl (Or.inl rfl) (pv 7)))))
   (@je _ _ _ (j3 (wG (jw Jr (pv 6) jX (qc _)) (pv 5) (jo (Ol T) hr.dn rfl T.MJ T.F1.kp T.MK .nil jn (jc (pv 6) jf)))))))),?_⟩
   obtain ⟨row,dC⟩:=gn.row hp.1 hp.2
   have GL:=gn.al row (mem_of_getElem? dC)
   refine ⟨λU' cls dd H'=>U' = [some (.str "ask"),some (.ref W.x),some (.int pu),some (.int g),some (.int m),some .aj,some .aj,none] /\ xp H H' /\ (cls = .ref t.iS \/ cls = .ref t.vk \/ cls = .ref t.xj),?_,?_⟩
   .refine ⟨_,rfl,rfl,_,rfl,bM ?_⟩
    refine ⟨_,rfl,W.x,W.dx,_,rfl,O.ob.1,qy,_,rfl,_,rfl,_,rfl,Z,0,W,Y,pu,g,m,row,rfl,O,kr,gn.ok,hp,hg,ng,hm,dC,by omega,by omega,λ_ d H' s'=>⟨rfl,s',.inr (.inr rfl)⟩,λo eo ec H' s'=>⟨rfl,s',.inl rfl⟩,λhcar M' eM'=>⟨λlt H' s'=>⟨rfl,s',.inr (.inl rfl)⟩,λle nc H' q O' f' lJ uq=>?_⟩⟩
    refine ⟨_,rfl,rfl,_,rfl,bM ⟨_,rfl,?_⟩⟩
    have g2:=(gn.ask (by omega) hp hg ng hm dC).mono (T':=T' + 1) (M':=1000 * (T' + 1)) (le_refl _) (by omega)
    obtain ⟨S2,f2⟩:=S.go f' (λ_ z=>z) (S.w.next f' O' lJ g2 (sk.ask dC nc) ⟨rfl,rfl,rfl,rfl⟩)
    exact k Z H' _ _ S2 f2 (.of rfl rfl)
   .rintro U' cls dd H' ea ⟨rfl,sm,hw⟩ mD
    have sx : ∀ {u:HO},xp H (upd H' ea u):=λ{u}=>sm.trans (jg mD)
    rcases hw with rfl | rfl | rfl
    .refine ⟨t.iS,rfl,T.ZD,?_⟩
     refine ⟨_,rfl,ja,?_⟩
     rw [Bv]
     refine ⟨_,rfl,rfl,_,rfl,vd ?_⟩
     exact ⟨_,rfl,ea,t.iS,false,false,false,false,false,false,true,false,false,false,false,.str "now",rfl,ja,T.ZA,T.ZC,by decide,rfl,λmJ bP=>old (sx.trans bP)⟩
    .refine ⟨t.vk,rfl,T.Zy,?_⟩
     refine ⟨_,rfl,ja,?_⟩
     rw [Bv]
     refine ⟨_,rfl,rfl,_,rfl,vd ?_⟩
     exact ⟨_,rfl,ea,t.vk,false,false,false,false,false,false,false,true,false,false,false,.str "much",rfl,ja,T.Zw,T.Zx,by decide,rfl,λmJ bP=>old (sx.trans bP)⟩
    .refine ⟨t.xj,rfl,T.Zu,?_⟩
     refine ⟨_,rfl,ja,?_⟩
     rw [Bv]
     refine ⟨_,rfl,rfl,_,rfl,vd ?_⟩
     exact ⟨_,rfl,ea,t.xj,false,false,false,false,true,false,false,false,false,false,false,.str "purse",rfl,ja,T.Zs,T.Zt,by decide,rfl,λmJ bP=>old (sx.trans bP)⟩
  .refine ⟨_,(@jb _ _ _ _ _ (qa (i:=5) qp.nd rfl (Or.inl rfl) jX)
   (@jb _ _ _ _ _ (qa (i:=6) qp.nd rfl (Or.inl rfl) jX)
   (@jb _ _ _ _ _ (Ly (i:=7) rfl rfl rfl rfl T.Gf T.M4 qp.nd rfl rfl (λ_ _=>(@je _ _ _ (zd (jw fK (pv 0) wu (qc _)) (@je _ _ _ (qa (i:=5) qp.nd rfl (Or.inl rfl) (Lx (pv 1) T.jh T.MF (NG T) hr.dn T.MG .nil (@bW _ _ _ _ _ _ _ (pv 2) (pv 3) (pv 4) rfl rfl rfl)))) (@je _ _ _ (zd (jw fK (pv 0) wu (qc _)) qm (@je _ _ _ (zd (jw fK (pv 0) wu (qc _)) (@je _ _ _ (qa (i:=5) qp.nd rfl (Or.inl rfl) (j5 (pv 1) T.jh T.FZ (G7 T) hr.dn T.F0 .nil jn (@y3 _ _ _ _ _ (pv 2) (pv 3) rfl rfl)))) qm))))))) (λ_=>(@je _ _ _ (qa (i:=6) qp.nd rfl (Or.inl rfl) (pv 7)))))
   (@je _ _ _ (j3 (wG (jw Jr (pv 6) jX (qc _)) (pv 5) (jo (Ol T) hr.dn rfl T.MJ T.F1.kp T.MK .nil jn (jc (pv 6) jf)))))))),?_⟩
   refine ⟨λU' cls dd H'=>False,?_,λU' cls dd H' ea z=>z.elim⟩
   obtain ⟨lL,lh,lc⟩:=gn.g.y l lw
   have z:=gn.sz
   have z1:=gn.l
   have z2:=gn.ok.k1
   refine ⟨_,rfl,rfl,_,rfl,vd ?_⟩
   refine ⟨_,rfl,rfl,_,rfl,vd ?_⟩
   refine ⟨_,rfl,rfl,_,rfl,bM ?_⟩
   refine ⟨_,rfl,W.x,W.dx,_,rfl,O.ob.1,qy,_,rfl,_,rfl,Z,0,W,Y,h,q,l.2.2,p.ls,_,_,_,rfl,O,kr,S.w.ly.1,hl,uq,gn.lo _ lL,gn.mw _ lL,z,by omega,by omega,by omega,λZ' H' O' f' lJ=>?_⟩
   refine ⟨_,rfl,rfl,_,rfl,bM ⟨_,rfl,?_⟩⟩
   have g2:=(gn.zg (h:=h) (mem_append_right _ hl) (os:=[l.2.2]) (λo ho=>by rw [mem_singleton.mp ho]; exact lL)).mono (T':=T' + 1) (M':=1000 * (T' + 1)) (by omega) (by show 1000 * T' + 16 * 1 <= _; omega)
   obtain ⟨S2,f2⟩:=S.go f' (λr hr=>by rcases hr with hr | hr | hr <;> rw [hr]) (S.w.next f' O' lJ g2 (sk.lie hl _) (y0 h [l.2.2] Y).dQ)
   exact k Z' H' _ _ S2 f2 (.of (y0 h [l.2.2] Y).e (y0 h [l.2.2] Y).k)
theorem Oq {p n d:Int}(h0:0<=p)(h1:p<n)(d0:0<=d)(d1:d<n-1):0<=(p+1+d)%n/\(p+1+d)%n<n/\(p+1+d)%n≠p:=by
 refine⟨Int.emod_nonneg _ (by lia),Int.emod_lt_of_pos _ (by lia),λz=>?_⟩;have e:=Int.mul_ediv_add_emod (p+1+d) n;rw[z]at e;generalize (p+1+d) / n=q at e;by_cases y:q<=0
 .have:=Int.mul_le_mul_of_nonneg_left y (show 0<=n by lia);lia
 .have:=Int.mul_le_mul_of_nonneg_left (show 1<=q by lia) (show 0<=n by lia);lia
noncomputable def j1o (t:Ad):Sp:=λvs H Q _=>∃Z W Y T p To R pa aE few fo ho be ro pu,vs=[.ref To,.ref pa,.int pu]/\Sw t H Z W Y T p To R/\Ps H Z pa W.x aE few fo ho be ro p/\p.Ok/\0<=pu/\pu<(p.ns.length:Int)/\∀H' q o,Sw t H' Z W Y T p To R->Fr df Z H Z H'->zv H' Z (.ref q) o->y4 p.ns.length o=true->o.p=pu->o.n<=2->Q (.ref q) H'
theorem jsh (T:Txt K mg t):xm P w K mg base CX0 3 t.Fz t.FA ["_law_town_here","_law_parts","_law_purse"] (j1o t):=by
 refine T.MR.cz DL λ_ A _ s H vs Q E hr h=>?_;obtain⟨Z,W,Y,T',p,To,R,pa,aE,few,fo,ho,be,ro,pu,rfl,S,Bq,ok,p0,p1,k⟩:=h;refine⟨_,(@jb _ _ _ _ _ (qa (i:=3) DL.nd rfl (Or.inl rfl) (jm jt rfl T.ue boot_len (jc (kl fP (pv 1) jk (λ_ _=>rfl)) jf))) (@jb _ _ _ _ _ (qa (i:=4) DL.nd rfl (Or.inl rfl) (xc kF (xc gC (xc gC (pv 2) jk) (jo (qe T) hr.dn rfl T.qj T.qf.kp T.qh .nil jn (@y3 _ _ _ _ _ (pv 0) (xc gU (pv 3) jk) rfl rfl))) (pv 3))) (@je _ _ _ (j3 (@gG _ _ _ _ _ (@Dx _ _ _ _ _ _ _ _ _ (pv 2) (jo (qe T) hr.dn rfl T.qj T.qf.kp T.qh .nil jn (@y3 _ _ _ _ _ (pv 0) jk rfl rfl)) (pv 4) (xc gC jk (jo (zh T) hr.dn rfl T.zm T.zb.kp T.zo .nil jn (@y3 _ _ _ _ _ (pv 0) (@zj _ _ _ _ (@bW _ _ _ _ _ _ _ jk jk (jo (qe T) hr.dn rfl T.qj T.qf.kp T.qh .nil jn (@y3 _ _ _ _ _ (pv 0) jk rfl rfl)) rfl rfl rfl)) rfl rfl))) rfl rfl rfl rfl)))))),?_⟩;have l2:=ok.l2;have l8:=ok.l8;refine⟨_,rfl,pa,_,5,.ref be,rfl,rfl,aw.of Bq.tp.1,rfl,be,_,rfl,.inl (ag.of Bq.be.1),?_⟩;rw[length_map];refine⟨_,rfl,_,_,rfl,rfl,_,rfl,_,rfl,_,_,rfl,rfl,To,R,(p.ns.length:Int)-1,rfl,S.tn,by omega,by omega,λd H1 d0 d1 oT k1=>?_⟩;obtain⟨S1,f1⟩:=S.draw oT k1;obtain⟨g0,g1,g2⟩:=Oq p0 p1 d0 d1;refine⟨_,_,rfl,rfl,_,rfl,_,_,rfl,rfl,(by show(0:Int)<(p.ns.length:Int);omega),?_⟩;refine⟨_,rfl,_,rfl,To,R,3,rfl,S1.tn,by decide,by decide,λn H2 n0 n1 jS k2=>?_⟩;obtain⟨S2,f2⟩:=S1.draw jS k2;refine⟨_,rfl,_,rfl,_,rfl,To,R,12,rfl,S2.tn,by decide,by decide,λm H3 m0 m1 oU k3=>?_⟩;obtain⟨S3,f3⟩:=S2.draw oU k3;refine⟨kY,λl nl=>?_⟩;have s3:=jg (o:=.lst [.int 0,.int 4,.int m]) nl;have Ot:=S3.same s3;obtain⟨n1',n2'⟩:=S3.tn.fresh nl;refine⟨To,R,l,_,rfl,Ot.tn,ja,n1',n2',by show 0<3;decide,by show 3<=1000000;decide,λi x H4 ex vL k4=>?_⟩;obtain⟨S4,f4⟩:=Ot.draw vL k4;obtain⟨v,rfl,v0,v1⟩:∃v,x=V.int v/\0<=v/\v<=12:=by
  have:=mem_of_getElem? ex;simp only[mem_cons,List.not_mem_nil,or_false]at this;rcases this with rfl|rfl|rfl
  .exact⟨0,rfl,by decide,by decide⟩
  .exact⟨4,rfl,by decide,by decide⟩
  .exact⟨m,rfl,m0,by omega⟩
 refine⟨_,_,rfl,rfl,Dw,λq nq=>?_⟩;have s5:=jg (o:=.tup [.int pu,.int n,.int ((pu+1+d)%(p.ns.length:Int)),.int (1+v)]) nq;refine k _ q ⟨pu,n,(pu+1+d)%(p.ns.length:Int),1+v⟩ (S4.same s5) ((((f1.trans f2).trans f3).trans (Fr.same s3)).trans (f4.trans (Fr.same s5))) ⟨q,rfl,S4.w.kr.none nq,ja⟩ (mG.mpr ⟨p0,by show pu<=(p.ns.length:Int)-1;omega,g0,by show(pu+1+d)%(p.ns.length:Int)<=(p.ns.length:Int)-1;omega,λy=>g2 y.symm,n0,by show n<=99;omega,by show 1<=1+v;omega,by show 1+v<=1000;omega⟩) rfl (by show n<=2;omega)
theorem int_at {zs:List Int}{i:Nat}{x:V}(e:(zs.map V.int)[i]?=some x):∃z,z∈zs/\x= .int z:=by obtain⟨z,hz,e⟩:=mem_map.mp (mem_of_getElem? e);exact⟨z,hz,e.symm⟩
theorem jxp {is:zx}{i:Nat}{x:List Int×List Int}(nd:(is.map (·.1)).Nodup)(e:is[i]?=some x):jq is x.1=x.2:=(wd x.1 is).symm.trans (zX nd e)
theorem Gn.jN {Y:Wd}{T M:Nat}{L:List O}{ls ns:List Int}(g:Gn Y T M L ls ns){t:List Int}(h:t∈zk Y.bd Y.en):∃o∈L,t=za o/\Y.carried o=true:=by obtain⟨x,hx,rfl⟩:=mem_map.mp h;obtain⟨h1,h2⟩:=mem_filter.mp hx;obtain⟨o,ol,e⟩:=g.g.b.ks x h1;obtain⟨i,hi,ei⟩:=mem_iff_getElem.mp h1;refine⟨o,ol,e,?_⟩;unfold Wd.carried;rw[<-e,jxp g.g.b.nd (by rw[getElem?_eq_getElem hi,ei])];exact h2
theorem oV {t:Ad}{H:Hp}{Z:aq}{W:WA}{Y:Wd}{T:Nat}{p:Pt}{To R a:Addr}{zs:List Int}{Q:VK}(S:Sw t H Z W Y T p To R)(u:Un H Z a (zs.map V.int))(l0:0<zs.length)(l1:zs.length<=1000)(k:∀z H',z∈zs->Sw t H' Z W Y T p To R->Fr df Z H Z H'->Q (.int z) H'):Oe [.ref To,.ref a] H Q E0:=by obtain⟨n1,n2⟩:=u.neT S;refine⟨To,R,a,_,rfl,S.tn,u.1,n1,n2,by rw[length_map];exact l0,by rw[length_map];lia,λi x H' ex hT kT=>?_⟩;obtain⟨z,hz,rfl⟩:=int_at ex;obtain⟨S',f'⟩:=S.draw hT kT;exact k z H' hz S' f'
noncomputable def qaf (K:PySem.W.Frag)(t:Ad):Sp:=λvs H Q _=>∃Z W Y T p To R pa aE few fo ho be ro sh,vs=[.ref To,.ref pa,.int sh]/\Sw t H Z W Y T p To R/\Ps H Z pa W.x aE few fo ho be ro p/\p.Ok/\T<=60/\Hg t H Z W Y T p To R Q
set_option maxHeartbeats 0 in
theorem jxt (T:Txt K mg t) : xm P w K mg base CX0 10 t.FC t.FE ["_law_town_here","_law_parts","_law_share"] (qaf K t):=by
 refine T.MS.cz xb λ_ A _ s H vs Q E hr h=>?_
 obtain ⟨Z,W,Y,T',p,To,R,pa,aE,few,fo,ho,be,ro,sh,rfl,S,Bq,ok,hT,k⟩:=h
 refine ⟨_,(@jb _ _ _ _ _ (kB (pv 1) (lX rfl (j9 (jv (i:=3) xb.nd rfl (Or.inl rfl)) (j9 (jv (i:=4) xb.nd rfl (Or.inl rfl)) (j9 (jv (i:=5) xb.nd rfl (Or.inl rfl)) (j9 (jv (i:=6) xb.nd rfl (Or.inl rfl)) (j9 (jv (i:=7) xb.nd rfl (Or.inl rfl)) (j9 (jv (i:=8) xb.nd rfl (Or.inl rfl)) (j9 (jv (i:=9) xb.nd rfl (Or.inl rfl)) lW)))))))))
  (@jb _ _ _ _ _ (qa (i:=10) xb.nd rfl (Or.inl rfl) (jm jt rfl T.ue boot_len (jc (pv 8) jf)))
  (@jb _ _ _ _ _ (qa (i:=11) xb.nd rfl (Or.inl rfl) (jo (qe T) hr.dn rfl T.qj T.qf.kp T.qh .nil jn (@y3 _ _ _ _ _ (pv 0) jk rfl rfl)))
  (@je _ _ _ (zd (jw nG (pv 11) (pv 2) (qc _)) (@je _ _ _ (j8 (jo (jq8 T) hr.dn rfl T.YW T.MQ.kp T.YX .nil jn (@y3 _ _ _ _ _ (pv 0) (pv 3) rfl rfl)))) (@je _ _ _ (zd (PW.pt (jZ (jw fK (xc kF (pv 11) jk) jk (qc _)) (lS (jw (jF hr.units) (pv 9) (@zj _ _ _ _ jf) (qc _))))) (@jb _ _ _ _ _ (qa (i:=12) xb.nd rfl (Or.inl rfl) (jo (jsh T) hr.dn rfl T.YY T.MR.kp T.YZ .nil jn (@bW _ _ _ _ _ _ _ (pv 0) (pv 1) (jo (zh T) hr.dn rfl T.zm T.zb.kp T.zo .nil jn (@y3 _ _ _ _ _ (pv 0) (pv 9) rfl rfl)) rfl rfl rfl)))
  (@jb _ _ _ _ _ (j8 (j5 (pv 3) T.jh T.YG (jq6 T) hr.dn T.YH .nil jn (@y3 _ _ _ _ _ (pv 12) (jo (zh T) hr.dn rfl T.zm T.zb.kp T.zo .nil jn (@y3 _ _ _ _ _ (pv 0) (pv 7) rfl rfl)) rfl rfl)))
  (@je _ _ _ (zd (jw (jF hr.units) (pv 6) (@zj _ _ _ _ jf) (qc _)) (@je _ _ _ (j8 (j5 (pv 3) T.jh T.FZ (G7 T) hr.dn T.F0 .nil jn (@y3 _ _ _ _ _ (jo (zh T) hr.dn rfl T.zm T.zb.kp T.zo .nil jn (@y3 _ _ _ _ _ (pv 0) (pv 6) rfl rfl)) (pv 12) rfl rfl)))) j6)))) (@je _ _ _ (zd (PW.pt (jZ (jw (jF hr.units) (pv 6) (@zj _ _ _ _ jf) (qc _)) (jZ (jw (jF hr.units) (yq (pv 3) T.jh T.gz (GH T) hr.dn T.FY .nil jn) (@zj _ _ _ _ jf) (qc _)) (lS (jw fK (jo (qe T) hr.dn rfl T.qj T.qf.kp T.qh .nil jn (@y3 _ _ _ _ _ (pv 0) jk rfl rfl)) jk (qc _)))))) (@je _ _ _ (j8 (jo (Oo T) hr.dn rfl T.MO T.F9.kp T.MP .nil jn (@Dy _ _ _ _ _ _ _ _ _ _ _ wu (pv 3) (jo (zh T) hr.dn rfl T.zm T.zb.kp T.zo .nil jn (@y3 _ _ _ _ _ (pv 0) (pv 6) rfl rfl)) (kl fP (jo (zh T) hr.dn rfl T.zm T.zb.kp T.zo .nil jn (@y3 _ _ _ _ _ (pv 0) (yq (pv 3) T.jh T.gz (GH T) hr.dn T.FY .nil jn) rfl rfl)) jk (λ_ _=>rfl)) jk rfl rfl rfl rfl rfl)))) (@je _ _ _ (zd (PW.pt (jZ (jw (jF hr.units) (yq (pv 3) T.jh T.yj (vh T) hr.dn T.yy .nil jn) (@zj _ _ _ _ jf) (qc _)) (lS (jw fK (jo (qe T) hr.dn rfl T.qj T.qf.kp T.qh .nil jn (@y3 _ _ _ _ _ (pv 0) jk rfl rfl)) jk (qc _))))) (@je _ _ _ (j8 (j5 (pv 3) T.jh T.YK (jsr T) hr.dn T.YL .nil jn (@y3 _ _ _ _ _ (jo (zh T) hr.dn rfl T.zm T.zb.kp T.zo .nil jn (@y3 _ _ _ _ _ (pv 0) (yq (pv 3) T.jh T.yj (vh T) hr.dn T.yy .nil jn) rfl rfl)) (jo (zh T) hr.dn rfl T.zm T.zb.kp T.zo .nil jn (@y3 _ _ _ _ _ (pv 0) (pv 7) rfl rfl)) rfl rfl)))) (@jb _ _ _ _ _ (qa (i:=13) xb.nd rfl (Or.inl rfl) (jo (qe T) hr.dn rfl T.qj T.qf.kp T.qh .nil jn (@y3 _ _ _ _ _ (pv 0) (pv 10) rfl rfl)))
  (@jb _ _ _ _ _ (qa (i:=14) xb.nd rfl (Or.inl rfl) (xc kF (xc gC (xc gC (pv 13) jk) (jo (qe T) hr.dn rfl T.qj T.qf.kp T.qh .nil jn (@y3 _ _ _ _ _ (pv 0) (xc gU (pv 10) jk) rfl rfl))) (pv 10)))
  (@je _ _ _ (j8 (jo (Oo T) hr.dn rfl T.MO T.F9.kp T.MP .nil jn (@Dy _ _ _ _ _ _ _ _ _ _ _ wu (pv 3) (pv 13) (pv 14) (xc gC jk (jo (zh T) hr.dn rfl T.zm T.zb.kp T.zo .nil jn (@y3 _ _ _ _ _ (pv 0) (@zj _ _ _ _ (@bW _ _ _ _ _ _ _ jk jk (jo (qe T) hr.dn rfl T.qj T.qf.kp T.qh .nil jn (@y3 _ _ _ _ _ (pv 0) jk rfl rfl)) rfl rfl rfl)) rfl rfl))) rfl rfl rfl rfl rfl))))))))))))))))),?_⟩
 have l2:=ok.l2
 have l8:=ok.l8
 refine aJ λN hN=>⟨_,rfl,pa,_,rfl,aw.of Bq.tp.1,rfl,_,_,rfl,_,_,rfl,_,_,rfl,_,_,rfl,_,_,rfl,_,_,rfl,_,_,rfl,rfl,?_⟩
 refine hN _ _ (aJ λN hN=>⟨_,rfl,be,_,rfl,.inl (ag.of Bq.be.1),?_⟩)
 rw [length_map]
 refine hN _ _ (aJ λN hN=>⟨_,rfl,To,R,10,rfl,S.tn,by decide,by decide,λkd H1 kd0 Ai oT k1=>?_⟩)
 obtain ⟨S1,f1⟩:=S.draw oT k1
 have B1:=Bq.fr f1
 refine hN [some (.ref To),some (.ref pa),some (.int sh),some (.ref W.x),some (.int aE),some (.int few),some (.ref fo),some (.ref ho),some (.ref be),some (.ref ro),some (.int (p.ns.length:Int)),some (.int kd),none,none,none] H1 (uQ λN hN=>⟨_,rfl,_,rfl,_,_,rfl,rfl,_,rfl,hN _ _ (bq (λ_=>?_) (λ_=>?_))⟩)
 .refine ⟨_,rfl,_,rfl,Z,W,Y,T',p,To,R,rfl,S1,ok.ll,hT,λZ' H' Y' v S' f' g'=>?_⟩
  exact k Z' H' Y' _ S' ((oS f1).trans f') g'
 obtain ⟨L,gn,sk⟩:=S.w.g
 have uX:=gn.wl
 have z0:=gn.l
 have z1:=gn.ok.k1
 have z2:=ok.ll
 have bl:=gn.sz.bd
 have bne : ∀ x ∈ Y.bd,x.1 ≠ []:=λx hx z=>by
  obtain ⟨o,_,e⟩:=gn.g.b.ks x hx
  rw [e] at z
  cases z
 have fF : ∀ {HB e},HB e = none -> ql K (upd HB e (.lst [])) (.lst []) (.ref e):=λn=>by
  rw [ql]
  exact ⟨_,[],rfl,ag.of ja,by rw [xu]⟩
 refine' (λkey=>_:(∀ HB,Sw t HB Z W Y T' p To R -> Fr df Z H Z HB -> (_:Hp -> Prop) HB) -> _) _
 rotate_left
 .refine uQ λN hN=>⟨_,rfl,_,_,rfl,rfl,(by show (0:Int) < 2; decide),rfl,_,rfl,bq (λ_=>?_) (λ_=>hN _ _ (vd ?_))⟩
  rotate_left
  .exact key H1 S1 f1
  refine ⟨_,rfl,cI,λe ne=>?_⟩
  have s2:=jg (o:=.lst []) ne
  have S2:=S1.same s2
  have f2:Fr df Z H Z (upd H1 e (.lst [])):=f1.trans (Fr.same s2)
  have B2:=Bq.fr f2
  refine ⟨.lst (p.cs.map Dt.int),.lst [],sy (ag.of B2.ro.1),fF ne,xJ _,_,rfl,?_⟩
  rw [vI]
  generalize upd H1 e (.lst []) = H2 at S2 f2 B2
  refine hN _ _ (bq (λz=>?_) (λ_=>?_))
  rotate_left
  .exact key H2 S2 f2
  have nc : 0 < p.cs.length:=length_pos_iff.mpr λy=>by rw [y] at z; cases z
  refine aJ λN hN=>⟨_,rfl,_,rfl,_,rfl,_,rfl,oV S2 B2.ro nc ok.cl λpu H3 Ou S3 f3=>?_⟩
  have B3:=B2.fr f3
  obtain ⟨AG,Hl⟩:=ok.c pu Ou
  refine ⟨Z,W,Y,T',p,To,R,pa,aE,few,fo,ho,be,ro,pu,rfl,S3,B3,ok,AG,Hl,λH4 q o S4 f4 uq4 io eo en=>?_⟩
  have B4:=B3.fr f4
  refine hN _ _ (aJ λN hN=>⟨_,rfl,W.x,W.dx,_,rfl,S4.w.o.ob.1,qy,_,rfl,_,rfl,_,rfl,oV S4 B4.ho ok.h0 (by have:=ok.h1; omega) λh H5 hh S5 f5=>?_⟩)
  have Ov:=uq4.fr f5
  have B5:=B4.fr f5
  have Ox:y4 Y.n o = true:=by rw [S.w.n]; exact io
  have oc:o.p ∈ Y.gf:=by rw [S.w.c,eo]; exact Ou
  have hk:h ∈ Y.ks.map (·.1):=by rw [S.w.h]; exact hh
  obtain ⟨B,ek,km⟩:=vE hk
  refine ⟨Z,0,W,Y,q,o,h,B,rfl,S5.w.o,S5.w.kr,Ov,Ox,oc,ek,by omega,λH6 O6 f6 kr6=>?_⟩
  have vM:=gn.j9h Ox oc hk
  obtain ⟨S6,f6'⟩:=S5.go f6 (λr hr=>by rw [hr]) (S5.w.next f6 O6 kr6 (vM.mono (T':=T' + 1) (M':=1000 * (T' + 1)) (le_refl _) (by omega)) (sk.more λ_=>by omega) ⟨rfl,rfl,rfl,rfl⟩)
  have F6:Fr qS Z H Z H6:=(oS (((f2.trans f3).trans f4).trans f5)).trans f6'
  have B6:=B5.fr f6
  have uq6:=Ov.fr f6
  refine hN _ _ (uQ λN hN=>⟨_,rfl,cI,λe' ne'=>?_⟩)
  have s7:=jg (o:=.lst []) ne'
  have S7:=S6.same s7
  have F7:Fr qS Z H Z (upd H6 e' (.lst [])):=F6.trans (Fr.same s7)
  have B7:=B6.fr (P:=λ_=>False) (Fr.same s7)
  have Oy:=uq6.fr (P:=λ_=>False) (Fr.same s7)
  refine ⟨.lst (p.ls.map Dt.int),.lst [],sy (ag.of B7.fo.1),fF ne',xJ _,_,rfl,?_⟩
  rw [vI]
  generalize upd H6 e' (.lst []) = H7 at S7 F7 B7 Oy
  refine hN _ _ (bq (λz=>?_) (λ_=>k Z H7 _ _ S7 F7 (.of rfl rfl)))
  have nl : 0 < p.ls.length:=length_pos_iff.mpr λy=>by rw [y] at z; cases z
  refine ⟨_,rfl,W.x,W.dx,_,rfl,S7.w.o.ob.1,qy,_,rfl,_,rfl,oV S7 B7.fo nl (by omega) λh' H8 Hm S8 f8=>?_⟩
  have uq8:=Oy.fr f8
  refine ⟨_,rfl,Z,0,W,_,h',q,o,p.ls,_,_,_,rfl,S8.w.o,S8.w.kr,S8.w.ly.1,Hm,uq8,vM.lo _ mem_cons_self,vM.mw _ mem_cons_self,vM.sz,(by rw [length_cons]; omega),(by show Y.ks.length + p.ls.length + 1 <= 1000; omega),by omega,λZ9 H9 O9 f9 kr9=>?_⟩
  have g9:=(vM.zg (h:=h') (mem_append_right _ Hm) (os:=[o]) (λu hu=>by rw [mem_singleton.mp hu]; exact mem_cons_self)).mono (T':=T' + 1) (M':=1000 * (T' + 1)) (le_refl _) (by show 1000 * T' + 1 + 16 * 1 <= _; omega)
  obtain ⟨S9,f9'⟩:=S8.go f9 (λr hr=>by rcases hr with hr | hr | hr <;> rw [hr]) (S8.w.next f9 O9 kr9 g9 ((sk.more λ_=>by omega).lie Hm _) (y0 h' [o] _).dQ)
  exact k Z9 H9 _ _ S9 ((F7.trans (oS f8)).trans f9') ((gP.of rfl rfl).trans (.of (y0 h' [o] _).e (y0 h' [o] _).k))
 rintro HA SA fA
 refine' (λkey=>_:(∀ HB,Sw t HB Z W Y T' p To R -> Fr df Z H Z HB -> (_:Hp -> Prop) HB) -> _) _
 rotate_left
 .refine uQ λN hN=>⟨_,rfl,cI,λe ne=>?_⟩
  have s2:=jg (o:=.lst []) ne
  have S2:=SA.same s2
  have f2:Fr df Z H Z (upd HA e (.lst [])):=fA.trans (Fr.same s2)
  have B2:=Bq.fr f2
  refine ⟨.lst (p.ls.map Dt.int),.lst [],sy (ag.of B2.fo.1),fF ne,xJ _,_,rfl,?_⟩
  rw [vI]
  generalize upd HA e (.lst []) = H2 at S2 f2 B2
  refine bq (λz=>?_) (λ_=>hN _ _ (vd ?_))
  rotate_left
  .exact key H2 S2 f2
  have nl : 0 < p.ls.length:=length_pos_iff.mpr λy=>by rw [y] at z; cases z
  refine ⟨_,rfl,W.x,W.dx,_,rfl,S2.w.o.ob.1,qy,Z,0,W,Y,rfl,S2.w.o,by omega,λr xs nr px=>⟨cI,λe' ne'=>?_⟩⟩
  have s3:=jg (o:=.lst xs) nr
  have s4:=jg (o:=.lst []) ne'
  have S3:=(S2.same s3).same s4
  have f3:Fr df Z H Z (upd (upd H2 r (.lst xs)) e' (.lst [])):=f2.trans (Fr.same (s3.trans s4))
  have GN:Paired (cq (upd (upd H2 r (.lst xs)) e' (.lst [])) Z) xs Y.way:=Paired.ub px λ_ _=>cq.fr (P:=λ_=>False) (Fr.same (s3.trans s4))
  have hd:ql K (upd (upd H2 r (.lst xs)) e' (.lst [])) (.lst (Y.way.map qQ)) (.ref r):=by
   rw [ql]
   exact ⟨r,xs,rfl,ag.of (s4 _ _ ja),Hf (λx a h=>cq.qa6 h) GN⟩
  have dl:=Oc Y.way
  refine ⟨_,_,hd,fF ne',by rw [bg]; omega,_,rfl,?_⟩
  rw [vI]
  generalize upd (upd H2 r (.lst xs)) e' (.lst []) = H3 at S3 f3
  refine bq (λz=>?_) (λ_=>hN _ _ (vd ?_))
  rotate_left
  .exact key H3 S3 f3
  have nw : 0 < Y.way.length:=length_pos_iff.mpr λy=>by rw [y] at z; cases z
  refine ⟨_,rfl,To,R,3,rfl,S3.tn,by decide,by decide,λd H4 d0 d1 vL k4=>?_⟩
  obtain ⟨S4,f4⟩:=S3.draw vL k4
  have F4:=f3.trans f4
  refine ⟨rfl,_,rfl,hN _ _ (bq (λ_=>?_) (λ_=>?_))⟩
  rotate_left
  .exact key H4 S4 F4
  have B4:=Bq.fr F4
  refine ⟨_,rfl,_,rfl,_,rfl,oV S4 B4.fo nl (by omega) λh H5 hh S5 f5=>?_⟩
  refine ⟨_,rfl,_,rfl,W.x,W.dx,_,rfl,S5.w.o.ob.1,qy,Z,0,W,Y,rfl,S5.w.o,by omega,λr' mM AH Oz=>?_⟩
  have lx:mM.length = Y.way.length:=Paired.length Oz
  have s6:=jg (o:=.lst mM) AH
  obtain ⟨n1,n2⟩:=S5.tn.fresh AH
  have S6:=S5.same s6
  have f6:Fr df Z H Z (upd H5 r' (.lst mM)):=(F4.trans f5).trans (Fr.same s6)
  refine ⟨To,R,r',mM,rfl,S6.tn,ja,n1,n2,by omega,by omega,λi x H7 ex Hn k7=>?_⟩
  obtain ⟨S7,f7⟩:=S6.draw Hn k7
  obtain ⟨l,el,ul⟩:=qd Oz ex
  obtain ⟨a,q,rfl,_,h1,uq⟩:=(ul.fr (P:=λ_=>False) (Fr.same s6)).fr f7
  exact ⟨a,_,2,.ref q,rfl,rfl,aw.of h1,rfl,Z,W,Y,T',p,To,R,S7,hT,λZ' H' Y' v S' f' g'=>k Z' H' Y' _ S' ((oS (f6.trans f7)).trans f') g',.inr ⟨h,q,l,rfl,hh,ok.ll,uq,mem_of_getElem? el⟩⟩
 rintro HC SC fC
 refine' (λkey=>_:(∀ HB,Sw t HB Z W Y T' p To R -> Fr df Z H Z HB -> (_:Hp -> Prop) HB) -> _) _
 rotate_left
 .refine uQ λN hN=>⟨_,rfl,W.x,W.dx,_,rfl,SC.w.o.ob.1,qy,Z,0,W,Y,rfl,SC.w.o,by omega,gn.g.b.nd,bne,λr vs ts H1 nr s1 q1 _ q3 h1=>⟨cI,λe ne=>?_⟩⟩
  have s2:=jg (o:=.lst []) ne
  have S2:=(SC.same s1).same s2
  have f2:Fr df Z H Z (upd H1 e (.lst [])):=fC.trans (Fr.same (s1.trans s2))
  have hd:ql K (upd H1 e (.lst [])) (.lst (ts.map fZ)) (.ref r):=by
   rw [ql]
   exact ⟨r,vs,rfl,ag.of (s2 _ _ h1),Hf (λx a h=>by obtain ⟨a',rfl,q⟩:=h; exact qR (aw.of (s2 _ _ q))) q3⟩
  have dl:=vH ts
  refine ⟨_,_,hd,fF ne,by rw [bg]; omega,_,rfl,?_⟩
  rw [vI]
  generalize upd H1 e (.lst []) = H2 at S2 f2
  refine bq (λz=>?_) (λ_=>hN _ _ (vd ?_))
  rotate_left
  .exact key H2 S2 f2
  have nt:ts ≠ []:=λy=>by rw [y] at z; cases z
  have nt2 : 0 < (zk Y.bd Y.en).length:=by
   rw [<- q1.length_eq]
   exact length_pos_iff.mpr nt
  refine ⟨_,rfl,To,R,4,rfl,S2.tn,by decide,by decide,λd H3 d0 d1 oU k3=>?_⟩
  obtain ⟨S3,f3⟩:=S2.draw oU k3
  have F3:=f2.trans f3
  refine ⟨rfl,_,rfl,hN _ _ (bq (λ_=>?_) (λ_=>?_))⟩
  rotate_left
  .exact key H3 S3 F3
  refine ⟨_,rfl,W.x,W.dx,_,rfl,S3.w.o.ob.1,qy,_,rfl,_,rfl,W.x,W.dx,_,rfl,S3.w.o.ob.1,qy,Z,0,W,Y,rfl,S3.w.o,by omega,gn.g.b.nd,bne,λr' bh cF H4 AH s4 OA _ OE h4=>?_⟩
  have S4:=S3.same s4
  have F4:Fr df Z H Z H4:=F3.trans (Fr.same s4)
  obtain ⟨n1,n2⟩:=S3.tn.fresh AH
  have lv:bh.length = (zk Y.bd Y.en).length:=(Paired.length OE).trans OA.length_eq
  have lc:(zk Y.bd Y.en).length <= Y.bd.length:=by
   unfold zk
   rw [length_map]
   exact length_filter_le _ _
  refine ⟨To,R,r',bh,rfl,S4.tn,h4,n1,n2,by omega,by omega,λi x H5 ex xQ k5=>?_⟩
  obtain ⟨S5,f5⟩:=S4.draw xQ k5
  obtain ⟨ti,eti,a,rfl,ha⟩:=qd OE ex
  obtain ⟨o,oL,rfl,oc⟩:=gn.jN (OA.mem_iff.mp (mem_of_getElem? eti))
  have uo:zv H4 Z (.ref a) o:=⟨a,rfl,S4.w.kr.tup ha,ha⟩
  have uo5:=uo.fr f5
  have B5:=Bq.fr (F4.trans f5)
  refine ⟨_,rfl,_,rfl,oV S5 B5.ho ok.h0 (by have:=ok.h1; omega) λh H6 hh S6 f6=>?_⟩
  have hk:h ∈ Y.ks.map (·.1):=by rw [S.w.h]; exact hh
  obtain ⟨B,ek,km⟩:=vE hk
  refine ⟨Z,0,W,Y,a,o,h,B,rfl,S6.w.o,S6.w.kr,uo5.fr f6,gn.lo _ oL,ek,oc,by omega,λH7 O7 f7 kr7=>?_⟩
  have g7:=(gn.N5 oL hk (b:=false) λ_=>oc).mono (T':=T' + 1) (M':=1000 * (T' + 1)) (by omega) (by omega)
  obtain ⟨S7,f7'⟩:=S6.go f7 (λr hr=>by rw [hr]) (S6.w.next f7 O7 kr7 g7 sk.way ⟨rfl,rfl,rfl,rfl⟩)
  exact k Z H7 _ _ S7 ((oS ((F4.trans f5).trans f6)).trans f7') (.of rfl rfl)
 rintro HD SD fD
 refine aJ λN hN=>⟨_,rfl,_,rfl,To,R,(p.ns.length:Int),rfl,SD.tn,by omega,by omega,λpu H1 AG Hl oT k1=>?_⟩
 obtain ⟨S1,f1⟩:=SD.draw oT k1
 refine hN _ _ (aJ λN hN=>⟨_,rfl,_,_,rfl,rfl,_,rfl,_,rfl,_,_,rfl,rfl,To,R,(p.ns.length:Int) - 1,rfl,S1.tn,by omega,by omega,λd H2 d0 d1 jS k2=>?_⟩)
 obtain ⟨S2,f2⟩:=S1.draw jS k2
 obtain ⟨g0,g1,g2⟩:=Oq AG Hl d0 d1
 refine ⟨_,_,rfl,rfl,_,rfl,_,_,rfl,rfl,(by show (0:Int) < (p.ns.length:Int); omega),?_⟩
 refine hN _ _ ⟨_,rfl,_,rfl,_,rfl,_,rfl,_,rfl,To,R,30,rfl,S2.tn,by decide,by decide,λm H3 m0 m1 oU k3=>?_⟩
 obtain ⟨S3,f3⟩:=S2.draw oU k3
 refine ⟨kY,λl nl=>?_⟩
 have s4:=jg (o:=.lst ([0,4,m].map V.int)) nl
 have S4:=S3.same s4
 have u4:Un (upd H3 l (.lst ([0,4,m].map V.int))) Z l ([0,4,m].map V.int):=⟨ja,S3.w.kr.none nl⟩
 refine oV S4 u4 (by show 0 < 3; decide) (by show 3 <= 1000; decide) λv H5 hv S5 f5=>?_
 have v01 : 0 <= v /\ v <= 30:=by
  simp only [mem_cons,List.not_mem_nil,or_false] at hv
  rcases hv with rfl | rfl | rfl <;> omega
 have en:(Y.n:Int) = (p.ns.length:Int):=by rw [S.w.n]
 have F5:Fr df Z H Z H5:=(((fD.trans f1).trans f2).trans f3).trans ((Fr.same s4).trans f5)
 exact ⟨_,_,rfl,rfl,Z,W,Y,T',p,To,R,S5,hT,λZ' H' Y' v S' f' g'=>k Z' H' Y' _ S' ((oS F5).trans f') g',.inl ⟨pu,(pu + 1 + d) % (p.ns.length:Int),1 + v,rfl,⟨AG,by omega⟩,⟨g0,by omega⟩,g2,by omega,by omega⟩⟩
structure Tw (H:Hp)(Z:aq)(To R:Addr):Prop where
 kr:ax Z H
 tn:cJ To R H
 tr:vG Z To R
section
variable {H H':Hp}{Z:aq}{To R:Addr}
theorem Tw.same (s:xp H H')(x:Tw H Z To R):Tw H' Z To R:=⟨x.kr.same s,x.tn.same s,x.tr⟩
theorem Tw.draw (x:Tw H Z To R)(hT:cJ To R H')(k:hZ To R H H'):Tw H' Z To R/\Fr df Z H Z H':=⟨⟨Oa x.kr hT k,hT,x.tr⟩,He x.tr k⟩
end
theorem AI {ls:List Int}{n:Nat}{x:Int}:x∈aE ls n↔(0<=x/\x<(n:Int))/\x∉ls:=by
 unfold aE;rw[mem_filter,mem_map];constructor
 .rintro⟨⟨i,hi,rfl⟩,h⟩
  exact⟨⟨by lia,by have:=mem_range.mp hi;lia⟩,by simpa using h⟩
 .rintro⟨⟨h0,h1⟩,h⟩
  exact⟨⟨x.toNat,mem_range.mpr (by lia),by lia⟩,by simpa using h⟩
theorem j8z {h f:Int}{ns cs ls:List Int}:Sk (w0 h f ns cs ls) [] ls:=by
 have gO:∀c∈(w0 h f ns cs ls).ks,c.2=iZ ns/\c.1∈aE ls h.toNat:=λc hc=>by obtain⟨i,hi,rfl⟩:=mem_map.mp (show c∈(aE ls h.toNat).map λi=>(i,iZ ns)from hc);exact⟨rfl,hi⟩
 refine⟨λc hc=>by rw[(gO c hc).1];exact⟨nodup_nil,λ_ z=>(by cases z),λ_ z=>(by cases z)⟩,λ_ _ _ z=>(by cases z),λp row e i o eo=>?_,λ_ z=>(by cases z),λc hc=>(AI.mp (gO c hc).2).2,λc hc x hx=>by rw[(gO c hc).1]at hx;cases hx⟩;have:row=[]:=eq_of_mem_replicate (mem_of_getElem? e);subst this;cases eo
theorem j5v {ls:List Int}{n:Nat}(up:ls.Pairwise (·<·)):(aE ls n++ls).Nodup:=by refine nodup_append.mpr ⟨?_,up.imp λh=>Int.ne_of_lt h,λx hx y hy e=>(AI.mp hx).2 (e ▸ hy)⟩;unfold aE;exact List.Pairwise.filter _ (List.Pairwise.map _ (λa b hG z=>hG (Int.ofNat.inj z)) nodup_range)
theorem jzm {ls:List Int}{n:Nat}(up:ls.Pairwise (·<·))(r:∀x∈ls,0<=x/\x<(n:Int)):(aE ls n).length+ls.length<=n:=by
 have h:=gi (ys:=(List.range n).map λ(i:Nat)=>(i:Int)) (j5v (n:=n) up) λx hx=>by
  have:0<=x/\x<(n:Int):=by
   rcases mem_append.mp hx with h|h
   .exact(AI.mp h).1
   .exact r x h
  exact mem_map.mpr ⟨x.toNat,mem_range.mpr (by lia),by lia⟩
 rwa[length_append,length_map,length_range]at h
noncomputable def j17 (t:Ad):Sp:=λvs H Q _=>∃Z To R,vs=[.ref To]/\Tw H Z To R/\∀Z' H' W Y pa cr few fo ho be ro p,p.Ok->Sw t H' Z' W Y 0 p To R->Ps H' Z' pa W.x cr few fo ho be ro p->Q (.ref pa) H'
set_option maxHeartbeats 0 in
theorem jsq (T:Txt K mg t) : xm P w K mg base CX0 8 t.Ft t.Fu ["_law_town_here"] (j17 t):=by
 refine T.MN.cz yw λ_ A _ s H vs Q E hr h=>?_
 obtain ⟨Z,To,R,rfl,S,k⟩:=h
 refine ⟨_,(@jb _ _ _ _ _ (qa (i:=1) yw.nd rfl (Or.inl rfl) (jo (qe T) hr.dn rfl T.qj T.qf.kp T.qh .nil jn (@y3 _ _ _ _ _ (pv 0) jk rfl rfl)))
  (@jb _ _ _ _ _ (qa (i:=2) yw.nd rfl (Or.inl rfl) (xc gC (xc gC (xc rA jk (pv 1)) jk) (jo (qe T) hr.dn rfl T.qj T.qf.kp T.qh .nil jn (@y3 _ _ _ _ _ (pv 0) jk rfl rfl))))
  (@jb _ _ _ _ _ (qa (i:=3) yw.nd rfl (Or.inr rfl) (jo (Og T) hr.dn rfl T.ML T.F8.kp T.MM .nil jn (@bW _ _ _ _ _ _ _ (pv 0) (pv 2) (pv 1) rfl rfl rfl)))
  (@jb _ _ _ _ _ (Km (i:=4) yw.nd rfl rfl (N':=["_law_k","_law_town_here"]) (ix:=[none,some 0]) (xq (by kernel_rfl)) rfl (rl rfl T.uK (jc (xc gC jk (jo (qe T) hr.dn rfl T.qj T.qf.kp T.qh .nil jn (@y3 _ _ _ _ _ (pv 0) jk rfl rfl))) jf)) (λ_ _ _ _=>(jv (i:=0) W4 rfl (Or.inl rfl) (.inr rfl))) (λ_ _ _ _=>se) (λ_ _ _ _=>(jo (zh T) hr.dn rfl T.zm T.zb.kp T.zo .nil jn (@y3 _ _ _ _ _ (pv 1) (@zj _ _ _ _ (@Dy _ _ _ _ _ _ _ _ _ _ _ jk jk jk jk (jo (qe T) hr.dn rfl T.qj T.qf.kp T.qh .nil jn (@y3 _ _ _ _ _ (pv 1) jk rfl rfl)) rfl rfl rfl rfl rfl)) rfl rfl))))
  (@jb _ _ _ _ _ (qa (i:=5) yw.nd rfl (Or.inl rfl) (jo (Og T) hr.dn rfl T.ML T.F8.kp T.MM .nil jn (@bW _ _ _ _ _ _ _ (pv 0) (jm jt rfl T.ue boot_len (jc (pv 4) jf)) jk rfl rfl rfl)))
  (@jb _ _ _ _ _ (qa (i:=6) yw.nd rfl (Or.inl rfl) (Vg T.Ye (jni T) hr.dn rfl T.MX T.Yf jn (jc (pv 2) jf) (yn (pv 1) (yn (pv 4) (yn (pv 3) (yn (pv 5) gH))))))
  (@je _ _ _ (j3 (@gG _ _ _ _ _ (@WT _ _ _ _ _ _ _ _ _ _ _ _ _ _ _ (pv 6) (pv 2) (pv 1) (pv 3) (iF (N':=["_law_k","_law_foes"]) (ix:=[none,some 3]) (xq (by kernel_rfl)) rfl (rl rfl T.uK (jc (pv 2) jf)) (λ_ _ _ _=>(jv (i:=0) W3 rfl (Or.inl rfl) (.inr rfl))) (λ_ _ _ _=>(kN (jw (K9 (K:=K) rfl) (pv 0) (pv 1) (by with_unfolding_all rfl)))) (λ_ _ _ _=>(pv 0))) (pv 4) (pv 5) rfl rfl rfl rfl rfl rfl rfl)))))))))),?_⟩
 refine ⟨_,rfl,To,R,3,rfl,S.tn,by decide,by decide,λf H1 f0 f1 oT k1=>?_⟩
 obtain ⟨S1,r1⟩:=S.draw oT k1
 refine ⟨_,rfl,_,_,rfl,rfl,.inl ⟨by decide,by decide⟩,_,_,rfl,rfl,_,rfl,To,R,2,rfl,S1.tn,by decide,by decide,λd H2 d0 d1 jS k2=>?_⟩
 obtain ⟨S2,r2⟩:=S1.draw jS k2
 have F2:=r1.trans r2
 obtain ⟨h,eh⟩ : ∃ h:Int,h = 3 * f + 1 + d:=⟨_,rfl⟩
 refine ⟨_,_,rfl,rfl,?_⟩
 dsimp only
 rw [<- eh]
 have h1 : 1 <= h:=by omega
 have h8:h <= 16:=by omega
 have lt : 3 * f < h:=by omega
 refine ⟨_,rfl,_,rfl,_,rfl,To,R,h,f,rfl,S2.tn,by omega,by omega,λfo ls H3 nfo oU k3 hfo Ak qO Ho=>?_⟩
 rw [if_pos f0] at Ho
 obtain ⟨S3,r3⟩:=S2.draw oU k3
 have F3:=F2.trans r3
 have U3:Un H3 Z fo (ls.map V.int):=⟨hfo,S2.kr.none nfo⟩
 show eO 3 (.ref fo) [some (.ref To),some (.int f),some (.int h),none,none,none,none] H3 _
 refine ⟨_,rfl,To,R,3,rfl,S3.tn,by decide,by decide,λc H4 c0 c1 vL k4=>?_⟩
 obtain ⟨S4,r4⟩:=S3.draw vL k4
 have U4:=U3.fr r4
 have F4:=F3.trans r4
 refine ⟨_,_,rfl,rfl,2 + c,rfl,by omega,by omega,Kn (lo:=0) (n:=(2 + c).toNat) (λi ys U H'=>∃ v zs,U = [v,some (.ref To)] /\ ys = (zs:List Int).map V.int /\ zs.length = i /\ (∀ z ∈ zs,0 <= z /\ z <= 1000) /\ Tw H' Z To R /\ Fr df Z H4 Z H') ⟨none,[],rfl,rfl,rfl,(λ_ z=>by cases z),S4,Fr.refl⟩ ?_ ?_ ?_⟩
 .rintro i ys U H' hi ⟨v,zs,rfl,rfl,lz,_⟩
  rw [length_map]
  exact oK (by omega)
 .rintro i ys U H' hi ⟨v,zs,rfl,rfl,lz,rz,S5,r5⟩
  dsimp only [eO,pM]
  rw [if_pos rfl]
  refine ⟨_,rfl,_,rfl,To,R,40,rfl,S5.tn,by decide,by decide,λm H6 m0 m1 hT6 k6=>?_⟩
  obtain ⟨S6,r6⟩:=S5.draw hT6 k6
  refine ⟨WO,λl nl=>?_⟩
  have s7:=jg (o:=.lst ([0,5,20,1000,m].map V.int)) nl
  have S7:=S6.same s7
  obtain ⟨n1,n2⟩:=S6.tn.fresh nl
  refine ⟨To,R,l,[0,5,20,1000,m].map V.int,rfl,S7.tn,ja,n1,n2,by show 0 < 5; decide,by show 5 <= 1000000; decide,λj x H8 ex hT8 k8=>?_⟩
  obtain ⟨S8,r8⟩:=S7.draw hT8 k8
  obtain ⟨z,hz,rfl⟩:=int_at ex
  refine ⟨_,zs ++ [z],rfl,by rw [map_append]; rfl,by rw [length_append,lz]; rfl,λy hy=>?_,S8,(r5.trans r6).trans ((Fr.same s7).trans r8)⟩
  rcases mem_append.mp hy with hy | hy
  .exact rz y hy
  .rw [mem_singleton.mp hy]
   simp only [mem_cons,List.not_mem_nil,or_false] at hz
   rcases hz with rfl | rfl | rfl | rfl | rfl <;> omega
 rintro ys U H5 ⟨v,ns,rfl,rfl,lz,rz,S5,r5⟩ be OF
 have s6:=jg (o:=.lst (ns.map V.int)) OF
 have S6:=S5.same s6
 have Hq:Un (upd H5 be (.lst (ns.map V.int))) Z be (ns.map V.int):=⟨ja,S5.kr.none OF⟩
 have OH:Un (upd H5 be (.lst (ns.map V.int))) Z fo (ls.map V.int):=(U4.fr r5).fr (P:=λ_=>False) (Fr.same s6)
 have F6:Fr df Z H Z (upd H5 be (.lst (ns.map V.int))):=(F4.trans r5).trans (Fr.same s6)
 generalize upd H5 be (.lst (ns.map V.int)) = H6 at S6 Hq OH F6
 show eO 4 (.ref be) [some (.ref To),some (.int f),some (.int h),some (.ref fo),none,none,none] H6 _
 refine ⟨_,rfl,_,rfl,be,_,rfl,.inl (ag.of Hq.1),?_⟩
 rw [length_map]
 refine ⟨To,R,(ns.length:Int),2,rfl,S6.tn,by omega,by omega,λro cs H7 nro Hn k7 hro upc Al lnc=>?_⟩
 rw [if_pos (by decide)] at lnc
 obtain ⟨S7,r7⟩:=S6.draw Hn k7
 have Uro:Un H7 Z ro (cs.map V.int):=⟨hro,S6.kr.none nro⟩
 have Hr:=Hq.fr r7
 have Hs:=OH.fr r7
 have F7:=F6.trans r7
 show eO 5 (.ref ro) [some (.ref To),some (.int f),some (.int h),some (.ref fo),some (.ref be),none,none] H7 _
 refine ⟨_,rfl,_,rfl,_,rfl,_,rfl,_,rfl,λx dx nx AE ne=>?_⟩
 obtain ⟨fm,krm⟩:=j5n (C:=t.jz) nx AE ne (r:=(0,.x)) S7.kr
 have oW:=Hr.fr fm
 have oX:=Hs.fr fm
 have oY:=Uro.fr fm
 have ln:ns.length = (2 + c).toNat:=lz
 refine ⟨aD Z x (0,.x),0,x,dx,h,f,be,ns,fo,ro,cs,ls,rfl,ja,zu,krm,⟨h1,h8⟩,⟨f0,by omega⟩,lt,oW.1,(λr hr=>by rw [oW.2] at hr; cases hr),by omega,by omega,rz,.inl ⟨oX.1,λr hr=>by rw [oX.2] at hr; cases hr⟩,Ak,qO,Ho,.inl ⟨oY.1,λr hr=>by rw [oY.2] at hr; cases hr⟩,upc,Al,λZ' H8 W ex Ht O ly f8 kr8=>⟨rfl,?_⟩⟩
 have gn:=j97 (cs:=cs) ⟨h1,h8⟩ f0 lt (by omega:ns.length <= 8) (λx hx=>(rz x hx).1) Ho qO
 have ek:(w0 h f ns cs ls).ks.map (·.1) = aE ls h.toNat:=by
  show ((aE ls h.toNat).map λi=>(i,iZ ns)).map (·.1) = _
  rw [map_map]
  exact List.map_id _
 have lk:(aE ls h.toNat).length = (w0 h f ns cs ls).ks.length:=by rw [<- ek,length_map]
 have k0:=gn.ok.k0
 have k1:=gn.ok.k1
 obtain ⟨tn8,tr8⟩:=Od f8 (λz=>by cases z) (λz=>by cases z) (S7.tn.same (λb u e=>(fm b u e (λ_ _ z=>z)).1)) ⟨by rw [xo (S7.tn.fresh nx).1.symm]; exact S7.tr.1,by rw [xo (S7.tn.fresh nx).2.symm]; exact S7.tr.2⟩
 have S8:Sw t H8 Z' W (w0 h f ns cs ls) 0 ⟨ns,cs,ls,aE ls h.toNat,h - f⟩ To R:=⟨⟨O,kr8,ly,⟨[],gn,j8z⟩,rfl,rfl,rfl,ek,Ht⟩,tn8,tr8⟩
 have Hu:=oW.fr f8
 have vN:=oX.fr f8
 have Hv:=oY.fr f8
 show eO 6 (V.ref x) [some (.ref To),some (.int f),some (.int h),some (.ref fo),some (.ref be),some (.ref ro),none] H8 _
 refine ⟨_,rfl,_,rfl,_,rfl,_,rfl,_,rfl,h,rfl,by omega,by omega,Kn (lo:=0) (n:=h.toNat) (λi ys U H'=>∃ v,U = [v,some (.ref fo)] /\ H' = H8 /\ ys = (aE ls i).map V.int) ⟨none,rfl,rfl,rfl⟩ ?_ ?_ ?_⟩
 .rintro i ys U H' hi ⟨v,rfl,rfl,rfl⟩
  rw [length_map]
  have:=GQ ls i
  exact oK (by omega)
 .rintro i ys U H' hi ⟨v,rfl,rfl,rfl⟩
  have e0:(0:Int) + (i:Int) = i:=Int.zero_add _
  rw [e0]
  refine ⟨_,rfl,_,rfl,fo,_,rfl,.inl (ag.of vN.1),rfl,vq _,_,rfl,?_⟩
  rw [if_pos rfl,ya]
  by_cases z:(i:Int) ∈ ls
  .rw [decide_eq_true z]
   refine vd ⟨_,rfl,rfl,?_⟩
   rw [Aj,if_pos z,append_nil]
  .rw [decide_eq_false z]
   refine bM ⟨_,rfl,_,rfl,rfl,?_⟩
   rw [Aj,if_neg z,map_append]
   rfl
 rintro ys U H9 ⟨v,rfl,rfl,rfl⟩ ho OI
 have fq:=jg (o:=.lst ((aE ls h.toNat).map V.int)) OI
 refine ⟨_,rfl,_,rfl,WR,λpa OJ=>?_⟩
 have AJ:=jg (o:=.tup [.ref x,.int h,.int f,.ref fo,.ref ho,.ref be,.ref ro]) OJ
 have fs:Fr (λ_=>False) Z' H9 Z' _:=Fr.same (fq.trans AJ)
 have S11:=(S8.same fq).same AJ
 refine k Z' _ W _ pa h f fo ho be ro _ ⟨by show 2 <= ns.length; omega,by show ns.length <= 8; omega,Al,by show cs.length <= 1000; omega,by show ls.length <= 5; omega,by show 0 < (aE ls h.toNat).length; omega,by show (aE ls h.toNat).length <= 16; omega,by show cs.length <= 2; omega,by show (((aE ls h.toNat).length + 2 * ls.length:Nat) : Int) < 2 * (h - f); have:=jzm (n:=h.toNat) Ak (λx hx=>by have:=qO x hx; omega); omega⟩ S11 ⟨⟨?_,(S8.same fq).w.kr.none OJ⟩,vN.fr fs,⟨AJ _ _ ja,S8.w.kr.none OI⟩,Hu.fr fs,Hv.fr fs,rfl,λx hx=>(mem_append.mp hx).elim (λhx=>by have:=(AI.mp hx).1; omega) (qO x),⟨⟨h1,h8⟩,f0,by omega⟩,rz,by show (ls.length:Int) <= f; omega⟩
 rw [ex]
 exact ja
theorem OK (T:Txt K mg t):xm P w K mg base CX0 1 t.Et t.uf ["self","thing"] (ZQ t):=by
 refine T.XI.aZ (N:=["self","thing"]) λ_ A _ s H vs Q E hr h=>?_;obtain⟨p,dx,S,en,kvs,ps,b,k,rfl,Bq,hb,my,q⟩:=h;refine⟨_,(@je _ _ _ (j3 (jm K3 rfl T.zQ boot_sorted (jc (Kc (fR hr) (j7 (pv 0) rfl) (pv 1) (@zj _ _ _ _ jf) ⟨rfl,rfl,rfl,rfl⟩) jf)))),?_⟩;refine⟨_,rfl,p,_,dx,_,_,rfl,Bq.ob,T.zf,T.zr,uO _ _,S,rfl,.inr ⟨kvs,Bq.sg⟩,_,rfl,cI,λr hr=>?_⟩;have s1:=jg (o:=.lst []) hr;refine⟨_,.inr ⟨kvs,k,b,uP s1 Bq.sg,rfl,s1 _ _ hb,rfl⟩,?_⟩;rcases zW (k:=k) Bq.hs with⟨h1,h2,h3⟩|⟨c,h1,h2⟩
 .rw[h1];refine⟨r,[],rfl,ag.of ja,by decide,λz ns hz hp hs=>?_⟩;rw[h2]at q;exact q z ns _ (s1.free hz) (s1.trans (jg hz)) hp hs ja
 .rw[h1];refine⟨c,qb ps k,rfl,ag.of (s1 _ _ h2),my,λz ns hz hp hs=>?_⟩;exact q z ns _ (s1.free hz) (s1.trans (jg hz)) hp hs ja
structure Hw (H:Hp)(Z:aq)(cr fw:Int)(a q b:Addr)(ss:List Int)(o:O):Prop where
 a:H a=some (.tup [.ref q,.ref b])/\Z a=none
 q:zv H Z (.ref q) o
 b:H b=some (.tup (ss.map V.int))/\Z b=none
 up:ss.Pairwise (·<·)
 rg:∀k∈ss,0<=k/\k<cr
 en:cr-fw<=(ss.length:Int)
theorem jre (T:Txt K mg t):xm P w K mg base CX0 6 t.ER t.ES ["self","order"] (λvs H Q _=>∃Z id W Y q o,vs=[.ref W.x,.ref q]/\qk t H Z id W Y/\H q=some (.tup (bI o))/\y4 Y.n o=true/\Y.carried o=true/\(jq Y.bd (za o)).length<64/\∀a b ss H',H a=none->H b=none->xp H H'->H' a=some (.tup [.ref q,.ref b])->H' b=some (.tup ((ss:List Int).map V.int))->ss.Perm (jq Y.bd (za o))->ss.Pairwise (·<=·)->Q (.ref a) H'):=by
 refine T.Yl.aZ (N:=["self","order"]) λ_ A _ s H vs Q E hr h=>?_;obtain⟨Z,id,W,Y,q,o,rfl,Ow,hq,ho,oc,l64,g⟩:=h;refine⟨_,(@jb _ _ _ _ _ (j8 (j5 (pv 0) T.jh T.zw (x8 T) hr.dn T.xk .nil jn (jc (pv 1) jf))) (@jb _ _ _ _ _ (zd (zy (qz (j5 (j7 (pv 0) rfl) T.zf T.xl (yp T) hr.dn T.xt .nil jn (jc (pv 1) jf)))) qm j6) (@je _ _ _ (j3 (@gG _ _ _ _ _ (@y3 _ _ _ _ _ (pv 1) (uz JT rfl T.pZ boot_tuple (jc (j5 (j7 (pv 0) rfl) T.zf T.kq (OK T) hr.dn T.uw .nil jn (jc (pv 1) jf)) jf)) rfl rfl)))))),?_⟩;refine aJ λN hN=>⟨_,rfl,W.x,W.dx,_,rfl,Ow.ob.1,qy,_,rfl,Z,id,W,Y,q,o,rfl,Ow,hq,ho,?_⟩;obtain⟨rb,rS,fW,Bq,sg⟩:=Ow.bd;refine hN _ _ (aJ λN hN=>⟨_,rfl,W.x,_,W.dx,_,_,rfl,Ow.ob.1,T.jh,T.qr,mL,W.bd,W.db,_,rfl,Bq.ob,lq _ _ (by decide+kernel) (by decide+kernel),_,rfl,W.bd,W.db,W.S,Y.en,fW,aY Y.bd,q,bJ o,rfl,Bq.rd,hq,λH1 s1=>⟨_,rfl,?_⟩⟩);have ec:decide (Y.en<=((qb (aY Y.bd) (bJ o)).length:Int))=Y.carried o:=by
  unfold Wd.carried;rw[show qb (aY Y.bd) (bJ o)=jq Y.bd (za o)from wd (za o) Y.bd]
 rw[ec,oc];refine vd (hN _ _ ?_);have O1:=Ow.same s1;obtain⟨rb,rS,fW,Bq,sg⟩:=O1.bd;have eh:qb (aY Y.bd) (bJ o)=jq Y.bd (za o):=wd (za o) Y.bd;refine⟨_,rfl,_,rfl,W.x,_,W.dx,_,_,rfl,O1.ob.1,T.jh,T.qr,mL,W.bd,W.db,_,rfl,Bq.ob,lq _ _ (by decide+kernel) (by decide+kernel),_,rfl,W.bd,W.db,W.S,Y.en,fW,aY Y.bd,q,bJ o,rfl,Bq.rd,s1 _ _ hq,by rw[eh];exact l64,λr ss H2 nr s2 pm up h2=>?_⟩;refine⟨r,_,rfl,.inl ⟨ag.of h2,λb nb=>⟨kX,λa na=>?_⟩⟩⟩;have s3:=jg (o:=.tup (ss.map V.int)) nb;have s4:=jg (o:=.tup [.ref q,.ref b]) na;exact g a b ss _ (((s1.trans s2).trans s3).free na) ((s1.trans s2).free nb) (((s1.trans s2).trans s3).trans s4) ja (s4 _ _ ja) (by rw[<-eh];exact pm) up
theorem jyf (T:Txt K mg t):xm P w K mg base CX0 5 t.Ea t.Eb ["paper","houses","few","purses"] (λvs H Q _=>∃Z cr fw n a q b ss o,vs=[.ref a,.int cr,.int fw,.int n]/\Hw H Z cr fw a q b ss o/\y4 n o=true/\Q (.bl true) H):=by
 refine T.Mv.cz DG λ_ A _ s H vs Q E hr h=>?_;obtain⟨Z,cr,fw,n,a,q,b,ss,o,rfl,p,io,k⟩:=h;refine⟨_,(@jb _ _ _ _ _ (zd (PW.pt (dF (zy (qz (jm pO rfl T.jx boot_isinstance (@y3 _ _ _ _ _ (pv 0) (jY (v:=.ty "tuple") rfl T.pZ boot_tuple rfl) rfl rfl)))) (dS (jw pG (jm jt rfl T.ue boot_len (jc (pv 0) jf)) jk (qc _))))) (@je _ _ _ (j3 eN)) j6) (@jb _ _ _ _ _ (kB (pv 0) (lX rfl (j9 (jv (i:=4) DG.nd rfl (Or.inl rfl)) (j9 (jv (i:=5) DG.nd rfl (Or.inl rfl)) lW)))) (@jb _ _ _ _ _ (zd (PW.pt (dF (zy (qz (gu (zT T) hr.dn rfl T.zO T.uH.kp T.FQ jn (jc (pv 4) jf) (yn (pv 3) gH)))) (dS (zy (qz (jm pO rfl T.jx boot_isinstance (@y3 _ _ _ _ _ (pv 5) (jY (v:=.ty "tuple") rfl T.pZ boot_tuple rfl) rfl rfl))))))) (@je _ _ _ (j3 eN)) j6) (@je _ _ _ (j3 (kA (jo (NO T) hr.dn rfl T.Mj T.FR.kp T.Ml .nil jn (@y3 _ _ _ _ _ (pv 5) (pv 1) rfl rfl)) (lT (gE BO (jm jt rfl T.ue boot_len (jc (pv 5) jf)) (gu (GP T) hr.dn rfl T.FU T.zP.kp T.FV jn (jc (pv 1) jf) (yn (pv 2) gH)) (qc _))))))))),?_⟩;obtain⟨_,e,_,hq⟩:=p.q;cases e;refine⟨_,rfl,_,_,_,true,rfl,.tup p.a.1,rfl,_,rfl,vd ?_⟩;refine⟨_,rfl,a,[.ref q,.ref b],rfl,.inr (aw.of p.a.1),rfl,_,rfl,vd ?_⟩;refine⟨_,rfl,a,_,rfl,aw.of p.a.1,rfl,_,_,rfl,_,_,rfl,rfl,?_⟩;refine⟨_,rfl,_,rfl,q,o,n,rfl,hq,_,rfl,?_⟩;rw[io];refine vd ⟨_,rfl,_,_,_,true,rfl,.tup p.b.1,rfl,_,rfl,vd ?_⟩;refine⟨_,rfl,_,rfl,b,cr,ss,rfl,.inr (aw.of p.b.1),p.up,p.rg,_,rfl,bM ?_⟩;refine⟨_,rfl,b,_,rfl,.inr (aw.of p.b.1),_,rfl,_,rfl,cr,fw,rfl,_,_,rfl,rfl,?_⟩;dsimp only;rw[length_map,decide_eq_true p.en];exact k
noncomputable def ju2:Sp:=λvs H Q _=>∃i j,vs=[.int i,.int j]/\∀p,H p=none->Q (.ref p) (upd H p (.tup [.int (2*(i-j)-i),.int (2*(i-j)-i-j)]))
theorem OL (T:Txt K mg t):xm P w K mg base CX0 2 t.Ek t.El ["houses","few"] ju2:=by
 refine T.FW.cz Ma λ_ A _ s H vs Q E hr h=>?_;obtain⟨i,j,rfl,k⟩:=h;refine⟨_,(@jb _ _ _ _ _ (qa (i:=2) Ma.nd rfl (Or.inl rfl) (xc gU (xc rA jk (gu (GP T) hr.dn rfl T.FU T.zP.kp T.FV jn (jc (pv 0) jf) (yn (pv 1) gH))) (pv 0))) (@je _ _ _ (j3 (@gG _ _ _ _ _ (@y3 _ _ _ _ _ (pv 2) (xc gU (pv 2) (pv 1)) rfl rfl))))),?_⟩;refine⟨_,rfl,_,rfl,i,j,rfl,_,_,rfl,rfl,.inl ⟨by decide,by decide⟩,_,rfl,_,_,rfl,rfl,?_⟩;exact⟨_,rfl,_,rfl,_,rfl,_,_,rfl,rfl,kX,λp hp=>k p hp⟩
noncomputable def vt (B:Kp)(q:Int×Int):Option O:=(B.cho.find? λx=>decide (x.1=q)).map (·.2)
theorem KV.OM {L:List O}{B:Kp}(z:KV L B){q:Int×Int}{o:O}:vt B q=some o↔(q,o)∈B.cho:=by
 unfold vt;constructor
 .intro h;cases e:B.cho.find? λx=>decide (x.1=q)with
  |none=>rw[e]at h;cases h
  |some x=>
   rw[e]at h;have h1:x.1=q:=by simpa using find?_some e
   have h2:x.2=o:=Option.some.inj h;rw[<-h1,<-h2];exact mem_of_find?_eq_some e
 .intro h;cases e:B.cho.find? λx=>decide (x.1=q)with
  |none=>have:=List.find?_eq_none.mp e _ h;simp at this
  | some x=>
   have h1:x.1=q:=by simpa using find?_some e
   have hx:=mem_of_find?_eq_some e;have one:∀{cs:List ((Int×Int)×O)}{a b:(Int×Int)×O},(cs.map (·.1)).Nodup->a∈cs->b∈cs->a.1=b.1->a=b:=λ{cs a b} nd ha hb e=>by
    induction cs with
    |nil=>cases ha
    |cons c cs ih=>
     rw[map_cons,nodup_cons]at nd;rcases mem_cons.mp ha with h1|h1<;>rcases mem_cons.mp hb with h2|h2
     .rw[h1,h2]
     .exact absurd (mem_map.mpr ⟨b,h2,by rw[<-e,h1]⟩) nd.1
     .exact absurd (mem_map.mpr ⟨a,h1,by rw[e,h2]⟩) nd.1
     .exact ih nd.2 h1 h2
   rw[one z.ck hx h h1];rfl
noncomputable def ON (H:Hp)(Z:aq)(v:V):Option O->Prop
 |none=>v= .aj
 |some o=>zv H Z v o
theorem j7l {H:Hp}{Z:aq}{q:Int×Int}:∀{kvs:List (List Key×V)}{c:List ((Int×Int)×O)},Paired (λkv (c:(Int×Int)×O)=>kv.1=[.inl c.1.1,.inl c.1.2]/\zv H Z kv.2 c.2) kvs c->(aX kvs [.inl q.1,.inl q.2]=none/\(c.find? λx=>decide (x.1=q))=none)\/∃v x,aX kvs [.inl q.1,.inl q.2]=some v/\(c.find? λx=>decide (x.1=q))=some x/\zv H Z v x.2:=λ{kvs c} p=>by
 induction p with
 |nil=>exact .inl ⟨rfl,rfl⟩
 | @cons kv c kvs cs a r ih=>
  obtain⟨e,h⟩:=a;by_cases z:c.1=q
  .exact .inr ⟨_,c,iz (show kv.1=_ by rw[e,z]),List.find?_cons_of_pos (by simpa using z),h⟩
  .rw[uj (λy=>z ?_),List.find?_cons_of_neg (by simpa using z)]
   .exact ih
   .rw[e]at y;have y1:=(List.cons.inj y).1;have y2:=(List.cons.inj (List.cons.inj y).2).1;exact Prod.ext (Sum.inl.inj y1) (Sum.inl.inj y2)
theorem jq2 (T:Txt K mg t):xm P w K mg base CX0 4 t.EV t.EW ["self","house","purse","number"] (λvs H Q _=>∃Z id W Y h B q,vs=[.ref W.x,.int h,.int q.1,.int q.2]/\qk t H Z id W Y/\Y.keep h=some B/\(0<=q.1/\q.1<(Y.n:Int))/\∀v H',xp H H'->ON H' Z v (vt B q)->Q v H'):=by
 refine T.Yp.cz Md λ_ A _ s H vs Q E hr h=>?_;obtain⟨Z,id,W,Y,h,B,q,rfl,Ow,ek,hq,k⟩:=h;refine⟨_,(@jb _ _ _ _ _ (qa (i:=4) Md.nd rfl (Or.inl rfl) (j5 (pv 0) T.jh T.y8 (ug T) hr.dn T.wj .nil jn (jc (pv 1) jf))) (@jb _ _ _ _ _ (j8 (j5 (pv 0) T.jh T.x9 (gd T) hr.dn T.yu .nil jn (jc (pv 2) jf))) (@jb _ _ _ _ _ (zd (zy (qz (jo (zS T) hr.dn rfl T.zM T.uG.kp T.zN .nil jn (jc (pv 3) jf)))) qm j6) (@je _ _ _ (j3 (R7 (fR hr) (j7 (pv 4) rfl) (@gG _ _ _ _ _ (@y3 _ _ _ _ _ (pv 2) (pv 3) rfl rfl)) ⟨rfl,rfl,rfl,rfl⟩)))))),?_⟩;refine aJ λN hN=>⟨_,rfl,W.x,W.dx,_,rfl,Ow.ob.1,qy,_,rfl,Z,id,W,Y,h,B,rfl,Ow,ek,λkk A' dk R=>?_⟩;refine hN _ _ (aJ λN hN=>⟨_,rfl,W.x,W.dx,_,rfl,Ow.ob.1,qy,_,rfl,Z,id,W,Y,q.1,rfl,Ow,hq.1,hq.2,?_⟩);refine hN [some (.ref W.x),some (.int h),some (.int q.1),some (.int q.2),some (.ref kk)] _ (aJ λN hN=>⟨_,rfl,q.2,rfl,_,rfl,vd (hN _ _ ?_)⟩);obtain⟨kvs,hD,pk⟩:=R.cs;refine⟨_,rfl,kk,_,dk,_,_,rfl,R.ob,T.jr,T.zc,(xw A').2.2.2.2.2.1,A' 6,rfl,.inr ⟨kvs,.inl hD⟩,_,rfl,_,rfl,kX,λb nb=>?_⟩;have s1:=jg (o:=.tup [.int q.1,.int q.2]) nb;have pk1:Paired (λkv (c:(Int×Int)×O)=>kv.1=[.inl c.1.1,.inl c.1.2]/\zv (upd H b (.tup [.int q.1,.int q.2])) Z kv.2 c.2) kvs B.cho:=Paired.ub pk λ_ _ ⟨a,c⟩=>⟨a,c.fr (P:=λ_=>False) (Fr.same s1)⟩;refine⟨aX kvs [.inl q.1,.inl q.2],.inr ⟨kvs,[.inl q.1,.inl q.2],b,.inl (s1 _ _ hD),rfl,ja,rfl⟩,?_⟩;refine k _ _ s1 ?_;unfold vt;rcases j7l (q:=q) pk1 with⟨e1,e2⟩|⟨v,x,e1,e2,u⟩
 .rw[e1,e2];rfl
 .rw[e1,e2];exact u
theorem OO (T:Txt K mg t):xm P w K mg base CX0 6 t.EX t.EY ["self","order"] (λvs H Q _=>∃Z id W Y q o,vs=[.ref W.x,.ref q]/\qk t H Z id W Y/\H q=some (.tup (bI o))/\y4 Y.n o=true/\(jq Y.bd (za o)).length<64/\∀r ss H',H r=none->xp H H'->H' r=some (.lst ((ss:List Int).map V.int))->ss.Perm (jq Y.bd (za o))->ss.Pairwise (·<=·)->Q (.ref r) H'):=by
 refine T.Yt.aZ (N:=["self","order"]) λ_ A _ s H vs Q E hr h=>?_;obtain⟨Z,id,W,Y,q,o,rfl,Ow,hq,ho,l64,g⟩:=h;refine⟨_,(@jb _ _ _ _ _ (j8 (j5 (pv 0) T.jh T.zw (x8 T) hr.dn T.xk .nil jn (jc (pv 1) jf))) (@je _ _ _ (j3 (j5 (j7 (pv 0) rfl) T.zf T.kq (OK T) hr.dn T.uw .nil jn (jc (pv 1) jf))))),?_⟩;refine aJ λN hN=>⟨_,rfl,W.x,W.dx,_,rfl,Ow.ob.1,qy,_,rfl,Z,id,W,Y,q,o,rfl,Ow,hq,ho,?_⟩;obtain⟨rb,rS,fW,Bq,sg⟩:=Ow.bd;have eh:qb (aY Y.bd) (bJ o)=jq Y.bd (za o):=wd (za o) Y.bd;refine hN _ _ ⟨_,rfl,W.x,_,W.dx,_,_,rfl,Ow.ob.1,T.jh,T.qr,mL,W.bd,W.db,_,rfl,Bq.ob,lq _ _ (by decide+kernel) (by decide+kernel),_,rfl,W.bd,W.db,W.S,Y.en,fW,aY Y.bd,q,bJ o,rfl,Bq.rd,hq,by rw[eh];exact l64,λr ss H2 nr s2 pm up h2=>?_⟩;exact g r ss H2 nr s2 h2 (by rw[<-eh];exact pm) up
theorem jra (T:Txt K mg t):xm P w K mg base CX0 1 t.Eg t.Eh ["thing"] (λvs H Q _=>∃x dx fs,vs=[.ref x]/\H x=some (.ins t.jz dx fs)/\Q .aj H):=by refine T.My.aZ (N:=["thing"]) λ_ A _ s H vs Q E hr h=>?_;obtain⟨x,dx,fs,rfl,hx,k⟩:=h;refine⟨_,(@je _ _ _ (zd (zy (qz (jm Wf rfl T.jx boot_isinstance (@y3 _ _ _ _ _ (pv 0) (ze (v:=.ref t.jz) rfl T.MX rfl) rfl rfl)))) qm j6)),?_⟩;exact⟨_,rfl,x,t.jz,dx,fs,rfl,hx,T.jh,T.Ze,_,rfl,vd k⟩
noncomputable def mR (o:O):List Key:=[Sum.inl o.p,Sum.inl o.n]
noncomputable def OP (os:List O):Prop:=∀o∈os,∀u∈os,bZ u=bZ o->u=o
noncomputable def AK (H:Hp)(kvs:List (List Key×V))(fs:List O):Prop:=Paired (λ(kv:List Key×V) u=>kv.1=mR u/\fu H kv.2 u) kvs fs
theorem OQ {o u:O}:mR o=mR u↔bZ o=bZ u:=by simp[mR,bZ]
theorem j5b {H:Hp}{o:O}:∀{kvs:List (List Key×V)}{fs:List O}{v:V},AK H kvs fs->aX kvs (mR o)=some v->∃u∈fs,bZ u=bZ o/\fu H v u:=λ{kvs fs v} q hv=>by
 unfold AK at q;induction q with
 |nil=>cases hv
 |@cons kv f kvs fs a r ih=>
  obtain⟨e,h⟩:=a;by_cases z:bZ f=bZ o
  .rw[iz (show kv.1=_ by rw[e];exact OQ.mpr z)]at hv;cases hv;exact⟨f,mem_cons_self,z,h⟩
  .rw[uj (λy=>z (OQ.mp (e.symm.trans y)))]at hv;obtain⟨u,hu,r⟩:=ih hv;exact⟨u,mem_cons_of_mem _ hu,r⟩
noncomputable def eU (o:O):Dt:=.tup ((za o).map Dt.int)
theorem qU {H:Hp}{K:W.Frag}{x:V}{o:O}(h:fu H x o):ql K H (eU o) x:=by obtain⟨c,rfl,hc⟩:=h;exact qR (ts:=za o) (aw.of hc)
theorem Hx (o:O):bg (eU o)<=60:=by
 have:=vH [za o];have h2:bg (fZ (za o))<=cM ([za o].map fZ):=by simp[cM]
 exact le_trans (le_trans h2 this) (by decide)
theorem Hy (a b:O):aU (eU a) (eU b)=decide (a=b):=by
 by_cases z:a=b
 .rw[z,decide_eq_true rfl];unfold eU za;simp[aU,cv]
 .rw[decide_eq_false z];cases e:aU (eU a) (eU b)with
  |false=>rfl
  |true=>unfold eU za at e;simp[aU,cv]at e;exact absurd (qD (by unfold za;rw[e.1,e.2.1,e.2.2.1,e.2.2.2])) z
noncomputable def jyc:Sp:=λvs H Q _=>∃a xs os,vs=[.ref a]/\H a=some (.lst xs)/\zR H xs os/\os.length<=1000/\(∀o∈os,y4 8 o=true)/\∀r fs H',H r=none->xp H H'->H' r=some (.lst fs)->(OP os->fs=[])->Q (.ref r) H'
theorem jly (T:Txt K mg t):xm P w K mg base CX0 5 t.Ei t.Ej ["orders"] jyc:=by
 refine T.Mz.cz y6 λ_ A _ s H vs Q E hr h=>?_;obtain⟨a,xs,os,rfl,ha,ho,lo,eY,k⟩:=h;have lx:xs.length=os.length:=Paired.length ho;refine⟨_,(@jb _ _ _ _ _ (qa (i:=1) y6.nd rfl (Or.inl rfl) xE) (@jb _ _ _ _ _ (@qa _ _ 2 _ _ _ _ y6.nd rfl (Or.inl rfl) (@zj _ _ _ _ jf) (by rfl) (by first|exact .inl rfl|exact .inr rfl)) (@jb _ _ _ _ _ (jA PassesOwn.never rfl (@fJ _ _ _ _ (pv 0)) (jv (i:=3) y6.nd rfl (Or.inl rfl)) (@je _ _ _ (zd (jw (jF hr.units) (K4 (fR hr) (pv 1) (jo (uM T) hr.dn rfl T.uI T.pY.kp T.uJ .nil jn (jc (pv 3) jf)) (pv 3) ⟨rfl,rfl,rfl,rfl⟩) (pv 3) (qc _)) (@je _ _ _ (j8 (dZ PySem.F.plainAttrs_list PySem.F.slot_list_append PySem.F.type_list_append yh (pv 2) (jc (jo (uM T) hr.dn rfl T.uI T.pY.kp T.uJ .nil jn (jc (pv 3) jf)) jf)))) j6))) (@je _ _ _ (j3 (pv 2)))))),?_⟩;refine λD hD=>⟨cI,λF hF=>?_⟩;obtain⟨FD,OR⟩:=uN hF;have Hz:H F=none:=OR;have s1:xp H (upd (upd H D (.dT [])) F (.lst [])):=(jg hD).trans (jg hF);have gD:upd (upd H D (.dT [])) F (.lst []) D=some (.dT []):=by rw[jd (Ne.symm FD),ja]
 refine⟨_,rfl,a,rfl,⟨_,ag.of (s1 _ _ ha)⟩,nF (K:=K) (a:=a) (xs:=xs) (λi U H'=>∃v kvs fo fs,U=[some (.ref a),some (.ref D),some (.ref F),v]/\xp H H'/\H' D=some (.dT kvs)/\AK H' kvs fo/\(∀u∈fo,u∈os)/\fo.length<=i/\H' F=some (.lst fs)/\fs.length<=i/\(OP os->fs=[])) ⟨none,[],[],[],rfl,s1,gD,.nil,λ_ z=>(by cases z),le_refl _,ja,le_refl _,λ_=>rfl⟩ (λi U H' _ ⟨_,_,_,_,_,s',_⟩=>ag.of (s' _ _ ha)) ?_ ?_⟩
 .rintro i x U H' hx ⟨v,kvs,fo,fs,rfl,s',lH,fp,fi,lo',qV,lf,nc⟩
  obtain⟨o,eo,hxo⟩:=M6 ho hx;obtain⟨c,rfl,hc⟩:=fu.same s' hxo;have om:=mem_of_getElem? eo;have hi:i<os.length:=(List.getElem?_eq_some_iff.mp eo).1;have oG:=eY o om;have lk:kvs.length<=1000:=by rw[Paired.length fp];omega
  refine⟨_,rfl,D,rfl,.inr ⟨kvs,.inl lH⟩,_,rfl,c,o,rfl,hc,oG,λq hq=>?_⟩;have s2:=jg (o:=.tup [.int o.p,.int o.n]) hq;have oZ:∀{G:Hp},(∀v u,fu H' v u->fu G v u)->AK G kvs fo:=λf=>Paired.ub fp λ_ _ ⟨a,b⟩=>⟨a,f _ _ b⟩;refine⟨_,rfl,kvs,mR o,q,s2 _ _ lH,rfl,ja,xi (by omega),λw hw=>?_,λhw=>?_⟩
  .obtain⟨u,hu,pu,hwu⟩:=j5b (o:=o) fp hw;refine⟨_,rfl,eU u,eU o,qU (fu.same s2 hwu),qU ⟨c,rfl,s2 _ _ hc⟩,Hx _,_,rfl,?_⟩;rw[Hy];by_cases HJ:u=o
   .rw[decide_eq_true HJ];exact vd ⟨_,kvs,fo,fs,rfl,s'.trans s2,s2 _ _ lH,oZ λv u h=>fu.same s2 h,fi,by omega,s2 _ _ qV,by omega,nc⟩
   .rw[decide_eq_false HJ];refine bM ?_;refine⟨_,rfl,.inl ⟨rfl,_,ag.of (s2 _ _ qV)⟩,_,rfl,c,o,rfl,s2 _ _ hc,oG,λq2 uV=>?_⟩;have s3:=s2.trans (jg (o:=.tup [.int o.p,.int o.n]) uV);have HK:=s3 _ _ qV;have OS:=s3 _ _ lH;refine⟨F,fs,_,rfl,rfl,HK,big (by omega),?_⟩;refine⟨_,kvs,fo,fs++[.ref q2],rfl,λb u' e=>?_,?_,oZ λv u ⟨b,e,hb⟩=>⟨b,e,?_⟩,fi,by omega,ja,by rw[length_append];show fs.length+1<=i+1;omega,λn=>absurd (n o om u (fi u hu) pu) HJ⟩
    .rw[jd (ji e Hz)];exact s3 _ _ (s' _ _ e)
    .rw[jd (dg OS HK (by intro z;cases z))];exact OS
    .rw[jd (dg (s3 _ _ hb) HK (by intro z;cases z))];exact s3 _ _ hb
  .rw[rX _ hw];have An:=s2 _ _ lH;have OT:=s2 _ _ qV;have vO:∀v u,fu H' v u->fu (upd (upd H' q (.tup [.int o.p,.int o.n])) D (.dT (kvs++[(mR o,.ref c)]))) v u:=λv u ⟨b,e,hb⟩=>⟨b,e,by
    have OU:=s2 _ _ hb;rw[jd (dg OU An (by intro z;cases z))];exact OU⟩;have HL:=vO (.ref c) o ⟨c,rfl,hc⟩;refine⟨_,rfl,eU o,eU o,qU HL,qU HL,Hx _,_,rfl,?_⟩;rw[Hy,decide_eq_true rfl];refine vd ⟨_,kvs++[(mR o,.ref c)],fo++[o],fs,rfl,λb u' e=>?_,ja,qo (oZ vO) ⟨rfl,HL⟩,λu hu=>?_,by rw[length_append];show fo.length+1<=i+1;omega,?_,by omega,nc⟩
   .rw[jd (ji e hD)];exact s2 _ _ (s' _ _ e)
   .rcases mem_append.mp hu with hu|hu
    .exact fi u hu
    .rw[mem_singleton.mp hu];exact om
   .rw[jd (dg OT An (by intro z;cases z))];exact OT
 .rintro U H' ⟨v,kvs,fo,fs,rfl,s',lH,fp,fi,lo',qV,lf,nc⟩
  exact⟨_,rfl,k F fs H' OR s' qV nc⟩
noncomputable def mS (H:Hp)(vs:List V)(ts:List (List Int)):Prop:=Paired (λv t=>∃a,v= .ref a/\H a=some (.tup (t.map V.int))) vs ts
theorem mS.same {H H':Hp}{vs:List V}{ts:List (List Int)}(s:xp H H')(h:mS H vs ts):mS H' vs ts:=Paired.ub h λ_ _ ⟨a,e,q⟩=>⟨a,e,s _ _ q⟩
noncomputable def jT (is:zx)(h:Int):List (List Int):=(is.filter λp=>decide (h∈p.2)).map (·.1)
noncomputable def jvd (t:Ad):Sp:=λvs H Q _=>∃p dx S en kvs is h,vs=[.ref p,.int h]/\yl t H p dx S en kvs (aY is)/\kvs.length<64/\∀(r:Addr)(bh:List V)(H':Hp),H r=none->xp H H'->mS H' bh (jT is h)->H' r=some (.lst bh)->Q (.ref r) H'
theorem jlt (T:Txt K mg t):xm P w K mg base CX0 2 t.Eu t.Ew ["self","house"] (jvd t):=by
 refine T.XJ.aZ (N:=["self","house"]) λ_ A _ s H vs Q E hr h=>?_;obtain⟨p,dx,S,en,kvs,is,h,rfl,Bq,l64,q⟩:=h;refine⟨_,(@je _ _ _ (j3 (CO (iF (N':=["thing","houses","house"]) (ix:=[none,none,some 1]) (xq (by kernel_rfl)) rfl (UY (JV PySem.F.plainAttrs_dict PySem.F.slot_dict_items PySem.F.type_dict_items UQ (j7 (pv 0) rfl))) (λ_ _ _ _=>(Us (K:=K) (t:=(BG (eO 0) (BG (eO 1) IU))) rfl rfl 2 (j9 (jv (i:=0) Mi rfl (Or.inl rfl) (.inr rfl)) (j9 (jv (i:=1) Mi rfl (Or.inl rfl) (.inr rfl)) lW)) rfl rfl)) (λ_ _ _ _=>(kN (jw (xX (K:=K) rfl) (pv 2) (pv 1) (by with_unfolding_all rfl)))) (λ_ _ _ _=>(pv 0)))))),?_⟩;have len:kvs.length=is.length:=by have:=Paired.length Bq.hs;rwa[aY,length_map]at this
 refine⟨_,rfl,p,_,dx,_,_,rfl,Bq.ob,T.zf,T.zr,uO _ _,?_⟩;refine⟨.inr (.inr (.inl ⟨rfl,.inr ⟨_,Bq.sg⟩⟩)),S,kvs,rfl,rfl,Bq.sg,λvw Ah=>?_⟩;have sv:=jg (o:=mz vw S) Ah;have B1:=Bq.same sv;have gv:upd H vw (mz vw S) vw=some (mz vw S):=ja;have nS:S≠vw:=ji Bq.sg Ah;generalize upd H vw (mz vw S)=H1 at sv B1 gv;refine⟨vw,S,kvs,rfl,gv,B1.sg,λo=>UZ (λi ys U H'=>∃v0 v1,U=[v0,v1,some (.int h)]/\xp (upd H1 S (.aA o (.dT kvs))) H'/\mS H' ys (jT (is.take i) h)) ⟨none,none,rfl,xp.refl _,.nil⟩ ?_ ?_ ?_⟩
 .rintro i ys U H' hi ⟨v0,v1,rfl,sm,tu⟩
  refine⟨sm _ _ ja,?_⟩;rw[Paired.length tu,jT,length_map];exact oC (le_trans (length_filter_le _ _) (by rw[length_take];omega))
 .rintro i kv b q1 ys U H' ek eb hq1 ⟨v0,v1,rfl,sm,tu⟩
  obtain⟨pp,ep,e1,c,e2,e3⟩:=qd B1.hs ek;obtain⟨x,ex,rfl⟩:∃x,is[i]?=some x/\(bX x.1,x.2)=pp:=by
   rw[aY,getElem?_map]at ep;cases hx:is[i]? with
   |none=>rw[hx]at ep;cases ep
   |some x=>rw[hx]at ep;exact⟨x,rfl,Option.some.inj ep⟩
  have hk:kv.1=bX x.1:=e1;have eR:kv.2= .ref c:=e2;rw[hk,M9]at eb;have sq:=jg (o:=.tup [.ref b,kv.2]) hq1;have hc:H' c=some (.lst (x.2.map V.int)):=sm _ _ (by rw[jd (dg e3 B1.sg (by intro z;cases z))];exact e3);have tk:jT (is.take (i+1)) h=jT (is.take i) h++(if h∈x.2 then[x.1]else[]):=by unfold jT;rw[take_snoc ex,filter_append,map_append];by_cases z:h∈x.2<;>simp[z]
  refine⟨q1,_,rfl,aw.of ja,rfl,_,_,rfl,_,_,rfl,rfl,?_⟩;rw[eR]at sq⊢;refine⟨_,rfl,_,rfl,c,_,rfl,.inl (ag.of (sq _ _ hc)),rfl,vq _,_,rfl,bq (λz=>?_) (λz=>?_)⟩
  .rw[if_neg (by decide),ya]at z;refine⟨_,rfl,_,_,rfl,sm.trans sq,?_⟩;rw[tk,if_pos (of_decide_eq_true z)];exact qo (mS.same sq tu) ⟨b,rfl,sq _ _ eb⟩
  .rw[if_neg (by decide),ya]at z;refine⟨_,_,rfl,sm.trans sq,?_⟩;rw[tk,if_neg (λy=>z (decide_eq_true y)),append_nil];exact mS.same sq tu
 .rintro ys U H' ⟨v0,v1,rfl,sm,tu⟩ r hr
  rw[len,take_length]at tu;have lB:H' S=some (.aA o (.dT kvs)):=sm _ _ ja;have rS:r≠S:=(ji lB hr).symm;refine⟨S,o,.dT kvs,(by rw[jd rS.symm];exact lB),(λo' u' z=>?_),True.intro,?_⟩
  .have z':H S=some (.aA o' u'):=z;rw[Bq.sg]at z';cases z'
  .have OV:H1 r=none:=by
    cases e:H1 r with
    |none=>rfl
    |some u=>have:=sm r u (by rw[jd rS];exact e);rw[hr]at this;cases this
   refine q r ys _ (sv.free OV) (λc u hc=>?_) (Paired.ub tu λ_ _ ⟨a,e,ha⟩=>⟨a,e,?_⟩) (by rw[jd rS,ja])
   .have h1:=sv _ _ hc;by_cases z:c=S
    .subst z;rw[B1.sg]at h1;rw[ja,h1]
    .rw[jd z,jd (ji h1 OV)];exact sm _ _ (by rw[jd z];exact h1)
   .rw[jd (dg ha lB (by intro z;cases z)),jd (ji ha hr)];exact ha
theorem jx3 {is:zx}(nd:(is.map (·.1)).Nodup){h:Int}{t:List Int}(ht:t∈jT is h):h∈jq is t:=by unfold jT at ht;obtain⟨x,hx,rfl⟩:=mem_map.mp ht;obtain⟨h1,h2⟩:=mem_filter.mp hx;obtain⟨i,hi,ei⟩:=mem_iff_getElem.mp h1;rw[(wd x.1 is).symm.trans (zX nd (by rw[getElem?_eq_getElem hi,ei]))];exact of_decide_eq_true h2
theorem OW {L:List O}:∀{ts:List (List Int)},(∀t∈ts,∃o∈L,t=za o)->∃bo:List O,ts=bo.map za
 |[],_=>⟨[],rfl⟩
 |x::is,h=>by obtain⟨bo,e⟩:=OW (ts:=is) λy hy=>h y (mem_cons_of_mem _ hy);obtain⟨o,_,eo⟩:=h x mem_cons_self;exact⟨o::bo,by rw[map_cons,e,eo]⟩
theorem OX {H:Hp}:∀{vs:List V}{os:List O},mS H vs (os.map za)->zR H vs os
 |_,[],.nil=>.nil
 |_,_::_,.cons h r=>.cons h (OX r)
theorem j4a {cs:List ((Int×Int)×O)}{a b:(Int×Int)×O}(nd:(cs.map (·.1)).Nodup)(ha:a∈cs)(hb:b∈cs)(e:a.1=b.1):a=b:=by
 induction cs with
 |nil=>cases ha
 |cons c cs ih=>
  rw[map_cons,nodup_cons]at nd;rcases mem_cons.mp ha with h1|h1<;>rcases mem_cons.mp hb with h2|h2
  .rw[h1,h2]
  .exact absurd (mem_map.mpr ⟨b,h2,by rw[<-e,h1]⟩) nd.1
  .exact absurd (mem_map.mpr ⟨a,h1,by rw[e,h2]⟩) nd.1
  .exact ih nd.2 h1 h2
noncomputable def jx8 (t:Ad):Sp:=λvs H Q _=>∃Z W Y T p,vs=[.ref W.x]/\Wl t H Z W Y T p/\p.Ok/\T<=50/\∀r ys H',H r=none->xp H H'->H' r=some (.lst ys)->ys.length<=p.ls.length->Q (.ref r) H'
theorem jqw (T:Txt K mg t):xm P w K mg base CX0 6 t.Fe t.Ff ["world"] (jx8 t):=by
 refine T.MH.cz Mg λ_ A _ s H vs Q E hr h=>?_;obtain⟨Z,W,Y,T',p,rfl,w0,ok,hT,k⟩:=h;refine⟨_,(@jb _ _ _ _ _ (j8 (jo (jra T) hr.dn rfl T.Xu T.My.kp T.Xv .nil jn (jc (pv 0) jf))) (@jb _ _ _ _ _ (qa (i:=1) Mg.nd rfl (Or.inl rfl) (jm K3 rfl T.zQ boot_sorted (jc (xc xA (yq (pv 0) T.jh T.Yi (jpl T) hr.dn T.Yj .nil jn) (j7 (pv 0) rfl)) jf))) (@je _ _ _ (j3 (iF (N':=["house","world"]) (ix:=[none,some 0]) (xq (by kernel_rfl)) rfl (@fJ _ _ _ _ (pv 1)) (λ_ _ _ _=>(jv (i:=0) W5 rfl (Or.inl rfl) (.inr rfl))) (λ_ _ _ _=>(kN (Vd (K:=K) rfl (jo (jly T) hr.dn rfl T.Xw T.Mz.kp T.Xx .nil jn (jc (j5 (Ut (K:=K) rfl (pv 1) rfl) T.zf T.XM (jlt T) hr.dn T.XN .nil jn (jc (pv 0) jf)) jf)) (λ_=>rfl)))) (λ_ _ _ _=>(pv 0))))))),?_⟩;obtain⟨L,gn,sk⟩:=w0.g;have n8:=gn.ok.n8;have ll:=gn.l;have Ow:=w0.o;refine aJ λN hN=>⟨_,rfl,W.x,W.dx,_,rfl,Ow.ob.1,hN [some (.ref W.x),none] _ (aJ λN hN=>⟨_,rfl,W.x,W.dx,_,rfl,Ow.ob.1,qy,Z,0,W,Y,rfl,Ow,λr1 nr1=>?_⟩)⟩;rw[w0.h];have s1:=jg (o:=.lst (p.hs.map V.int)) nr1;have O1:=Ow.same s1;have l16:=ok.h1;have l2:=ok.ll;refine⟨_,rfl,W.x,_,W.dx,_,_,rfl,O1.ob.1,T.jh,T.Gd,Nt,r1,W.ly,_,_,rfl,rfl,ja,s1 _ _ w0.ly.1,oK (by rw[length_map,length_map];omega),λr2 HM=>?_⟩;have s2:=s1.trans (jg (o:=.lst (p.hs.map V.int++p.ls.map V.int)) HM);refine⟨r2,p.hs++p.ls,rfl,ag.of (by rw[ja,map_append]),by rw[length_append];omega,λr3 hs nr3 pm up=>?_⟩;have s3:=s2.trans (jg (o:=.lst (hs.map V.int)) nr3);have h3:upd (upd (upd H r1 (.lst (p.hs.map V.int))) r2 (.lst (p.hs.map V.int++p.ls.map V.int))) r3 (.lst (hs.map V.int)) r3=some (.lst (hs.map V.int)):=ja;generalize upd (upd (upd H r1 (.lst (p.hs.map V.int))) r2 (.lst (p.hs.map V.int++p.ls.map V.int))) r3 (.lst (hs.map V.int))=H3 at s3 h3;have lh:hs.length<=21:=by rw[pm.length_eq,length_append];omega
 refine hN [some (.ref W.x),some (.ref r3)] _ ⟨_,rfl,r3,rfl,⟨_,ag.of h3⟩,nY (K:=K) (a:=r3) (xs:=hs.map V.int) (λi ys U H'=>∃v,U=[v,some (.ref W.x)]/\xp H3 H'/\ys.length<=((hs.take i).filter λh=>decide (h∉p.hs)).length) ⟨none,rfl,xp.refl _,zero_le _⟩ ?_ ?_ ?_⟩
 .rintro i ys U H' hi ⟨v,rfl,sm,ln⟩
  have:=length_filter_le (λh=>decide (h∉p.hs)) (hs.take i);rw[length_take]at this;exact⟨ag.of (sm _ _ h3),oK (by omega)⟩
 .rintro i y ys U H' ey ⟨v,rfl,sm,ln⟩
  obtain⟨h,eh,rfl⟩:∃h,hs[i]?=some h/\y= .int h:=by
   rw[getElem?_map]at ey;cases e:hs[i]? with
   |none=>rw[e]at ey;cases ey
   |some h=>rw[e]at ey;exact⟨h,rfl,(Option.some.inj ey).symm⟩
  have nd:=gn.g.b.nd;have OY:∀t∈jT Y.bd h,∃o∈L,t=za o:=λt ht=>by obtain⟨x,hx,rfl⟩:=mem_map.mp ht;exact gn.g.b.ks x (mem_filter.mp hx).1
  obtain⟨so,es⟩:=OW OY;have m1:∀o∈so,h∈jq Y.bd (za o)/\o∈L:=λo ho=>by have:=mem_map_of_mem (f:=za) ho;rw[<-es]at this;obtain⟨u,hu,eu⟩:=OY _ this;exact⟨jx3 nd this,qD eu ▸ hu⟩
  have O4:=Ow.same (s3.trans sm);obtain⟨rb,rS,fW,Bq,sgr⟩:=O4.bd;have lb:fW.length<64:=by have h1:=gn.g.b.len.1;have h2:=Paired.length Bq.hs;rw[aY,length_map]at h2;omega
  refine⟨_,rfl,W.x,_,W.dx,_,_,rfl,O4.ob.1,T.jh,T.qr,mL,W.bd,W.db,_,rfl,Bq.ob,lq _ _ (by decide+kernel) (by decide+kernel),_,rfl,W.bd,W.db,W.S,Y.en,fW,Y.bd,h,rfl,Bq,lb,λr bh H5 nr s5 tu gr=>?_⟩;rw[es]at tu;have lso:so.length<=1000:=by have:=congrArg List.length es;unfold jT at this;rw[length_map,length_map]at this;have h1:=length_filter_le (λq:List Int×List Int=>decide (h∈q.2)) Y.bd;have h2:=gn.g.b.len.1;omega
  refine⟨r,bh,so,rfl,gr,OX tu,lso,λo ho=>Gm (gn.lo o (m1 o ho).2) n8,λr2 fs H6 HM s6 g6 nc=>?_⟩;refine⟨!fs.isEmpty,.inl ⟨_,ag.of g6,rfl⟩,?_⟩;have OZ:=(sm.trans s5).trans s6;rw[take_snoc eh,filter_append,length_append];cases fs with
  |nil=>exact vd ⟨_,rfl,OZ,by omega⟩
  |cons f fr=>
   have nh:h∉p.hs:=λz=>by rw[<-w0.h]at z;obtain⟨c,hc,rfl⟩:=mem_map.mp z;have:=nc λo ho u hu e=>(Prod.mk.inj (j4a (sk.kv c hc).ck (sk.vo c hc u (m1 u hu).1) (sk.vo c hc o (m1 o ho).1) e)).2;cases this
   refine bM ⟨_,rfl,_,rfl,OZ,?_⟩;have e1:(List.filter (λh=>decide (h∉p.hs)) [h]).length=1:=by simp[nh]
   rw[length_append,e1];exact Nat.add_le_add ln (le_refl _)
 .rintro ys U H' ⟨v,rfl,sm,ln⟩ r nr
  rw[length_map,take_length]at ln;refine k r ys _ ((s3.trans sm).free nr) ((s3.trans sm).trans (jg nr)) ja (le_trans ln ?_);have pl:=(pm.filter λh=>decide (h∉p.hs)).length_eq;rw[pl,filter_append,length_append,List.filter_eq_nil_iff.mpr (λx hx=>by simp[hx])];rw[length_nil,zero_add];exact length_filter_le _ _
noncomputable abbrev gQ (a To pa x:Addr)(cr few:Int)(fo ho be ro:Addr)(l:List (Option V)):St:=[some (.ref a),some (.ref To),some (.ref pa),some (.ref x),some (.int cr),some (.int few),some (.ref fo),some (.ref ho),some (.ref be),some (.ref ro)]++l
theorem Ps.same {Z:aq}{H H':Hp}{pa x fo ho be ro:Addr}{aE few:Int}{p:Pt}(s:xp H H')(h:Ps H Z pa x aE few fo ho be ro p):Ps H' Z pa x aE few fo ho be ro p:=h.fr (P:=λ_=>False) (Fr.same s)
noncomputable def j0g (K:W.Frag):Sp:=λvs H Q _=>∃(a:Addr)(ns:List Int),vs=[.ref a]/\ag K H a (ns.map V.int)/\ns.length<=63/\∀H',Q (.bl true) H'
theorem j54 {Z:aq}{H:Hp}{L:List O}{C:O->Bool}(kr:ax Z H):∀{vs:List V}{ts:List (List Int)},Paired (eF H) vs ts->(∀t∈ts,∃o∈L,t=za o/\C o=true)->∃os,ts=os.map za/\Paired (zv H Z) vs os/\∀o∈os,o∈L/\C o=true:=λ{vs ts} q h=>by
 induction q with
 |nil=>exact⟨[],rfl,.nil,λ_ z=>by cases z⟩
 |@cons v t vs ts a r ih=>obtain⟨a,ea,ha⟩:=a;obtain⟨o,oL,e,c⟩:=h _ mem_cons_self;obtain⟨os,e2,p,q⟩:=ih λt ht=>h t (mem_cons_of_mem _ ht);subst e;exact⟨o::os,by rw[e2];rfl,.cons ⟨a,ea,kr.tup ha,ha⟩ p,λu hu=>(mem_cons.mp hu).elim (λz=>z ▸ ⟨oL,c⟩) (q u)⟩
theorem O0 {is:zx}{en:Int}(nd:(is.map (·.1)).Nodup):(zk is en).Nodup:=List.Nodup.sublist (List.Sublist.map _ List.filter_sublist) nd
theorem j50 {ts:List (List Int)}{os:List O}{is:zx}{en:Int}(nd:(is.map (·.1)).Nodup)(q:ts.Perm (zk is en))(e:ts=os.map za):os.Nodup/\∀o,o∈os↔za o∈zk is en:=by subst e;refine⟨List.Pairwise.of_map za (λa b h z=>h (congrArg za z)) (q.nodup_iff.mpr (O0 nd)),λo=>?_⟩;rw[<-q.mem_iff,mem_map];exact⟨λh=>⟨o,h,rfl⟩,λ⟨u,h,e⟩=>qD e ▸ h⟩
theorem O5 {a b c:List (List Int)}(h1:a.Perm c)(h2:a.Pairwise λx y=>HT.lexLt x y=true)(h3:b.Perm c)(h4:b.Pairwise λx y=>HT.lexLt x y=true):a=b:=List.Perm.eq_of_pairwise (λx y _ _ p q=>by rw[CS p]at q;cases q) h2 h4 (h1.trans h3.symm)
theorem j7a {K:PySem.W.Frag}{a:Addr}{xs:List V}{g:TG}{ti:TT}{te:TE}{U0:St}{H0:Hp}{Q:VK}(Pv:Nat->List V->St->Hp->Prop)(h0:Pv 0 [] U0 H0)(hl:∀i ys U H,i<=xs.length->Pv i ys U H->aw K H a xs/\ys.length<=sizeLine)(hs:∀i x ys U H,xs[i]?=some x->Pv i ys U H->g x U H λU2 H2=>ti U2 H2 λb H3=>if b=true then te U2 H3 λy H4=>Pv (i+1) (ys++[y]) U2 H4 else Pv (i+1) ys U2 H3)(hd:∀ys U H,Pv xs.length ys U H->∀p,H p=none->Q (.ref p) (upd H p (.lst ys))):∃W:Nat->Nat->List V->St->Hp->Prop,(∃m,W 0 m [] U0 H0)/\∀i m ys U H,W i m ys U H->ys.length<=sizeLine/\(((lZ K a).stop i H/\nU Q ys H)\/((lZ K a).go i H/\∃N:List V->St->Hp->Prop,(∀bC U' H',N bC U' H'->∃m',m'<m/\W (i+1) m' bC U' H')/\∀x H',(lZ K a).du i H x H'->g x U H' λU2 H2=>ti U2 H2 λb H3=>if b=true then te U2 H3 λy H4=>N (ys++[y]) U2 H4 else N ys U2 H3)):=by
 refine⟨λi m ys U H=>m=xs.length-i/\i<=xs.length/\Pv i ys U H,⟨xs.length,by simp,zero_le _,h0⟩,?_⟩
 rintro i m ys U H ⟨rfl,hi,p⟩
 obtain⟨q,hz⟩:=hl i ys U H hi p;refine⟨hz,?_⟩;by_cases az:i<xs.length
 .refine .inr ⟨⟨xs,xs[i],q,by simp[az]⟩,Pv (i+1),λbC U' H' p'=>⟨xs.length-(i+1),by lia,rfl,az,p'⟩,λx H' y=>?_⟩;obtain⟨e,y⟩:=y;subst e;exact hs i x ys U _ (y xs q) p
 .have e:i=xs.length:=by lia
  subst e;exact .inl ⟨⟨xs,q,le_refl _⟩,hd ys U H p⟩
mutual
theorem vP:∀d:Dt,aU d d=true
 | .aj=>by simp[aU]
 | .bl _=>by simp[aU]
 | .int _=>by simp[aU]
 | .str _=>by simp[aU]
 | .tup ds=>by rw[aU];exact HN ds
 | .lst ds=>by rw[aU];exact HN ds
theorem HN:∀ds:List Dt,cv ds ds=true
 |[]=>by rw[cv]
 |d::ds=>by rw[cv,vP d,HN ds];rfl
end
theorem AL {K:W.Frag}{H:Hp}{vs:List V}{ts:List (List Int)}{a:Addr}(h:iI K H vs ts)(ha:ag K H a vs):ql K H (.lst (ts.map fZ)) (.ref a):=by rw[ql];exact⟨a,vs,rfl,ha,Hf (λx t ⟨b,e,q⟩=>by rw[e];exact qR q) h⟩
theorem O8 (ts:List (List Int)):bg (.lst (ts.map fZ))<=60:=by have:=vH ts;rw[bg];lia
theorem Pa (p:Int->Bool):∀l:List Int,(l.filter p).length+(l.filter λx=>!p x).length=l.length
 |[]=>rfl
 |x::l=>by
  have:=Pa p l;by_cases h:p x=true
  .simp[h]at this⊢;lia
  .simp[h]at this⊢;lia
theorem jyw {A Bq:List Int}{n:Int}(na:A.Nodup)(nb:Bq.Nodup)(ha:∀x∈A,0<=x/\x<n)(hb:∀x∈Bq,0<=x/\x<n)(hn:0<=n):(A.length:Int)+Bq.length<=n+(A.filter λx=>decide (x∈Bq)).length:=by
 have h1:=gi (xs:=Bq++A.filter λx=>!decide (x∈Bq)) (ys:=(List.range n.toNat).map λ(i:Nat)=>(i:Int)) (nodup_append.mpr ⟨nb,na.filter _,λx hx y hy e=>by
  have:=(mem_filter.mp hy).2;subst e;simp[hx]at this⟩) λx hx=>by
  have:0<=x/\x<n:=(mem_append.mp hx).elim (hb x) λh=>ha x (mem_filter.mp h).1;exact mem_map.mpr ⟨x.toNat,mem_range.mpr (by lia),by lia⟩
 rw[length_append,length_map,length_range]at h1;have h2:=Pa (λx=>decide (x∈Bq)) A;lia
theorem Sk.j9e {Y:Wd}{L:List O}{ls:List Int}(s:Sk Y L ls){c:Int×Kp}(hc:c∈Y.ks)(o:O):vt c.2 (bZ o)=some o↔c.1∈jq Y.bd (za o):=⟨λh=>s.ov c hc _ ((s.kv c hc).OM.mp h),λh=>(s.kv c hc).OM.mpr (s.vo c hc o h)⟩
theorem j1t {a b c:List Int}(h1:a.Perm c)(h2:a.Pairwise (·<=·))(h3:b.Perm c)(h4:b.Pairwise (·<=·)):a=b:=List.Perm.eq_of_pairwise (λx y _ _ p q=>Int.le_antisymm p q) h2 h4 (h1.trans h3.symm)
noncomputable def mT:Option O->Dt
 |none=>.aj
 |some o=>eU o
theorem j4z {K:W.Frag}{H:Hp}{Z:aq}{v:V}:∀{x:Option O},ON H Z v x->ql K H (mT x) v
 |none,h=>by have h':v= .aj:=h;rw[h',mT,ql]
 |some o,h=>qU (zv.at_ h)
theorem j6j (x:Option O)(o:O):aU (mT x) (eU o)=decide (x=some o):=by
 cases x with
 |none=>simp[mT,eU,aU]
 |some u=>rw[mT,Hy];simp
theorem j8h (x:Option O):bg (mT x)<=60:=by
 cases x with
 |none=>simp[mT,bg]
 |some u=>exact Hx u
theorem Pb {K:W.Frag}{H:Hp}{a q b:Addr}{o:O}{ss:List Int}(ha:H a=some (.tup [.ref q,.ref b]))(hq:H q=some (.tup (bI o)))(hb:H b=some (.tup (ss.map V.int))):ql K H (.tup ([za o,ss].map fZ)) (.ref a):=by rw[ql];refine⟨a,_,rfl,aw.of ha,?_⟩;rw[map_cons,map_cons,map_nil,xu];refine⟨_,_,rfl,qR (ts:=za o) (aw.of hq),?_⟩;rw[xu];exact⟨_,_,rfl,qR (aw.of hb),by rw[xu]⟩
theorem j48 (o:O)(ss:List Int):bg (.tup ([za o,ss].map fZ))<=60:=by have:=vH [za o,ss];rw[bg];lia
theorem Pd {zs:List Int}{i:Nat}{x:V}(e:(zs.map V.int)[i]?=some x):∃z,zs[i]?=some z/\x= .int z:=by
 rw[getElem?_map]at e;cases h:zs[i]? with
 |none=>rw[h]at e;cases e
 |some z=>rw[h]at e;exact⟨z,rfl,(Option.some.inj e).symm⟩
theorem Pe {H H':Hp}{Z:aq}(s:xp H H'):∀{vs:List V}{os:List O},Paired (zv H Z) vs os->Paired (eF H') vs (os.map za)
 |_,_,.nil=>.nil
 |_,_,.cons ⟨b,e,_,h⟩ r=>.cons ⟨b,e,s _ _ h⟩ (Pe s r)
set_option maxHeartbeats 0 in
theorem j7e (T:Txt K mg t) : xm P w K mg base CX0 12 t.FF t.FG ["_law_script"] (j0g K):=by
 refine T.Y4.cz (k:=11) eE λ_ A _ s H vs Q E hr h=>?_
 obtain ⟨a,ns,rfl,hS,hn,k⟩:=h
 refine ⟨_,(@jb _ _ _ _ _ (qa (i:=1) eE.nd rfl (Or.inl rfl) (jo (jtn T) hr.dn rfl T.YS T.MI.kp T.YT .nil jn (jc (pv 0) jf)))
  (@jb _ _ _ _ _ (qa (i:=2) eE.nd rfl (Or.inl rfl) (jo (jsq T) hr.dn rfl T.YU T.MN.kp T.YV .nil jn (jc (pv 1) jf)))
  (@jb _ _ _ _ _ (kB (pv 2) (lX rfl (j9 (jv (i:=3) eE.nd rfl (Or.inr rfl)) (j9 (jv (i:=4) eE.nd rfl (Or.inl rfl)) (j9 (jv (i:=5) eE.nd rfl (Or.inl rfl)) (j9 (jv (i:=6) eE.nd rfl (Or.inl rfl)) (j9 (jv (i:=7) eE.nd rfl (Or.inr rfl)) (j9 (jv (i:=8) eE.nd rfl (Or.inl rfl)) (j9 (jv (i:=9) eE.nd rfl (Or.inl rfl)) lW)))))))))
  (@jb _ _ _ _ _ (qa (i:=10) eE.nd rfl (Or.inl rfl) (jo (zh T) hr.dn rfl T.zm T.zb.kp T.zo .nil jn (@y3 _ _ _ _ _ (pv 1) (@zj _ _ _ _ (@bW _ _ _ _ _ _ _ jk jk jk rfl rfl rfl)) rfl rfl)))
  (@jb _ _ _ _ _ (jA PassesOwn.never rfl (rl rfl T.uK (jc jk jf)) (jv (i:=11) eE.nd rfl (Or.inl rfl)) (@jb _ _ _ _ _ (j8 (jo (jxt T) hr.dn rfl T.Y2 T.MS.kp T.Y3 .nil jn (@bW _ _ _ _ _ _ _ (pv 1) (pv 2) (pv 10) rfl rfl rfl)))
  (@jb _ _ _ _ _ (qa (i:=12) eE.nd rfl (Or.inl rfl) (yq (pv 3) T.jh T.yj (vh T) hr.dn T.yy .nil jn))
  (@jb _ _ _ _ _ (zd (PW.pt (dF (jw (jF hr.units) (pv 12) (jm KY rfl T.zQ boot_sorted (jc (pv 12) jf)) (qc _)) (dS (jw pG (jm WN rfl T.ue boot_len (jc (uz (WM rfl hr.units) rfl T.ZJ boot_set (jc (iF (N':=["_law_order_here"]) (ix:=[none]) (xq (by kernel_rfl)) rfl (@fJ _ _ _ _ (pv 12)) (λ_ _ _ _=>(jv (i:=0) W9 rfl (Or.inl rfl) (.inr rfl))) (λ_ _ _ _=>se) (λ_ _ _ _=>(Ri (UN (K:=K) rfl) (pv 0) Rf (Rg jk)))) jf)) jf)) (jm jt rfl T.ue boot_len (jc (pv 12) jf)) (qc _))))) (@je _ _ _ (j3 eN)) j6)
  (@je _ _ _ (jA PassesOwn.never rfl (@fJ _ _ _ _ (pv 12)) (jv (i:=13) eE.nd rfl (Or.inr rfl)) (@jb _ _ _ _ _ (qa (i:=14) eE.nd rfl (Or.inr rfl) (j5 (pv 3) T.jh T.Ym (jre T) hr.dn T.Yn .nil jn (jc (pv 13) jf)))
  (@jb _ _ _ _ _ (zd (PW.pt (dF (jw (jF hr.units) (pv 14) (@gG _ _ _ _ _ (@y3 _ _ _ _ _ (pv 13) (uz JT rfl T.pZ boot_tuple (jc (j5 (pv 3) T.jh T.uk (OO T) hr.dn T.ME .nil jn (jc (pv 13) jf)) jf)) rfl rfl)) (qc _)) (dS (zy (qz (gu (jyf T) hr.dn rfl T.Xo T.Mv.kp T.Xp jn (jc (pv 14) jf) (yn (pv 4) (yn (pv 5) (yn (jm jt rfl T.ue boot_len (jc (pv 8) jf)) gH))))))))) (@je _ _ _ (j3 eN)) j6)
  (@jb _ _ _ _ _ (zd (PW.pt (dF (jw nG (jm jt rfl T.ue boot_len (jc (kl fP (pv 14) jk (λ_ _=>rfl)) jf)) (xc gU (pv 4) (pv 5)) (qc _)) (dS (jw (jF hr.units) (iF (N':=["_law_k","_law_order_here","_law_told_here","_law_world_here"]) (ix:=[none,some 13,some 14,some 3]) (xq (by kernel_rfl)) rfl (@fJ _ _ _ _ (pv 7)) (λ_ _ _ _=>(jv (i:=0) W8 rfl (Or.inl rfl) (.inr rfl))) (λ_ _ _ _=>(kN (jw pG (gE (xX (K:=K) rfl) (pv 0) (kl (xV (K:=K) rfl) (pv 2) jk (λ_ _=>rfl)) (by with_unfolding_all rfl)) (gE (UO (K:=K) rfl hr.units) (j5 (pv 3) T.jh T.Yr (jq2 T) hr.dn T.Ys .nil jn (@bW _ _ _ _ _ _ _ (pv 0) (kl (xV (K:=K) rfl) (pv 1) jk (λ_ _=>rfl)) (kl (xV (K:=K) rfl) (pv 1) jk (λ_ _=>rfl)) rfl rfl rfl)) (pv 1) (qc _)) (qc _)))) (λ_ _ _ _=>(pv 0))) (@zj _ _ _ _ jf) (qc _))))) (@je _ _ _ (j3 eN)) j6)
  (@je _ _ _ (jA PassesOwn.never rfl (@fJ _ _ _ _ (pv 12)) (jv (i:=15) eE.nd rfl (Or.inr rfl)) (@jb _ _ _ _ _ (Km (i:=16) eE.nd rfl rfl (N':=["_law_k","_law_other","_law_world_here"]) (ix:=[none,some 15,some 3]) (xq (by kernel_rfl)) rfl (@Jf _ _ _ _ (kl fP (pv 14) jk (λ_ _=>rfl))) (λ_ _ _ _=>(jv (i:=0) W7 rfl (Or.inl rfl) (.inr rfl))) (λ_ _ _ _=>(kN (jw (xX (K:=K) rfl) (pv 0) (j5 (pv 2) T.jh T.uk (OO T) hr.dn T.ME .nil jn (jc (pv 1) jf)) (by with_unfolding_all rfl)))) (λ_ _ _ _=>(pv 0)))
  (@jb _ _ _ _ _ (zd (jw nG (jm jt rfl T.ue boot_len (jc (pv 16) jf)) (kl fP (gu (OL T) hr.dn rfl T.MA T.FW.kp T.MB jn (jc (pv 4) jf) (yn (pv 5) gH)) jk (λ_ _=>rfl)) (qc _)) (@je _ _ _ (j3 eN)) j6)
  (@je _ _ _ (zd (jw nG (jm jt rfl T.ue boot_len (jc (iF (N':=["_law_k","_law_honest"]) (ix:=[none,some 7]) (xq (by kernel_rfl)) rfl (@fJ _ _ _ _ (pv 16)) (λ_ _ _ _=>(jv (i:=0) W6 rfl (Or.inl rfl) (.inr rfl))) (λ_ _ _ _=>(kN (jw (xX (K:=K) rfl) (pv 0) (pv 1) (by with_unfolding_all rfl)))) (λ_ _ _ _=>(pv 0))) jf)) (kl fP (gu (OL T) hr.dn rfl T.MA T.FW.kp T.MB jn (jc (pv 4) jf) (yn (pv 5) gH)) jk (λ_ _=>rfl)) (qc _)) (@je _ _ _ (j3 eN)) j6)))))))))))))))
  (@jb _ _ _ _ _ (j8 (dZ PySem.F.plainAttrs_list PySem.F.slot_list_append PySem.F.type_list_append yh (yq (pv 3) T.jh T.yj (vh T) hr.dn T.yy .nil jn) (jc (@gG _ _ _ _ _ (@Dx _ _ _ _ _ _ _ _ _ jk jk jk jk rfl rfl rfl rfl)) jf)))
  (@je _ _ _ (j3 (kA (gE (Kt hr.units) (yq (pv 3) T.jh T.yj (vh T) hr.dn T.yy .nil jn) (pv 12) (qc _)) (lT (gE rB (jm jt rfl T.ue boot_len (jc (jo (jqw T) hr.dn rfl T.YQ T.MH.kp T.YR .nil jn (jc (pv 3) jf)) jf)) (jm jt rfl T.ue boot_len (jc (pv 6) jf)) (qc _)))))))))))),?_⟩
 refine aJ λN hN=>⟨_,rfl,a,ns,rfl,hS,λTo R H1 nT nR s1 hT=>?_⟩
 have hTR:To ≠ R:=hT.ne
 obtain ⟨Z0,Pf⟩ : ∃ Z0:aq,Z0 = aD (aD (λ_=>none) R (9,.own 1)) To (9,.own 0):=⟨_,rfl⟩
 have S0:Tw H1 Z0 To R:=by
  obtain ⟨row,c,t1,t2,t3⟩:=hT
  refine ⟨?_,⟨row,c,t1,t2,t3⟩,?_⟩
  .rw [Pf]
   exact ax.aD (ax.aD (λ_ _ z=>by cases z) t2 True.intro) t1 True.intro
  .rw [Pf]
   exact ⟨zu,by rw [xo hTR.symm,zu]⟩
 refine hN _ _ (aJ λN hN=>⟨_,rfl,Z0,To,R,rfl,S0,λZ1 H2 W Y0 pa cr few fo ho be ro p ok S1 B1=>?_⟩)
 refine hN _ _ (aJ λN hN=>⟨_,rfl,pa,_,rfl,aw.of B1.tp.1,rfl,_,_,rfl,_,_,rfl,_,_,rfl,_,_,rfl,_,_,rfl,_,_,rfl,_,_,rfl,rfl,?_⟩)
 have fF : ∀ {HB e},HB e = none -> ql K (upd HB e (.lst [])) (.lst []) (.ref e):=λn=>by
  rw [ql]
  exact ⟨_,[],rfl,ag.of ja,by rw [xu]⟩
 have no4 : ∀ o:O,¬ (HT.aV (bI o).length 0 none = 0 /\ HT.aV (bI o).length (bI o).length (some 2) = (bI o).length):=λo z=>by
  have z2:HT.aV 4 4 (some 2) = 4:=z.2
  exact absurd z2 (by decide)
 have l2:=ok.l2
 have l8:=ok.l8
 refine hN _ _ (aJ λN hN=>⟨_,rfl,kY,λl nl=>?_⟩)
 have s2:=jg (o:=.lst ([3,5,7].map V.int)) nl
 have S2:=S1.same s2
 have B2:=B1.same s2
 have u2:Un (upd H2 l (.lst ([3,5,7].map V.int))) Z1 l ([3,5,7].map V.int):=⟨ja,S1.w.kr.none nl⟩
 refine oV S2 u2 (by show 0 < 3; decide) (by show 3 <= 1000; decide) λsh H3 _ S3 f3=>?_
 have B3:=B2.fr f3
 refine hN (gQ a To pa W.x cr few fo ho be ro [some (.int sh),none,none,none,none,none,none]) _ (aJ λN hN=>⟨40,rfl,by decide,by decide,Jj (lo:=0) (n:=40) (λi U H'=>∃ Z Y v1 v2 v3 v4 v5 v6,U = gQ a To pa W.x cr few fo ho be ro [some (.int sh),v1,v2,v3,v4,v5,v6] /\ Sw t H' Z W Y i p To R /\ Ps H' Z pa W.x cr few fo ho be ro p /\ (i = 0 \/ ∃ pp vs ts,v2 = some (.ref pp) /\ H' pp = some (.lst vs) /\ Paired (eF H') vs ts /\ ts.Perm (zk Y.bd Y.en) /\ ts.Pairwise (λa b=>HT.lexLt a b = true))) ⟨Z1,Y0,none,none,none,none,none,none,rfl,S3,B3,.inl rfl⟩ ?_ ?_⟩)
 .rintro i U H4 hi ⟨Z,Y,v1,v2,v3,v4,v5,v6,rfl,S4,B4,_⟩
  refine aJ λN hN=>⟨_,rfl,_,rfl,_,rfl,Z,W,Y,i,p,To,R,pa,cr,few,fo,ho,be,ro,sh,rfl,S4,B4,ok,by omega,λZ5 H5 Y5 v S5 f5 _=>?_⟩
  have B5:=B4.fr f5
  clear S4 B4 f5
  obtain ⟨L,gn,sk⟩:=S5.w.g
  have z0:=gn.l
  have bl:=gn.sz.bd
  have bne : ∀ x ∈ Y5.bd,x.1 ≠ []:=λx hx z=>by
   obtain ⟨o,_,e⟩:=gn.g.b.ks x hx
   rw [e] at z
   cases z
  refine hN _ _ (aJ λN hN=>⟨_,rfl,W.x,W.dx,_,rfl,S5.w.o.ob.1,qy,Z5,0,W,Y5,rfl,S5.w.o,by omega,gn.g.b.nd,bne,λpp jU ts H6 npp s6 q1 pw q3 h6=>?_⟩)
  obtain ⟨os,HP,px,fb⟩:=j54 (C:=Y5.carried) (L:=L) (S5.w.kr.same s6) q3 λu hu=>gn.jN (q1.mem_iff.mp hu)
  obtain ⟨Pg,omem⟩:=j50 gn.g.b.nd q1 HP
  have l6:=Paired.length px
  have los:os.length <= 41:=by
   have:=gi Pg λo ho=>(fb o ho).1
   omega
  have tne : ∀ x ∈ ts,x ≠ []:=λx hx z=>by
   rw [HP] at hx
   obtain ⟨o,_,rfl⟩:=mem_map.mp hx
   cases z
  have tnd:ts.Nodup:=q1.nodup_iff.mpr (O0 gn.g.b.nd)
  have Ph:iI K H6 jU ts:=eF.at_ q3
  have S6:=S5.same s6
  have B6:=B5.same s6
  have hen : Y5.en = cr - few:=S5.w.en.trans B5.ce.symm
  have he2:((Y5.ks.length + 2 * p.ls.length:Nat) : Int) < 2 * Y5.en:=by
   have h1:=ok.he
   have h2:=congrArg List.length S5.w.h
   rw [length_map] at h2
   rw [S5.w.en]
   omega
  have one : ∀ o ∈ os,∀ u ∈ os,bZ o = bZ u -> o = u:=λo ho u hu e=>j0l gn sk he2 (fb o ho).2 (fb u hu).2 e
  have pnd:(os.map bZ).Nodup:=by
   have all : ∀ l:List O,l.Nodup -> (∀ o ∈ l,o ∈ os) -> (l.map bZ).Nodup:=λl=>by
    induction l with
    | nil=>exact λ_ _=>nodup_nil
    | cons x l ih=>
     intro nd sb
     rw [nodup_cons] at nd
     rw [map_cons,nodup_cons]
     refine ⟨λz=>?_,ih nd.2 λo h=>sb o (mem_cons_of_mem _ h)⟩
     obtain ⟨u,hu,e⟩:=mem_map.mp z
     exact nd.1 (one u (sb u (mem_cons_of_mem _ hu)) x (sb x mem_cons_self) e ▸ hu)
   exact all os Pg λ_ h=>h
  refine hN (gQ a To pa W.x cr few fo ho be ro [some (.int sh),some (.int (0 + i)),some (.ref pp),v3,v4,v5,v6]) _ (aJ λN hN=>⟨_,rfl,_,rfl,pp,jU,ts,rfl,ag.of h6,Ph,by omega,tnd,tne,λq7 HQ HR ix n7 _ _ _ _ pt7 ta7 HS=>?_⟩)
  have e7:HR = ts:=O5 pt7 HS (List.Perm.refl _) pw
  subst e7
  have s7:=jg (o:=.lst HQ) n7
  refine ⟨_,_,AL (zY s7 Ph) (ag.of (s7 _ _ h6)),AL (zY s7 ta7) (ag.of ja),O8 _,_,rfl,?_⟩
  rw [vP]
  have pA:=s6.trans s7
  have h7:=s7 _ _ h6
  have HU:Paired (zv _ Z5) jU os:=Paired.ub px λ_ _ h=>h.fr (P:=λ_=>False) (Fr.same s7)
  generalize upd H6 q7 (.lst HQ) = H7 at pA h7 HU
  refine vd ⟨_,rfl,pp,rfl,⟨_,ag.of h7⟩,nY (K:=K) (a:=pp) (xs:=jU) (λj ys U H'=>∃ v,U = [v] /\ xp H7 H' /\ iI K H' ys ((os.take j).map λo=>[o.p,o.n])) ⟨none,rfl,xp.refl _,.nil⟩ ?_ ?_ ?_⟩
  .rintro j ys U H' hj ⟨v,rfl,sm,tu⟩
   refine ⟨ag.of (sm _ _ h7),oK ?_⟩
   rw [Paired.length tu,length_map,length_take]
   omega
  .rintro j y ys U H' ey ⟨v,rfl,sm,tu⟩
   obtain ⟨o,eo,q,rfl,nq,hq⟩:=qd HU ey
   dsimp only [eO,pM]
   rw [if_pos rfl]
   refine ⟨_,rfl,_,rfl,q,_,rfl,aw.of (sm _ _ hq),no4 o,λp1 n1=>?_⟩
   have t1:=jg (o:=.tup (rJ (bI o) none (some 2))) n1
   refine ⟨_,rfl,sm.trans t1,?_⟩
   rw [take_snoc eo,map_append]
   exact qo (zY t1 tu) ⟨p1,rfl,aw.of ja⟩
  .rintro ys U H' ⟨v,rfl,sm,tu⟩ r nr
   rw [l6,take_length] at tu
   have s8:=sm.trans (jg (o:=.lst ys) nr)
   have em:(os.map λo=>[o.p,o.n]) = (os.map bZ).map λk=>[k.1,k.2]:=by
    rw [map_map]
    rfl
   rw [em] at tu
   have lp:(os.map bZ).length = os.length:=length_map ..
   refine ⟨r,ys,os.map bZ,rfl,ag.of ja,zY (jg nr) tu,by omega,pnd,λk' fU=>?_,λr9 n9=>⟨r9,(os.map bZ).length,rfl,ja,by omega,_,rfl,pp,jU,rfl,.inl (ag.of ((s8.trans (jg n9)) _ _ h7)),rfl,_,rfl,?_⟩⟩
   .obtain ⟨o,ho,rfl⟩:=mem_map.mp fU
    have:=mG.mp (Gm (gn.lo o (fb o ho).1) gn.ok.n8)
    exact ⟨by show 0 <= o.p; omega,by show o.p < 8; omega,by show 0 <= o.n; omega,by show o.n < 100; omega⟩
   rw [lp,l6]
   have s9:=pA.trans (s8.trans (jg (o:=mF r9 (os.map bZ).length) n9))
   rw [lp] at s9
   have h9:=(s8.trans (jg (o:=mF r9 (os.map bZ).length) n9)) _ _ h7
   rw [lp] at h9
   have AM:Paired (zv (upd (upd H' r (.lst ys)) r9 (mF r9 os.length)) Z5) jU os:=Paired.ub HU λ_ _ h=>h.fr (P:=λ_=>False) (Fr.same (by have:=s8.trans (jg (o:=mF r9 (os.map bZ).length) n9); rw [lp] at this; exact this))
   generalize upd (upd H' r (.lst ys)) r9 (mF r9 os.length) = H9 at s9 h9 AM
   have i4 : ∀ o,(jq Y5.bd (za o)).length < 64:=λo=>by
    have h1:=gi (gn.jR o).1 (gn.jR o).2
    rw [S5.w.h,length_append] at h1
    have h2:=ok.h1
    have h3:=ok.ll
    omega
   have HV : ∀ o,∀ x ∈ jq Y5.bd (za o),0 <= x /\ x < cr:=λo x hx=>B5.hr x (by rw [<- S5.w.h]; exact (gn.jR o).2 x hx)
   rw [decide_eq_true (rfl:V.int (os.length:Int) = V.int os.length)]
   refine vd (hN (gQ a To pa W.x cr few fo ho be ro [some (.int sh),some (.int (0 + i)),some (.ref pp),v3,v4,v5,v6]) _ ⟨_,rfl,pp,rfl,⟨_,ag.of h9⟩,nF (K:=K) (a:=pp) (xs:=jU) (λj U H'=>∃ v3 v4 v5 v6,U = gQ a To pa W.x cr few fo ho be ro [some (.int sh),some (.int (0 + i)),some (.ref pp),v3,v4,v5,v6] /\ xp H9 H') ⟨v3,v4,v5,v6,rfl,xp.refl _⟩ (λj U H' _ ⟨_,_,_,_,_,sm⟩=>ag.of (sm _ _ h9)) ?_ ?_⟩)
   rotate_left
   .rintro U HZ ⟨w3,w4,w5,w6,rfl,sm⟩
    have G:=s9.trans sm
    refine ⟨Z5,Y5,_,_,_,_,_,_,rfl,S5.same G,B5.same G,.inr ⟨pp,jU,_,rfl,sm _ _ h9,?_,q1,pw⟩⟩
    rw [HP]
    exact Pe sm AM
   rintro j y U HA ey ⟨w3,w4,w5,w6,rfl,sm⟩
   obtain ⟨o,eo,q,rfl,nq,hq⟩:=qd AM ey
   have HW:=mem_of_getElem? eo
   have G:=s9.trans sm
   have O:=(S5.same G).w
   have io:=gn.lo o (fb o HW).1
   dsimp only [eO]
   refine aJ λN hN=>⟨_,rfl,W.x,W.dx,_,rfl,O.o.ob.1,qy,_,rfl,Z5,0,W,Y5,q,o,rfl,O.o,sm _ _ hq,io,(fb o HW).2,i4 o,λa' b' ss HB na nb sB ha hb pm up=>?_⟩
   have GB:=G.trans sB
   have vQ:=sB _ _ (sm _ _ hq)
   have OB:=(S5.same GB).w
   have hl:=of_decide_eq_true (fb o HW).2
   have Pj:=pm.length_eq
   have PB:Hw HB Z5 cr few a' q b' ss o:=⟨⟨ha,O.kr.none na⟩,⟨q,rfl,nq,vQ⟩,⟨hb,O.kr.none nb⟩,(up.and (pm.nodup_iff.mpr (gn.jR o).1)).imp λh=>Int.lt_iff_le_and_ne.mpr h,λk hk=>HV o k (pm.mem_iff.mp hk),by rw [Pj]; omega⟩
   refine hN (gQ a To pa W.x cr few fo ho be ro [some (.int sh),some (.int (0 + i)),some (.ref pp),some (.ref q),some (.ref a'),w5,w6]) _ (aJ λN hN=>⟨_,rfl,_,rfl,_,rfl,W.x,W.dx,_,rfl,OB.o.ob.1,qy,_,rfl,Z5,0,W,Y5,q,o,rfl,OB.o,vQ,io,i4 o,λr2 ss2 HC HM sC hC Pk Pl=>?_⟩)
   have e2:ss2 = ss:=j1t Pk Pl pm up
   rw [e2] at hC
   clear Pk Pl e2
   refine ⟨r2,_,rfl,.inl ⟨ag.of hC,λl3 nl3=>⟨kX,λtp vR=>?_⟩⟩⟩
   have sD:=(sC.trans (jg (o:=.tup (ss.map V.int)) nl3)).trans (jg (o:=.tup [.ref q,.ref l3]) vR)
   refine ⟨_,_,Pb (sD _ _ ha) (sD _ _ vQ) (sD _ _ hb),Pb ja (sD _ _ vQ) (by rw [jd (ji ja vR)]; exact ja),j48 _ _,_,rfl,?_⟩
   rw [vP]
   have GD:=GB.trans sD
   have HX:=sD _ _ ha
   have sj:=sD _ _ hb
   have HY:=sD _ _ vQ
   have fD:Fr (λ_=>False) Z5 HB Z5 _:=Fr.same sD
   have PD:Hw _ Z5 cr few a' q b' ss o:=⟨ig fD PB.a.1 PB.a.2,PB.q.fr fD,ig fD PB.b.1 PB.b.2,PB.up,PB.rg,PB.en⟩
   have smD:xp HA _:=sB.trans sD
   generalize upd (upd HC l3 (.tup (ss.map V.int))) tp (.tup [.ref q,.ref l3]) = HD at *
   have BD:=B5.same GD
   have OD:=(S5.same GD).w
   refine vd ⟨_,rfl,_,rfl,_,rfl,_,rfl,be,_,rfl,.inl (ag.of BD.be.1),Z5,cr,few,_,a',q,b',ss,o,rfl,PD,by rw [length_map,<- S5.w.n]; exact io,_,rfl,vd (hN (gQ a To pa W.x cr few fo ho be ro [some (.int sh),some (.int (0 + i)),some (.ref pp),some (.ref q),some (.ref a'),w5,w6]) _ (aJ λN hN=>⟨_,rfl,a',_,1,.ref b',rfl,rfl,aw.of HX,rfl,b',_,rfl,.inr (aw.of sj),_,rfl,_,rfl,_,_,rfl,rfl,_,_,rfl,rfl,_,rfl,?_⟩))⟩
   rw [length_map,decide_eq_false (by omega)]
   refine vd ⟨_,rfl,ho,rfl,⟨_,ag.of BD.ho.1⟩,nY (K:=K) (a:=ho) (xs:=p.hs.map V.int) (λm ys U H'=>∃ v,U = [v,some (.ref q),some (.ref a'),some (.ref W.x)] /\ xp HD H' /\ ys = []) ⟨none,rfl,xp.refl _,rfl⟩ ?_ ?_ ?_⟩
   .rintro m ys U H' _ ⟨v,rfl,s4,rfl⟩
    exact ⟨ag.of (s4 _ _ BD.ho.1),cI⟩
   .rintro m y ys U H' ey ⟨v,rfl,s4,rfl⟩
    obtain ⟨h,hh,rfl⟩:=int_at ey
    obtain ⟨B,ek,km⟩:=vE (Y:=Y5) (h:=h) (by rw [S5.w.h]; exact hh)
    have O4:=(S5.same (GD.trans s4)).w
    have iO:=mG.mp io
    refine ⟨_,rfl,_,rfl,a',_,1,.ref b',rfl,rfl,aw.of (s4 _ _ HX),rfl,b',_,rfl,.inr (aw.of (s4 _ _ sj)),rfl,vq _,_,rfl,W.x,W.dx,_,rfl,O4.o.ob.1,qy,_,rfl,_,rfl,q,_,0,.int o.p,rfl,rfl,aw.of (s4 _ _ HY),rfl,_,rfl,q,_,1,.int o.n,rfl,rfl,aw.of (s4 _ _ HY),rfl,Z5,0,W,Y5,h,B,(o.p,o.n),rfl,O4.o,ek,⟨by show 0 <= o.p; omega,by show o.p < (Y5.n:Int); omega⟩,λv' mJ s5 vu=>⟨_,rfl,mT (vt B (bZ o)),eU o,j4z vu,qU ⟨q,rfl,s5 _ _ (s4 _ _ HY)⟩,j8h _,rfl,_,rfl,?_⟩⟩
    have ev:decide (h ∈ ss) = decide (vt B (bZ o) = some o):=by
     have h1:=sk.j9e km o
     have h2:h ∈ ss ↔ h ∈ jq Y5.bd (za o):=pm.mem_iff
     by_cases z:h ∈ ss
     .rw [decide_eq_true z,decide_eq_true (h1.mpr (h2.mp z))]
     .rw [decide_eq_false z,decide_eq_false λy=>z (h2.mpr (h1.mp y))]
    rw [if_neg (by decide),ya,j6j,ev,decide_eq_true (rfl:V.bl _ = V.bl _)]
    exact vd ⟨_,rfl,s4.trans s5,rfl⟩
   rintro ys U HE ⟨v,rfl,s4,rfl⟩ r4 n4
   refine ⟨cI,λe5 n5=>⟨.lst [],.lst [],?_,fF n5,by rw [bg,cM]; decide,_,rfl,?_⟩⟩
   .rw [ql]
    exact ⟨_,[],rfl,ag.of (by rw [jd (ji ja n5)]; exact ja),by rw [xu]⟩
   rw [vP]
   have sE:=(s4.trans (jg (o:=.lst []) n4)).trans (jg (o:=.lst []) n5)
   have GE:=GD.trans sE
   have Pm:=sE _ _ HX
   have Pn:=sE _ _ sj
   have AN:=smD.trans sE
   generalize upd (upd HE r4 (.lst [])) e5 (.lst []) = HF at sE GE Pm Pn AN
   have Po:HF pp = some (.lst jU):=AN _ _ (sm _ _ h9)
   refine vd (hN (gQ a To pa W.x cr few fo ho be ro [some (.int sh),some (.int (0 + i)),some (.ref pp),some (.ref q),some (.ref a'),w5,w6]) _ ⟨_,rfl,pp,rfl,⟨_,ag.of Po⟩,nF (K:=K) (a:=pp) (xs:=jU) (λm U H'=>∃ v5 v6,U = gQ a To pa W.x cr few fo ho be ro [some (.int sh),some (.int (0 + i)),some (.ref pp),some (.ref q),some (.ref a'),v5,v6] /\ xp HF H') ⟨w5,w6,rfl,xp.refl _⟩ (λm U H' _ ⟨_,_,_,s⟩=>ag.of (s _ _ Po)) ?_ ?_⟩)
   rotate_left
   .rintro U HZ ⟨x5,x6,rfl,s⟩
    exact ⟨_,_,_,_,rfl,(sm.trans AN).trans s⟩
   rintro m y U HG ey ⟨x5,x6,rfl,sG⟩
   obtain ⟨u,eu,q2,rfl,nq2,uV⟩:=qd AM ey
   have Pp:=mem_of_getElem? eu
   have iu:=gn.lo u (fb u Pp).1
   have hul:=of_decide_eq_true (fb u Pp).2
   have GG:=GE.trans sG
   have Ia:=sG _ _ (AN _ _ (sm _ _ uV))
   have haG:=sG _ _ Pm
   have Pq:=sG _ _ Pn
   dsimp only [eO]
   refine aJ λN hN=>⟨_,rfl,a',_,1,.ref b',rfl,rfl,aw.of haG,rfl,b',rfl,⟨_,aw.of Pq⟩,j7a (K:=K) (a:=b') (xs:=ss.map V.int) (λn ys U H'=>∃ v,U = [v,some (.ref q2),some (.ref W.x)] /\ xp HG H' /\ ys = ((ss.take n).filter λx=>decide (x ∈ jq Y5.bd (za u))).map V.int) ⟨none,rfl,xp.refl _,rfl⟩ ?_ ?_ ?_⟩
   .rintro n ys U H' iq ⟨v,rfl,s4,rfl⟩
    refine ⟨aw.of (s4 _ _ Pq),oK ?_⟩
    rw [length_map]
    have:=length_filter_le (λx=>decide (x ∈ jq Y5.bd (za u))) (ss.take n)
    rw [length_take] at this
    have:=i4 o
    omega
   .rintro n y ys U H' Ib ⟨v,rfl,s4,rfl⟩
    obtain ⟨z,ez,rfl⟩:=Pd Ib
    have O4:=(S5.same (GG.trans s4)).w
    refine ⟨_,rfl,_,rfl,W.x,W.dx,_,rfl,O4.o.ob.1,qy,_,rfl,Z5,0,W,Y5,q2,u,rfl,O4.o,s4 _ _ Ia,iu,i4 u,λr5 Pr mJ nr5 s5 h5 Pu _=>⟨r5,_,rfl,.inl (ag.of h5),rfl,vq _,_,rfl,?_⟩⟩
    have ev:decide (z ∈ Pr) = decide (z ∈ jq Y5.bd (za u)):=by
     by_cases y:z ∈ Pr
     .rw [decide_eq_true y,decide_eq_true (Pu.mem_iff.mp y)]
     .rw [decide_eq_false y,decide_eq_false λw=>y (Pu.mem_iff.mpr w)]
    rw [if_neg (by decide),ya,ev,take_snoc ez,filter_append,map_append]
    by_cases y:z ∈ jq Y5.bd (za u)
    .rw [decide_eq_true y]
     refine bM ⟨_,rfl,_,rfl,s4.trans s5,?_⟩
     simp [y]
    .rw [decide_eq_false y]
     refine vd ⟨_,rfl,s4.trans s5,?_⟩
     simp [y]
   rintro ys U HH ⟨v,rfl,s4,rfl⟩ r6 n6
   rw [length_map,take_length] at *
   have bm:=jyw (pm.nodup_iff.mpr (gn.jR o).1) (gn.jR u).1 (λx hx=>HV o x (pm.mem_iff.mp hx)) (HV u) (by have:=B5.cb.1; omega)
   have hm:=Hd (S:=ss.filter λx=>decide (x ∈ jq Y5.bd (za u))) (hs:=p.hs) (ls:=p.ls) ((pm.nodup_iff.mpr (gn.jR o).1).filter _) λx hx=>by rw [<- S5.w.h]; exact (gn.jR o).2 x (pm.mem_iff.mp (mem_filter.mp hx).1)
   have lf:=B5.lf
   have sdl:(ss.filter λx=>decide (x ∈ jq Y5.bd (za u))).length < 64:=lt_of_le_of_lt (length_filter_le _ _) (by rw [Pj]; exact i4 o)
   generalize (ss.filter λx=>decide (x ∈ jq Y5.bd (za u))) = sd at *
   have sH:=s4.trans (jg (o:=.lst (sd.map V.int)) n6)
   refine hN (gQ a To pa W.x cr few fo ho be ro [some (.int sh),some (.int (0 + i)),some (.ref pp),some (.ref q),some (.ref a'),some (.ref q2),some (.ref r6)]) _ (aJ λN hN=>⟨_,rfl,r6,_,rfl,.inl (ag.of ja),_,rfl,_,rfl,cr,few,rfl,λpc Pw=>⟨pc,_,0,.int _,rfl,rfl,aw.of ja,rfl,_,_,rfl,rfl,_,rfl,?_⟩⟩)
   rw [length_map,decide_eq_false (by omega)]
   have sI:=sH.trans (jg (o:=.tup [.int (2 * (cr - few) - cr),.int (2 * (cr - few) - cr - few)]) Pw)
   have Ic:upd (upd HH r6 (.lst (sd.map V.int))) pc (.tup [.int (2 * (cr - few) - cr),.int (2 * (cr - few) - cr - few)]) r6 = some (.lst (sd.map V.int)):=by rw [jd (ji ja Pw)]; exact ja
   generalize upd (upd HH r6 (.lst (sd.map V.int))) pc (.tup [.int (2 * (cr - few) - cr),.int (2 * (cr - few) - cr - few)]) = HI at sI Ic
   have BI:=B5.same (GG.trans sI)
   refine vd (hN (gQ a To pa W.x cr few fo ho be ro [some (.int sh),some (.int (0 + i)),some (.ref pp),some (.ref q),some (.ref a'),some (.ref q2),some (.ref r6)]) _ ⟨_,rfl,r6,rfl,⟨_,ag.of Ic⟩,nY (K:=K) (a:=r6) (xs:=sd.map V.int) (λn ys U H'=>∃ v,U = [v,some (.ref ho)] /\ H' = HI /\ ys = ((sd.take n).filter λx=>decide (x ∈ p.hs)).map V.int) ⟨none,rfl,rfl,rfl⟩ ?_ ?_ ?_⟩)
   .rintro n ys U H' iq ⟨v,rfl,rfl,rfl⟩
    refine ⟨ag.of Ic,oK ?_⟩
    rw [length_map]
    have:=length_filter_le (λx=>decide (x ∈ p.hs)) (sd.take n)
    rw [length_take] at this
    rw [length_map] at iq
    omega
   .rintro n y ys U H' Ib ⟨v,rfl,rfl,rfl⟩
    obtain ⟨z,ez,rfl⟩:=Pd Ib
    refine ⟨_,rfl,_,rfl,ho,_,rfl,.inl (ag.of BI.ho.1),rfl,vq _,_,rfl,?_⟩
    rw [if_neg (by decide),ya,take_snoc ez,filter_append,map_append]
    by_cases y:z ∈ p.hs
    .rw [decide_eq_true y]
     refine bM ⟨_,rfl,_,rfl,rfl,?_⟩
     simp [y]
    .rw [decide_eq_false y]
     refine vd ⟨_,rfl,rfl,?_⟩
     simp [y]
   rintro ys U H' ⟨v,rfl,rfl,rfl⟩ r7 n7
   rw [length_map,take_length] at *
   refine ⟨r7,_,rfl,.inl (ag.of ja),_,rfl,_,rfl,cr,few,rfl,λpd npd=>⟨pd,_,1,.int _,rfl,rfl,aw.of ja,rfl,_,_,rfl,rfl,_,rfl,?_⟩⟩
   rw [length_map,decide_eq_false (by omega)]
   exact vd ⟨_,_,rfl,((sG.trans sI).trans (jg n7)).trans (jg npd)⟩
 .rintro U H4 ⟨Z,Y,v1,v2,v3,v4,v5,v6,rfl,S4,B4,hp⟩
  obtain ⟨pp,vs,ts,rfl,xP,q3,q1,pw⟩:=hp.resolve_left (by decide)
  obtain ⟨L,gn,sk⟩:=S4.w.g
  have z0:=gn.l
  have bl:=gn.sz.bd
  have bne : ∀ x ∈ Y.bd,x.1 ≠ []:=λx hx z=>by
   obtain ⟨o,_,e⟩:=gn.g.b.ks x hx
   rw [e] at z
   cases z
  refine hN (gQ a To pa W.x cr few fo ho be ro [some (.int sh),v1,some (.ref pp),v3,v4,v5,v6]) _ (aJ λN hN=>⟨_,rfl,W.x,W.dx,_,rfl,S4.w.o.ob.1,qy,Z,0,W,Y,rfl,S4.w.o,by omega,gn.g.b.nd,bne,λp5 AO ts5 H5 n5 s5 Ie _ Ig h5=>⟨.inl ⟨rfl,_,ag.of h5⟩,Dw,λtp vR=>?_⟩⟩)
  have l5:AO.length <= 1000:=by
   rw [Paired.length Ig,Ie.length_eq]
   unfold zk
   rw [length_map]
   have:=length_filter_le (λq:List Int × List Int=>decide (Y.en <= (q.2.length:Int))) Y.bd
   omega
  refine ⟨p5,AO,_,rfl,rfl,jg vR _ _ h5,big (by omega),?_⟩
  have s6:xp H4 (upd (upd H5 tp (.tup [.int 0,.int 0,.int 1,.int 1])) p5 (.lst (AO ++ [.ref tp]))):=λb u e=>by
   rw [jd (ji e n5)]
   exact jg vR _ _ (s5 _ _ e)
  generalize upd (upd H5 tp (.tup [.int 0,.int 0,.int 1,.int 1])) p5 (.lst (AO ++ [.ref tp])) = H6 at s6
  have S6:=S4.same s6
  refine hN (gQ a To pa W.x cr few fo ho be ro [some (.int sh),v1,some (.ref pp),v3,v4,v5,v6]) _ ⟨_,rfl,W.x,W.dx,_,rfl,S6.w.o.ob.1,qy,Z,0,W,Y,rfl,S6.w.o,by omega,gn.g.b.nd,bne,λp7 HQ HR H7 n7 s7 Ih HS Ii h7=>?_⟩
  have e7:HR = ts:=O5 Ih HS q1 pw
  subst e7
  have pA:=s6.trans s7
  refine ⟨_,rfl,_,_,AL (eF.at_ Ii) (ag.of h7),AL (eF.at_ (Paired.ub q3 λ_ _ h=>h.same pA)) (ag.of (pA _ _ xP)),O8 _,?_⟩
  rw [vP]
  have S7:=S4.same pA
  have B7:=B4.same pA
  refine ⟨_,rfl,bM ⟨_,rfl,Z,W,Y,40,p,rfl,S7.w,ok,by decide,λr8 ys8 H8 n8 s8 h8 l8'=>⟨r8,ys8,rfl,.inl (ag.of h8),_,rfl,fo,_,rfl,.inl (ag.of (s8 _ _ B7.fo.1)),_,_,rfl,rfl,?_⟩⟩⟩
  rw [length_map]
  dsimp only
  rw [decide_eq_true (by omega)]
  exact k _
end
noncomputable abbrev aN (K:W.Frag)(x:Str)(v:Option Value):Prop:=W.nsIn K mainGlobals x=some v
noncomputable abbrev aF (K:W.Frag)(a:Addr)(x:Str)(v:Option Value):Prop:=W.findIn K (.ref a) x=some v
noncomputable abbrev aL (K:W.Frag)(f:Addr)(n q:Str)(s:Stmt)(oc:Value)(od:Option Addr)(kV dc pm:Value)(an:Option Addr)(cd ct:Value)(sl:Array (Option Value)):Prop:=K.lookup f=some ⟨oc,od,.func (W.fnOf n q (pL s) (gX s) (ju s) .none kV dc pm an cd ct),sl⟩
noncomputable abbrev aC (K:W.Frag)(q:Value)(s:Str):Prop:=W.codeIn K q s=true
noncomputable abbrev aK (K:W.Frag)(f:Addr):Prop:=W.keepIn K (.ref f)=true
noncomputable abbrev aI (K:W.Frag)(f:Addr):Prop:=W.isFn K (.ref f)=true
noncomputable abbrev aR (K:W.Frag)(s:Str)(f:Addr):Prop:=aN K s (some (.ref f))
noncomputable abbrev aG (K:W.Frag)(c:Addr)(s:Str)(f:Addr):Prop:=aF K c s (some (.ref f))
noncomputable abbrev aM (K:W.Frag)(f:Addr)(n:Str)(s:Stmt)(oc:Value)(od:Option Addr)(kV dc pm:Value)(an:Option Addr)(cd ct:Value)(sl:Array (Option Value)):Prop:=aL K f n n s oc od kV dc pm an cd ct sl
set_option maxHeartbeats 4000000 in
set_option autoImplicit true in
set_option relaxedAutoImplicit true in
theorem all_mk {l:W.OpenLaw} {w:World} {K:W.Frag} {h:Heap} {mg:Str -> Option Value} {fa:Addr} (X:K.In h) (G:h.Ns mainGlobals mg) (hfa:mg "law" = some (.ref fa))
 {q2 q3 q4 q5 q6 q7:Value}
 (cm0:aR K "Board" fG)
 (cg0:W.plainGet K fG Str.empty = true) (ch0:W.hasDictIn K fG = true) (co0:W.plainOver K fG = true) (cs0:aF K fG "__setattr__" (some (.builtin "object.__setattr__")))
 (cn0_0:aF K fG "enough" none)
 (cn0_1:aF K fG "signers" none)
 (cm1:aR K "Keeper" cB)
 (cg1:W.plainGet K cB Str.empty = true) (ch1:W.hasDictIn K cB = true) (co1:W.plainOver K cB = true) (cs1:aF K cB "__setattr__" (some (.builtin "object.__setattr__")))
 (cn1_0:aF K cB "held" none)
 (cn1_1:aF K cB "next_numbers" none)
 (cn1_2:aF K cB "done" none)
 (cn1_3:aF K cB "heard" none)
 (cn1_4:aF K cB "unvoted" none)
 (cn1_5:aF K cB "choices" none)
 (cn1_6:aF K cB "waiting" none)
 (cm2:aR K "World" bf)
 (cg2:W.plainGet K bf Str.empty = true) (ch2:W.hasDictIn K bf = true) (co2:W.plainOver K bf = true) (cs2:aF K bf "__setattr__" (some (.builtin "object.__setattr__")))
 (ia2:aF K bf "__class__" (some (.builtin "object.__class__"))) (in2:W.specialIn K (.builtin "object.__class__") "__get__" = some (some (.builtin "getset_descriptor.__get__"))) (it2:W.takesIn K (.builtin "object.__class__") = some true) (im2:W.mroIn K bf (.type "object") = some true) (ik2:W.kitOne K (.ref bf) (.ref bf) = some true)
 (cn2_0:aF K bf "purses" none)
 (cn2_1:aF K bf "total" none)
 (cn2_2:aF K bf "lying" none)
 (cn2_3:aF K bf "cheating" none)
 (cn2_4:aF K bf "keepers" none)
 (cn2_5:aF K bf "board" none)
 (cn2_6:aF K bf "asked" none)
 (cn2_7:aF K bf "on_way" none)
 (cm3:aR K "Book" eK)
 (cg3:W.plainGet K eK Str.empty = true) (ch3:W.hasDictIn K eK = true) (co3:W.plainOver K eK = true) (cs3:aF K eK "__setattr__" (some (.builtin "object.__setattr__")))
 (cn3_0:aF K eK "held" none)
 (cn3_1:aF K eK "next_numbers" none)
 (cn3_2:aF K eK "done" none)
 (xm0:aR K "NoPurse" dO)
 (xm1:aR K "TooMuch" gR)
 (xm2:aR K "NotNow" gS)
 (xm3:aR K "PurseError" mU)
 (xm4:aR K "BadCut" AQ)
 (xm5:aR K "BadText" AR)
 (xm6:aR K "BadPaper" AS)
 (xm7:aR K "NoHouse" AU)
 (xm8:aR K "NoLetter" AV)
 (xm9:aR K "BadNumber" AW)
 (xm10:aR K "BadOrder" lK)
 (xm11:aR K "BadHouses" lN)
 (a0:aR K "is_whole" f0)
 (l0:aM K f0 "is_whole" yK o0 r0 v0 d0 p0 s0 q0 t0 u0)
 (c0:aC K q0 "is_whole") (k0:aK K f0)
 (a1:aR K "is_between" f1)
 (l1:aM K f1 "is_between" yL o1 r1 v1 d1 p1 s1 q1 t1 u1)
 (c1:aC K q1 "is_between") (k1:aK K f1)
 (a2:aR K "is_order" f2)
 (l2:aM K f2 "is_order" yM o2 r2 (.ref kd2) d2 p2 s2 q2 t2 u2)
 (c2:aC K q2 "is_order") (k2:aK K f2)
 (e2:W.nsIn K kd2 "purses" = some (some (.int 8 kt2)))
 (a3:aR K "place_of" f3)
 (l3:aM K f3 "place_of" yN o3 r3 v3 d3 p3 s3 q3 t3 u3)
 (c3:aC K q3 "place_of") (k3:aK K f3)
 (a4:aR K "are_rising" f4)
 (l4:aM K f4 "are_rising" tR o4 r4 v4 d4 p4 s4 q4 t4 u4)
 (c4:aC K q4 "are_rising") (k4:aK K f4)
 (a5:aR K "is_rising_row" f5)
 (l5:aM K f5 "is_rising_row" uv o5 r5 v5 d5 p5 s5 q5 t5 u5)
 (c5:aC K q5 "is_rising_row") (k5:aK K f5)
 (a6:aR K "is_house_count" f6)
 (l6:aM K f6 "is_house_count" gs o6 r6 v6 d6 p6 s6 q6 t6 u6)
 (c6:aC K q6 "is_house_count") (k6:aK K f6)
 (a7:aR K "is_few" f7)
 (l7:aM K f7 "is_few" yO o7 r7 v7 d7 p7 s7 q7 t7 u7)
 (c7:aC K q7 "is_few") (k7:aK K f7)
 (a8:aR K "outnumber" f8)
 (l8:aM K f8 "outnumber" DB o8 r8 v8 d8 p8 s8 q8 t8 u8)
 (c8:aC K q8 "outnumber") (k8:aK K f8)
 (a9:aR K "enough_of" f9)
 (l9:aM K f9 "enough_of" DC o9 r9 v9 d9 p9 s9 q9 t9 u9)
 (c9:aC K q9 "enough_of") (k9:aK K f9)
 (a10:aR K "are_sums" Ij)
 (l10:aM K Ij "are_sums" yP o10 r10 v10 d10 p10 fq q10 DA u10)
 (c10:aC K q10 "are_sums") (k10:aK K Ij)
 (a11:aR K "are_first_sums" Ik)
 (l11:aM K Ik "are_first_sums" gw o11 r11 v11 d11 p11 AJ q11 t11 u11)
 (c11:aC K q11 "are_first_sums") (k11:aK K Ik)
 (a12:aG K dO "__init__" dB)
 (l12:aL K dB "__init__" "NoPurse.__init__" va o12 r12 v12 d12 p12 GW q12 t12 u12)
 (c12:aC K q12 "NoPurse.__init__") (k12:aK K dB)
 (xrn12:yA K dO dB = true) (xd12a:aF K dO "__setattr__" (some (.builtin "object.__setattr__"))) (xd12b:aF K dO "__getattribute__" (some (.builtin "BaseException.__getattribute__"))) (xd12c:aF K dO "__getattr__" none) (xd12d:aF K dO "purse" none)
 (a13:aR K "checked" Il)
 (l13:aM K Il "checked" yQ o13 r13 v13 d13 p13 s13 q13 t13 u13)
 (c13:aC K q13 "checked") (k13:aK K Il)
 (a14:aR K "check_houses" oQ)
 (l14:aM K oQ "check_houses" DD o14 r14 v14 d14 p14 s14 q14 t14 u14)
 (c14:aC K q14 "check_houses") (k14:aK K oQ)
 (a15:aR K "check_purses" lI)
 (l15:aM K lI "check_purses" DE o15 r15 v15 d15 p15 s15 Ie t15 u15)
 (c15:aC K Ie "check_purses") (k15:aK K lI)
 (a16:aR K "check_world" Im)
 (l16:aM K Im "check_world" yR o16 r16 v16 d16 p16 s16 q16 t16 u16)
 (c16:aC K q16 "check_world") (k16:aK K Im)
 (a17:aR K "clashing_places" mQ)
 (l17:aM K mQ "clashing_places" yi o17 r17 v17 d17 p17 s17 Ih t17 u17)
 (c17:aC K Ih "clashing_places") (k17:aK K mQ)
 (a18:aR K "in_common" Io)
 (l18:aM K Io "in_common" yS o18 r18 v18 d18 p18 s18 q18 t18 u18)
 (c18:aC K q18 "in_common") (k18:aK K Io)
 (a19:aG K fG "__init__" AX) (n19:aI K AX)
 (mk19:W.makesIn K fG = true) (mq19:aK K fG)
 (l19:aL K AX "__init__" "Board.__init__" kb o19 r19 v19 d19 p19 s19 q19 t19 u19)
 (c19:aC K q19 "Board.__init__") (k19:aK K AX)
 (a20:aG K fG "is_carried" AY) (n20:aI K AY)
 (l20:aL K AY "is_carried" "Board.is_carried" vb o20 r20 v20 d20 p20 s20 q20 t20 u20)
 (c20:aC K q20 "Board.is_carried") (k20:aK K AY)
 (a21:aG K fG "put" AZ) (n21:aI K AZ)
 (l21:aL K AZ "put" "Board.put" tS o21 r21 v21 d21 p21 s21 q21 t21 u21)
 (c21:aC K q21 "Board.put") (k21:aK K AZ)
 (a22:aG K fG "carried" A0) (n22:aI K A0)
 (l22:aL K A0 "carried" "Board.carried" yT o22 r22 v22 d22 p22 s22 q22 t22 u22)
 (c22:aC K q22 "Board.carried") (k22:aK K A0)
 (a23:aG K fG "houses_for" A1) (n23:aI K A1)
 (l23:aL K A1 "houses_for" "Board.houses_for" y7 o23 r23 v23 d23 p23 s23 q23 t23 u23)
 (c23:aC K q23 "Board.houses_for") (k23:aK K A1)
 (a24:aG K fG "things_of" A3) (n24:aI K A3)
 (l24:aL K A3 "things_of" "Board.things_of" wg o24 r24 v24 d24 p24 s24 q24 t24 u24)
 (c24:aC K q24 "Board.things_of") (k24:aK K A3)
 (a25:aG K eK "__init__" vS) (n25:aI K vS)
 (mk25:W.makesIn K eK = true) (mq25:aK K eK)
 (l25:aL K vS "__init__" "Book.__init__" yU o25 r25 v25 d25 p25 s25 q25 t25 u25)
 (c25:aC K q25 "Book.__init__") (k25:aK K vS)
 (a26:aG K eK "is_past" vT) (n26:aI K vT)
 (l26:aL K vT "is_past" "Book.is_past" yV o26 r26 v26 d26 p26 s26 q26 t26 u26)
 (c26:aC K q26 "Book.is_past") (k26:aK K vT)
 (a27:aG K eK "is_due" vU) (n27:aI K vU)
 (l27:aL K vU "is_due" "Book.is_due" tT o27 r27 v27 d27 p27 s27 q27 t27 u27)
 (c27:aC K q27 "Book.is_due") (k27:aK K vU)
 (a28:aG K eK "settle" vV) (n28:aI K vV)
 (l28:aL K vV "settle" "Book.settle" tU o28 r28 v28 d28 p28 s28 q28 t28 u28)
 (c28:aC K q28 "Book.settle") (k28:aK K vV)
 (a29:aG K cB "__init__" A4) (n29:aI K A4)
 (mk29:W.makesIn K cB = true) (mq29:aK K cB)
 (l29:aL K A4 "__init__" "Keeper.__init__" wq o29 r29 v29 d29 p29 s29 q29 t29 u29)
 (c29:aC K q29 "Keeper.__init__") (k29:aK K A4)
 (a30:aG K cB "left_of" A5) (n30:aI K A5)
 (l30:aL K A5 "left_of" "Keeper.left_of" gy o30 r30 v30 d30 p30 s30 q30 t30 u30)
 (c30:aC K q30 "Keeper.left_of") (k30:aK K A5)
 (a31:aG K cB "give_votes" A6) (n31:aI K A6)
 (l31:aL K A6 "give_votes" "Keeper.give_votes" xh o31 r31 v31 d31 p31 s31 q31 t31 u31)
 (c31:aC K q31 "Keeper.give_votes") (k31:aK K A6)
 (a32:aG K cB "first_due" A7) (n32:aI K A7)
 (l32:aL K A7 "first_due" "Keeper.first_due" xr o32 r32 v32 d32 p32 s32 q32 t32 u32)
 (c32:aC K q32 "Keeper.first_due") (k32:aK K A7)
 (a33:aG K cB "go_on" A8) (n33:aI K A8)
 (l33:aL K A8 "go_on" "Keeper.go_on" gm o33 r33 v33 d33 p33 s33 q33 t33 u33)
 (c33:aC K q33 "Keeper.go_on") (k33:aK K A8)
 (a34:aG K cB "hear" A9) (n34:aI K A9)
 (l34:aL K A9 "hear" "Keeper.hear" yW o34 r34 v34 d34 p34 s34 q34 t34 u34)
 (c34:aC K q34 "Keeper.hear") (k34:aK K A9)
 (a35:aG K cB "take_paper" Ba) (n35:aI K Ba)
 (l35:aL K Ba "take_paper" "Keeper.take_paper" yt o35 r35 v35 d35 p35 s35 Ig t35 u35)
 (c35:aC K Ig "Keeper.take_paper") (k35:aK K Ba)
 (a36:aG K bf "__init__" Bb) (n36:aI K Bb)
 (mk36:W.makesIn K bf = true) (mq36:aK K bf)
 (l36:aL K Bb "__init__" "World.__init__" DF o36 r36 v36 d36 p36 s36 q36 t36 u36)
 (c36:aC K q36 "World.__init__") (k36:aK K Bb)
 (a37:aG K bf "letters" Bc) (n37:aI K Bc)
 (l37:aL K Bc "letters" "World.letters" yX o37 r37 v37 d37 p37 s37 Ii t37 u37)
 (c37:aC K Ii "World.letters") (k37:aK K Bc)
 (a38:aG K bf "honest" Bd) (n38:aI K Bd)
 (l38:aL K Bd "honest" "World.honest" yY o38 r38 v38 d38 p38 s38 q38 t38 u38)
 (c38:aC K q38 "World.honest") (k38:aK K Bd)
 (a39:aG K bf "papers" Be) (n39:aI K Be)
 (l39:aL K Be "papers" "World.papers" yZ o39 r39 v39 d39 p39 s39 q39 t39 u39)
 (c39:aC K q39 "World.papers") (k39:aK K Be)
 (a40:aG K bf "paper" Bf) (n40:aI K Bf)
 (l40:aL K Bf "paper" "World.paper" zA o40 r40 v40 d40 p40 s40 q40 t40 u40)
 (c40:aC K q40 "World.paper") (k40:aK K Bf)
 (a41:aG K bf "keeper_of" Bg) (n41:aI K Bg)
 (l41:aL K Bg "keeper_of" "World.keeper_of" wc o41 r41 v41 d41 p41 s41 q41 t41 u41)
 (c41:aC K q41 "World.keeper_of") (k41:aK K Bg)
 (a42:aG K bf "voted" Bh) (n42:aI K Bh)
 (l42:aL K Bh "voted" "World.voted" ui o42 r42 v42 d42 p42 s42 q42 t42 u42)
 (c42:aC K q42 "World.voted") (k42:aK K Bh)
 (a43:aG K bf "votes_for" Bi) (n43:aI K Bi)
 (l43:aL K Bi "votes_for" "World.votes_for" wo o43 r43 v43 d43 p43 s43 q43 t43 u43)
 (c43:aC K q43 "World.votes_for") (k43:aK K Bi)
 (a44:aG K bf "check_purse" Bj) (n44:aI K Bj)
 (l44:aL K Bj "check_purse" "World.check_purse" ym o44 r44 v44 d44 p44 s44 q44 t44 u44)
 (c44:aC K q44 "World.check_purse") (k44:aK K Bj)
 (a45:aG K bf "check_asker" Bk) (n45:aI K Bk)
 (l45:aL K Bk "check_asker" "World.check_asker" yo o45 r45 v45 d45 p45 s45 q45 t45 u45)
 (c45:aC K q45 "World.check_asker") (k45:aK K Bk)
 (a46:aG K bf "check_order" Bl) (n46:aI K Bl)
 (l46:aL K Bl "check_order" "World.check_order" yr o46 r46 v46 d46 p46 s46 q46 t46 u46)
 (c46:aC K q46 "World.check_order") (k46:aK K Bl)
 (a47:aG K bf "check_liar" Bm) (n47:aI K Bm)
 (l47:aL K Bm "check_liar" "World.check_liar" y9 o47 r47 v47 d47 p47 s47 q47 t47 u47)
 (c47:aC K q47 "World.check_liar") (k47:aK K Bm)
 (a48:aG K bf "write_to_all" Bn) (n48:aI K Bn)
 (l48:aL K Bn "write_to_all" "World.write_to_all" zt o48 r48 v48 d48 p48 s48 q48 t48 u48)
 (c48:aC K q48 "World.write_to_all") (k48:aK K Bn)
 (a49:aG K bf "put_votes" Bo) (n49:aI K Bo)
 (l49:aL K Bo "put_votes" "World.put_votes" yf o49 r49 v49 d49 p49 s49 q49 t49 u49)
 (c49:aC K q49 "World.put_votes") (k49:aK K Bo)
 (a50:aG K bf "ask" Bp) (n50:aI K Bp)
 (l50:aL K Bp "ask" "World.ask" tV o50 r50 v50 d50 p50 s50 q50 t50 u50)
 (c50:aC K q50 "World.ask") (k50:aK K Bp)
 (a51:aG K bf "cheat" Br) (n51:aI K Br)
 (l51:aL K Br "cheat" "World.cheat" zB o51 r51 v51 d51 p51 s51 q51 t51 u51)
 (c51:aC K q51 "World.cheat") (k51:aK K Br)
 (a52:aG K bf "lie" Bs) (n52:aI K Bs)
 (l52:aL K Bs "lie" "World.lie" zC o52 r52 v52 d52 p52 s52 q52 t52 u52)
 (c52:aC K q52 "World.lie") (k52:aK K Bs)
 (a53:aG K bf "show" Bt) (n53:aI K Bt)
 (l53:aL K Bt "show" "World.show" zE o53 r53 v53 d53 p53 s53 q53 t53 u53)
 (c53:aC K q53 "World.show") (k53:aK K Bt)
 (a54:aG K bf "come" Bu) (n54:aI K Bu)
 (l54:aL K Bu "come" "World.come" tW o54 r54 v54 d54 p54 s54 q54 t54 u54)
 (c54:aC K q54 "World.come") (k54:aK K Bu)
 (a55:aR K "false_houses" Ip)
 (l55:aM K Ip "false_houses" gg o55 r55 v55 d55 p55 s55 q55 t55 u55)
 (c55:aC K q55 "false_houses") (k55:aK K Ip)
 (a56:aR K "_law_town" Iq)
 (l56:aM K Iq "_law_town" zF o56 r56 v56 d56 p56 s56 q56 t56 u56)
 (c56:aC K q56 "_law_town") (k56:aK K Iq)
 (a57:aR K "_law_draw" Ir)
 (l57:aM K Ir "_law_draw" tX o57 r57 v57 d57 p57 s57 q57 t57 u57)
 (c57:aC K q57 "_law_draw") (k57:aK K Ir)
 (a58:aR K "_law_pick" Iu)
 (l58:aM K Iu "_law_pick" zG o58 r58 v58 d58 p58 s58 q58 t58 u58)
 (c58:aC K q58 "_law_pick") (k58:aK K Iu)
 (a59:aR K "_law_refusal" Iv)
 (l59:aM K Iv "_law_refusal" gh o59 r59 v59 d59 p59 s59 q59 t59 u59)
 (c59:aC K q59 "_law_refusal") (k59:aK K Iv)
 (a60:aR K "_law_some" Iw)
 (l60:aM K Iw "_law_some" tY o60 r60 v60 d60 p60 s60 q60 t60 u60)
 (c60:aC K q60 "_law_some") (k60:aK K Iw)
 (a61:aR K "_law_world" Iy)
 (l61:aM K Iy "_law_world" tZ o61 r61 v61 d61 p61 s61 q61 t61 u61)
 (c61:aC K q61 "_law_world") (k61:aK K Iy)
 (a62:aR K "_law_told" Iz)
 (l62:aM K Iz "_law_told" uA o62 r62 v62 d62 p62 s62 q62 t62 u62)
 (c62:aC K q62 "_law_told") (k62:aK K Iz)
 (a63:aR K "_law_letter" IA)
 (l63:aM K IA "_law_letter" uB o63 r63 v63 d63 p63 s63 q63 t63 u63)
 (c63:aC K q63 "_law_letter") (k63:aK K IA)
 (a64:aR K "_law_order" IB)
 (l64:aM K IB "_law_order" uC o64 r64 v64 d64 p64 s64 q64 t64 u64)
 (c64:aC K q64 "_law_order") (k64:aK K IB)
 (a65:aR K "_law_go" IC)
 (l65:aM K IC "_law_go" uD o65 r65 v65 d65 p65 s65 q65 t65 u65)
 (c65:aC K q65 "_law_go") (k65:aK K IC)
 (a66:aR K "law" ID)
 (l66:aM K ID "law" uE o66 r66 v66 d66 p66 s66 q66 t66 u66)
 (c66:aC K q66 "law") (k66:aK K ID)
 (ih0:aG K cB "is_due" vU)
 (ih1:aG K cB "is_past" vT)
 (ih2:aG K cB "settle" vV)
 (yp0:W.specialIn K (.ref eK) "__getattribute__" = some (some (.builtin "type.__getattribute__"))) (yr0:W.readsIn K eK (.type "type") = true) (yf0:W.findCls K (.ref eK) (.type "type") "__init__" = some (.val (.ref vS)))
 (hgc0:aN K "MOST_MUCH" (some (.int 1000 gt0)))
 (hgc1:aN K "LAST_NUMBER" (some (.int 99 gt1)))
 (hgc2:aN K "PAPER_LETTER" (some (.str "paper" gt2)))
 (hgc3:aN K "ORDER_LETTER" (some (.str "order" gt3)))
 (hgc4:aN K "MOST_HOUSES" (some (.int 16 gt4)))
 (hgc5:aN K "MOST_FEW" (some (.int 5 gt5)))
 (hgc6:aN K "MOST_FIRST_SUM" (some (.int 1000 gt6)))
 (hgc7:aN K "LEAST_PURSES" (some (.int 2 gt7)))
 (hgc8:aN K "MOST_PURSES" (some (.int 8 gt8)))
 (xg0:aF K dO "__getattribute__" (some (.builtin "BaseException.__getattribute__"))) (xh0:aF K dO "__getattr__" none) (xj0:aF K dO "__class__" (some (.builtin "object.__class__")))
 (xp0:W.mroIn K dO (.type "BaseException") = some true) (xo0:W.mroIn K dO (.type "object") = some true) (xs0:(W.clsIn K dO).isSome = true)
 (xk0:kinds K (.ref dO) [.ref AW,.ref lK,.ref lN,.ref AU,.ref dO,.ref AV,.ref gS,.ref gR,.ref AS,.ref AQ,.ref AR,.ref mU,.type "ValueError"] = [some false,some false,some false,some false,some true,some false,some false,some false,some false,some false,some false,some true,some true])
 (xc0_0:W.kitCls K (.ref dO) (.ref mU) = some true)
 (xr1:W.excIn K gR sF "ValueError.__new__" = true)
 (xg1:aF K gR "__getattribute__" (some (.builtin "BaseException.__getattribute__"))) (xh1:aF K gR "__getattr__" none) (xj1:aF K gR "__class__" (some (.builtin "object.__class__")))
 (xp1:W.mroIn K gR (.type "BaseException") = some true) (xo1:W.mroIn K gR (.type "object") = some true) (xs1:(W.clsIn K gR).isSome = true)
 (xk1:kinds K (.ref gR) [.ref AW,.ref lK,.ref lN,.ref AU,.ref dO,.ref AV,.ref gS,.ref gR,.ref AS,.ref AQ,.ref AR,.ref mU,.type "ValueError"] = [some false,some false,some false,some false,some false,some false,some false,some true,some false,some false,some false,some true,some true])
 (xc1_0:W.kitCls K (.ref gR) (.ref mU) = some true)
 (xr2:W.excIn K gS sF "ValueError.__new__" = true)
 (xg2:aF K gS "__getattribute__" (some (.builtin "BaseException.__getattribute__"))) (xh2:aF K gS "__getattr__" none) (xj2:aF K gS "__class__" (some (.builtin "object.__class__")))
 (xp2:W.mroIn K gS (.type "BaseException") = some true) (xo2:W.mroIn K gS (.type "object") = some true) (xs2:(W.clsIn K gS).isSome = true)
 (xk2:kinds K (.ref gS) [.ref AW,.ref lK,.ref lN,.ref AU,.ref dO,.ref AV,.ref gS,.ref gR,.ref AS,.ref AQ,.ref AR,.ref mU,.type "ValueError"] = [some false,some false,some false,some false,some false,some false,some true,some false,some false,some false,some false,some true,some true])
 (xc2_0:W.kitCls K (.ref gS) (.ref mU) = some true)
 (xb0:W.mroIn K mU (.type "BaseException") = some true)
 (z0:aN K "isinstance" none)
 (z1:aN K "bool" none)
 (z2:aN K "int" none)
 (z3:aN K "len" none)
 (z4:aN K "tuple" none)
 (z5:aN K "sorted" none)
 (z6:aN K "list" none)
 (z7:aN K "sum" none)
 (z8:aN K "max" none)
 (z9:aN K "all" none)
 (z10:aN K "range" none)
 (z11:aN K "ValueError" none)
 (z12:aN K "set" none) :
 ∃ fd:FuncData,(∀ (s:Shared) (v:Value),BindsTo s fd ⟨[v],[]⟩ [("_law_script",v)]) /\ ∀ base:Heap,K.In base -> base.Ns mainGlobals mg -> xm l.prog w K mg base CX0 12 fa fd ["_law_script"] (j0g K):=by
 have T:Txt K mg ⟨f0,_,f1,_,f2,_,f3,_,f4,_,f5,_,f6,_,f7,_,f8,_,f9,_,Ij,_,Ik,_,dB,_,Il,_,oQ,_,lI,_,Im,_,mQ,_,Io,_,AX,_,AY,_,AZ,_,A0,_,A1,_,A3,_,vS,_,vT,_,vU,_,vV,_,A4,_,A5,_,A6,_,A7,_,A8,_,A9,_,Ba,_,Bb,_,Bc,_,Bd,_,Be,_,Bf,_,Bg,_,Bh,_,Bi,_,Bj,_,Bk,_,Bl,_,Bm,_,Bn,_,Bo,_,Bp,_,Br,_,Bs,_,Bt,_,Bu,_,Ip,_,Iq,_,Ir,_,Iu,_,Iv,_,Iw,_,Iy,_,Iz,_,IA,_,IB,_,IC,_,ID,_,fG,cB,bf,eK,dO,gR,gS,mU,AQ,AR,AS,AU,AV,AW,lK,lN⟩:=⟨jj (st:=yK) l0 c0 k0,
W.mg_of X G a0,
cZ (jj (st:=yK) l0 c0 k0),
jj (st:=yL) l1 c1 k1,
W.mg_of X G a1,
hU (jj (st:=yL) l1 c1 k1),
jj (st:=yM) l2 c2 k2,
W.mg_of X G a2,
tM λ_ _ _=>.of_eq rfl,
⟨_,SN e2 rfl rfl rfl rfl rfl rfl rfl (by decide +kernel)⟩,
jj (st:=yN) l3 c3 k3,
W.mg_of X G a3,
cZ (jj (st:=yN) l3 c3 k3),
jj (st:=tR) l4 c4 k4,
W.mg_of X G a4,
cA (jj (st:=tR) l4 c4 k4),
jj (st:=uv) l5 c5 k5,
W.mg_of X G a5,
cA (jj (st:=uv) l5 c5 k5),
jj (st:=gs) l6 c6 k6,
W.mg_of X G a6,
cZ (jj (st:=gs) l6 c6 k6),
jj (st:=yO) l7 c7 k7,
W.mg_of X G a7,
cZ (jj (st:=yO) l7 c7 k7),
jj (st:=DB) l8 c8 k8,
W.mg_of X G a8,
tM λ_ _ _=>.of_eq rfl,
jj (st:=DC) l9 c9 k9,
W.mg_of X G a9,
tM λ_ _ _=>.of_eq rfl,
jj (st:=yP) l10 c10 k10,
W.mg_of X G a10,
cZ (jj (st:=yP) l10 c10 k10),
jj (st:=gw) l11 c11 k11,
W.mg_of X G a11,
cZ (jj (st:=gw) l11 c11 k11),
jj (st:=va) l12 c12 k12,
⟨xrn12,a12,xd12a,xd12b,xd12c,xd12d⟩,
cA (jj (st:=va) l12 c12 k12),
jj (st:=yQ) l13 c13 k13,
W.mg_of X G a13,
⟨λs us ws _ hl=>match us,ws,hl with | [_],[_,_,_],_=>.of_eq rfl,λ{vs us zs ws} r1 r2=>TF r1 r2⟩,
jj (st:=DD) l14 c14 k14,
W.mg_of X G a14,
Wh λ_ _ _ _=>.of_eq rfl,
jj (st:=DE) l15 c15 k15,
W.mg_of X G a15,
tM λ_ _ _=>.of_eq rfl,
jj (st:=yR) l16 c16 k16,
W.mg_of X G a16,
cZ (jj (st:=yR) l16 c16 k16),
jj (st:=yi) l17 c17 k17,
W.mg_of X G a17,
cZ (jj (st:=yi) l17 c17 k17),
jj (st:=yS) l18 c18 k18,
W.mg_of X G a18,
tM λ_ _ _=>.of_eq rfl,
jj (st:=kb) l19 c19 k19,
⟨a19,n19,k19⟩,
⟨mk19,a19,n19,mq19⟩,
cA (jj (st:=kb) l19 c19 k19),
jj (st:=vb) l20 c20 k20,
⟨a20,n20,k20⟩,
cA (jj (st:=vb) l20 c20 k20),
jj (st:=tS) l21 c21 k21,
⟨a21,n21,k21⟩,
hU (jj (st:=tS) l21 c21 k21),
jj (st:=yT) l22 c22 k22,
⟨a22,n22,k22⟩,
cZ (jj (st:=yT) l22 c22 k22),
jj (st:=y7) l23 c23 k23,
⟨a23,n23,k23⟩,
cA (jj (st:=y7) l23 c23 k23),
jj (st:=wg) l24 c24 k24,
⟨a24,n24,k24⟩,
cA (jj (st:=wg) l24 c24 k24),
jj (st:=yU) l25 c25 k25,
⟨a25,n25,k25⟩,
⟨mk25,a25,n25,mq25⟩,
cA (jj (st:=yU) l25 c25 k25),
jj (st:=yV) l26 c26 k26,
⟨a26,n26,k26⟩,
cA (jj (st:=yV) l26 c26 k26),
jj (st:=tT) l27 c27 k27,
⟨a27,n27,k27⟩,
cA (jj (st:=tT) l27 c27 k27),
jj (st:=tU) l28 c28 k28,
⟨a28,n28,k28⟩,
cA (jj (st:=tU) l28 c28 k28),
jj (st:=wq) l29 c29 k29,
⟨a29,n29,k29⟩,
⟨mk29,a29,n29,mq29⟩,
cA (jj (st:=wq) l29 c29 k29),
jj (st:=gy) l30 c30 k30,
⟨a30,n30,k30⟩,
hU (jj (st:=gy) l30 c30 k30),
jj (st:=xh) l31 c31 k31,
⟨a31,n31,k31⟩,
cZ (jj (st:=xh) l31 c31 k31),
jj (st:=xr) l32 c32 k32,
⟨a32,n32,k32⟩,
cZ (jj (st:=xr) l32 c32 k32),
jj (st:=gm) l33 c33 k33,
⟨a33,n33,k33⟩,
cZ (jj (st:=gm) l33 c33 k33),
jj (st:=yW) l34 c34 k34,
⟨a34,n34,k34⟩,
cA (jj (st:=yW) l34 c34 k34),
jj (st:=yt) l35 c35 k35,
⟨a35,n35,k35⟩,
cA (jj (st:=yt) l35 c35 k35),
jj (st:=DF) l36 c36 k36,
⟨a36,n36,k36⟩,
⟨mk36,a36,n36,mq36⟩,
⟨λs us ws _ hl=>match us,ws,hl with | [_,_],[_,_,_,_],_=>.of_eq rfl,λ{vs us zs ws} r1 r2=>V5 r1 r2⟩,
jj (st:=yX) l37 c37 k37,
⟨a37,n37,k37⟩,
cZ (jj (st:=yX) l37 c37 k37),
jj (st:=yY) l38 c38 k38,
⟨a38,n38,k38⟩,
cZ (jj (st:=yY) l38 c38 k38),
jj (st:=yZ) l39 c39 k39,
⟨a39,n39,k39⟩,
cZ (jj (st:=yZ) l39 c39 k39),
jj (st:=zA) l40 c40 k40,
⟨a40,n40,k40⟩,
cA (jj (st:=zA) l40 c40 k40),
jj (st:=wc) l41 c41 k41,
⟨a41,n41,k41⟩,
cA (jj (st:=wc) l41 c41 k41),
jj (st:=ui) l42 c42 k42,
⟨a42,n42,k42⟩,
LI (jj (st:=ui) l42 c42 k42),
jj (st:=wo) l43 c43 k43,
⟨a43,n43,k43⟩,
cA (jj (st:=wo) l43 c43 k43),
jj (st:=ym) l44 c44 k44,
⟨a44,n44,k44⟩,
cA (jj (st:=ym) l44 c44 k44),
jj (st:=yo) l45 c45 k45,
⟨a45,n45,k45⟩,
hU (jj (st:=yo) l45 c45 k45),
jj (st:=yr) l46 c46 k46,
⟨a46,n46,k46⟩,
cA (jj (st:=yr) l46 c46 k46),
jj (st:=y9) l47 c47 k47,
⟨a47,n47,k47⟩,
cA (jj (st:=y9) l47 c47 k47),
jj (st:=zt) l48 c48 k48,
⟨a48,n48,k48⟩,
hU (jj (st:=zt) l48 c48 k48),
jj (st:=yf) l49 c49 k49,
⟨a49,n49,k49⟩,
hU (jj (st:=yf) l49 c49 k49),
jj (st:=tV) l50 c50 k50,
⟨a50,n50,k50⟩,
LI (jj (st:=tV) l50 c50 k50),
jj (st:=zB) l51 c51 k51,
⟨a51,n51,k51⟩,
hU (jj (st:=zB) l51 c51 k51),
jj (st:=zC) l52 c52 k52,
⟨a52,n52,k52⟩,
hU (jj (st:=zC) l52 c52 k52),
jj (st:=zE) l53 c53 k53,
⟨a53,n53,k53⟩,
hU (jj (st:=zE) l53 c53 k53),
jj (st:=tW) l54 c54 k54,
⟨a54,n54,k54⟩,
cA (jj (st:=tW) l54 c54 k54),
jj (st:=gg) l55 c55 k55,
W.mg_of X G a55,
cZ (jj (st:=gg) l55 c55 k55),
jj (st:=zF) l56 c56 k56,
W.mg_of X G a56,
cZ (jj (st:=zF) l56 c56 k56),
jj (st:=tX) l57 c57 k57,
W.mg_of X G a57,
cA (jj (st:=tX) l57 c57 k57),
jj (st:=zG) l58 c58 k58,
W.mg_of X G a58,
cA (jj (st:=zG) l58 c58 k58),
jj (st:=gh) l59 c59 k59,
W.mg_of X G a59,
cZ (jj (st:=gh) l59 c59 k59),
jj (st:=tY) l60 c60 k60,
W.mg_of X G a60,
hU (jj (st:=tY) l60 c60 k60),
jj (st:=tZ) l61 c61 k61,
W.mg_of X G a61,
cZ (jj (st:=tZ) l61 c61 k61),
jj (st:=uA) l62 c62 k62,
W.mg_of X G a62,
Wg (jj (st:=uA) l62 c62 k62),
jj (st:=uB) l63 c63 k63,
W.mg_of X G a63,
cA (jj (st:=uB) l63 c63 k63),
jj (st:=uC) l64 c64 k64,
W.mg_of X G a64,
hU (jj (st:=uC) l64 c64 k64),
jj (st:=uD) l65 c65 k65,
W.mg_of X G a65,
hU (jj (st:=uD) l65 c65 k65),
jj (st:=uE) l66 c66 k66,
W.mg_of X G a66,
cZ (jj (st:=uE) l66 c66 k66),
⟨_,W.mg_of X G hgc0⟩,
⟨_,W.mg_of X G hgc1⟩,
⟨_,W.mg_of X G hgc2⟩,
⟨_,W.mg_of X G hgc3⟩,
⟨_,W.mg_of X G hgc4⟩,
⟨_,W.mg_of X G hgc5⟩,
⟨_,W.mg_of X G hgc6⟩,
⟨_,W.mg_of X G hgc7⟩,
⟨_,W.mg_of X G hgc8⟩,
W.mg_of X G cm0,
⟨cg0,ch0,co0,cs0⟩,
cn0_0,
cn0_1,
W.mg_of X G cm1,
⟨cg1,ch1,co1,cs1⟩,
cn1_0,
cn1_1,
cn1_2,
cn1_3,
cn1_4,
cn1_5,
cn1_6,
W.mg_of X G cm2,
⟨cg2,ch2,co2,cs2⟩,
⟨ia2,in2,it2,im2,ik2⟩,
cn2_0,
cn2_1,
cn2_2,
cn2_3,
cn2_4,
cn2_5,
cn2_6,
cn2_7,
W.mg_of X G cm3,
⟨cg3,ch3,co3,cs3⟩,
cn3_0,
cn3_1,
cn3_2,
⟨ih0,n27,k27⟩,
⟨ih1,n26,k26⟩,
⟨ih2,n28,k28⟩,
⟨yp0,yr0,yf0,k25⟩,
W.mg_of X G xm0,
W.mg_of X G xm1,
W.mg_of X G xm2,
W.mg_of X G xm3,
W.mg_of X G xm4,
W.mg_of X G xm5,
W.mg_of X G xm6,
W.mg_of X G xm7,
W.mg_of X G xm8,
W.mg_of X G xm9,
W.mg_of X G xm10,
W.mg_of X G xm11,
⟨xg0,xh0,xj0,xp0,xo0,xs0⟩,
xk0,
xc0_0,
xr1,
⟨xg1,xh1,xj1,xp1,xo1,xs1⟩,
xk1,
xc1_0,
xr2,
⟨xg2,xh2,xj2,xp2,xo2,xs2⟩,
xk2,
xc2_0,
xb0,
W.mg_none_of X G z0,
W.mg_none_of X G z1,
W.mg_none_of X G z2,
W.mg_none_of X G z3,
W.mg_none_of X G z4,
W.mg_none_of X G z5,
W.mg_none_of X G z6,
W.mg_none_of X G z7,
W.mg_none_of X G z8,
W.mg_none_of X G z9,
W.mg_none_of X G z10,
W.mg_none_of X G z11,
W.mg_none_of X G z12⟩
 have e:=hfa.symm.trans T.Y6
 cases e
 exact ⟨_,λs v=>.of_eq rfl,λbase _ _=>j7e T⟩
end M
namespace PySem.W.Fast
theorem t:True:=⟨⟩
noncomputable def tw2585697628455573193:=t
noncomputable def tw12578191460516451555:=t
noncomputable def tw8180275899793894232:=t
noncomputable def tw11375320765979089039:=t
noncomputable def tw8426011599640435789:=t
noncomputable def tw14791352255309810080:=t
noncomputable def tw10417901977707644328:=t
noncomputable def tw10965387735171480478:=t
noncomputable def tw14157171464847555425:=t
noncomputable def tw6312865882221521168:=t
noncomputable def tw6685512466584756972:=t
noncomputable def tw1228910260229526735:=t
noncomputable def tw4085448659971144526:=t
noncomputable def tw6073097445494699652:=t
noncomputable def tw6448840267882012168:=t
noncomputable def tw17576600004437434890:=t
noncomputable def tw1384161569365793085:=t
noncomputable def tw5811520504353686312:=t
noncomputable def tw8622818647923484697:=t
noncomputable def tw9789545386686313367:=t
noncomputable def tw701713338229870514:=t
noncomputable def tw18276222151686857856:=t
noncomputable def tw14781139843341430061:=t
noncomputable def tw8345887009024803659:=t
noncomputable def tw10174903939240820462:=t
noncomputable def tw13133022944192876732:=t
noncomputable def tw9960227285641173892:=t
noncomputable def tw15078184481314881459:=t
noncomputable def tw16300131661782268605:=t
noncomputable def tw12679418362480350333:=t
noncomputable def tw13957006137806867686:=t
noncomputable def tw5479757316011804503:=t
noncomputable def tw3388903175876559922:=t
noncomputable def tw9572663343475739118:=t
noncomputable def tw3528309854034620349:=t
noncomputable def tw17265518611780639043:=t
noncomputable def tw9545666796193641634:=t
noncomputable def tw1509822766586801748:=t
noncomputable def tw7994293669778806144:=t
noncomputable def tw7390871317341691661:=t
noncomputable def tw16143145033986560056:=t
noncomputable def tw11842839913364028284:=t
noncomputable def tw11331073753994905445:=t
noncomputable def tw794329312827462247:=t
noncomputable def tw5931679081243249452:=t
noncomputable def tw10441265475017871669:=t
noncomputable def tw5691149570298530101:=t
noncomputable def tw16375090282900385274:=t
noncomputable def tw11496638607712671821:=t
noncomputable def tw13056341055110993810:=t
noncomputable def tw13906182589056252629:=t
noncomputable def tw14428693264312500068:=t
noncomputable def tw3445049950970026436:=t
noncomputable def tw16088461141596156433:=t
noncomputable def tw9577272107832576575:=t
noncomputable def tw13226838690820195866:=t
noncomputable def tw6257560295742932055:=t
noncomputable def tw12688672507467219768:=t
noncomputable def tw4593829952149513893:=t
noncomputable def tw4473427054957366972:=t
noncomputable def tw6992137428634716711:=t
noncomputable def tw17736598343580393862:=t
noncomputable def tw2416251938046335923:=t
noncomputable def tw10251159755228405308:=t
noncomputable def tw3308636960100057686:=t
noncomputable def tw1365924393356737937:=t
noncomputable def tw14510472427494131128:=t
noncomputable def tw13418115968384189804:=t
noncomputable def tw13592896063853791212:=t
noncomputable def tw11714140725900411967:=t
noncomputable def tw7483963125647948624:=t
noncomputable def tw9602096837275140452:=t
noncomputable def tw4561009547274296481:=t
noncomputable def tw17757151304566856006:=t
noncomputable def tw1750263225130747348:=t
noncomputable def tw15565741179250151528:=t
noncomputable def tw2304768275098647125:=t
noncomputable def tw1882256602957603295:=t
noncomputable def tw6511084079081825551:=t
noncomputable def tw12323466548573779278:=t
noncomputable def tw18163059578127739783:=t
noncomputable def tw12013580187179950546:=t
noncomputable def tw10298456137636543423:=t
noncomputable def tw13882270080234028294:=t
noncomputable def tw6645432829872098699:=t
noncomputable def tw5691067159923310717:=t
noncomputable def tw4240022874399034444:=t
noncomputable def tw2087781784782183677:=t
noncomputable def tw9637001809488537296:=t
noncomputable def tw17661471599483877816:=t
noncomputable def tw16789242552676339602:=t
noncomputable def tw7135062462048414353:=t
noncomputable def tw17995178736055032968:=t
noncomputable def tw7490734490606013840:=t
noncomputable def tw10352778126320352025:=t
noncomputable def tw7860249181684626656:=t
noncomputable def tw5582579209297772491:=t
noncomputable def tw11990054785179818394:=t
noncomputable def tw13839287039768059722:=t
noncomputable def tw18418006076787500095:=t
noncomputable def tw4555922605924015461:=t
noncomputable def tw15695264531417226068:=t
noncomputable def tw8249982398124173729:=t
noncomputable def tw7501387194409549785:=t
noncomputable def tw16833959924733615258:=t
noncomputable def tw15338166947715009446:=t
noncomputable def tw7682447146882128725:=t
noncomputable def tw10419078573962855827:=t
noncomputable def tw13188795988070313050:=t
noncomputable def tw7106833150926447822:=t
noncomputable def tw12230405708529909801:=t
noncomputable def tw4483458592623903943:=t
noncomputable def tw90927995532125838:=t
noncomputable def tw7692998795979366593:=t
noncomputable def tw15514705892667641296:=t
noncomputable def tw15960156733714468305:=t
noncomputable def tw16571145089590654104:=t
noncomputable def tw17364768803948937329:=t
noncomputable def tw18221659168807381774:=t
noncomputable def tw3117339482441433012:=t
noncomputable def tw416623458242251066:=t
noncomputable def tw3225570536613101796:=t
noncomputable def tw10650847268385336410:=t
noncomputable def tw1057877339440727734:=t
noncomputable def tw2093153165738160297:=t
noncomputable def tw4701973033289774985:=t
noncomputable def tw4508883700068801567:=t
noncomputable def tw17314598666236586987:=t
noncomputable def tw13091618899655721393:=t
noncomputable def tw15953626769727722303:=t
noncomputable def tw6862658300060059185:=t
noncomputable def tw1275621507791495971:=t
noncomputable def tw6316757246881600356:=t
noncomputable def tw3295574231649853518:=t
noncomputable def tw14543445589290081742:=t
noncomputable def tw14828342895881565965:=t
noncomputable def tw9042696320038260474:=t
noncomputable def tw16209634519453296282:=t
noncomputable def tw6270922404324361216:=t
noncomputable def tw9671245908209363413:=t
noncomputable def tw12541318894156280830:=t
noncomputable def tw6955902019396932079:=t
noncomputable def tw12551684983039502782:=t
noncomputable def tw16914361230615084864:=t
noncomputable def tw13127952889371476809:=t
noncomputable def tw12928930764968908637:=t
noncomputable def tw15703644479836256321:=t
noncomputable def tw14518798462490923982:=t
noncomputable def tw11943662123245905745:=t
noncomputable def tw8455315249216090958:=t
noncomputable def tw8160074389612281015:=t
noncomputable def tw1307137324522193858:=t
noncomputable def tw11379000381720012587:=t
noncomputable def tw17142577453907189161:=t
noncomputable def tw5729215331851702371:=t
noncomputable def tw8227050635192784298:=t
noncomputable def tw18431819895719657118:=t
noncomputable def tw15793760538010913445:=t
noncomputable def tw15051084871133112786:=t
noncomputable def tw8437461057058339102:=t
noncomputable def tw3686986581292852611:=t
noncomputable def tw2654327804063932112:=t
noncomputable def tw8699972641564800896:=t
noncomputable def tw2874653606796325373:=t
noncomputable def tw8252297815450087120:=t
noncomputable def tw5089202657880428563:=t
noncomputable def tw18304086943733509737:=t
noncomputable def tw10643969610253960421:=t
noncomputable def tw1165111926330192775:=t
noncomputable def tw8645397337338580668:=t
noncomputable def tw5904683719385782255:=t
noncomputable def tw7247961686300048635:=t
noncomputable def tw1519632951350671574:=t
noncomputable def tw1813321417471654529:=t
noncomputable def tw13563045475713360821:=t
noncomputable def tw15112776955044326356:=t
noncomputable def tw4601899206813248117:=t
noncomputable def tw13982644242357214539:=t
noncomputable def tw9984959952355435600:=t
noncomputable def tw7459923044949869028:=t
noncomputable def tw9004558402633536170:=t
noncomputable def tw17485537067203439950:=t
noncomputable def tw8873529300486034159:=t
noncomputable def tw14800927816235001949:=t
noncomputable def tw686450977283370523:=t
noncomputable def tw18043250197405317739:=t
noncomputable def tw8105037080460042761:=t
noncomputable def tw15548198847746113363:=t
noncomputable def tw3519859414582502710:=t
noncomputable def tw3154447107733100326:=t
noncomputable def tw6503581171077718481:=t
noncomputable def tw3441445001780686215:=t
noncomputable def tw16198212563314130846:=t
noncomputable def tw18029283036702619440:=t
noncomputable def tw450122712281934926:=t
noncomputable def tw9152406235789041728:=t
noncomputable def tw17224678536761515938:=t
noncomputable def tw13802720963559164033:=t
noncomputable def tw9649563630307398215:=t
noncomputable def tw13811974498359498561:=t
noncomputable def tw18257384232304669259:=t
noncomputable def tw5943104544434563025:=t
noncomputable def tw10470260357190283665:=t
noncomputable def tw7727190232102157295:=t
noncomputable def tw13673704635606488078:=t
noncomputable def tw1079774826188620434:=t
noncomputable def tw8719401366791869627:=t
noncomputable def tw1842652595193126051:=t
noncomputable def tw6627452166757314874:=t
noncomputable def tw5133638261630578805:=t
noncomputable def tw16848747956106448637:=t
noncomputable def tw359595808774320035:=t
noncomputable def tw4176830021070438404:=t
noncomputable def tw16481282307290880190:=t
noncomputable def tw8956088270997189573:=t
noncomputable def tw5440599927801087229:=t
noncomputable def tw6784111229501010035:=t
noncomputable def tw8725933827220076023:=t
noncomputable def tw11286159634763143519:=t
noncomputable def tw7578676883383500977:=t
noncomputable def tw8241536383695285193:=t
noncomputable def tw12267768228916421593:=t
noncomputable def tw12863725328384607043:=t
noncomputable def tw9113103232208381505:=t
noncomputable def tw12526019986361646832:=t
noncomputable def tw13119792094966908073:=t
noncomputable def tw1325932506374223421:=t
noncomputable def tw16136643491946862931:=t
noncomputable def tw7257803059647897064:=t
noncomputable def tw15344432804771163005:=t
noncomputable def tw16911241950471001283:=t
noncomputable def tw11642180633251079113:=t
noncomputable def tw5334828930091542921:=t
noncomputable def tw16071440185042974112:=t
noncomputable def tw931100546905965108:=t
noncomputable def tw858183959615405370:=t
noncomputable def tw12027877012226494655:=t
noncomputable def tw16615693930014689576:=t
noncomputable def tw1371505632018269162:=t
noncomputable def tw12918310033124956535:=t
noncomputable def tw15869029272597112274:=t
noncomputable def tw3216999675432572697:=t
noncomputable def tw3402122440884453042:=t
noncomputable def tw9135872891072172563:=t
noncomputable def tw11871133610292991231:=t
noncomputable def tw5753975655638994342:=t
noncomputable def tw15329013867943654253:=t
noncomputable def tw7462942207335776715:=t
noncomputable def tw557666117201405113:=t
noncomputable def tw2974260239742639709:=t
noncomputable def tw13544622548985682596:=t
noncomputable def tw6394533485784588204:=t
noncomputable def tw13415258181812510896:=t
noncomputable def tw4260610547568630797:=t
noncomputable def tw11146722356583617207:=t
noncomputable def tw14299089658444798158:=t
noncomputable def tw10116429576264376055:=t
noncomputable def tw12093095807816921532:=t
noncomputable def tw443957840550610987:=t
noncomputable def tw9908112428325315459:=t
noncomputable def tw6217672435302153712:=t
noncomputable def tw9459616647097849652:=t
noncomputable def tw3554533828924458935:=t
noncomputable def tw13909939238941434239:=t
noncomputable def tw14185088740739269801:=t
noncomputable def tw9856328217983834255:=t
noncomputable def tw5478613885587703968:=t
noncomputable def tw12187878583348418170:=t
noncomputable def tw3098074996585440630:=t
noncomputable def tw11541922302988498044:=t
noncomputable def tw15809040665545981073:=t
noncomputable def tw17498388429775858150:=t
noncomputable def tw18345968320376234931:=t
noncomputable def tw17365146633003916138:=t
noncomputable def tw15322471379648660698:=t
noncomputable def tw546681226870598312:=t
noncomputable def tw10403096258532290798:=t
noncomputable def tw16247346619791086087:=t
noncomputable def tw9836933082719591884:=t
noncomputable def tw1269007443115724472:=t
noncomputable def tw9959454819534196704:=t
noncomputable def tw6771482492752579252:=t
noncomputable def tw15091658186829399299:=t
noncomputable def tw10076363403932895546:=t
noncomputable def tw9880105465025733797:=t
noncomputable def tw6136905297088173469:=t
noncomputable def tw15947905579677284859:=t
noncomputable def tw11586283767810710129:=t
noncomputable def tw16170805828704505973:=t
noncomputable def tw16071432200729290525:=t
noncomputable def tw14386686524391783871:=t
noncomputable def tw14218853614882051487:=t
noncomputable def tw4684850336369642616:=t
noncomputable def tw4702033898697366516:=t
noncomputable def tw6218119216337852549:=t
noncomputable def tw6441077104699503239:=t
noncomputable def tw9257298954730993960:=t
noncomputable def tw5971941802169442965:=t
noncomputable def tw726458300065808433:=t
noncomputable def tw2700593925146121268:=t
noncomputable def tw12719115869315619922:=t
noncomputable def tw17665564164567369051:=t
noncomputable def tw10984498212502860793:=t
noncomputable def tw16873726006039577042:=t
noncomputable def tw10798943555685202419:=t
noncomputable def tw9336174041281954230:=t
noncomputable def tw6941930852697193620:=t
noncomputable def tw10643380160894153370:=t
noncomputable def tw16416714442038972452:=t
noncomputable def tw3361621927085565434:=t
noncomputable def tw12178445792253487402:=t
noncomputable def tw4664826876894791598:=t
noncomputable def tw14319650782783094838:=t
noncomputable def tw7815688882969821756:=t
noncomputable def tw15985673392943611569:=t
noncomputable def tw14759475114681101974:=t
noncomputable def tw5499443680472712547:=t
noncomputable def tw1817421813841360483:=t
noncomputable def tw14788767527885076099:=t
noncomputable def tw4462970871718921561:=t
noncomputable def tw9872834448059470213:=t
noncomputable def tw6728855353295065446:=t
noncomputable def tw15236081572934166129:=t
noncomputable def tw8589868272156095161:=t
noncomputable def tw12189152502389111119:=t
noncomputable def tw4127577134056057687:=t
noncomputable def tw18081463877649070343:=t
noncomputable def tw10284419220771967450:=t
noncomputable def tw1921251399748019285:=t
noncomputable def tw3317357541265972848:=t
noncomputable def tw18045288115110974492:=t
noncomputable def tw14530831193621078603:=t
noncomputable def tw2800375586623796952:=t
noncomputable def tw14100921975485517436:=t
noncomputable def tw2841032261409838008:=t
noncomputable def tw10640391186892761340:=t
noncomputable def tw18275684072323250462:=t
noncomputable def tw5850470185134113819:=t
noncomputable def tw1491365403486278009:=t
noncomputable def tw1218236560386574645:=t
noncomputable def tw10812863244344526300:=t
noncomputable def tw14122457573719376460:=t
noncomputable def tw8115370374414819106:=t
noncomputable def tw6263148022726830987:=t
noncomputable def tw12038506477861192664:=t
noncomputable def tw2090675674525198628:=t
noncomputable def tw14023165130698710024:=t
noncomputable def tw4221430450173298033:=t
noncomputable def tw1812012240875363379:=t
noncomputable def tw15651033475013848430:=t
noncomputable def tw6060085203686176618:=t
noncomputable def tw355336746605647991:=t
noncomputable def tw13375629767631779339:=t
noncomputable def tw17821214178184817860:=t
noncomputable def tw13148269128669675250:=t
noncomputable def tw8738889865568591045:=t
noncomputable def tw5599178988111895069:=t
noncomputable def tw6906164887151083201:=t
noncomputable def tw4693705219641257948:=t
noncomputable def tw1258999610725935939:=t
noncomputable def tw6995655485733222194:=t
noncomputable def tw4541610441360024691:=t
noncomputable def tw5634458853084771502:=t
noncomputable def tw16661616657046248042:=t
noncomputable def tw17395716560588567341:=t
noncomputable def tw14869928732833347370:=t
noncomputable def tw9552262148927360550:=t
noncomputable def tw12710612012636036278:=t
noncomputable def tw1461218518739065726:=t
noncomputable def tw13375060786918525550:=t
noncomputable def tw1743648031367167860:=t
noncomputable def tw4632936161580686968:=t
noncomputable def tw17035197885173509696:=t
noncomputable def tw3586317156518831703:=t
noncomputable def tw8761235174565112193:=t
noncomputable def tw5199580973543187617:=t
noncomputable def tw16901673045076426431:=t
noncomputable def tw11521847908431683618:=t
noncomputable def tw1008131037896686113:=t
noncomputable def tw2603736844184804294:=t
noncomputable def tw17134114137891270771:=t
noncomputable def tw14217514412238456464:=t
noncomputable def tw1599547538252213026:=t
noncomputable def tw8064182765838556769:=t
noncomputable def tw2070378636543381340:=t
noncomputable def tw7007131389344612644:=t
noncomputable def tw5273076170765785568:=t
noncomputable def tw12779436331181890021:=t
noncomputable def tw15433539920490804755:=t
noncomputable def tw8245871806054424744:=t
noncomputable def tw3891540377478377057:=t
noncomputable def tw1606974548351896062:=t
noncomputable def tw10956678068662518493:=t
noncomputable def tw9348287323157689117:=t
noncomputable def tw13897749578826608700:=t
noncomputable def tw17698652054452284079:=t
noncomputable def tw7057679375348588356:=t
noncomputable def tw4663513076018484215:=t
noncomputable def tw16929507483106236747:=t
noncomputable def tw7176417880604117464:=t
noncomputable def tw18430029303708713040:=t
noncomputable def tw8873904088022947069:=t
noncomputable def tw714112155785038904:=t
noncomputable def tw16108032628134024565:=t
noncomputable def tw9075870801051374356:=t
noncomputable def tw3388795813715993187:=t
noncomputable def tw16275386201630373161:=t
noncomputable def tw18190040712925560064:=t
noncomputable def tw14112786029065602324:=t
noncomputable def tw16197090262637999348:=t
noncomputable def tw10729848667814857831:=t
noncomputable def tw2918318637753374350:=t
noncomputable def tw15842419078802634437:=t
noncomputable def tw11717212671122795237:=t
noncomputable def tw8442314547279924782:=t
noncomputable def tw12979627053283364207:=t
noncomputable def tw10512338315109812485:=t
noncomputable def tw7846045755544211363:=t
noncomputable def tw10795679579986485714:=t
noncomputable def tw17410418744944990684:=t
noncomputable def tw13439975738141204940:=t
noncomputable def tw12897691673519359257:=t
noncomputable def tw14887421609032684422:=t
noncomputable def tw15122069508182745788:=t
noncomputable def tw2660438034835844977:=t
noncomputable def tw2769900000916259432:=t
noncomputable def tw16317918433082455022:=t
noncomputable def tw209388347546733504:=t
noncomputable def tw7471016545022538652:=t
noncomputable def tw7792614468368495222:=t
noncomputable def tw16708133869931034210:=t
noncomputable def tw63622793090998950:=t
noncomputable def tw16190539624796679329:=t
noncomputable def tw5552576607941456594:=t
noncomputable def tw3871124621048974773:=t
noncomputable def tw13654864267927473896:=t
noncomputable def tw17416967301167949087:=t
noncomputable def tw4388401074987354012:=t
noncomputable def tw9368745857927096315:=t
noncomputable def tw5871839027560248297:=t
noncomputable def tw11865781304335333993:=t
noncomputable def tw13910903202117841050:=t
noncomputable def tw10156007966534312185:=t
noncomputable def tw4662244818415323173:=t
noncomputable def tw6632574843689708670:=t
noncomputable def tw4828966171068690700:=t
noncomputable def tw17928046749748122944:=t
noncomputable def tw675818081719491391:=t
noncomputable def tw8179544942571874227:=t
noncomputable def tw1850749061044327296:=t
noncomputable def tw14041653530355988414:=t
noncomputable def tw8604860082190828750:=t
noncomputable def tw14205427395603419152:=t
noncomputable def tw717087228225345976:=t
noncomputable def tw14560412659193780303:=t
noncomputable def tw18233094894116392393:=t
noncomputable def tw3526381462931096454:=t
noncomputable def tw12286467322808747997:=t
noncomputable def tw13999250422884607104:=t
noncomputable def tw9181169493232507818:=t
noncomputable def tw13899566539654030283:=t
noncomputable def tw851317699481482203:=t
noncomputable def tw7834835658908475709:=t
noncomputable def tw9794165731057342508:=t
noncomputable def tw15214341741368354965:=t
noncomputable def tw18091019933697807619:=t
noncomputable def tw10424418647974705832:=t
noncomputable def tw14985394649453686078:=t
noncomputable def tw16159821006707627449:=t
noncomputable def tw16532948868317019216:=t
noncomputable def tw7638719675601184353:=t
noncomputable def tw17775448362209418815:=t
noncomputable def tw8873134546284847343:=t
noncomputable def tw8683881501680810182:=t
noncomputable def tw16583052632198230030:=t
noncomputable def tw13571029099401145982:=t
noncomputable def tw2673312167050640094:=t
noncomputable def tw2088219449756500670:=t
noncomputable def tw13199172230745380731:=t
noncomputable def tw14164613667437610731:=t
noncomputable def tw18221068597266609380:=t
noncomputable def tw13787134983943244825:=t
noncomputable def tw14681715576455820693:=t
noncomputable def tw15429182324619308708:=t
noncomputable def tw17450804973171923280:=t
noncomputable def tw17640927727205917417:=t
noncomputable def tw3175336094838242287:=t
noncomputable def tw13138278697242842217:=t
noncomputable def tw13730913353517794084:=t
noncomputable def tw3937914646497092066:=t
noncomputable def tw5615711497434644525:=t
noncomputable def tw9210455596542712026:=t
noncomputable def tw6008774124518034779:=t
noncomputable def tw11146832646261500481:=t
noncomputable def tw5155573704174314758:=t
noncomputable def tw9423550300530064174:=t
noncomputable def tw1835502540410612207:=t
noncomputable def tw16757695813705833585:=t
noncomputable def tw3492981983450413611:=t
noncomputable def tw2522259165939291438:=t
noncomputable def tw17711272504062235443:=t
noncomputable def tw6999337899259515775:=t
noncomputable def tw18288476083117515866:=t
noncomputable def tw11578349278591857503:=t
noncomputable def tw3455904559480705447:=t
noncomputable def tw11550310042710684937:=t
noncomputable def tw7354315394807846134:=t
noncomputable def tw10398006222528284818:=t
noncomputable def tw3065706934346013446:=t
noncomputable def tw17687732631801237860:=t
noncomputable def tw12252271433522068304:=t
noncomputable def tw9413397913491520953:=t
noncomputable def tw18401473664193535683:=t
noncomputable def tw4416520170601058133:=t
noncomputable def tw1027147394745390366:=t
noncomputable def tw7936029667206155022:=t
noncomputable def tw13685544378275056361:=t
noncomputable def tw4563543401829341467:=t
noncomputable def tw16849737526752125783:=t
noncomputable def tw18080360553403578356:=t
noncomputable def tw4497377154715276590:=t
noncomputable def tw2212728289648805635:=t
noncomputable def tw6255891105493719053:=t
noncomputable def tw5908247370240048732:=t
noncomputable def tw2247167352478821776:=t
noncomputable def tw14990687013619212360:=t
noncomputable def tw1306123163764343420:=t
noncomputable def tw17462145307418909253:=t
noncomputable def tw1084692813109373023:=t
noncomputable def tw11686077480325935618:=t
noncomputable def tw4453436203241538265:=t
noncomputable def tw2159172424212079407:=t
noncomputable def tw12496669743421489683:=t
noncomputable def tw15979635848842880452:=t
noncomputable def tw7817920790551521354:=t
noncomputable def tw12249867000116621102:=t
noncomputable def tw5015124636652575876:=t
noncomputable def tw10495135628131068069:=t
noncomputable def tw2065785972426443450:=t
noncomputable def tw12320016984988647872:=t
noncomputable def tw17561909666773129422:=t
noncomputable def tw9744821913971020737:=t
noncomputable def tw1249971482415824049:=t
noncomputable def tw10352375449401655637:=t
noncomputable def tw15839798355762779333:=t
noncomputable def tw17652060026593892110:=t
noncomputable def tw13983304093656987175:=t
noncomputable def tw14528360430820368099:=t
noncomputable def tw4474701752064412441:=t
noncomputable def tw7993745052776880597:=t
noncomputable def tw8940621312953810988:=t
noncomputable def tw1558137683881558998:=t
noncomputable def tw3902672926683081614:=t
noncomputable def tw8488420665180432086:=t
noncomputable def tw15338101460826517008:=t
noncomputable def tw17888074243518417024:=t
noncomputable def tw8769065476693702615:=t
noncomputable def tw4380064988303523890:=t
noncomputable def tw590057127980411986:=t
noncomputable def tw13795233109737757007:=t
noncomputable def tw13241876328005625902:=t
noncomputable def tw16004470780338997519:=t
noncomputable def tw9969247680670855389:=t
noncomputable def tw14043012887514236824:=t
noncomputable def tw6047535610142229224:=t
noncomputable def tw5346833128156377010:=t
noncomputable def tw9284204679256769602:=t
noncomputable def tw8959852779019526661:=t
noncomputable def tw315054342525170447:=t
noncomputable def tw16480069008577275309:=t
noncomputable def tw2716479462776499502:=t
noncomputable def tw9786972708879228851:=t
noncomputable def tw14061697731016082641:=t
noncomputable def tw15272512992063298128:=t
noncomputable def tw13166167174126104489:=t
noncomputable def tw17787213384277940383:=t
noncomputable def tw8593167656179767520:=t
noncomputable def tw870345021432519354:=t
noncomputable def tw3320796999609317101:=t
noncomputable def tw14102115503941438003:=t
noncomputable def tw14281924164774244192:=t
noncomputable def tw2489951319529157229:=t
noncomputable def tw90889544374123435:=t
noncomputable def tw5177965384086744238:=t
noncomputable def tw1744804153044847065:=t
noncomputable def tw12766854653414744763:=t
noncomputable def tw10506638422123029961:=t
noncomputable def tw1361767445541684054:=t
noncomputable def tw12148382860983151315:=t
noncomputable def tw13664475263141510874:=t
noncomputable def tw6113321545461748673:=t
noncomputable def tw13278784138426727344:=t
noncomputable def tw11875926381502219309:=t
noncomputable def tw16663965190406562176:=t
noncomputable def tw8858903338921461569:=t
noncomputable def tw10950167923675477308:=t
noncomputable def tw1251752962770702373:=t
noncomputable def tw2827339993587526849:=t
noncomputable def tw2171964524646063791:=t
noncomputable def tw8645714425009448515:=t
noncomputable def tw17974549474905731505:=t
noncomputable def tw13447075910850289125:=t
noncomputable def tw6121707597430191388:=t
noncomputable def tw9869536888579553244:=t
noncomputable def tw3274599392830727246:=t
noncomputable def tw1163233404204049668:=t
noncomputable def tw17018100420562855641:=t
noncomputable def tw15565609371558561079:=t
noncomputable def tw7434155194509361812:=t
noncomputable def tw13077492085848201310:=t
noncomputable def tw16524738631274565157:=t
noncomputable def tw15521028554157022832:=t
noncomputable def tw14450555141150937436:=t
noncomputable def tw15748093811767152465:=t
noncomputable def tw2376321167654544646:=t
noncomputable def tw14728260910588588692:=t
noncomputable def tw2549591285599331905:=t
noncomputable def tw8901572082975723340:=t
noncomputable def tw7952562544341190252:=t
noncomputable def tw8169388507674644610:=t
noncomputable def tw1646013151310035365:=t
noncomputable def tw1756946745309282748:=t
noncomputable def tw7314666991911499344:=t
noncomputable def tw7558447502514727246:=t
noncomputable def tw13365737627398955416:=t
noncomputable def tw10864401778517074684:=t
noncomputable def tw6785880665182423695:=t
noncomputable def tw14773137375005690426:=t
noncomputable def tw17804158842568464567:=t
noncomputable def tw7834266330460837430:=t
noncomputable def tw14834032924831918231:=t
noncomputable def tw9903093931390982817:=t
noncomputable def tw5162643056835957339:=t
noncomputable def tw2570151944880763619:=t
noncomputable def tw720981816369430430:=t
noncomputable def tw7770871600716310173:=t
noncomputable def tw3293032098123111838:=t
noncomputable def tw14709894100763987174:=t
noncomputable def tw9920658286623147640:=t
noncomputable def tw17778909974399380706:=t
noncomputable def tw11036119675003754774:=t
noncomputable def tw4872028638478426509:=t
noncomputable def tw5549475747722294443:=t
noncomputable def tw917050315704798017:=t
noncomputable def tw17285869189032212209:=t
noncomputable def tw12196722456522006049:=t
noncomputable def tw9962417211785081443:=t
noncomputable def tw11482123676461985127:=t
noncomputable def tw10900729320742426042:=t
noncomputable def tw13072965199292735944:=t
noncomputable def tw18154511444106081027:=t
noncomputable def tw12107816185375170723:=t
noncomputable def tw10710300925278555368:=t
noncomputable def tw3590084184668043783:=t
noncomputable def tw12295176074996287422:=t
noncomputable def tw8249538882099181941:=t
noncomputable def tw12236037123820519093:=t
noncomputable def tw6686173253484032656:=t
noncomputable def tw16347870420229359876:=t
noncomputable def tw14321648783407121452:=t
noncomputable def tw3453947617482034619:=t
noncomputable def tw6320814398505801982:=t
noncomputable def tw15043059242426564787:=t
noncomputable def tw17182655449755188883:=t
noncomputable def tw14933089551763770958:=t
noncomputable def tw9373431939377985120:=t
noncomputable def tw13354408545835142359:=t
noncomputable def tw8757458543128641191:=t
noncomputable def tw8447679929984650166:=t
noncomputable def tw2321711418107588594:=t
noncomputable def tw4794263983651401423:=t
noncomputable def tw8570332860189721160:=t
noncomputable def tw14871056360903628080:=t
noncomputable def tw11082617291467165627:=t
noncomputable def tw17433561061515727087:=t
noncomputable def tw2305683427140041506:=t
noncomputable def tw10242765161528595722:=t
noncomputable def tw18226299448938272489:=t
noncomputable def tw15007494552210353856:=t
noncomputable def tw10228322158513107406:=t
noncomputable def tw13738096595659404464:=t
noncomputable def tw16307197154532625461:=t
noncomputable def tw11226440555113367104:=t
noncomputable def tw14457272145413892218:=t
noncomputable def tw12730287125122447536:=t
noncomputable def tw4444143444502873416:=t
noncomputable def tw6491068668198742206:=t
noncomputable def tw592810126636543732:=t
noncomputable def tw17181030657119125520:=t
noncomputable def tw13179655160660767919:=t
noncomputable def tw13700137140351491175:=t
noncomputable def tw14760839956685734492:=t
noncomputable def tw7863103314403449643:=t
noncomputable def tw4472613836609472268:=t
noncomputable def tw8844185156995897908:=t
noncomputable def tw10242935218985063504:=t
noncomputable def tw9109093440699135317:=t
noncomputable def tw7361501127079530745:=t
noncomputable def tw7646513339877374280:=t
noncomputable def tw9954771556853180928:=t
noncomputable def tw9963856869317191851:=t
noncomputable def tw3891075343136749320:=t
noncomputable def tw6425170478913692707:=t
noncomputable def tw2644236225282761987:=t
noncomputable def tw12414648473079094577:=t
noncomputable def tw17307002710161056009:=t
noncomputable def tw2905390972871413087:=t
noncomputable def tw15278681685939636749:=t
noncomputable def tw10639446542061757050:=t
noncomputable def tw1027197874897086397:=t
noncomputable def tw513658219708015965:=t
noncomputable def tw7223235842164561682:=t
noncomputable def tw4506610929631999592:=t
noncomputable def tw4348889825737809528:=t
noncomputable def tw7566702501109848735:=t
noncomputable def tw5892999259675660287:=t
noncomputable def tw12422724510977349797:=t
noncomputable def tw5912181393919721846:=t
noncomputable def tw10279961982433432558:=t
noncomputable def tw15225873841703605736:=t
noncomputable def tw4905562669815018180:=t
noncomputable def tw1534590482507369368:=t
noncomputable def tw2691672375406469963:=t
noncomputable def tw12516624706419214192:=t
noncomputable def tw3277237385898755858:=t
noncomputable def tw4642762120475768517:=t
noncomputable def tw4847102486923165731:=t
noncomputable def tw1629827593975934778:=t
noncomputable def tw8207178709183450897:=t
noncomputable def tw13652288266737309275:=t
noncomputable def tw9018001520381918242:=t
noncomputable def tw9065821446172687328:=t
noncomputable def tw9922049275981434887:=t
noncomputable def tw10331086140391717198:=t
noncomputable def tw6168590337564939482:=t
noncomputable def tw12551548623901372516:=t
noncomputable def tw7102260743364626248:=t
noncomputable def tw9075016311868318576:=t
noncomputable def tw1929146210585504968:=t
noncomputable def tw11904273259617046222:=t
noncomputable def tw17480108403870496835:=t
noncomputable def tw13327270272987486746:=t
noncomputable def tw2210794069174175964:=t
noncomputable def tw15286821505187084749:=t
noncomputable def tw12224849806829878380:=t
noncomputable def tw6278579146085984137:=t
noncomputable def tw4187066420501422515:=t
noncomputable def tw7272140658281792078:=t
noncomputable def tw3755303711375592000:=t
noncomputable def tw13788302596537650939:=t
noncomputable def tw10331080213756566333:=t
noncomputable def tw15453738468320196578:=t
noncomputable def tw14296637032697186893:=t
noncomputable def tw8000485698289295009:=t
noncomputable def tw12663065711144331878:=t
noncomputable def tw17180889693298088864:=t
noncomputable def tw3072866974945128063:=t
noncomputable def tw2929658723214756269:=t
noncomputable def tw5989685990466509967:=t
noncomputable def tw5764396955418254179:=t
noncomputable def tw13276488922204596913:=t
noncomputable def tw17664168198242087759:=t
noncomputable def tw13155802025143261102:=t
noncomputable def tw17736925661918061447:=t
noncomputable def tw13915880035170669745:=t
noncomputable def tw11056328452154197414:=t
noncomputable def tw416749043776043333:=t
noncomputable def tw4787016712224263599:=t
noncomputable def tw15017886104921152495:=t
noncomputable def tw16716740198201181578:=t
noncomputable def tw8050297354689881202:=t
noncomputable def tw17199362797629116577:=t
noncomputable def tw2299526242355553377:=t
noncomputable def tw16079568908517549037:=t
noncomputable def tw7923221684966598212:=t
noncomputable def tw7728014676650786759:=t
noncomputable def tw10561117123998137817:=t
noncomputable def tw14495759131985453780:=t
noncomputable def tw17708238271776202100:=t
noncomputable def tw10886025391988571072:=t
noncomputable def tw15906619985528156862:=t
noncomputable def tw15573771579947563105:=t
noncomputable def tw10222370649532516823:=t
noncomputable def tw7357033176448016399:=t
noncomputable def tw14729698550114890116:=t
noncomputable def tw5103126668775046419:=t
noncomputable def tw432585309419288933:=t
noncomputable def tw4967487125877626561:=t
noncomputable def tw6039119825786305101:=t
noncomputable def tw9787350797974100597:=t
noncomputable def tw9817191160947179287:=t
noncomputable def tw7722129793261744708:=t
noncomputable def tw16249816988211983037:=t
noncomputable def tw9976727485546761589:=t
noncomputable def tw15701950163730417198:=t
noncomputable def tw14310863044708158983:=t
noncomputable def tw6943788282142023772:=t
noncomputable def tw4641154407796940542:=t
noncomputable def tw232330785793382182:=t
noncomputable def tw12243148646036836051:=t
noncomputable def tw17987703502624728056:=t
noncomputable def tw10953334839968244426:=t
noncomputable def tw11105636802462974216:=t
noncomputable def tw95510045834978720:=t
noncomputable def tw7773051945633789183:=t
noncomputable def tw12882597934126081732:=t
noncomputable def tw3512623116430023506:=t
noncomputable def tw14887732089889085547:=t
noncomputable def tw681161966841843317:=t
noncomputable def tw3533094704460426771:=t
noncomputable def tw10209073821344748642:=t
noncomputable def tw10743349605716318169:=t
noncomputable def tw3180342977582250252:=t
noncomputable def tw16903651703985594102:=t
noncomputable def tw13348103451737812476:=t
noncomputable def tw4280471590442413726:=t
noncomputable def tw10217082236198659696:=t
noncomputable def tw8511863168286912039:=t
noncomputable def tw13929691077520037654:=t
noncomputable def tw13659714272482142207:=t
noncomputable def tw13779359115650686808:=t
noncomputable def tw15058768645893732520:=t
noncomputable def tw8661219488478857411:=t
noncomputable def tw7220264671102378664:=t
noncomputable def tw6970206973696186606:=t
noncomputable def tw15351349942068822106:=t
noncomputable def tw2857464753963225475:=t
noncomputable def tw7909590954307261907:=t
noncomputable def tw10483662970277036291:=t
noncomputable def tw10591119594985708075:=t
noncomputable def tw2337414568677471945:=t
noncomputable def tw11046238279541785745:=t
noncomputable def tw11507092664860348623:=t
noncomputable def tw158826682543001142:=t
noncomputable def tw5655529039699936435:=t
noncomputable def tw12342298525605037167:=t
noncomputable def tw12187129567879027047:=t
noncomputable def tw2734713077541230929:=t
noncomputable def tw3133908150734964395:=t
noncomputable def tw5290499116264003259:=t
noncomputable def tw17233007622404151134:=t
noncomputable def tw13580514436570017436:=t
noncomputable def tw4816745901065626936:=t
noncomputable def tw11454715225192655656:=t
noncomputable def tw4330543437537062793:=t
noncomputable def tw4450517681446399142:=t
noncomputable def tw468441035234943861:=t
noncomputable def tw2086091462786034791:=t
noncomputable def tw3411916025445786140:=t
noncomputable def tw9343717768919157585:=t
noncomputable def tw8401725007030627351:=t
noncomputable def tw923606415082027195:=t
noncomputable def tw8206982088302608995:=t
noncomputable def tw13962712619046498758:=t
noncomputable def tw12309608187883952474:=t
noncomputable def tw17510201596454990742:=t
noncomputable def tw2695302120334859327:=t
noncomputable def tw8436297608147137715:=t
end PySem.W.Fast
open PySem PySem.W PyProof.Rows
set_option maxRecDepth 100000 in
set_option maxHeartbeats 0 in
theorem PySem.Challenge.cw_manypurses_k03_whole_one_paper_holds : PySem.Challenge.rw_manypurses_k03_whole_one_paper.Holds := by
  w_on; o_law; k_head; (case hw=>w_witness2)
  k_fill
  refine L2.j2a (l:=PySem.Challenge.rw_manypurses_k03_whole_one_paper) (n:=63) (k:=12) (x := "_law_script") (CX:=L2.CX0) (sp:=M.j0g) rfl (by decide) rfl ⟨rfl,by decide,by decide⟩ (fun w h Y=>PySem.W.kIn_of Y) ?F ?S ?C
  case F=>
    intro w mg fa h KX G hmg
    refine' M.all_mk KX G hmg ..
    iterate 25 (show _ = _; k_is)
    iterate 2 (show _ = _; kernel_rfl)
    iterate 1 (show _ = _; k_is)
    iterate 1 (show _ = _; kernel_rfl)
    iterate 81 (show _ = _; k_is)
    iterate 1 (show _ = _; kernel_rfl)
    iterate 267 (show _ = _; k_is)
    iterate 3 (show _ = _; kernel_rfl)
    iterate 14 (show _ = _; k_is)
    iterate 4 (show _ = _; kernel_rfl)
    iterate 5 (show _ = _; k_is)
    iterate 4 (show _ = _; kernel_rfl)
    iterate 5 (show _ = _; k_is)
    iterate 3 (show _ = _; kernel_rfl)
    iterate 14 (show _ = _; k_is)
  case S=>exact fun K H a ns hl _ hS=>⟨a,ns,rfl,hS,hl,fun _=>rfl⟩
  case C=>exact fun _ _ _ _ z=>z
