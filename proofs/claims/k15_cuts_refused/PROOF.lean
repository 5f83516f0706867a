import PyProof.Rows.All
import Wide.All
import OpenK.AllK
import Wide.FinOn
import Lean
import PyProof.EqAt
import PyProof.EqKinds
import PyProof.TupleCall
import PyProof.NeKinds
import PySem.Challenge.RW_manypurses_k15_cuts_refused
open List (mem_range filterMap_cons mem_cons_self mem_cons_of_mem mem_cons mem_append getElem_inj getElem?_set_self getElem?_set_ne mem_filterMap mem_append_right size_toArray length_cons map_cons length_map append_nil nodup_cons length_take getElem?_map mem_of_getElem? length_append length_replicate zip_nil_right zip_cons_cons length_nil map_nil length_set all_cons any_cons replicate_succ flatten_cons find?_cons mem_map lookup_cons forIn_cons all_eq_true mem_singleton getElem?_eq_getElem forIn_nil getD_eq_getElem?_getD map_append mem_iff_getElem length_eraseIdx_le length_eq_one_iff map_set mem_map_of_mem take_length length_filter_le)
open Nat (lt_of_lt_of_le lt_irrefl ne_of_lt le_trans le_of_lt ne_of_gt le_refl zero_le lt_succ_self le_succ lt_of_le_of_lt lt_succ_of_lt le_add_right)
set_option Elab.async false
set_option genSizeOf false
set_option genInjectivity false
set_option linter.all false
set_option compiler.extract_closed false
set_option maxRecDepth 100000
noncomputable section
theorem aP (a:True:=by rfl)(b:True:=by decide)(c:True:=by intro _;rfl)(d:True:=by decide+kernel)(e:True:=by first|exact .inl rfl|exact .inr rfl|assumption)(f:True:=by intro vs H Q E h;repeat(first|(obtain⟨rfl,_⟩:=h;rfl)|(obtain⟨_,h⟩:=h)))(g:True:=by exact True.intro)(h:True:=by exact cJ)(i:True:=by first|exact Or.inl rfl|exact Or.inr (Or.inl rfl)|exact Or.inr (Or.inr rfl)):True:=a
def aP1:=aP._auto_1
def aP2:=aP._auto_2
def aP3:=aP._auto_3
def aP4:=aP._auto_4
def aP5:=aP._auto_5
def aP6:=aP._auto_6
def aP7:=aP._auto_7
def aP8:=aP._auto_8
def aP9:=aP._auto_9
namespace L2
open PySem PySem.Spec PyProof.Rows
noncomputable abbrev Key:=Sum Int Str
noncomputable def nB:Key->Value->Bool
 | .inl k,v=>Value.isInt k v
 | .inr x,v=>Value.isStrOf x v
noncomputable def Qa (w:World):Key->Int
 | .inl k=>hashInt k
 | .inr x=>hashStr w x
theorem xw:∀{k:Key}{v:Value},nB k v=true->(∃i t,k=Sum.inl i/\v=Value.int i t)\/(∃x t,k=Sum.inr x/\v=Value.str x t)
 | .inl i,v,h=>by obtain⟨t,e⟩:=Value.isInt_shape (k:=i) (v:=v) h;exact .inl ⟨i,t,rfl,e⟩
 | .inr x,v,h=>by obtain⟨t,e⟩:=Value.isStrOf_shape (x:=x) (v:=v) h;exact .inr ⟨x,t,rfl,e⟩
theorem Qb (i:Int)(t:Tok):nB (.inl i) (.int i t)=true:=by simp[nB,Value.isInt]
theorem Qc (x:Str)(t:Tok):nB (.inr x) (.str x t)=true:=by simp[nB,Value.isStrOf]
theorem Qd (a b:Int):decide ((Sum.inl a:Key)=Sum.inl b)=(a==b):=by
 by_cases e:a=b
 .subst e;simp
 .have h:¬(Sum.inl a:Key)=Sum.inl b:=λq=>e (Sum.inl.inj q);rw[decide_eq_false h];exact(beq_eq_false_iff_ne.mpr e).symm
theorem Qe (a b:Str):decide ((Sum.inr a:Key)=Sum.inr b)=decide (a=b):=by
 by_cases e:a=b
 .subst e;simp
 .have h:¬(Sum.inr a:Key)=Sum.inr b:=λq=>e (Sum.inr.inj q);rw[decide_eq_false h,decide_eq_false e]
theorem Qf (a:Int)(b:Str):decide ((Sum.inl a:Key)=Sum.inr b)=false:=decide_eq_false (λq=>nomatch q)
theorem Qg (a:Str)(b:Int):decide ((Sum.inr a:Key)=Sum.inl b)=false:=decide_eq_false (λq=>nomatch q)
noncomputable def qh (prog:Program)(w:World):PySem.KeyKind prog w Key where
 is:=nB
 hash:=Qa w
 inj:=λv a b ha hb=>by
  rcases xw ha with⟨i,t,rfl,rfl⟩|⟨x,t,rfl,rfl⟩
  .rcases xw hb with⟨j,u,rfl,e⟩|⟨y,u,rfl,e⟩
   .injection e with e1 _;rw[e1]
   .exact nomatch e
  .rcases xw hb with⟨j,u,rfl,e⟩|⟨y,u,rfl,e⟩
   .exact nomatch e
   .injection e with e1 _;rw[e1]
 byValue:=λk v h=>by rcases xw h with⟨i,t,rfl,rfl⟩|⟨x,t,rfl,rfl⟩<;>rfl
 pyHash:=λhv h=>by
  rcases xw hv with⟨i,t,rfl,rfl⟩|⟨x,t,rfl,rfl⟩
  .exact wpAny_pyHash_int h
  .exact wpAny_pyHash_str h
 eqBool:=λhu hv h=>by
  rcases xw hu with⟨i,t,rfl,rfl⟩|⟨x,t,rfl,rfl⟩
  .rcases xw hv with⟨j,u,rfl,rfl⟩|⟨y,u,rfl,rfl⟩
   .rw[Qd]at h;exact wpAny_eqBool_int h
   .rw[Qf]at h;exact SeqAt.EqAt.int_str i t y u _ _ _ _ h
  .rcases xw hv with⟨j,u,rfl,rfl⟩|⟨y,u,rfl,rfl⟩
   .rw[Qg]at h;exact SeqAt.EqAt.str_int x t j u _ _ _ _ h
   .rw[Qe]at h;exact wpAny_eqBool_str h
 «strs»:=λk x t v h=>by
  rcases xw h with⟨i,u,rfl,e⟩|⟨y,u,rfl,e⟩
  .exact nomatch e
  .injection e with e1 _;subst e1;cases v<;>rfl
theorem Iw (prog:Program)(w:World)(i:Int)(t:Tok):(qh prog w).is (.inl i) (.int i t)=true:=Qb i t
theorem Qh (prog:Program)(w:World)(x:Str)(t:Tok):(qh prog w).is (.inr x) (.str x t)=true:=Qc x t
set_option genInjectivity true in
inductive V where
 | aj | bl (b:Bool) | int (i:Int) | str (x:Str) | fu (b:Array UInt8) | mf (b:UInt64) | ref (a:Addr) | ty (n:String)
 deriving DecidableEq
noncomputable def RelV:V->Value->Prop
 | .aj,u=>u=Value.none
 | .bl b,u=>u=Value.bool b
 | .int i,u=>∃t,u=Value.int i t
 | .str x,u=>∃t,u=Value.str x t
 | .fu b,u=>∃t,u=Value.bytes b t
 | .mf b,u=>∃t,u=Value.float b t
 | .ref a,u=>u=Value.ref a
 | .ty n,u=>u=Value.type n
noncomputable abbrev Vals:List V->List Value->Prop:=Paired RelV
theorem Vals.length {xs:List V}{us:List Value}(r:Vals xs us):xs.length=us.length:=Paired.length r
theorem Vals.get:∀{xs:List V}{us:List Value}{i:Nat}{x:V},Vals xs us->xs[i]?=some x->∃u,us[i]?=some u/\RelV x u
 |_,_,_,_,.nil,e=>by simp at e
 |_,_,0,_,.cons r _,e=>by simp at e;subst e;exact⟨_,rfl,r⟩
 |_,_,i+1,x,.cons _ t,e=>by obtain⟨u,h1,h2⟩:=Vals.get (i:=i) (x:=x) t (by simpa using e);exact⟨u,by simpa using h1,h2⟩
theorem Vals.set {x:V}{u:Value}(r:RelV x u):∀{xs:List V}{us:List Value}(i:Nat),Vals xs us->Vals (xs.set i x) (us.set i u)
 |_,_,_,.nil=>.nil
 |_,_,0,.cons _ t=>.cons r t
 |_,_,i+1,.cons q t=>.cons q (Vals.set r i t)
theorem Vals.append:∀{xs ys:List V}{us ws:List Value},Vals xs us->Vals ys ws->Vals (xs++ys) (us++ws)
 |_,_,_,_,.nil,s=>s
 |_,_,_,_,.cons r t,s=>.cons r (Vals.append t s)
theorem Vals.take:∀{xs:List V}{us:List Value}(n:Nat),Vals xs us->Vals (xs.take n) (us.take n)
 |_,_,0,_=>.nil
 |_,_,_+1,.nil=>.nil
 |_,_,n+1,.cons r t=>.cons r (Vals.take n t)
theorem Vals.drop:∀{xs:List V}{us:List Value}(n:Nat),Vals xs us->Vals (xs.drop n) (us.drop n)
 |_,_,0,r=>r
 |_,_,_+1,.nil=>.nil
 |_,_,n+1,.cons _ t=>Vals.drop n t
noncomputable def dI:Option V->Option Value->Prop
 |some v,some u=>RelV v u
 |none,none=>True
 |_,_=>False
noncomputable def KV {B:Type}:List (B×V)->List (B×Value)->Prop:=Paired λ(p:B×V)(q:B×Value)=>p.1=q.1/\RelV p.2 q.2
noncomputable def kV:Key->V
 | .inl i=>.int i
 | .inr x=>.str x
set_option genInjectivity true in
inductive HO where
  | lst (xs:List V)
  | tup (xs:List V)
  | dK (aa:List (Key × V)) | dT (aa:List (List Key × V))
  | set (S:Int -> Bool) (n:Nat)
  | ins (C dx:Addr) (fs:List (Str × V))
  | own (x:Addr)
  | xd (fs:List (Str × V))
  | met (f x:Addr)
  | yD (lo hi:Int)
  | aE (o:Obj) (u:HO)
  | mh (ps:Array Value)
  | ext (φ : Heap -> Prop)
noncomputable abbrev Hp:=Addr->Option HO
noncomputable def upd (H:Hp)(a:Addr)(o:HO):Hp:=λb=>if b=a then some o else H b
theorem ja {H:Hp}{a:Addr}{o:HO}:upd H a o a=some o:=by unfold upd;rw[if_pos rfl]
theorem jd {H:Hp}{a b:Addr}{o:HO}(h:b≠a):upd H a o b=H b:=by unfold upd;rw[if_neg h]
theorem Ci {H:Hp}{a:Addr}{o u:HO}:upd (upd H a o) a u=upd H a u:=by funext b;unfold upd;split<;>rfl
theorem ie {H:Hp}{a b:Addr}{o u:HO}(h:H a=some o)(h':H b=some u)(d:o≠u):a≠b:=by intro e;subst e;rw[h]at h';exact d (Option.some.inj h')
theorem ji {H:Hp}{a b:Addr}{o:HO}(h:H a=some o)(h':H b=none):a≠b:=by intro e;subst e;rw[h]at h';cases h'
section
variable (P:Program)(w:World)
noncomputable def ym (H:Hp)(h:Heap)(a:Addr):HO->Prop
 | .lst xs=>xs.length<=sizeLine/\∃(its:List Value)(n:Nat),Vals xs its/\h.get? a=some {cls:=.type "list",data:=.seq its.toArray n}
 | .tup xs=>xs.length<=sizeLine/\∃its:List Value,Vals xs its/\IsTup h a its.toArray
 | .dK aa=>aa.length<=sizeLine/\(a==sysModules)=false/\∃vs,KV aa vs/\h.DictOf (qh P w) a vs
 | .dT aa=>aa.length<=sizeLine/\(a==sysModules)=false/\∃xs:List (List Key×Addr×Value),Paired (λ(p:List Key×V)(q:List Key×Addr×Value)=>p.1=q.1/\H q.2.1=some (.tup (p.1.map kV))/\RelV p.2 q.2.2) aa xs/\∃o es ep,h.get? a=some o/\o.ExactDict/\o.data= .dict es ep/\es.toList=xs.map (entryOfKey (tupleKind (qh P w)))/\(xs.map (·.1)).Nodup
 | .set S n=>h.SetOf (intKind P w) a S n
 | .ins C dx fs=>H dx=some (.own a)/\fs.length<=1000/\dx≠a/\h.get? a=some (PySem.W.instObj C dx)/\∃mA,h.Ns1 dx mA/\(∀f,dI (fs.lookup f) (mA f))/\PySem.Within mA (fs.map (·.1))
 | .own _=>∃o,h.get? a=some o
 | .xd fs=>∃mA,h.Ns1 a mA/\∀f,dI (fs.lookup f) (mA f)
 | .yD lo hi=>∃t u v,h.get? a=some {cls:=.type "range",data:=.fields #[.int lo t,.int hi u,.int 1 v]}
 | .aE o u=>h.get? a=some o/\ym H h a u
 | .mh ps=>h.get? a=some {cls:=.none,data:=.fields ps}
 | .met f x=>h.get? a=some (PySem.W.methodObj (.ref f) (.ref x))
 | .ext φ=>φ h/\(∃o,h.get? a=some o)/\∀h1 h2:Heap,φ h1->(∀o,h1.get? a=some o->h2.get? a=some o)->φ h2
noncomputable def bJ (H:Hp)(h:Heap):Prop:=∀a o,H a=some o->ym P w H h a o
end
section
variable {P:Program}{w:World}{H H':Hp}{h h':Heap}{a:Addr}{o:HO}
theorem ym.lt (x:ym P w H h a o):a<h.objs.size:=by
 cases o with
 |lst xs=>obtain⟨_,_,_,_,e⟩:=x;exact Heap.lt_size e
 |tup xs=>obtain⟨_,_,_,p⟩:=x;exact p.lt
 |dK aa=>obtain⟨_,_,_,_,o,_,_,e,_⟩:=x;exact Heap.lt_size e
 |dT aa=>obtain⟨_,_,_,_,o,_,_,e,_⟩:=x;exact Heap.lt_size e
 |set S n=>obtain⟨o,_,_,_,e,_⟩:=x;exact Heap.lt_size e
 |ins C dx fs=>obtain⟨_,_,_,e,_⟩:=x;exact Heap.lt_size e
 |own y=>obtain⟨_,e⟩:=x;exact Heap.lt_size e
 |xd fs=>obtain⟨_,⟨_,_,_,e,_⟩,_⟩:=x;exact Heap.lt_size e
 |yD lo hi=>obtain⟨_,_,_,e⟩:=x;exact Heap.lt_size e
 |aE ob u=>obtain⟨e,_⟩:=x;exact Heap.lt_size e
 |mh ps=>exact Heap.lt_size (show h.get? a=some _ from x)
 |met f y=>exact Heap.lt_size (show h.get? a=some _ from x)
 |ext φ=>obtain⟨_,⟨_,e⟩,_⟩:=x;exact Heap.lt_size e
theorem Paired.aQ {α β:Type}{F G:α->β->Prop}:∀{nE:List α}{nF:List β},Paired F nE nF->(∀a b,F a b->G a b)->Paired G nE nF:=λ{nE nF} q f=>by
 induction q with
 |nil=>exact .nil
 |cons r t ih=>exact .cons (f _ _ r) ih
theorem ym.cG (x:ym P w H h a o)(k:∀b u,(b=a\/H b=some (.own a))->h.get? b=some u->h'.get? b=some u)(ho:∀b,H b=some (.own a)->H' b=some (.own a))(ht:∀b xs,H b=some (.tup xs)->H' b=some (.tup xs)):ym P w H' h' a o:=by
 induction o with
 |lst xs=>obtain⟨z,its,n,r,e⟩:=x;exact⟨z,its,n,r,k _ _ (.inl rfl) e⟩
 |tup xs=>obtain⟨z,its,r,ob,e,c⟩:=x;exact⟨z,its,r,ob,k _ _ (.inl rfl) e,c⟩
 |dK aa=>obtain⟨z,y,vs,r,ob,es,ep,e,c⟩:=x;exact⟨z,y,vs,r,ob,es,ep,k _ _ (.inl rfl) e,c⟩
 |dT aa=>obtain⟨z,y,xs,r,ob,es,ep,e,c⟩:=x;exact⟨z,y,xs,Paired.aQ r λp q z=>⟨z.1,ht _ _ z.2.1,z.2.2⟩,ob,es,ep,k _ _ (.inl rfl) e,c⟩
 |set S n=>obtain⟨ob,es,ep,t,e,c⟩:=x;exact⟨ob,es,ep,t,k _ _ (.inl rfl) e,c⟩
 |ins C dx fs=>obtain⟨d,z,ne,e,mA,⟨od,es,ep,e2,c⟩,r⟩:=x;exact⟨ho _ d,z,ne,k _ _ (.inl rfl) e,mA,⟨od,es,ep,k _ _ (.inr d) e2,c⟩,r⟩
 |own y=>obtain⟨ob,e⟩:=x;exact⟨ob,k _ _ (.inl rfl) e⟩
 |xd fs=>obtain⟨mA,⟨od,es,ep,e,c⟩,r⟩:=x;exact⟨mA,⟨od,es,ep,k _ _ (.inl rfl) e,c⟩,r⟩
 |yD lo hi=>obtain⟨t,u,v,e⟩:=x;exact⟨t,u,v,k _ _ (.inl rfl) e⟩
 |aE ob u ih=>obtain⟨e,q⟩:=x;exact⟨k _ _ (.inl rfl) e,ih q⟩
 |mh ps=>have e:h.get? a=some {cls:=.none,data:=.fields ps}:=x;show h'.get? a=some {cls:=.none,data:=.fields ps};exact k a _ (.inl rfl) e
 |met f y=>have e:h.get? a=some (PySem.W.methodObj (.ref f) (.ref y)):=x;show h'.get? a=some (PySem.W.methodObj (.ref f) (.ref y));exact k a _ (.inl rfl) e
 |ext φ=>obtain⟨p,⟨o,e⟩,st⟩:=x;exact⟨st _ _ p λo q=>k _ _ (.inl rfl) q,⟨o,k _ _ (.inl rfl) e⟩,st⟩
theorem bJ.lt (x:bJ P w H h)(e:H a=some o):a<h.objs.size:=(x a o e).lt
theorem bJ.fresh (x:bJ P w H h)(e:h.objs.size<=a):H a=none:=by
 cases q:H a with
 |none=>rfl
 |some u=>exact absurd (lt_of_lt_of_le (x.lt q) e) (lt_irrefl _)
theorem bJ.kept (x:bJ P w H h)(k:∀b u,h.get? b=some u->h'.get? b=some u):bJ P w H h':=λa o e=>(x a o e).cG (λb u _ q=>k b u q) (λ_ q=>q) λ_ _ q=>q
theorem bJ.laid (x:bJ P w H h)(k:∀b u,h.get? b=some u->h'.get? b=some u)(hp:h.objs.size<=a)(new:ym P w (upd H a o) h' a o):bJ P w (upd H a o) h':=λb u e=>by
 have hn:=x.fresh hp;by_cases hb:b=a
 .subst hb;rw[ja]at e;cases e;exact new
 .rw[jd hb]at e;exact(x b u e).cG (λc v _ q=>k c v q) (λc q=>by rw[jd (ji q hn)];exact q) λc xs q=>by rw[jd (ji q hn)];exact q
end
noncomputable def Rd (H:Hp)(a:Addr)(u:HO):Prop:=H a=some u\/∃o,H a=some (.aE o u)
theorem Rd.ok {P:Program}{w:World}{H:Hp}{h:Heap}{a:Addr}{u:HO}(r:Rd H a u)(x:bJ P w H h):ym P w H h a u:=by
 rcases r with r|⟨o,r⟩
 .exact x a u r
 .obtain⟨_,q⟩:=x a _ r;exact q
noncomputable def fw:Option HO->Prop
 |some (.lst _)=>True
 |some (.dK _)=>True
 |some (.dT _)=>True
 |some (.set _ _)=>True
 |some (.ins _ _ _)=>True
 |some (.ext _)=>True
 |_=>False
section
variable {P:Program}{w:World}{H:Hp}{h h':Heap}{x e:Addr}{o':HO}
theorem bJ.write (ok:bJ P w H h)(mu:fw (H x))(he:e=x\/H e=some (.own x))(k:∀b u,b≠e->h.get? b=some u->h'.get? b=some u)(pY:∃u,h'.get? e=some u)(new:ym P w (upd H x o') h' x o'):bJ P w (upd H x o') h':=λb u q=>by
 have sD:∀c y,H c=some (.own y)->c≠x:=λc y r z=>by subst z;rw[r]at mu;exact mu
 have Cj:∀c xs,H c=some (.tup xs)->c≠x:=λc xs r z=>by subst z;rw[r]at mu;exact mu
 by_cases hb:b=x
 .subst hb;rw[ja]at q;cases q;exact new
 .rw[jd hb]at q;by_cases nG:b=e
  .have q':H b=some (.own x):=by
    rcases he with z|z
    .exact absurd (nG.trans z) hb
    .rw[nG];exact z
   rw[q]at q';cases q';obtain⟨v,hv⟩:=pY;exact⟨v,by rw[nG];exact hv⟩
  .refine(ok b u q).cG (λc v hc r=>k c v ?_ r) (λc r=>by rw[jd (sD c b r)];exact r) λc xs r=>by rw[jd (Cj c xs r)];exact r
   rcases hc with rfl|hc
   .exact nG
   .rintro rfl
    rcases he with z|z
    .exact sD c b hc z
    .rw[hc]at z;cases z;exact hb rfl
end
structure Un (fs ex:List Addr)(H H':Hp)(h h':Heap):Prop where
 keep:∀b o,h.get? b=some o->H b=none->b∉fs->b∉ex->h'.get? b=some o
 slot:∀b o,h.get? b=some o->H b=none->b∈fs->b∉ex->∃sl,h'.get? b=some {o with slots:=sl}
 free:∀b o,h.get? b=some o->H b=none->b∉ex->H' b=none
 there:∀b o,h.get? b=some o->b∉ex->∃o',h'.get? b=some o'
 cn:∀b xs,H b=some (.tup xs)->H' b=some (.tup xs)
 dJ:∀b o u,H b=some (.aE o u)->H' b=some (.aE o u)
 eI:∀b ps,H b=some (.mh ps)->∃more,H' b=some (.mh (ps++more))
section
variable {fs fs' ex Iy:List Addr}{H H1 H2:Hp}{h h1 h2 h':Heap}{a x e:Addr}{o:HO}
theorem Un.any (u:Un fs ex H H1 h h1){b:Addr}{ob:Obj}(q:h.get? b=some ob)(n:H b=none)(hx:b∉ex):∃sl,h1.get? b=some {ob with slots:=sl}:=by
 by_cases hb:b∈fs
 .exact u.slot b ob q n hb hx
 .exact⟨ob.slots,u.keep b ob q n hb hx⟩
theorem Un.kept (k:∀b u,h.get? b=some u->h'.get? b=some u):Un fs ex H H h h':=⟨λb ob q _ _ _=>k b ob q,λb ob q _ _ _=>⟨ob.slots,k b ob q⟩,λ_ _ _ n _=>n,λb ob q _=>⟨ob,k b ob q⟩,λ_ _ q=>q,λ_ _ _ q=>q,λ_ ps q=>⟨#[],by rw[q];simp⟩⟩
theorem Un.refl:Un fs ex H H h h:=Un.kept λ_ _ q=>q
theorem Un.laid (k:∀b u,h.get? b=some u->h'.get? b=some u)(hp:h.objs.size<=a)(hn:H a=none):Un fs ex H (upd H a o) h h' where
 keep:=λb u q _ _ _=>k b u q
 slot:=λb u q _ _ _=>⟨u.slots,k b u q⟩
 free:=λb u q n _=>by rw[jd (ne_of_lt (lt_of_lt_of_le (Heap.lt_size q) hp))];exact n
 there:=λb u q _=>⟨u,k b u q⟩
 cn:=λb xs q=>by rw[jd (ji q hn)];exact q
 dJ:=λb u xs q=>by rw[jd (ji q hn)];exact q
 eI:=λb ps q=>⟨#[],by rw[jd (ji q hn),q];simp⟩
theorem Un.write (mu:fw (H x))(he:e=x\/H e=some (.own x))(k:∀b u,b≠e->h.get? b=some u->h'.get? b=some u)(pY:∃u,h'.get? e=some u):Un fs ex H (upd H x o) h h':=by
 have hx:∀b,H b=none->b≠x:=λb n z=>by subst z;rw[n]at mu;exact mu
 have hb:∀b,H b=none->b≠e:=λb n z=>by
  subst z;rcases he with r|r
  .exact hx b n r
  .rw[n]at r;cases r
 have hm:∀b u,H b=some u->¬fw (some u)->b≠x:=λb u q nm z=>by subst z;rw[q]at mu;exact nm mu
 refine⟨λb u q n _ _=>k b u (hb b n) q,λb u q n _ _=>⟨u.slots,k b u (hb b n) q⟩,λb u q n _=>by rw[jd (hx b n)];exact n,λb u q _=>?_,λb xs q=>by rw[jd (hm b _ q λz=>z)];exact q,λb u xs q=>by rw[jd (hm b _ q λz=>z)];exact q,λb ps q=>⟨#[],by rw[jd (hm b _ q λz=>z),q];simp⟩⟩;by_cases nG:b=e
 .subst nG;exact pY
 .exact⟨u,k b u nG q⟩
end
noncomputable def lg (h:Heap)(H:Hp):List Addr:=(List.range h.objs.size).filter λa=>(H a).isSome
noncomputable def lj (h:Heap)(H:Hp):Heap:=PySem.W.hideAll h (lg h H)
theorem Qi (h:Heap)(H:Hp):(lj h H).objs.size=h.objs.size:=PySem.W.hideAll_size _ _
theorem Qj {h:Heap}{H:Hp}{b:Addr}{o:Obj}(e:h.get? b=some o)(n:H b=none):(lj h H).get? b=some o:=PySem.W.hideAll_get _ e λhm=>by have q:(H b).isSome=true:=(List.mem_filter.mp hm).2;rw[n]at q;simp at q
theorem Qk {h:Heap}{H:Hp}{b:Addr}{o:Obj}(e:(lj h H).get? b=some o):h.get? b=some o/\H b=none:=by
 have e':h.get? b=some o:=PySem.W.of_hideAll (lg h H) e;refine⟨e',?_⟩;cases q:H b with
 |none=>rfl
 |some x=>have hm:b∈lg h H:=List.mem_filter.mpr ⟨mem_range.mpr (Heap.lt_size e'),by simp[q]⟩;have z:(lj h H).get? b=none:=PySem.W.hideAll_none (lg h H) hm;rw[z]at e;cases e
structure Mod (K:PySem.W.Frag)(mg:Str->Option Value)(base:Heap):Prop where
 iP:K.In base
 glob:base.Ns mainGlobals mg
 blt:∃mb,base.Ns builtinsNs mb/\∀x:Str,x≠"__name__"->mb x=bootBuiltins x
 nolimit:base.NoLimit
structure Cx where
 prog:Program
 w:World
 K:PySem.W.Frag
 mg:Str->Option Value
 base:Heap
 A:Around
 N:List Str
 au:Shared
 bK:Hp
 env:Env
 outer:List Env
 stack:List Env
 ex:List Addr
 fn:Str->Bool
 calm:Bool
 pn:List (Addr×Obj)
 xe:Value->Shared->Prop
noncomputable def bA (l:List Env):List Addr:=l.filterMap (·.frame)
noncomputable abbrev Cx.fs (X:Cx):List Addr:=bA X.outer
noncomputable def pZ (sc:Scope)(x:Str):Prop:=sc.names.lookup x=some .local\/sc.names.lookup x=some .cell\/sc.names.lookup x=some .free
noncomputable def Loc (sc:Scope)(x:Str):Prop:=sc.names.lookup x=some .local\/sc.names.lookup x=some .cell
noncomputable def Look (env:Env)(h:Heap)(m:Str->Option Value)(x:Str)(u:Value):Prop:=(env.kindOf x=some .local/\m x=some u)\/((env.kindOf x=some .cell\/env.kindOf x=some .free)/\∃c,env.cells.lookup x=some c/\h.IsCell c (some u))
structure Cx.Ok (X:Cx):Prop where
 mod:Mod X.K X.mg X.base
 kind:X.env.scope.kind= .function
 glob:X.env.globals=mainGlobals
 blt:X.env.builtins=builtinsNs
 above:X.au.heap.objs.size<=X.env.locals
 inj:∀x y c,X.env.cells.lookup x=some c->X.env.cells.lookup y=some c->x=y
 has:∀x,(X.env.kindOf x=some .cell\/X.env.kindOf x=some .free)->∃c,X.env.cells.lookup x=some c
 nH:∀x c,X.fn x=true->X.env.cells.lookup x=some c->X.au.heap.objs.size<=c
 hd:X.calm=true->X.A.handled=none
 frames:X.A.frames=some X.stack
 cW:X.stack=X.outer\/(X.stack=X.env::X.outer/\X.env.frame=some X.env.locals)
 yE:∀b∈X.ex,b≠X.env.locals/\∀x c,X.env.cells.lookup x=some c->c≠b
 bs:∀b o,X.base.get? b=some o->X.au.heap.get? b=some o/\X.bK b=none
 jO:X.base.objs.size<=X.au.heap.objs.size
 nI:∀b o,X.base.get? b=some o->b∉X.ex
 qA:∀b∈X.ex,b∉X.fs
 fc:X.au.heap.FunFrames X.base X.outer
 iQ:∀b∈X.fs,X.bK b=none
structure Inv (X:Cx)(pins:List (Addr×Obj))(U:List (Option V))(H:Hp)(s:Shared):Prop where
 ok:X.Ok
 os:s.os=X.au.os
 bare:AllBare s.gens
 base:Un X.fs X.ex X.bK H X.au.heap s.heap
 loc:∃m,s.heap.Ns X.env.locals m/\∀(i:Nat)(x:Str)(v:V),X.N[i]?=some x->U[i]?=some (some v)->pZ X.env.scope x->∃u,RelV v u/\Look X.env s.heap m x u
 cell:∀x c,X.env.cells.lookup x=some c->∃v,s.heap.IsCell c v
 free:H X.env.locals=none
 dM:∀x c,X.env.cells.lookup x=some c->H c=none
 pin:∀p∈X.pn++pins,s.heap.get? p.1=some p.2/\H p.1=none/\p.1≠X.env.locals/\p.1∉X.fs/\∀v,p.2.data≠.cell v
 ag:bJ X.prog X.w H s.heap
 len:U.length=X.N.length
section
variable {X:Cx}{pins:List (Addr×Obj)}{U:List (Option V)}{H H':Hp}{s:Shared}{h':Heap}
theorem Cx.Ok.Ql (ok:X.Ok){b:Addr}{o:Obj}(e:X.base.get? b=some o):b∉X.fs:=λhb=>by have:=(ok.fc.mem hb).1;rw[e]at this;cases this
theorem Inv.bs (I:Inv X pins U H s):∀b o,X.base.get? b=some o->s.heap.get? b=some o/\H b=none:=λb o e=>⟨I.base.keep b o (I.ok.bs b o e).1 (I.ok.bs b o e).2 (I.ok.Ql e) (I.ok.nI b o e),I.base.free b o (I.ok.bs b o e).1 (I.ok.bs b o e).2 (I.ok.nI b o e)⟩
theorem Inv.bk (I:Inv X pins U H s):∀b o,X.base.get? b=some o->s.heap.get? b=some o:=λb o e=>(I.bs b o e).1
theorem Inv.mod (I:Inv X pins U H s):Mod X.K X.mg X.base:=I.ok.mod
theorem Inv.aU (I:Inv X pins U H s):X.K.In s.heap:=I.ok.mod.iP.keeps I.bk
theorem Inv.lt (I:Inv X pins U H s):X.env.locals<s.heap.objs.size:=let⟨_,hn,_⟩:=I.loc;hn.lt
theorem Inv.sz (I:Inv X pins U H s):X.au.heap.objs.size<=s.heap.objs.size:=le_trans I.ok.above (le_of_lt I.lt)
theorem Inv.Iz (I:Inv X pins U H s){a:Addr}(h:s.heap.objs.size<=a):a∉X.fs:=λhb=>by obtain⟨_,o,ho,_⟩:=I.ok.fc.mem hb;exact absurd (lt_of_lt_of_le (Heap.lt_size ho) (le_trans I.sz h)) (lt_irrefl _)
theorem Inv.iR (I:Inv X pins U H s):∀x c,X.env.cells.lookup x=some c->c≠X.env.locals:=λx c e z=>by obtain⟨v,o,ho,hd⟩:=I.cell x c e;obtain⟨m,⟨o',es,ep,aV,aZ,_⟩,_⟩:=I.loc;rw[z,aV]at ho;cases ho;rw[aZ]at hd;cases hd
theorem Inv.fc (I:Inv X pins U H s):s.heap.FunFrames X.base X.outer:=by
 have all:∀(l:List Env),(∀b∈bA l,b∈X.fs)->X.au.heap.FunFrames X.base l->s.heap.FunFrames X.base l:=by
  intro l;induction l with
  |nil=>intro _ _;trivial
  |cons env r ih=>intro hs hl;obtain⟨hk,⟨L,o,hf,hn,ho,hd⟩,hr⟩:=hl;have hL:L∈X.fs:=hs L (by unfold bA;rw[filterMap_cons,hf];exact mem_cons_self);obtain⟨sl,e⟩:=I.base.slot L o ho (I.ok.iQ L hL) hL λz=>I.ok.qA L z hL;exact⟨hk,⟨L,_,hf,hn,e,hd⟩,ih (λb hb=>hs b (by unfold bA;rw[filterMap_cons,hf];exact mem_cons_of_mem _ hb)) hr⟩
 exact all X.outer (λ_ hb=>hb) I.ok.fc
theorem Inv.stack (I:Inv X pins U H s):s.heap.FunFrames X.base X.stack:=by
 rcases I.ok.cW with e|⟨e,hf⟩
 .rw[e];exact I.fc
 .rw[e];obtain⟨m,hn,_⟩:=I.loc;refine .cons (by rw[I.ok.kind];decide) hf hn ?_ I.fc;exact Heap.get?_none_of_le (le_trans I.ok.jO I.ok.above)
theorem Inv.nJ (I:Inv X pins U H s):∀b∈bA X.stack,b∈X.env.locals::X.fs:=λb hb=>by
 rcases I.ok.cW with e|⟨e,hf⟩
 .rw[e]at hb;exact mem_cons_of_mem _ hb
 .rw[e]at hb;unfold bA at hb;rw[filterMap_cons,hf]at hb;exact hb
theorem Inv.yF (I:Inv X pins U H s):∀b∈bA X.stack,H b=none:=λb hb=>by
 rcases mem_cons.mp (I.nJ b hb)with e|hb
 .rw[e];exact I.free
 .obtain⟨_,o,ho,_⟩:=I.ok.fc.mem hb;exact I.base.free b o ho (I.ok.iQ b hb) λz=>I.ok.qA b z hb
theorem Inv.step {g':Array GenState}{t':Nat}{d':Drawn}{ch:List Addr}(I:Inv X pins U H s)(ef:∀b∈ch,(b∈X.ex\/X.au.heap.objs.size<=b)/\b≠X.env.locals/\(∀x c,X.env.cells.lookup x=some c->c≠b)/\∀p∈X.pn++pins,p.1≠b)(keep:∀b o,b≠X.env.locals->b∉X.fs->b∉ch->s.heap.get? b=some o->H b=none->h'.get? b=some o)(slot:∀b o,b≠X.env.locals->b∈X.fs->b∉ch->s.heap.get? b=some o->H b=none->∃sl,h'.get? b=some {o with slots:=sl})(free:∀b o,b∉ch->s.heap.get? b=some o->H b=none->H' b=none)(there:∀b o,b∉ch->s.heap.get? b=some o->∃o',h'.get? b=some o')(cn:∀b xs,H b=some (.tup xs)->H' b=some (.tup xs))(dJ:∀b o u,H b=some (.aE o u)->H' b=some (.aE o u))(eI:∀b ps,H b=some (.mh ps)->∃more,H' b=some (.mh (ps++more)))(ns:∀m,s.heap.Ns X.env.locals m->h'.Ns X.env.locals m)(ag:bJ X.prog X.w H' h')(hg:AllBare g'):
  Inv X pins U H' {s with heap:=h',gens:=g',drawn:=d',toks:=t'}:=by
 have nK:∀b o,X.au.heap.get? b=some o->b≠X.env.locals:=λb o e=>ne_of_lt (lt_of_lt_of_le (Heap.lt_size e) I.ok.above);have gM:∀b o,X.au.heap.get? b=some o->b∉X.ex->b∉ch:=λb o e hx hb=>by
  rcases(ef b hb).1 with z|z
  .exact hx z
  .exact absurd (lt_of_lt_of_le (Heap.lt_size e) z) (lt_irrefl _)
 have cellK:∀x c,X.env.cells.lookup x=some c->∀v,s.heap.IsCell c v->h'.IsCell c v:=λx c e v ⟨o,ho,hd⟩=>by
  have jP:c∉ch:=λz=>(ef c z).2.2.1 x c e rfl;by_cases hc:c∈X.fs
  .obtain⟨sl,q⟩:=slot c o (I.iR x c e) hc jP ho (I.dM x c e);exact⟨_,q,hd⟩
  .exact⟨o,keep c o (I.iR x c e) hc jP ho (I.dM x c e),hd⟩
 refine⟨I.ok,I.os,hg,⟨λb o e n hb hx=>?_,λb o e n hb hx=>?_,λb o e n hx=>?_,λb o e hx=>?_,λb xs e=>cn b xs (I.base.cn b xs e),λb o xs e=>dJ b o xs (I.base.dJ b o xs e),λb ps e=>?_⟩,?_,λx c e=>?_,?_,λx c e=>?_,λp hp=>?_,ag,I.len⟩
 .exact keep b o (nK b o e) hb (gM b o e hx) (I.base.keep b o e n hb hx) (I.base.free b o e n hx)
 .obtain⟨sl,e1⟩:=I.base.slot b o e n hb hx;obtain⟨nM,e2⟩:=slot b _ (nK b o e) hb (gM b o e hx) e1 (I.base.free b o e n hx);exact⟨nM,e2⟩
 .obtain⟨o',e1⟩:=I.base.there b o e hx;exact free b o' (gM b o e hx) e1 (I.base.free b o e n hx)
 .obtain⟨o',e1⟩:=I.base.there b o e hx;exact there b o' (gM b o e hx) e1
 .obtain⟨m1,e1⟩:=I.base.eI b ps e;obtain⟨m2,e2⟩:=eI b _ e1;exact⟨m1++m2,by rw[e2,Array.append_assoc]⟩
 .obtain⟨m,hn,hl⟩:=I.loc;refine⟨m,ns m hn,λi x v e1 e2 e3=>?_⟩;obtain⟨u,r,l⟩:=hl i x v e1 e2 e3;refine⟨u,r,?_⟩;rcases l with l|⟨k,c,e,z⟩
  .exact .inl l
  .exact .inr ⟨k,c,e,cellK x c e _ z⟩
 .obtain⟨v,z⟩:=I.cell x c e;exact⟨v,cellK x c e v z⟩
 .obtain⟨m,⟨o,_,_,ho,_⟩,_⟩:=I.loc;exact free _ o (λz=>(ef _ z).2.1 rfl) ho I.free
 .obtain⟨v,o,ho,hd⟩:=I.cell x c e;exact free c o (λz=>(ef c z).2.2.1 x c e rfl) ho (I.dM x c e)
 .obtain⟨e,n,ne,nf,d⟩:=I.pin p hp;have jP:p.1∉ch:=λz=>(ef p.1 z).2.2.2 p hp rfl;exact⟨keep p.1 p.2 ne nf jP e n,free p.1 p.2 jP e n,ne,nf,d⟩
theorem Inv.un {t':Nat}(I:Inv X pins U H s)(u:Un X.fs [] H H' s.heap h')(ag:bJ X.prog X.w H' h'):Inv X pins U H' {s with heap:=h',toks:=t'}:=by
 obtain⟨m,⟨o,es,ep,ho,r⟩,_⟩:=id I.loc;obtain⟨sl,hL⟩:=u.any ho I.free (by simp);exact I.step (g':=s.gens) (d':=s.drawn) (ch:=[]) (λ_ z=>nomatch z) (λb o _ hb _ e n=>u.keep b o e n hb (by simp)) (λb o _ hb _ e n=>u.slot b o e n hb (by simp)) (λb o _ e n=>u.free b o e n (by simp)) (λb o _ e=>u.there b o e (by simp)) u.cn u.dJ u.eI (λm' hm=>by obtain⟨o',fA,dN,aV,r'⟩:=hm;rw[ho]at aV;cases aV;exact⟨_,fA,dN,hL,r'⟩) ag I.bare
theorem Inv.call {g':Array GenState}{t':Nat}{d':Drawn}{ch:List Addr}(I:Inv X pins U H s)(u:Un (bA X.stack) ch H H' s.heap h')(ag:bJ X.prog X.w H' h')(hg:AllBare g')(ef:∀b∈ch,(b∈X.ex\/X.au.heap.objs.size<=b)/\b≠X.env.locals/\(∀x c,X.env.cells.lookup x=some c->c≠b)/\∀p∈X.pn++pins,p.1≠b):
  Inv X pins U H' {s with heap:=h',gens:=g',drawn:=d',toks:=t'}:=by
 obtain⟨m,⟨o,es,ep,ho,r⟩,_⟩:=id I.loc;obtain⟨sl,hL⟩:=u.any ho I.free λz=>(ef _ z).2.1 rfl;exact I.step (ch:=ch) ef (λb o hL hb hc e n=>u.keep b o e n (λz=>(mem_cons.mp (I.nJ b z)).elim hL hb) hc) (λb o _ _ hc e n=>u.any e n hc) (λb o hc e n=>u.free b o e n hc) (λb o hc e=>u.there b o e hc) u.cn u.dJ u.eI (λm' hm=>by obtain⟨o',fA,dN,aV,r'⟩:=hm;rw[ho]at aV;cases aV;exact⟨_,fA,dN,hL,r'⟩) ag hg
theorem Inv.turned {t':Nat}{it:Addr}(I:Inv X pins U H s)(k:∀b o,b≠it->s.heap.get? b=some o->h'.get? b=some o)(hn:H it=none)(hL:it≠X.env.locals)(h1:it∈X.ex\/X.au.heap.objs.size<=it)(h2:∀x c,X.env.cells.lookup x=some c->c≠it)(h3:∀p∈X.pn++pins,p.1≠it):Inv X pins U H {s with heap:=h',toks:=t'}:=by
 have IA:∀b u,H b=some u->b≠it:=λb u e z=>by rw[z,hn]at e;cases e
 refine I.step (g':=s.gens) (d':=s.drawn) (ch:=[it]) (λb hb=>?_) (λb o _ _ hc e _=>k b o (λz=>hc (by simp[z])) e) (λb o _ _ hc e _=>⟨o.slots,k b o (λz=>hc (by simp[z])) e⟩) (λ_ _ _ _ n=>n) (λb o hc e=>⟨o,k b o (λz=>hc (by simp[z])) e⟩) (λ_ _ e=>e) (λ_ _ _ e=>e) (λb ps e=>⟨#[],by rw[e];simp⟩) (λm hm=>?_) (λb u e=>?_) I.bare
 .have e:b=it:=by simpa using hb
  subst e;exact⟨h1,hL,h2,h3⟩
 .obtain⟨o,es,ep,ho,r⟩:=hm;exact⟨o,es,ep,k _ o (Ne.symm hL) ho,r⟩
 .refine(I.ag b u e).cG (λc v hc q=>k c v ?_ q) (λ_ q=>q) λ_ _ q=>q;rcases hc with z|z
  .rw[z];exact IA b u e
  .exact IA c _ z
theorem Inv.tok (I:Inv X pins U H s)(t:Nat):Inv X pins U H {s with toks:=t}:=I.un (h':=s.heap) (t':=t) Un.refl I.ag
theorem Inv.kept {t':Nat}(I:Inv X pins U H s)(k:∀b u,s.heap.get? b=some u->h'.get? b=some u):Inv X pins U H {s with heap:=h',toks:=t'}:=I.un (Un.kept k) (I.ag.kept k)
theorem Inv.laid {a:Addr}{o:HO}{t':Nat}(I:Inv X pins U H s)(k:∀b u,s.heap.get? b=some u->h'.get? b=some u)(hp:s.heap.objs.size<=a)(new:ym X.prog X.w (upd H a o) h' a o):Inv X pins U (upd H a o) {s with heap:=h',toks:=t'}:=I.un (Un.laid k hp (I.ag.fresh hp)) (I.ag.laid k hp new)
theorem Inv.write {x e:Addr}{o:HO}{t':Nat}(I:Inv X pins U H s)(mu:fw (H x))(he:e=x\/H e=some (.own x))(k:∀b u,b≠e->s.heap.get? b=some u->h'.get? b=some u)(pY:∃u,h'.get? e=some u)(new:ym X.prog X.w (upd H x o) h' x o):Inv X pins U (upd H x o) {s with heap:=h',toks:=t'}:=I.un (Un.write mu he k pY) (I.ag.write mu he k pY new)
theorem Inv.yG {bP:List (Addr×Obj)}(I:Inv X pins U H s)(h:∀p∈bP,s.heap.get? p.1=some p.2/\H p.1=none/\p.1≠X.env.locals/\p.1∉X.fs/\∀v,p.2.data≠.cell v):Inv X bP U H s:=⟨I.ok,I.os,I.bare,I.base,I.loc,I.cell,I.free,I.dM,λp hp=>(mem_append.mp hp).elim (λz=>I.pin p (List.mem_append_left _ z)) (h p),I.ag,I.len⟩
theorem Ck {N:List Str}(hN:N.Nodup){i j:Nat}{x:Str}(a:N[i]?=some x)(b:N[j]?=some x):i=j:=by obtain⟨h1,e1⟩:=List.getElem?_eq_some_iff.mp a;obtain⟨h2,e2⟩:=List.getElem?_eq_some_iff.mp b;exact(getElem_inj hN).mp (e1.trans e2.symm)
theorem Qm {M:Model}{A:Around}{E:Value->Shared->Prop}{i:Nat}{x:Str}{v:V}{u:Value}{Q:Unit->Shared->Prop}(I:Inv X pins U H s)(hN:X.N.Nodup)(hi:X.N[i]?=some x)(hx:Loc X.env.scope x)(r:RelV v u)(h:∀s',Inv X pins (U.set i (some v)) H s'->(∃a,Heap.SameBut a s.heap s'.heap/\(a=X.env.locals\/X.env.cells.lookup x=some a))->Q () s')(hf:autoParam (X.fn x=true\/X.env.scope.names.lookup x=some .local) aP5):wpAny M A (storeName X.env x u) Q E s:=by
 obtain⟨m,hn,hl⟩:=id I.loc;have Cm:(X.env.scope.kind== .class||(X.env.scope.kind== .module&&X.env.locals != X.env.globals))=false:=by rw[I.ok.kind];rfl
 have qB:i<U.length:=by rw[I.len];exact(List.getElem?_eq_some_iff.mp hi).1
 have iR:=I.iR;have tracked:∀{a:Addr}{h':Heap},(∃o,s.heap.get? a=some o/\H a=none)->Heap.SameBut a s.heap h'->bJ X.prog X.w H h':=λ{a h'} ha hs b ob e=>by
  obtain⟨_,_,mi⟩:=ha;refine(I.ag b ob e).cG (λc w' hc q=>(hs.2 c ?_).trans q) (λ_ q=>q) λ_ _ q=>q
  rintro rfl
  rcases hc with rfl|hc
  .rw[mi]at e;cases e
  .rw[mi]at hc;cases hc
 rcases hx with hk|hk
 .refine wpAny_storeName_local hk hn (λh' mj hs=>?_) Cm;obtain⟨oL,_,_,IB,_⟩:=id hn;refine h _ ⟨I.ok,I.os,I.bare,⟨λb o e n hb hx=>?_,λb o e n hb hx=>?_,I.base.free,λb o e hx=>?_,I.base.cn,I.base.dJ,I.base.eI⟩,⟨_,mj,λj y v' e1 e2 e3=>?_⟩,λy c e=>?_,I.free,I.dM,λp hp=>?_,tracked ⟨oL,IB,I.free⟩ hs,by simpa using I.len⟩ ⟨_,hs,.inl rfl⟩
  .exact(hs.2 b (ne_of_lt (lt_of_lt_of_le (Heap.lt_size e) I.ok.above))).trans (I.base.keep b o e n hb hx)
  .obtain⟨sl,e1⟩:=I.base.slot b o e n hb hx;exact⟨sl,(hs.2 b (ne_of_lt (lt_of_lt_of_le (Heap.lt_size e) I.ok.above))).trans e1⟩
  .obtain⟨o',e1⟩:=I.base.there b o e hx;exact⟨o',(hs.2 b (ne_of_lt (lt_of_lt_of_le (Heap.lt_size e) I.ok.above))).trans e1⟩
  .by_cases hj:j=i
   .subst hj;rw[hi]at e1;cases e1;rw[getElem?_set_self qB]at e2;cases e2;exact⟨u,r,.inl ⟨hk,by simp⟩⟩
   .rw[getElem?_set_ne (Ne.symm hj)]at e2;obtain⟨u',r',q⟩:=hl j y v' e1 e2 e3;refine⟨u',r',?_⟩;rcases q with⟨k,e⟩|⟨k,c,e,z⟩
    .refine .inl ⟨k,?_⟩;have:y≠x:=λe=>hj (Ck hN e1 (e ▸ hi));simp[this,e]
    .exact .inr ⟨k,c,e,z.sameBut hs (iR y c e)⟩
  .obtain⟨w',z⟩:=I.cell y c e;exact⟨w',z.sameBut hs (iR y c e)⟩
  .obtain⟨e,n,ne,nf,d⟩:=I.pin p hp;exact⟨(hs.2 p.1 ne).trans e,n,ne,nf,d⟩
 .have Cn:X.fn x=true:=by
   rcases hf with z|z
   .exact z
   .rw[z]at hk;cases hk
  obtain⟨c,hc⟩:=I.ok.has x (.inl hk);obtain⟨w',z⟩:=I.cell x c hc;refine wpAny_storeName_cell I.ok.kind hk hc z (λh' qC hs=>?_);obtain⟨oc,yH,Co⟩:=id z;refine h {s with heap:=h'} ⟨I.ok,I.os,I.bare,⟨λb o e n hb hx=>?_,λb o e n hb hx=>?_,I.base.free,λb o e hx=>?_,I.base.cn,I.base.dJ,I.base.eI⟩,⟨m,hn.sameBut hs (Ne.symm (iR x c hc)),λj y v' e1 e2 e3=>?_⟩,λy c' e=>?_,I.free,I.dM,λp hp=>?_,tracked ⟨oc,yH,I.dM x c hc⟩ hs,by simpa using I.len⟩ ⟨c,hs,.inr hc⟩
  .exact(hs.2 b (ne_of_lt (lt_of_lt_of_le (Heap.lt_size e) (I.ok.nH x c Cn hc)))).trans (I.base.keep b o e n hb hx)
  .obtain⟨sl,e1⟩:=I.base.slot b o e n hb hx;exact⟨sl,(hs.2 b (ne_of_lt (lt_of_lt_of_le (Heap.lt_size e) (I.ok.nH x c Cn hc)))).trans e1⟩
  .obtain⟨o',e1⟩:=I.base.there b o e hx;exact⟨o',(hs.2 b (ne_of_lt (lt_of_lt_of_le (Heap.lt_size e) (I.ok.nH x c Cn hc)))).trans e1⟩
  .by_cases hj:j=i
   .subst hj;rw[hi]at e1;cases e1;rw[getElem?_set_self qB]at e2;cases e2;exact⟨u,r,.inr ⟨.inl hk,c,hc,qC⟩⟩
   .rw[getElem?_set_ne (Ne.symm hj)]at e2;obtain⟨u',r',q⟩:=hl j y v' e1 e2 e3;refine⟨u',r',?_⟩;rcases q with q|⟨k,c',e,z'⟩
    .exact .inl q
    .refine .inr ⟨k,c',e,z'.sameBut hs ?_⟩
     rintro rfl
     exact hj (Ck hN e1 (I.ok.inj _ _ _ e hc ▸ hi))
  .by_cases IC:c'=c
   .subst IC;exact⟨_,qC⟩
   .obtain⟨w2,z2⟩:=I.cell y c' e;exact⟨w2,z2.sameBut hs IC⟩
  .obtain⟨e,n,ne,nf,d⟩:=I.pin p hp;refine⟨(hs.2 p.1 ?_).trans e,n,ne,nf,d⟩;intro q;rw[q,yH]at e;have q':oc=p.2:=Option.some.inj e;exact d w' (by rw[<-q'];exact Co)
theorem yI {M:Model}{A:Around}{E:Value->Shared->Prop}{i:Nat}{x:Str}{v:V}{u:Value}{Q:Unit->Shared->Prop}(I:Inv X pins U H s)(hN:X.N.Nodup)(hi:X.N[i]?=some x)(hx:Loc X.env.scope x)(r:RelV v u)(h:∀s',Inv X pins (U.set i (some v)) H s'->Q () s')(hf:autoParam (X.fn x=true\/X.env.scope.names.lookup x=some .local) aP5):wpAny M A (storeName X.env x u) Q E s:=
 Qm I hN hi hx r (λs' I' _=>h s' I') hf
theorem Inv.Cp {s':Shared}{ch:List Addr}(I:Inv X pins U H s)(ho:s'.os=s.os)(u:Un (bA X.stack) ch H H' s.heap s'.heap)(ag:bJ X.prog X.w H' s'.heap)(hg:AllBare s'.gens)(ef:∀b∈ch,(b∈X.ex\/X.au.heap.objs.size<=b)/\b≠X.env.locals/\(∀x c,X.env.cells.lookup x=some c->c≠b)/\∀p∈X.pn++pins,p.1≠b):Inv X pins U H' s':=by
 obtain⟨h',g',d',t',o'⟩:=s';have e:o'=s.os:=ho;subst e;exact I.call (g':=g') (t':=t') (d':=d') u ag hg ef
end
noncomputable abbrev XK:=Value->Option Addr->Hp->Prop
noncomputable abbrev St:=List (Option V)
noncomputable abbrev VK:=V->Hp->Prop
noncomputable abbrev TE:=St->Hp->VK->Prop
noncomputable abbrev TT:=St->Hp->(Bool->Hp->Prop)->Prop
noncomputable abbrev TA:=St->Hp->(List V->Hp->Prop)->Prop
structure Ends where
 nx:St->Hp->Prop
 rt:VK
 bk:St->Hp->Prop:=λ_ _=>False
 ct:St->Hp->Prop:=λ_ _=>False
noncomputable abbrev TS:=Ends->St->Hp->Prop
noncomputable def EP (X:Cx)(pins:List (Addr×Obj))(U:St)(Q:VK)(u:Value)(s':Shared):Prop:=∃v H',Inv X pins U H' s'/\RelV v u/\Q v H'
noncomputable def TP (X:Cx)(pins:List (Addr×Obj))(U:St)(Q:Bool->Hp->Prop)(b:Bool)(s':Shared):Prop:=∃H',Inv X pins U H' s'/\Q b H'
noncomputable def AP (X:Cx)(pins:List (Addr×Obj))(U:St)(Q:List V->Hp->Prop)(us:List Value)(s':Shared):Prop:=∃vs H',Inv X pins U H' s'/\Vals vs us/\Q vs H'
noncomputable def SP (X:Cx)(pins:List (Addr×Obj))(D:Ends)(f:Flow)(s':Shared):Prop:=match f with
 | .next=>∃U' H',Inv X pins U' H' s'/\D.nx U' H'
 | .brk=>∃U' H',Inv X pins U' H' s'/\D.bk U' H'
 | .cont=>∃U' H',Inv X pins U' H' s'/\D.ct U' H'
 | .ret u=>∃v U' H',Inv X pins U' H' s'/\RelV v u/\D.rt v H'
noncomputable def PE (X:Cx)(e:Expr)(t:TE):Prop:=∀(pins:List (Addr×Obj))(s:Shared)(U:St)(H:Hp)(Q:VK),Inv X pins U H s->t U H Q->wpAny (model X.prog X.w) X.A (eval e X.env) (EP X pins U Q) X.xe s
noncomputable def PT (X:Cx)(e:Expr)(t:TT):Prop:=∀(pins:List (Addr×Obj))(s:Shared)(U:St)(H:Hp)(Q:Bool->Hp->Prop),Inv X pins U H s->t U H Q->wpAny (model X.prog X.w) X.A (isTrue e X.env (eval e X.env)) (TP X pins U Q) X.xe s
noncomputable def PW (X:Cx)(e:Expr)(t:TT):Prop:=∀(whole:Sem Value)(pins:List (Addr×Obj))(s:Shared)(U:St)(H:Hp)(Q:Bool->Hp->Prop),Inv X pins U H s->t U H Q->wpAny (model X.prog X.w) X.A (isTrue e X.env whole) (TP X pins U Q) X.xe s
theorem PW.pt {X:Cx}{e:Expr}{t:TT}(h:PW X e t):PT X e t:=h _
noncomputable def PA (X:Cx)(es:List Expr)(t:TA):Prop:=∀(pos:Pos)(pins:List (Addr×Obj))(s:Shared)(U:St)(H:Hp)(Q:List V->Hp->Prop),Inv X pins U H s->t U H Q->wpAny (model X.prog X.w) X.A (spliced (backTo pos (starEach es X.env))) (AP X pins U Q) X.xe s
noncomputable def PS (X:Cx)(st:Stmt)(t:TS):Prop:=∀(pins:List (Addr×Obj))(s:Shared)(U:St)(H:Hp)(D:Ends),Inv X pins U H s->t D U H->wpAny (model X.prog X.w) X.A (exec st X.env) (SP X pins D) X.xe s
noncomputable def cK (X:Cx)(st:List Stmt)(t:TS):Prop:=∀(pins:List (Addr×Obj))(s:Shared)(U:St)(H:Hp)(D:Ends),Inv X pins U H s->t D U H->wpAny (model X.prog X.w) X.A (execs st X.env) (SP X pins D) X.xe s
theorem aq {α:Type}{t:Sem α}{Q Q':α->Shared->Prop}{M:Model}{A:Around}{E:Value->Shared->Prop}{s:Shared}(h:wpAny M A t Q E s)(hQ:∀a s,Q a s->Q' a s):wpAny M A t Q' E s:=wpAny_mono h hQ λ_ _ x=>x
section
variable {X:Cx}
theorem bin {a b:Expr}{ta tb:TE}(ha:PE X a ta)(hb:PE X b tb){pins:List (Addr×Obj)}{s:Shared}{U:St}{H:Hp}{R:V->V->Hp->Prop}(I:Inv X pins U H s)(h:ta U H λx H1=>tb U H1 λy H2=>R x y H2){α:Type}{Q:α->Shared->Prop}{f:Value->Value->Sem α}(hf:∀v u s2 x y H2,Inv X pins U H2 s2->RelV x v->RelV y u->R x y H2->wpAny (model X.prog X.w) X.A (f v u) Q X.xe s2):
  wpAny (model X.prog X.w) X.A (eval a X.env) (λv ar=>wpAny (model X.prog X.w) X.A (eval b X.env) (λu ae=>wpAny (model X.prog X.w) X.A (f v u) Q X.xe ae) X.xe ar) X.xe s:=by
 refine aq (ha pins s U H _ I h) λv s1 zQ=>?_;obtain⟨x,H1,I1,r1,q1⟩:=zQ;refine aq (hb pins s1 U H1 _ I1 q1) λu s2 zQ=>?_;obtain⟨y,H2,I2,r2,q2⟩:=zQ;exact hf v u s2 x y H2 I2 r1 r2 q2
noncomputable def Cq (i:Nat):TE:=λ U H Q=>∃v,U[i]?=some (some v)/\Q v H
noncomputable def tC (v:V):TE:=λ_ H Q=>Q v H
theorem Qn {i:Nat}{x:Str}{pos:Pos}(hN:X.N[i]?=some x)(hv:pZ X.env.scope x)(hd:autoParam ((x==("__debug__":Str))=false) aP2)(cX:autoParam ((x==("__classdict__":Str))=false) aP2):PE X (.Name x pos) (Cq i):=by
 intro pins s U H Q I h;obtain⟨v,e,h⟩:=h;obtain⟨m,hn,hl⟩:=I.loc;obtain⟨u,r,l⟩:=hl i x v hN e hv;have fin:EP X pins U Q u s:=⟨v,H,I,r,h⟩;rcases l with⟨hk,hm⟩|⟨hk,c,hc,dy⟩
 .exact wpAny_Name (wpAny_loadName_local I.ok.kind hk hn hm fin) hd
 .rcases hk with hk|hk
  .exact wpAny_Name (wpAny_loadName_cell I.ok.kind hk hc dy fin) hd
  .exact wpAny_Name (wpAny_loadName_free I.ok.kind hk hc dy fin cX) hd
theorem jf {i j pos}:PE X (.Constant (.int i) j pos) (tC (.int i)):=λ_ _ _ H _ I h=>wpAny_Constant_int ⟨.int i,H,I.tok _,⟨_,rfl⟩,h⟩
theorem cL {b j pos}:PE X (.Constant (.bool b) j pos) (tC (.bl b)):=λ_ _ _ H _ I h=>Constant_bool ⟨.bl b,H,I,rfl,h⟩
theorem ig {j pos}:PE X (.Constant .none j pos) (tC .aj):=λ_ _ _ H _ I h=>Constant_none ⟨.aj,H,I,rfl,h⟩
theorem xh {x j pos}:PE X (.Constant (.str x) j pos) (tC (.str x)):=λ_ _ _ H _ I h=>Calls.Constant_str ⟨.str x,H,I.tok _,⟨_,rfl⟩,h⟩
noncomputable def Gl (X:Cx)(x:Str):Prop:=X.env.kindOf x=some .globalImplicit
theorem lq {E:Value->Shared->Prop}{pins:List (Addr×Obj)}{s:Shared}{U:St}{H:Hp}{x:Str}{u:Value}{pos:Pos}{Q:Value->Shared->Prop}(I:Inv X pins U H s)(hg:Gl X x)(hm:X.mg x=some u)(h:Q u s)(hd:autoParam ((x==("__debug__":Str))=false) aP2):wpAny (model X.prog X.w) X.A (eval (.Name x pos) X.env) Q E s:=
 Calls.Name_function_global I.ok.kind hg (Calls.loadGlobal_global (by rw[I.ok.glob];exact I.mod.glob.keeps I.bk) hm h) hd
theorem sE {E:Value->Shared->Prop}{pins:List (Addr×Obj)}{s:Shared}{U:St}{H:Hp}{x:Str}{u:Value}{pos:Pos}{Q:Value->Shared->Prop}(I:Inv X pins U H s)(hg:Gl X x)(hm:X.mg x=none)(hv:bootBuiltins x=some u)(h:Q u s)(hn:autoParam (x≠"__name__") aP2)(hd:autoParam ((x==("__debug__":Str))=false) aP2):wpAny (model X.prog X.w) X.A (eval (.Name x pos) X.env) Q E s:=by
 obtain⟨mb,h1,h2⟩:=I.mod.blt;exact Calls.Name_function_global I.ok.kind hg (Calls.loadGlobal_builtin (by rw[I.ok.glob];exact I.mod.glob.keeps I.bk) hm (by rw[I.ok.blt];exact h1.keeps I.bk) ((h2 x hn).trans hv) h) hd
theorem zd {x:Str}{v:V}{u:Value}{pos:Pos}(hg:Gl X x)(hm:X.mg x=some u)(r:RelV v u)(hd:autoParam ((x==("__debug__":Str))=false) aP2):PE X (.Name x pos) (tC v):=λ_ _ _ H _ I h=>lq I hg hm ⟨v,H,I,r,h⟩ hd
theorem iS {x:Str}{v:V}{u:Value}{pos:Pos}(hg:Gl X x)(hm:X.mg x=none)(hv:bootBuiltins x=some u)(r:RelV v u)(hn:autoParam (x≠"__name__") aP2)(hd:autoParam ((x==("__debug__":Str))=false) aP2):PE X (.Name x pos) (tC v):=λ_ _ _ H _ I h=>sE I hg hm hv ⟨v,H,I,r,h⟩ hn hd
variable {a b:Expr}{ta tb:TE}{pos:Pos}
noncomputable def PC (X:Cx)(op:CmpOp)(a b:Expr)(t:TE):Prop:=∀(pins:List (Addr×Obj))(s:Shared)(U:St)(H:Hp)(Q:VK),Inv X pins U H s->t U H Q->wpAny (model X.prog X.w) X.A (eval a X.env) (λv ar=>wpAny (model X.prog X.w) X.A (eval b X.env) (λu ae=>wpAny (model X.prog X.w) X.A (compareOp op v u) (EP X pins U Q) X.xe ae) X.xe ar) X.xe s
noncomputable def tB (t:TE):TT:=λ U H Q=>t U H λx H1=>∃c,x= .bl c/\Q c H1
theorem yJ {op:CmpOp}{t:TE}(h:PC X op a b t)(h1:behindInMarks op b=false:=by first|exact sF _ (by decide) (by decide)|rfl):PT X (.Compare a [op] [b] pos) (tB t):=by intro pins s U H Q I hw;refine wpAny_isTrue_Compare1 (aq (h pins s U H _ I hw) λv s1 h1=>aq h1 λu s2 h2=>aq h2 λc s3 zQ=>?_) h1;obtain⟨x,H1,I1,r1,q1⟩:=zQ;obtain⟨d,rfl,q⟩:=q1;cases r1;exact wpAny_truthy_bool ⟨H1,I1,q⟩
theorem zk {e:Expr}{t:TE}(h:PE X e t)(he:autoParam (∀whole,isTrue e X.env whole=(do let v<-whole;standAt e.pos;holding [v] (truthy v))) aP3):PT X e (tB t):=by intro pins s U H Q I hw;refine isTrue_plain (aq (h pins s U H _ I hw) λv s1 zQ=>?_) (he _);obtain⟨x,H1,I1,r1,q1⟩:=zQ;obtain⟨d,rfl,q⟩:=q1;cases r1;exact wpAny_truthy_bool ⟨H1,I1,q⟩
variable {tA yK:TT}{rest:List Expr}
noncomputable def Qo (t u:TT):TT:=λ U H Q=>t U H λc H1=>if c=true then u U H1 Q else Q false H1
noncomputable def Qp (t u:TT):TT:=λ U H Q=>t U H λc H1=>if c=true then Q true H1 else u U H1 Q
noncomputable def Qq (t:TT):TT:=λ U H Q=>t U H λc H1=>Q (!c) H1
theorem Cr (ha:PT X a tA):PW X (.BoolOp .And [a] pos) tA:=by
 intro wh pins s U H Q I h;refine isTrue_and (aq (ha pins s U H Q I h) λc s1 e=>?_);cases c with
 |true=>exact isTrue_and_nil e
 |false=>exact e
theorem eJ (ha:PT X a tA):PW X (.BoolOp .Or [a] pos) tA:=by
 intro wh pins s U H Q I h;refine isTrue_or (aq (ha pins s U H Q I h) λc s1 e=>?_);cases c with
 |false=>exact isTrue_or_nil e
 |true=>exact e
theorem Cs (ha:PT X a tA)(hb:PW X (.BoolOp .And (b::rest) pos) yK):PW X (.BoolOp .And (a::b::rest) pos) (Qo tA yK):=by
 intro wh pins s U H Q I h;refine isTrue_and (aq (ha pins s U H _ I h) λc s1 zQ=>?_);obtain⟨H1,I1,q1⟩:=zQ;cases c with
 |true=>exact hb wh pins s1 U H1 Q I1 q1
 |false=>exact⟨H1,I1,q1⟩
theorem cY (ha:PT X a tA)(hb:PW X (.BoolOp .Or (b::rest) pos) yK):PW X (.BoolOp .Or (a::b::rest) pos) (Qp tA yK):=by
 intro wh pins s U H Q I h;refine isTrue_or (aq (ha pins s U H _ I h) λc s1 zQ=>?_);obtain⟨H1,I1,q1⟩:=zQ;cases c with
 |true=>exact⟨H1,I1,q1⟩
 |false=>exact hb wh pins s1 U H1 Q I1 q1
theorem x8 (ha:PT X a tA):PT X (.UnaryOp .Not a pos) (Qq tA):=by intro pins s U H Q I h;exact isTrue_not (ha pins s U H (λc H1=>Q (!c) H1) I h)
noncomputable def Qr (ta tb:TE):TE:=λ U H Q=>ta U H λx H1=>∃c,x= .bl c/\if c=true then tb U H1 Q else Q (.bl false) H1
noncomputable def Qs (ta:TE):TE:=λ U H Q=>ta U H λx H1=>∃c,x= .bl c/\Q (.bl (!c)) H1
theorem jQ {op}{t:TE}(h:PE X a t):PE X (.BoolOp op [a] pos) t:=λpins s U H Q I hw=>BoolOp_one (h pins s U H Q I hw)
theorem ik (ha:PE X a ta)(hb:PE X (.BoolOp .And (b::rest) pos) tb):PE X (.BoolOp .And (a::b::rest) pos) (Qr ta tb):=by
 intro pins s U H Q I h;refine BoolOp_and (aq (ha pins s U H _ I h) λv s1 zQ=>?_);obtain⟨x,H1,I1,r1,q1⟩:=zQ;obtain⟨c,rfl,q1⟩:=q1;cases r1;refine wpAny_truthy_bool ?_;cases c with
 |true=>exact hb pins s1 U H1 Q I1 q1
 |false=>exact⟨.bl false,H1,I1,rfl,q1⟩
theorem ID (ha:PE X a ta):PE X (.UnaryOp .Not a pos) (Qs ta):=by intro pins s U H Q I h;refine UnaryOp_ (aq (ha pins s U H _ I h) λv s1 zQ=>?_);obtain⟨x,H1,I1,r1,q1⟩:=zQ;obtain⟨c,rfl,q1⟩:=q1;cases r1;exact not_of (wpAny_truthy_bool ⟨.bl (!c),H1,I1,rfl,q1⟩)
noncomputable def Qt (t:TT)(ta tb:TE):TE:=λ U H Q=>t U H λc H1=>if c=true then ta U H1 Q else tb U H1 Q
theorem sH {c:Expr}(hc:PT X c tA)(ha:PE X a ta)(hb:PE X b tb):PE X (.IfExp c a b pos) (Qt tA ta tb):=by
 intro pins s U H Q I h;refine wpAny_IfExp (aq (hc pins s U H _ I h) λd s1 zQ=>?_);obtain⟨H1,I1,q1⟩:=zQ;cases d with
 |true=>exact ha pins s1 U H1 Q I1 q1
 |false=>exact hb pins s1 U H1 Q I1 q1
end
noncomputable def ai (K:PySem.W.Frag)(H:Hp)(a:Addr)(xs:List V):Prop:=Rd H a (.lst xs)\/∃(o:Obj)(its:Array Value)(n:Nat),K.lookup a=some o/\o.cls= .type "list"/\o.dict=none/\o.data= .seq its n/\its.size<=sizeLine/\Vals xs its.toList
noncomputable def ax (K:PySem.W.Frag)(H:Hp)(a:Addr)(xs:List V):Prop:=Rd H a (.tup xs)\/∃(o:Obj)(its:Array Value)(n:Nat),K.lookup a=some o/\o.cls= .type "tuple"/\o.data= .seq its n/\its.size<=sizeLine/\Vals xs its.toList
noncomputable def Qu:Value->Option V
 | .none=>some .aj
 | .bool b=>some (.bl b)
 | .int i _=>some (.int i)
 | .str x _=>some (.str x)
 | .bytes b _=>some (.fu b)
 | .float b _=>some (.mf b)
 | .ref a=>some (.ref a)
 | .type n=>some (.ty n)
 |_=>none
theorem RelV.abs {x:V}{u:Value}(r:RelV x u):Qu u=some x:=by
 cases x with
 |aj=>cases r;rfl
 |bl _=>cases r;rfl
 |int _=>obtain⟨t,rfl⟩:=r;rfl
 |str _=>obtain⟨t,rfl⟩:=r;rfl
 |fu _=>obtain⟨t,rfl⟩:=r;rfl
 |mf _=>obtain⟨t,rfl⟩:=r;rfl
 |ref _=>cases r;rfl
 |ty _=>cases r;rfl
theorem RelV.inj {x y:V}{u:Value}(r:RelV x u)(q:RelV y u):x=y:=Option.some.inj (r.abs.symm.trans q.abs)
theorem Vals.inj:∀{xs ys:List V}{us:List Value},Vals xs us->Vals ys us->xs=ys:=λ{xs ys us} p q=>by
 induction p generalizing ys with
 |nil=>cases q;rfl
 |cons r t ih=>
  cases q with
  |cons r' t'=>rw[r.inj r',ih t']
section
variable {X:Cx}{pins:List (Addr×Obj)}{U:St}{H:Hp}{s:Shared}{a:Addr}{xs ys:List V}
theorem ai.of {K:PySem.W.Frag}(h:H a=some (.lst xs)):ai K H a xs:=.inl (.inl h)
theorem ax.of {K:PySem.W.Frag}(h:H a=some (.tup xs)):ax K H a xs:=.inl (.inl h)
theorem Inv.list (I:Inv X pins U H s)(h:ai X.K H a xs):∃its:List Value,Vals xs its/\PlainL s.heap a its.toArray/\xs.length<=sizeLine:=by
 rcases h with h|⟨o,its,n,hk,hc,hd,hs,hz,r⟩
 .obtain⟨z,its,n,r,e⟩:=h.ok I.ag;exact⟨its,r,⟨_,n,e,rfl,rfl,rfl⟩,z⟩
 .refine⟨its.toList,r,⟨o,n,I.aU a o hk,hc,hd,by simpa using hs⟩,?_⟩;have e:=r.length;simp only[Array.length_toList]at e;lia
theorem Inv.tuple (I:Inv X pins U H s)(h:ax X.K H a xs):∃its:List Value,Vals xs its/\IsTup s.heap a its.toArray/\xs.length<=sizeLine:=by
 rcases h with h|⟨o,its,n,hk,hc,hs,hz,r⟩
 .obtain⟨z,its,r,p⟩:=h.ok I.ag;exact⟨its,r,p,z⟩
 .refine⟨its.toList,r,⟨o,I.aU a o hk,hc,n,by simpa using hs⟩,?_⟩;have e:=r.length;simp only[Array.length_toList]at e;lia
theorem Inv.IE (I:Inv X pins U H s)(h:ai X.K H a xs)(h':ai X.K H a ys):xs=ys:=by
 obtain⟨its,r,⟨o,n,e,_,_,d⟩,_⟩:=I.list h;obtain⟨its',r',⟨o',n',e',_,_,d'⟩,_⟩:=I.list h';rw[e]at e';cases e';rw[d]at d';injection d' with d1 _;have:its=its':=by simpa using congrArg Array.toList d1
 subst this;exact r.inj r'
theorem Inv.sI (I:Inv X pins U H s)(h:ax X.K H a xs)(h':ax X.K H a ys):xs=ys:=by
 obtain⟨its,r,⟨o,e,_,n,d⟩,_⟩:=I.tuple h;obtain⟨its',r',⟨o',e',_,n',d'⟩,_⟩:=I.tuple h';rw[e]at e';cases e';rw[d]at d';injection d' with d1 _;have:its=its':=by simpa using congrArg Array.toList d1
 subst this;exact r.inj r'
end
noncomputable abbrev Cx.jR (X:Cx)(E:Value->Shared->Prop):Cx:={X with xe:=E}
noncomputable abbrev Cx.qD (X:Cx):Cx:=X.jR λ_ _=>False
theorem Cx.Ok.jR {X:Cx}(ok:X.Ok)(E:Value->Shared->Prop):(X.jR E).Ok:=⟨ok.mod,ok.kind,ok.glob,ok.blt,ok.above,ok.inj,ok.has,ok.nH,ok.hd,ok.frames,ok.cW,ok.yE,ok.bs,ok.jO,ok.nI,ok.qA,ok.fc,ok.iQ⟩
theorem Cx.Ok.ml {X:Cx}{E:Value->Shared->Prop}(ok:(X.jR E).Ok):X.Ok:=⟨ok.mod,ok.kind,ok.glob,ok.blt,ok.above,ok.inj,ok.has,ok.nH,ok.hd,ok.frames,ok.cW,ok.yE,ok.bs,ok.jO,ok.nI,ok.qA,ok.fc,ok.iQ⟩
section
variable {X:Cx}{pins:List (Addr×Obj)}{U:St}{H:Hp}{s:Shared}{E:Value->Shared->Prop}
theorem Inv.jR (I:Inv X pins U H s)(E:Value->Shared->Prop):Inv (X.jR E) pins U H s:=⟨I.ok.jR E,I.os,I.bare,I.base,I.loc,I.cell,I.free,I.dM,I.pin,I.ag,I.len⟩
theorem Inv.ml (I:Inv (X.jR E) pins U H s):Inv X pins U H s:=⟨I.ok.ml,I.os,I.bare,I.base,I.loc,I.cell,I.free,I.dM,I.pin,I.ag,I.len⟩
theorem SP.ml {D:Ends}{f:Flow}{s':Shared}(h:SP (X.jR E) pins D f s'):SP X pins D f s':=by
 cases f with
 |next=>obtain⟨U',H',I,q⟩:=h;exact⟨U',H',I.ml,q⟩
 |brk=>obtain⟨U',H',I,q⟩:=h;exact⟨U',H',I.ml,q⟩
 |cont=>obtain⟨U',H',I,q⟩:=h;exact⟨U',H',I.ml,q⟩
 |ret u=>obtain⟨v,U',H',I,r,q⟩:=h;exact⟨v,U',H',I.ml,r,q⟩
theorem cK.qD {st:List Stmt}{t:TS}(h:cK X.qD st t):cK X st t:=λpins s U H D I hw=>wpAny_mono (h pins s U H D (I.jR _) hw) (λ_ _ q=>q.ml) λ_ _ z=>False.elim z
end
section
variable {X:Cx}{st:Stmt}{rest:List Stmt}{t u:TS}{e:Expr}{te:TE}{pos:Pos}
noncomputable def Qv:TS:=λD U H=>D.nx U H
noncomputable def IF (t u:TS):TS:=λD U H=>t {D with nx:=u D} U H
theorem jv:cK X [] Qv:=λ_ _ U H _ I h=>wpAny_execs_nil ⟨U,H,I,h⟩
theorem jc (h1:PS X st t)(h2:cK X rest u):cK X (st::rest) (IF t u):=by
 intro pins s U H D I h;refine wpAny_execs_cons (aq (h1 pins s U H {D with nx:=u D} I h) λf s1 q=>?_);cases f with
 |next=>obtain⟨U',H',I',q⟩:=q;exact h2 pins s1 U' H' D I' q
 |ret v=>exact q
 |brk=>exact q
 |cont=>exact q
theorem je (h1:PS X st t):cK X [st] t:=by
 intro pins s U H D I h;refine wpAny_execs_cons (aq (h1 pins s U H D I h) λf s1 q=>?_);cases f with
 |next=>exact wpAny_execs_nil q
 |ret v=>exact q
 |brk=>exact q
 |cont=>exact q
theorem Inv.quiet {pins:List (Addr×Obj)}{U:St}{H:Hp}{s:Shared}(I:Inv X pins U H s):interactive X.env=false:=by simp[interactive,I.ok.kind]
noncomputable def Qw (te:TE):TS:=λD U H=>te U H λ_ H1=>D.nx U H1
theorem qc (he:PE X e te)(hs:autoParam (swapsWith e none pos.line X.env=pure false) aP1):PS X (.Expr e pos) (Qw te):=by intro pins s U H D I h;exact wpAny_Expr_any (aq (he pins s U H _ I h) λv s1 ⟨x,H1,I1,r1,q1⟩=>⟨U,H1,I1,q1⟩) I.quiet hs
noncomputable def Qx (te:TE):TS:=λD U H=>te U H D.rt
theorem jr (he:PE X e te):PS X (.Return (some e) pos) (Qx te):=by intro pins s U H D I h;exact wpAny_Return_some (aq (he pins s U H _ I h) λv s1 ⟨x,H1,I1,r1,q1⟩=>⟨x,U,H1,I1,r1,q1⟩)
noncomputable def Qy (c:TT)(t u:TS):TS:=λD U H=>c U H λb H1=>if b=true then t D U H1 else u D U H1
theorem zo {c:Expr}{a b:List Stmt}{tc:TT}(hc:PT X c tc)(ha:cK X a t)(hb:cK X b u):PS X (.If c a b pos) (Qy tc t u):=by
 intro pins s U H D I h;refine wpAny_If (aq (hc pins s U H _ I h) λd s1 zQ=>?_);obtain⟨H1,I1,q1⟩:=zQ;cases d with
 |true=>exact ha pins s1 U H1 D I1 q1
 |false=>exact hb pins s1 U H1 D I1 q1
noncomputable def IG:TS:=λ_ _ _=>False
theorem Qz:PS X st IG:=λ_ _ _ _ _ _ h=>h.elim
theorem yk {QA:List Stmt}:cK X QA IG:=λ_ _ _ _ _ _ h=>h.elim
end
noncomputable abbrev TG:=V->St->Hp->(St->Hp->Prop)->Prop
noncomputable abbrev mn:=List V->St->Hp->(St->Hp->Prop)->Prop
noncomputable def PG (X:Cx)(target:Expr)(t:TG):Prop:=∀(pins:List (Addr×Obj))(s:Shared)(U:St)(H:Hp)(v:V)(u:Value)(Q:St->Hp->Prop),Inv X pins U H s->RelV v u->t v U H Q->wpAny (model X.prog X.w) X.A (assign target X.env u) (λ_ s'=>∃U' H',Inv X pins U' H' s'/\Q U' H') X.xe s
noncomputable def sJ (X:Cx)(ts:List Expr)(t:mn):Prop:=∀(pins:List (Addr×Obj))(s:Shared)(U:St)(H:Hp)(vs:List V)(us:List Value)(Q:St->Hp->Prop),Inv X pins U H s->Vals vs us->t vs U H Q->wpAny (model X.prog X.w) X.A (assignInOrder ((assignEach ts X.env).map (·.2)) us) (λ_ s'=>∃U' H',Inv X pins U' H' s'/\Q U' H') X.xe s
noncomputable abbrev sL:=V->V->V->Hp->(Hp->Prop)->Prop
noncomputable def Ct (X:Cx)(t:sL):Prop:=∀(pins:List (Addr×Obj))(s:Shared)(U:St)(H:Hp)(o i v:V)(ov iv u:Value)(Q:Hp->Prop),Inv X pins U H s->RelV o ov->RelV i iv->RelV v u->t o i v H Q->wpAny (model X.prog X.w) X.A (setItem ov iv u) (λ_ s'=>∃H',Inv X pins U H' s'/\Q H') X.xe s
noncomputable abbrev yL:=V->V->Hp->VK->Prop
noncomputable def Cu (X:Cx)(op:Operator)(t:yL):Prop:=∀(pins:List (Addr×Obj))(s:Shared)(U:St)(H:Hp)(x y:V)(v u:Value)(Q:VK),Inv X pins U H s->RelV x v->RelV y u->t x y H Q->wpAny (model X.prog X.w) X.A (inplaceOp op v u) (EP X pins U Q) X.xe s
section
variable {X:Cx}{pos:Pos}
noncomputable def jS (i:Nat):TG:=λv U H Q=>Q (U.set i (some v)) H
theorem qa {i:Nat}{x:Str}(hN:X.N.Nodup)(hi:X.N[i]?=some x)(hx:Loc X.env.scope x)(hf:autoParam (X.fn x=true\/X.env.scope.names.lookup x=some .local) aP5):PG X (.Name x pos) (jS i):=by intro pins s U H v u Q I r h;exact wpAny_assign_Name (yI I hN hi hx r (λs' I'=>⟨_,H,I',h⟩) hf)
noncomputable def IH:mn:=λvs U H Q=>vs=[]/\Q U H
noncomputable def Cv (t:TG)(u:mn):mn:=λvs U H Q=>∃v r,vs=v::r/\t v U H λ U' H'=>u r U' H' Q
theorem qE:sJ X [] IH:=by intro pins s U H vs us Q I r h;obtain⟨e,h⟩:=h;subst e;cases r;exact assignInOrder_nil ⟨U,H,I,h⟩
theorem zl {e:Expr}{es:List Expr}{t:TG}{u:mn}(h1:PG X e t)(h2:sJ X es u)(hs:autoParam ((assignEach (e::es) X.env).map (·.2)=assign e X.env::(assignEach es X.env).map (·.2)) aP1):sJ X (e::es) (Cv t u):=by
 intro pins s U H vs us Q I r h;obtain⟨v,vr,e1,h⟩:=h;subst e1;cases r with
 |cons r rr=>rw[hs];refine assignInOrder_cons (aq (h1 pins s U H _ _ _ I r h) λ_ s1 zQ=>?_);obtain⟨U1,H1,I1,q1⟩:=zQ;exact h2 pins s1 U1 H1 _ _ Q I1 rr q1
noncomputable def II (K:PySem.W.Frag)(n:Nat)(t:mn):TG:=λv U H Q=>∃a xs,v= .ref a/\ax K H a xs/\xs.length=n/\t xs U H Q
theorem qF {es:List Expr}{k:Nat}{t:mn}{n:Nat}(hc:X.calm=true)(h:sJ X es t)(hn:autoParam ((assignEach es X.env).length=n) aP1)(fY:autoParam ((assignEach es X.env).findIdx? (·.1)=none) aP1):PG X (.Tuple es k pos) (II X.K n t):=by
 intro pins s U H v u Q I r hw;obtain⟨a,xs,e1,hq,hl,hw⟩:=hw;subst e1;cases r;obtain⟨its,rv,ht,hz⟩:=I.tuple hq;refine assign_Tuple_tuple (I.ok.hd hc) ht (by simp[hn,<-hl,rv.length]) fY λh' hx=>?_;have I1:Inv X pins U H {s with heap:=h'}:=I.kept (t':=s.toks) λb o e=>hx b o (ne_of_lt (Heap.lt_size e)) e;exact h pins _ U H xs _ Q I1 (by simpa using rv) hw
noncomputable def QB (to ti:TE)(t:sL):TG:=λv U H Q=>to U H λo H1=>ti U H1 λi H2=>t o i v H2 λH3=>Q U H3
theorem IJ {o i:Expr}{to ti:TE}{t:sL}(ho:PE X o to)(hi:PE X i ti)(hs:Ct X t)(ha:autoParam (∀v,assign (.Subscript o i pos) X.env v=(do
   let ov<-holding [v] (eval o X.env);let iv<-holding [v,ov] (eval i X.env)
   standAt pos
   holding [v,ov,iv] (setItem ov iv v)
   release [v,ov,iv] [])) aP3):PG X (.Subscript o i pos) (QB to ti t):=by
 intro pins s U H v u Q I r h;rw[ha];refine wpAny_bind (wpAny_holding (aq (ho pins s U H _ I h) λov s1 zQ=>?_));obtain⟨x,H1,I1,r1,q1⟩:=zQ;refine wpAny_bind (wpAny_holding (aq (hi pins s1 U H1 _ I1 q1) λiv s2 zQ=>?_));obtain⟨y,H2,I2,r2,q2⟩:=zQ;refine wpAny_bind (wpAny_standAt (wpAny_bind (wpAny_holding (aq (hs pins s2 U H2 x y v ov iv u _ I2 r1 r2 r q2) λ_ s3 zQ=>?_))));obtain⟨H3,I3,q3⟩:=zQ;exact wpAny_release ⟨U,H3,I3,q3⟩
noncomputable def IK (te:TE)(g:TG):TS:=λD U H=>te U H λx H1=>g x U H1 D.nx
theorem nN {tg e:Expr}{te:TE}{g:TG}(he:PE X e te)(hg:PG X tg g)(hs:autoParam (swapsWithSole [tg] e pos.line X.env=pure false) aP1)(hw:autoParam (swappedStores [tg] e X.env=pure none) aP1)(h1:autoParam ((assignEach [tg] X.env).map (·.2)=[assign tg X.env]) aP1):PS X (.Assign [tg] e pos) (IK te g):=by
 intro pins s U H D I h;refine wpAny_Assign_stores (aq (he pins s U H _ I h) λv s1 zQ=>?_) hs hw;obtain⟨x,H1,I1,r1,q1⟩:=zQ;rw[h1];exact aq (hg pins s1 U H1 x v _ I1 r1 q1) λ_ s2 q=>q
theorem qz {i:Nat}{x:Str}{e:Expr}{te:TE}{pos':Pos}(hN:X.N.Nodup)(hi:X.N[i]?=some x)(hx:Loc X.env.scope x)(he:PE X e te)(hs:autoParam (swapsWith e (some (.Name x pos')) pos.line X.env=pure false) aP1)(hf:autoParam (X.fn x=true\/X.env.scope.names.lookup x=some .local) aP5):PS X (.Assign [.Name x pos'] e pos) (IK te (jS i)):=by
 intro pins s U H D I h;refine wpAny_Assign_Name (aq (he pins s U H _ I h) λv s1 zQ=>?_) hs;obtain⟨y,H1,I1,r1,q1⟩:=zQ;exact yI I1 hN hi hx r1 (λs2 I2=>⟨_,H1,I2,q1⟩) hf
noncomputable def QC (to ti te:TE)(lA:V->V->Hp->VK->Prop)(yM:yL)(lB:sL):TS:=λD U H=>to U H λo H1=>ti U H1 λi H2=>lA o i H2 λx H3=>te U H3 λy H4=>yM x y H4 λz H5=>lB o i z H5 λH6=>D.nx U H6
noncomputable def IL (X:Cx)(t:V->V->Hp->VK->Prop):Prop:=∀(pins:List (Addr×Obj))(s:Shared)(U:St)(H:Hp)(o i:V)(ov iv:Value)(Q:VK),Inv X pins U H s->RelV o ov->RelV i iv->t o i H Q->wpAny (model X.prog X.w) X.A (getItem ov iv) (EP X pins U Q) X.xe s
theorem Cw {o i e:Expr}{to ti te:TE}{lA:V->V->Hp->VK->Prop}{yM:yL}{lB:sL}{op:Operator}{fB:Pos}(ho:PE X o to)(hi:PE X i ti)(hg:IL X lA)(he:PE X e te)(hp:Cu X op yM)(hs:Ct X lB)(ha:∀ov iv new,augStore i ov iv new=(do holding [new,ov,iv] (setItem ov iv new);release [new,ov,iv] [];pure .next):=by intros;rfl):PS X (.AugAssign (.Subscript o i fB) op e pos) (QC to ti te lA yM lB):=by
 intro pins s U H D I h;refine wpAny_AugAssign_SubscriptAny (aq (ho pins s U H _ I h) λov s1 zQ=>?_) ha;obtain⟨x1,H1,I1,r1,q1⟩:=zQ;refine aq (hi pins s1 U H1 _ I1 q1) λiv s2 zQ=>?_;obtain⟨x2,H2,I2,r2,q2⟩:=zQ;refine aq (hg pins s2 U H2 x1 x2 ov iv _ I2 r1 r2 q2) λold s3 zQ=>?_;obtain⟨x3,H3,I3,r3,q3⟩:=zQ;refine aq (he pins s3 U H3 _ I3 q3) λv s4 zQ=>?_;obtain⟨x4,H4,I4,r4,q4⟩:=zQ;refine aq (hp pins s4 U H4 x3 x4 old v _ I4 r3 r4 q4) λnew s5 zQ=>?_;obtain⟨x5,H5,I5,r5,q5⟩:=zQ;exact aq (hs pins s5 U H5 x1 x2 x5 ov iv new _ I5 r1 r2 r5 q5) λ_ s6 ⟨H6,I6,q6⟩=>⟨U,H6,I6,q6⟩
noncomputable def IM (f:Int->Int->Int):yL:=λx y H Q=>∃i j,x= .int i/\y= .int j/\Q (.int (f i j)) H
theorem IP:Cu X .Add (IM λi j=>i+j):=by intro pins s U H x y v u Q I r1 r2 h;obtain⟨i,j,e1,e2,q⟩:=h;subst e1;subst e2;obtain⟨t,rfl⟩:=r1;obtain⟨t',rfl⟩:=r2;exact iadd_int ⟨.int _,H,I.tok _,⟨_,rfl⟩,q⟩
theorem QD:Cu X .Sub (IM λi j=>i-j):=by intro pins s U H x y v u Q I r1 r2 h;obtain⟨i,j,e1,e2,q⟩:=h;subst e1;subst e2;obtain⟨t,rfl⟩:=r1;obtain⟨t',rfl⟩:=r2;exact isub_int ⟨.int _,H,I.tok _,⟨_,rfl⟩,q⟩
noncomputable def IQ (c:TT)(tb:TS):TS:=λD U H=>∃W:Nat->St->Hp->Prop,(∃m,W m U H)/\∀m U H,W m U H->c U H λb H1=>if b=true then ∃N:St->Hp->Prop,(∀U' H',N U' H'->∃m',m'<m/\W m' U' H')/\tb {D with nx:=N,ct:=N,bk:=D.nx} U H1 else D.nx U H1
theorem IT {c:Expr}{body:List Stmt}{tc:TT}{tb:TS}(hp:PassesOwn (model X.prog X.w) X.A X.env X.xe)(hc:PT X c tc)(hb:cK X body tb):PS X (.While c body [] pos) (IQ tc tb):=by
 intro pins s U H D I h;obtain⟨W,⟨m0,w0⟩,turn⟩:=h;refine wpAny_While (codeAny_whileLoop (λn s'=>∃U' H',Inv X pins U' H' s'/\W n U' H') ?_ m0 ⟨U,H,I,w0⟩)
 rintro n s1 ⟨U1,H1,I1,w1⟩
 refine wpAny_passesOwn hp (aq (hc pins s1 U1 H1 _ I1 (turn n U1 H1 w1)) λb s2 zQ=>?_);obtain⟨H2,I2,q2⟩:=zQ;cases b with
 |true=>
  obtain⟨N,hN,q2⟩:=q2;rw[if_pos rfl];refine wpAny_passesOwn hp (aq (hb pins s2 U1 H2 _ I2 q2) λf s3 q3=>?_);cases f with
  |next=>obtain⟨U3,H3,I3,n3⟩:=q3;obtain⟨m',hm,w3⟩:=hN U3 H3 n3;exact⟨m',hm,U3,H3,I3,w3⟩
  |cont=>obtain⟨U3,H3,I3,n3⟩:=q3;obtain⟨m',hm,w3⟩:=hN U3 H3 n3;exact⟨m',hm,U3,H3,I3,w3⟩
  |brk=>exact q3
  |ret v=>exact q3
 |false=>rw[if_neg Bool.false_ne_true];exact wpAny_execs_nil ⟨U1,H2,I2,q2⟩
end
structure It where
 go:Nat->Hp->Prop
 dz:Nat->Hp->V->Hp->Prop
 stop:Nat->Hp->Prop
noncomputable def eA (X:Cx)(pins:List (Addr×Obj))(H:Hp)(b:Addr):Prop:=H b=none/\b≠X.env.locals/\b∉X.fs/\(b∈X.ex\/X.au.heap.objs.size<=b)/\(∀x c,X.env.cells.lookup x=some c->c≠b)/\∀p∈X.pn++pins,p.1≠b
theorem Inv.mq {X:Cx}{pins:List (Addr×Obj)}{U:St}{H H':Hp}{s:Shared}{b:Addr}(I:Inv X pins U H s)(hb:s.heap.objs.size<=b)(hn:H' b=none):eA X pins H' b:=by
 refine⟨hn,ne_of_gt (lt_of_lt_of_le I.lt hb),I.Iz hb,.inr (le_trans I.sz hb),λx c e z=>?_,λp hp z=>?_⟩
 .obtain⟨v,q⟩:=I.cell x c e;exact absurd (lt_of_lt_of_le q.lt (by rw[z];exact hb)) (lt_irrefl _)
 .exact absurd (lt_of_lt_of_le (Heap.lt_size (I.pin p hp).1) (by rw[z];exact hb)) (lt_irrefl _)
structure Turn (P:Program)(w:World)(K:PySem.W.Frag)(tg:Expr)(J:It)(fp:List Addr)(it:Addr)(tn:Nat->Heap->Prop):Prop where
 mem:it∈fp
 obj:∀i h,tn i h->∀b∈fp,∃o,h.get? b=some o/\∀v,o.data≠.cell v
 keep:∀i h h',tn i h->(∀b∈fp,∀o,h.get? b=some o->h'.get? b=some o)->tn i h'
 item:∀(X:Cx),X.prog=P->X.w=w->X.K=K->X.calm=true->∀(i:Nat)(pins:List (Addr×Obj))(s:Shared)(U:St)(H:Hp)(E:Value->Shared->Prop),Inv X pins U H s->(∀b∈fp,eA X pins H b)->tn i s.heap->J.go i H->wpAny (model P w) X.A (pyNext (.ref it)) (λr s1=>∃u,r=some u/\wpAny (model P w) X.A (letOwnedTupleGo tg (.ref it) u) (λ_ s2=>∃x H',Inv X pins U H' s2/\RelV x u/\J.dz i H x H'/\tn (i+1) s2.heap/\∀b∈fp,H' b=none) E s1) E s
 done:∀(X:Cx),X.prog=P->X.w=w->X.K=K->X.calm=true->∀(i:Nat)(pins:List (Addr×Obj))(s:Shared)(U:St)(H:Hp)(E:Value->Shared->Prop),Inv X pins U H s->(∀b∈fp,eA X pins H b)->tn i s.heap->J.stop i H->wpAny (model P w) X.A (pyNext (.ref it)) (λr s1=>r=none/\Inv X pins U H s1) E s
 self:∀(A:Around)(i:Nat)(s:Shared)(Q:Value->Shared->Prop)(E:Value->Shared->Prop),tn i s.heap->Q (.ref it) s->wpAny (model P w) A (pyIter (.ref it)) Q E s
noncomputable abbrev TI:=St->Hp->(It->Hp->Prop)->Prop
noncomputable def IU (X:Cx)(pins:List (Addr×Obj))(U:St)(tg:Expr)(R:It->Hp->Prop)(yN:Value)(s2:Shared):Prop:=∃(it:Addr)(fp:List Addr)(tn:Nat->Heap->Prop)(J:It)(H':Hp),yN= .ref it/\Inv X pins U H' s2/\Turn X.prog X.w X.K tg J fp it tn/\tn 0 s2.heap/\(∀b∈fp,eA X pins H' b)/\R J H'
noncomputable def PI (X:Cx)(tg iter:Expr)(wi:TI):Prop:=∀(pins:List (Addr×Obj))(s:Shared)(U:St)(H:Hp)(R:It->Hp->Prop),Inv X pins U H s->wi U H R->wpAny (model X.prog X.w) X.A (eval iter X.env) (λv s1=>wpAny (model X.prog X.w) X.A (pyIter v) (IU X pins U tg R) X.xe s1) X.xe s
theorem nO {M:Model}{A:Around}{E:Value->Shared->Prop}{s:Shared}{tg:Expr}{it:Addr}{u:Value}{o:Obj}{n:String}{vs:Array Value}{Q:Unit->Shared->Prop}(ho:s.heap.get? it=some o)(hc:o.cls= .type n)(hd:o.data= .fields vs)(hn:["enumerate","zip","dict_itemiterator","dict_reverseitemiterator","odict_iterator","itertools.zip_longest","itertools.pairwise"].contains n=false)(hQ:Q () s):wpAny M A (letOwnedTupleGo tg (.ref it) u) Q E s:=by
  unfold letOwnedTupleGo;cases tg<;>first
    |exact wpAny_pure hQ
    |(cases u<;>first
        |exact wpAny_pure hQ
        | (refine wpAny_bind (wpAny_load ho ?_)
           rw[hc,hd];show wpAny M A (if(["enumerate","zip","dict_itemiterator","dict_reverseitemiterator","odict_iterator","itertools.zip_longest","itertools.pairwise"].contains n&&vs[0]?==some (rawInt _))=true then _ else _) Q E s;rw[if_neg (by intro h;rw[hn,Bool.false_and]at h;cases h)];exact wpAny_pure hQ))
noncomputable def mr (K:PySem.W.Frag)(a:Addr):It:=⟨λi H=>∃xs x,ai K H a xs/\xs[i]?=some x,λi H x H'=>H'=H/\∀xs,ai K H a xs->xs[i]?=some x,λi H=>∃xs,ai K H a xs/\xs.length<=i⟩
noncomputable def mv (K:PySem.W.Frag)(a:Addr):It:=⟨λi H=>∃xs x,ax K H a xs/\xs[i]?=some x,λi H x H'=>H'=H/\∀xs,ax K H a xs->xs[i]?=some x,λi H=>∃xs,ax K H a xs/\xs.length<=i⟩
noncomputable def nP (lo:Int)(n:Nat):It:=⟨λi _=>i<n,λi H x H'=>H'=H/\x= .int (lo+i),λi _=>n<=i⟩
theorem QE {P:Program}{w:World}{K:PySem.W.Frag}{tg:Expr}(a it:Addr):Turn P w K tg (mr K a) [it] it (λi h=>h.IsListIter it a i) where
 mem:=by simp
 obj:=λi h st b hb=>by
  have e:b=it:=by simpa using hb
  subst e;obtain⟨o,e,c,d⟩:=st;exact⟨o,e,λv z=>by rw[d]at z;cases z⟩
 keep:=λi h h' st k=>st.at λo e=>k it (by simp) o e
 item:=by intro X hP hw hK hc i pins s U H E I hf st hg;subst hP hw hK;obtain⟨xs,x,hq,hx⟩:=hg;obtain⟨its,rv,p,hz⟩:=I.list hq;obtain⟨u,hu,ru⟩:=rv.get hx;obtain⟨f0,f1,f2,f3,f4,f5⟩:=hf it (by simp);refine wpAny_pyNext_list_item st p.isList (x:=u) (by simpa using hu) λh' bF sb=>?_;have I1:Inv X pins U H {s with heap:=h'}:=I.turned (t':=s.toks) (λb o hb e=>(sb.2 b hb).trans e) f0 f1 f3 f4 f5;obtain⟨o,e,c,d⟩:=id bF;exact⟨u,rfl,nO (s:={s with heap:=h'}) e c d (by decide) ⟨x,H,I1,ru,⟨rfl,λys hy=>by rw[I.IE hy hq];exact hx⟩,bF,λb hb=>(hf b hb).1⟩⟩
 done:=by intro X hP hw hK hc i pins s U H E I hf st hg;subst hP hw hK;obtain⟨xs,hq,hx⟩:=hg;obtain⟨its,rv,p,hz⟩:=I.list hq;obtain⟨f0,f1,f2,f3,f4,f5⟩:=hf it (by simp);have hl:=rv.length;exact wpAny_pyNext_list_end (I.ok.hd hc) st p.isList (by simp;lia) λh' eb=>⟨rfl,I.turned (t':=s.toks) (λb o hb e=>eb b o hb e) f0 f1 f3 f4 f5⟩
 self:=λ_ _ _ _ _ st h=>wpAny_pyIter_listiter st h
theorem QG {P:Program}{w:World}{K:PySem.W.Frag}{tg:Expr}(a it:Addr):Turn P w K tg (mv K a) [it] it (λi h=>h.IsTupleIter it a i) where
 mem:=by simp
 obj:=λi h st b hb=>by
  have e:b=it:=by simpa using hb
  subst e;obtain⟨o,e,c,d⟩:=st;exact⟨o,e,λv z=>by rw[d]at z;cases z⟩
 keep:=λi h h' st k=>st.at λo e=>k it (by simp) o e
 item:=by intro X hP hw hK hc i pins s U H E I hf st hg;subst hP hw hK;obtain⟨xs,x,hq,hx⟩:=hg;obtain⟨its,rv,p,hz⟩:=I.tuple hq;obtain⟨u,hu,ru⟩:=rv.get hx;obtain⟨f0,f1,f2,f3,f4,f5⟩:=hf it (by simp);refine wpAny_pyNext_tuple_item st (show s.heap.IsTuple a its.toArray from p) (x:=u) (by simpa using hu) λh' bF sb=>?_;have I1:Inv X pins U H {s with heap:=h'}:=I.turned (t':=s.toks) (λb o hb e=>(sb.2 b hb).trans e) f0 f1 f3 f4 f5;obtain⟨o,e,c,d⟩:=id bF;exact⟨u,rfl,nO (s:={s with heap:=h'}) e c d (by decide) ⟨x,H,I1,ru,⟨rfl,λys hy=>by rw[I.sI hy hq];exact hx⟩,bF,λb hb=>(hf b hb).1⟩⟩
 done:=by intro X hP hw hK hc i pins s U H E I hf st hg;subst hP hw hK;obtain⟨xs,hq,hx⟩:=hg;obtain⟨its,rv,p,hz⟩:=I.tuple hq;obtain⟨f0,f1,f2,f3,f4,f5⟩:=hf it (by simp);have hl:=rv.length;exact wpAny_pyNext_tuple_end (I.ok.hd hc) st (show s.heap.IsTuple a its.toArray from p) (by simp;lia) λh' eb=>⟨rfl,I.turned (t':=s.toks) (λb o hb e=>eb b o hb e) f0 f1 f3 f4 f5⟩
 self:=λ_ _ _ _ _ st h=>wpAny_pyIter_tupleiter st h
theorem QH {P:Program}{w:World}{K:PySem.W.Frag}{tg:Expr}(it:Addr)(lo:Int)(n:Nat):Turn P w K tg (nP lo n) [it] it (λi h=>IsRangeIter h it (lo+(i:Nat)*1) ((n:Int)-(i:Nat)) 1) where
 mem:=by simp
 obj:=λi h st b hb=>by
  have e:b=it:=by simpa using hb
  subst e;exact⟨_,st,λv z=>by have z':Data.fields _=Data.cell v:=z;cases z'⟩
 keep:=λi h h' st k=>k it (by simp) _ st
 item:=by intro X hP hw hK hc i pins s U H E I hf st hg;subst hP hw hK;obtain⟨f0,f1,f2,f3,f4,f5⟩:=hf it (by simp);have W:=Walks.range (prog:=X.prog) (w:=X.w) (I.ok.hd hc) it lo 1 n;refine W.item i s _ _ hg st λv h' tk hv bF kk=>?_;obtain⟨t,rfl⟩:=hv;have I1:Inv X pins U H {s with heap:=h',toks:=tk}:=I.turned (λb o hb e=>kk b o (by simpa using hb) e) f0 f1 f3 f4 f5;refine⟨_,rfl,nO (s:={s with heap:=h',toks:=tk}) (n:="range_iterator") bF rfl rfl (by decide) ⟨.int (lo+i),H,I1,⟨t,?_⟩,⟨rfl,rfl⟩,bF,λb hb=>(hf b hb).1⟩⟩;rw[Int.mul_one]
 done:=by intro X hP hw hK hc i pins s U H E I hf st hg;subst hP hw hK;obtain⟨f0,f1,f2,f3,f4,f5⟩:=hf it (by simp);exact wpAny_pyNext_range_end (I.ok.hd hc) st (by have:n<=i:=hg;lia) λh' eb=>⟨rfl,I.turned (t':=s.toks) (λb o hb e=>eb b o hb e) f0 f1 f3 f4 f5⟩
 self:=λ_ _ _ _ _ st h=>wpAny_pyIter_rangeiter st h
section
variable {X:Cx}{tg:Expr}
noncomputable def IV (K:PySem.W.Frag)(tl:TE):TI:=λ U H R=>tl U H λx H1=>∃a,x= .ref a/\(∃xs,ai K H1 a xs)/\R (mr K a) H1
noncomputable def IW (K:PySem.W.Frag)(tl:TE):TI:=λ U H R=>tl U H λx H1=>∃a,x= .ref a/\(∃xs,ax K H1 a xs)/\R (mv K a) H1
theorem gN {l:Expr}{tl:TE}(hl:PE X l tl):PI X tg l (IV X.K tl):=by
 intro pins s U H R I h;refine aq (hl pins s U H _ I h) λv s1 zQ=>?_;obtain⟨x,H1,I1,r1,q1⟩:=zQ;obtain⟨a,e,⟨xs,hq⟩,q⟩:=q1;subst e;cases r1;obtain⟨its,rv,p,hz⟩:=I1.list hq;refine wpAny_pyIter_list p.isList ?_;refine⟨s1.heap.objs.size,[s1.heap.objs.size],_,_,H1,rfl,I1.kept (t':=s1.toks) λb o e=>Heap.get?_push_of_some _ e,QE a _,⟨_,Heap.get?_push_size _ rfl,rfl,rfl⟩,λb hb=>?_,q⟩;have e:b=s1.heap.objs.size:=by simpa using hb
 subst e;exact I1.mq (le_refl _) (I1.ag.fresh (le_refl _))
theorem IY {l:Expr}{tl:TE}(hl:PE X l tl):PI X tg l (IW X.K tl):=by
 intro pins s U H R I h;refine aq (hl pins s U H _ I h) λv s1 zQ=>?_;obtain⟨x,H1,I1,r1,q1⟩:=zQ;obtain⟨a,e,⟨xs,hq⟩,q⟩:=q1;subst e;cases r1;obtain⟨its,rv,p,hz⟩:=I1.tuple hq;refine wpAny_pyIter_tuple (show s1.heap.IsTuple a its.toArray from p) ?_;refine⟨s1.heap.objs.size,[s1.heap.objs.size],_,_,H1,rfl,I1.kept (t':=s1.toks) λb o e=>Heap.get?_push_of_some _ e,QG a _,⟨_,Heap.get?_push_size _ rfl,rfl,rfl⟩,λb hb=>?_,q⟩;have e:b=s1.heap.objs.size:=by simpa using hb
 subst e;exact I1.mq (le_refl _) (I1.ag.fresh (le_refl _))
theorem QI {pins:List (Addr×Obj)}{U:St}{H:Hp}{s:Shared}{R:It->Hp->Prop}{E:Value->Shared->Prop}{lo hi:Int}{t u v:Tok}{tk:Nat}(I:Inv X pins U H s)(h1:-(2^62)<=lo)(h2:lo<2^62)(h3:-(2^62)<=hi)(h4:hi<2^62)(q:R (nP lo (hi-lo).toNat) H):wpAny (model X.prog X.w) X.A (pyIter (.ref s.heap.objs.size)) (IU X pins U tg R) E {s with heap:=s.heap.push {cls:=.type "range",data:=.fields #[.int lo t,.int hi u,.int 1 v]},toks:=tk}:=by
 refine wpAny_pyIter_range (IsRange.new ..) (small_one h1 h2 h3 h4) ?_;have I1:Inv X pins U H {s with heap:=s.heap.push {cls:=.type "range",data:=.fields #[.int lo t,.int hi u,.int 1 v]},toks:=tk}:=I.kept λb o e=>Heap.get?_push_of_some _ e;refine⟨(s.heap.push {cls:=.type "range",data:=.fields #[.int lo t,.int hi u,.int 1 v]}).objs.size,[(s.heap.push {cls:=.type "range",data:=.fields #[.int lo t,.int hi u,.int 1 v]}).objs.size],_,_,H,rfl,I1.kept (t':=tk) λb o e=>Heap.get?_push_of_some _ e,QH _ lo (hi-lo).toNat,?_,λb hb=>?_,q⟩
 .have e1:lo+((0:Nat):Int)*1=lo:=by simp
  have e2:(((hi-lo).toNat:Nat):Int)-((0:Nat):Int)=Builtin.Range.rangeSize lo hi 1:=by rw[rangeSize_one];split<;>lia
  show IsRangeIter _ _ (lo+((0:Nat):Int)*1) ((((hi-lo).toNat:Nat):Int)-((0:Nat):Int)) 1;rw[e1,e2];exact Heap.get?_push_size _ rfl
 .have e:b=(s.heap.push {cls:=.type "range",data:=.fields #[.int lo t,.int hi u,.int 1 v]}).objs.size:=by simpa using hb
  subst e;exact I1.mq (le_refl _) (I1.ag.fresh (le_refl _))
noncomputable def QJ (ta:TA):TI:=λ U H R=>ta U H λvs H1=>∃j:Int,vs=[.int j]/\-(2^62)<=j/\j<2^62/\R (nP 0 j.toNat) H1
theorem IZ {a:Expr}{ta:TA}{p pos:Pos}(hg:Gl X "range")(hm:X.mg "range"=none)(ha:PA X [a] ta)(hs:autoParam (starEach [a] X.env=[(false,eval a X.env)]) aP1):PI X tg (.Call (.Name "range" p) [a] [] pos) (QJ ta):=by
 intro pins s U H R I h;refine Call_ (sE I hg hm boot_range (PyProof.Rows.callWith_type1 (aq (ha pos pins s U H _ I h) λus s1 zQ=>?_) hs rfl));obtain⟨vs,H1,I1,r1,q1⟩:=zQ;obtain⟨j,e,q1,q2,q⟩:=q1;subst e;cases r1 with
 |cons r rr=>cases rr;obtain⟨t,rfl⟩:=r;exact call_range_1 (QI I1 (by lia) (by lia) q1 q2 (by simpa using q))
noncomputable def QK (wi:TI)(g:TG)(tb:TS):TS:=λD U H=>wi U H λJ H1=>∃W:Nat->Nat->St->Hp->Prop,(∃m,W 0 m U H1)/\∀i m U H,W i m U H->(J.stop i H/\D.nx U H)\/(J.go i H/\∃N:St->Hp->Prop,(∀U' H',N U' H'->∃m',m'<m/\W (i+1) m' U' H')/\∀x H',J.dz i H x H'->g x U H' λ U2 H2=>tb {D with nx:=N,ct:=N,bk:=D.nx} U2 H2)
noncomputable def lC (fp:List Addr)(h:Heap):List (Addr×Obj):=fp.filterMap λb=>(h.get? b).map λo=>(b,o)
theorem yO {fp:List Addr}{h:Heap}{b:Addr}{o:Obj}(hb:b∈fp)(e:h.get? b=some o):(b,o)∈lC fp h:=mem_filterMap.mpr ⟨b,hb,by rw[e];rfl⟩
theorem Ja {fp:List Addr}{h:Heap}{p:Addr×Obj}(hp:p∈lC fp h):p.1∈fp/\h.get? p.1=some p.2:=by
 obtain⟨b,hb,e⟩:=mem_filterMap.mp hp;cases q:h.get? b with
 |none=>rw[q]at e;cases e
 |some o=>rw[q]at e;have e':(b,o)=p:=Option.some.inj e;subst e';exact⟨hb,q⟩
theorem Inv.pinned {pins:List (Addr×Obj)}{U:St}{H:Hp}{s:Shared}{fp:List Addr}(I:Inv X pins U H s)(hf:∀b∈fp,eA X pins H b)(ho:∀b∈fp,∃o,s.heap.get? b=some o/\∀v,o.data≠.cell v):Inv X (pins++lC fp s.heap) U H s:=I.yG λp hp=>(mem_append.mp hp).elim (λz=>I.pin p (mem_append_right _ z)) λz=>by obtain⟨hb,e⟩:=Ja z;obtain⟨f0,f1,f2,_⟩:=hf p.1 hb;obtain⟨o,e',d⟩:=ho p.1 hb;rw[e]at e';cases e';exact⟨e,f0,f1,f2,d⟩
theorem Inv.sM {pins pl:List (Addr×Obj)}{U:St}{H:Hp}{s:Shared}(I:Inv X (pins++pl) U H s):Inv X pins U H s:=I.yG λp hp=>I.pin p (mem_append_right _ (List.mem_append_left _ hp))
theorem jT {iter:Expr}{body:List Stmt}{wi:TI}{g:TG}{tb:TS}{pos:Pos}(hp:PassesOwn (model X.prog X.w) X.A X.env X.xe)(hc:X.calm=true)(hi:PI X tg iter wi)(hg:PG X tg g)(hb:cK X body tb)(hs:autoParam (∀x,foldedSetIterable iter X.env x=pure x) aP3):PS X (.For tg iter body [] pos) (QK wi g tb):=by
 intro pins s U H D I h;refine wpAny_For (aq (hi pins s U H _ I h) λv s1 h1=>aq h1 λyN s2 h2=>?_) hs;obtain⟨it,fp,tn,J,H2,e,I2,T,yP,f2,W,⟨m0,w0⟩,turn⟩:=h2;subst e;have nQ:∀{H':Hp},(∀b∈fp,H' b=none)->∀b∈fp,eA X pins H' b:=λhn b hb=>⟨hn b hb,(f2 b hb).2⟩;refine codeAny_forLoop_any (λn s'=>∃i U' H',Inv X pins U' H' s'/\tn i s'.heap/\(∀b∈fp,H' b=none)/\W i n U' H') ?_ m0 ⟨0,U,H2,I2,yP,λb hb=>(f2 b hb).1,w0⟩
 rintro n s3 ⟨i,U3,H3,I3,Jb,Jc,w3⟩
 rcases turn i n U3 H3 w3 with⟨stop,qn⟩|⟨go,N,hN,step⟩
 .refine wpAny_passesOwn hp (aq (T.done X rfl rfl rfl hc i pins s3 U3 H3 X.xe I3 (nQ Jc) Jb stop) λr s4 ⟨hr,I4⟩=>?_);subst hr;exact wpAny_execs_nil ⟨U3,H3,I4,qn⟩
 .refine wpAny_passesOwn hp (aq (T.item X rfl rfl rfl hc i pins s3 U3 H3 X.xe I3 (nQ Jc) Jb go) λr s4 zQ=>?_);obtain⟨u,hr,h4⟩:=zQ;subst hr;refine wpAny_passesOwn hp (aq h4 λ_ s5 zQ=>?_);obtain⟨x,H5,I5,r5,y5,gO,sN⟩:=zQ;have sO:=I5.pinned (nQ sN) (T.obj _ _ gO);refine wpAny_passesOwn hp (aq (hg _ s5 U3 H5 x u _ sO r5 (step x H5 y5)) λ_ s6 zQ=>?_);obtain⟨U6,H6,I6,q6⟩:=zQ;refine wpAny_passesOwn hp (aq (hb _ s6 U6 H6 _ I6 q6) λf s7 q7=>?_);have again:∀{U7:St}{H7:Hp},Inv X (pins++lC fp s5.heap) U7 H7 s7->N U7 H7->∃m,m<n/\∃i U' H',Inv X pins U' H' s7/\tn i s7.heap/\(∀b∈fp,H' b=none)/\W i m U' H':=λ{U7 H7} I7 n7=>by
   obtain⟨m',hm,w7⟩:=hN U7 H7 n7;refine⟨m',hm,i+1,U7,H7,I7.sM,T.keep _ _ _ gO λb hb o e=>(I7.pin (b,o) (mem_append_right _ (mem_append_right _ (yO hb e)))).1,λb hb=>?_,w7⟩;obtain⟨o,e,d⟩:=T.obj _ _ gO b hb;exact(I7.pin (b,o) (mem_append_right _ (mem_append_right _ (yO hb e)))).2.1
  cases f with
  |next=>obtain⟨U7,H7,I7,n7⟩:=q7;exact again I7 n7
  |cont=>obtain⟨U7,H7,I7,n7⟩:=q7;exact again I7 n7
  |brk=>obtain⟨U7,H7,I7,q7⟩:=q7;exact⟨U7,H7,I7.sM,q7⟩
  |ret v=>obtain⟨x7,U7,H7,I7,r7,q7⟩:=q7;exact⟨x7,U7,H7,I7.sM,r7,q7⟩
end
theorem mw {K:PySem.W.Frag}{a:Addr}{xs:List V}{g:TG}{tb:TS}{D:Ends}{U:St}{H:Hp}(Pv:Nat->St->Hp->Prop)(h0:Pv 0 U H)(hl:∀i U H,i<=xs.length->Pv i U H->ai K H a xs)(hs:∀i x U H,xs[i]?=some x->Pv i U H->g x U H λ U2 H2=>tb {D with nx:=Pv (i+1),ct:=Pv (i+1),bk:=D.nx} U2 H2)(hd:∀U H,Pv xs.length U H->D.nx U H):∃W:Nat->Nat->St->Hp->Prop,(∃m,W 0 m U H)/\∀i m U H,W i m U H->((mr K a).stop i H/\D.nx U H)\/((mr K a).go i H/\∃N:St->Hp->Prop,(∀U' H',N U' H'->∃m',m'<m/\W (i+1) m' U' H')/\∀x H',(mr K a).dz i H x H'->g x U H' λ U2 H2=>tb {D with nx:=N,ct:=N,bk:=D.nx} U2 H2):=by
 refine⟨λi m U H=>m=xs.length-i/\i<=xs.length/\Pv i U H,⟨xs.length,by simp,zero_le _,h0⟩,?_⟩
 rintro i m U H ⟨rfl,hi,p⟩
 have q:=hl i U H hi p;by_cases aD:i<xs.length
 .refine .inr ⟨⟨xs,xs[i],q,by simp[aD]⟩,Pv (i+1),λ U' H' p'=>⟨xs.length-(i+1),by lia,rfl,aD,p'⟩,λx H' y=>?_⟩;obtain⟨e,y⟩:=y;subst e;exact hs i x U _ (y xs q) p
 .have e:i=xs.length:=by lia
  subst e;exact .inl ⟨⟨xs,q,le_refl _⟩,hd U H p⟩
theorem QL {K:PySem.W.Frag}{a:Addr}{xs:List V}{g:TG}{tb:TS}{D:Ends}{U:St}{H:Hp}(Pv:Nat->St->Hp->Prop)(h0:Pv 0 U H)(hl:∀i U H,i<=xs.length->Pv i U H->ax K H a xs)(hs:∀i x U H,xs[i]?=some x->Pv i U H->g x U H λ U2 H2=>tb {D with nx:=Pv (i+1),ct:=Pv (i+1),bk:=D.nx} U2 H2)(hd:∀U H,Pv xs.length U H->D.nx U H):∃W:Nat->Nat->St->Hp->Prop,(∃m,W 0 m U H)/\∀i m U H,W i m U H->((mv K a).stop i H/\D.nx U H)\/((mv K a).go i H/\∃N:St->Hp->Prop,(∀U' H',N U' H'->∃m',m'<m/\W (i+1) m' U' H')/\∀x H',(mv K a).dz i H x H'->g x U H' λ U2 H2=>tb {D with nx:=N,ct:=N,bk:=D.nx} U2 H2):=by
 refine⟨λi m U H=>m=xs.length-i/\i<=xs.length/\Pv i U H,⟨xs.length,by simp,zero_le _,h0⟩,?_⟩
 rintro i m U H ⟨rfl,hi,p⟩
 have q:=hl i U H hi p;by_cases aD:i<xs.length
 .refine .inr ⟨⟨xs,xs[i],q,by simp[aD]⟩,Pv (i+1),λ U' H' p'=>⟨xs.length-(i+1),by lia,rfl,aD,p'⟩,λx H' y=>?_⟩;obtain⟨e,y⟩:=y;subst e;exact hs i x U _ (y xs q) p
 .have e:i=xs.length:=by lia
  subst e;exact .inl ⟨⟨xs,q,le_refl _⟩,hd U H p⟩
theorem QM {lo:Int}{n:Nat}{g:TG}{tb:TS}{D:Ends}{U:St}{H:Hp}(Pv:Nat->St->Hp->Prop)(h0:Pv 0 U H)(hs:∀i U H,i<n->Pv i U H->g (.int (lo+i)) U H λ U2 H2=>tb {D with nx:=Pv (i+1),ct:=Pv (i+1),bk:=D.nx} U2 H2)(hd:∀U H,Pv n U H->D.nx U H):∃W:Nat->Nat->St->Hp->Prop,(∃m,W 0 m U H)/\∀i m U H,W i m U H->((nP lo n).stop i H/\D.nx U H)\/((nP lo n).go i H/\∃N:St->Hp->Prop,(∀U' H',N U' H'->∃m',m'<m/\W (i+1) m' U' H')/\∀x H',(nP lo n).dz i H x H'->g x U H' λ U2 H2=>tb {D with nx:=N,ct:=N,bk:=D.nx} U2 H2):=by
 refine⟨λi m U H=>m=n-i/\i<=n/\Pv i U H,⟨n,by simp,zero_le _,h0⟩,?_⟩
 rintro i m U H ⟨rfl,hi,p⟩
 by_cases aD:i<n
 .refine .inr ⟨aD,Pv (i+1),λ U' H' p'=>⟨n-(i+1),by lia,rfl,aD,p'⟩,λx H' y=>?_⟩;obtain⟨e,y⟩:=y;subst e y;exact hs i U _ aD p
 .have e:i=n:=by lia
  subst e;exact .inl ⟨le_refl _,hd U H p⟩
theorem QN {c:TT}{tb:TS}{D:Ends}{U:St}{H:Hp}(Pv:St->Hp->Prop)(μ:St->Hp->Nat)(h0:Pv U H)(hs:∀U H,Pv U H->c U H λb H1=>if b=true then tb {D with nx:=λ U' H'=>Pv U' H'/\μ U' H'<μ U H,ct:=λ U' H'=>Pv U' H'/\μ U' H'<μ U H,bk:=D.nx} U H1 else D.nx U H1)(mono:∀U H Q Q',(∀b H1,Q b H1->Q' b H1)->c U H Q->c U H Q'):IQ c tb D U H:=by
 refine⟨λm U H=>m=μ U H/\Pv U H,⟨_,rfl,h0⟩,?_⟩
 rintro m U H ⟨rfl,p⟩
 refine mono U H _ _ (λb H1 q=>?_) (hs U H p);cases b with
 |true=>exact⟨_,λ U' H' ⟨p',l⟩=>⟨_,l,rfl,p'⟩,q⟩
 |false=>exact q
noncomputable abbrev R2:=V->V->Hp->VK->Prop
noncomputable def bQ (X:Cx)(f:Value->Value->Sem Value)(r:R2):Prop:=∀(pins:List (Addr×Obj))(s:Shared)(U:St)(H:Hp)(x y:V)(v u:Value)(Q:VK),Inv X pins U H s->RelV x v->RelV y u->r x y H Q->wpAny (model X.prog X.w) X.A (f v u) (EP X pins U Q) X.xe s
noncomputable def Cy (X:Cx)(f:Value->Sem Value)(r:V->Hp->VK->Prop):Prop:=∀(pins:List (Addr×Obj))(s:Shared)(U:St)(H:Hp)(x:V)(v:Value)(Q:VK),Inv X pins U H s->RelV x v->r x H Q->wpAny (model X.prog X.w) X.A (f v) (EP X pins U Q) X.xe s
noncomputable def dA (X:Cx)(f:Value)(r:List V->Hp->VK->Prop):Prop:=∀(pins:List (Addr×Obj))(s:Shared)(U:St)(H:Hp)(xs:List V)(us:List Value)(Q:VK),Inv X pins U H s->Vals xs us->r xs H Q->wpAny (model X.prog X.w) X.A (call f us) (EP X pins U Q) X.xe s
noncomputable def QO (X:Cx)(r:V->Hp->(Bool->Hp->Prop)->Prop):Prop:=∀(pins:List (Addr×Obj))(s:Shared)(U:St)(H:Hp)(x:V)(v:Value)(Q:Bool->Hp->Prop),Inv X pins U H s->RelV x v->r x H Q->wpAny (model X.prog X.w) X.A (truthy v) (TP X pins U Q) X.xe s
noncomputable def qG (r:R2)(ta tb:TE):TE:=λ U H Q=>ta U H λx H1=>tb U H1 λy H2=>r x y H2 Q
noncomputable def QP (r:V->Hp->VK->Prop)(ta:TE):TE:=λ U H Q=>ta U H λx H1=>r x H1 Q
noncomputable def rI (C:Int->Int->Prop)(g:Int->Int->V):R2:=λx y H Q=>∃i j,x= .int i/\y= .int j/\C i j/\Q (g i j) H
noncomputable def mx (g:Int->Int->V):R2:=λx y H Q=>∃i j,x= .int i/\y= .int j/\Q (g i j) H
noncomputable def rU (g:Int->V):V->Hp->VK->Prop:=λx H Q=>∃i,x= .int i/\Q (g i) H
section
variable {X:Cx}{a b c:Expr}{ta tb tc:TE}{pos:Pos}
theorem Cz (ha:PE X a ta)(hb:PE X b tb){pins:List (Addr×Obj)}{s:Shared}{U:St}{H:Hp}{R:V->V->Hp->Prop}(I:Inv X pins U H s)(h:ta U H λx H1=>tb U H1 λy H2=>R x y H2){Q:Value->Shared->Prop}{f:Value->Value->Sem Value}(hf:∀v u s2 x y H2,Inv X pins U H2 s2->RelV x v->RelV y u->R x y H2->wpAny (model X.prog X.w) X.A (f v u) Q X.xe s2):
  wpAny (model X.prog X.w) X.A (eval a X.env) (λv ar=>wpAny (model X.prog X.w) X.A (eval b X.env) (λu ae=>wpAny (model X.prog X.w) X.A (f v u) Q X.xe ae) X.xe ar) X.xe s:=by
 refine aq (ha pins s U H _ I h) λv s1 zQ=>?_;obtain⟨x,H1,I1,r1,q1⟩:=zQ;refine aq (hb pins s1 U H1 _ I1 q1) λu s2 zQ=>?_;obtain⟨y,H2,I2,r2,q2⟩:=zQ;exact hf v u s2 x y H2 I2 r1 r2 q2
theorem vp {op:Operator}{r:R2}(ho:bQ X (binaryOp op) r)(ha:PE X a ta)(hb:PE X b tb):PE X (.BinOp a op b pos) (qG r ta tb):=by intro pins s U H Q I h;exact wpAny_BinOp (Cz ha hb I h λv u s2 x y H2 I2 rx ry q=>ho pins s2 U H2 x y v u Q I2 rx ry q)
theorem QQ {op:UnaryOp}{r:V->Hp->VK->Prop}(ho:Cy X (unaryOp op) r)(ha:PE X a ta):PE X (.UnaryOp op a pos) (QP r ta):=by intro pins s U H Q I h;exact UnaryOp_ (aq (ha pins s U H _ I h) λv s1 ⟨x,H1,I1,r1,q1⟩=>ho pins s1 U H1 x v Q I1 r1 q1)
theorem yQ {f:Value->Value->Sem Value}{C:Int->Int->Prop}{g:Int->Int->Int}(rule:∀(i j:Int)(t u:Tok)(s:Shared)(Q:Value->Shared->Prop)(E:Value->Shared->Prop),C i j->Q (.int (g i j) s.toks) {s with toks:=s.toks+1}->wpAny (model X.prog X.w) X.A (f (.int i t) (.int j u)) Q E s):
  bQ X f (rI C λi j=>.int (g i j)):=by
 intro pins s U H x y v u Q I rx ry h;obtain⟨i,j,rfl,rfl,hc,q⟩:=h;obtain⟨t,rfl⟩:=rx;obtain⟨t',rfl⟩:=ry;exact rule i j t t' s _ _ hc ⟨.int (g i j),H,I.tok _,⟨_,rfl⟩,q⟩
theorem Jd {f:Value->Value->Sem Value}{g:Int->Int->Int}(rule:∀(i j:Int)(t u:Tok)(s:Shared)(Q:Value->Shared->Prop)(E:Value->Shared->Prop),Q (.int (g i j) s.toks) {s with toks:=s.toks+1}->wpAny (model X.prog X.w) X.A (f (.int i t) (.int j u)) Q E s):
  bQ X f (mx λi j=>.int (g i j)):=by
 intro pins s U H x y v u Q I rx ry h;obtain⟨i,j,rfl,rfl,q⟩:=h;obtain⟨t,rfl⟩:=rx;obtain⟨t',rfl⟩:=ry;exact rule i j t t' s _ _ ⟨.int (g i j),H,I.tok _,⟨_,rfl⟩,q⟩
theorem yR {f:Value->Value->Sem Value}{g:Int->Int->Bool}(rule:∀(i j:Int)(t u:Tok)(s:Shared)(Q:Value->Shared->Prop)(E:Value->Shared->Prop),Q (.bool (g i j)) s->wpAny (model X.prog X.w) X.A (f (.int i t) (.int j u)) Q E s):
  bQ X f (mx λi j=>.bl (g i j)):=by
 intro pins s U H x y v u Q I rx ry h;obtain⟨i,j,rfl,rfl,q⟩:=h;obtain⟨t,rfl⟩:=rx;obtain⟨t',rfl⟩:=ry;exact rule i j t t' s _ _ ⟨.bl (g i j),H,I,rfl,q⟩
noncomputable def QR (i j:Int):Prop:=0<j/\j<1073741824
noncomputable def QS (i j:Int):Prop:=0<=j/\j<=1000000/\i.natAbs<2^64
noncomputable def CA (i j:Int):Prop:=(-(2^64)<i/\i<2^64)\/(-(2^64)<j/\j<2^64)
theorem CA.ok {i j:Int}(h:CA i j):IntMulOk i j:=by
 rcases h with⟨h1,h2⟩|⟨h1,h2⟩
 .exact .of_left (intBits_le_64 h1 h2)
 .exact .of_right (intBits_le_64 h1 h2)
theorem yS:bQ X (binaryOp .Add) (mx λi j=>.int (i+j)):=Jd λ_ _ _ _ _ _ _ q=>add_int q
theorem jU:bQ X (binaryOp .Sub) (mx λi j=>.int (i-j)):=Jd λ_ _ _ _ _ _ _ q=>sub_int q
theorem CC:bQ X (binaryOp .Mult) (rI CA λi j=>.int (i*j)):=yQ λ_ _ _ _ _ _ _ hc q=>mul_int q hc.ok
theorem CD:bQ X (binaryOp .FloorDiv) (rI QR λi j=>.int (i / j)):=yQ λi j _ _ _ _ _ hc q=>by have h1:(0:Int)<j:=hc.1;have h2:j<1073741824:=hc.2;exact floordiv_int (by lia) (by rw[Int.fdiv_eq_ediv_of_nonneg i (by lia)];exact q) (.inl (PyProof.noPylong_small (by lia)))
theorem qH:bQ X (binaryOp .Mod) (rI (λ_ j=>0<j) λi j=>.int (i%j)):=yQ λi j _ _ _ _ _ hc q=>by have h1:(0:Int)<j:=hc;exact mod_int' (by lia) (by rw[Int.fmod_eq_emod_of_nonneg i (by lia)];exact q)
theorem QT:bQ X (binaryOp .Pow) (rI QS λi j=>.int (i^j.toNat)):=yQ λ_ _ _ _ _ _ _ hc q=>pow_int_small hc.1 hc.2.1 hc.2.2 q
theorem QU {f:Value->Sem Value}{g:Int->Int}(rule:∀(i:Int)(t:Tok)(s:Shared)(Q:Value->Shared->Prop)(E:Value->Shared->Prop),Q (.int (g i) s.toks) {s with toks:=s.toks+1}->wpAny (model X.prog X.w) X.A (f (.int i t)) Q E s):
  Cy X f (rU λi=>.int (g i)):=by
 intro pins s U H x v Q I rx h;obtain⟨i,rfl,q⟩:=h;obtain⟨t,rfl⟩:=rx;exact rule i t s _ _ ⟨.int (g i),H,I.tok _,⟨_,rfl⟩,q⟩
theorem QV:Cy X (unaryOp .USub) (rU λi=>.int (-i)):=QU λ_ _ _ _ _ q=>neg_int q
end
noncomputable def Je:V->V->Bool
 | .aj,.aj=>true| .aj,.int _=>true| .int _,.aj=>true| .aj,.bl _=>true| .bl _,.aj=>true| .aj,.str _=>true| .str _,.aj=>true
 | .int _,.int _=>true| .bl _,.bl _=>true| .str _,.str _=>true| .fu _,.fu _=>true
 | .int _,.str _=>true| .str _,.int _=>true| .bl _,.str _=>true| .str _,.bl _=>true
 |_,_=>false
noncomputable def QW:R2:=λx y H Q=>Je x y=true/\Q (.bl (decide (x=y))) H
noncomputable def QX:R2:=λx y H Q=>Je x y=true/\Q (.bl (!decide (x=y))) H
theorem Jf {i j:Int}:decide (V.int i=V.int j)=(i==j):=by rw[Bool.eq_iff_iff];simp
theorem Jg {i j:Bool}:decide (V.bl i=V.bl j)=(i==j):=by rw[Bool.eq_iff_iff];simp
theorem Jh {i j:Str}:decide (V.str i=V.str j)=(i==j):=by rw[Bool.eq_iff_iff];simp
theorem Ji {i j:Array UInt8}:decide (V.fu i=V.fu j)=(i.toList==j.toList):=by rw[Bool.eq_iff_iff];cases i;cases j;simp
section
variable {X:Cx}{a b c:Expr}{ta tb tc:TE}{pos:Pos}
theorem zr {pins:List (Addr×Obj)}{U:St}{H:Hp}{s:Shared}{Q:VK}{k k':Bool}(I:Inv X pins U H s)(q:Q (.bl k) H)(e:k=k'):EP X pins U Q (.bool k') s:=by subst e;exact⟨.bl k,H,I,rfl,q⟩
theorem fC:bQ X (compareOp .Eq) QW:=by
 intro pins s U H x y v u Q I rx ry h;obtain⟨hs,q⟩:=h;cases x with
 |aj=>
  cases rx;cases y with
  |aj=>cases ry;exact PySem.EqNone.eq_none_none (zr I q (by simp))
  |bl j=>cases ry;exact PySem.EqNone.eq_none_bool (zr I q (by simp))
  |int j=>obtain⟨t',rfl⟩:=ry;exact PySem.EqNone.eq_none_int (zr I q (by simp))
  |str j=>obtain⟨t',rfl⟩:=ry;exact PySem.EqNone.eq_none_str (zr I q (by simp))
  |_=>exact absurd (show false=true from hs) Bool.false_ne_true
 |bl i=>
  cases rx;cases y with
  |aj=>cases ry;exact PySem.EqNone.eq_bool_none (zr I q (by simp))
  |bl j=>cases ry;exact eq_bool (zr I q Jg)
  |str j=>obtain⟨t',rfl⟩:=ry;exact PySem.EqMixed.eq_bool_str (zr I q (by simp))
  |_=>exact absurd (show false=true from hs) Bool.false_ne_true
 |int i=>
  obtain⟨t,rfl⟩:=rx;cases y with
  |aj=>cases ry;exact PySem.EqNone.eq_int_none (zr I q (by simp))
  |int j=>obtain⟨t',rfl⟩:=ry;exact eq_int (zr I q Jf)
  |str j=>obtain⟨t',rfl⟩:=ry;exact PySem.EqMixed.eq_int_str (zr I q (by simp))
  |_=>exact absurd (show false=true from hs) Bool.false_ne_true
 |str i=>
  obtain⟨t,rfl⟩:=rx;cases y with
  |aj=>cases ry;exact PySem.EqNone.eq_str_none (zr I q (by simp))
  |bl j=>cases ry;exact PySem.EqMixed.eq_str_bool (zr I q (by simp))
  |int j=>obtain⟨t',rfl⟩:=ry;exact PySem.EqMixed.eq_str_int (zr I q (by simp))
  |str j=>obtain⟨t',rfl⟩:=ry;exact eq_str (zr I q Jh)
  |_=>exact absurd (show false=true from hs) Bool.false_ne_true
 |fu i=>
  obtain⟨t,rfl⟩:=rx;cases y with
  |fu j=>obtain⟨t',rfl⟩:=ry;exact PySem.W.eq_bytes (zr I q Ji)
  |_=>exact absurd (show false=true from hs) Bool.false_ne_true
 |_=>cases y<;>exact absurd (show false=true from hs) Bool.false_ne_true
theorem sP:bQ X (compareOp .NotEq) QX:=by
 intro pins s U H x y v u Q I rx ry h;obtain⟨hs,q⟩:=h;cases x with
 |aj=>
  cases rx;cases y with
  |aj=>cases ry;exact PySem.EqNone.ne_none_none (zr I q (by simp))
  |bl j=>cases ry;exact PySem.EqNone.ne_none_bool (zr I q (by simp))
  |int j=>obtain⟨t',rfl⟩:=ry;exact PySem.EqNone.ne_none_int (zr I q (by simp))
  |str j=>obtain⟨t',rfl⟩:=ry;exact PySem.EqNone.ne_none_str (zr I q (by simp))
  |_=>exact absurd (show false=true from hs) Bool.false_ne_true
 |bl i=>
  cases rx;cases y with
  |aj=>cases ry;exact PySem.EqNone.ne_bool_none (zr I q (by simp))
  |bl j=>cases ry;exact ne_bool (zr I q (congrArg not Jg))
  |str j=>obtain⟨t',rfl⟩:=ry;exact PySem.EqMixed.ne_bool_str (zr I q (by simp))
  |_=>exact absurd (show false=true from hs) Bool.false_ne_true
 |int i=>
  obtain⟨t,rfl⟩:=rx;cases y with
  |aj=>cases ry;exact PySem.EqNone.ne_int_none (zr I q (by simp))
  |int j=>obtain⟨t',rfl⟩:=ry;exact ne_int (zr I q (congrArg not Jf))
  |str j=>obtain⟨t',rfl⟩:=ry;exact PySem.EqMixed.ne_int_str (zr I q (by simp))
  |_=>exact absurd (show false=true from hs) Bool.false_ne_true
 |str i=>
  obtain⟨t,rfl⟩:=rx;cases y with
  |aj=>cases ry;exact PySem.EqNone.ne_str_none (zr I q (by simp))
  |bl j=>cases ry;exact PySem.EqMixed.ne_str_bool (zr I q (by simp))
  |int j=>obtain⟨t',rfl⟩:=ry;exact PySem.EqMixed.ne_str_int (zr I q (by simp))
  |str j=>obtain⟨t',rfl⟩:=ry;exact ne_str (zr I q (congrArg not Jh))
  |_=>exact absurd (show false=true from hs) Bool.false_ne_true
 |fu i=>
  obtain⟨t,rfl⟩:=rx;cases y with
  |fu j=>obtain⟨t',rfl⟩:=ry;exact PySem.W.ne_bytes (zr I q (congrArg not Ji))
  |_=>exact absurd (show false=true from hs) Bool.false_ne_true
 |_=>cases y<;>exact absurd (show false=true from hs) Bool.false_ne_true
theorem Jj:bQ X (compareOp .Lt) (mx λi j=>.bl (decide (i<j))):=yR λ_ _ _ _ _ _ _ q=>lt_int q
theorem nU:bQ X (compareOp .LtE) (mx λi j=>.bl (decide (i<=j))):=yR λ_ _ _ _ _ _ _ q=>le_int q
theorem yT:bQ X (compareOp .Gt) (mx λi j=>.bl (decide (j<i))):=yR λ_ _ _ _ _ _ _ q=>gt_int q
theorem Jk:bQ X (compareOp .GtE) (mx λi j=>.bl (decide (j<=i))):=yR λ_ _ _ _ _ _ _ q=>ge_int q
theorem Jl:bQ X (compareOp .Is) (λx y H Q=>y= .aj/\Q (.bl (decide (x= .aj))) H):=by
 intro pins s U H x y v u Q I rx ry h;obtain⟨rfl,q⟩:=h;cases ry;refine is_none_gen (zr I q ?_);cases x<;>first
  |(cases rx;rfl)
  |(obtain⟨t,rfl⟩:=rx;rfl)
theorem QY:bQ X (compareOp .IsNot) (λx y H Q=>y= .aj/\Q (.bl (!decide (x= .aj))) H):=by
 intro pins s U H x y v u Q I rx ry h;obtain⟨rfl,q⟩:=h;cases ry;refine isnot_none_gen (zr I q ?_);cases x<;>first
  |(cases rx;rfl)
  |(obtain⟨t,rfl⟩:=rx;rfl)
theorem j7 (b:Expr){op:CmpOp}(h:autoParam (op≠.In) aP2)(h2:autoParam (op≠.NotIn) aP2):behindInMarks op b=false:=by
 have e:(op==CmpOp.In||op==CmpOp.NotIn)=false:=by cases op<;>first|rfl|exact absurd rfl h|exact absurd rfl h2
 cases b<;>first|rfl|(show(_&&_&&_)=false;rw[e,Bool.and_false];rfl)
theorem il {op:CmpOp}{r:R2}(ho:bQ X (compareOp op) r)(ha:PE X a ta)(hb:PE X b tb)(hm:behindInMarks op b=false):PE X (.Compare a [op] [b] pos) (qG r ta tb):=by intro pins s U H Q I h;exact wpAny_Compare1 (Cz ha hb I h λv u s2 x y H2 I2 rx ry q=>ho pins s2 U H2 x y v u Q I2 rx ry q) hm
noncomputable def QZ (t:TE):TT:=λ U H Q=>t U H λx H'=>∃k,x= .bl k/\Q k H'
theorem jy {op:CmpOp}{r:R2}(ho:bQ X (compareOp op) r)(ha:PE X a ta)(hb:PE X b tb)(hm:behindInMarks op b=false):PT X (.Compare a [op] [b] pos) (QZ (qG r ta tb)):=by
 intro pins s U H Q I h;refine wpAny_isTrue_Compare1 (aq (ha pins s U H _ I h) λv s1 ⟨x,H1,I1,r1,q1⟩=>aq (hb pins s1 U H1 _ I1 q1) λu s2 ⟨y,H2,I2,r2,q2⟩=>aq (ho pins s2 U H2 x y v u _ I2 r1 r2 q2) λc s3 zQ=>?_) hm;obtain⟨z,H3,I3,r3,k,e,q3⟩:=zQ;subst e;cases r3;exact wpAny_truthy_bool ⟨H3,I3,q3⟩
noncomputable def Q0 (r r':R2)(ta tb tc:TE):TE:=λ U H Q=>ta U H λx H1=>tb U H1 λy H2=>r x y H2 λz H3=>∃k,z= .bl k/\(if k=true then tc U H3 λw' H4=>r' y w' H4 Q else Q (.bl false) H3)
theorem Jm {op CF:CmpOp}{r r':R2}(ho:bQ X (compareOp op) r)(aV:bQ X (compareOp CF) r')(ha:PE X a ta)(hb:PE X b tb)(hc:PE X c tc)(hm:lastMarks [op,CF] [b,c]=false:=by with_unfolding_all rfl):PE X (.Compare a [op,CF] [b,c] pos) (Q0 r r' ta tb tc):=by
 intro pins s U H Q I h;refine Compare_chain (aq (ha pins s U H _ I h) λv s1 ⟨x,H1,I1,r1,q1⟩=>chain_link (aq (hb pins s1 U H1 _ I1 q1) λu s2 ⟨y,H2,I2,r2,q2⟩=>aq (ho pins s2 U H2 x y v u _ I2 r1 r2 q2) λd s3 zQ=>?_)) hm;obtain⟨z,H3,I3,r3,k,e,q3⟩:=zQ;subst e;cases r3;refine wpAny_truthy_bool ?_;cases k with
 |false=>exact ite_ff ⟨.bl false,H3,I3,rfl,q3⟩
 |true=>exact ite_tt (chain_last (aq (hc pins s3 U H3 _ I3 q3) λw' s4 ⟨z',H4,I4,r4,q4⟩=>aV pins s4 U H4 y z' u w' Q I4 r2 r4 q4))
noncomputable def Jn (K:PySem.W.Frag)(x:V)(H:Hp)(k:Bool):Prop:=match x with
 | .aj=>k=false
 | .bl b=>k=b
 | .int i=>k=(i != 0)
 | .str y=>y.length<=sizeLine/\k=((y.length:Int) != 0)
 | .fu y=>y.size<=sizeLine/\k=((y.size:Int) != 0)
 | .ref p=>(∃xs,ai K H p xs/\k=!xs.isEmpty)\/(∃xs,ax K H p xs/\k=!xs.isEmpty)\/∃aa,H p=some (.dK aa)/\k=!aa.isEmpty
 |_=>False
theorem Q1 {B:Type}{aa:List (B×V)}{vs:List (B×Value)}(r:KV aa vs):(!vs.isEmpty)=!aa.isEmpty:=by cases r<;>rfl
theorem Jo {xs:List V}{its:List Value}(r:Vals xs its):(!its.toArray.isEmpty)=!xs.isEmpty:=by cases r<;>simp
theorem nW:(sizeLine:Nat)<2^63:=by rw[sizeLine_eq];decide
theorem Q2:QO X (λx H Q=>∃k,Jn X.K x H k/\Q k H):=by
 intro pins s U H x v Q I rx h;obtain⟨k,e,q⟩:=h;have hl:=nW;have hs:sizeLine=16777216:=sizeLine_eq;cases x with
 |aj=>cases rx;have e':k=false:=e;subst e';exact truthy_none ⟨H,I,q⟩
 |bl b=>cases rx;have e':k=b:=e;subst e';exact wpAny_truthy_bool ⟨H,I,q⟩
 |int i=>obtain⟨t,rfl⟩:=rx;have e':k=(i != 0):=e;subst e';exact PySem.P.truthy_int ⟨H,I,q⟩
 |str y=>obtain⟨t,rfl⟩:=rx;obtain⟨hy,e'⟩:y.length<=sizeLine/\k=((y.length:Int) != 0):=e;subst e';exact PySem.P.truthy_str (by lia) ⟨H,I.tok _,q⟩
 |fu y=>obtain⟨t,rfl⟩:=rx;obtain⟨hy,e'⟩:y.size<=sizeLine/\k=((y.size:Int) != 0):=e;subst e';exact PySem.W.truthy_bytes (by lia) ⟨H,I.tok _,q⟩
 |ref p=>
  cases rx;have e':(∃xs,ai X.K H p xs/\k=!xs.isEmpty)\/(∃xs,ax X.K H p xs/\k=!xs.isEmpty)\/∃aa,H p=some (.dK aa)/\k=!aa.isEmpty:=e;rcases e' with⟨xs,hx,e'⟩|⟨xs,hx,e'⟩|⟨aa,hx,e'⟩
  .subst e';obtain⟨its,r,pl,hz⟩:=I.list hx;have hlen:=r.length;exact wpAny_truthy_list pl.isList (by simp only[size_toArray];lia) ⟨H,I.tok _,by rw[Jo r];exact q⟩
  .subst e';obtain⟨its,r,pl,hz⟩:=I.tuple hx;have hlen:=r.length;exact truthy_tuple pl (by simp only[size_toArray];lia) ⟨H,I.tok _,by rw[Jo r];exact q⟩
  .subst e';obtain⟨hz,hS,vs,r,m⟩:aa.length<=sizeLine/\(p==sysModules)=false/\∃vs,KV aa vs/\s.heap.DictOf (qh X.prog X.w) p vs:=I.ag p _ hx;have hlen:aa.length=vs.length:=Paired.length r;exact wpAny_truthy_dict hS m (by lia) ⟨H,I.tok _,by rw[Q1 r];exact q⟩
 |_=>exact(show False from e).elim
theorem Q3 (ha:PE X a ta)(he:∀whole,isTrue a X.env whole=(do let v<-whole;standAt a.pos;holding [v] (truthy v))):PT X a (λ U H Q=>ta U H λx H'=>∃k,Jn X.K x H' k/\Q k H'):=by
 intro pins s U H Q I h;exact isTrue_plain (aq (ha pins s U H _ I h) λv s1 ⟨x,H1,I1,r1,q1⟩=>Q2 pins s1 U H1 x v Q I1 r1 q1) (he _)
theorem vals1 {x:V}{us:List Value}(r:Vals [x] us):∃u,us=[u]/\RelV x u:=by
 cases r with
 |cons r1 r2=>cases r2;exact⟨_,rfl,r1⟩
theorem vals2 {x y:V}{us:List Value}(r:Vals [x,y] us):∃u w',us=[u,w']/\RelV x u/\RelV y w':=by
 cases r with
 |cons r1 r2=>
  cases r2 with
  |cons r3 r4=>cases r4;exact⟨_,_,rfl,r1,r3⟩
end
structure nX (h:Heap)(x dx C:Addr)(mA:Str->Option Value):Prop where
 obj:h.get? x=some (PySem.W.instObj C dx)
 ns:h.Ns1 dx mA
 ne:dx≠x
theorem Q4 {h:Heap}{dx:Addr}{mA:Str->Option Value}(n:h.Ns1 dx mA):∃od,h.get? dx=some od/\∀name,PySem.W.lookIn name od=some (mA name):=by
 obtain⟨o,es,ep,ho,hd,hk,_,hm⟩:=n;refine⟨o,ho,λname=>?_⟩;have e:=hm name;unfold nsFind findBy at e;rw[<-Array.find?_toList]at e;unfold PySem.W.lookIn;rw[hd];dsimp only;split
 .rename_i y q;rw[q]at e;exact congrArg some e
 .rename_i q;rw[q]at e;have a:es.toList.any (·.refKey)=false:=by
   rw[List.any_eq_false];intro y hy;obtain⟨z,t,cp⟩:=hk y (Array.mem_toList_iff.mp hy);simp[DictEntry.refKey,cp]
  have a':¬es.toList.any (·.refKey)=true:=by rw[a];exact Bool.false_ne_true
  rw[if_neg a'];exact congrArg some e
theorem nX.look {h:Heap}{x dx C:Addr}{mA:Str->Option Value}(I:nX h x dx C mA):∃od,PySem.W.InstAt h x (PySem.W.instObj C dx) C (some od)/\∀name,PySem.W.lookIn name od=some (mA name):=
 let⟨od,ho,hl⟩:=Q4 I.ns
 ⟨od,⟨I.obj,rfl,rfl,ho⟩,hl⟩
section
variable {prog:Program}{w:World}{A:Around}{E:Value->Shared->Prop}{s:Shared}{K:PySem.W.Frag}{x dx C f:Addr}{mA:Str->Option Value}{name:Str}{v:Value}
theorem get_map {expr:Bool}{Q:Value->Shared->Prop}(X:K.In s.heap)(I:nX s.heap x dx C mA)(hg:PySem.W.plainGet K C name=true)(hh:PySem.W.hasDictIn K C=true)(ha:PySem.W.findIn K (.ref C) name=some none)(hv:mA name=some v)(Q5:PySem.W.handedIn v=true)(h:Q v {s with toks:=s.toks+1}):
  wpAny (model prog w) A (getAttr (.ref x) name expr) Q E s:=by
 obtain⟨od,J,hl⟩:=I.look;exact PySem.W.get_value X J (PySem.W.plainGet_of hg).1 (PySem.W.findObj_own hh ha rfl (by rw[hl,hv])) Q5 h
theorem Q6 {pl:Sem Bool}{Q:Value×List Value->Shared->Prop}(X:K.In s.heap)(I:nX s.heap x dx C mA)(hg:PySem.W.plainGet K C name=true)(hf:PySem.W.findIn K (.ref C) name=some (some (.ref f)))(ht:PySem.W.isFn K (.ref f)=true)(hv:mA name=none)(h:Q (.ref f,[.ref x]) s):
  wpAny (model prog w) A (getMethod (.ref x) name pl) Q E s:=by
 obtain⟨od,J,hl⟩:=I.look;exact PySem.W.method_fn X J (PySem.W.plainGet_of hg).1 (PySem.W.plainGet_of hg).2 hf (beq_iff_eq.mp ht) (by show(PySem.W.lookIn name od).map (·.isSome)=some false;rw[hl,hv];rfl) h
theorem CG {ns:List Str}{Q:Unit->Shared->Prop}(X:K.In s.heap)(I:nX s.heap x dx C mA)(hs:PySem.W.findIn K (.ref C) "__setattr__"=some (some (.builtin "object.__setattr__")))(hp:PySem.W.plainOver K C=true)(ht:PySem.W.takerIn K C name=some none)(hh:PySem.W.hasDictIn K C=true)(hw:PySem.Within mA ns)(hsz:ns.length<=sizeLine)(h:∀h',nX h' x dx C (λy=>if y=name then some v else mA y)->Heap.SameBut dx s.heap h'->Q () {s with heap:=h',toks:=s.toks+2}):
  wpAny (model prog w) A (setAttr (.ref x) name v) Q E s:=by
 obtain⟨od,J,hl⟩:=I.look;refine PySem.W.set_plain X J hs (PySem.W.osa_open (s:={s with toks:=s.toks+1}) (r:=none) X J hp ht λb=>?_);obtain⟨cd,hc,aZ⟩:=PySem.W.any_some hh;have hx:s.heap.get? x=some ⟨.ref C,some dx,.plain,#[]⟩:=I.obj;refine wpAny_bind (wpAny_pure (wpAny_bind (wpAny_bind (wpAny_loadPart hx (wpAny_bind (PySem.W.Looks.here (s:={s with toks:=s.toks+1}) (PySem.W.looks_clsIn X hc) ?_))))));rw[aZ];refine wpAny_pure (a:=some dx) (wpAny_bind (wpAny_pure (wpAny_bind ?_)));refine wpAny_nsSet1 (s:={s with toks:=s.toks+1}) I.ns λh' qI nY=>?_;obtain⟨oD,Q7,Q8,CH,CI,iT⟩:=qI.count (PySem.Within.cons name v hw);refine wpAny_bind (wpAny_lookBehind CH (by rw[CI];exact pastItsLine_dict (le_trans iT (by rw[length_cons];lia))) ?_);exact wpAny_pure (h _ ⟨(nY.2 _ (Ne.symm I.ne)).trans I.obj,qI,I.ne⟩ nY)
theorem Jq {R:Result->Shared->Prop}{vs:List Value}{kw:List (Str×Value)}(X:K.In s.heap)(hm:PySem.W.makesIn K C=true)(hi:PySem.W.findIn K (.ref C) "__init__"=some (some (.ref f)))(hf:PySem.W.typeIn K (.ref f)=some (.type "function"))(h:codeAny (model prog w) (A.under (.builtin "type.__call__" ⟨.ref C::vs,kw⟩)) (.call (.ref f) ⟨.ref (s.heap.objs.size+1)::vs,kw⟩) (PySem.W.InitBack (s.heap.objs.size+1) R) {s with heap:=(s.heap.push PySem.W.emptyDict).push (PySem.W.instObj C s.heap.objs.size)}):
  codeAny (model prog w) A (.call (.ref C) ⟨vs,kw⟩) R s:=by
 obtain⟨hh,g,d,t,os⟩:=s;exact PySem.W.make_core (PySem.W.makes_of X hm) (PySem.W.looks_findIn X hi) (λself=>PySem.W.bind_fn X self hf) (.inl rfl) h
end
noncomputable def vy (f:Str)(v:V):List (Str×V)->List (Str×V)
 |[]=>[(f,v)]
 |(g,x)::r=>if g=f then(g,v)::r else(g,x)::vy f v r
theorem jk (f g:Str)(v:V):∀fs:List (Str×V),(vy f v fs).lookup g=if g=f then some v else fs.lookup g
 |[]=>by
  show List.lookup g [(f,v)]=_;by_cases h:g=f
  .have hb:(g==f)=true:=beq_iff_eq.mpr h;simp only[List.lookup,hb,if_pos h]
  .have hb:(g==f)=false:=beq_eq_false_iff_ne.mpr h;simp only[List.lookup,hb,if_neg h]
 | (k,x)::r=>by
  have ih:=jk f g v r;rw[show vy f v ((k,x)::r)=(if k=f then(k,v)::r else(k,x)::vy f v r)from rfl];by_cases hk:k=f
  .rw[if_pos hk];by_cases h:g=k
   .have hb:(g==k)=true:=beq_iff_eq.mpr h;simp only[List.lookup,hb,if_pos (h.trans hk)]
   .have hb:(g==k)=false:=beq_eq_false_iff_ne.mpr h;simp only[List.lookup,hb,if_neg (λe:g=f=>h (e.trans hk.symm))]
  .rw[if_neg hk];by_cases h:g=k
   .have hb:(g==k)=true:=beq_iff_eq.mpr h;simp only[List.lookup,hb,if_neg (λe:g=f=>hk (h.symm.trans e))]
   .have hb:(g==k)=false:=beq_eq_false_iff_ne.mpr h;simp only[List.lookup,hb];exact ih
theorem CJ (f:Str)(v:V):∀fs:List (Str×V),f∈(vy f v fs).map (·.1)/\∀g,g∈fs.map (·.1)->g∈(vy f v fs).map (·.1)
 |[]=>⟨by simp[vy],λg h=>by simp at h⟩
 | (k,x)::r=>by
  obtain⟨i1,i2⟩:=CJ f v r;rw[show vy f v ((k,x)::r)=(if k=f then(k,v)::r else(k,x)::vy f v r)from rfl];by_cases hk:k=f
  .rw[if_pos hk];subst hk;exact⟨by simp,λg h=>by simpa using h⟩
  .rw[if_neg hk];refine⟨?_,λg h=>?_⟩
   .rw[map_cons];exact mem_cons_of_mem _ i1
   .rw[map_cons]at h⊢;rcases mem_cons.mp h with e|e
    .exact mem_cons.mpr (.inl e)
    .exact mem_cons_of_mem _ (i2 g e)
theorem Jr (f:Str)(v:V):∀fs:List (Str×V),(vy f v fs).length<=fs.length+1
 |[]=>by simp[vy]
 |(k,x)::r=>by
  have ih:=Jr f v r;rw[show vy f v ((k,x)::r)=(if k=f then(k,v)::r else(k,x)::vy f v r)from rfl];by_cases hk:k=f
  .rw[if_pos hk,length_cons,length_cons];lia
  .rw[if_neg hk,length_cons,length_cons];lia
theorem dI.some_of {v:V}{o:Option Value}(r:dI (some v) o):∃u,o=some u/\RelV v u:=by
 cases o with
 |none=>exact(show False from r).elim
 |some u=>exact⟨u,rfl,r⟩
theorem dI.none_of {o:Option Value}(r:dI none o):o=none:=by
 cases o with
 |none=>rfl
 |some u=>exact(show False from r).elim
theorem Jt {v:V}{u:Value}(r:RelV v u):PySem.W.handedIn u=true:=by
 cases v with
 |aj=>cases(show u=Value.none from r);rfl
 |bl b=>cases(show u=Value.bool b from r);rfl
 |int i=>obtain⟨t,e⟩:=(show ∃t,u=Value.int i t from r);cases e;rfl
 |str x=>obtain⟨t,e⟩:=(show ∃t,u=Value.str x t from r);cases e;rfl
 |fu b=>obtain⟨t,e⟩:=(show ∃t,u=Value.bytes b t from r);cases e;rfl
 |mf b=>obtain⟨t,e⟩:=(show ∃t,u=Value.float b t from r);cases e;rfl
 |ref a=>cases(show u=Value.ref a from r);rfl
 |ty n=>cases(show u=Value.type n from r);rfl
section
variable {P:Program}{w:World}{H H':Hp}{h h':Heap}{a C dx:Addr}{fs fs':List (Str×V)}
theorem yU (ag:bJ P w H h)(e:H a=some (.ins C dx fs)):∃mA,nX h a dx C mA/\(∀f,dI (fs.lookup f) (mA f))/\PySem.Within mA (fs.map (·.1))/\fs.length<=1000/\H dx=some (.own a):=by obtain⟨d,z,ne,ob,mA,n,r,q⟩:=(show ym P w H h a (.ins C dx fs)from ag a _ e);exact⟨mA,⟨ob,n,ne⟩,r,q,z,d⟩
end
structure fe (K:PySem.W.Frag)(C:Addr):Prop where
 pg:PySem.W.plainGet K C Str.empty=true
 hd:PySem.W.hasDictIn K C=true
 po:PySem.W.plainOver K C=true
 sa:PySem.W.findIn K (.ref C) "__setattr__"=some (some (.builtin "object.__setattr__"))
theorem fe.get {K:PySem.W.Frag}{C:Addr}(c:fe K C)(f:Str):PySem.W.plainGet K C f=true:=c.pg
noncomputable def xx (K:PySem.W.Frag)(C:Addr)(f:Str):Prop:=PySem.W.findIn K (.ref C) f=some none
theorem xx.Q9 {K:PySem.W.Frag}{C:Addr}{f:Str}(n:xx K C f):PySem.W.takerIn K C f=some none:=by unfold PySem.W.takerIn;rw[show PySem.W.findIn K (.ref C) f=some none from n];rfl
structure Meth (K:PySem.W.Frag)(C:Addr)(m:Str)(f:Addr):Prop where
 at_:PySem.W.findIn K (.ref C) m=some (some (.ref f))
 fn:PySem.W.isFn K (.ref f)=true
 kp:PySem.W.keepIn K (.ref f)=true
section
variable {X:Cx}{pins:List (Addr×Obj)}{U:St}{H:Hp}{s:Shared}{a C dx:Addr}{fs:List (Str×V)}{f:Str}{v:V}{A:Around}{E:Value->Shared->Prop}
theorem Ra {b:Bool}{Q:Value->Shared->Prop}(I:Inv X pins U H s)(e:H a=some (.ins C dx fs))(c:fe X.K C)(n:xx X.K C f)(l:fs.lookup f=some v)(h:∀u s',Inv X pins U H s'->RelV v u->Q u s'):wpAny (model X.prog X.w) A (getAttr (.ref a) f b) Q E s:=by
 obtain⟨mA,O,r,_,_,_⟩:=yU I.ag e;obtain⟨u,hu,ru⟩:=dI.some_of (v:=v) (o:=mA f) (by rw[<-l];exact r f);exact get_map I.aU O (c.get f) c.hd n hu (Jt ru) (h u _ (I.tok _) ru)
theorem CK {m:Str}{g:Addr}{pl:Sem Bool}{Q:Value×List Value->Shared->Prop}(I:Inv X pins U H s)(e:H a=some (.ins C dx fs))(c:fe X.K C)(k:Meth X.K C m g)(l:fs.lookup m=none)(h:Q (.ref g,[.ref a]) s):wpAny (model X.prog X.w) A (getMethod (.ref a) m pl) Q E s:=by
 obtain⟨mA,O,r,_,_,_⟩:=yU I.ag e;have hn:mA m=none:=dI.none_of (by rw[<-l];exact r m);exact Q6 I.aU O (c.get m) k.at_ k.fn hn h
theorem Rb {y:V}{u:Value}{Q:Unit->Shared->Prop}(I:Inv X pins U H s)(e:H a=some (.ins C dx fs))(c:fe X.K C)(n:xx X.K C f)(hl:fs.length<1000)(ry:RelV y u)(h:∀s',Inv X pins U (upd H a (.ins C dx (vy f y fs))) s'->Q () s'):wpAny (model X.prog X.w) A (setAttr (.ref a) f u) Q E s:=by
 obtain⟨mA,O,r,wi,_,ho⟩:=yU I.ag e;have hz:(fs.map (·.1)).length<=sizeLine:=by rw[length_map,sizeLine_eq];lia
 refine CG I.aU O c.sa c.po n.Q9 c.hd wi hz λh' O' sb=>h _ ?_;have hd:∃o,h'.get? dx=some o:=let⟨o,_,_,e',_⟩:=O'.ns;⟨o,e'⟩;refine I.write (x:=a) (e:=dx) (by rw[e];exact True.intro) (.inr ho) (λb q hb z=>(sb.2 b hb).trans z) hd ?_;refine⟨by rw[jd O.ne];exact ho,?_,O.ne,O'.obj,_,O'.ns,λg=>?_,λg hg=>?_⟩
 .have:=Jr f y fs;lia
 .show dI ((vy f y fs).lookup g) (if g=f then some u else mA g);rw[jk];by_cases q:g=f
  .rw[if_pos q,if_pos q];exact ry
  .rw[if_neg q,if_neg q];exact r g
 .by_cases q:g=f
  .rw[q];exact(CJ f y fs).1
  .refine(CJ f y fs).2 g (wi g λz=>hg ?_);show(if g=f then some u else mA g)=none;rw[if_neg q];exact z
theorem Inv.made (I:Inv X pins U H s):Inv X pins U (upd (upd H s.heap.objs.size (.own (s.heap.objs.size+1))) (s.heap.objs.size+1) (.ins C s.heap.objs.size [])) {s with heap:=(s.heap.push PySem.W.emptyDict).push (PySem.W.instObj C s.heap.objs.size)}:=by
 have e1:(s.heap.push PySem.W.emptyDict).get? s.heap.objs.size=some PySem.W.emptyDict:=Heap.get?_push_size s.heap rfl;have e2:((s.heap.push PySem.W.emptyDict).push (PySem.W.instObj C s.heap.objs.size)).get? (s.heap.objs.size+1)=some (PySem.W.instObj C s.heap.objs.size):=by have:=Heap.get?_push_size (s.heap.push PySem.W.emptyDict) (o:=PySem.W.instObj C s.heap.objs.size) rfl;rwa[Heap.size_push]at this
 have e3:(s.heap.push PySem.W.emptyDict).Ns s.heap.objs.size (λ_=>none):=⟨PySem.W.emptyDict,#[],_,e1,rfl,(λe he=>absurd he (by simp)),λ_=>rfl⟩;have I1:=I.laid (a:=s.heap.objs.size) (o:=.own (s.heap.objs.size+1)) (h':=s.heap.push PySem.W.emptyDict) (t':=s.toks) (λb u q=>Heap.get?_push_of_some _ q) (le_refl _) ⟨_,e1⟩;refine I1.laid (a:=s.heap.objs.size+1) (o:=.ins C s.heap.objs.size []) (t':=s.toks) (λb u q=>Heap.get?_push_of_some _ q) (Nat.le_of_eq (Heap.size_push _ _)) ?_;have ne:s.heap.objs.size≠s.heap.objs.size+1:=ne_of_lt (lt_succ_self _);refine⟨by rw[jd ne,ja],zero_le _,ne,e2,λ_=>none,(Heap.Ns1.of_empty e3).at λo q=>Heap.get?_push_of_some _ q,λ_=>True.intro,λy hy=>absurd rfl hy⟩
theorem Ju {prog:Program}{w:World}{env:Env}{e:Expr}{f:Str}{pos:Pos}{s:Shared}{Q:Value->Shared->Prop}(hb:attributeBase e f env (eval e env)=eval e env)(h:wpAny (model prog w) A (eval e env) (λo ar=>wpAny (model prog w) A (getAttr o f true) Q E ar) E s):wpAny (model prog w) A (eval (.Attribute e f pos) env) Q E s:=
 Attribute_any_ h (by rw[arm_eval_Attribute,hb])
end
noncomputable def Rc (K:PySem.W.Frag)(ta:TE)(f:Str):TE:=λ U H Q=>ta U H λx H1=>∃a C dx fs v,x= .ref a/\H1 a=some (.ins C dx fs)/\fe K C/\xx K C f/\fs.lookup f=some v/\Q v H1
noncomputable def Rf (K:PySem.W.Frag)(ta tv:TE)(f:Str):TS:=λD U H=>tv U H λy H1=>ta U H1 λx H2=>∃a C dx fs,x= .ref a/\H2 a=some (.ins C dx fs)/\fe K C/\xx K C f/\fs.length<1000/\D.nx U (upd H2 a (.ins C dx (vy f y fs)))
section
variable {X:Cx}{o e value:Expr}{f:Str}{pos pos' fB:Pos}{ta tv:TE}
theorem j4 (he:PE X e ta)(hb:attributeBase e f X.env (eval e X.env)=eval e X.env):PE X (.Attribute e f pos) (Rc X.K ta f):=by intro pins s U H Q I h;refine Ju hb (aq (he pins s U H _ I h) λu s1 zQ=>?_);obtain⟨x,H1,I1,rx,a,C,dx,fs,v,ex,ea,c,n,l,q⟩:=zQ;subst ex;obtain rfl:u=Value.ref a:=rx;exact Ra I1 ea c n l λu' s2 I2 ru=>⟨v,H1,I2,ru,q⟩
theorem ko (ha:PE X o ta)(hv:PE X value tv)(hs:swapsWith value (some (.Attribute o f pos')) pos.line X.env=pure false):PS X (.Assign [.Attribute o f pos'] value pos) (Rf X.K ta tv f):=by intro pins s U H D I h;refine plainObj_wpAny_Assign_Attribute (aq (hv pins s U H _ I h) λu s1 ⟨y,H1,I1,ry,q⟩=>aq (ha pins s1 U H1 _ I1 q) λov s2 zQ=>?_) hs;obtain⟨x,H2,I2,rx,a,C,dx,fs,ex,ea,c,n,l,q2⟩:=zQ;subst ex;obtain rfl:ov=Value.ref a:=rx;exact Rb I2 ea c n l ry λs3 I3=>⟨U,_,I3,q2⟩
theorem j52 {pl:Sem Bool}{m:Str}{apos:Pos}{args:List Expr}{pins:List (Addr×Obj)}{s:Shared}{U:St}{H:Hp}{Q:Value->Shared->Prop}{te:TE}(he:PE X e te)(I:Inv X pins U H s)(h:te U H λx H1=>∃a C dx fs g,x= .ref a/\H1 a=some (.ins C dx fs)/\fe X.K C/\Meth X.K C m g/\fs.lookup m=none/\∀s1,Inv X pins U H1 s1->wpAny (model X.prog X.w) X.A (callWith pos (.ref g) [.ref a] (backTo pos (starEach args X.env)) (backToKw pos (keywordEach [] X.env))) Q X.xe s1)(ht:eval (.Call (.Attribute e m apos) args [] pos) X.env=(do
   let ov<-eval e X.env
   standAt apos.atName
   let(f,first)<-holding [ov] (getMethod ov m pl)
   callWith pos f first (backTo pos (starEach args X.env)) (backToKw pos (keywordEach [] X.env)))) :
  wpAny (model X.prog X.w) X.A (eval (.Call (.Attribute e m apos) args [] pos) X.env) Q X.xe s:=by
 refine PySem.W.methodCall_KW (pl:=pl) (aq (he pins s U H _ I h) λu s1 zQ=>?_) ht;obtain⟨x,H1,I1,rx,a,C,dx,fs,g,ex,ea,c,k,l,q⟩:=zQ;subst ex;obtain rfl:u=Value.ref a:=rx;exact CK I1 ea c k l (q s1 I1)
end
section
variable {X:Cx}{pins:List (Addr×Obj)}{U:St}{H:Hp}{s:Shared}{A:Around}{E:Value->Shared->Prop}{Q:Value->Shared->Prop}{c:Value}{b:Bool}
inductive fZ (K:PySem.W.Frag)(H:Hp):V->Value->Prop where
 |aj:fZ K H .aj (.type "NoneType")
 |bl (x:Bool):fZ K H (.bl x) (.type "bool")
 |int (i:Int):fZ K H (.int i) (.type "int")
 |str (x:Str):fZ K H (.str x) (.type "str")
 |mf (x:UInt64):fZ K H (.mf x) (.type "float")
 |lst {a:Addr} {xs:List V} (e:H a=some (.lst xs)):fZ K H (.ref a) (.type "list")
 |aE {a:Addr} {o:Obj} {xs:List V} (e:H a=some (.aE o (.lst xs))):fZ K H (.ref a) (.type "list")
 |tup {a:Addr} {xs:List V} (e:H a=some (.tup xs)):fZ K H (.ref a) (.type "tuple")
 |dK {a:Addr} {aa:List (Key×V)} (e:H a=some (.dK aa)):fZ K H (.ref a) (.type "dict")
 |dT {a:Addr} {aa:List (List Key×V)} (e:H a=some (.dT aa)):fZ K H (.ref a) (.type "dict")
 |ins {a C dx:Addr} {fs:List (Str×V)} (e:H a=some (.ins C dx fs)) (cl:fe K C) (ha:PySem.W.findIn K (.ref C) "__class__"=some (some (.builtin "object.__class__"))) (hn:PySem.W.specialIn K (.builtin "object.__class__") "__get__"=some (some (.builtin "getset_descriptor.__get__"))) (Jv:PySem.W.takesIn K (.builtin "object.__class__")=some true) (hm:PySem.W.mroIn K C (.type "object")=some true):fZ K H (.ref a) (.ref C)
theorem Jw {x:V}{u t:Value}(I:Inv X pins U H s)(rx:RelV x u)(ty:fZ X.K H x t)(e:PySem.W.kitOne X.K t c=some b)(h:∀tk,Q (.bool b) {s with toks:=tk}):wpAny (model X.prog X.w) A (call (.builtin "isinstance") [u,c]) Q E s:=by
 cases ty with
 |aj=>cases(show u=Value.none from rx);exact PySem.W.kia_one PySem.W.kitx_none I.aU True.intro e (λz=>nomatch z) h
 |bl y=>cases(show u=Value.bool y from rx);exact PySem.W.kia_one PySem.W.kitx_bool I.aU True.intro e (λz=>nomatch z) h
 |int i=>obtain⟨t,q⟩:=(show ∃t,u=Value.int i t from rx);cases q;exact PySem.W.kia_one PySem.W.kitx_int I.aU True.intro e (λz=>nomatch z) h
 |str y=>obtain⟨t,q⟩:=(show ∃t,u=Value.str y t from rx);cases q;exact PySem.W.kia_one PySem.W.kitx_str I.aU True.intro e (λz=>nomatch z) h
 |mf y=>obtain⟨t,q⟩:=(show ∃t,u=Value.float y t from rx);cases q;exact PySem.W.kia_one PySem.W.kitx_float I.aU True.intro e (λz=>nomatch z) h
 |@lst a xs ea=>cases(show u=Value.ref a from rx);obtain⟨_,_,n,_,h1⟩:=(show ym X.prog X.w H s.heap a (.lst xs)from I.ag a _ ea);exact PySem.W.kia_one PySem.W.kitx_list I.aU ⟨_,h1,rfl⟩ e (λz=>nomatch z) h
 |@aE a ob xs ea=>cases(show u=Value.ref a from rx);obtain⟨_,_,_,n,_,h1⟩:=(show ym X.prog X.w H s.heap a (.aE ob (.lst xs))from I.ag a _ ea);exact PySem.W.kia_one PySem.W.kitx_list I.aU ⟨_,h1,rfl⟩ e (λz=>nomatch z) h
 |@tup a xs ea=>cases(show u=Value.ref a from rx);obtain⟨_,_,_,p⟩:=(show ym X.prog X.w H s.heap a (.tup xs)from I.ag a _ ea);obtain⟨o,h1,h2,_⟩:=p;exact PySem.W.kia_one PySem.W.kitx_tuple I.aU ⟨o,h1,h2⟩ e (λz=>nomatch z) h
 |@dK a aa ea=>cases(show u=Value.ref a from rx);obtain⟨_,_,vs,_,p⟩:=(show ym X.prog X.w H s.heap a (.dK aa)from I.ag a _ ea);obtain⟨o,es,ep,h1,h2,_⟩:=p;exact PySem.W.kia_one PySem.W.kitx_dict I.aU ⟨o,h1,h2.1⟩ e (λz=>nomatch z) h
 |@dT a aa ea=>cases(show u=Value.ref a from rx);obtain⟨_,_,xs,_,o,es,ep,h1,h2,_⟩:=(show ym X.prog X.w H s.heap a (.dT aa)from I.ag a _ ea);exact PySem.W.kia_one PySem.W.kitx_dict I.aU ⟨o,h1,h2.1⟩ e (λz=>nomatch z) h
 |@ins a C dx fs ea cl ha hn Jv hm=>cases(show u=Value.ref a from rx);obtain⟨mA,O,_⟩:=yU I.ag ea;obtain⟨od,J,_⟩:=O.look;exact PySem.W.kia_one (PySem.W.kitx_own (cl.get _) cl.hd ha hn Jv hm) I.aU J e (λz=>nomatch z) h
end
structure ba (k:Nat)(A:Around):Prop where
 hd:A.handled=none
 dp:A.depth+3*k+5<recursionLimit
 un:A.units+16*k+200<cLine
theorem ba.mono {j k:Nat}{A:Around}(r:ba k A)(h:j<=k):ba j A:=⟨r.hd,by have:=r.dp;lia,by have:=r.un;lia⟩
theorem ba.dn {j k:Nat}{A:Around}(r:ba k A)(h:autoParam (j<=k) aP2):ba j A:=r.mono h
theorem ba.deeper {k:Nat}{A:Around}(r:ba (k+1) A)(env:Env):ba k (A.deeper env):=⟨r.hd,by have:=r.dp;show A.depth+1+3*k+5<_;lia,by have:=r.un;show A.units+3+16*k+200<_;lia⟩
theorem Rg {A:Around}{C:Addr}{us:List Value}{kw:List (Str×Value)}:(A.under (.builtin "type.__call__" ⟨.ref C::us,kw⟩)).depth=A.depth+1:=by first|rfl|simp[Around.under,Code.weight,Code.isCreation,Code.isGuard,Code.isCaller,Code.frames,Code.isFrame,guardIds]
theorem Rh {A:Around}{C:Addr}{us:List Value}{kw:List (Str×Value)}:(A.under (.builtin "type.__call__" ⟨.ref C::us,kw⟩)).units=A.units+1:=by first|rfl|simp[Around.under,Code.cUnits,Code.frames,Code.isFrame]
theorem ba.make {k:Nat}{A:Around}(r:ba (k+1) A)(C:Addr)(us:List Value)(kw:List (Str×Value)):ba k (A.under (.builtin "type.__call__" ⟨.ref C::us,kw⟩)):=⟨r.hd,by have:=r.dp;rw[Rg];lia,by have:=r.un;rw[Rh];lia⟩
theorem ba.depth {k:Nat}{A:Around}(r:ba k A):A.depth<recursionLimit:=by have:=r.dp;lia
theorem ba.units {k:Nat}{A:Around}(r:ba k A):A.units+64<cLine:=by have:=r.un;lia
noncomputable def jV:TA:=λ_ H Q=>Q [] H
noncomputable def xu (ta:TE)(tr:TA):TA:=λ U H Q=>ta U H λx H1=>tr U H1 λxs H2=>Q (x::xs) H2
section
variable {X:Cx}{e:Expr}{es:List Expr}{te:TE}{t:TA}{pos:Pos}
theorem jg:PA X [] jV:=λ_ _ _ _ H Q I h=>Calls.spliced_nil ⟨[],H,I,.nil,h⟩
theorem Ri (ha:PE X e te)(hr:PA X es t)(hs:autoParam (starEach (e::es) X.env=(false,eval e X.env)::starEach es X.env) aP1):PA X (e::es) (xu te t):=by intro pos pins s U H Q I h;rw[hs];show wpAny _ _ (spliced ((false,eval e X.env)::backTo pos (starEach es X.env))) _ _ s;refine Calls.spliced_cons (aq (ha pins s U H _ I h) λu s1 zQ=>?_);obtain⟨x,H1,I1,r1,q1⟩:=zQ;exact aq (hr pos pins s1 U H1 _ I1 q1) λus s2 ⟨xs,H2,I2,r2,q2⟩=>⟨x::xs,H2,I2,.cons r1 r2,q2⟩
noncomputable def Rj (t:TA):TE:=λ U H Q=>t U H λxs H1=>xs.length<=sizeLine/\∀p,H1 p=none->Q (.ref p) (upd H1 p (.tup xs))
noncomputable def Rk (t:TA):TE:=λ U H Q=>t U H λxs H1=>xs.length<=sizeLine/\∀p,H1 p=none->Q (.ref p) (upd H1 p (.lst xs))
theorem qp {x1}(h:PA X es t):PE X (.Tuple es x1 pos) (Rj t):=by intro pins s U H Q I hq;refine wpAny_Tuple_spliced (aq (h pos pins s U H _ I hq) λus s1 ⟨xs,H1,I1,r,z,q⟩=>⟨by rw[<-r.length];exact z,?_⟩);have hf:H1 s1.heap.objs.size=none:=I1.ag.fresh (le_refl _);refine⟨.ref s1.heap.objs.size,upd H1 s1.heap.objs.size (.tup xs),I1.laid (t':=s1.toks) (λb u e=>Heap.get?_push_of_some _ e) (le_refl _) ?_,rfl,q _ hf⟩;exact⟨z,us,r,⟨_,Heap.get?_push_size _ rfl,rfl,_,rfl⟩⟩
theorem qk (h:PA X es t):PE X (.List es pos) (Rk t):=by intro pins s U H Q I hq;refine wpAny_List_spliced (aq (h pos pins s U H _ I hq) λus s1 ⟨xs,H1,I1,r,z,q⟩=>⟨by rw[<-r.length];exact z,?_⟩);have hf:H1 s1.heap.objs.size=none:=I1.ag.fresh (le_refl _);refine⟨.ref s1.heap.objs.size,upd H1 s1.heap.objs.size (.lst xs),I1.laid (t':=s1.toks) (λb u e=>Heap.get?_push_of_some _ e) (le_refl _) ?_,rfl,q _ hf⟩;exact⟨z,us,0,r,Heap.get?_push_size _ rfl⟩
end
noncomputable abbrev Sp:=List V->Hp->VK->XK->Prop
noncomputable abbrev eK:=List Env->Hp->Shared->XK->Value->Shared->Prop
structure nZ (P:Program)(w:World)(K:PySem.W.Frag)(mg:Str->Option Value)(base:Heap)(A:Around)(outer:List Env)(s:Shared)(H:Hp):Prop where
 frames:A.frames=some outer
 mod:Mod K mg base
 bs:∀b o,base.get? b=some o->s.heap.get? b=some o/\H b=none
 jO:base.objs.size<=s.heap.objs.size
 fc:s.heap.FunFrames base outer
 iQ:∀b∈bA outer,H b=none
 ag:bJ P w H s.heap
 bare:AllBare s.gens
noncomputable def CE (outer:List Env)(P:Program)(w:World)(H:Hp)(s:Shared)(Q:VK)(u:Value)(s':Shared):Prop:=∃v H',s'.os=s.os/\AllBare s'.gens/\Un (bA outer) [] H H' s.heap s'.heap/\bJ P w H' s'.heap/\RelV v u/\Q v H'
noncomputable def CR (CX:eK)(outer:List Env)(P:Program)(w:World)(H:Hp)(s:Shared)(Q:VK)(E:XK)(r:Result)(s':Shared):Prop:=match r with
 | .ok (.ret u)=>CE outer P w H s Q u s'
 | .ok _=>False
 | .error e=>CX outer H s E e s'
structure zi (P:Program)(w:World)(K:PySem.W.Frag)(mg:Str->Option Value)(base:Heap)(CX:eK)(k:Nat)(f:Addr)(fd:FuncData)(ps:List Str)(sp:Sp):Prop where
 len:∀vs H Q E,sp vs H Q E->vs.length=ps.length
 run:∀(A:Around)(outer:List Env)(s:Shared)(H:Hp)(args:Args)(us:List Value)(vs:List V)(Q:VK)(E:XK),ba k A->nZ P w K mg base A outer s H->BindsTo s fd args (ps.zip us)->Vals vs us->sp vs H Q E->codeAny (model P w) A (.call (.ref f) args) (CR CX outer P w H s Q E) s
theorem zi.imp {P:Program}{w:World}{K:PySem.W.Frag}{mg:Str->Option Value}{base:Heap}{CX:eK}{k:Nat}{f:Addr}{fd:FuncData}{ps:List Str}{sp Jx:Sp}(F:zi P w K mg base CX k f fd ps sp)(h:∀vs H Q E,Jx vs H Q E->sp vs H Q E):zi P w K mg base CX k f fd ps Jx:=⟨λvs H Q E q=>F.len vs H Q E (h _ _ _ _ q),λA outer s H args us vs Q E hr he hb hv hs=>F.run A outer s H args us vs Q E hr he hb hv (h _ _ _ _ hs)⟩
theorem nZ.make {P:Program}{w:World}{K:PySem.W.Frag}{mg:Str->Option Value}{base:Heap}{A:Around}{outer:List Env}{s:Shared}{H:Hp}(e:nZ P w K mg base A outer s H)(C:Addr)(us:List Value)(kw:List (Str×Value)):nZ P w K mg base (A.under (.builtin "type.__call__" ⟨.ref C::us,kw⟩)) outer s H:=⟨by first|exact e.frames|(simpa[Around.under,Code.envs,Code.isFrame,pushEnvs]using e.frames),e.mod,e.bs,e.jO,e.fc,e.iQ,e.ag,e.bare⟩
section
variable {X:Cx}{pins:List (Addr×Obj)}{U:St}{H:Hp}{s s':Shared}
theorem Inv.qJ (I:Inv X pins U H s):nZ X.prog X.w X.K X.mg X.base X.A X.stack s H:=⟨I.ok.frames,I.ok.mod,I.bs,le_trans I.ok.jO I.sz,I.stack,I.yF,I.ag,I.bare⟩
theorem Inv.after {Q:VK}{u:Value}(I:Inv X pins U H s)(h:CE X.stack X.prog X.w H s Q u s'):EP X pins U Q u s':=by obtain⟨v,H',os,bare,un,ag,r,q⟩:=h;obtain⟨hh,g,d,t,Rl⟩:=s';obtain rfl:Rl=s.os:=os;exact⟨v,H',I.call (h':=hh) (g':=g) (d':=d) (t':=t) (ch:=[]) un ag bare (λb z=>absurd z (by simp)),r,q⟩
end
noncomputable def Jy (sp:Sp)(bG:List V)(E:XK)(t:TA):TE:=λ U H Q=>t U H λvs H1=>sp (vs++bG) H1 Q E
noncomputable def Jz (C:Addr)(m:Str)(sp:Sp)(bG:List V)(E:XK)(ta:TE)(t:TA):TE:=λ U H Q=>ta U H λx H1=>∃a dx fs,x= .ref a/\H1 a=some (.ins C dx fs)/\fs.lookup m=none/\t U H1 λvs H2=>sp (x::(vs++bG)) H2 Q E
noncomputable def Rm (C:Addr)(sp:Sp)(bG:List V)(E:XK)(t:TA):TE:=λ U H Q=>t U H λvs H1=>∀x dx,H1 x=none->H1 dx=none->dx≠x->sp (.ref x::(vs++bG)) (upd (upd H1 dx (.own x)) x (.ins C dx [])) (λv H2=>v= .aj/\Q (.ref x) H2) E
noncomputable def Binds (K:PySem.W.Frag)(fd:FuncData)(ps:List Str)(ds:List Value):Prop:=∀(s:Shared)(us:List Value),K.In s.heap->(us++ds).length=ps.length->BindsTo s fd ⟨us,[]⟩ (ps.zip (us++ds))
theorem Binds.all {K:PySem.W.Frag}{fd:FuncData}{ps:List Str}(h:∀us:List Value,us.length=ps.length->bindArgs fd ⟨us,[]⟩=pure (ps.zip us)):Binds K fd ps []:=λs us _ hl=>by rw[append_nil]at hl⊢;exact .of_eq (h us hl)
noncomputable def Passes (CX:eK)(X:Cx)(E:XK):Prop:=∀(pins:List (Addr×Obj))(U:St)(H:Hp)(s:Shared)(e:Value)(s':Shared),Inv X pins U H s->CX X.stack H s E e s'->X.xe e s'
section
variable {X:Cx}{CX:eK}{k:Nat}{f C:Addr}{fd:FuncData}{ps:List Str}{sp:Sp}{bG:List V}{ds:List Value}{E:XK}{x m:Str}{p pos apos:Pos}{e o:Expr}{es:List Expr}{ta:TE}{t:TA}
theorem yV {pins:List (Addr×Obj)}{U:St}{H:Hp}{s:Shared}{Q:VK}{us:List Value}{vs:List V}(F:zi X.prog X.w X.K X.mg X.base CX k f fd ps sp)(hr:ba k X.A)(hb:Binds X.K fd ps ds)(hd:Vals bG ds)(hx:Passes CX X E)(I:Inv X pins U H s)(r:Vals vs us)(h:sp (vs++bG) H Q E):wpAny (model X.prog X.w) X.A (call (.ref f) us) (EP X pins U Q) X.xe s:=by
 have r2:Vals (vs++bG) (us++ds):=r.append hd;have hl:(us++ds).length=ps.length:=by rw[<-r2.length];exact F.len _ _ _ _ h
 refine wpAny_call (codeAny_mono (F.run X.A X.stack s H ⟨us,[]⟩ (us++ds) (vs++bG) Q E hr I.qJ (hb s us I.aU hl) r2 h) λr s' hq=>?_);cases r with
 |error e=>exact hx pins U H s e s' I hq
 |ok fl=>
  cases fl with
  |ret u=>exact I.after hq
  |next=>exact False.elim hq
  |brk=>exact False.elim hq
  |cont=>exact False.elim hq
theorem jn (F:zi X.prog X.w X.K X.mg X.base CX k f fd ps sp)(hr:ba k X.A)(hg:Gl X x)(hm:X.mg x=some (.ref f))(hk:PySem.W.keepIn X.K (.ref f)=true)(hb:Binds X.K fd ps ds)(hd:Vals bG ds)(hx:Passes CX X E)(ha:PA X (e::es) t)(cy:autoParam ((x==("__debug__":Str))=false) aP2)(he:autoParam (starEach (e::es) X.env=(false,eval e X.env)::starEach es X.env) aP1)(cu:autoParam ((backTo pos (starEach es X.env)).any (·.1)=false) aP1):
  PE X (.Call (.Name x p) (e::es) [] pos) (Jy sp bG E t):=by
 intro pins s U H Q I h;refine wpAny_Call_Name_kw (lq I hg hm ?_ cy);refine PySem.W.callWith_K (h₀:=X.base) I.ok.mod.iP hk (aq (ha pos pins s U H _ I h) λus s1 ⟨vs,H1,I1,r,q⟩=>⟨I1.aU,?_⟩) he cu;exact yV F hr hb hd hx I1 r q
theorem j6 {pl:Sem Bool}(he:PE X o ta)(c:fe X.K C)(hm:Meth X.K C m f)(F:zi X.prog X.w X.K X.mg X.base CX k f fd ps sp)(hr:ba k X.A)(hb:Binds X.K fd ps ds)(hd:Vals bG ds)(hx:Passes CX X E)(ha:PA X (e::es) t)(fY:autoParam (starEach (e::es) X.env=(false,eval e X.env)::starEach es X.env) aP1)(cu:autoParam ((backTo pos (starEach es X.env)).any (·.1)=false) aP1)(ht:autoParam (eval (.Call (.Attribute o m apos) (e::es) [] pos) X.env=(do
   let ov<-eval o X.env
   standAt apos.atName
   let(f,first)<-holding [ov] (getMethod ov m pl)
   callWith pos f first (backTo pos (starEach (e :: es) X.env)) (backToKw pos (keywordEach [] X.env)))) aP1) :
  PE X (.Call (.Attribute o m apos) (e::es) [] pos) (Jz C m sp bG E ta t):=by
 intro pins s U H Q I h;refine PySem.W.methodCall_KW (pl:=pl) (aq (he pins s U H _ I h) λu s1 zQ=>?_) ht;obtain⟨x,H1,I1,rx,a,dx,fs,ex,ea,l,q⟩:=zQ;subst ex;obtain rfl:u=Value.ref a:=rx;refine CK I1 ea c hm l ?_;refine PySem.W.callWith_K (first:=[.ref a]) (h₀:=X.base) I.ok.mod.iP hm.kp (aq (ha pos pins s1 U H1 _ I1 q) λus s2 ⟨vs,H2,I2,r,q2⟩=>⟨I2.aU,?_⟩) fY cu;exact yV (us:=.ref a::us) (vs:=.ref a::vs) F hr hb hd hx I2 (.cons rfl r) q2
theorem jW {pl:Sem Bool}(he:PE X o ta)(c:fe X.K C)(hm:Meth X.K C m f)(F:zi X.prog X.w X.K X.mg X.base CX k f fd ps sp)(hr:ba k X.A)(hb:Binds X.K fd ps ds)(hd:Vals bG ds)(hx:Passes CX X E)(ht:autoParam (eval (.Call (.Attribute o m apos) [] [] pos) X.env=(do
   let ov<-eval o X.env
   standAt apos.atName
   let(f,first)<-holding [ov] (getMethod ov m pl)
   callWith pos f first (backTo pos (starEach [] X.env)) (backToKw pos (keywordEach [] X.env)))) aP1) :
  PE X (.Call (.Attribute o m apos) [] [] pos) (Jz C m sp bG E ta jV):=by
 intro pins s U H Q I h;refine PySem.W.methodCall_KW (pl:=pl) (aq (he pins s U H _ I h) λu s1 zQ=>?_) ht;obtain⟨x,H1,I1,rx,a,dx,fs,ex,ea,l,q⟩:=zQ;subst ex;obtain rfl:u=Value.ref a:=rx;refine CK I1 ea c hm l ?_;exact PySem.W.callWith_K0 (first:=[.ref a]) I1.aU hm.kp (yV (us:=[.ref a]) (vs:=[.ref a]) F hr hb hd hx I1 (.cons rfl .nil) q)
structure Mk (K:PySem.W.Frag)(C f:Addr):Prop where
 makes:PySem.W.makesIn K C=true
 init:PySem.W.findIn K (.ref C) "__init__"=some (some (.ref f))
 fn:PySem.W.isFn K (.ref f)=true
 kp:PySem.W.keepIn K (.ref C)=true
theorem Rn {pins:List (Addr×Obj)}{U:St}{H:Hp}{s:Shared}{Q:VK}{us:List Value}{vs:List V}(M:Mk X.K C f)(F:zi X.prog X.w X.K X.mg X.base CX k f fd ps sp)(hr:ba (k+1) X.A)(hb:Binds X.K fd ps ds)(hd:Vals bG ds)(hx:Passes CX X E)(I:Inv X pins U H s)(r:Vals vs us)(h:∀x dx,H x=none->H dx=none->dx≠x->sp (.ref x::(vs++bG)) (upd (upd H dx (.own x)) x (.ins C dx [])) (λv H2=>v= .aj/\Q (.ref x) H2) E):
  wpAny (model X.prog X.w) X.A (call (.ref C) us) (EP X pins U Q) X.xe s:=by
 have hq:=h (s.heap.objs.size+1) s.heap.objs.size (I.ag.fresh (le_succ _)) (I.ag.fresh (le_refl _)) (ne_of_lt (lt_succ_self _));have I2:=Inv.made (C:=C) I;have r2:Vals (V.ref (s.heap.objs.size+1)::(vs++bG)) (Value.ref (s.heap.objs.size+1)::(us++ds)):=.cons rfl (r.append hd);have hl:(Value.ref (s.heap.objs.size+1)::us++ds).length=ps.length:=by have e:=r2.length;rw[F.len _ _ _ _ hq]at e;exact e.symm
 refine wpAny_call (Jq (f:=f) I.aU M.makes M.init (beq_iff_eq.mp M.fn) (codeAny_mono (F.run _ X.stack _ _ ⟨Value.ref (s.heap.objs.size+1)::us,[]⟩ (Value.ref (s.heap.objs.size+1)::(us++ds)) _ _ E (hr.make C us []) (I2.qJ.make C us []) (hb _ (Value.ref (s.heap.objs.size+1)::us) I2.aU hl) r2 hq) λr s' dO=>?_));cases r with
 |error e=>exact hx pins U _ _ e s' I2 dO
 |ok fl=>
  cases fl with
  |ret u=>obtain⟨v,H',I3,rv,ev,q3⟩:=I2.after dO;subst ev;exact⟨rv,⟨V.ref (s.heap.objs.size+1),H',I3,rfl,q3⟩⟩
  |next=>exact False.elim dO
  |brk=>exact False.elim dO
  |cont=>exact False.elim dO
theorem sQ (M:Mk X.K C f)(F:zi X.prog X.w X.K X.mg X.base CX k f fd ps sp)(hr:ba (k+1) X.A)(hg:Gl X x)(hm:X.mg x=some (.ref C))(hb:Binds X.K fd ps ds)(hd:Vals bG ds)(hx:Passes CX X E)(ha:PA X (e::es) t)(cy:autoParam ((x==("__debug__":Str))=false) aP2)(he:autoParam (starEach (e::es) X.env=(false,eval e X.env)::starEach es X.env) aP1)(cu:autoParam ((backTo pos (starEach es X.env)).any (·.1)=false) aP1):
  PE X (.Call (.Name x p) (e::es) [] pos) (Rm C sp bG E t):=by
 intro pins s U H Q I h;refine wpAny_Call_Name_kw (lq I hg hm ?_ cy);refine PySem.W.callWith_K (h₀:=X.base) I.ok.mod.iP M.kp (aq (ha pos pins s U H _ I h) λus s1 ⟨vs,H1,I1,r,q⟩=>⟨I1.aU,?_⟩) he cu;exact Rn M F hr hb hd hx I1 r q
end
noncomputable def PK (X:Cx)(fg:List Keyword)(t:TA):Prop:=∀(pos:Pos)(pins:List (Addr×Obj))(s:Shared)(U:St)(H:Hp)(Q:List V->Hp->Prop),Inv X pins U H s->t U H Q->wpAny (model X.prog X.w) X.A (evalAll ((backToKw pos (keywordEach fg X.env)).map (·.2))) (AP X pins U Q) X.xe s
section
variable {X:Cx}{CX:eK}{k:Nat}{f C:Addr}{fd:FuncData}{ps ks:List Str}{sp:Sp}{E:XK}{x m:Str}{p pos apos CL:Pos}{e o:Expr}{es:List Expr}{fg:List Keyword}{te ta:TE}{t tk:TA}{nm:Option Str}
theorem qK:PK X [] jV:=λ_ _ _ _ H Q I h=>wpAny_evalAll_nil ⟨[],H,I,.nil,h⟩
theorem jX (ha:PE X e te)(hr:PK X fg t):PK X (⟨nm,e,CL⟩::fg) (xu te t):=by intro pos pins s U H Q I h;show wpAny _ _ (evalAll ((do let v<-eval e X.env;standAt pos;pure v)::(backToKw pos (keywordEach fg X.env)).map (·.2))) _ _ s;refine wpAny_evalAll_cons (wpAny_bind (aq (ha pins s U H _ I h) λu s1 ⟨x,H1,I1,r1,q1⟩=>wpAny_bind (wpAny_standAt (wpAny_pure ?_))));exact aq (hr pos pins s1 U H1 _ I1 q1) λus s2 ⟨xs,H2,I2,r2,q2⟩=>⟨x::xs,H2,I2,.cons r1 r2,q2⟩
structure gP (K:PySem.W.Frag)(fd:FuncData)(ps ks:List Str)(g:List Value->List Value->List Value)(gV:List V->List V->List V):Prop where
 to:∀(s:Shared)(us ws:List Value),K.In s.heap->(g us ws).length=ps.length->BindsTo s fd ⟨us,ks.zip ws⟩ (ps.zip (g us ws))
 rel:∀{vs:List V}{us:List Value}{zs:List V}{ws:List Value},Vals vs us->Vals zs ws->Vals (gV vs zs) (g us ws)
noncomputable def Ro (sp:Sp)(gV:List V->List V->List V)(E:XK)(t tk:TA):TE:=λ U H Q=>t U H λvs H1=>tk U H1 λzs H2=>sp (gV vs zs) H2 Q E
variable {g:List Value->List Value->List Value}{gV:List V->List V->List V}
theorem Rp {pins:List (Addr×Obj)}{U:St}{H:Hp}{s:Shared}{Q:VK}{us ws:List Value}{vs zs:List V}(F:zi X.prog X.w X.K X.mg X.base CX k f fd ps sp)(hr:ba k X.A)(hb:gP X.K fd ps ks g gV)(hx:Passes CX X E)(I:Inv X pins U H s)(r:Vals vs us)(rz:Vals zs ws)(h:sp (gV vs zs) H Q E):wpAny (model X.prog X.w) X.A (call (.ref f) us (ks.zip ws)) (EP X pins U Q) X.xe s:=by
 have r2:=hb.rel r rz;have hl:(g us ws).length=ps.length:=by rw[<-r2.length];exact F.len _ _ _ _ h
 refine wpAny_call (codeAny_mono (F.run X.A X.stack s H ⟨us,ks.zip ws⟩ (g us ws) (gV vs zs) Q E hr I.qJ (hb.to s us ws I.aU hl) r2 h) λr s' hq=>?_);cases r with
 |error e=>exact hx pins U H s e s' I hq
 |ok fl=>
  cases fl with
  |ret u=>exact I.after hq
  |next=>exact False.elim hq
  |brk=>exact False.elim hq
  |cont=>exact False.elim hq
theorem sR (F:zi X.prog X.w X.K X.mg X.base CX k f fd ps sp)(hr:ba k X.A)(hg:Gl X x)(hm:X.mg x=some (.ref f))(hk:PySem.W.keepIn X.K (.ref f)=true)(hb:gP X.K fd ps ks g gV)(hx:Passes CX X E)(ha:PA X (e::es) t)(n6:PK X fg tk)(iU:autoParam ((backToKw pos (keywordEach fg X.env)).all (·.1.isSome)=true) aP1)(CM:autoParam ((backToKw pos (keywordEach fg X.env)).filterMap (·.1)=ks) aP1)(cy:autoParam ((x==("__debug__":Str))=false) aP2)(he:autoParam (starEach (e::es) X.env=(false,eval e X.env)::starEach es X.env) aP1)(cu:autoParam (((backTo pos (starEach (e::es) X.env)).any (·.1)||(backToKw pos (keywordEach fg X.env)).any (·.1.isNone))=false) aP1):
  PE X (.Call (.Name x p) (e::es) fg pos) (Ro sp gV E t tk):=by
 intro pins s U H Q I h;refine wpAny_Call_Name_kw (lq I hg hm ?_ cy);refine PySem.W.callWith_KW (h₀:=X.base) I.ok.mod.iP hk iU (aq (ha pos pins s U H _ I h) λus s1 zQ=>?_) cu he;obtain⟨vs,H1,I1,r,q⟩:=zQ;refine aq (n6 pos pins s1 U H1 _ I1 q) λws s2 ⟨zs,H2,I2,rz,q2⟩=>⟨I2.aU,?_⟩;rw[CM];exact Rp F hr hb hx I2 r rz q2
end
structure ql (N P:List Str)(sc:Scope):Prop where
 kind:sc.kind= .function
 co:sc.isCoroutine=false
 gen:sc.isGenerator=false
 nd:N.Nodup
 pre:N.take P.length=P
 par:∀x∈P,sc.names.lookup x=some .local\/sc.names.lookup x=some .cell
 Rq:∀y∈sc.names,y.2≠.free
theorem cJ {N P:List Str}{sc:Scope}(a:autoParam (sc.kind= .function) aP1)(b:autoParam (sc.isCoroutine=false) aP1)(c:autoParam (sc.isGenerator=false) aP1)(d:autoParam (N.Nodup) aP4)(e:autoParam (N.take P.length=P) aP1)(f:autoParam (∀x∈P,sc.names.lookup x=some .local\/sc.names.lookup x=some .cell) aP4)(g:autoParam (∀y∈sc.names,y.2≠.free) aP4):ql N P sc:=⟨a,b,c,d,e,f,g⟩
theorem JA {kindOf:Str->Option NameKind}{x:Str}:∀{binds:List (Str×Value)}{m:Str->Option Value},(∀v,(x,v)∉binds)->bindL kindOf binds m x=m x
 |[],_,_=>rfl
 | (n,v)::r,m,h=>by
  unfold bindL;rw[JA λw hw=>h w (mem_cons_of_mem _ hw)];split
  .have:x≠n:=by rintro rfl;exact h v mem_cons_self
   simp[this]
  .rfl
theorem JB {kindOf:Str->Option NameKind}{x:Str}:∀{binds:List (Str×Value)}{m:Str->Option Value},(∀v,(x,v)∉binds)->bindC kindOf binds m x=m x
 |[],_,_=>rfl
 | (n,v)::r,m,h=>by
  unfold bindC;rw[JB λw hw=>h w (mem_cons_of_mem _ hw)];split
  .rfl
  .have:x≠n:=by rintro rfl;exact h v mem_cons_self
   simp[this]
theorem JC {kindOf:Str->Option NameKind}{x:Str}{v:Value}:∀{P:List Str}{vs:List Value}{i:Nat}{m:Str->Option Value},P.Nodup->P[i]?=some x->vs[i]?=some v->kindOf x=some .local->bindL kindOf (P.zip vs) m x=some v
 |[],_,_,_,_,h,_,_=>by simp at h
 |_::_,[],_,_,_,_,h,_=>by simp at h
 |p::P,w::vs,0,m,nd,h1,h2,hk=>by simp at h1 h2;subst h1;subst h2;show bindL kindOf ((p,w)::P.zip vs) m p=_;unfold bindL;rw[JA λv hv=>(nodup_cons.mp nd).1 (List.of_mem_zip hv).1,if_pos hk];simp
 |p::P,w::vs,i+1,m,nd,h1,h2,hk=>by show bindL kindOf ((p,w)::P.zip vs) m x=_;unfold bindL;exact JC (i:=i) (nodup_cons.mp nd).2 (by simpa using h1) (by simpa using h2) hk
theorem JD {kindOf:Str->Option NameKind}{x:Str}{v:Value}:∀{P:List Str}{vs:List Value}{i:Nat}{m:Str->Option Value},P.Nodup->P[i]?=some x->vs[i]?=some v->kindOf x≠some .local->bindC kindOf (P.zip vs) m x=some v
 |[],_,_,_,_,h,_,_=>by simp at h
 |_::_,[],_,_,_,_,h,_=>by simp at h
 |p::P,w::vs,0,m,nd,h1,h2,hk=>by simp at h1 h2;subst h1;subst h2;show bindC kindOf ((p,w)::P.zip vs) m p=_;unfold bindC;rw[JB λv hv=>(nodup_cons.mp nd).1 (List.of_mem_zip hv).1,if_neg hk];simp
 |p::P,w::vs,i+1,m,nd,h1,h2,hk=>by show bindC kindOf ((p,w)::P.zip vs) m x=_;unfold bindC;exact JD (i:=i) (nodup_cons.mp nd).2 (by simpa using h1) (by simpa using h2) hk
noncomputable def start (N:List Str)(vs:List V):St:=vs.map some++List.replicate (N.length-vs.length) none
noncomputable def cZ (CX:eK)(P:Program)(w:World)(K:PySem.W.Frag)(mg:Str->Option Value)(base:Heap)(N:List Str)(qual:Str)(scope:Scope)(f:Addr)(cd:Value)(A:Around)(outer:List Env)(s:Shared)(H:Hp)(E:XK):Cx where
 prog:=P
 w:=w
 K:=K
 mg:=mg
 base:=base
 A:=A.deeper (envOfC qual scope s.heap.objs.size f cd)
 N:=N
 au:=s
 bK:=H
 env:=envOfC qual scope s.heap.objs.size f cd
 outer:=outer
 stack:=envOfC qual scope s.heap.objs.size f cd::outer
 ex:=[]
 calm:=true
 fn:=λ_=>true
 pn:=[]
 xe:=λe s'=>wpAny (model P w) (A.deeper (envOfC qual scope s.heap.objs.size f cd)) (leaving (envOfC qual scope s.heap.objs.size f cd) e) (λ_ cv=>CX outer H s E e cv) (λe' cv=>CX outer H s E e' cv) s'
theorem JE {sc:Scope}{n:Nat}{x:Str}(h:sc.names.lookup x=some .cell):∃c,(cellsFrom n sc.names []).lookup x=some c:=by have q:=PySem.W.cellsFrom_some sc.names n [] (.inl h);exact Option.isSome_iff_exists.mp q
theorem Rr {CX:eK}{P:Program}{w:World}{K:PySem.W.Frag}{mg:Str->Option Value}{base:Heap}{N ps:List Str}{qual:Str}{scope:Scope}{f:Addr}{cd:Value}{A:Around}{outer:List Env}{s s1:Shared}{H:Hp}{E:XK}{us:List Value}{vs:List V}(S:ql N ps scope)(hd:A.handled=none)(e0:nZ P w K mg base A outer s H)(hl:vs.length=ps.length)(r:Vals vs us)(x:InCallC s s.heap.objs.size (bindL (envOfC qual scope s.heap.objs.size f cd).kindOf (ps.zip us) λ_=>none) (cellsFrom (s.heap.objs.size+1) scope.names []) (bindC (envOfC qual scope s.heap.objs.size f cd).kindOf (ps.zip us) λ_=>none) s1):
  Inv (cZ CX P w K mg base N qual scope f cd A outer s H E) [] (start N vs) H s1:=by
 have cu:ps.length<=N.length:=by have:=congrArg List.length S.pre;rw[length_take]at this;lia
 obtain⟨h1,tk,rfl,hk⟩:=x.done;have sS:∀b:Addr,b∉(cZ CX P w K mg base N qual scope f cd A outer s H E).ex:=λb z=>absurd (show b∈([]:List Addr)from z) (by simp);refine⟨⟨e0.mod,S.kind,rfl,rfl,le_refl _,λy z c h1 h2=>?_,λy hy=>?_,λy c _ h=>?_,λ_=>hd,Around.frames_deeper e0.frames,.inr ⟨rfl,rfl⟩,λb z=>absurd z (sS b),e0.bs,e0.jO,λb _ _=>sS b,λb z=>absurd z (sS b),e0.fc,e0.iQ⟩,rfl,e0.bare,Un.kept hk,⟨_,x.toInCall.ns,λi y v h1 h2 h3=>?_⟩,λy c h=>⟨_,x.cell y c h⟩,e0.ag.fresh (le_refl _),λy c h=>?_,λp hp=>absurd (show p∈([]:List (Addr×Obj))from hp) (by simp),e0.ag.kept hk,?_⟩
 .exact name_of_addr x.apart (PySem.mem_of_lookup h1) (PySem.mem_of_lookup h2)
 .have hy:scope.names.lookup y=some .cell\/scope.names.lookup y=some .free:=hy;rcases hy with hy|hy
  .exact JE hy
  .exact absurd rfl (S.Rq _ (PySem.mem_of_lookup hy))
 .exact le_of_lt (x.above y c (PySem.mem_of_lookup h))
 .have hi:i<vs.length:=by
   unfold start at h2;by_cases hi:i<vs.length
   .exact hi
   .rw[List.getElem?_append_right (by simpa using hi)]at h2;rw[List.getElem?_replicate]at h2;split at h2<;>cases h2
  have ha:vs[i]?=some v:=by
   unfold start at h2;rw[List.getElem?_append_left (by simpa using hi),getElem?_map]at h2;cases e:vs[i]? with
   |none=>rw[e]at h2;cases h2
   |some a=>rw[e]at h2;cases h2;rfl
  obtain⟨u,hu,rv⟩:=r.get ha;have hp:ps[i]?=some y:=by rw[<-S.pre,List.getElem?_take_of_lt (by lia)];exact h1
  have JF:ps.Nodup:=by rw[<-S.pre];exact S.nd.sublist (List.take_sublist _ _)
  refine⟨u,rv,?_⟩;rcases S.par y (mem_of_getElem? hp)with k|k
  .exact .inl ⟨k,JC JF hp hu k⟩
  .obtain⟨c,e⟩:=JE (n:=s.heap.objs.size+1) k;refine .inr ⟨.inl k,c,e,?_⟩;have q:=x.cell y c e;rw[JD JF hp hu (by show scope.names.lookup y≠_;rw[k];decide)]at q;exact q
 .exact e0.ag.fresh (le_of_lt (x.above y c (PySem.mem_of_lookup h)))
 .unfold start;show _=N.length;rw[length_append,length_map,length_replicate];lia
theorem JG {CX:eK}{P:Program}{w:World}{K:PySem.W.Frag}{mg:Str->Option Value}{base:Heap}{k:Nat}{f:Addr}{name qual:Str}{params:Arguments}{body:List Stmt}{scope:Scope}{dV kV doc pm aT ct oc:Value}{an od:Option Addr}{jY:Array (Option Value)}{N ps:List Str}{sp:Sp}(lk:K.lookup f=some ⟨oc,od,.func (PySem.W.fnOf name qual params body scope dV kV doc pm an aT ct),jY⟩)(cX:PySem.W.codeIn K aT qual=true)(S:ql N ps scope)(len:∀vs H Q E,sp vs H Q E->vs.length=ps.length)(bg:∀(A:Around)(outer:List Env)(s:Shared)(H:Hp)(vs:List V)(Q:VK)(E:XK),ba k (A.deeper (envOfC qual scope s.heap.objs.size f aT))->sp vs H Q E->∃t,cK (cZ CX P w K mg base N qual scope f aT A outer s H E) body t/\t {nx:=λ_ H'=>Q .aj H',rt:=Q} (start N vs) H):
  zi P w K mg base CX (k+1) f (PySem.W.fnOf name qual params body scope dV kV doc pm an aT ct) ps sp:=by
 refine⟨len,λA outer s H args us vs Q E hr e0 hb r ip=>?_⟩;have hl:=len _ _ _ _ ip;have KX:K.In s.heap:=e0.mod.iP.keeps λb o e=>(e0.bs b o e).1;have lim:s.heap.NoLimit:=e0.mod.nolimit.keeps λb o e=>(e0.bs b o e).1;have sT:∀y∈ps.zip us,scope.names.lookup y.1=some .local\/(scope.names.lookup y.1=some .cell/\((cellsFrom (s.heap.objs.size+1) scope.names []).lookup y.1).isSome=true):=λ⟨n,v⟩ hy=>by
  rcases S.par n (List.of_mem_zip hy).1 with q|q
  .exact .inl q
  .exact .inr ⟨q,PySem.W.cellsFrom_some _ _ _ (.inl q)⟩
 refine codeAny_call_function hr.depth (KX _ _ lk) rfl S.co S.gen rfl (PySem.W.codeRec_of KX cX) (hb _ _ _ _ ?_);refine wpAny_newFunctionEnv_cells S.kind sT λenv he s1 x=>?_;subst he;refine⟨lim.keeps x.toInCall.keep,codeAny_func ?_⟩;obtain⟨t,ht,hq⟩:=bg A outer s H vs Q E (hr.deeper _) ip;have I:Inv (cZ CX P w K mg base N qual scope f aT A outer s H E) [] (start N vs) H s1:=Rr S hr.hd e0 hl r x;refine wpAny_mono (ht [] s1 (start N vs) H _ I hq) (λfl s' hs=>?_) λe s' hs=>hs;have fin:∀{U':St}{H':Hp}{v:V}{u:Value},Inv (cZ CX P w K mg base N qual scope f aT A outer s H E) [] U' H' s'->RelV v u->Q v H'->CE outer P w H s Q u s':=λ{U' H' v u} J rv q=>⟨v,H',J.os,J.bare,J.base,J.ag,rv,q⟩;cases fl with
 |ret u=>obtain⟨v,U',H',J,rv,q⟩:=hs;exact fin J rv q
 |next=>obtain⟨U',H',J,q⟩:=hs;exact fin (v:=V.aj) (u:=Value.none) J rfl q
 |brk=>obtain⟨_,_,_,q⟩:=hs;exact False.elim q
 |cont=>obtain⟨_,_,_,q⟩:=hs;exact False.elim q
section
variable {X:Cx}{x:Str}{p pos:Pos}{e:Expr}{es:List Expr}{t:TA}{id T:String}{r:List V->Hp->VK->Prop}
noncomputable def JH (r:List V->Hp->VK->Prop)(t:TA):TE:=λ U H Q=>t U H λvs H1=>r vs H1 Q
theorem jm (hc:dA X (.builtin id) r)(hg:Gl X x)(hm:X.mg x=none)(hv:bootBuiltins x=some (.builtin id))(ha:PA X (e::es) t)(hn:autoParam (x≠"__name__") aP2)(cy:autoParam ((x==("__debug__":Str))=false) aP2)(he:autoParam (starEach (e::es) X.env=(false,eval e X.env)::starEach es X.env) aP1)(cu:autoParam ((backTo pos (starEach es X.env)).any (·.1)=false) aP1):PE X (.Call (.Name x p) (e::es) [] pos) (JH r t):=by
 intro pins s U H Q I h;refine wpAny_Call_Name_kw (sE I hg hm hv ?_ hn cy);exact PyProof.Rows.callWith_builtin1 (aq (ha pos pins s U H _ I h) λus s1 ⟨vs,H1,I1,r1,q1⟩=>hc pins s1 U H1 vs us Q I1 r1 q1) he cu
theorem my (hc:dA X (.type T) r)(hg:Gl X x)(hm:X.mg x=none)(hv:bootBuiltins x=some (.type T))(ha:PA X (e::es) t)(hn:autoParam (x≠"__name__") aP2)(cy:autoParam ((x==("__debug__":Str))=false) aP2)(he:autoParam (starEach (e::es) X.env=(false,eval e X.env)::starEach es X.env) aP1)(cu:autoParam ((backTo pos (starEach es X.env)).any (·.1)=false) aP1):PE X (.Call (.Name x p) (e::es) [] pos) (JH r t):=by
 intro pins s U H Q I h;refine wpAny_Call_Name_kw (sE I hg hm hv ?_ hn cy);exact PyProof.Rows.callWith_type1 (aq (ha pos pins s U H _ I h) λus s1 ⟨vs,H1,I1,r1,q1⟩=>hc pins s1 U H1 vs us Q I1 r1 q1) he cu
end
end L2
namespace HT
open PySem PyProof.Rows
noncomputable def lexLt:List Int->List Int->Bool
 |[],[]=>false
 |[],_::_=>true
 |_::_,[]=>false
 |x::xs,y::ys=>if x=y then lexLt xs ys else decide (x<y)
theorem sU (x y:Int)(xs ys:List Int):lexLt (x::xs) (y::ys)=if x=y then lexLt xs ys else decide (x<y):=rfl
theorem Rt:lexLt [] []=false:=rfl
theorem Ru (y:Int)(ys:List Int):lexLt [] (y::ys)=true:=rfl
theorem Rv (x:Int)(xs:List Int):lexLt (x::xs) []=false:=rfl
theorem Rw (A:Around)(s:Shared)(a:Int)(t:Tok)(c:Int)(u:Tok):∃e,SeqAt.EqAt A s (.int a t) (.int c u) e/\(e=true↔a=c):=⟨(a==c),SeqAt.EqAt.int_int a t c u,by simp⟩
theorem Rx (A:Around)(s:Shared)(a:Int)(t:Tok)(c:Int)(u:Tok)(prog:Program)(w:World)(E:Value->Shared->Prop)(Q:Value->Shared->Prop)(h:Q (.bool (decide (a<c))) s):wpAny (model prog w) A (richCompare .Lt (.int a t) (.int c u)) Q E s:=(PyProof.Rows.lt_int h:wpAny (model prog w) A (compareOp .Lt (.int a t) (.int c u)) Q E s)
section
open PySem.SeqAt
open PySem.AutoSeq1 (wpAny_loadPart')
open PySem.MeetsSeq PySem.MeetsSeq2 PySem.MeetsSeq3
theorem Ry (l b:Addr)(items bf:Array Value)(n n2:Nat)(dd CN:Option Addr)(sl sV:Array (Option Value))(ns ms:List Int)(hi:IntsAre items.toList ns)(hj:IntsAre bf.toList ms):Meets (Builtin.«tuple.__lt__» ⟨[.ref l,.ref b],[]⟩) (λ_ R s=>s.heap.get? l=some {cls:=.type "tuple",dict:=dd,data:=.seq items n,slots:=sl}/\s.heap.get? b=some {cls:=.type "tuple",dict:=CN,data:=.seq bf n2,slots:=sV}/\R (.ok (.ret (.bool (lexLt ns ms)))) s):=
 .of_wp λprog w A R s h=>by
  obtain⟨hp,g,d,tk,os⟩:=s;obtain⟨hl,hb,h⟩:=h;have f2:=AutoSeq1.sub_tuple_tuple;have z1:items.size=ns.length:=by rw[<-hi.length];simp
  have z2:bf.size=ms.length:=by rw[<-hj.length];simp
  wp_walk using wpAny_loadPart' hl,wpAny_loadPart' hb,wpAny_forIn_list _ (λrest b s'=>b.1=none/\s'=⟨hp,g,d,tk,os⟩/\∃(vs ws:List Value)(gQ qL:List Int),rest=vs.zip ws/\IntsAre vs gQ/\IntsAre ws qL/\gQ.length+bf.size=qL.length+items.size/\R (.ok (.ret (.bool (lexLt gQ qL)))) ⟨hp,g,d,tk,os⟩) _;case turn=>
   rintro⟨y,x⟩ rest b s' ⟨iV,rfl,vs,ws,gQ,qL,hz,CO,yW,hlen,hR⟩
   cases CO with
   |nil=>rw[List.zip_nil_left]at hz;cases hz
   | cons a t CP=>
    cases yW with
    |nil=>rw[zip_nil_right]at hz;cases hz
    |cons c u CQ=>
     rw[zip_cons_cons]at hz;injection hz with Rz eL;injection Rz with hy hx;subst hy hx;rw[sU]at hR;simp only[length_cons]at hlen;obtain⟨e,he,sW⟩:=Rw A.in1 ⟨hp,g,d,tk,os⟩ a t c u;refine wpAny_bind (he prog w _ _ ?_);cases e with
     |true=>rw[if_pos (sW.mp rfl)]at hR;wp_walk;exact⟨rfl,rfl,_,_,_,_,eL,CP,CQ,by lia,hR⟩
     |false=>rw[if_neg (λq=>absurd (sW.mpr q) Bool.false_ne_true)]at hR;have RA:=Rx A.in1 ⟨hp,g,d,tk,os⟩ a t c u prog w;wp_walk using RA;exact⟨_,rfl,by simpa using hR⟩
  case fin=>
   rintro⟨b1,b2⟩ s' ⟨iV,rfl,vs,ws,gQ,qL,hz,CO,yW,hlen,hR⟩
   simp only at iV;subst iV;have hv:lexLt gQ qL=decide (items.size<bf.size):=by
    cases CO with
    |nil=>
     cases yW with
     |nil=>simp only[length_nil]at hlen;rw[Rt];exact(decide_eq_false (by lia)).symm
     |cons c u hw=>simp only[length_nil,length_cons]at hlen;rw[Ru];exact(decide_eq_true (by lia)).symm
    |cons a t hv=>
     cases yW with
     |nil=>simp only[length_nil,length_cons]at hlen;rw[Rv];exact(decide_eq_false (by lia)).symm
     |cons c u hw=>rw[zip_cons_cons]at hz;cases hz
   rw[hv]at hR;wp_walk;exact⟨_,rfl,by simpa[Builtin.Tuple.tupleCompareSizes]using hR⟩
  case h=>exact⟨rfl,rfl,items.toList,bf.toList,ns,ms,rfl,hi,hj,by lia,h⟩
end
section
variable {prog:Program}{w:World}{A:Around}{E:Value->Shared->Prop}{s:Shared}
theorem JI {l b:Addr}{items bf:Array Value}{ns ms:List Int}{Q:Value->Shared->Prop}(hl:IsTup s.heap l items)(hb:IsTup s.heap b bf)(hi:IntsAre items.toList ns)(hj:IntsAre bf.toList ms)(hu:A.units<cLine)(h:Q (.bool (lexLt ns ms)) s):wpAny (model prog w) A (compareOp .Lt (.ref l) (.ref b)) Q E s:=by
 obtain⟨⟨cls,dd,data,sl⟩,ho,hc,n,hd⟩:=id hl;obtain⟨⟨RB,CN,data2,sV⟩,qN,mz,n2,hd2⟩:=id hb;simp only at hc hd mz hd2;subst hc hd mz hd2;exact richCompare_meets_room (op:=.Lt) ⟨_,ho,rfl⟩ ⟨_,qN,rfl⟩ PySem.F.slot_tuple_lt PySem.F.entry_tuple_lt (PySem.F.args_tuple_lt_2 _ _) (Ry l b items bf n n2 dd CN sl sV ns ms hi hj) ⟨ho,qN,show Value.bool (lexLt ns ms)≠Value.notImplemented/\Q (.bool (lexLt ns ms)) s from⟨(λx=>nomatch x),h⟩⟩ hu
noncomputable def bj (n d:Nat):Option Int->Nat
 |none=>d
 |some v=>if v<0 then(v+(n:Int)).toNat else min v.toNat n
theorem RC (n d:Nat)(hd:d<=n)(o:Option Int):bj n d o<=n:=by
 cases o with
 |none=>exact hd
 |some v=>
  show(if v<0 then(v+(n:Int)).toNat else min v.toNat n)<=n;by_cases hv:v<0
  .rw[if_pos hv];lia
  .rw[if_neg hv];exact Nat.min_le_right _ _
theorem JJ (v:Int)(n d:Nat):(if v<0 then max (v+(n:Int)) 0 else min v (n:Int))=((bj n d (some v):Nat):Int):=by
 show(if v<0 then max (v+(n:Int)) 0 else min v (n:Int))=(((if v<0 then(v+(n:Int)).toNat else min v.toNat n):Nat):Int);by_cases hv:v<0
 .simp only[if_pos hv];lia
 .simp only[if_neg hv];lia
theorem RD (lo hi:Option Int)(n:Nat):Builtin.Slice.sliceAdjust lo hi 1 (n:Int)=(((bj n 0 lo:Nat):Int),((bj n n hi:Nat):Int)):=by
 have h1:¬((1:Int)<0):=by lia
 unfold Builtin.Slice.sliceAdjust;simp only[h1,if_false];refine Prod.ext ?_ ?_
 .cases lo with
  |none=>rfl
  |some v=>exact JJ v n 0
 .cases hi with
  |none=>rfl
  |some v=>exact JJ v n n
theorem RE (i j:Nat):Builtin.Slice.slicePlaces (i:Int) (j:Int) 1=j-i:=by
 unfold Builtin.Slice.slicePlaces;have h1:(1:Int)>0:=by lia
 simp only[h1,if_true,Int.ediv_one];split<;>lia
theorem JK {v:Value}{o:Option Int}{Q:Option Int->Shared->Prop}(p:IsPart v o)(h:Q o s):wpAny (model prog w) A (Builtin.Slice.slicePartIndex v) Q E s:=by
 cases p with
 |none=>exact slicePart_none h
 |int i t=>exact slicePart_int h
theorem RF {sl:Addr}{vl vu:Value}{lo hi:Option Int}{n:Nat}{Q:Int×Int×Nat->Shared->Prop}(hs:s.heap.IsSliceOf sl vl vu .none)(pl:IsPart vl lo)(pu:IsPart vu hi)(h:Q (((bj n 0 lo:Nat):Int),1,bj n n hi-bj n 0 lo) s):wpAny (model prog w) A (Builtin.Slice.sliceApplied (.ref sl) (pure (n:Int))) Q E s:=by
 obtain⟨os,sX,JL,yX⟩:=id hs;unfold Builtin.Slice.sliceApplied Builtin.Slice.sliceFields;refine wpAny_bind (wpAny_bind (wpAny_field sX yX (x:=vl) rfl (wpAny_bind (wpAny_field sX yX (x:=vu) rfl (wpAny_bind (wpAny_field sX yX (x:=.none) rfl (wpAny_pure ?_)))))));refine wpAny_bind (slicePart_none ?_);show wpAny _ _ (if((1:Int)==0)=true then _ else _) _ _ s;rw[if_neg (by decide)];refine wpAny_bind (JK pl (wpAny_bind (JK pu (wpAny_bind (wpAny_pure ?_)))));show wpAny _ _ (match Builtin.Slice.sliceAdjust lo hi 1 (n:Int)with|(lo,hi)=>pure (lo,(1:Int),Builtin.Slice.slicePlaces lo hi 1)) _ _ s;rw[RD lo hi n];show wpAny _ _ (pure (((bj n 0 lo:Nat):Int),(1:Int),Builtin.Slice.slicePlaces ((bj n 0 lo:Nat):Int) ((bj n n hi:Nat):Int) 1)) _ _ s;rw[RE];exact wpAny_pure h
theorem RG (xs:Array Value)(i k:Nat):((List.range k).filterMap λ(m:Nat)=>xs[((i:Int)+(m:Int)*1).toNat]?).toArray=((xs.toList.drop i).take k).toArray:=by
 have e:(λ(m:Nat)=>xs[((i:Int)+(m:Int)*1).toNat]?)=λm=>xs[i+m]?:=by
  funext m;have:((i:Int)+(m:Int)*1).toNat=i+m:=by lia
  rw[this]
 rw[e];have:=pick_run xs i k;rw[List.filterMap_map]at this;have e2:((λx=>xs[x]?)∘λx=>i+x)=λm=>xs[i+m]?:=rfl;rw[e2]at this;rw[this]
theorem RH {t sl:Addr}{items:Array Value}{vl vu:Value}{lo hi:Option Int}{Q:Value->Shared->Prop}(ht:IsTup s.heap t items)(hs:s.heap.IsSliceOf sl vl vu .none)(pl:IsPart vl lo)(pu:IsPart vu hi)(hw:¬(bj items.size 0 lo=0/\bj items.size items.size hi=items.size))(h:Q (.ref s.heap.objs.size) {s with heap:=s.heap.push {cls:=.type "tuple",data:=.seq ((items.toList.drop (bj items.size 0 lo)).take (bj items.size items.size hi-bj items.size 0 lo)).toArray}})(hsz:items.size<=sizeLine):wpAny (model prog w) A (getItem (.ref t) (.ref sl)) Q E s:=by
 have gA:sizeOk (.seq ((items.toList.drop (bj items.size 0 lo)).take (bj items.size items.size hi-bj items.size 0 lo)).toArray):=by show((items.toList.drop (bj items.size 0 lo)).take (bj items.size items.size hi-bj items.size 0 lo)).toArray.size<=sizeLine;rw[size_toArray,length_take,List.length_drop,Array.length_toList];lia
 have hj:bj items.size items.size hi<=items.size:=RC _ _ (le_refl _) hi;obtain⟨os,sX,JL,yX⟩:=id hs;have RI:s.TypeIs (.ref sl) "slice":=⟨os,sX,JL⟩;unfold getItem;try with_reducible refine wpAny_holding ?_
 first|refine wpAny_bind (wpAny_pure ?_)|skip
 refine wpAny_bind (wpAny_sequenceKey ht.typeIs (by decide) ?_);refine wpAny_bind (wpAny_callSpecial?_slot (name:=Str.ofString "__getitem__") ht.typeIs PyProof.Rows.slot_tuple_getitem (wpAny_call_entry PyProof.Rows.slot_tuple_getitem ht.typeIs entry_tuple_getitem ?_ (args_tuple_getitem _ _)));show wpAny _ _ (Builtin.Tuple.tupleItemsOf (.ref t) >>= _) _ _ s;refine wpAny_bind (tupleItemsOf_ ht ?_);refine wpAny_bind (wpAny_typeOf RI ?_);rw[if_pos (by decide)];refine wpAny_bind (RF hs pl pu ?_);have lD:¬((((bj items.size 0 lo:Nat):Int)==0&&(1:Int)==1&&(bj items.size items.size hi-bj items.size 0 lo)==items.size)=true):=by
  intro q;rw[Bool.and_eq_true,Bool.and_eq_true]at q;have q1:((bj items.size 0 lo:Nat):Int)=0:=eq_of_beq q.1.1;have q2:bj items.size items.size hi-bj items.size 0 lo=items.size:=eq_of_beq q.2;exact hw ⟨by lia,by lia⟩
 show wpAny _ _ (if(((bj items.size 0 lo:Nat):Int)==0&&(1:Int)==1&&(bj items.size items.size hi-bj items.size 0 lo)==items.size)=true then _ else _) _ _ s;rw[if_neg lD,RG];first
  |exact wpAny_bind (m:=Builtin.Tuple.tupleExact _) (wpAny_newObj_type (wpAny_pure ⟨_,rfl,wpAny_pure h⟩) gA)
  |exact wpAny_bind (m:=Builtin.Tuple.tupleExact _) (wpAny_newObj_type (wpAny_bind (wpAny_pure (wpAny_pure ⟨_,rfl,wpAny_pure h⟩))) gA)
  |exact wpAny_bind (wpAny_bind (m:=Builtin.Tuple.tupleExact _) (wpAny_newObj_type (wpAny_pure (wpAny_pure ⟨_,rfl,wpAny_pure h⟩)) gA))
  |exact wpAny_bind (wpAny_bind (m:=Builtin.Tuple.tupleExact _) (wpAny_newObj_type (wpAny_pure ⟨_,rfl,wpAny_pure h⟩) gA))
end
end HT
namespace L2
open PySem PySem.Spec PyProof.Rows
noncomputable abbrev TO:=St->Hp->(Option Int->Hp->Prop)->Prop
noncomputable def PO (X:Cx)(e:Option Expr)(t:TO):Prop:=∀(pins:List (Addr×Obj))(s:Shared)(U:St)(H:Hp)(Q:Option Int->Hp->Prop),Inv X pins U H s->t U H Q->wpAny (model X.prog X.w) X.A (evalPart e X.env) (λu s'=>∃o H',Inv X pins U H' s'/\IsPart u o/\Q o H') X.xe s
noncomputable def RJ:TO:=λ_ H Q=>Q none H
noncomputable def RK (t:TE):TO:=λ U H Q=>t U H λx H1=>∃i,x= .int i/\Q (some i) H1
theorem intsAre_of {ns:List Int}:∀{us:List Value},Vals (ns.map V.int) us->IntsAre us ns:=by
 induction ns with
 |nil=>intro us r;rw[map_nil]at r;cases r;exact .nil
 |cons n ns ih=>
  intro us r;rw[map_cons]at r;cases r with
  |cons r1 r2=>obtain⟨t,e⟩:=r1;subst e;exact .cons n t (ih r2)
section
variable {X:Cx}{e:Expr}{te:TE}{lo hi:Option Expr}{tl th:TO}{pos p2:Pos}
theorem RL:PO X none RJ:=by intro pins s U H Q I h;rw[evalPart_none];exact wpAny_pure ⟨none,H,I,.none,h⟩
theorem RM (h:PE X e te):PO X (some e) (RK te):=by intro pins s U H Q I hw;rw[evalPart_some];refine aq (h pins s U H _ I hw) λu s1 zQ=>?_;obtain⟨x,H1,I1,r1,q1⟩:=zQ;obtain⟨i,rfl,q⟩:=q1;obtain⟨t,rfl⟩:=r1;exact⟨some i,H1,I1,.int i t,q⟩
noncomputable def JM (X:Cx)(r:V->Option Int->Option Int->Hp->VK->Prop):Prop:=∀(pins:List (Addr×Obj))(s:Shared)(U:St)(H:Hp)(x:V)(v vl vu:Value)(lo hi:Option Int)(sl:Addr)(Q:VK),Inv X pins U H s->RelV x v->s.heap.IsSliceOf sl vl vu .none->IsPart vl lo->IsPart vu hi->r x lo hi H Q->∃T id,typeLookup (.type T) "__getitem__"=pure (some (.builtin id))/\s.TypeIs v T/\wpAny (model X.prog X.w) X.A (getItem v (.ref sl)) (EP X pins U Q) X.xe s
noncomputable def RN (r:V->Option Int->Option Int->Hp->VK->Prop)(te:TE)(tl th:TO):TE:=λ U H Q=>te U H λx H1=>tl U H1 λl H2=>th U H2 λu H3=>r x l u H3 Q
theorem RO {r:V->Option Int->Option Int->Hp->VK->Prop}(hr:JM X r)(he:PE X e te)(hl:PO X lo tl)(hu:PO X hi th):PE X (.Subscript e (.Slice lo hi none p2) pos) (RN r te tl th):=by intro pins s U H Q I h;refine Subscript_ (aq (he pins s U H _ I h) λv s1 zQ=>?_);obtain⟨x,H1,I1,r1,q1⟩:=zQ;refine wpAny_Slice (aq (hl pins s1 U H1 _ I1 q1) λvl s2 ⟨l,H2,I2,pl,q2⟩=>aq (hu pins s2 U H2 _ I2 q2) λvu s3 zQ=>?_);obtain⟨u,H3,I3,pu,q3⟩:=zQ;rw[evalPart_none];refine wpAny_pure ?_;have I4:Inv X pins U H3 {s3 with heap:=s3.heap.push {cls:=.type "slice",data:=.fields #[vl,vu,.none]}}:=I3.kept (t':=s3.toks) λb ob q=>Heap.get?_push_of_some _ q;obtain⟨T,id,hT,ht,hg⟩:=hr pins {s3 with heap:=s3.heap.push {cls:=.type "slice",data:=.fields #[vl,vu,.none]}} U H3 x v vl vu l u s3.heap.objs.size Q I4 r1 (Heap.IsSliceOf.new ..) pl pu q3;show wpAny (model X.prog X.w) X.A (subscriptTail e (.Slice lo hi none p2) v (.ref s3.heap.objs.size)) (EP X pins U Q) X.xe {s3 with heap:=s3.heap.push {cls:=.type "slice",data:=.fields #[vl,vu,.none]}};exact tail_any (ops:=[.ref s3.heap.objs.size,v]) ht hT hg (by with_unfolding_all rfl)
noncomputable def sY (xs:List V)(lo hi:Option Int):List V:=(xs.drop (HT.bj xs.length 0 lo)).take (HT.bj xs.length xs.length hi-HT.bj xs.length 0 lo)
theorem RP (xs:List V)(lo hi:Option Int):(sY xs lo hi).length<=xs.length:=by unfold sY;rw[length_take,List.length_drop];lia
noncomputable def RQ (K:PySem.W.Frag):V->Option Int->Option Int->Hp->VK->Prop:=λx lo hi H Q=>∃a xs,x= .ref a/\ax K H a xs/\¬(HT.bj xs.length 0 lo=0/\HT.bj xs.length xs.length hi=xs.length)/\∀p,H p=none->Q (.ref p) (upd H p (.tup (sY xs lo hi)))
theorem RS:JM X (RQ X.K):=by
 intro pins s U H x v vl vu lo hi sl Q I rx hs pl pu h;obtain⟨a,xs,rfl,hx,hw,q⟩:=h;cases rx;obtain⟨its,r,ht,hz⟩:=I.tuple hx;have hlen:its.toArray.size=xs.length:=by rw[size_toArray];exact r.length.symm
 refine⟨"tuple",_,PyProof.Rows.slot_tuple_getitem.lookup,ht.typeIs,?_⟩;refine HT.RH ht hs pl pu (by rw[hlen];exact hw) ?_ (by rw[hlen];exact hz);rw[hlen];refine⟨.ref s.heap.objs.size,_,I.laid (t':=s.toks) (o:=.tup (sY xs lo hi)) (λb ob q=>Heap.get?_push_of_some _ q) (le_refl _) ?_,rfl,q _ (I.ag.fresh (le_refl _))⟩;exact⟨le_trans (RP xs lo hi) hz,_,(r.drop (HT.bj xs.length 0 lo)).take (HT.bj xs.length xs.length hi-HT.bj xs.length 0 lo),IsTup.new _ _⟩
end
noncomputable def mB (n:Nat)(i:Int):Option Nat:=if 0<=i then(if i<n then some i.toNat else none)else if-(n:Int)<=i then some (i+n).toNat else none
noncomputable def mC {α:Type}(xs:List α)(i:Int):Option α:=(mB xs.length i).bind λj=>xs[j]?
theorem JN {n:Nat}{i:Int}{j:Nat}(h:mB n i=some j):seqIndex? i n=some j/\j<n/\-(n:Int)<=i/\i<n:=by
 unfold mB at h;by_cases h0:0<=i
 .rw[if_pos h0]at h;by_cases h1:i<n
  .rw[if_pos h1]at h;have e:i.toNat=j:=Option.some.inj h;exact⟨by rw[seqIndex_of h0 h1,e],by lia,by lia,h1⟩
  .rw[if_neg h1]at h;cases h
 .rw[if_neg h0]at h;by_cases h1:-(n:Int)<=i
  .rw[if_pos h1]at h;have e:(i+n).toNat=j:=Option.some.inj h;exact⟨by rw[seqIndex_neg (by lia) h1,e],by lia,h1,by lia⟩
  .rw[if_neg h1]at h;cases h
theorem JO {α:Type}{xs:List α}{i:Int}{v:α}(h:mC xs i=some v):∃j,seqIndex? i xs.length=some j/\xs[j]?=some v/\j<xs.length/\-(xs.length:Int)<=i/\i<xs.length:=by
 unfold mC at h;cases e:mB xs.length i with
 |none=>rw[e]at h;cases h
 |some j=>rw[e]at h;obtain⟨h1,h2,h3,h4⟩:=JN e;exact⟨j,h1,h,h2,h3,h4⟩
noncomputable def RT (b:Expr):Prop:=∀o i,subscripted b false o i=operate [o,i] (getItem o i)
noncomputable def yY (X:Cx)(r:R2):Prop:=∀(value slice:Expr)(pins:List (Addr×Obj))(s:Shared)(U:St)(H:Hp)(x y:V)(v u:Value)(Q:VK),Inv X pins U H s->RelV x v->RelV y u->r x y H Q->subscripted slice false v u=operate [v,u] (getItem v u)->wpAny (model X.prog X.w) X.A (subscriptTail value slice v u) (EP X pins U Q) X.xe s
noncomputable def sZ (X:Cx)(id:String)(r:V->List V->Hp->VK->Prop):Prop:=∀(pins:List (Addr×Obj))(s:Shared)(U:St)(H:Hp)(x:V)(xs:List V)(v:Value)(us:List Value)(Q:VK),Inv X pins U H s->RelV x v->Vals xs us->r x xs H Q->wpAny (model X.prog X.w) X.A (call (.builtin id) (v::us)) (EP X pins U Q) X.xe s
section
variable {X:Cx}{a b:Expr}{ta tb:TE}{pos:Pos}
theorem dD {r:R2}(hr:yY X r)(ha:PE X a ta)(hb:PE X b tb)(hs:RT b):PE X (.Subscript a b pos) (qG r ta tb):=by intro pins s U H Q I h;exact Subscript_ (Cz ha hb I h λv u s2 x y H2 I2 rx ry q=>hr a b pins s2 U H2 x y v u Q I2 rx ry q (hs _ _))
noncomputable def RU (K:PySem.W.Frag):R2:=λx y H Q=>∃p xs i v,x= .ref p/\y= .int i/\ai K H p xs/\mC xs i=some v/\Q v H
noncomputable def JP (K:PySem.W.Frag):R2:=λx y H Q=>∃p xs i v,x= .ref p/\y= .int i/\ax K H p xs/\mC xs i=some v/\Q v H
theorem gR:yY X (RU X.K):=by
 intro value slice pins s U H x y v u Q I rx ry h hs;obtain⟨p,xs,i,z,rfl,rfl,hq,he,q⟩:=h;cases rx;obtain⟨t,rfl⟩:=ry;obtain⟨its,r,pl,hz⟩:=I.list hq;obtain⟨j,h1,h2,h3,h4,h5⟩:=JO he;obtain⟨w,ew,cR⟩:=r.get h2;have hl:=r.length;have hn:=nW;have fin:EP X pins U Q w s:=⟨z,H,I,cR,q⟩;by_cases h0:0<=i
 .have hj:i.toNat=j:=by
   rw[seqIndex_of h0 h5]at h1;exact Option.some.inj h1
  exact item_listR pl.isList h0 (by lia) (by rw[hj];simpa using ew) fin hs
 .have hj:(i+(its.toArray.size:Int)).toNat=j:=by
   rw[seqIndex_neg (by lia) h4]at h1;rw[size_toArray,<-hl];exact Option.some.inj h1
  exact subscriptTail_builtinR (x:=w) pl.isList.typeIs slot_list_getitem.lookup (wpAny_getItem_list_neg (Q:=λr s'=>r=w/\EP X pins U Q r s') pl.isList (by lia) (by rw[size_toArray]<;>lia) (by lia) (by rw[hj];simpa using ew) ⟨rfl,fin⟩) hs
theorem oa:yY X (JP X.K):=by
 intro value slice pins s U H x y v u Q I rx ry h hs;obtain⟨p,xs,i,z,rfl,rfl,hq,he,q⟩:=h;cases rx;obtain⟨t,rfl⟩:=ry;obtain⟨its,r,pl,hz⟩:=I.tuple hq;obtain⟨j,h1,h2,h3,h4,h5⟩:=JO he;obtain⟨w,ew,cR⟩:=r.get h2;have hl:=r.length;have hn:=nW;have fin:EP X pins U Q w s:=⟨z,H,I,cR,q⟩;exact subscriptTail_builtinR (x:=w) pl.typeIs slot_tuple_getitem.lookup (getItem_tuple (j:=j) (Q:=λr s'=>r=w/\EP X pins U Q r s') pl (by lia) (by lia) (by rw[size_toArray,<-hl];exact h1) (by simpa using ew) ⟨rfl,fin⟩) hs
theorem RV (its:List Value)(n j:Nat)(u:Value):Obj.mapSeq (·.setIfInBounds j u) {cls:=.type "list",data:=.seq its.toArray n}={cls:=.type "list",data:=.seq (its.set j u).toArray n}:=by simp[Obj.mapSeq]
theorem Inv.lst {pins:List (Addr×Obj)}{U:St}{H:Hp}{s:Shared}{p:Addr}{xs:List V}(I:Inv X pins U H s)(h:H p=some (.lst xs)):∃(its:List Value)(n:Nat),Vals xs its/\s.heap.get? p=some {cls:=.type "list",data:=.seq its.toArray n}/\xs.length<=sizeLine:=by
 obtain⟨z,its,n,r,e⟩:=I.ag p _ h;exact⟨its,n,r,e,z⟩
theorem Inv.RW {pins:List (Addr×Obj)}{U:St}{H:Hp}{s:Shared}{p:Addr}{xs ys:List V}{its its':List Value}{n n':Nat}{f:Obj->Obj}(I:Inv X pins U H s)(h:H p=some (.lst xs))(ho:s.heap.get? p=some {cls:=.type "list",data:=.seq its.toArray n})(hf:f {cls:=.type "list",data:=.seq its.toArray n}={cls:=.type "list",data:=.seq its'.toArray n'})(r:Vals ys its')(hz:ys.length<=sizeLine)(t:Nat):
  Inv X pins U (upd H p (.lst ys)) {s with heap:=s.heap.update p f,toks:=t}:=by
 have e:(s.heap.update p f).get? p=some {cls:=.type "list",data:=.seq its'.toArray n'}:=by rw[Heap.get?_update_self f ho (by rw[hf]<;>rfl),hf]
 refine I.write (x:=p) (e:=p) (by rw[h];trivial) (.inl rfl) (λb u hb q=>(Heap.get?_update_other _ _ (Ne.symm hb)).trans q) ⟨_,e⟩ ?_;exact⟨hz,its',n',r,e⟩
noncomputable def RX:V->V->V->Hp->(Hp->Prop)->Prop:=λo i v H Q=>∃p xs k j,o= .ref p/\i= .int k/\H p=some (.lst xs)/\mB xs.length k=some j/\Q (upd H p (.lst (xs.set j v)))
theorem set_list:Ct X RX:=by
 intro pins s U H o i v ov iv u Q I ro ri rv h;obtain⟨p,xs,k,j,rfl,rfl,hp,hj,q⟩:=h;cases ro;obtain⟨t,rfl⟩:=ri;obtain⟨its,n,r,ho,hz⟩:=I.lst hp;obtain⟨h1,h2,h3,h4⟩:=JN hj;have hl:=r.length;have hn:=nW;have I':Inv X pins U (upd H p (.lst (xs.set j v))) {s with heap:=s.heap.update p (Obj.mapSeq (·.setIfInBounds j u))}:=I.RW hp ho (RV its n j u) (r.set rv j) (by rw[length_set];exact hz) s.toks;by_cases h0:0<=k
 .have hk:k.toNat=j:=by
   rw[seqIndex_of h0 h4]at h1;exact Option.some.inj h1
  exact PySem.W.ki_setAt ho h0 (by lia) (by rw[size_toArray,<-hl];exact h4) (by rw[hk];exact⟨_,I',q⟩)
 .have hk:(k+(its.toArray.size:Int)).toNat=j:=by
   rw[seqIndex_neg (by lia) h3]at h1;rw[size_toArray,<-hl];exact Option.some.inj h1
  exact PySem.W.ki_setBack ho (by lia) (by rw[size_toArray,<-hl];exact h3) (by lia) (by rw[hk];exact⟨_,I',q⟩)
noncomputable def lE:V->Bool
 | .aj=>true
 | .bl _=>true
 | .int _=>true
 | .str _=>true
 |_=>false
noncomputable def mD:V->V->Bool
 | .aj,.aj=>true
 | .bl a,.bl b=>a==b
 | .bl a,.int b=>(if a then 1 else 0)==b
 | .int a,.bl b=>a==(if b then 1 else 0)
 | .int a,.int b=>a==b
 | .str a,.str b=>a==b
 |_,_=>false
theorem RY {A:Around}{s:Shared}{y x:V}{u v:Value}(ry:RelV y u)(rx:RelV x v)(fy:lE y=true)(fx:lE x=true):SeqAt.EqAt A s u v (mD y x):=by
 cases y with
 |aj=>
  cases ry;cases x with
  |aj=>cases rx;exact SeqAt.EqAt.same _
  |bl b=>cases rx;exact SeqAt.EqAt.none_bool b
  |int b=>obtain⟨t,rfl⟩:=rx;exact SeqAt.EqAt.none_int b t
  |str b=>obtain⟨t,rfl⟩:=rx;exact SeqAt.EqAt.none_str b t
  |_=>exact absurd (show false=true from fx) Bool.false_ne_true
 |bl a=>
  cases ry;cases x with
  |aj=>cases rx;exact SeqAt.EqAt.bool_none a
  |bl b=>cases rx;exact SeqAt.EqAt.bool_bool a b
  |int b=>obtain⟨t,rfl⟩:=rx;exact SeqAt.EqAt.bool_int a b t
  |str b=>obtain⟨t,rfl⟩:=rx;exact SeqAt.EqAt.bool_str a b t
  |_=>exact absurd (show false=true from fx) Bool.false_ne_true
 |int a=>
  obtain⟨t',rfl⟩:=ry;cases x with
  |aj=>cases rx;exact SeqAt.EqAt.int_none a t'
  |bl b=>cases rx;exact SeqAt.EqAt.int_bool a t' b
  |int b=>obtain⟨t,rfl⟩:=rx;exact SeqAt.EqAt.int_int a t' b t
  |str b=>obtain⟨t,rfl⟩:=rx;exact SeqAt.EqAt.int_str a t' b t
  |_=>exact absurd (show false=true from fx) Bool.false_ne_true
 |str a=>
  obtain⟨t',rfl⟩:=ry;cases x with
  |aj=>cases rx;exact SeqAt.EqAt.str_none a t'
  |bl b=>cases rx;exact SeqAt.EqAt.str_bool a t' b
  |int b=>obtain⟨t,rfl⟩:=rx;exact SeqAt.EqAt.str_int a t' b t
  |str b=>obtain⟨t,rfl⟩:=rx;exact SeqAt.EqAt.str_str a t' b t
  |_=>exact absurd (show false=true from fx) Bool.false_ne_true
 |_=>exact absurd (show false=true from fy) Bool.false_ne_true
noncomputable def fD (x:V)(u:Value):Bool:=match u with
 | .none=>mD .aj x
 | .bool b=>mD (.bl b) x
 | .int i _=>mD (.int i) x
 | .str z _=>mD (.str z) x
 |_=>false
theorem JQ {x y:V}{u:Value}(r:RelV y u)(f:lE y=true):fD x u=mD y x:=by
 cases y with
 |aj=>cases r;rfl
 |bl b=>cases r;rfl
 |int i=>obtain⟨t,rfl⟩:=r;rfl
 |str z=>obtain⟨t,rfl⟩:=r;rfl
 |_=>exact absurd (show false=true from f) Bool.false_ne_true
theorem tf {x:V}:∀{xs:List V}{us:List Value},Vals xs us->xs.all lE=true->us.any (fD x)=xs.any λy=>mD y x
 |_,_,.nil,_=>rfl
 |y::xs,u::us,.cons r t,f=>by rw[all_cons,Bool.and_eq_true]at f;rw[any_cons,any_cons,JQ r f.1,tf t f.2]
theorem tj {A:Around}{s:Shared}{x:V}{v:Value}(rx:RelV x v)(fx:lE x=true):∀{xs:List V}{us:List Value},Vals xs us->xs.all lE=true->∀u∈us,SeqAt.EqAt A s u v (fD x u)
 |_,_,.nil,_=>λu hu=>by cases hu
 |y::xs,u::us,.cons r t,f=>λu' hu=>by
  rw[all_cons,Bool.and_eq_true]at f;rcases mem_cons.mp hu with rfl|hu
  .rw[JQ r f.1];exact RY r rx f.1 fx
  .exact tj rx fx t f.2 u' hu
noncomputable def yZ (x:V)(xs:List V):Bool:=xs.any λy=>mD y x
noncomputable def CT (K:PySem.W.Frag)(neg:Bool):R2:=λx y H Q=>∃p xs,y= .ref p/\(ai K H p xs\/ax K H p xs)/\lE x=true/\xs.all lE=true/\Q (.bl (if neg then !yZ x xs else yZ x xs)) H
theorem JR:bQ X (compareOp .In) (CT X.K false):=by
 intro pins s U H x y v u Q I rx ry h;obtain⟨p,xs,rfl,hq,fx,fs,q⟩:=h;cases ry;rcases hq with hq|hq
 .obtain⟨its,r,pl,hz⟩:=I.list hq;refine SeqAt.in_listAt (fD x) pl.isList (λw hw=>tj rx fx r fs w (by simpa using hw)) ⟨.bl _,H,I,rfl,?_⟩;rw[show its.toArray.any (fD x)=its.any (fD x)by simp,tf r fs];exact q
 .obtain⟨its,r,pl,hz⟩:=I.tuple hq;refine SeqAt.in_tupleAt (fD x) pl (λw hw=>tj rx fx r fs w (by simpa using hw)) ⟨.bl _,H,I,rfl,?_⟩;rw[show its.toArray.any (fD x)=its.any (fD x)by simp,tf r fs];exact q
theorem JS:bQ X (compareOp .NotIn) (CT X.K true):=by
 intro pins s U H x y v u Q I rx ry h;obtain⟨p,xs,rfl,hq,fx,fs,q⟩:=h;cases ry;rcases hq with hq|hq
 .obtain⟨its,r,pl,hz⟩:=I.list hq;refine SeqAt.notIn_listAt (fD x) pl.isList (λw hw=>tj rx fx r fs w (by simpa using hw)) ⟨.bl _,H,I,rfl,?_⟩;rw[show its.toArray.any (fD x)=its.any (fD x)by simp,tf r fs];exact q
 .obtain⟨its,r,pl,hz⟩:=I.tuple hq;refine SeqAt.notIn_tupleAt (fD x) pl (λw hw=>tj rx fx r fs w (by simpa using hw)) ⟨.bl _,H,I,rfl,?_⟩;rw[show its.toArray.any (fD x)=its.any (fD x)by simp,tf r fs];exact q
theorem qb:dA X (.builtin "len") (λxs H Q=>∃p ys,xs=[.ref p]/\(ai X.K H p ys\/ax X.K H p ys)/\Q (.int ys.length) H):=by
 intro pins s U H xs us Q I r h;obtain⟨p,ys,rfl,hq,q⟩:=h;obtain⟨u,rfl,rx⟩:=vals1 r;cases rx;have hn:=nW;rcases hq with hq|hq
 .obtain⟨its,r',pl,hz⟩:=I.list hq;have hlen:=r'.length;exact Calls.call_len_list pl.isList (by simp only[size_toArray]<;>lia) ⟨.int ys.length,H,I.tok _,⟨s.toks+1,by rw[size_toArray,hlen]⟩,q⟩
 .obtain⟨its,r',pl,hz⟩:=I.tuple hq;have hlen:=r'.length;exact len_tuple pl (by simp only[size_toArray]<;>lia) ⟨.int ys.length,H,I.tok _,⟨s.toks+1,by rw[size_toArray,hlen]⟩,q⟩
theorem kq:dA X (.type "list") (λxs H Q=>∃p ys,xs=[.ref p]/\(ai X.K H p ys\/ax X.K H p ys)/\∀l,H l=none->Q (.ref l) (upd H l (.lst ys))):=by
 intro pins s U H xs us Q I r h;obtain⟨p,ys,rfl,hq,q⟩:=h;obtain⟨u,rfl,rx⟩:=vals1 r;cases rx;have fin:∀(its:List Value),Vals ys its->ys.length<=sizeLine->∀(h':Heap)(c':Nat),(∀b o',s.heap.get? b=some o'->h'.get? b=some o')->h'.get? s.heap.objs.size=some {cls:=.type "list",dict:=none,data:=.seq its.toArray c',slots:=#[]}->EP X pins U Q (.ref s.heap.objs.size) {s with heap:=h'}:=λits r' hz h' c' kp e=>⟨.ref s.heap.objs.size,_,I.laid (t':=s.toks) kp (le_refl _) (show ym X.prog X.w _ h' _ (.lst ys)from⟨hz,its,c',r',e⟩),rfl,q _ (I.ag.fresh (le_refl _))⟩;rcases hq with hq|hq
 .obtain⟨its,r',pl,hz⟩:=I.list hq;have hlen:=r'.length;obtain⟨o,ho,hc,n,hd⟩:=pl.isList;exact call_list_seq p (.inl rfl) ho hc hd (λh' c' kp e=>fin its r' hz h' c' kp e) (by simp only[size_toArray]<;>lia)
 .obtain⟨its,r',pl,hz⟩:=I.tuple hq;have hlen:=r'.length;obtain⟨o,ho,hc,n,hd⟩:=pl;exact call_list_seq p (.inr rfl) ho hc hd (λh' c' kp e=>fin its r' hz h' c' kp e) (by simp only[size_toArray]<;>lia)
theorem JT:dA X (.type "tuple") (λxs H Q=>∃p ys,xs=[.ref p]/\((ai X.K H p ys/\∀l,H l=none->Q (.ref l) (upd H l (.tup ys)))\/(ax X.K H p ys/\Q (.ref p) H))):=by
 intro pins s U H xs us Q I r h;obtain⟨p,ys,rfl,h⟩:=h;obtain⟨u,rfl,rx⟩:=vals1 r;cases rx;rcases h with⟨hq,q⟩|⟨hq,q⟩
 .obtain⟨its,r',pl,hz⟩:=I.list hq;have hlen:=r'.length;refine call_tuple_list pl.isList (λh' kp=>?_) (by simp only[size_toArray]<;>lia);have I1:Inv X pins U H {s with heap:=h'}:=I.kept (t':=s.toks) kp;have I2:Inv X pins U (upd H h'.objs.size (.tup ys)) {s with heap:=h'.push {cls:=.type "tuple",data:=.seq its.toArray}}:=I1.laid (t':=s.toks) (λb o e=>Heap.get?_push_of_some _ e) (le_refl _) (show ym X.prog X.w _ _ _ (.tup ys)from⟨hz,its,r',IsTup.new _ _⟩);exact⟨.ref h'.objs.size,_,I2,rfl,q _ (I1.ag.fresh (le_refl _))⟩
 .obtain⟨its,r',pl,hz⟩:=I.tuple hq;exact call_tuple_same pl ⟨.ref p,H,I,rfl,q⟩
noncomputable def CU (K:PySem.W.Frag)(T:String)(x:V)(H:Hp):Prop:=match x with
 | .str _=>T="str"
 | .int _=>T="int"
 | .ref p=>(T="list"/\∃xs,ai K H p xs)\/(T="tuple"/\∃o,K.lookup p=some o/\o.cls= .type "tuple"/\o.dict=none)\/(T="dict"/\((∃aa,H p=some (.dK aa))\/∃aa,H p=some (.dT aa)))\/(T="set"/\∃S n,H p=some (.set S n))
 |_=>False
theorem JU {pins:List (Addr×Obj)}{U:St}{H:Hp}{s:Shared}{T:String}{x:V}{v:Value}(I:Inv X pins U H s)(r:RelV x v)(ty:CU X.K T x H):s.TypeIs v T/\∀a,v= .ref a->∃ob,s.heap.get? a=some ob/\ob.dict=none:=by
 cases x with
 |str z=>obtain⟨t,rfl⟩:=r;cases(show T="str"from ty);exact⟨typeIs_str s z t,λ_ e=>nomatch e⟩
 |int i=>obtain⟨t,rfl⟩:=r;cases(show T="int"from ty);exact⟨typeIs_int s i t,λ_ e=>nomatch e⟩
 | ref p=>
  cases r;rcases ty with⟨rfl,xs,hq⟩|⟨rfl,o,hk,hc,hd⟩|⟨rfl,hk⟩|⟨rfl,S,n,hk⟩
  .obtain⟨its,_,pl,_⟩:=I.list hq;refine⟨pl.isList.typeIs,λa e=>?_⟩;cases e;obtain⟨o,n,e,c,hd,_⟩:=pl;exact⟨o,e,hd⟩
  .refine⟨⟨o,I.aU p o hk,hc⟩,λa e=>?_⟩;cases e;exact⟨o,I.aU _ o hk,hd⟩
  .have z:∃o,s.heap.get? p=some o/\o.ExactDict:=by
    rcases hk with⟨aa,hk⟩|⟨aa,hk⟩
    .obtain⟨_,_,_,_,o,_,_,e,ex,_⟩:=I.ag p _ hk;exact⟨o,e,ex⟩
    .obtain⟨_,_,_,_,o,_,_,e,ex,_⟩:=I.ag p _ hk;exact⟨o,e,ex⟩
   obtain⟨o,e,ex⟩:=z;refine⟨⟨o,e,ex.1⟩,λa e2=>?_⟩;cases e2;exact⟨o,e,ex.2.1⟩
  .obtain⟨o,_,_,_,e,ex,_⟩:=I.ag p _ hk;refine⟨⟨o,e,ex.1⟩,λa e2=>?_⟩;cases e2;exact⟨o,e,ex.2.1⟩
 |_=>exact False.elim ty
noncomputable def RZ (K:PySem.W.Frag)(T:String)(r:V->List V->Hp->VK->Prop)(to:TE):TE:=λ U H Q=>to U H λx H1=>CU K T x H1/\r x [] H1 Q
noncomputable def R0 (K:PySem.W.Frag)(T:String)(r:V->List V->Hp->VK->Prop)(to:TE)(t:TA):TE:=λ U H Q=>to U H λx H1=>CU K T x H1/\t U H1 λxs H2=>r x xs H2 Q
variable {o e:Expr}{es:List Expr}{to:TE}{t:TA}{name:Str}{apos az:Pos}{T id:String}{r:V->List V->Hp->VK->Prop}
theorem R5 (pa:PlainAttrs T)(slot:Slot T name id)(CV:typeOf (.builtin id)=pure (.type "method_descriptor"))(hm:sZ X id r)(ho:PE X o to)(eN:autoParam (attributeBase o name X.env (eval o X.env)=eval o X.env) aP1)(iW:autoParam ((apos.endLine==az.line)=true) aP1):PE X (.Call (.Attribute o name apos) [] [] az) (RZ X.K T r to):=by
 intro pins s U H Q I h;refine wpAny_Call_method0_late eN iW (aq (ho pins s U H _ I h) λv s1 zQ=>?_);obtain⟨x,H1,I1,r1,ty,q1⟩:=zQ;obtain⟨h1,h2⟩:=JU I1 r1 ty;exact⟨T,id,pa,slot,CV,h1,h2,Calls.callWith_builtin rfl (PySem.evalArgs_none (hm pins s1 U H1 x [] v [] Q I1 r1 .nil q1))⟩
theorem iq (pa:PlainAttrs T)(slot:Slot T name id)(CV:typeOf (.builtin id)=pure (.type "method_descriptor"))(hm:sZ X id r)(ho:PE X o to)(ha:PA X (e::es) t)(eN:autoParam (attributeBase o name X.env (eval o X.env)=eval o X.env) aP1)(CW:autoParam (((backTo az (starEach (e::es) X.env)).all (λx=>!x.1)&&(backToKw az (keywordEach [] X.env)).all (λx=>x.1.isSome)&&decide ((e::es).length+([]:List Keyword).length+(if([]:List Keyword).isEmpty then 0 else 1)<30))=true) aP1)(iW:autoParam ((apos.endLine==az.line)=true) aP1)(hs:autoParam (starEach (e::es) X.env=(false,eval e X.env)::starEach es X.env) aP1)(og:autoParam ((backTo az (starEach es X.env)).any (·.1)=false) aP1):
  PE X (.Call (.Attribute o name apos) (e::es) [] az) (R0 X.K T r to t):=by
 intro pins s U H Q I h;refine wpAny_Call_method_late eN CW iW rfl (aq (ho pins s U H _ I h) λv s1 zQ=>?_);obtain⟨x,H1,I1,r1,ty,q1⟩:=zQ;obtain⟨h1,h2⟩:=JU I1 r1 ty;refine⟨T,id,pa,slot,CV,h1,h2,?_⟩;have hA:=ha az pins s1 U H1 _ I1 q1;rw[hs]at hA⊢;refine Calls.callWith_builtin (by show(false||(backTo az (starEach es X.env)).any (·.1))=false;rw[og]<;>rfl) (Calls.evalArgs_plain ?_);exact aq hA λus s2 ⟨vs,H2,I2,r2,q2⟩=>hm pins s2 U H2 x vs v us Q I2 r1 r2 q2
end
noncomputable def CY (X:Cx)(id:String)(r:V->List V->Hp->VK->Prop):Prop:=∀(pins:List (Addr×Obj))(s:Shared)(U:St)(H:Hp)(x:V)(xs:List V)(v:Value)(us:List Value)(Q:VK),Inv X pins U H s->RelV x v->Vals xs us->r x xs H Q->wpAny (model X.prog X.w) X.A (call (.builtin id) (v::us)) (EP X pins U Q) X.xe s
theorem Vals.one:∀{x:V}{us:List Value},Vals [x] us->∃u,us=[u]/\RelV x u:=λ{x us} p=>by
 cases p with
 |cons r t=>cases t;exact⟨_,rfl,r⟩
theorem Vals.two:∀{x y:V}{us:List Value},Vals [x,y] us->∃u v,us=[u,v]/\RelV x u/\RelV y v
 |_,_,_,.cons r (.cons q .nil)=>⟨_,_,rfl,r,q⟩
theorem Vals.eraseIdx:∀{xs:List V}{us:List Value}(i:Nat),Vals xs us->Vals (xs.eraseIdx i) (us.eraseIdx i)
 |_,_,_,.nil=>.nil
 |_,_,0,.cons _ t=>t
 |_,_,i+1,.cons r t=>.cons r (Vals.eraseIdx i t)
theorem Vals.rep {xs:List V}{us:List Value}(h:Vals xs us):∀k:Nat,Vals (List.replicate k xs).flatten (List.replicate k us).flatten
 |0=>.nil
 |k+1=>by rw[replicate_succ,replicate_succ,flatten_cons,flatten_cons];exact Vals.append h (Vals.rep h k)
theorem JV {α:Type}:∀(l:List α)(i:Nat),(l.eraseIdx i).length<=l.length
 |[],_=>le_refl _
 |_::_,0=>le_succ _
 |_::r,i+1=>Nat.succ_le_succ (JV r i)
theorem foldl_rep (its:List Value):∀(k:Nat)(acc:List Value),List.foldl (λx1 x2=>x1++x2) acc.toArray (List.replicate k its.toArray)=(acc++(List.replicate k its).flatten).toArray
 |0,acc=>by simp
 |k+1,acc=>by
  have e:acc.toArray++its.toArray=(acc++its).toArray:=by simp
  have e2:(acc++its)++(List.replicate k its).flatten=acc++(List.replicate (k+1) its).flatten:=by rw[replicate_succ,flatten_cons,List.append_assoc]
  rw[<-e2,<-foldl_rep its k (acc++its),<-e,replicate_succ,List.foldl_cons]
section
variable {X:Cx}{pins:List (Addr×Obj)}{U:St}{H:Hp}{s:Shared}{l b:Addr}{xs ys zs:List V}
theorem Inv.CZ {its its':List Value}{n:Nat}{f:Array Value->Array Value}{t':Nat}(I:Inv X pins U H s)(hH:H l=some (.lst xs))(e:s.heap.get? l=some {cls:=.type "list",data:=.seq its.toArray n})(hf:f its.toArray=its'.toArray)(hv:Vals ys its')(hz:ys.length<=sizeLine):
  Inv X pins U (upd H l (.lst ys)) {s with heap:=s.heap.update l (Obj.mapSeq f),toks:=t'}:=by
 have q:=PySem.IsL.update e f;rw[hf]at q;refine I.write (x:=l) (e:=l) (by rw[hH];exact trivial) (.inl rfl) (λb' u hb hu=>(Heap.get?_update_other s.heap (Obj.mapSeq f) (Ne.symm hb)).trans hu) ⟨_,q⟩ ?_;exact⟨hz,its',_,hv,q⟩
theorem Inv.JW {its:List Value}{t':Nat}(I:Inv X pins U H s)(hv:Vals ys its)(hz:ys.length<=sizeLine):Inv X pins U (upd H s.heap.objs.size (.lst ys)) {s with heap:=s.heap.push {cls:=.type "list",data:=.seq its.toArray},toks:=t'}:=
 I.laid (λ_ _ q=>Heap.get?_push_of_some _ q) (le_refl _) ⟨hz,its,0,hv,Heap.get?_push_size _ rfl⟩
theorem Inv.fresh (I:Inv X pins U H s):H s.heap.objs.size=none:=I.ag.fresh (le_refl _)
theorem Inv.qO (I:Inv X pins U H s)(hH:H l=some (.lst xs)):xs.length<=sizeLine/\∃(its:List Value)(n:Nat),Vals xs its/\xs.length=its.length/\s.heap.get? l=some {cls:=.type "list",data:=.seq its.toArray n}:=by obtain⟨z,its,n,r,e⟩:=I.ag l _ hH;exact⟨z,its,n,r,r.length,e⟩
theorem R6 {n:Nat}(h:n<=sizeLine):Builtin.List.listTooLong n=false:=by unfold Builtin.List.listTooLong;exact decide_eq_false (by lia)
end
section
variable {X:Cx}
noncomputable def R7:V->List V->Hp->VK->Prop:=λx vs H Q=>∃l xs y,x= .ref l/\vs=[y]/\H l=some (.lst xs)/\xs.length<sizeLine/\Q .aj (upd H l (.lst (xs++[y])))
theorem mE:CY X "list.append" R7:=by intro pins s U H x vs v us Q I rx rv h;obtain⟨l,xs,y,rfl,rfl,hH,hz,q⟩:=h;cases rx;obtain⟨u,rfl,ru⟩:=rv.one;obtain⟨z,its,n,r,hl,e⟩:=I.qO hH;refine call_meets F.slot_list_append ⟨_,e,rfl⟩ F.entry_list_append (F.args_list_append_2 _ _) (PySem.list_append l its.toArray n u (by rw[size_toArray];lia)) ⟨e,?_⟩;refine⟨.aj,_,I.CZ (its':=its++[u]) hH e (by simp) (r.append (.cons ru .nil)) ?_,rfl,q⟩;rw[length_append,List.length_singleton];lia
noncomputable def R8:V->List V->Hp->VK->Prop:=λx vs H Q=>∃l xs i k y,x= .ref l/\vs=[.int i]/\H l=some (.lst xs)/\-(2^63)<=i/\i<2^63/\seqIndex? i xs.length=some k/\xs[k]?=some y/\Q y (upd H l (.lst (xs.eraseIdx k)))
theorem R9:CY X "list.pop" R8:=by
 intro pins s U H x vs v us Q I rx rv h;obtain⟨l,xs,i,k,y,rfl,rfl,hH,h1,h2,hk,hy,q⟩:=h;cases rx;obtain⟨u,rfl,ru⟩:=rv.one;obtain⟨t,rfl⟩:=ru;obtain⟨z,its,n,r,hl,e⟩:=I.qO hH;obtain⟨w,hw,cR⟩:=r.get hy;refine call_meets F.slot_list_pop ⟨_,e,rfl⟩ F.entry_list_pop (F.args_list_pop_2 _ _) (MeetsSeq.list_pop_at l its.toArray n i t k w (fitsIndex_both h1 h2) (by rw[size_toArray,<-hl];exact hk) (by rw[<-Array.getElem?_toList];exact hw) (by rw[size_toArray];lia)) ⟨e,?_⟩;refine⟨y,_,I.CZ (its':=its.eraseIdx k) hH e ?_ (r.eraseIdx k) ?_,cR,q⟩
 .show its.toArray.eraseIdxIfInBounds k=(its.eraseIdx k).toArray;rw[List.eraseIdxIfInBounds_toArray]
 .have:=JV xs k;lia
noncomputable def Sa:R2:=λx y H Q=>∃l b xs zs,x= .ref l/\y= .ref b/\H l=some (.lst xs)/\H b=some (.lst zs)/\xs.length+zs.length<=sizeLine/\∀p,H p=none->Q (.ref p) (upd H p (.lst (xs++zs)))
theorem zA:bQ X (binaryOp .Add) Sa:=by
 intro pins s U H x y v u Q I rx ry h;obtain⟨l,b,xs,zs,rfl,rfl,hH,hB,hz,q⟩:=h;cases rx;cases ry;obtain⟨z,its,n,r,hl,e⟩:=I.qO hH;obtain⟨z2,tm,n2,r2,oh,e2⟩:=I.qO hB;refine PySem.P.add_list e e2 ?_ (by rw[size_toArray,size_toArray];lia);have ea:its.toArray++tm.toArray=(its++tm).toArray:=by simp
 rw[ea];exact⟨.ref _,_,I.JW (t':=s.toks) (r.append r2) (by rw[length_append];lia),rfl,q _ I.fresh⟩
noncomputable def Sb:R2:=λx y H Q=>∃l k xs,x= .ref l/\y= .int k/\H l=some (.lst xs)/\-(2^63)<=k/\k<2^63/\xs.length*k.toNat<=sizeLine/\∀p,H p=none->Q (.ref p) (upd H p (.lst (List.replicate k.toNat xs).flatten))
theorem len_rep {α:Type}(xs:List α)(k:Nat):(List.replicate k xs).flatten.length=k*xs.length:=by
 induction k with
 |zero=>simp
 |succ k ih=>rw[replicate_succ,flatten_cons,length_append,ih,Nat.succ_mul,Nat.add_comm]
theorem C0:bQ X (binaryOp .Mult) Sb:=by
 intro pins s U H x y v u Q I rx ry h;obtain⟨l,k,xs,rfl,rfl,hH,h1,h2,hz,q⟩:=h;cases rx;obtain⟨t,rfl⟩:=ry;obtain⟨z,its,n,r,hl,e⟩:=I.qO hH;have hlen:its.toArray.size*k.toNat<=sizeLine:=by rw[size_toArray,<-hl];exact hz
 have C1:¬its.toArray.size*k.toNat>(2^63-1) / 8:=by
  have:(sizeLine:Nat)<=(2^63-1) / 8:=by decide
  lia
 have C2:¬(!Builtin.List.listFitsIndex k)=true:=by rw[fitsIndex_both h1 h2];exact Bool.false_ne_true
 have tq:¬Builtin.List.listTooLong (its.toArray.size*k.toNat)=true:=by rw[R6 hlen];exact Bool.false_ne_true
 have oj:List.foldl (λx1 x2=>x1++x2) #[] (List.replicate (if its.toArray.isEmpty=true then 0 else k.toNat) its.toArray)=(List.replicate k.toNat its).flatten.toArray:=by
  have f0:∀m:Nat,List.foldl (λx1 x2=>x1++x2) #[] (List.replicate m its.toArray)=(List.replicate m its).flatten.toArray:=λm=>by have:=foldl_rep its m [];rw[List.nil_append]at this;exact this
  rw[f0];cases its with
  |nil=>simp
  |cons a r'=>rw[if_neg (by simp)]
 refine wpAny_binaryOp_repeat_ref (T:="list") (U:="int") (by decide) ⟨_,e,rfl⟩ (λs'=>typeIs_int s' k t) noFill_list_mul F.fills_int_mul F.slot_int_rmul repeat_list F.slot_int_index.lookup (call_meets F.slot_int_rmul (typeIs_int s k t) F.entry_int_rmul (F.args_int_rmul_2 _ _) (int___rmul___int_list k t l its.toArray n) ⟨e,rfl,⟨_,e,rfl⟩,call_meets F.slot_list_mul ⟨_,e,rfl⟩ F.entry_list_mul (F.args_list_mul_2 _ _) (AutoListH.list___mul___list_int_3 l its.toArray n k t C2 C1 tq) ⟨e,?_⟩⟩);rw[oj];exact⟨.ref _,_,I.JW (t':=s.toks) (r.rep k.toNat) (by rw[len_rep,Nat.mul_comm];exact hz),rfl,q _ I.fresh⟩
end
end L2
namespace JX
open PySem PySem.W PySem.Calls PyProof.Rows
theorem Sd {P:Params}{h:Heap}:∀(ns:List Int)(vs:List Value),WellAll P h vs (ns.map WData.int)->IntsAre vs ns:=by
 intro ns;induction ns with
 |nil=>intro vs w;rw[map_nil]at w;cases w;exact .nil
 |cons n ns ih=>
  intro vs w;rw[map_cons]at w;cases w with
  |cons a b=>cases a;exact .cons _ _ (ih _ b)
theorem Se {l:OpenLaw}{n:Nat}(hn:l.most=some n){P:Params}{h:Heap}{args:List WData}{vals:List Value}(lF:l.row.toRowW.claim.pre args=true)(C3:WellAll P h vals args):∃a vs ns,vals=[Value.ref a]/\args=[WData.list (ns.map WData.int)]/\h.get? a=some {cls:=.type "list",data:=.seq vs.toArray}/\IntsAre vs ns/\ns.length<=n:=by
 have Sf:WShape.hasAll [] args [.list .int]=true:=(pre_splitW lF).1;have hc:l.pre.holds [] {args:=args}=true:=(pre_splitW lF).2;obtain⟨d,r,rfl,h1,h2⟩:=hasAllW_cons Sf;obtain rfl:=hasAllW_nil h2;obtain⟨xs,rfl,h3⟩:=hasW_list h1;obtain⟨ns,rfl⟩:=items_int h3;have hlen:ns.length<=n:=by
  unfold OpenLaw.pre at hc;have h4:(WTm.not (.lt (.lit (.int (n:Int))) (.len (.arg 0)))).holds [] {args:=[.list (ns.map .int)]}=true:=by have h4:=(holds_andW hc).1;rw[hn]at h4;exact h4
  have h5:=condW_of h4 (w_not (w_lt w_lit (w_len_list (w_arg rfl))));rw[length_map]at h5;refine Nat.le_of_not_lt λq=>?_;have q':(n:Int)<((ns.length:Nat):Int):=by lia
  first
   |(rw[decide_eq_true q']at h5;exact absurd h5 (by decide))
   |(simp at h5;lia)
 cases C3 with
 |cons w1 w2=>
  cases w2;cases w1 with
  |list ho iU=>exact⟨_,_,ns,rfl,rfl,ho,Sd ns _ iU,hlen⟩
theorem Sg (l:OpenLaw)(args:List WData):l.row.toRowW.claim.post args (.bool true) args=true:=postW_of (r:=l.row.toRowW) (X:=(true==true)) (show WShape.has [] (.bool true) .bool=true by first|rfl|decide|simp[WShape.has,WShape.arms,WShape.armsAll]) (show(WTm.eq .res (.lit (.bool true))).value [] {args:=args,res:=some (.bool true),after:=args}=some (.bool (true==true))from w_eq_bool (w_res rfl) w_lit) rfl
theorem Sh {l:OpenLaw}{n:Nat}{q:Program}{loose:List Str}{XP:(Str->Option Value)->Heap->Prop}{YP:World->Heap->Prop}{d:DefRec}(hn:l.most=some n)(tw:d.params.defaults=[])(call:∀(w:World)(au ar:Shared)(mg mb:Str->Option Value)(fa:Addr)(o:Obj)(pm cd doc:Value)(a:Addr)(vs:List Value)(ns:List Int),Ground q loose [] XP w au mg mb ar.heap->YP w ar.heap->
   ar.heap.get? fa=some o->o.data= .func (docDef d.name d.params d.body d.scope pm cd doc)->ar.heap.CodeRec cd d.name->mg d.name=some (.ref fa)->
   ar.heap.get? a=some {cls:=.type "list",data:=.seq vs.toArray}->IntsAre vs ns->ns.length<=n->ar.gens=#[]->
   codeAny (model l.prog w) callerA (.call (.ref fa) ⟨[.ref a],[]⟩) (λr s'=>r= .ok (.ret (.bool true))/\OldK ar.heap s'.heap/\s'.os=ar.os/\AllBare s'.gens) ar):
  WalkO q loose XP YP l.row.toRowW d [] (λf vs=>PySem.call f vs):=by
 intro w au ar mg mb G Yq fa o pm cd doc dV kV ho hd cX hD hmg hg args vals as lF Si hrd C3 hlo;obtain rfl:dV= .none:=Dflts.none hD tw;obtain rfl:kV= .none:=Dflts.noKw hD;obtain⟨a,vs,ns,rfl,rfl,oq,hints,hlen⟩:=Se hn lF C3;refine enter_call (codeAny_mono (call w au ar mg mb fa o pm cd doc a vs ns G Yq ho (fd_plain hd) cX hmg oq hints hlen hg) λr s' hq=>?_);obtain⟨rfl,h2,h3,h4⟩:=hq;exact⟨.inl ⟨.bool true,.bool true,[],rfl,λ_=>rfl,.bool true,Sg l _,λ_=>⟨List.Pairwise.nil,λ_ hm=>(nomatch hm)⟩⟩,h2,h3,h4⟩
end JX
namespace L2
open PySem PySem.Spec PyProof.Rows
theorem JY:∀{vs:List Value}{ns:List Int},IntsAre vs ns->Vals (ns.map V.int) vs
 |_,_,.nil=>.nil
 |_,_,.cons n t h=>.cons ⟨t,rfl⟩ (JY h)
noncomputable def zB (H:Hp):Prop:=∀b,H b=none\/∃o xs,H b=some (.aE o (.lst xs))
theorem Sj {P:Program}{w:World}{K:PySem.W.Frag}{mg mb:Str->Option Value}{CX:eK}{k:Nat}{fa a:Addr}{fd:FuncData}{x:Str}{sp:Sp}{ar:Shared}{vs:List Value}{ns:List Int}(KX:K.In ar.heap)(ir:ar.heap.Ns mainGlobals mg)(hb:ar.heap.Ns builtinsNs mb)(Sk:∀x:Str,x≠"__name__"->mb x=bootBuiltins x)(C4:ar.heap.NoLimit)(hg:ar.gens=#[])(ha:ar.heap.get? a=some {cls:=.type "list",data:=.seq vs.toArray})(hi:IntsAre vs ns)(hl:ns.length<=sizeLine)(hr:ba k callerA)(F:∀base:Heap,K.In base->base.Ns mainGlobals mg->zi P w K mg base CX k fa fd [x] sp)(tD:∀(s:Shared)(u:Value),BindsTo s fd ⟨[u],[]⟩ [(x,u)])(ip:∀H:Hp,zB H->ai K H a (ns.map V.int)->sp [.ref a] H (λv _=>v= .bl true) λ_ _ _=>False)(tE:∀H e s',CX [] H ar (λ_ _ _=>False) e s'->False):
  codeAny (model P w) callerA (.call (.ref fa) ⟨[.ref a],[]⟩) (λr s'=>r= .ok (.ret (.bool true))/\OldK ar.heap s'.heap/\s'.os=ar.os/\AllBare s'.gens) ar:=by
 have rv:=JY hi;have C5:=hi.length;have core:∀H:Hp,zB H->ai K H a (ns.map V.int)->bJ P w H ar.heap->(∀b,H b≠none->b=a)->(H a≠none->K.lookup a=none)->codeAny (model P w) callerA (.call (.ref fa) ⟨[.ref a],[]⟩) (λr s'=>r= .ok (.ret (.bool true))/\OldK ar.heap s'.heap/\s'.os=ar.os/\AllBare s'.gens) ar:=by
  intro H hO hS ag hA hK;have gB:∀{b:Addr}{o:Obj},ar.heap.get? b=some o->H b=none->(lj ar.heap H).get? b=some o:=λe n=>Qj e n;have sS:∀{b:Addr}{o:Obj}{es:Array DictEntry}{ep:Nat},ar.heap.get? b=some o->o.data= .dict es ep->H b=none:=λ{b o es ep} e d=>by
   cases q:H b with
   |none=>rfl
   |some u=>have e':b=a:=hA b (by rw[q];simp);subst e';rw[ha]at e;cases e;have d':Data.seq vs.toArray _=Data.dict es ep:=d;cases d'
  have zC:∀{b:Addr}{m:Str->Option Value},ar.heap.Ns b m->(lj ar.heap H).Ns b m:=λ{b m} ⟨o,es,ep,e,d,r⟩=>⟨o,es,ep,gB e (sS e d),d,r⟩;have JZ:K.In (lj ar.heap H):=λb o e=>gB (KX b o e) (by
   cases q:H b with
   |none=>rfl
   |some u=>have e':b=a:=hA b (by rw[q];simp);subst e';rw[hK (by rw[q];simp)]at e;cases e)
  have hM:Mod K mg (lj ar.heap H):=⟨JZ,zC ir,⟨mb,zC hb,Sk⟩,let⟨mc,h1,h2⟩:=C4;⟨mc,zC h1,h2⟩⟩;have e0:nZ P w K mg (lj ar.heap H) callerA [] ar H:=⟨rfl,hM,λb o e=>Qk e,Nat.le_of_eq (Qi _ _),trivial,λb hb=>absurd (show b∈([]:List Addr)from hb) (by simp),ag,.of_eq hg⟩;refine codeAny_mono ((F _ JZ (zC ir)).run callerA [] ar H ⟨[.ref a],[]⟩ [.ref a] [.ref a] _ _ hr e0 (tD ar (.ref a)) (.cons rfl .nil) (ip H hO hS)) λr s' h=>?_;cases r with
  |error e=>exact(tE H e s' h).elim
  | ok fl=>
   cases fl with
   |next=>exact False.elim h
   |brk=>exact False.elim h
   |cont=>exact False.elim h
   | ret u=>
    obtain⟨v,H',os,bare,un,C6,r',q⟩:=h;have q':v= .bl true:=q;subst q';obtain rfl:u=Value.bool true:=r';refine⟨rfl,OldK.of_keep λb o e=>?_,os,bare⟩;cases q:H b with
    |none=>exact un.keep b o e q (by intro z;exact absurd (show b∈([]:List Addr)from z) (by simp)) (by simp)
    |some u=>
     rcases hO b with z|⟨ob,xs,z⟩
     .rw[q]at z;cases z
     .have z2:=un.dJ b ob _ z;obtain⟨e1,_⟩:=ag b _ z;obtain⟨e2,_⟩:=C6 b _ z2;rw[e]at e1;cases e1;exact e2
 cases hk:K.lookup a with
 |some o=>have e:=KX a o hk;rw[ha]at e;cases e;refine core (λ_=>none) (λ_=>.inl rfl) (.inr ⟨_,vs.toArray,_,hk,rfl,rfl,rfl,by rw[size_toArray,C5];exact hl,by simpa using rv⟩) (λb u z=>by have z':(none:Option HO)=some u:=z;cases z') (λb z=>absurd rfl z) λz=>absurd rfl z
 | none=>
  refine core (λb=>if b=a then some (.aE {cls:=.type "list",data:=.seq vs.toArray} (.lst (ns.map V.int)))else none) (λb=>?_) (.inl (.inr ⟨{cls:=.type "list",data:=.seq vs.toArray},if_pos rfl⟩)) (λb u z=>?_) (λb z=>?_) λ_=>hk
  .by_cases hb:b=a
   .exact .inr ⟨_,_,if_pos hb⟩
   .exact .inl (if_neg hb)
  .by_cases hb:b=a
   .have z':=(if_pos hb).symm.trans z;cases z';subst hb;exact⟨ha,by rw[length_map];exact hl,vs,_,rv,ha⟩
   .have z':=(if_neg hb).symm.trans z;cases z'
  .by_cases hb:b=a
   .exact hb
   .exact absurd (if_neg hb) z
theorem Sl {l:PySem.W.OpenLaw}{n k:Nat}{q:Program}{loose:List Str}{XP:(Str->Option Value)->Heap->Prop}{YP:World->Heap->Prop}{d:DefRec}{K:Params->PySem.W.Frag}{CX:World->eK}{sp:World->Sp}{x:Str}(hn:l.most=some n)(qI:n<=sizeLine)(tw:d.params.defaults=[])(hr:ba k callerA)(hY:∀(w:World)(h:Heap),YP w h->(K w.params).In h)(F:∀(w:World)(mg:Str->Option Value)(fa:Addr)(h:Heap),(K w.params).In h->h.Ns mainGlobals mg->mg d.name=some (.ref fa)->∃fd:FuncData,(∀(s:Shared)(u:Value),BindsTo s fd ⟨[u],[]⟩ [(x,u)])/\∀base:Heap,(K w.params).In base->base.Ns mainGlobals mg->zi l.prog w (K w.params) mg base (CX w) k fa fd [x] (sp w))(ip:∀(w:World)(H:Hp)(a:Addr)(ns:List Int),ns.length<=n->zB H->ai (K w.params) H a (ns.map V.int)->sp w [.ref a] H (λv _=>v= .bl true) λ_ _ _=>False)(tE:∀(w:World)(H:Hp)(s:Shared)(e:Value)(s':Shared),CX w [] H s (λ_ _ _=>False) e s'->False):
  PySem.W.WalkO q loose XP YP l.row.toRowW d [] (λf vs=>PySem.call f vs):=by
 refine JX.Sh hn tw λw au ar mg mb fa o pm cd doc a vs ns G Yq ho hd cX hmg oq hints hlen hg=>?_;have KX:=hY w _ Yq;obtain⟨fd,hb,hF⟩:=F w mg fa _ KX G.T.g hmg;exact Sj KX G.T.g G.T.b G.T.builtins G.T.nolimit hg oq hints (le_trans hlen qI) hr hF hb (λH hO hS=>ip w H a ns hlen hO hS) λH e s'=>tE w H ar e s'
theorem j2n {l:PySem.W.OpenLaw}{n k:Nat}{q:Program}{loose:List Str}{XP:(Str->Option Value)->Heap->Prop}{YP:World->Heap->Prop}{d:DefRec}{K:Params->PySem.W.Frag}{CX:eK}{sp:PySem.W.Frag->Sp}{x:Str}(hn:l.most=some n)(qI:n<=sizeLine)(tw:d.params.defaults=[])(hr:ba k callerA)(hY:∀(w:World)(h:Heap),YP w h->(K w.params).In h)(F:∀(w:World)(mg:Str->Option Value)(fa:Addr)(h:Heap),(K w.params).In h->h.Ns mainGlobals mg->mg d.name=some (.ref fa)->∃fd:FuncData,(∀(s:Shared)(u:Value),BindsTo s fd ⟨[u],[]⟩ [(x,u)])/\∀base:Heap,(K w.params).In base->base.Ns mainGlobals mg->zi l.prog w (K w.params) mg base CX k fa fd [x] (sp (K w.params)))(ip:∀(K:PySem.W.Frag)(H:Hp)(a:Addr)(ns:List Int),ns.length<=n->zB H->ai K H a (ns.map V.int)->sp K [.ref a] H (λv _=>v= .bl true) λ_ _ _=>False)(tE:∀(H:Hp)(s:Shared)(e:Value)(s':Shared),CX [] H s (λ_ _ _=>False) e s'->False):
  PySem.W.WalkO q loose XP YP l.row.toRowW d [] (λf vs=>PySem.call f vs):=
 Sl (K:=K) (CX:=λ_=>CX) (sp:=λw=>sp (K w.params)) hn qI tw hr hY F (λw H a ns h1 h2 h3=>ip (K w.params) H a ns h1 h2 h3) λ_ H s e s'=>tE H s e s'
noncomputable def inClass (s:Stmt)(j:Nat):Stmt:=match s with
 | .ClassDef _ _ _ body _ _ _ _ _ _ _=>body.getD j (.Pass ⟨0,0,0,0⟩)
 |_=>.Pass ⟨0,0,0,0⟩
noncomputable def qP (s:Stmt):Arguments:=match s with
 | .FunctionDef _ a _ _ _ _ _ _ _ _=>a
 |_=>{posonlyargs:=[],args:=[],vararg:=none,kwonlyargs:=[],kw_defaults:=[],kwarg:=none,defaults:=[]}
noncomputable def iu (s:Stmt):List Stmt:=match s with
 | .FunctionDef _ _ b _ _ _ _ _ _ _=>b
 |_=>[]
noncomputable def jo (s:Stmt):Scope:=match s with
 | .FunctionDef _ _ _ _ _ _ sc _ _ _=>sc
 |_=>{kind:=.function,names:=[],isGenerator:=false,isCoroutine:=false}
noncomputable abbrev CX0:eK:=λ_ _ _ _ _ _=>False
noncomputable abbrev E0:XK:=λ_ _ _=>False
theorem jz {X:Cx}:Passes CX0 X E0:=λ_ _ _ _ _ _ _ h=>h.elim
structure aw (K:PySem.W.Frag)(x qual:Str)(st:Stmt)(f:Addr)(fd:FuncData):Prop where
 ex:∃(oc:Value)(od:Option Addr)(kV doc pm:Value)(an:Option Addr)(aT ct:Value)(jY:Array (Option Value)),fd=PySem.W.fnOf x qual (qP st) (iu st) (jo st) .none kV doc pm an aT ct/\K.lookup f=some ⟨oc,od,.func fd,jY⟩/\PySem.W.codeIn K aT qual=true
 kp:PySem.W.keepIn K (.ref f)=true
section
variable {P:Program}{w:World}{K:PySem.W.Frag}{mg:Str->Option Value}{base:Heap}
theorem aw.ok {x qual:Str}{st:Stmt}{f:Addr}{fd:FuncData}{N ps:List Str}{k:Nat}{sp:Sp}(F:aw K x qual st f fd)(S:ql N ps (jo st))(len:∀vs H Q E,sp vs H Q E->vs.length=ps.length)(bg:∀(aT:Value)(A:Around)(outer:List Env)(s:Shared)(H:Hp)(vs:List V)(Q:VK)(E:XK),ba k (A.deeper (envOfC qual (jo st) s.heap.objs.size f aT))->sp vs H Q E->∃t,cK (cZ CX0 P w K mg base N qual (jo st) f aT A outer s H E).qD (iu st) t/\t {nx:=λ_ H'=>Q .aj H',rt:=Q} (start N vs) H):zi P w K mg base CX0 (k+1) f fd ps sp:=by
 obtain⟨oc,od,kV,doc,pm,an,aT,ct,jY,rfl,lk,cX⟩:=F.ex;refine JG lk cX S len λA outer s H vs Q E hr ip=>?_;obtain⟨t,h,q⟩:=bg aT A outer s H vs Q E hr ip;exact⟨t,h.qD,q⟩
theorem aw.dQ {x qual:Str}{st:Stmt}{f:Addr}{fd:FuncData}{N ps:List Str}{k:Nat}{sp:Sp}(F:aw K x qual st f fd)(S:ql N ps (jo st))(bg:∀(aT:Value)(A:Around)(outer:List Env)(s:Shared)(H:Hp)(vs:List V)(Q:VK)(E:XK),ba k (A.deeper (envOfC qual (jo st) s.heap.objs.size f aT))->sp vs H Q E->∃t,cK (cZ CX0 P w K mg base N qual (jo st) f aT A outer s H E).qD (iu st) t/\t {nx:=λ_ H'=>Q .aj H',rt:=Q} (start N vs) H)(len:autoParam (∀vs H Q E,sp vs H Q E->vs.length=ps.length) aP6):zi P w K mg base CX0 (k+1) f fd ps sp:=F.ok S len bg
theorem aw.bY {x qual:Str}{st:Stmt}{f:Addr}{fd:FuncData}{N ps:List Str}{k:Nat}{sp:Sp}(F:aw K x qual st f fd)(bg:∀(aT:Value)(A:Around)(outer:List Env)(s:Shared)(H:Hp)(vs:List V)(Q:VK)(E:XK),ba k (A.deeper (envOfC qual (jo st) s.heap.objs.size f aT))->sp vs H Q E->∃t,cK (cZ CX0 P w K mg base N qual (jo st) f aT A outer s H E).qD (iu st) t/\t {nx:=λ_ H'=>Q .aj H',rt:=Q} (start N vs) H)(S:autoParam (ql N ps (jo st)) aP8)(len:autoParam (∀vs H Q E,sp vs H Q E->vs.length=ps.length) aP6):zi P w K mg base CX0 (k+1) f fd ps sp:=F.ok S len bg
theorem aw.binds {x qual:Str}{st:Stmt}{f:Addr}{fd:FuncData}{ps:List Str}(F:aw K x qual st f fd)(h:∀(kV doc pm:Value)(an:Option Addr)(aT ct:Value)(us:List Value),us.length=ps.length->bindArgs (PySem.W.fnOf x qual (qP st) (iu st) (jo st) .none kV doc pm an aT ct) ⟨us,[]⟩=pure (ps.zip us)):Binds K fd ps []:=by
 obtain⟨oc,od,kV,doc,pm,an,aT,ct,jY,rfl,lk,cX⟩:=F.ex;exact .all (h kV doc pm an aT ct)
theorem jj {x qual:Str}{st:Stmt}{f:Addr}{oc:Value}{od an:Option Addr}{jY:Array (Option Value)}{kV doc pm aT ct:Value}(l:K.lookup f=some ⟨oc,od,.func (PySem.W.fnOf x qual (qP st) (iu st) (jo st) .none kV doc pm an aT ct),jY⟩)(c:PySem.W.codeIn K aT qual=true)(k:PySem.W.keepIn K (.ref f)=true):aw K x qual st f (PySem.W.fnOf x qual (qP st) (iu st) (jo st) .none kV doc pm an aT ct):=⟨⟨oc,od,kV,doc,pm,an,aT,ct,jY,rfl,l,c⟩,k⟩
end
theorem lG {A:Around}{k:Nat}(hr:ba k A):A.units+1<cLine:=lt_of_le_of_lt (Nat.add_le_add_left (by decide:1<=64) _) hr.units
theorem xg {n:Nat}(h:n<=1000):n<sizeLine:=lt_of_le_of_lt h (by decide)
section
variable {X:Cx}
theorem pv (i:Nat){x:Str}{pos:Pos}(hN:autoParam (X.N[i]?=some x) aP1)(hv:autoParam (pZ X.env.scope x) aP9)(hd:autoParam ((x==("__debug__":Str))=false) aP2)(cX:autoParam ((x==("__classdict__":Str))=false) aP2):PE X (.Name x pos) (Cq i):=Qn hN hv hd cX
end
theorem qq {A Bq:Prop}(h:Bq):if false=true then A else Bq:=by rw[if_neg Bool.false_ne_true];exact h
theorem yz {A Bq:Prop}(h:A):if true=true then A else Bq:=by rw[if_pos rfl];exact h
theorem cz {c A Bq:Prop}[Decidable c](h1:c->A)(h2:¬c->Bq):if c then A else Bq:=by
 by_cases h:c
 .rw[if_pos h];exact h1 h
 .rw[if_neg h];exact h2 h
noncomputable def qg (H H':Hp):Prop:=∀b o,H b=some o->H' b=some o
theorem qg.refl (H:Hp):qg H H:=λ_ _ h=>h
theorem qg.trans {H H1 H2:Hp}(a:qg H H1)(b:qg H1 H2):qg H H2:=λc o h=>b c o (a c o h)
theorem qg.free {H H':Hp}(e:qg H H'){l:Addr}(h:H' l=Option.none):H l=Option.none:=by
 cases q:H l with
 |none=>rfl
 |some o=>rw[e l o q]at h;cases h
theorem qg.seq {K:PySem.W.Frag}{H H':Hp}{a:Addr}{xs:List V}(e:qg H H')(h:ai K H a xs):ai K H' a xs:=by
 rcases h with(h|⟨o,h⟩)|h
 .exact .inl (.inl (e _ _ h))
 .exact .inl (.inr ⟨o,e _ _ h⟩)
 .exact .inr h
section
variable {B:Type}[DecidableEq B]
noncomputable def br (aa:List (B×V))(k:B):Option V:=(aa.find? λkv=>decide (kv.1=k)).map (·.2)
noncomputable def putK (aa:List (B×V))(k:B)(v:V):List (B×V):=if(aa.any λkv=>decide (kv.1=k))=true then aa.map (λkv=>if kv.1=k then(kv.1,v)else kv)else aa++[(k,v)]
theorem lH {p:B×V}{r:List (B×V)}{k:B}(e:p.1=k):br (p::r) k=some p.2:=by simp[br,find?_cons,e]
theorem jZ {p:B×V}{r:List (B×V)}{k:B}(e:¬p.1=k):br (p::r) k=br r k:=by simp[br,find?_cons,e]
theorem zE (k:B):∀aa:List (B×V),(aa.any λkv=>decide (kv.1=k))=(br aa k).isSome
 |[]=>rfl
 |p::r=>by
  rw[any_cons];by_cases e:p.1=k
  .simp only[lH e,decide_eq_true e,Bool.true_or,Option.isSome_some]
  .rw[jZ e,decide_eq_false e,Bool.false_or];exact zE k r
theorem tF (aa:List (B×V))(k:B)(v:V):(putK aa k v).length<=aa.length+1:=by
 unfold putK;split
 .rw[length_map];lia
 .rw[length_append,length_cons,length_nil];lia
theorem zF {aa:List (B×V)}{k:B}(v:V)(h:br aa k=none):putK aa k v=aa++[(k,v)]:=by unfold putK;rw[zE,h];exact if_neg (by decide)
theorem dI.tG {o:Option V}{u:Option Value}(r:dI o u):o.isSome=u.isSome:=by
 cases o with
 |none=>cases u with
  |none=>rfl
  |some _=>exact(show False from r).elim
 |some _=>cases u with
  |none=>exact(show False from r).elim
  |some _=>rfl
theorem dI.getD {o:Option V}{u:Option Value}{d:V}{d':Value}(r:dI o u)(rd:RelV d d'):RelV (o.getD d) (u.getD d'):=by
 cases o with
 |none=>cases u with
  |none=>exact rd
  |some _=>exact(show False from r).elim
 |some _=>cases u with
  |none=>exact(show False from r).elim
  |some _=>exact r
theorem KV.val {aa:List (B×V)}{vs:List (B×Value)}(r:KV aa vs)(k:B):dI (br aa k) (valueAt vs k):=by
 unfold KV at r;induction r with
 |nil=>exact True.intro
 | @cons p q ps qs h t ih=>
  obtain⟨h1,h2⟩:=h;by_cases e:p.1=k
  .have e':q.1=k:=h1.symm.trans e;have b:valueAt (q::qs) k=some q.2:=by simp[valueAt,find?_cons,e']
   rw[lH e,b];exact h2
  .have e':¬q.1=k:=λz=>e (h1.trans z);have b:valueAt (q::qs) k=valueAt qs k:=by simp[valueAt,find?_cons,e']
   rw[jZ e,b];exact ih
theorem KV.any {aa:List (B×V)}{vs:List (B×Value)}(r:KV aa vs)(k:B):(aa.any λkv=>decide (kv.1=k))=vs.any λkv=>decide (kv.1=k):=by
 unfold KV at r;induction r with
 |nil=>rfl
 |cons h t ih=>rw[any_cons,any_cons,ih,h.1]
theorem KV.C7 {aa:List (B×V)}{vs:List (B×Value)}(r:KV aa vs)(k:B){y:V}{u:Value}(ry:RelV y u):KV (aa.map λkv=>if kv.1=k then(kv.1,y)else kv) (vs.map λkv=>if kv.1=k then(kv.1,u)else kv):=by
 unfold KV at r⊢;induction r with
 |nil=>exact .nil
 |@cons p q ps qs h t ih=>
  rw[map_cons,map_cons];refine .cons ?_ ih;obtain⟨h1,h2⟩:=h;by_cases e:p.1=k
  .rw[if_pos e,if_pos (h1.symm.trans e)];exact⟨h1,ry⟩
  .rw[if_neg e,if_neg (λz=>e (h1.trans z))];exact⟨h1,h2⟩
theorem KV.put {aa:List (B×V)}{vs:List (B×Value)}(r:KV aa vs)(k:B){y:V}{u:Value}(ry:RelV y u):KV (putK aa k y) (stored vs k u):=by
 unfold putK stored;rw[r.any k];by_cases e:(vs.any λkv=>decide (kv.1=k))=true
 .rw[if_pos e,if_pos e];exact r.C7 k ry
 .rw[if_neg e,if_neg e];exact Paired.snoc r ⟨rfl,ry⟩
theorem KV.length {aa:List (B×V)}{vs:List (B×Value)}(r:KV aa vs):aa.length=vs.length:=Paired.length r
end
theorem ou {P:Program}{w:World}{k:Key}{u:Value}(r:RelV (kV k) u):(qh P w).is k u=true:=by
 cases k with
 |inl i=>obtain⟨t,e⟩:=(show ∃t,u=Value.int i t from r);subst e;exact Iw P w i t
 |inr x=>obtain⟨t,e⟩:=(show ∃t,u=Value.str x t from r);subst e;exact Qh P w x t
theorem J1 {P:Program}{w:World}:∀{ks:List Key}{us:List Value},Vals (ks.map kV) us->ItemsAre (qh P w) ks us
 |[],_,r=>by rw[map_nil]at r;cases r;exact .nil
 |k::ks,_,r=>by
  rw[map_cons]at r;cases r with
  |cons h t=>exact .cons (ou h) (J1 t)
noncomputable abbrev KT (H:Hp):List (List Key×V)->List (List Key×Addr×Value)->Prop:=Paired λp q=>p.1=q.1/\H q.2.1=some (.tup (p.1.map kV))/\RelV p.2 q.2.2
theorem KT.val {H:Hp}{aa:List (List Key×V)}{xs:List (List Key×Addr×Value)}(r:KT H aa xs)(k:List Key):dI (br aa k) ((atKey xs k).map (·.2)):=by
 induction r with
 |nil=>exact True.intro
 | @cons p q ps qs h t ih=>
  obtain⟨h1,_,h2⟩:=h;by_cases e:p.1=k
  .have e':q.1=k:=h1.symm.trans e;have b:atKey (q::qs) k=some q.2:=by simp[atKey,find?_cons,e']
   rw[lH e,b];exact h2
  .have e':¬q.1=k:=λz=>e (h1.trans z);have b:atKey (q::qs) k=atKey qs k:=by simp[atKey,find?_cons,e']
   rw[jZ e,b];exact ih
theorem KT.C7 {H:Hp}{aa:List (List Key×V)}{xs:List (List Key×Addr×Value)}(r:KT H aa xs)(k:List Key){y:V}{u:Value}(ry:RelV y u):KT H (aa.map λkv=>if kv.1=k then(kv.1,y)else kv) (xs.map (putAt k u)):=by
 induction r with
 |nil=>exact .nil
 |@cons p q ps qs h t ih=>
  rw[map_cons,map_cons];refine .cons ?_ ih;obtain⟨h1,h2,h3⟩:=h;unfold putAt;by_cases e:p.1=k
  .rw[if_pos e,if_pos (h1.symm.trans e)];exact⟨h1,h2,ry⟩
  .rw[if_neg e,if_neg (λz=>e (h1.trans z))];exact⟨h1,h2,h3⟩
theorem KT.put {H:Hp}{aa:List (List Key×V)}{xs:List (List Key×Addr×Value)}(r:KT H aa xs)(k:List Key){b:Addr}{y:V}{u:Value}(hb:H b=some (.tup (k.map kV)))(ry:RelV y u):KT H (putK aa k y) (storedH xs k b u):=by
 have e:(aa.any λkv=>decide (kv.1=k))=(atKey xs k).isSome:=by rw[zE,(r.val k).tG,Option.isSome_map]
 unfold putK storedH;rw[e];by_cases q:(atKey xs k).isSome=true
 .rw[if_pos q,if_pos q];exact r.C7 k ry
 .rw[if_neg q,if_neg q];exact Paired.snoc r ⟨rfl,hb,ry⟩
theorem KT.keeps {H H':Hp}{aa:List (List Key×V)}{xs:List (List Key×Addr×Value)}(r:KT H aa xs)(ht:∀b ys,H b=some (.tup ys)->H' b=some (.tup ys)):KT H' aa xs:=Paired.aQ r λ_ _ z=>⟨z.1,ht _ _ z.2.1,z.2.2⟩
section
variable {P:Program}{w:World}{H:Hp}{h:Heap}{a:Addr}
theorem J2 {u:HO}(ok:bJ P w H h)(e:Rd H a u):ym P w H h a u:=e.ok ok
theorem ox {aa:List (Key×V)}(ok:bJ P w H h)(e:Rd H a (.dK aa)):aa.length<=sizeLine/\(a==sysModules)=false/\∃vs,KV aa vs/\h.DictOf (qh P w) a vs:=show ym P w H h a (.dK aa)from J2 ok e
theorem J3 {aa:List (Key×V)}(ok:bJ P w H h)(e:H a=some (.dK aa)):aa.length<=sizeLine/\(a==sysModules)=false/\∃vs,KV aa vs/\h.DictOf (qh P w) a vs:=ox ok (.inl e)
theorem kA {ks:List Key}(ok:bJ P w H h)(e:H a=some (.tup (ks.map kV))):(tupleKind (qh P w)).is h ks a:=by obtain⟨_,its,r,o,h1,h2,n,h3⟩:=(show ym P w H h a (.tup (ks.map kV))from ok a _ e);exact⟨o,its.toArray,n,h1,h2,h3,by simpa using J1 r⟩
theorem oy {aa:List (List Key×V)}(ok:bJ P w H h)(e:Rd H a (.dT aa)):aa.length<=sizeLine/\(a==sysModules)=false/\∃xs,KT H aa xs/\h.DictOfH (tupleKind (qh P w)) a xs:=by
 obtain⟨z,y,xs,r,o,es,ep,h1,h2,h3,h4,h5⟩:=(show ym P w H h a (.dT aa)from J2 ok e);refine⟨z,y,xs,r,o,es,ep,h1,h2,h3,h4,λx hx=>?_,h5⟩;have all:∀{l:List (List Key×V)}{m:List (List Key×Addr×Value)},KT H l m->∀x∈m,(tupleKind (qh P w)).is h x.1 x.2.1:=by
  intro l m q;induction q with
  |nil=>intro x hx;exact nomatch hx
  |@cons p q ps qs hq t ih=>
   intro x hx;rcases mem_cons.mp hx with e|hx
   .subst e;exact kA ok (by rw[<-hq.1];exact hq.2.1)
   .exact ih x hx
 exact all r x hx
theorem C8 {aa:List (List Key×V)}(ok:bJ P w H h)(e:H a=some (.dT aa)):aa.length<=sizeLine/\(a==sysModules)=false/\∃xs,KT H aa xs/\h.DictOfH (tupleKind (qh P w)) a xs:=oy ok (.inl e)
end
noncomputable def lI (H:Hp)(a:Addr)(y:V)(r:Option V):Prop:=(∃aa k,Rd H a (.dK aa)/\y=kV k/\r=br aa k)\/∃aa k b,Rd H a (.dT aa)/\y= .ref b/\H b=some (.tup (k.map kV))/\r=br aa k
noncomputable def iw (H:Hp)(a:Addr)(y v:V)(H':Hp):Prop:=(∃aa k,H a=some (.dK aa)/\y=kV k/\aa.length<sizeLine/\H'=upd H a (.dK (putK aa k v)))\/∃aa k b,H a=some (.dT aa)/\y= .ref b/\H b=some (.tup (k.map kV))/\aa.length<sizeLine/\H'=upd H a (.dT (putK aa k v))
theorem iw.k {H:Hp}{a:Addr}{aa:List (Key×V)}{k:Key}{v:V}(e:H a=some (.dK aa))(hl:aa.length<sizeLine):iw H a (kV k) v (upd H a (.dK (putK aa k v))):=.inl ⟨aa,k,e,rfl,hl,rfl⟩
theorem iw.t {H:Hp}{a b:Addr}{aa:List (List Key×V)}{k:List Key}{v:V}(e:H a=some (.dT aa))(eb:H b=some (.tup (k.map kV)))(hl:aa.length<sizeLine):iw H a (.ref b) v (upd H a (.dT (putK aa k v))):=.inr ⟨aa,k,b,e,rfl,eb,hl,rfl⟩
section
variable {X:Cx}{pins:List (Addr×Obj)}{U:St}{H:Hp}{s:Shared}{a:Addr}{y v:V}{u r:Value}{o:Option V}{A:Around}{E:Value->Shared->Prop}
theorem Inv.big (I:Inv X pins U H s):sysModules<s.heap.objs.size:=by have h:mainGlobals<s.heap.objs.size:=(I.mod.glob.keeps I.bk).lt;exact Nat.lt_trans (by decide) h
theorem Sm {Q:Value->Shared->Prop}(hu:A.units+1<cLine)(I:Inv X pins U H s)(g:lI H a y (some v))(ry:RelV y u)(h:∀w' s',Inv X pins U H s'->RelV v w'->Q w' s'):wpAny (model X.prog X.w) A (getItem (.ref a) u) Q E s:=by
 rcases g with⟨aa,k,e,ey,l⟩|⟨aa,k,b,e,ey,eb,l⟩
 .subst ey;obtain⟨z,hd,vs,rel,dd⟩:=ox I.ag e;obtain⟨w',hw,cR⟩:=dI.some_of (v:=v) (o:=valueAt vs k) (by rw[l];exact rel.val k);exact wpAny_getItem_of (ou ry) dd.mapOf hw (h w' _ (I.tok _) cR)
 .subst ey;cases(show u=Value.ref b from ry);obtain⟨z,hd,xs,rel,dd⟩:=oy I.ag e;obtain⟨w',hw,cR⟩:=dI.some_of (v:=v) (o:=(atKey xs k).map (·.2)) (by rw[l];exact rel.val k);obtain⟨p,hp,C9⟩:=Option.map_eq_some_iff.mp hw;refine wpAny_getItem_heap (tupleKind_room_in1 hu) (kA I.ag eb) dd hp ?_;rw[C9];exact h w' _ (I.tok _) cR
theorem Sn {Q:Value->Shared->Prop}(hu:A.units+1<cLine)(I:Inv X pins U H s)(g:lI H a y o)(ry:RelV y u)(h:∀s',Inv X pins U H s'->Q (.bool o.isSome) s'):wpAny (model X.prog X.w) A (compareOp .In u (.ref a)) Q E s:=by
 rcases g with⟨aa,k,e,ey,l⟩|⟨aa,k,b,e,ey,eb,l⟩
 .subst ey;obtain⟨z,hd,vs,rel,dd⟩:=ox I.ag e;refine wpAny_in_of (ou ry) hd dd.mapOf ?_;rw[<-(rel.val k).tG,<-l];exact h _ (I.tok _)
 .subst ey;cases(show u=Value.ref b from ry);obtain⟨z,hd,xs,rel,dd⟩:=oy I.ag e;refine wpAny_in_heap (tupleKind_room_in1 hu) (kA I.ag eb) hd dd ?_;have q:=(rel.val k).tG;rw[Option.isSome_map]at q;rw[<-q,<-l];exact h _ (I.tok _)
theorem So {Q:Value->Shared->Prop}(hu:A.units+1<cLine)(I:Inv X pins U H s)(g:lI H a y o)(ry:RelV y u)(h:∀s',Inv X pins U H s'->Q (.bool (!o.isSome)) s'):wpAny (model X.prog X.w) A (compareOp .NotIn u (.ref a)) Q E s:=by
 rcases g with⟨aa,k,e,ey,l⟩|⟨aa,k,b,e,ey,eb,l⟩
 .subst ey;obtain⟨z,hd,vs,rel,dd⟩:=ox I.ag e;refine wpAny_notIn_of (ou ry) hd dd.mapOf ?_;rw[<-(rel.val k).tG,<-l];exact h _ (I.tok _)
 .subst ey;cases(show u=Value.ref b from ry);obtain⟨z,hd,xs,rel,dd⟩:=oy I.ag e;refine wpAny_notIn_heap (tupleKind_room_in1 hu) (kA I.ag eb) hd dd ?_;have q:=(rel.val k).tG;rw[Option.isSome_map]at q;rw[<-q,<-l];exact h _ (I.tok _)
theorem qQ {h':Heap}{t':Nat}{ob:HO}(I:Inv X pins U H s)(mu:fw (H a))(hs:Heap.SameBut a s.heap h')(he:∃q,h'.get? a=some q)(new:ym X.prog X.w (upd H a ob) h' a ob):Inv X pins U (upd H a ob) {s with heap:=h',toks:=t'}:=
 I.write (x:=a) (e:=a) mu (.inl rfl) (λb q hb z=>(hs.2 b hb).trans z) he new
theorem J4 {P:Program}{w:World}{H':Hp}{h':Heap}{aa:List (Key×V)}{vs:List (Key×Value)}(z:aa.length<=sizeLine)(hd:(a==sysModules)=false)(rel:KV aa vs)(dd:h'.DictOf (qh P w) a vs):ym P w H' h' a (.dK aa):=⟨z,hd,vs,rel,dd⟩
theorem Sq {H':Hp}{Q:Unit->Shared->Prop}(hu:A.units+1<cLine)(I:Inv X pins U H s)(g:iw H a y v H')(ry:RelV y u)(rv:RelV v r)(h:∀s',Inv X pins U H' s'->Q () s'):wpAny (model X.prog X.w) A (setItem (.ref a) u r) Q E s:=by
 rcases g with⟨aa,k,e,ey,l,eH⟩|⟨aa,k,b,e,ey,eb,l,eH⟩
 .subst ey eH;obtain⟨z,hd,vs,rel,dd⟩:=J3 I.ag e;have hz:vs.length<=sizeLine:=by rw[<-rel.length];exact z
  have hl:(putK aa k v).length<=sizeLine:=by have:=tF aa k v;lia
  refine wpAny_setItem_pairs (hsz:=hz) (ou ry) dd λh' gS hs=>h _ ?_;have he:∃q,h'.get? a=some q:=let⟨q,_,_,hq,_⟩:=gS;⟨q,hq⟩;exact qQ I (by rw[e];exact True.intro) hs he (J4 hl hd (rel.put k rv) gS)
 .subst ey eH;cases(show u=Value.ref b from ry);obtain⟨z,hd,xs,rel,dd⟩:=C8 I.ag e;have hz:xs.length<=sizeLine:=by rw[<-Paired.length rel];exact z
  have hl:(putK aa k v).length<=sizeLine:=by have:=tF aa k v;lia
  refine wpAny_setItem_heap (hsz:=hz) (tupleKind_room_in1 hu) (kA I.ag eb) dd λh' gS hs=>h _ ?_;obtain⟨q,es,ep,hq,h2,h3,h4,_,h5⟩:=gS;refine qQ I (by rw[e];exact True.intro) hs ⟨q,hq⟩ ⟨hl,hd,_,(rel.put k eb rv).keeps λc ys ec=>?_,q,es,ep,hq,h2,h3,h4,h5⟩;rw[jd (ie ec e (λz=>nomatch z))];exact ec
end
noncomputable def J6 (i:Expr):Prop:=∀ov iv,subscripted i false ov iv=operate [ov,iv] (getItem ov iv)
theorem Sr {prog:Program}{w:World}{A:Around}{E:Value->Shared->Prop}{s:Shared}{env:Env}{value slice:Expr}{pos:Pos}{T id:String}{Q:Value->Shared->Prop}(hl:typeLookup (.type T) "__getitem__"=pure (some (.builtin id)))(hs:J6 slice)(h:wpAny (model prog w) A (eval value env) (λo ar=>wpAny (model prog w) A (eval slice env) (λi ae=>ae.TypeIs o T/\wpAny (model prog w) A (getItem o i) Q E ae) E ar) E s):
  wpAny (model prog w) A (eval (.Subscript value slice pos) env) Q E s:=by
 refine Subscript_ (wpAny_mono h (λo ar h₁=>wpAny_mono h₁ (λi ae cM=>?_) λ_ _ x=>x) λ_ _ x=>x);obtain⟨hT,cM⟩:=cM;unfold subscriptTail;refine wpAny_bind ?_;rw[getitemInPython_of_ne hT.not_modules];refine wpAny_bind (wpAny_specialOf hT hl ?_);have fin:wpAny (model prog w) A (subscripted slice false o i) (λr aX=>wpAny (model prog w) A (letTemporaryGo value o r >>= λ_=>pure r) Q E aX) E ae:=by rw[hs o i];exact wpAny_operating (wpAny_mono cM (λr aX fE=>wpAny_bind (wpAny_letTemporaryGo (wpAny_pure fE))) λ_ _ x=>x)
 first
  |exact wpAny_pure (wpAny_bind fin)
  |exact wpAny_bind (wpAny_pure (wpAny_bind fin))
  |exact wpAny_bind fin
theorem Ss {X:Cx}{pins:List (Addr×Obj)}{U:St}{H:Hp}{s:Shared}{a:Addr}{y:V}{o:Option V}(I:Inv X pins U H s)(g:lI H a y o):s.TypeIs (.ref a) "dict":=by
 rcases g with⟨aa,k,e,_,_⟩|⟨aa,k,b,e,_,_,_⟩
 .obtain⟨_,_,vs,_,dd⟩:=ox I.ag e;exact dd.typeIs
 .obtain⟨_,_,xs,_,dd⟩:=oy I.ag e;exact dd.typeIs
noncomputable def Su (td ty:TE):TE:=λ U H Q=>td U H λx H1=>ty U H1 λy H2=>∃a v,x= .ref a/\lI H2 a y (some v)/\Q v H2
noncomputable def Sv (ty td:TE):TE:=λ U H Q=>ty U H λy H1=>td U H1 λx H2=>∃a o,x= .ref a/\lI H2 a y o/\Q (.bl o.isSome) H2
noncomputable def Sw (ty td:TE):TE:=λ U H Q=>ty U H λy H1=>td U H1 λx H2=>∃a o,x= .ref a/\lI H2 a y o/\Q (.bl (!o.isSome)) H2
noncomputable def Sy (td ty tv:TE):TS:=λD U H=>tv U H λv H1=>td U H1 λx H2=>ty U H2 λy H3=>∃a H4,x= .ref a/\iw H3 a y v H4/\D.nx U H4
section
variable {X:Cx}{o i e value:Expr}{pos pos' fB:Pos}{td ty tv:TE}
theorem J7 (hu:X.A.units+1<cLine)(ho:PE X o td)(hi:PE X i ty)(hs:J6 i):PE X (.Subscript o i pos) (Su td ty):=by intro pins s U H Q I h;refine Sr PySem.F.slot_dict_getitem.lookup hs (aq (ho pins s U H _ I h) λu s1 ⟨x,H1,I1,rx,q1⟩=>aq (hi pins s1 U H1 _ I1 q1) λiv s2 zQ=>?_);obtain⟨y,H2,I2,ry,a,v,ex,g,q2⟩:=zQ;subst ex;obtain rfl:u=Value.ref a:=rx;exact⟨Ss I2 g,Sm hu I2 g ry λw' s3 I3 cR=>⟨v,H2,I3,cR,q2⟩⟩
theorem SA (hu:X.A.units+1<cLine)(hi:PE X i ty)(ho:PE X o td):PC X .In i o (Sv ty td):=by intro pins s U H Q I h;refine aq (hi pins s U H _ I h) λiv s1 ⟨y,H1,I1,ry,q1⟩=>aq (ho pins s1 U H1 _ I1 q1) λu s2 zQ=>?_;obtain⟨x,H2,I2,rx,a,ov,ex,g,q2⟩:=zQ;subst ex;obtain rfl:u=Value.ref a:=rx;exact Sn hu I2 g ry λs3 I3=>⟨.bl ov.isSome,H2,I3,rfl,q2⟩
theorem Dc (hu:X.A.units+1<cLine)(hi:PE X i ty)(ho:PE X o td):PC X .NotIn i o (Sw ty td):=by intro pins s U H Q I h;refine aq (hi pins s U H _ I h) λiv s1 ⟨y,H1,I1,ry,q1⟩=>aq (ho pins s1 U H1 _ I1 q1) λu s2 zQ=>?_;obtain⟨x,H2,I2,rx,a,ov,ex,g,q2⟩:=zQ;subst ex;obtain rfl:u=Value.ref a:=rx;exact So hu I2 g ry λs3 I3=>⟨.bl (!ov.isSome),H2,I3,rfl,q2⟩
theorem J8 (hu:X.A.units+1<cLine)(ho:PE X o td)(hi:PE X i ty)(hv:PE X value tv)(hs:swapsWith value (some (.Subscript o i pos')) pos.line X.env=pure false):PS X (.Assign [.Subscript o i pos'] value pos) (Sy td ty tv):=by
 intro pins s U H D I h;refine wpAny_Assign_Subscript (aq (hv pins s U H _ I h) λr s1 ⟨v,H1,I1,rv,q1⟩=>aq (ho pins s1 U H1 _ I1 q1) λu s2 ⟨x,H2,I2,rx,q2⟩=>aq (hi pins s2 U H2 _ I2 q2) λiv s3 zQ=>?_) hs;obtain⟨y,H3,I3,ry,a,H4,ex,g,q3⟩:=zQ;subst ex;obtain rfl:u=Value.ref a:=rx;exact Sq hu I3 g ry rv λs4 I4=>⟨U,H4,I4,q3⟩
end
theorem SD {P:Program}{w:World}{H:Hp}(h:Heap)(hb:sysModules<h.objs.size):ym P w H (h.push {cls:=.type "dict",data:=.dict #[]}) h.objs.size (.dK []):=⟨zero_le _,beq_eq_false_iff_ne.mpr (Ne.symm (ne_of_lt hb)),[],.nil,Heap.DictOf.new h⟩
theorem J9 {P:Program}{w:World}{H:Hp}(h:Heap)(hb:sysModules<h.objs.size):ym P w H (h.push {cls:=.type "dict",data:=.dict #[]}) h.objs.size (.dT []):=⟨zero_le _,beq_eq_false_iff_ne.mpr (Ne.symm (ne_of_lt hb)),[],.nil,_,#[],0,Heap.get?_push_size _ rfl,⟨rfl,rfl,rfl⟩,rfl,rfl,List.nodup_nil⟩
noncomputable def SE:TE:=λ_ H Q=>∀p,H p=none->Q (.ref p) (upd H p (.dT []))
section
variable {X:Cx}{pos:Pos}
theorem Dd:PE X (.Dict [] [] pos) SE:=λpins s U H Q I h=>wpAny_Dict_empty ⟨.ref s.heap.objs.size,_,I.laid (a:=s.heap.objs.size) (o:=.dT []) (t':=s.toks) (λ_ _ q=>Heap.get?_push_of_some _ q) (le_refl _) (J9 s.heap I.big),rfl,h _ (I.ag.fresh (le_refl _))⟩
end
structure M2 (X:Cx)(o:Expr)(m:Str)(apos:Pos)(e f:Expr)(az:Pos):Prop where
 base:attributeBase o m X.env (eval o X.env)=eval o X.env
 few:((backTo az (starEach [e,f] X.env)).all (λx=>!x.1)&&(backToKw az (keywordEach [] X.env)).all (λx=>x.1.isSome)&&decide (([e,f]:List Expr).length+([]:List Keyword).length+(if([]:List Keyword).isEmpty then 0 else 1)<30))=true
 line:(apos.endLine==az.line)=true
 trees:backTo az (starEach [e,f] X.env)=[(false,eval e X.env),(false,eval f X.env)]
noncomputable def Ka (H:Hp)(a:Addr):Prop:=(∃aa,Rd H a (.dK aa))\/∃aa,Rd H a (.dT aa)
theorem SG {X:Cx}{pins:List (Addr×Obj)}{U:St}{H:Hp}{s:Shared}{a:Addr}(I:Inv X pins U H s)(d:Ka H a):s.TypeIs (.ref a) "dict"/\(∀b,Value.ref a= .ref b->∃ob,s.heap.get? b=some ob/\ob.dict=none)/\(a==sysModules)=false:=by
 rcases d with⟨aa,e⟩|⟨aa,e⟩
 .obtain⟨_,hd,vs,_,dd⟩:=ox I.ag e;refine⟨dd.typeIs,λb q=>?_,hd⟩;cases q;obtain⟨ob,_,_,h1,h2,_⟩:=dd;exact⟨ob,h1,h2.2.1⟩
 .obtain⟨_,hd,xs,_,dd⟩:=oy I.ag e;refine⟨dd.typeIs,λb q=>?_,hd⟩;cases q;obtain⟨ob,_,_,h1,h2,_⟩:=dd;exact⟨ob,h1,h2.2.1⟩
section
variable {X:Cx}{pins:List (Addr×Obj)}{U:St}{H:Hp}{s:Shared}{a:Addr}{y d:V}{u r:Value}{o:Option V}{A:Around}{E:Value->Shared->Prop}
theorem SH {Q:Value->Shared->Prop}(hu:A.units+1<cLine)(I:Inv X pins U H s)(g:lI H a y o)(ry:RelV y u)(rd:RelV d r)(h:∀w' s',Inv X pins U H s'->RelV (o.getD d) w'->Q w' s'):wpAny (model X.prog X.w) A (call (.builtin "dict.get") [.ref a,u,r]) Q E s:=by
 rcases g with⟨aa,k,e,ey,l⟩|⟨aa,k,b,e,ey,eb,l⟩
 .subst ey;obtain⟨z,hd,vs,rel,dd⟩:=ox I.ag e;refine call_meetsIn PySem.F.slot_dict_get dd.typeIs PySem.F.entry_dict_get (PySem.F.args_dict_get_3 _ _ _) (meets_dict_get_default (qh X.prog X.w) a (ou ry) hd r) ⟨_,dd.mapOf,h _ _ (I.tok _) ?_⟩;rw[l];exact(rel.val k).getD rd
 .subst ey;cases(show u=Value.ref b from ry);obtain⟨z,hd,xs,rel,dd⟩:=oy I.ag e;refine call_meetsIn PySem.F.slot_dict_get dd.typeIs PySem.F.entry_dict_get (PySem.F.args_dict_get_3 _ _ _) (meetsH_dict_get_default (tupleKind (qh X.prog X.w)) a b hd r) ⟨tupleKind_room_in1 hu,k,xs,kA I.ag eb,dd,h _ _ (I.tok _) ?_⟩;rw[l];exact(rel.val k).getD rd
end
section
variable {B:Type}[DecidableEq B]
theorem SI {aa:List (B×V)}{k:B}{v:V}(h:br aa k=some v):k∈aa.map (·.1):=by
 have q:(aa.any λkv=>decide (kv.1=k))=true:=by rw[zE,h];all_goals rfl
 obtain⟨p,hp,e⟩:=List.any_eq_true.mp q;exact mem_map.mpr ⟨p,hp,of_decide_eq_true e⟩
end
noncomputable def gT (scope:Scope)(env:Env):List (Str×Addr):=(scope.names.filterMap λp=>if p.2=NameKind.free then(env.cells.lookup p.1).map λc=>(p.1,c)else none).reverse
theorem De {α:Type}{x:Str}{c:α}:∀{l:List (Str×α)},l.lookup x=some c->(x,c)∈l
 |[],h=>by simp at h
 |(y,d)::r,h=>by
  rw[lookup_cons]at h;cases e:x==y with
  |true=>rw[e]at h;have h':d=c:=Option.some.inj h;rw[h',eq_of_beq e];exact mem_cons_self
  |false=>rw[e]at h;exact mem_cons_of_mem _ (De h)
theorem Kb {α:Type}{x:Str}{c:α}:∀{l:List (Str×α)},(x,c)∈l->∃d,l.lookup x=some d
 |[],h=>by simp at h
 | (y,d)::r,h=>by
  rw[lookup_cons];cases e:x==y with
  |true=>exact⟨d,rfl⟩
  |false=>
   rcases mem_cons.mp h with z|z
   .have z1:x=y:=congrArg Prod.fst z;rw[z1,beq_self_eq_true]at e;cases e
   .exact Kb z
theorem Kc {scope:Scope}{env:Env}{x:Str}{c:Addr}:(x,c)∈gT scope env↔(x,NameKind.free)∈scope.names/\env.cells.lookup x=some c:=by
 unfold gT;rw[List.mem_reverse,mem_filterMap];constructor
 .rintro⟨⟨y,k⟩,hm,e⟩
  by_cases hk:k=NameKind.free
  .subst hk;rw[if_pos rfl]at e;cases q:env.cells.lookup y with
   |none=>rw[q]at e;cases e
   |some d=>rw[q]at e;have e':(y,d)=(x,c):=Option.some.inj e;cases e';exact⟨hm,q⟩
  .rw[if_neg hk]at e;cases e
 .rintro⟨hm,q⟩
  exact⟨(x,NameKind.free),hm,by rw[if_pos rfl];rw[q];rfl⟩
theorem iX {scope:Scope}{env:Env}{x:Str}{c:Addr}(h:(gT scope env).lookup x=some c):env.cells.lookup x=some c:=(Kc.mp (De h)).2
theorem Df {scope:Scope}{env:Env}{x:Str}{c:Addr}(hm:(x,NameKind.free)∈scope.names)(h:env.cells.lookup x=some c):(gT scope env).lookup x=some c:=by obtain⟨d,e⟩:=Kb (Kc.mpr ⟨hm,h⟩);rw[e,<-h];exact(iX e).symm
theorem Dg {env:Env}:∀(names:List (Str×NameKind))(cs:List (Str×Addr)),(∀p∈names,p.2= .free->∃c,env.cells.lookup p.1=some c)->(forIn names cs λ(x:Str×NameKind)(cs:List (Str×Addr))=>(match x with
   |(name,kind)=>if(kind== .free)=true then(do let a<-cellOf env name;pure (ForInStep.yield ((name,a)::cs)))else pure (ForInStep.yield cs):Sem (ForInStep (List (Str×Addr)))))
   =pure ((names.filterMap λp=>if p.2=NameKind.free then(env.cells.lookup p.1).map λc=>(p.1,c)else none).reverse++cs)
 |[],cs,_=>rfl
 | (n,k)::r,cs,h=>by
  rw[forIn_cons];have hr:∀p∈r,p.2= .free->∃c,env.cells.lookup p.1=some c:=λp hp=>h p (mem_cons_of_mem _ hp);by_cases hk:k=NameKind.free
  .subst hk;obtain⟨c,hc⟩:=h (n,.free) mem_cons_self rfl;have e1:cellOf env n=pure c:=by unfold cellOf;rw[show env.cells.lookup n=some c from hc]
   show((do let a<-cellOf env n;pure (ForInStep.yield ((n,a)::cs)):Sem (ForInStep (List (Str×Addr)))) >>= _)=_;rw[e1];simp only[pure_bind];rw[Dg r ((n,c)::cs) hr,filterMap_cons,if_pos rfl,show env.cells.lookup n=some c from hc];simp
  .have hb:(k==NameKind.free)=false:=by simpa using hk
   show((if(k==NameKind.free)=true then(do let a<-cellOf env n;pure (ForInStep.yield ((n,a)::cs)))else pure (ForInStep.yield cs):Sem (ForInStep (List (Str×Addr)))) >>= _)=_;rw[hb,if_neg Bool.false_ne_true];simp only[pure_bind];rw[Dg r cs hr,filterMap_cons,if_neg hk]
theorem SJ {scope:Scope}{env:Env}(h:∀p∈scope.names,p.2= .free->∃c,env.cells.lookup p.1=some c):closureFor scope env=pure (gT scope env):=by have e:=Dg scope.names [] h;rw[append_nil]at e;unfold closureFor gT;simp only[bind_pure];exact e
theorem gd {env:Env}{x:Str}:∀{names:List (Str×NameKind)}{k:NameKind},(names.map λ(n,k)=>if(k==NameKind.free&&env.scope.kind== .function&&env.kindOf n==some .cell)then(n,NameKind.cell)else(n,k)).lookup x=some k->∃k',(x,k')∈names/\(k'=k\/(k'= .free/\k= .cell))
 |[],_,h=>by simp at h
 | (n,j)::r,k,h=>by
  by_cases hc:(j==NameKind.free&&env.scope.kind== .function&&env.kindOf n==some .cell)=true
  .rw[map_cons]at h;have h':List.lookup x ((if(j==NameKind.free&&env.scope.kind== .function&&env.kindOf n==some .cell)=true then(n,NameKind.cell)else(n,j))::_)=some k:=h;rw[if_pos hc,lookup_cons]at h';cases e:x==n with
   |true=>
    rw[e]at h';have h2:NameKind.cell=k:=Option.some.inj h';have hj:j=NameKind.free:=by have:=hc;rw[Bool.and_eq_true,Bool.and_eq_true]at this;exact eq_of_beq this.1.1
    exact⟨j,by rw[eq_of_beq e];exact mem_cons_self,.inr ⟨hj,h2.symm⟩⟩
   |false=>rw[e]at h';obtain⟨k',hm,q⟩:=gd h';exact⟨k',mem_cons_of_mem _ hm,q⟩
  .rw[map_cons]at h;have h':List.lookup x ((if(j==NameKind.free&&env.scope.kind== .function&&env.kindOf n==some .cell)=true then(n,NameKind.cell)else(n,j))::_)=some k:=h;rw[if_neg hc,lookup_cons]at h';cases e:x==n with
   |true=>rw[e]at h';exact⟨j,by rw[eq_of_beq e];exact mem_cons_self,.inl (Option.some.inj h')⟩
   |false=>rw[e]at h';obtain⟨k',hm,q⟩:=gd h';exact⟨k',mem_cons_of_mem _ hm,q⟩
noncomputable def Kd (N:List Str)(sc scope:Scope)(N':List Str)(ix:List (Option Nat)):Bool:=scope.kind== .function&&scope.names.all (λy=>y.2 != .cell)&&scope.names.all (λy=>y.2 != .local||scope.names.lookup y.1==some .local)&&
 scope.names.all (λy=>y.2 != .free||sc.names.lookup y.1==some .cell||sc.names.lookup y.1==some .free)&&
 decide (ix.length=N'.length)&&decide N'.Nodup&&(N'.zip ix).all λp=>match p.2 with
  |none=>scope.names.all λy=>y.1 != p.1||y.2== .local
  |some k=>N[k]?==some p.1&&scope.names.lookup p.1==some .free&&scope.names.all λy=>y.1 != p.1||y.2== .free
structure lJ (N:List Str)(sc scope:Scope)(N':List Str)(ix:List (Option Nat)):Prop where
 kind:scope.kind= .function
 Dh:∀y∈scope.names,y.2≠.cell
 names:∀y∈scope.names,y.2= .local->scope.names.lookup y.1=some .local
 frees:∀y∈scope.names,y.2= .free->sc.names.lookup y.1=some .cell\/sc.names.lookup y.1=some .free
 len:ix.length=N'.length
 nd:N'.Nodup
 own:∀(i:Nat)(x:Str),N'[i]?=some x->ix[i]?=some none->∀y∈scope.names,y.1=x->y.2= .local
 out:∀(i:Nat)(x:Str)(k:Nat),N'[i]?=some x->ix[i]?=some (some k)->N[k]?=some x/\(x,NameKind.free)∈scope.names/\∀y∈scope.names,y.1=x->y.2= .free
theorem wu {N:List Str}{sc scope:Scope}{N':List Str}{ix:List (Option Nat)}(h:Kd N sc scope N' ix=true):lJ N sc scope N' ix:=by
 unfold Kd at h;simp only[Bool.and_eq_true,all_eq_true,Bool.or_eq_true,bne_iff_ne,beq_iff_eq,decide_eq_true_eq,ne_eq]at h;obtain⟨⟨⟨⟨⟨⟨h1,h2⟩,h3⟩,h4⟩,h5⟩,h6⟩,h7⟩:=h;have mF:∀{i:Nat}{x:Str}{o:Option Nat},N'[i]?=some x->ix[i]?=some o->(x,o)∈N'.zip ix:=λ{i x o} a b=>by refine mem_of_getElem? (i:=i) ?_;rw[List.getElem?_zip_eq_some];exact⟨a,b⟩
 refine⟨h1,λy hy=>h2 y hy,λy hy e=>?_,λy hy e=>?_,h5,h6,λi x a b y hy e=>?_,λi x k a b=>?_⟩
 .rcases h3 y hy with z|z
  .exact absurd e z
  .exact z
 .rcases h4 y hy with(z|z)|z
  .exact absurd e z
  .exact .inl z
  .exact .inr z
 .have q:=h7 _ (mF a b);simp only[all_eq_true,Bool.or_eq_true,bne_iff_ne,beq_iff_eq,ne_eq]at q;rcases q y hy with z|z
  .exact absurd e z
  .exact z
 .have q:=h7 _ (mF a b);simp only[Bool.and_eq_true,all_eq_true,Bool.or_eq_true,bne_iff_ne,beq_iff_eq,ne_eq]at q;obtain⟨⟨q1,q2⟩,q3⟩:=q;refine⟨q1,De q2,λy hy e=>?_⟩;rcases q3 y hy with z|z
  .exact absurd e z
  .exact z
noncomputable def iy (ix:List (Option Nat))(U:St):St:=ix.map λo=>match o with
 |some k=>(U[k]?).join
 |none=>none
noncomputable def bo (X:Cx)(scope:Scope)(N':List Str)(C:Addr)(fp:List Addr)(ae:Shared)(ah:Hp):Cx:={X with N:=N',au:=ae,bK:=ah,env:=compEnvC scope (gT scope X.env) C X.env,outer:=X.stack,stack:=X.stack,ex:=fp,fn:=λ_=>false,pn:=[],xe:=λ_ _=>False}
noncomputable abbrev eO (its:List Value)(n:Nat):Obj:={cls:=.type "list",data:=.seq its.toArray n}
section
variable {X:Cx}{scope:Scope}{N':List Str}{ix:List (Option Nat)}{C:Addr}{fp:List Addr}{ae:Shared}{ah:Hp}{pins:List (Addr×Obj)}{U:St}
theorem SK (I:Inv X pins U ah ae){x:Str}{c:Addr}(h:(gT scope X.env).lookup x=some c):c<ae.heap.objs.size:=by obtain⟨v,q⟩:=I.cell x c (iX h);exact q.lt
theorem Ke (I:Inv X pins U ah ae)(co:lJ X.N X.env.scope scope N' ix)(hC:@LE.le Nat _ ae.heap.objs.size C)(hf:∀b∈fp,eA X pins ah b)(aD:∀b∈fp,b<ae.heap.objs.size):(bo X scope N' C fp ae ah).Ok where
 mod:=I.ok.mod
 kind:=co.kind
 glob:=I.ok.glob
 blt:=I.ok.blt
 above:=hC
 inj:=λx y c e1 e2=>I.ok.inj x y c (iX e1) (iX e2)
 has:=λx h=>by
  have h1:∃k,(relabel scope X.env).names.lookup x=some k/\(k= .cell\/k= .free):=by
   rcases h with h|h
   .exact⟨_,h,.inl rfl⟩
   .exact⟨_,h,.inr rfl⟩
  obtain⟨k,h1,h2⟩:=h1;obtain⟨k',hm,q⟩:=gd h1;have hk:k'= .free:=by
   rcases q with q|⟨q,_⟩
   .rcases h2 with z|z
    .exact absurd (q.trans z) (co.Dh _ hm)
    .exact q.trans z
   .exact q
  rw[hk]at hm;obtain⟨c,hc⟩:=I.ok.has x (co.frees _ hm rfl);exact⟨c,Df hm hc⟩
 nH:=λx c h=>by have h':false=true:=h;cases h'
 hd:=I.ok.hd
 frames:=I.ok.frames
 cW:=.inl rfl
 yE:=λb hb=>⟨ne_of_lt (lt_of_lt_of_le (aD b hb) hC),λx c e=>(hf b hb).2.2.2.2.1 x c (iX e)⟩
 bs:=I.bs
 jO:=le_trans I.ok.jO I.sz
 nI:=λb o e hb=>by
  rcases(hf b hb).2.2.2.1 with z|z
  .exact I.ok.nI b o e z
  .exact absurd (lt_of_lt_of_le (Heap.lt_size (I.ok.bs b o e).1) z) (lt_irrefl _)
 qA:=λb hb z=>by
  rcases mem_cons.mp (I.nJ b z)with e|e
  .exact(hf b hb).2.1 e
  .exact(hf b hb).2.2.1 e
 fc:=I.stack
 iQ:=I.yF
theorem SM (I:Inv X pins U ah ae){b:Addr}(h:ae.heap.objs.size<=b):b∉bA X.stack:=λz=>by
 rcases mem_cons.mp (I.nJ b z)with e|e
 .rw[e]at h;exact absurd (lt_of_lt_of_le I.lt h) (lt_irrefl _)
 .exact I.Iz h e
theorem SN (I:Inv X pins U ah ae)(co:lJ X.N X.env.scope scope N' ix){D:Addr}{h₁:Heap}{t':Nat}(hD:@Eq Nat D ae.heap.objs.size)(hC:@Eq Nat C (ae.heap.objs.size+1))(hf:∀b∈fp,eA X pins ah b)(aD:∀b∈fp,b<ae.heap.objs.size)(old:∀b o,ae.heap.get? b=some o->h₁.get? b=some o)(lK:h₁.get? D=some (eO [] 0)){m:Str->Option Value}(ir:h₁.Ns C m):
  Inv (bo X scope N' C fp ae ah) [(D,eO [] 0)] (iy ix U) ah {ae with heap:=h₁,toks:=t'} where
 ok:=Ke I co (by lia) hf aD
 os:=rfl
 bare:=I.bare
 base:=Un.kept old
 loc :=by
  refine⟨m,ir,λi x v e1 e2 e3=>?_⟩;unfold iy at e2;rw[getElem?_map]at e2;cases q:ix[i]? with
  |none=>rw[q]at e2;cases e2
  | some o=>
   rw[q]at e2;cases o with
   |none=>cases e2
   | some k=>
    have gC:(U[k]?).join=some v:=Option.some.inj e2;have oz:U[k]?=some (some v):=by
     cases z:U[k]? with
     |none=>rw[z]at gC;cases gC
     |some o=>rw[z]at gC;exact congrArg some gC
    obtain⟨o1,o2,o3⟩:=co.out i x k e1 q;have hk:X.env.kindOf x=some .cell\/X.env.kindOf x=some .free:=co.frees _ o2 rfl;have SO:pZ X.env.scope x:=.inr hk;obtain⟨m0,_,hl⟩:=I.loc;obtain⟨u,r,l⟩:=hl k x v o1 oz SO;refine⟨u,r,?_⟩;rcases l with⟨l,_⟩|⟨_,c,ec,dy⟩
    .rcases hk with z|z
     .rw[z]at l;cases l
     .rw[z]at l;cases l
    .refine .inr ⟨?_,c,Df o2 ec,?_⟩
     .rcases e3 with z|z|z
      .obtain⟨k',hm,q⟩:=gd z;rcases q with q|⟨_,q⟩
       .have:=o3 _ hm rfl;rw[show k'=NameKind.local from q]at this;cases this
       .cases q
      .exact .inl z
      .exact .inr z
     .obtain⟨o,ho,hd⟩:=dy;exact⟨o,old _ _ ho,hd⟩
 cell:=λx c e=>by obtain⟨v,o,ho,hd⟩:=I.cell x c (iX e);exact⟨v,o,old _ _ ho,hd⟩
 free:=I.ag.fresh (by show@LE.le Nat _ ae.heap.objs.size C;lia)
 dM:=λx c e=>I.dM x c (iX e)
 pin:=λp hp=>by
  have e:p=(D,eO [] 0):=by simpa[bo]using hp
  subst e;refine⟨lK,I.ag.fresh (by show@LE.le Nat _ ae.heap.objs.size D;lia),by show¬@Eq Nat D C;lia,SM I (by show@LE.le Nat _ ae.heap.objs.size D;lia),λv z=>?_⟩;have z':Data.seq _ _=Data.cell v:=z;cases z'
 ag:=I.ag.kept old
 len:=by unfold iy;rw[length_map];exact co.len
theorem SQ (I:Inv X pins U ah ae){D:Addr}(hD:@Eq Nat D ae.heap.objs.size)(hf:∀b∈fp,eA X pins ah b){ys:List V}{its:List Value}{n:Nat}{U':St}{H':Hp}{s':Shared}(I':Inv (bo X scope N' C fp ae ah) [(D,eO its n)] U' H' s')(hv:Vals ys its)(hz:ys.length<=sizeLine):Inv X pins U (upd H' D (.lst ys)) s':=by
 obtain⟨dp,dn,_,_,_⟩:=I'.pin (D,eO its n) (by simp);have SR:s'.heap.get? D=some (eO its n):=dp;have Kf:H' D=none:=dn;have u:=I'.base;have ne:∀b o,ae.heap.get? b=some o->b≠D:=λb o e z=>by have h1:@LT.lt Nat _ b ae.heap.objs.size:=Heap.lt_size e;have h2:@Eq Nat b D:=z;lia
 have mG:∀b o,ah b=some o->b≠D:=λb o e z=>by have h1:@LT.lt Nat _ b ae.heap.objs.size:=I.ag.lt e;have h2:@Eq Nat b D:=z;lia
 refine I.Cp (ch:=fp) I'.os ⟨u.keep,u.slot,λb o e q hb=>?_,u.there,λb xs q=>?_,λb o xs q=>?_,λb ps q=>?_⟩ (λb o e=>?_) I'.bare λb hb=>?_
 .rw[jd (ne b o e)];exact u.free b o e q hb
 .rw[jd (mG b _ q)];exact u.cn b xs q
 .rw[jd (mG b _ q)];exact u.dJ b o xs q
 .rw[jd (mG b _ q)];exact u.eI b ps q
 .by_cases hb:b=D
  .subst hb;rw[ja]at e;cases e;exact⟨hz,its,n,hv,SR⟩
  .rw[jd hb]at e;exact(I'.ag b o e).cG (λc v _ q=>q) (λc q=>by rw[jd (ji q Kf)];exact q) λc xs q=>by rw[jd (ji q Kf)];exact q
 .obtain⟨_,f1,_,f3,f4,f5⟩:=hf b hb;exact⟨f3,f1,f4,f5⟩
end
noncomputable abbrev eB:Value->Shared->Prop:=λ_ _=>False
section
variable {prog:Program}{w:World}{A:Around}{R:Result->Shared->Prop}{s:Shared}
theorem SS {elt target iter:Expr}{ifs:List Expr}{scope:Scope}{pos:Pos}{it acc:Value}{env:Env}(I:Nat->Shared->Prop)(turn:∀n s,I n s->wpAny (model prog w) A (pyNext it) (λr ar=>match r with
   |none=>R (.ok .next) ar
   |some v=>wpAny (model prog w) A (letOwnedTupleGo target it v) (λ_ ar=>wpAny (model prog w) A (assign target env v) (λ_ ae=>wpAny (model prog w) A (forIn ifs true λc r=>if r=true then do let ok<-isTrue c env (eval c env);pure (ForInStep.yield ok)else pure (ForInStep.yield r)) (λok aX=>if ok=true then wpAny (model prog w) A (eval elt env) (λx dR=>wpAny (model prog w) A (call (.builtin "list.append") [acc,x]) (λ_ iY=>∃m,m<n/\I m iY) eB dR) eB aX
      else ∃m,m<n/\I m aX) eB ae) eB ar) eB ar) eB s)(n:Nat)(h:I n s):codeAny (model prog w) A (.compLoop (.ListComp elt [⟨target,iter,ifs,0⟩] scope pos) 0 it acc env) R s:=by
 refine codeAny_loop rfl I (λn s hI=>?_) n h;show wpAny _ A ((compTurn (.ListComp elt [⟨target,iter,ifs,0⟩] scope pos) 0 it acc env).onRaise (λx=>do noteFrame x env;theTreesLotGoes x)) _ _ s;refine wpAny_noted ?_;rw[compTurn_list];refine wpAny_bind (wpAny_standAt (wpAny_bind (wpAny_mono (turn n s hI) (λr ar h₁=>?_) λ_ _ h'=>h'.elim)));cases r with
 |none=>exact wpAny_pure h₁
 |some v=>
  refine wpAny_bind (wpAny_mono h₁ (λ_ ar h₁=>?_) λ_ _ h'=>h'.elim);refine wpAny_bind (wpAny_mono h₁ (λ_ ae cM=>wpAny_bind (wpAny_mono cM (λok aX fE=>?_) λ_ _ h'=>h'.elim)) λ_ _ h'=>h'.elim);cases ok with
  |false=>exact wpAny_pure ⟨rfl,fE⟩
  |true=>exact wpAny_bind (wpAny_bind (wpAny_mono fE (λx dR cO=>wpAny_bind (wpAny_mono cO (λ_ iY aY=>wpAny_pure (wpAny_pure ⟨rfl,aY⟩)) λ_ _ h'=>h'.elim)) λ_ _ h'=>h'.elim))
end
noncomputable def qR (X:Cx)(ifs:List Expr)(t:TT):Prop:=∀(pins:List (Addr×Obj))(s:Shared)(U:St)(H:Hp)(Q:Bool->Hp->Prop),Inv X pins U H s->t U H Q->wpAny (model X.prog X.w) X.A (forIn ifs true λc r=>if r=true then do let ok<-isTrue c X.env (eval c X.env);pure (ForInStep.yield ok)else pure (ForInStep.yield r)) (TP X pins U Q) X.xe s
noncomputable def mH:TT:=λ_ H Q=>Q true H
theorem oA {X:Cx}:qR X [] mH:=λ_ _ _ H _ I h=>wpAny_tests_nil ⟨H,I,h⟩
theorem Di {X:Cx}{c:Expr}{t:TT}(h:PT X c t):qR X [c] t:=λpins s U H Q I q=>wpAny_tests_one (h pins s U H Q I q)
noncomputable def oB (Q:VK)(ys:List V)(H:Hp):Prop:=∀p,H p=none->Q (.ref p) (upd H p (.lst ys))
noncomputable def SU (ix:List (Option Nat))(wi:TI)(g:TG)(ti:TT)(te:TE):TE:=λ U H Q=>wi U H λJ H1=>∃W:Nat->Nat->List V->St->Hp->Prop,(∃m,W 0 m [] (iy ix U) H1)/\∀i m ys U H,W i m ys U H->ys.length<=sizeLine/\((J.stop i H/\oB Q ys H)\/(J.go i H/\∃N:List V->St->Hp->Prop,(∀bH U' H',N bH U' H'->∃m',m'<m/\W (i+1) m' bH U' H')/\∀x H',J.dz i H x H'->g x U H' λ U2 H2=>ti U2 H2 λb H3=>if b=true then te U2 H3 λy H4=>N (ys++[y]) U2 H4 else N ys U2 H3))
structure bZ (X:Cx)(pins:List (Addr×Obj))(H:Hp)(s:Shared)(C:Addr):Prop where
 ns:∃m,s.heap.Ns C m
 fr:H C=none
 nl:C≠X.env.locals
 ab:X.au.heap.objs.size<=C
 nc:∀x c,X.env.cells.lookup x=some c->c≠C
 np:∀p∈X.pn++pins,p.1≠C
section
variable {X:Cx}
theorem SV {scope:Scope}{N':List Str}{ix:List (Option Nat)}{pins:List (Addr×Obj)}{U:St}{tg iter elt:Expr}{ifs:List Expr}{pos:Pos}{g:TG}{ti:TT}{te:TE}{E:Value->Shared->Prop}(co:lJ X.N X.env.scope scope N' ix)(hc:X.calm=true)(hg:∀C fp ae ah,PG (bo X scope N' C fp ae ah) tg g)(hi:∀C fp ae ah,qR (bo X scope N' C fp ae ah) ifs ti)(he:∀C fp ae ah,PE (bo X scope N' C fp ae ah) elt te){ah:Hp}{ae:Shared}{J:It}{fp:List Addr}{it:Addr}{tn:Nat->Heap->Prop}{QF:List V->Hp->Prop}(I:Inv X pins U ah ae)(T:Turn X.prog X.w X.K tg J fp it tn)(st:tn 0 ae.heap)(hf:∀b∈fp,eA X pins ah b){W:Nat->Nat->List V->St->Hp->Prop}(w0:∃m,W 0 m [] (iy ix U) ah)(hW:∀i m ys U H,W i m ys U H->ys.length<=sizeLine/\((J.stop i H/\QF ys H)\/(J.go i H/\∃N:List V->St->Hp->Prop,(∀bH U' H',N bH U' H'->∃m',m'<m/\W (i+1) m' bH U' H')/\∀x H',J.dz i H x H'->g x U H' λ U2 H2=>ti U2 H2 λb H3=>if b=true then te U2 H3 λy H4=>N (ys++[y]) U2 H4 else N ys U2 H3))){RR:Value->Addr->Result->Shared->Prop}(Dj:∀D C ys H' s',Inv X pins U (upd H' D (.lst ys)) s'->H' D=none->QF ys H'->bZ X pins (upd H' D (.lst ys)) s' C->RR (.ref D) C (.ok .next) s'):
  wpAny (model X.prog X.w) X.A (newList []) (λacc aX=>wpAny (model X.prog X.w) X.A (newFunctionEnv scope X.env.globals (gT scope X.env) [] X.env.qual none .none (some X.env)) (λiZ dR=>codeAny (model X.prog X.w) X.A (.compStart (.ListComp elt [⟨tg,iter,ifs,0⟩] scope pos) 0 (.ref it) acc {iZ with scope:=relabel scope X.env}) (RR acc iZ.locals) dR) E aX) E ae:=by
 have aD:∀b∈fp,@LT.lt Nat _ b ae.heap.objs.size:=λb hb=>by obtain⟨o,e,_⟩:=T.obj _ _ st b hb;exact Heap.lt_size e
 refine wpAny_newObj_type (wpAny_newFunctionEnv co.Dh (by intro y hy;simp at hy) (λh₁ bU bE=>?_) co.kind);dsimp only at bU bE⊢;generalize qS:ae.heap.push {cls:=.type "list",dict:=none,data:=.seq ([]:List Value).toArray}=H2 at bU bE⊢;have hC:@Eq Nat H2.objs.size (ae.heap.objs.size+1):=by rw[<-qS,Heap.size_push]
 have below:∀b:Nat,b<ae.heap.objs.size->¬@Eq Nat b H2.objs.size:=λb hb=>by lia
 have zG:¬@Eq Nat ae.heap.objs.size H2.objs.size:=by lia
 have old:∀b o,ae.heap.get? b=some o->h₁.get? b=some o:=λb o e=>bE.extBut b o (below b (Heap.lt_size e)) (Heap.get?_push_of_some _ (qS ▸ Heap.get?_push_of_some _ e));have lK:h₁.get? ae.heap.objs.size=some (eO [] 0):=bE.extBut _ _ zG (Heap.get?_push_of_some _ (qS ▸ Heap.get?_push_size _ rfl));have eP:tn 0 h₁:=T.keep _ _ _ st λb _ o e=>old b o e;generalize Dk:H2.objs.size=C at bU bE hC below zG⊢;generalize Kg:ae.heap.objs.size=D at lK zG⊢;have loop:∀aX:Shared,aX={ae with heap:=h₁,toks:=ae.toks+([]:List (Str×Value)).length}->codeAny (model X.prog X.w) X.A (.compLoop (.ListComp elt [⟨tg,iter,ifs,0⟩] scope pos) 0 (.ref it) (.ref D) (compEnvC scope (gT scope X.env) C X.env)) (RR (.ref D) C) aX:=by
  rintro aX rfl
  obtain⟨m0,w0⟩:=w0;have I3:Inv (bo X scope N' C fp ae ah) [(D,eO [] 0)] (iy ix U) ah {ae with heap:=h₁,toks:=ae.toks+([]:List (Str×Value)).length}:=SN I co Kg.symm hC hf aD old lK bU;refine SS (λk s'=>∃i ys its n U' H',Inv (bo X scope N' C fp ae ah) [(D,eO its n)] U' H' s'/\Vals ys its/\tn i s'.heap/\(∀b∈fp,H' b=none)/\W i k ys U' H') ?_ m0 ⟨0,[],[],0,_,_,I3,.nil,eP,λb hb=>(hf b hb).1,w0⟩
  rintro k s' ⟨i,ys,its,n,U',H',I',hv,bF,oE,w'⟩
  have fF:∀{H':Hp}{o:Obj},(∀b∈fp,H' b=none)->∀b∈fp,eA (bo X scope N' C fp ae ah) [(D,o)] H' b:=λ{H' o} hn b hb=>by
   refine⟨hn b hb,below b (aD b hb),λz=>?_,.inl hb,λx c e=>(hf b hb).2.2.2.2.1 x c (iX e),λp hp z=>?_⟩
   .rcases mem_cons.mp (I.nJ b z)with e|e
    .exact(hf b hb).2.1 e
    .exact(hf b hb).2.2.1 e
   .have e:p=(D,o):=by simpa[bo]using hp
    subst e;have z':@Eq Nat D b:=z;have z2:=aD b hb;lia
  obtain⟨hz,SW⟩:=hW i k ys U' H' w';rcases SW with⟨stop,q⟩|⟨go,N,hN,step⟩
  .refine aq (T.done (bo X scope N' C fp ae ah) rfl rfl rfl hc i _ s' U' H' eB I' (fF oE) bF stop) λr s4 ⟨hr,I4⟩=>?_;subst hr;obtain⟨_,dn,_⟩:=I4.pin (D,eO its n) (by simp);have cf:H' C=none:=I4.free;refine Dj D C ys H' s4 (SQ I Kg.symm hf I4 hv hz) dn q ⟨?_,by rw[jd (Ne.symm zG)];exact cf,?_,?_,λx c e=>?_,λp hp=>?_⟩
   .obtain⟨m,hn,_⟩:=I4.loc;exact⟨m,hn⟩
   .have z:@LT.lt Nat _ X.env.locals ae.heap.objs.size:=I.lt;show¬@Eq Nat C X.env.locals;lia
   .have z:@LE.le Nat _ X.au.heap.objs.size ae.heap.objs.size:=I.sz;show@LE.le Nat _ X.au.heap.objs.size C;lia
   .obtain⟨v,z⟩:=I.cell x c e;have z2:@LT.lt Nat _ c ae.heap.objs.size:=z.lt;show¬@Eq Nat c C;lia
   .have z2:@LT.lt Nat _ p.1 ae.heap.objs.size:=Heap.lt_size (I.pin p hp).1;show¬@Eq Nat p.1 C;lia
  .refine aq (T.item (bo X scope N' C fp ae ah) rfl rfl rfl hc i _ s' U' H' eB I' (fF oE) bF go) λr s4 zQ=>?_;obtain⟨u,hr,h4⟩:=zQ;subst hr;refine aq h4 λ_ s5 zQ=>?_;obtain⟨x,H5,I5,r5,y5,gO,sN⟩:=zQ;have sO:=I5.pinned (fF sN) (T.obj _ _ gO);refine aq (hg C fp ae ah _ s5 U' H5 x u _ sO r5 (step x H5 y5)) λ_ s6 zQ=>?_;obtain⟨U6,H6,I6,q6⟩:=zQ;refine aq (hi C fp ae ah _ s6 U6 H6 _ I6 q6) λok s7 zQ=>?_;obtain⟨H7,I7,q7⟩:=zQ;have fG:∀{U8:St}{H8:Hp}{s8:Shared},Inv (bo X scope N' C fp ae ah) ([(D,eO its n)]++lC fp s5.heap) U8 H8 s8->∀b∈fp,∀o,s5.heap.get? b=some o->s8.heap.get? b=some o/\H8 b=none:=λ{U8 H8 s8} I8 b hb o e=>by
    have z:=I8.pin (b,o) (mem_append_right _ (mem_append_right _ (yO hb e)));exact⟨z.1,z.2.1⟩
   cases ok with
   |false=>
    have fH:N ys U6 H7:=by have fH:=q7;rw[if_neg Bool.false_ne_true]at fH;exact fH
    obtain⟨m',hm,w7⟩:=hN _ _ _ fH;refine⟨m',hm,i+1,ys,its,n,U6,H7,I7.sM,hv,T.keep _ _ _ gO λb hb o e=>(fG I7 b hb o e).1,λb hb=>?_,w7⟩;obtain⟨o,e,_⟩:=T.obj _ _ gO b hb;exact(fG I7 b hb o e).2
   | true=>
    have fH:te U6 H7 λy H4=>N (ys++[y]) U6 H4:=by have fH:=q7;rw[if_pos rfl]at fH;exact fH
    show wpAny _ _ _ _ _ _;refine aq (he C fp ae ah _ s7 U6 H7 _ I7 fH) λyv s8 zQ=>?_;obtain⟨y,H8,I8,r8,q8⟩:=zQ;obtain⟨m',hm,w8⟩:=hN _ _ _ q8;obtain⟨z1,z2,z3,z4,z5⟩:=I8.pin (D,eO its n) (by simp);have zD:s8.heap.get? D=some (eO its n):=z1;have SX:=hv.length;refine append_at (hsz:=by rw[size_toArray];lia) zD λh9 Kh SY=>?_;have S0:Inv (bo X scope N' C fp ae ah) (lC fp s5.heap) U6 H8 s8:=I8.yG λp hp=>I8.pin p (mem_append_right _ (mem_append_right _ hp));have I9:Inv (bo X scope N' C fp ae ah) (lC fp s5.heap) U6 H8 {s8 with heap:=h9}:=S0.turned (it:=D) (t':=s8.toks) (λb o hb e=>(Kh.2 b hb).trans e) z2 z3 (.inr (by show ae.heap.objs.size<=D;lia)) (λx c e=>by have z:@LT.lt Nat _ c ae.heap.objs.size:=SK (scope:=scope) I e;show¬@Eq Nat c D;lia) (λp hp=>by
      have lL:p∈lC fp s5.heap:=by simpa[bo]using hp
      have z:=aD _ (Ja lL).1;show¬@Eq Nat p.1 D;lia);have Dl:h9.get? D=some (eO (its++[yv]) (n+1)):=by
     rw[SY];simp[eO]
    have gD:Inv (bo X scope N' C fp ae ah) [(D,eO (its++[yv]) (n+1))] U6 H8 {s8 with heap:=h9}:=I9.yG λp hp=>by
     have e:p=(D,eO (its++[yv]) (n+1)):=by simpa using hp
     subst e;refine⟨Dl,z2,z3,z4,λv z=>?_⟩;have z':Data.seq _ _=Data.cell v:=z;cases z'
    refine⟨m',hm,i+1,ys++[y],its++[yv],n+1,U6,H8,gD,hv.append (.cons r8 .nil),T.keep _ _ _ gO λb hb o e=>?_,λb hb=>?_,w8⟩
    .have S1:b≠D:=by
      have z:=aD b hb;show¬@Eq Nat b D;lia
     exact(Kh.2 b S1).trans (fG I8 b hb o e).1
    .obtain⟨o,e,_⟩:=T.obj _ _ gO b hb;exact(fG I8 b hb o e).2
 exact codeAny_compStart_list (loop _ rfl) (T.self _ 0 _ _ _ eP (loop _ rfl))
theorem bZ.go {pins:List (Addr×Obj)}{U:St}{H:Hp}{s:Shared}{C:Addr}{h':Heap}(G:bZ X pins H s C)(I:Inv X pins U H s)(hs:Heap.SameBut C s.heap h'):Inv X pins U H {s with heap:=h'}:=I.turned (it:=C) (t':=s.toks) (λb o hb e=>(hs.2 b hb).trans e) G.fr G.nl (.inr G.ab) G.nc G.np
variable {scope:Scope}{N':List Str}{ix:List (Option Nat)}{tg iter elt:Expr}{ifs:List Expr}{pos:Pos}{wi:TI}{g:TG}{ti:TT}{te:TE}
theorem Ki (co:lJ X.N X.env.scope scope N' ix){pins:List (Addr×Obj)}{U:St}{H:Hp}{s:Shared}(I:Inv X pins U H s):closureFor scope X.env=pure (gT scope X.env):=SJ λp hp e=>I.ok.has p.1 (co.frees p hp e)
theorem lM (co:lJ X.N X.env.scope scope N' ix)(hc:X.calm=true)(hit:PI X tg iter wi)(hg:∀C fp ae ah,PG (bo X scope N' C fp ae ah) tg g)(hi:∀C fp ae ah,qR (bo X scope N' C fp ae ah) ifs ti)(he:∀C fp ae ah,PE (bo X scope N' C fp ae ah) elt te)(hs:autoParam (∀x,foldedSetIterable iter X.env x=pure x) aP3):
  PE X (.ListComp elt [⟨tg,iter,ifs,0⟩] scope pos) (SU ix wi g ti te):=by
 intro pins s U H Q I h;rw[eval_ListComp];refine wpAny_comprehension_free (use:=none) rfl hs (Ki co I) co.kind co.names (aq (hit pins s U H _ I h) λxv ar h₁=>aq h₁ λyN ae cM=>?_);obtain⟨it,fp,tn,J,ah,e,gU,T,st,hf,W,w0,hW⟩:=cM;subst e;refine SV co hc hg hi he gU T st hf w0 hW (RR:=λacc C=>compPost (model X.prog X.w) X.A X.xe none (EP X pins U Q) acc C) λD C ys H' s' I' dn q G=>?_;obtain⟨m,hn⟩:=G.ns;exact⟨m,hn,λh' oF=>⟨.ref D,_,G.go I' oF,rfl,q D dn⟩⟩
end
theorem tH {K:PySem.W.Frag}{a:Addr}{xs:List V}{g:TG}{ti:TT}{te:TE}{U0:St}{H0:Hp}{Q:VK}(Pv:Nat->List V->St->Hp->Prop)(h0:Pv 0 [] U0 H0)(hl:∀i ys U H,i<=xs.length->Pv i ys U H->ai K H a xs/\ys.length<=sizeLine)(hs:∀i x ys U H,xs[i]?=some x->Pv i ys U H->g x U H λ U2 H2=>ti U2 H2 λb H3=>if b=true then te U2 H3 λy H4=>Pv (i+1) (ys++[y]) U2 H4 else Pv (i+1) ys U2 H3)(hd:∀ys U H,Pv xs.length ys U H->∀p,H p=none->Q (.ref p) (upd H p (.lst ys))):∃W:Nat->Nat->List V->St->Hp->Prop,(∃m,W 0 m [] U0 H0)/\∀i m ys U H,W i m ys U H->ys.length<=sizeLine/\(((mr K a).stop i H/\oB Q ys H)\/((mr K a).go i H/\∃N:List V->St->Hp->Prop,(∀bH U' H',N bH U' H'->∃m',m'<m/\W (i+1) m' bH U' H')/\∀x H',(mr K a).dz i H x H'->g x U H' λ U2 H2=>ti U2 H2 λb H3=>if b=true then te U2 H3 λy H4=>N (ys++[y]) U2 H4 else N ys U2 H3)):=by
 refine⟨λi m ys U H=>m=xs.length-i/\i<=xs.length/\Pv i ys U H,⟨xs.length,by simp,zero_le _,h0⟩,?_⟩
 rintro i m ys U H ⟨rfl,hi,p⟩
 obtain⟨q,hz⟩:=hl i ys U H hi p;refine⟨hz,?_⟩;by_cases aD:i<xs.length
 .refine .inr ⟨⟨xs,xs[i],q,by simp[aD]⟩,Pv (i+1),λbH U' H' p'=>⟨xs.length-(i+1),by lia,rfl,aD,p'⟩,λx H' y=>?_⟩;obtain⟨e,y⟩:=y;subst e;exact hs i x ys U _ (y xs q) p
 .have e:i=xs.length:=by lia
  subst e;exact .inl ⟨⟨xs,q,le_refl _⟩,hd ys U H p⟩
section
variable {X:Cx}
theorem vg:dA X (.builtin "isinstance") (λxs H Q=>∃x t T b,xs=[x,.ty T]/\fZ X.K H x t/\PySem.W.kitOne X.K t (.type T)=some b/\Q (.bl b) H):=by intro pins s U H xs us Q I r h;obtain⟨x,t,T,b,rfl,ty,e,q⟩:=h;obtain⟨u,w,rfl,r1,r2⟩:=vals2 r;obtain rfl:w=Value.type T:=r2;exact Jw I r1 ty e λtk=>⟨.bl b,H,I.tok tk,rfl,q⟩
theorem S2 {A:Around}{s:Shared}{p:Addr}{its:List Value}(hh:A.handled=none)(hl:s.heap.IsList p its.toArray):∃(fp:List Addr),(∀b∈fp,b<s.heap.objs.size+1)/\Walks X.prog X.w A s.heap.objs.size fp [s.heap.objs.size] its.toArray.size (λi v=>its.toArray[i]?=some v) (λi h=>h.IsListIter s.heap.objs.size p i/\h.IsList p its.toArray)/\((s.heap.push {cls:=.type "list_iterator",data:=.fields #[.ref p,.int 0 0]}).IsListIter s.heap.objs.size p 0/\(s.heap.push {cls:=.type "list_iterator",data:=.fields #[.ref p,.int 0 0]}).IsList p its.toArray):=by
 have aD:p<s.heap.objs.size:=by obtain⟨_,e,_⟩:=hl;exact Heap.lt_size e
 refine⟨[s.heap.objs.size,p],λb hb=>?_,Walks.list (A:=A) hh _ p (ne_of_lt aD) its.toArray,⟨_,Heap.get?_push_size _ rfl,rfl,rfl⟩,hl.push _⟩;rcases mem_cons.mp hb with e|e
 .rw[e];exact lt_succ_self _
 .rw[mem_singleton.mp e];exact lt_succ_of_lt aD
theorem S3 {s:Shared}{h':Heap}{o:Obj}(hk:∀b x,b∉[s.heap.objs.size]->(s.heap.push o).get? b=some x->h'.get? b=some x):∀b x,s.heap.get? b=some x->h'.get? b=some x:=λb x e=>hk b x (λhm=>by rw[mem_singleton.mp hm]at e;exact lt_irrefl _ (Heap.lt_size e)) (Heap.get?_push_of_some _ e)
theorem zH:∀{bs:List Bool}{us:List Value},Vals (bs.map V.bl) us->us=bs.map Value.bool
 |[],us,h=>by rw[map_nil]at h;cases h;rfl
 |b::bs,us,h=>by
  rw[map_cons]at h;cases h with
  |cons r1 r2=>cases r1;rw[zH r2,map_cons]
theorem S4 {A:Around}(bs:List Bool)(d:Bool):∀(i:Nat)(v:Value)(s':Shared)(Q':Bool->Shared->Prop)(E':Value->Shared->Prop),(bs.map Value.bool).toArray[i]?=some v->Q' ((bs[i]?).getD d) s'->wpAny (model X.prog X.w) A (truthy v) Q' E' s':=λi v s' Q' E' hP hQ=>by
  have e:(bs.map Value.bool)[i]?=some v:=by simpa using hP
  rw[getElem?_map]at e;cases q:bs[i]? with
  |none=>rw[q]at e;cases e
  |some b=>rw[q]at e hQ;have e':Value.bool b=v:=Option.some.inj e;subst e';exact wpAny_truthy_bool hQ
theorem Dm (hc:X.calm=true):dA X (.builtin "all") (λxs H Q=>∃(p:Addr)(bs:List Bool),xs=[.ref p]/\ai X.K H p (bs.map V.bl)/\Q (.bl (bs.all id)) H):=by
 intro pins s U H xs us Q I r h;obtain⟨p,bs,rfl,hq,q⟩:=h;obtain⟨u,rfl,rx⟩:=vals1 r;cases rx;obtain⟨its,r',pl,hz⟩:=I.list hq;have ei:=zH r';subst ei;obtain⟨fp,hfp,W,st⟩:=S2 (X:=X) (A:=X.A.in1) (s:=s) (I.ok.hd hc) pl.isList;refine call_all_walk (wpAny_pyIter_list pl.isList ⟨_,fp,_,_,_,_,λi=>(bs[i]?).getD true,rfl,W,st,S4 bs true,λh' tk hk=>?_⟩);have e:((List.range (bs.map Value.bool).toArray.size).all λi=>(bs[i]?).getD true)=bs.all id:=by rw[size_toArray,length_map];exact LSm.range_all bs
 rw[e];exact⟨.bl (bs.all id),H,I.kept (t':=tk) (S3 hk),rfl,q⟩
theorem Kj (hc:X.calm=true):dA X (.builtin "sum") (λxs H Q=>∃(p:Addr)(ns:List Int),xs=[.ref p]/\ai X.K H p (ns.map V.int)/\Q (.int ns.sum) H):=by
 intro pins s U H xs us Q I r h;obtain⟨p,ns,rfl,hq,q⟩:=h;obtain⟨u,rfl,rx⟩:=vals1 r;cases rx;obtain⟨its,r',pl,hz⟩:=I.list hq;have hi:=intsAre_of r';obtain⟨ms,hx⟩:=hi.allInts.items;have S5:s.heap.IsList p (intItems ms):=hx ▸ pl.isList;refine sum_intListG (I.ok.hd hc) S5 λh' tk t' hk=>?_;have e1:ns=ms.toList.map (·.1):=by rw[<-nums_intItems,<-hx];exact(show numsOf its.toArray.toList=ns from hi.numsOf).symm
 have e2:preSum (numAt ms) ms.size=ns.sum:=by rw[preSum_eq,List.take_of_length_le (by simp),e1]
 rw[e2];exact⟨.int ns.sum,H,I.kept (t':=tk) hk,⟨t',rfl⟩,q⟩
end
inductive Dt where
 |aj|bl (b:Bool)|int (i:Int)|str (x:Str)|tup (ds:List Dt)|lst (ds:List Dt)
mutual
def j9 (K:PySem.W.Frag) (H:Hp):Dt->V->Prop
 | .aj,v=>v= .aj
 | .bl b,v=>v= .bl b
 | .int i,v=>v= .int i
 | .str x,v=>v= .str x
 | .tup ds,v=>∃a xs,v= .ref a/\ax K H a xs/\qu K H ds xs
 | .lst ds,v=>∃a xs,v= .ref a/\ai K H a xs/\qu K H ds xs
def qu (K:PySem.W.Frag) (H:Hp):List Dt->List V->Prop
 |[],xs=>xs=[]
 |d::ds,xs=>∃x r,xs=x::r/\j9 K H d x/\qu K H ds r
end
mutual
def aJ:Dt->Dt->Bool
 | .aj,.aj=>true
 | .bl a,.bl b=>a==b
 | .bl a,.int b=>(if a then 1 else 0)==b
 | .int a,.bl b=>a==(if b then 1 else 0)
 | .int a,.int b=>a==b
 | .str a,.str b=>a==b
 | .tup as,.tup bs=>bV as bs
 | .lst as,.lst bs=>bV as bs
 |_,_=>false
def bV:List Dt->List Dt->Bool
 |[],[]=>true
 |a::as,b::bs=>aJ a b&&bV as bs
 |_,_=>false
end
mutual
def bu:Dt->Nat
 | .tup ds=>cT ds+1
 | .lst ds=>cT ds+1
 |_=>0
def cT:List Dt->Nat
 |[]=>0
 |d::ds=>max (bu d) (cT ds)
end
noncomputable def kB (ds es:List Dt)(j:Nat):Bool:=match ds[j]?,es[j]? with
 |some a,some b=>aJ a b
 |_,_=>true
theorem qT:∀(ds es:List Dt),((List.range (min ds.length es.length)).all (kB ds es)&&(ds.length==es.length))=bV ds es
 |[],[]=>by simp[bV]
 |[],e::es=>by simp[bV]
 |d::ds,[]=>by simp[bV]
 |d::ds,e::es=>by
  have ih:=qT ds es;have e1:min (d::ds).length (e::es).length=min ds.length es.length+1:=by simp only[length_cons];lia
  have e2:((d::ds).length==(e::es).length)=(ds.length==es.length):=by simp
  have e3:(kB (d::ds) (e::es)∘Nat.succ)=kB ds es:=by funext j;simp[kB,Function.comp]
  have e4:kB (d::ds) (e::es) 0=aJ d e:=by simp[kB]
  rw[e1,e2,List.range_succ_eq_map,all_cons,List.all_map,e3,e4,Bool.and_assoc,ih,bV]
theorem qu.length {K:PySem.W.Frag}{H:Hp}:∀{ds:List Dt}{xs:List V},qu K H ds xs->ds.length=xs.length
 |[],xs,h=>by rw[qu]at h;rw[h];rfl
 |d::ds,xs,h=>by rw[qu]at h;obtain⟨x,r,rfl,_,h2⟩:=h;rw[length_cons,length_cons,qu.length h2]
theorem qu.get {K:PySem.W.Frag}{H:Hp}:∀{ds:List Dt}{xs:List V}{j:Nat}{x:V},qu K H ds xs->xs[j]?=some x->∃d,ds[j]?=some d/\j9 K H d x
 |[],xs,j,x,h,e=>by rw[qu]at h;subst h;simp at e
 | d::ds,xs,j,x,h,e=>by
  rw[qu]at h;obtain⟨y,r,rfl,h1,h2⟩:=h;cases j with
  |zero=>
   have e':y=x:=by simpa using e
   subst e';exact⟨d,by simp,h1⟩
  |succ j=>obtain⟨d',q1,q2⟩:=qu.get (j:=j) h2 (by simpa using e);exact⟨d',by simpa using q1,q2⟩
theorem Kk:∀{ds:List Dt}{j:Nat}{d:Dt},ds[j]?=some d->bu d<=cT ds
 |[],j,d,e=>by simp at e
 | c::ds,j,d,e=>by
  rw[cT];cases j with
  |zero=>
   have e':c=d:=by simpa using e
   subst e';exact Nat.le_max_left _ _
  |succ j=>exact le_trans (Kk (j:=j) (by simpa using e)) (Nat.le_max_right _ _)
section
variable {X:Cx}{pins:List (Addr×Obj)}{U:St}{H:Hp}{s:Shared}
theorem Kl (I:Inv X pins U H s){a:Addr}{xs ys:List V}(h:ai X.K H a xs)(h':ax X.K H a ys):False:=by obtain⟨_,_,p,_⟩:=I.list h;obtain⟨_,_,q,_⟩:=I.tuple h';obtain⟨o,e,c,_⟩:=p.isList;obtain⟨o',e',c',_⟩:=q;rw[e]at e';cases e';rw[c]at c';exact absurd c' (by decide)
mutual
theorem Dn (I:Inv X pins U H s):∀(d e:Dt)(x:V),j9 X.K H d x->j9 X.K H e x->aJ d e=true
 | .aj,e,x,h,k=>by rw[j9]at h;subst h;cases e<;>rw[j9]at k<;>first|(obtain⟨_,_,z,_⟩:=k;cases z)|rfl|cases k
 | .bl b,e,x,h,k=>by rw[j9]at h;subst h;cases e<;>rw[j9]at k<;>first|(obtain⟨_,_,z,_⟩:=k;cases z)|(cases k;simp[aJ];done)|cases k
 | .int b,e,x,h,k=>by rw[j9]at h;subst h;cases e<;>rw[j9]at k<;>first|(obtain⟨_,_,z,_⟩:=k;cases z)|(cases k;simp[aJ];done)|cases k
 | .str b,e,x,h,k=>by rw[j9]at h;subst h;cases e<;>rw[j9]at k<;>first|(obtain⟨_,_,z,_⟩:=k;cases z)|(cases k;simp[aJ];done)|cases k
 | .tup ds,e,x,h,k=>by
  rw[j9]at h;obtain⟨a,xs,rfl,h1,h2⟩:=h;cases e with
  |tup es=>rw[j9]at k;obtain⟨b,ys,z,k1,k2⟩:=k;cases z;have e:=I.sI k1 h1;subst e;rw[aJ];exact Dp I ds es _ h2 k2
  |lst es=>rw[j9]at k;obtain⟨b,ys,z,k1,k2⟩:=k;cases z;exact(Kl I k1 h1).elim
  |aj=>rw[j9]at k;cases k
  |bl b=>rw[j9]at k;cases k
  |int b=>rw[j9]at k;cases k
  |str b=>rw[j9]at k;cases k
 | .lst ds,e,x,h,k=>by
  rw[j9]at h;obtain⟨a,xs,rfl,h1,h2⟩:=h;cases e with
  |lst es=>rw[j9]at k;obtain⟨b,ys,z,k1,k2⟩:=k;cases z;have e:=I.IE k1 h1;subst e;rw[aJ];exact Dp I ds es _ h2 k2
  |tup es=>rw[j9]at k;obtain⟨b,ys,z,k1,k2⟩:=k;cases z;exact(Kl I h1 k1).elim
  |aj=>rw[j9]at k;cases k
  |bl b=>rw[j9]at k;cases k
  |int b=>rw[j9]at k;cases k
  |str b=>rw[j9]at k;cases k
theorem Dp (I:Inv X pins U H s):∀(ds es:List Dt)(xs:List V),qu X.K H ds xs->qu X.K H es xs->bV ds es=true
 |[],es,xs,h,k=>by
  rw[qu]at h;subst h;cases es with
  |nil=>rw[bV]
  |cons e es=>rw[qu]at k;obtain⟨_,_,z,_⟩:=k;cases z
 |d::ds,es,xs,h,k=>by
  rw[qu]at h;obtain⟨x,r,rfl,h1,h2⟩:=h;cases es with
  |nil=>rw[qu]at k;cases k
  |cons e es=>rw[qu]at k;obtain⟨y,r',z,k1,k2⟩:=k;cases z;rw[bV,Dn I d e _ h1 k1,Dp I ds es _ h2 k2];rfl
end
theorem items_eqAt {A:Around}{ds es:List Dt}{xs ys:List V}{is js:List Value}(hd:qu X.K H ds xs)(he:qu X.K H es ys)(vi:Vals xs is)(vj:Vals ys js)(rec:∀d e x y u v,d∈ds->bu d<=cT ds->j9 X.K H d x->j9 X.K H e y->RelV x u->RelV y v->SeqAt.EqAt A s u v (aJ d e)):∀j (h1:j<is.toArray.size)(h2:j<js.toArray.size),SeqAt.EqAt A s is.toArray[j] js.toArray[j] (kB ds es j):=λj h1 h2=>by
 have de:j<is.length:=by simpa using h1
 have fJ:j<js.length:=by simpa using h2
 have lx:j<xs.length:=by rw[vi.length];exact de
 have ly:j<ys.length:=by rw[vj.length];exact fJ
 obtain⟨u,eu,ru⟩:=vi.get (i:=j) (x:=xs[j]) (by simp[lx]);obtain⟨v,ev,rv⟩:=vj.get (i:=j) (x:=ys[j]) (by simp[ly]);obtain⟨d,ed,kd⟩:=hd.get (j:=j) (x:=xs[j]) (by simp[lx]);obtain⟨e,ee,ke⟩:=he.get (j:=j) (x:=ys[j]) (by simp[ly]);have e1:is.toArray[j]=u:=by rw[getElem?_eq_getElem de]at eu;simpa using eu
 have e2:js.toArray[j]=v:=by rw[getElem?_eq_getElem fJ]at ev;simpa using ev
 have e3:kB ds es j=aJ d e:=by simp[kB,ed,ee]
 rw[e1,e2,e3];exact rec d e _ _ u v (mem_of_getElem? ed) (Kk ed) kd ke ru rv
theorem qU {ds es:List Dt}{xs ys:List V}{is js:List Value}(hd:qu X.K H ds xs)(he:qu X.K H es ys)(vi:Vals xs is)(vj:Vals ys js):ds.length=is.toArray.size/\es.length=js.toArray.size:=by rw[hd.length,he.length,vi.length,vj.length];simp
theorem Dq {ds es:List Dt}(h:ds.length=es.length):(List.range ds.length).all (kB ds es)=bV ds es:=by have q:=qT ds es;rw[<-h,Nat.min_self,beq_self_eq_true,Bool.and_true]at q;exact q
theorem Dr {ds es:List Dt}(h:ds.length≠es.length):bV ds es=false:=by have q:=qT ds es;rw[show(ds.length==es.length)=false from by simpa using h,Bool.and_false]at q;exact q.symm
theorem tI (I:Inv X pins U H s):∀(n:Nat)(d e:Dt)(x y:V)(u v:Value)(A:Around),bu d<=n->A.units+n<cLine->j9 X.K H d x->j9 X.K H e y->RelV x u->RelV y v->SeqAt.EqAt A s u v (aJ d e):=by
 intro n;induction n with
 | zero=>
  intro d e x y u v A hn hu hd he ru rv;have aB:A.units<cLine:=by lia
  cases d with
  |tup ds=>rw[bu]at hn;lia
  |lst ds=>rw[bu]at hn;lia
  |aj=>
   rw[j9]at hd;subst hd;cases ru;cases e<;>rw[j9]at he;case aj=>subst he;cases rv;exact SeqAt.EqAt.same _
   case bl b=>subst he;cases rv;exact SeqAt.EqAt.none_bool b
   case int b=>subst he;obtain⟨t,rfl⟩:=rv;exact SeqAt.EqAt.none_int b t
   case str b=>subst he;obtain⟨t,rfl⟩:=rv;exact SeqAt.EqAt.none_str b t
   case tup es=>obtain⟨b,ys,rfl,k1,k2⟩:=he;cases rv;obtain⟨js,vj,pj,_⟩:=I.tuple k1;exact SeqAt.EqAt.none_tuple pj aB
   case lst es=>obtain⟨b,ys,rfl,k1,k2⟩:=he;cases rv;obtain⟨js,vj,pj,_⟩:=I.list k1;exact SeqAt.EqAt.none_list pj.isList aB
  |bl a=>
   rw[j9]at hd;subst hd;cases ru;cases e<;>rw[j9]at he;case aj=>subst he;cases rv;exact SeqAt.EqAt.bool_none a
   case bl b=>subst he;cases rv;exact SeqAt.EqAt.bool_bool a b
   case int b=>subst he;obtain⟨t,rfl⟩:=rv;exact SeqAt.EqAt.bool_int a b t
   case str b=>subst he;obtain⟨t,rfl⟩:=rv;exact SeqAt.EqAt.bool_str a b t
   case tup es=>obtain⟨b,ys,rfl,k1,k2⟩:=he;cases rv;obtain⟨js,vj,pj,_⟩:=I.tuple k1;exact SeqAt.EqAt.bool_tuple a pj aB
   case lst es=>obtain⟨b,ys,rfl,k1,k2⟩:=he;cases rv;obtain⟨js,vj,pj,_⟩:=I.list k1;exact SeqAt.EqAt.bool_list a pj.isList aB
  |int a=>
   rw[j9]at hd;subst hd;obtain⟨t0,rfl⟩:=ru;cases e<;>rw[j9]at he;case aj=>subst he;cases rv;exact SeqAt.EqAt.int_none a t0
   case bl b=>subst he;cases rv;exact SeqAt.EqAt.int_bool a t0 b
   case int b=>subst he;obtain⟨t,rfl⟩:=rv;exact SeqAt.EqAt.int_int a t0 b t
   case str b=>subst he;obtain⟨t,rfl⟩:=rv;exact SeqAt.EqAt.int_str a t0 b t
   case tup es=>obtain⟨b,ys,rfl,k1,k2⟩:=he;cases rv;obtain⟨js,vj,pj,_⟩:=I.tuple k1;exact SeqAt.EqAt.int_tuple a t0 pj aB
   case lst es=>obtain⟨b,ys,rfl,k1,k2⟩:=he;cases rv;obtain⟨js,vj,pj,_⟩:=I.list k1;exact SeqAt.EqAt.int_list a t0 pj.isList aB
  |str a=>
   rw[j9]at hd;subst hd;obtain⟨t0,rfl⟩:=ru;cases e<;>rw[j9]at he;case aj=>subst he;cases rv;exact SeqAt.EqAt.str_none a t0
   case bl b=>subst he;cases rv;exact SeqAt.EqAt.str_bool a t0 b
   case int b=>subst he;obtain⟨t,rfl⟩:=rv;exact SeqAt.EqAt.str_int a t0 b t
   case str b=>subst he;obtain⟨t,rfl⟩:=rv;exact SeqAt.EqAt.str_str a t0 b t
   case tup es=>obtain⟨b,ys,rfl,k1,k2⟩:=he;cases rv;obtain⟨js,vj,pj,_⟩:=I.tuple k1;exact SeqAt.EqAt.str_tuple a t0 pj aB
   case lst es=>obtain⟨b,ys,rfl,k1,k2⟩:=he;cases rv;obtain⟨js,vj,pj,_⟩:=I.list k1;exact SeqAt.EqAt.str_list a t0 pj.isList aB
 | succ n ih=>
  intro d e x y u v A hn hu hd he ru rv;have aB:A.units<cLine:=by lia
  have kC:A.in1.units+n<cLine:=by rw[units_in1];lia
  cases d with
  | tup ds=>
   rw[bu]at hn;have qV:=hd;rw[j9]at hd;obtain⟨a,xs,rfl,k1,k2⟩:=hd;cases ru;obtain⟨is,vi,pi,_⟩:=I.tuple k1;cases e with
   |tup es=>
    have Du:=he;rw[j9]at he;obtain⟨b,ys,rfl,l1,l2⟩:=he;cases rv;obtain⟨js,vj,pj,_⟩:=I.tuple l1;by_cases qW:a=b
    .subst qW;rw[Dn I _ _ _ qV Du];exact SeqAt.EqAt.same _
    .have q:=SeqAt.RcAt.tuples (A:=A) pi pj aB (items_eqAt k2 l2 vi vj λd e x y u v _ dE=>ih d e x y u v A.in1 (by lia) kC);obtain⟨z1,z2⟩:=qU k2 l2 vi vj;rw[<-z1,<-z2,qT]at q;rw[aJ];exact SeqAt.EqAt.of_refs qW q
   |lst es=>rw[j9]at he;obtain⟨b,ys,rfl,l1,l2⟩:=he;cases rv;obtain⟨js,vj,pj,_⟩:=I.list l1;exact SeqAt.EqAt.tuple_list pi pj.isList aB
   |aj=>rw[j9]at he;subst he;cases rv;exact SeqAt.EqAt.tuple_none pi aB
   |bl b=>rw[j9]at he;subst he;cases rv;exact SeqAt.EqAt.tuple_bool b pi aB
   |int b=>rw[j9]at he;subst he;obtain⟨t,rfl⟩:=rv;exact SeqAt.EqAt.tuple_int b t pi aB
   |str b=>rw[j9]at he;subst he;obtain⟨t,rfl⟩:=rv;exact SeqAt.EqAt.tuple_str b t pi aB
  | lst ds=>
   rw[bu]at hn;have qV:=hd;rw[j9]at hd;obtain⟨a,xs,rfl,k1,k2⟩:=hd;cases ru;obtain⟨is,vi,pi,_⟩:=I.list k1;cases e with
   | lst es=>
    have Du:=he;rw[j9]at he;obtain⟨b,ys,rfl,l1,l2⟩:=he;cases rv;obtain⟨js,vj,pj,_⟩:=I.list l1;obtain⟨z1,z2⟩:=qU k2 l2 vi vj;by_cases qW:a=b
    .subst qW;rw[Dn I _ _ _ qV Du];exact SeqAt.EqAt.same _
    .rw[aJ];by_cases hsz:ds.length=es.length
     .have q:=SeqAt.RcAt.lists (A:=A) pi.isList pj.isList (by lia) aB (items_eqAt k2 l2 vi vj λd e x y u v _ dE=>ih d e x y u v A.in1 (by lia) kC);rw[<-z1,Dq hsz]at q;exact SeqAt.EqAt.of_refs qW q
     .rw[Dr hsz];exact SeqAt.EqAt.of_refs qW (SeqAt.RcAt.lists_lengths pi.isList pj.isList (by rw[<-z1,<-z2];simpa using hsz) aB)
   |tup es=>rw[j9]at he;obtain⟨b,ys,rfl,l1,l2⟩:=he;cases rv;obtain⟨js,vj,pj,_⟩:=I.tuple l1;exact SeqAt.EqAt.list_tuple pi.isList pj aB
   |aj=>rw[j9]at he;subst he;cases rv;exact SeqAt.EqAt.list_none pi.isList aB
   |bl b=>rw[j9]at he;subst he;cases rv;exact SeqAt.EqAt.list_bool b pi.isList aB
   |int b=>rw[j9]at he;subst he;obtain⟨t,rfl⟩:=rv;exact SeqAt.EqAt.list_int b t pi.isList aB
   |str b=>rw[j9]at he;subst he;obtain⟨t,rfl⟩:=rv;exact SeqAt.EqAt.list_str b t pi.isList aB
  |aj=>exact ih _ _ _ _ _ _ _ (zero_le n) (by lia) hd he ru rv
  |bl b=>exact ih _ _ _ _ _ _ _ (zero_le n) (by lia) hd he ru rv
  |int b=>exact ih _ _ _ _ _ _ _ (zero_le n) (by lia) hd he ru rv
  |str b=>exact ih _ _ _ _ _ _ _ (zero_le n) (by lia) hd he ru rv
theorem S6 (I:Inv X pins U H s){n:Nat}{d e:Dt}{x y:V}{u v:Value}{A:Around}(hn:bu d<=n)(hu:A.units+n<cLine)(hd:j9 X.K H d x)(he:j9 X.K H e y)(ru:RelV x u)(rv:RelV y v):SeqAt.RcAt A s u v (aJ d e):=by
 have aB:A.units<cLine:=by lia
 cases d with
 |aj=>
  rw[j9]at hd;subst hd;cases ru;cases e<;>rw[j9]at he;case aj=>subst he;cases rv;exact SeqAt.RcAt.none_none
  case bl b=>subst he;cases rv;exact SeqAt.RcAt.none_bool b
  case int b=>subst he;obtain⟨t,rfl⟩:=rv;exact SeqAt.RcAt.none_int b t
  case str b=>subst he;obtain⟨t,rfl⟩:=rv;exact SeqAt.RcAt.none_str b t
  case tup es=>obtain⟨b,ys,rfl,k1,k2⟩:=he;cases rv;obtain⟨js,vj,pj,_⟩:=I.tuple k1;exact SeqAt.RcAt.none_tuple pj aB
  case lst es=>obtain⟨b,ys,rfl,k1,k2⟩:=he;cases rv;obtain⟨js,vj,pj,_⟩:=I.list k1;exact SeqAt.RcAt.none_list pj.isList aB
 |bl a=>
  rw[j9]at hd;subst hd;cases ru;cases e<;>rw[j9]at he;case aj=>subst he;cases rv;exact SeqAt.RcAt.bool_none a
  case bl b=>subst he;cases rv;exact SeqAt.RcAt.bool_bool a b
  case int b=>subst he;obtain⟨t,rfl⟩:=rv;exact SeqAt.RcAt.bool_int a b t
  case str b=>subst he;obtain⟨t,rfl⟩:=rv;exact SeqAt.RcAt.bool_str a b t
  case tup es=>obtain⟨b,ys,rfl,k1,k2⟩:=he;cases rv;obtain⟨js,vj,pj,_⟩:=I.tuple k1;exact SeqAt.RcAt.bool_tuple a pj aB
  case lst es=>obtain⟨b,ys,rfl,k1,k2⟩:=he;cases rv;obtain⟨js,vj,pj,_⟩:=I.list k1;exact SeqAt.RcAt.bool_list a pj.isList aB
 |int a=>
  rw[j9]at hd;subst hd;obtain⟨t0,rfl⟩:=ru;cases e<;>rw[j9]at he;case aj=>subst he;cases rv;exact SeqAt.RcAt.int_none a t0
  case bl b=>subst he;cases rv;exact SeqAt.RcAt.int_bool a t0 b
  case int b=>subst he;obtain⟨t,rfl⟩:=rv;exact SeqAt.RcAt.int_int a t0 b t
  case str b=>subst he;obtain⟨t,rfl⟩:=rv;exact SeqAt.RcAt.int_str a t0 b t
  case tup es=>obtain⟨b,ys,rfl,k1,k2⟩:=he;cases rv;obtain⟨js,vj,pj,_⟩:=I.tuple k1;exact SeqAt.RcAt.int_tuple a t0 pj aB
  case lst es=>obtain⟨b,ys,rfl,k1,k2⟩:=he;cases rv;obtain⟨js,vj,pj,_⟩:=I.list k1;exact SeqAt.RcAt.int_list a t0 pj.isList aB
 |str a=>
  rw[j9]at hd;subst hd;obtain⟨t0,rfl⟩:=ru;cases e<;>rw[j9]at he;case aj=>subst he;cases rv;exact SeqAt.RcAt.str_none a t0
  case bl b=>subst he;cases rv;exact SeqAt.RcAt.str_bool a t0 b
  case int b=>subst he;obtain⟨t,rfl⟩:=rv;exact SeqAt.RcAt.str_int a t0 b t
  case str b=>subst he;obtain⟨t,rfl⟩:=rv;exact SeqAt.RcAt.str_str a t0 b t
  case tup es=>obtain⟨b,ys,rfl,k1,k2⟩:=he;cases rv;obtain⟨js,vj,pj,_⟩:=I.tuple k1;exact SeqAt.RcAt.str_tuple a t0 pj aB
  case lst es=>obtain⟨b,ys,rfl,k1,k2⟩:=he;cases rv;obtain⟨js,vj,pj,_⟩:=I.list k1;exact SeqAt.RcAt.str_list a t0 pj.isList aB
 |tup ds=>
  rw[bu]at hn;have kC:A.in1.units+(n-1)<cLine:=by rw[units_in1];lia
  rw[j9]at hd;obtain⟨a,xs,rfl,k1,k2⟩:=hd;cases ru;obtain⟨is,vi,pi,_⟩:=I.tuple k1;cases e with
  |tup es=>rw[j9]at he;obtain⟨b,ys,rfl,l1,l2⟩:=he;cases rv;obtain⟨js,vj,pj,_⟩:=I.tuple l1;have q:=SeqAt.RcAt.tuples (A:=A) pi pj aB (items_eqAt k2 l2 vi vj λd e x y u v _ dE=>tI I (n-1) d e x y u v A.in1 (by lia) kC);obtain⟨z1,z2⟩:=qU k2 l2 vi vj;rw[<-z1,<-z2,qT]at q;rw[aJ];exact q
  |lst es=>rw[j9]at he;obtain⟨b,ys,rfl,l1,l2⟩:=he;cases rv;obtain⟨js,vj,pj,_⟩:=I.list l1;exact SeqAt.RcAt.tuple_list pi pj.isList aB
  |aj=>rw[j9]at he;subst he;cases rv;exact SeqAt.RcAt.tuple_none pi aB
  |bl b=>rw[j9]at he;subst he;cases rv;exact SeqAt.RcAt.tuple_bool b pi aB
  |int b=>rw[j9]at he;subst he;obtain⟨t,rfl⟩:=rv;exact SeqAt.RcAt.tuple_int b t pi aB
  |str b=>rw[j9]at he;subst he;obtain⟨t,rfl⟩:=rv;exact SeqAt.RcAt.tuple_str b t pi aB
 | lst ds=>
  rw[bu]at hn;have kC:A.in1.units+(n-1)<cLine:=by rw[units_in1];lia
  rw[j9]at hd;obtain⟨a,xs,rfl,k1,k2⟩:=hd;cases ru;obtain⟨is,vi,pi,_⟩:=I.list k1;cases e with
  |lst es=>
   rw[j9]at he;obtain⟨b,ys,rfl,l1,l2⟩:=he;cases rv;obtain⟨js,vj,pj,_⟩:=I.list l1;obtain⟨z1,z2⟩:=qU k2 l2 vi vj;rw[aJ];by_cases hsz:ds.length=es.length
   .have q:=SeqAt.RcAt.lists (A:=A) pi.isList pj.isList (by lia) aB (items_eqAt k2 l2 vi vj λd e x y u v _ dE=>tI I (n-1) d e x y u v A.in1 (by lia) kC);rw[<-z1,Dq hsz]at q;exact q
   .rw[Dr hsz];exact SeqAt.RcAt.lists_lengths pi.isList pj.isList (by rw[<-z1,<-z2];simpa using hsz) aB
  |tup es=>rw[j9]at he;obtain⟨b,ys,rfl,l1,l2⟩:=he;cases rv;obtain⟨js,vj,pj,_⟩:=I.tuple l1;exact SeqAt.RcAt.list_tuple pi.isList pj aB
  |aj=>rw[j9]at he;subst he;cases rv;exact SeqAt.RcAt.list_none pi.isList aB
  |bl b=>rw[j9]at he;subst he;cases rv;exact SeqAt.RcAt.list_bool b pi.isList aB
  |int b=>rw[j9]at he;subst he;obtain⟨t,rfl⟩:=rv;exact SeqAt.RcAt.list_int b t pi.isList aB
  |str b=>rw[j9]at he;subst he;obtain⟨t,rfl⟩:=rv;exact SeqAt.RcAt.list_str b t pi.isList aB
theorem S7 (I:Inv X pins U H s){n:Nat}{d e:Dt}{x y:V}{u v:Value}{A:Around}(hn:bu d<=n)(hu:A.units+n<cLine)(hd:j9 X.K H d x)(he:j9 X.K H e y)(ru:RelV x u)(rv:RelV y v):SeqAt.RcNeAt A s u v (!(aJ d e)):=by
 have aB:A.units<cLine:=by lia
 cases d with
 |aj=>
  rw[j9]at hd;subst hd;cases ru;cases e<;>rw[j9]at he;case aj=>subst he;cases rv;exact SeqAt.RcNeAt.none_none
  case bl b=>subst he;cases rv;exact SeqAt.RcNeAt.none_bool b
  case int b=>subst he;obtain⟨t,rfl⟩:=rv;exact SeqAt.RcNeAt.none_int b t
  case str b=>subst he;obtain⟨t,rfl⟩:=rv;exact SeqAt.RcNeAt.none_str b t
  case tup es=>obtain⟨b,ys,rfl,k1,k2⟩:=he;cases rv;obtain⟨js,vj,pj,_⟩:=I.tuple k1;exact SeqAt.RcNeAt.none_tuple pj aB
  case lst es=>obtain⟨b,ys,rfl,k1,k2⟩:=he;cases rv;obtain⟨js,vj,pj,_⟩:=I.list k1;exact SeqAt.RcNeAt.none_list pj.isList aB
 |bl a=>
  rw[j9]at hd;subst hd;cases ru;cases e<;>rw[j9]at he;case aj=>subst he;cases rv;exact SeqAt.RcNeAt.bool_none a
  case bl b=>subst he;cases rv;exact SeqAt.RcNeAt.bool_bool a b
  case int b=>subst he;obtain⟨t,rfl⟩:=rv;exact SeqAt.RcNeAt.bool_int a b t
  case str b=>subst he;obtain⟨t,rfl⟩:=rv;exact SeqAt.RcNeAt.bool_str a b t
  case tup es=>obtain⟨b,ys,rfl,k1,k2⟩:=he;cases rv;obtain⟨js,vj,pj,_⟩:=I.tuple k1;exact SeqAt.RcNeAt.bool_tuple a pj aB
  case lst es=>obtain⟨b,ys,rfl,k1,k2⟩:=he;cases rv;obtain⟨js,vj,pj,_⟩:=I.list k1;exact SeqAt.RcNeAt.bool_list a pj.isList aB
 |int a=>
  rw[j9]at hd;subst hd;obtain⟨t0,rfl⟩:=ru;cases e<;>rw[j9]at he;case aj=>subst he;cases rv;exact SeqAt.RcNeAt.int_none a t0
  case bl b=>subst he;cases rv;exact SeqAt.RcNeAt.int_bool a t0 b
  case int b=>subst he;obtain⟨t,rfl⟩:=rv;exact SeqAt.RcNeAt.int_int a t0 b t
  case str b=>subst he;obtain⟨t,rfl⟩:=rv;exact SeqAt.RcNeAt.int_str a t0 b t
  case tup es=>obtain⟨b,ys,rfl,k1,k2⟩:=he;cases rv;obtain⟨js,vj,pj,_⟩:=I.tuple k1;exact SeqAt.RcNeAt.int_tuple a t0 pj aB
  case lst es=>obtain⟨b,ys,rfl,k1,k2⟩:=he;cases rv;obtain⟨js,vj,pj,_⟩:=I.list k1;exact SeqAt.RcNeAt.int_list a t0 pj.isList aB
 |str a=>
  rw[j9]at hd;subst hd;obtain⟨t0,rfl⟩:=ru;cases e<;>rw[j9]at he;case aj=>subst he;cases rv;exact SeqAt.RcNeAt.str_none a t0
  case bl b=>subst he;cases rv;exact SeqAt.RcNeAt.str_bool a t0 b
  case int b=>subst he;obtain⟨t,rfl⟩:=rv;exact SeqAt.RcNeAt.str_int a t0 b t
  case str b=>subst he;obtain⟨t,rfl⟩:=rv;exact SeqAt.RcNeAt.str_str a t0 b t
  case tup es=>obtain⟨b,ys,rfl,k1,k2⟩:=he;cases rv;obtain⟨js,vj,pj,_⟩:=I.tuple k1;exact SeqAt.RcNeAt.str_tuple a t0 pj aB
  case lst es=>obtain⟨b,ys,rfl,k1,k2⟩:=he;cases rv;obtain⟨js,vj,pj,_⟩:=I.list k1;exact SeqAt.RcNeAt.str_list a t0 pj.isList aB
 |tup ds=>
  rw[bu]at hn;have kC:A.in1.units+(n-1)<cLine:=by rw[units_in1];lia
  rw[j9]at hd;obtain⟨a,xs,rfl,k1,k2⟩:=hd;cases ru;obtain⟨is,vi,pi,_⟩:=I.tuple k1;cases e with
  |tup es=>rw[j9]at he;obtain⟨b,ys,rfl,l1,l2⟩:=he;cases rv;obtain⟨js,vj,pj,_⟩:=I.tuple l1;have q:=SeqAt.RcNeAt.tuples (A:=A) pi pj aB (items_eqAt k2 l2 vi vj λd e x y u v _ dE=>tI I (n-1) d e x y u v A.in1 (by lia) kC);obtain⟨z1,z2⟩:=qU k2 l2 vi vj;rw[<-z1,<-z2,qT]at q;rw[aJ];exact q
  |lst es=>rw[j9]at he;obtain⟨b,ys,rfl,l1,l2⟩:=he;cases rv;obtain⟨js,vj,pj,_⟩:=I.list l1;exact SeqAt.RcNeAt.tuple_list pi pj.isList aB
  |aj=>rw[j9]at he;subst he;cases rv;exact SeqAt.RcNeAt.tuple_none pi aB
  |bl b=>rw[j9]at he;subst he;cases rv;exact SeqAt.RcNeAt.tuple_bool b pi aB
  |int b=>rw[j9]at he;subst he;obtain⟨t,rfl⟩:=rv;exact SeqAt.RcNeAt.tuple_int b t pi aB
  |str b=>rw[j9]at he;subst he;obtain⟨t,rfl⟩:=rv;exact SeqAt.RcNeAt.tuple_str b t pi aB
 | lst ds=>
  rw[bu]at hn;have kC:A.in1.units+(n-1)<cLine:=by rw[units_in1];lia
  rw[j9]at hd;obtain⟨a,xs,rfl,k1,k2⟩:=hd;cases ru;obtain⟨is,vi,pi,_⟩:=I.list k1;cases e with
  |lst es=>
   rw[j9]at he;obtain⟨b,ys,rfl,l1,l2⟩:=he;cases rv;obtain⟨js,vj,pj,_⟩:=I.list l1;obtain⟨z1,z2⟩:=qU k2 l2 vi vj;rw[aJ];by_cases hsz:ds.length=es.length
   .have q:=SeqAt.RcNeAt.lists (A:=A) pi.isList pj.isList (by lia) aB (items_eqAt k2 l2 vi vj λd e x y u v _ dE=>tI I (n-1) d e x y u v A.in1 (by lia) kC);rw[<-z1,Dq hsz]at q;exact q
   .rw[Dr hsz];exact SeqAt.RcNeAt.lists_lengths pi.isList pj.isList (by rw[<-z1,<-z2];simpa using hsz) aB
  |tup es=>rw[j9]at he;obtain⟨b,ys,rfl,l1,l2⟩:=he;cases rv;obtain⟨js,vj,pj,_⟩:=I.tuple l1;exact SeqAt.RcNeAt.list_tuple pi.isList pj aB
  |aj=>rw[j9]at he;subst he;cases rv;exact SeqAt.RcNeAt.list_none pi.isList aB
  |bl b=>rw[j9]at he;subst he;cases rv;exact SeqAt.RcNeAt.list_bool b pi.isList aB
  |int b=>rw[j9]at he;subst he;obtain⟨t,rfl⟩:=rv;exact SeqAt.RcNeAt.list_int b t pi.isList aB
  |str b=>rw[j9]at he;subst he;obtain⟨t,rfl⟩:=rv;exact SeqAt.RcNeAt.list_str b t pi.isList aB
end
noncomputable def S8 (K:PySem.W.Frag):R2:=λx y H Q=>∃d e,j9 K H d x/\j9 K H e y/\bu d<=60/\Q (.bl (aJ d e)) H
noncomputable def S9 (K:PySem.W.Frag):R2:=λx y H Q=>∃d e,j9 K H d x/\j9 K H e y/\bu d<=60/\Q (.bl (!aJ d e)) H
section
variable {X:Cx}
theorem Ta (hu:X.A.units+64<cLine):bQ X (compareOp .Eq) (S8 X.K):=by intro pins s U H x y v u Q I rx ry h;obtain⟨d,e,hd,he,hn,q⟩:=h;exact S6 I hn (by lia) hd he rx ry _ _ _ _ ⟨.bl _,H,I,rfl,q⟩
theorem fK (hu:X.A.units+64<cLine):bQ X (compareOp .NotEq) (S9 X.K):=by intro pins s U H x y v u Q I rx ry h;obtain⟨d,e,hd,he,hn,q⟩:=h;exact S7 I hn (by lia) hd he rx ry _ _ _ _ ⟨.bl _,H,I,rfl,q⟩
theorem Tb:bQ X (compareOp .Is) (λx y H Q=>∃a b,x= .bl a/\y= .bl b/\Q (.bl (a==b)) H):=by intro pins s U H x y v u Q I rx ry h;obtain⟨a,b,rfl,rfl,q⟩:=h;cases rx;cases ry;exact is_bool ⟨.bl _,H,I,rfl,q⟩
theorem Tc:bQ X (compareOp .IsNot) (λx y H Q=>∃a b,x= .bl a/\y= .bl b/\Q (.bl (a != b)) H):=by intro pins s U H x y v u Q I rx ry h;obtain⟨a,b,rfl,rfl,q⟩:=h;cases rx;cases ry;exact isnot_bool ⟨.bl _,H,I,rfl,q⟩
end
theorem Dv (K:PySem.W.Frag)(H:Hp):∀ns:List Int,qu K H (ns.map Dt.int) (ns.map V.int)
 |[]=>by rw[map_nil,map_nil,qu]
 |n::ns=>by rw[map_cons,map_cons,qu];exact⟨_,_,rfl,by rw[j9],Dv K H ns⟩
theorem Km {K:PySem.W.Frag}{H:Hp}{a:Addr}{ns:List Int}(h:ai K H a (ns.map V.int)):j9 K H (.lst (ns.map Dt.int)) (.ref a):=by rw[j9];exact⟨a,_,rfl,h,Dv K H ns⟩
theorem Kn {K:PySem.W.Frag}{H:Hp}{a:Addr}{ns:List Int}(h:ax K H a (ns.map V.int)):j9 K H (.tup (ns.map Dt.int)) (.ref a):=by rw[j9];exact⟨a,_,rfl,h,Dv K H ns⟩
theorem Dw:∀ns:List Int,cT (ns.map Dt.int)=0
 |[]=>by rw[map_nil,cT]
 |n::ns=>by show max (bu (Dt.int n)) (cT (ns.map Dt.int))=0;rw[Dw ns];rfl
theorem Dx:∀ms ns:List Int,bV (ms.map Dt.int) (ns.map Dt.int)=decide (ms=ns)
 |[],[]=>by simp[bV]
 |[],n::ns=>by simp[bV]
 |m::ms,[]=>by simp[bV]
 |m::ms,n::ns=>by
  rw[map_cons,map_cons,bV,Dx ms ns,aJ];by_cases h:m=n
  .subst h;simp
  .simp[h]
theorem Td (ms ns:List Int):aJ (.lst (ms.map Dt.int)) (.lst (ns.map Dt.int))=decide (ms=ns):=by rw[aJ,Dx]
theorem Te (ms ns:List Int):aJ (.tup (ms.map Dt.int)) (.tup (ns.map Dt.int))=decide (ms=ns):=by rw[aJ,Dx]
theorem Tf (ns:List Int):bu (.lst (ns.map Dt.int))<=60:=by rw[bu,Dw];decide
theorem Tg (ns:List Int):bu (.tup (ns.map Dt.int))<=60:=by rw[bu,Dw];decide
section
variable {X:Cx}
noncomputable def Th (K:PySem.W.Frag):R2:=λx y H Q=>∃p xs i v,x= .ref p/\y= .int i/\ai K H p xs/\0<=i/\xs[i.toNat]?=some v/\Q v H
theorem Dy:IL X (Th X.K):=by intro pins s U H o i ov iv Q I ro ri h;obtain⟨p,xs,k,z,rfl,rfl,hq,h0,he,q⟩:=h;cases ro;obtain⟨t,rfl⟩:=ri;obtain⟨its,r,pl,hz⟩:=I.list hq;obtain⟨w,ew,cR⟩:=r.get he;have hl:=r.length;have hn:=nW;have hk:k.toNat<its.length:=(List.getElem?_eq_some_iff.mp ew).1;exact wpAny_getItem_list pl.isList h0 (by lia) (by simpa using ew) ⟨z,H,I,cR,q⟩
end
noncomputable def kD {α:Type}:List α->List α->List α
 |[u0],[w0]=>[u0,w0]
 |_,_=>[]
theorem Ti {vs:List V}{us:List Value}{zs:List V}{ws:List Value}(r1:Vals vs us)(r2:Vals zs ws):Vals (kD vs zs) (kD us ws):=by
 cases r1 with
 |nil=>exact .nil
 | cons a ra=>
  cases ra with
  | nil=>
   cases r2 with
   |nil=>exact .nil
   |cons b rb=>
    cases rb with
    |nil=>exact .cons a (.cons b .nil)
    |cons _ _=>exact .nil
  |cons _ _=>exact .nil
theorem Tj {K:PySem.W.Frag}{fd:FuncData}{p k:Str}{kd:Addr}{v:Value}(e:PySem.W.nsIn K kd k=some (some v))(hp:fd.params.posonlyargs=[])(ha:fd.params.args.map (·.arg)=[p])(hv:fd.params.vararg=none)(hk:fd.params.kwonlyargs.map (·.arg)=[k])(n6:fd.params.kwarg=none)(hd:fd.defaults= .none)(Dz:fd.kwdefaults= .ref kd)(Ko:(k==p)=false):Binds K fd [p,k] [v]:=by
 intro s us KX hl;obtain⟨u,rfl⟩:∃u,us=[u]:=by match us,hl with
  |[u],_=>exact⟨u,rfl⟩
  |_::_::_,hl=>simp at hl
 intro Mo A E Q hq;have L:=PySem.W.looks_nsIn (M:=Mo) KX e;unfold bindArgs;have hz:seqItems? Value.none=pure none:=rfl;simp only[hp,ha,hv,hk,n6,hd,Dz,hz,map_nil,List.nil_append,length_cons,length_nil,zip_cons_cons,zip_nil_right,pure_bind,Option.getD_none,forIn_nil];simp[lookup_cons,Ko];refine wpAny_bind (L A _ E s (λ_ _ h=>h) ?_);simp[lookup_cons,Ko];exact wpAny_pure hq
theorem ym.there {P:Program}{w:World}{H:Hp}{h:Heap}{a:Addr}{o:HO}(x:ym P w H h a o):∃ob,h.get? a=some ob:=by
 cases o with
 |lst xs=>obtain⟨_,_,_,_,e⟩:=x;exact⟨_,e⟩
 |tup xs=>obtain⟨_,_,_,p⟩:=x;obtain⟨o,e,_⟩:=p;exact⟨_,e⟩
 |dK aa=>obtain⟨_,_,_,_,o,_,_,e,_⟩:=x;exact⟨_,e⟩
 |dT aa=>obtain⟨_,_,_,_,o,_,_,e,_⟩:=x;exact⟨_,e⟩
 |set S n=>obtain⟨o,_,_,_,e,_⟩:=x;exact⟨_,e⟩
 |ins C dx fs=>obtain⟨_,_,_,e,_⟩:=x;exact⟨_,e⟩
 |own y=>obtain⟨_,e⟩:=x;exact⟨_,e⟩
 |xd fs=>obtain⟨_,⟨_,_,_,e,_⟩,_⟩:=x;exact⟨_,e⟩
 |yD lo hi=>obtain⟨_,_,_,e⟩:=x;exact⟨_,e⟩
 |aE ob u=>obtain⟨e,_⟩:=x;exact⟨_,e⟩
 |mh ps=>exact⟨_,(show h.get? a=some _ from x)⟩
 |met f y=>exact⟨_,(show h.get? a=some _ from x)⟩
 |ext φ=>obtain⟨_,⟨_,e⟩,_⟩:=x;exact⟨_,e⟩
structure qX (P:Program)(w:World)(l:List Env)(H H':Hp)(s s':Shared)(ea:Addr)(cls:Value):Prop where
 os:s'.os=s.os
 bare:AllBare s'.gens
 un:Un (bA l) [] H H' s.heap s'.heap
 ag:bJ P w H' s'.heap
 Kq:∃(Bq:Heap)(t:Addr),Heap.FlyingW Bq l ea cls (.ref t) s'.heap/\(∀b o o',s.heap.get? b=some o->s'.heap.get? b=some o'->b∉bA l->Bq.get? b=some o')/\(∀b u o',H' b=some u->s'.heap.get? b=some o'->Bq.get? b=some o')
 new:s.heap.get? ea=none
section
variable {X:Cx}{pins:List (Addr×Obj)}{U:St}{H H':Hp}{s s':Shared}{ea:Addr}{cls:Value}
theorem Inv.kE (I:Inv X pins U H s){b:Addr}{o:Obj}(e:X.au.heap.get? b=some o)(hb:b∉X.fs):b∉bA X.stack:=λz=>by
 rcases mem_cons.mp (I.nJ b z)with q|q
 .have h1:@LT.lt Nat _ b X.au.heap.objs.size:=Heap.lt_size e;have h2:@LE.le Nat _ X.au.heap.objs.size X.env.locals:=I.ok.above;have h3:@Eq Nat b X.env.locals:=q;lia
 .exact hb q
theorem Inv.Tn (I:Inv X pins U H s){b:Addr}(hb:b∈X.fs):b∈bA X.stack:=by
 rcases I.ok.cW with e|⟨e,hf⟩
 .rw[e];exact hb
 .rw[e];unfold bA;rw[filterMap_cons,hf];exact mem_cons_of_mem _ hb
theorem Tp (I:Inv X pins U H s)(hex:X.ex=[])(F:qX X.prog X.w X.stack H H' s s' ea cls){h':Heap}{Bq:Heap}{t:Addr}(hf:Heap.FlyingW Bq X.outer ea cls (.ref t) h')(hu:s'.heap.UpToSlots h')(k1:∀b o o',s.heap.get? b=some o->s'.heap.get? b=some o'->b∉bA X.stack->Bq.get? b=some o')(k2:∀b u o',H' b=some u->s'.heap.get? b=some o'->Bq.get? b=some o'):
  qX X.prog X.w X.outer X.bK H' X.au {s' with heap:=h'} ea cls:=by
 have base:=I.base;rw[hex]at base;have cA:∀b:Addr,b∉([]:List Addr):=λb=>by simp
 have lift:∀b o,X.au.heap.get? b=some o->b∉X.fs->∃o1 o2,s.heap.get? b=some o1/\s'.heap.get? b=some o2/\h'.get? b=some o2:=λb o e hb=>by obtain⟨o1,e1⟩:=base.there b o e (cA b);obtain⟨o2,e2⟩:=F.un.there b o1 e1 (cA b);exact⟨o1,o2,e1,e2,hf.1 _ _ (k1 b o1 o2 e1 e2 (I.kE e hb))⟩
 have slots:∀b o,X.au.heap.get? b=some o->X.bK b=none->b∈X.fs->∃sl,h'.get? b=some {o with slots:=sl}:=λb o e n hb=>by obtain⟨sl,e1⟩:=base.slot b o e n hb (cA b);obtain⟨sV,e2⟩:=F.un.slot b _ e1 (base.free b o e n (cA b)) (I.Tn hb) (cA b);obtain⟨_,o3,e3,nf⟩:=I.ok.fc.mem hb;rw[e]at e3;cases e3;obtain⟨tJ,e4⟩:=hu b _ e2 nf;exact⟨tJ,e4⟩
 refine⟨F.os.trans I.os,F.bare,⟨λb o e n hb _=>?_,λb o e n hb _=>slots b o e n hb,λb o e n _=>?_,λb o e _=>?_,λb xs q=>F.un.cn b xs (base.cn b xs q),λb o xs q=>F.un.dJ b o xs (base.dJ b o xs q),λb ps q=>?_⟩,λb u e=>?_,⟨Bq,t,hf,λb o o' e e' hb=>?_,λb u o' q e'=>?_⟩,?_⟩
 .have e1:=base.keep b o e n hb (cA b);have e2:=F.un.keep b o e1 (base.free b o e n (cA b)) (I.kE e hb) (cA b);exact hf.1 _ _ (k1 b o o e1 e2 (I.kE e hb))
 .obtain⟨o1,e1⟩:=base.there b o e (cA b);exact F.un.free b o1 e1 (base.free b o e n (cA b)) (cA b)
 .by_cases hb:b∈X.fs
  .obtain⟨sl,q⟩:=slots b o e (I.ok.iQ b hb) hb;exact⟨_,q⟩
  .obtain⟨_,o2,_,_,q⟩:=lift b o e hb;exact⟨o2,q⟩
 .obtain⟨m1,e1⟩:=base.eI b ps q;obtain⟨m2,e2⟩:=F.un.eI b _ e1;exact⟨m1++m2,by rw[e2,Array.append_assoc]⟩
 .refine(F.ag b u e).cG (λc v hc q=>?_) (λ_ q=>q) λ_ _ q=>q;rcases hc with z|z
  .subst z;exact hf.1 _ _ (k2 _ _ _ e q)
  .exact hf.1 _ _ (k2 _ _ _ z q)
 .by_cases DA:b∈X.fs
  .exact absurd DA hb
  .obtain⟨o1,o2,e1,e2,q⟩:=lift b o e DA;have q':h'.get? b=some o':=e';rw[q]at q';cases q';exact k1 b o1 _ e1 e2 (I.kE e DA)
 .obtain⟨o2,e2⟩:=(F.ag b u q).there;have z:=k2 b u o2 q e2;have q':h'.get? b=some o':=e';rw[hf.1 _ _ z]at q';cases q';exact z
 .cases q:X.au.heap.get? ea with
  |none=>rfl
  |some o=>obtain⟨o1,e1⟩:=base.there ea o q (cA ea);rw[F.new]at e1;cases e1
end
noncomputable def oG:List Value:=[.type "ValueError",.type "Exception",.type "BaseException",.type "object"]
noncomputable def qY (K:PySem.W.Frag)(C:Addr):Prop:=PySem.W.excIn K C oG "ValueError.__new__"=true
theorem Tq {K:PySem.W.Frag}{h:Heap}{C:Addr}{oH:List Value}{newId:String}(X:K.In h)(q:PySem.W.excIn K C oH newId=true):∃bm N nm qn bs hdct sn sub ab col dd k0 k1 k2 k3 k5 mN,h.get? C=some (excClassObj nm qn C N bs bm hdct sn sub ab col dd k0 k1 k2 k3 k5 newId)/\h.Ns N mN/\mN "__init__"=none/\OwnTail h oH bm:=by
 unfold PySem.W.excIn at q;split at q
 .rename_i dd cd sl ho;split at q
  .rename_i C' bm k0 k1 k2 k3 n k5 hm hs;simp only[Bool.and_eq_true,beq_iff_eq,Bool.not_eq_true']at q;obtain⟨⟨⟨⟨⟨rfl,rfl⟩,i3⟩,ht⟩,ag⟩,zI⟩:=q;obtain⟨nm,bs,mro,ns,qn,hd,sn,sub,ab,col,del⟩:=cd;dsimp only at hm i3 ag zI;subst hm i3;have DB:sl=#[k0,k1,k2,k3,some (.builtin n),k5]:=by
    obtain⟨l⟩:=sl;simp only at hs;rw[hs]
   subst DB;exact⟨bm,ns,nm,qn,bs,hd,sn,sub,ab,col,dd,k0,k1,k2,k3,k5,_,X _ _ ho,.of_isNs (PySem.W.isNs_of_in X ag),PySem.W.nsMap_none_of_in X ag zI,PySem.W.tail_of_in X ht⟩
  .cases q
 .cases q
theorem Kr {K:PySem.W.Frag}{M:Model}{h:Heap}{ea C Pc:Addr}{oe:Obj}{b:Bool}(X:K.In h)(he:h.get? ea=some oe)(hc:oe.cls= .ref C)(m:PySem.W.kitCls K (.ref C) (.ref Pc)=some b)(hb:PySem.W.mroIn K Pc (.type "BaseException")=some true):PySem.W.Looks M h (excMatches (.ref ea) (.ref Pc)) b:=by
 obtain⟨L1,L2,L3⟩:=PySem.W.kit_cls (M:=M) X m;have L4:=PySem.W.looks_mroIn (M:=M) X hb;have L5:PySem.W.Looks M h (typeOf (.ref ea)) (.ref C):=hc ▸ (PySem.W.Looks.ld he).andThen .now;have f:=tc_notTuple;intro A Q E s k q;unfold excMatches isInstance isExcClass;simp only[bind_assoc];refine wpAny_bind (L1 A _ E s k ?_);rw[f];simp only[pure_bind,Bool.false_eq_true,if_false,forIn_cons,forIn_nil,bind_assoc];refine wpAny_bind (L2 A _ E s k ?_);simp only[if_true];refine wpAny_bind (L4 A _ E s k ?_);simp only[Bool.not_true,Bool.false_eq_true,if_false,pure_bind];refine wpAny_bind (L5 A _ E s k ?_);refine wpAny_bind (L3 A _ E s k ?_);cases b
 .exact wpAny_pure q
 .exact wpAny_pure q
noncomputable def Ks (W:Hp->Prop)(t:TA):TS:=λ_ U H=>t U H λvs H1=>vs.length<=sizeLine/\W H1
section
variable {X:Cx}
theorem Tr {x:Str}{C:Addr}{e:Expr}{es:List Expr}{t:TA}{np az pos:Pos}{W:Hp->Prop}(hc:X.calm=true)(hg:Gl X x)(hm:X.mg x=some (.ref C))(hC:qY X.K C)(ha:PA X (e::es) t)(DC:∀{pins:List (Addr×Obj)}{U:St}{H:Hp}{s:Shared}{ea:Addr}{vs:List Value}{h1:Heap},Inv X pins U H s->Heap.MadeExcOf s.heap h1 ea (.ref C) vs->W H->X.xe (.ref ea) {s with heap:=h1})(cy:autoParam ((x==("__debug__":Str))=false) aP2)(he:autoParam (starEach (e::es) X.env=(false,eval e X.env)::starEach es X.env) aP1)(cu:autoParam ((backTo az (starEach es X.env)).any (·.1)=false) aP1):
  PS X (.Raise (some (.Call (.Name x np) (e::es) [] az)) none pos) (Ks W t):=by
 intro pins s U H D I h;obtain⟨bm,N,nm,qn,bs,hdct,sn,sub,ab,col,dd,k0,k1,k2,k3,k5,mN,hC,hN,zI,T⟩:=Tq I.mod.iP hC;have FB:=F.excBase_ValueError;refine wpAny_Raise_call_subT (C:=C) (nm:=nm) (q:=qn) (N:=N) (bs:=bs) (bm:=bm) (hdct:=hdct) (sn:=sn) (sub:=sub) (ab:=ab) (col:=col) (dd:=dd) (k0:=k0) (k1:=k1) (k2:=k2) (k3:=k3) (k5:=k5) FB (mN:=mN) (T.hasType FB.hasBase) (I.ok.hd hc) (by rw[he];show(false||(backTo az (starEach es X.env)).any (·.1))=false;rw[cu];rfl) zI (lq I hg hm ⟨rfl,?_⟩ cy);have hA:=ha az pins s U H _ I h;rw[he]at hA⊢;exact Calls.evalArgs_plain (aq hA λus s2 ⟨vs,H2,I2,r2,hz,q2⟩=>⟨rfl,by rw[<-r2.length];exact hz,I2.bk _ _ hC,hN.keeps I2.bk,T.keeps I2.bk,λh' e hm=>DC I2 hm q2⟩)
end
noncomputable def oJ (X:Cx)(ea:Addr):Cx:={X with A:=X.A.mark (some (.ref ea)),calm:=false,xe:=λ_ _=>False}
noncomputable def mI (ea:Addr)(cls:Value):HO:=.ext λh=>∃o vs,h.get? ea=some o/\o.cls=cls/\o.data= .fields vs
section
variable {X:Cx}{pins pn:List (Addr×Obj)}{U:St}{H H':Hp}{s s':Shared}
theorem Inv.kF {X Yq:Cx}(I:Inv X pins U H s)(ok:Yq.Ok)(hs:Yq.au=X.au)(hH:Yq.bK=X.bK)(he:Yq.env=X.env)(ho:Yq.outer=X.outer)(hx:Yq.ex=X.ex)(hN:Yq.N=X.N)(hp:Yq.prog=X.prog)(hw:Yq.w=X.w){bP:List (Addr×Obj)}(DD:∀p∈Yq.pn++bP,p∈X.pn++pins):Inv Yq bP U H s:=by
 obtain⟨prog,w,K,mg,base,A,N,au,bK,env,outer,stack,ex,fn,calm,Ts,xe⟩:=X;obtain⟨tK,w',K',Tt,tL,A',N',tM,tN,DE,oK,oM,Iy,Tu,tO,Tv,Tw⟩:=Yq;dsimp only at hs hH he ho hx hN hp hw;subst hs hH he ho hx hN hp hw;exact⟨ok,I.os,I.bare,I.base,I.loc,I.cell,I.free,I.dM,λp hp=>I.pin p (DD p hp),I.ag,I.len⟩
theorem Cx.Ok.kF {X Yq:Cx}(ok:X.Ok)(hm:Yq.K=X.K/\Yq.mg=X.mg/\Yq.base=X.base)(he:Yq.env=X.env)(hs:Yq.au=X.au)(hH:Yq.bK=X.bK)(ho:Yq.outer=X.outer)(fY:Yq.stack=X.stack)(hx:Yq.ex=X.ex)(hf:Yq.fn=X.fn)(hd:Yq.calm=true->Yq.A.handled=none)(lN:Yq.A.frames=some Yq.stack):Yq.Ok:=by
 obtain⟨prog,w,K,mg,base,A,N,au,bK,env,outer,stack,ex,fn,calm,Ts,xe⟩:=X;obtain⟨tK,w',K',Tt,tL,A',N',tM,tN,DE,oK,oM,Iy,Tu,tO,Tv,Tw⟩:=Yq;obtain⟨tP,zJ,Kt⟩:=hm;dsimp only at tP zJ Kt he hs hH ho fY hx hf;subst tP zJ Kt he hs hH ho fY hx hf;exact⟨ok.mod,ok.kind,ok.glob,ok.blt,ok.above,ok.inj,ok.has,ok.nH,hd,lN,ok.cW,ok.yE,ok.bs,ok.jO,ok.nI,ok.qA,ok.fc,ok.iQ⟩
theorem Inv.Ku {bP:List (Addr×Obj)}(I:Inv {X with pn:=pn} bP U H s)(h:∀p∈X.pn++pins,p∈pn):Inv X pins U H s:=I.kF (Yq:=X) (I.ok.kF (Yq:=X) ⟨rfl,rfl,rfl⟩ rfl rfl rfl rfl rfl rfl rfl I.ok.hd I.ok.frames) rfl rfl rfl rfl rfl rfl rfl rfl λp hp=>List.mem_append_left _ (h p hp)
theorem Inv.Tx {ea:Addr}(I:Inv X pins U H s):Inv (oJ X ea) pins U H s:=I.kF (Yq:=oJ X ea) (I.ok.kF (Yq:=oJ X ea) ⟨rfl,rfl,rfl⟩ rfl rfl rfl rfl rfl rfl rfl (λz=>by have z':false=true:=z;cases z') I.ok.frames) rfl rfl rfl rfl rfl rfl rfl rfl λ_ hp=>hp
theorem Inv.zK {ea:Addr}(ok:X.Ok)(I:Inv (oJ X ea) pins U H s):Inv X pins U H s:=I.kF (Yq:=X) ok rfl rfl rfl rfl rfl rfl rfl rfl λ_ hp=>hp
theorem Tz {CX:eK}{k:Nat}{f:Addr}{fd:FuncData}{ps:List Str}{sp:Sp}{bG:List V}{ds:List Value}{E:XK}{Q:VK}{us:List Value}{vs:List V}(F:zi X.prog X.w X.K X.mg X.base CX k f fd ps sp)(hr:ba k X.A)(hb:Binds X.K fd ps ds)(hd:Vals bG ds)(I:Inv X pins U H s)(hx:∀e s',CX X.stack H s E e s'->X.xe e s')(r:Vals vs us)(h:sp (vs++bG) H Q E):wpAny (model X.prog X.w) X.A (call (.ref f) us) (EP X pins U Q) X.xe s:=by
 have r2:Vals (vs++bG) (us++ds):=r.append hd;have hl:(us++ds).length=ps.length:=by rw[<-r2.length];exact F.len _ _ _ _ h
 refine wpAny_call (codeAny_mono (F.run X.A X.stack s H ⟨us,[]⟩ (us++ds) (vs++bG) Q E hr I.qJ (hb s us I.aU hl) r2 h) λr s' hq=>?_);cases r with
 |error e=>exact hx e s' hq
 |ok fl=>
  cases fl with
  |ret u=>exact I.after hq
  |next=>exact False.elim hq
  |brk=>exact False.elim hq
  |cont=>exact False.elim hq
theorem DF {ea:Addr}{cls:Value}(I:Inv X pins U H s)(F:qX X.prog X.w X.stack H H' s s' ea cls){h':Heap}{Bq:Heap}{t:Addr}(hf:Heap.FlyingW Bq X.stack ea cls (.ref t) h')(hu:s'.heap.UpToSlots h')(k1:∀b o o',s.heap.get? b=some o->s'.heap.get? b=some o'->b∉bA X.stack->Bq.get? b=some o')(k2:∀b u o',H' b=some u->s'.heap.get? b=some o'->Bq.get? b=some o'):
  Inv X pins U H' {s' with heap:=h'}:=by
 have cA:∀b:Addr,b∉([]:List Addr):=λb=>by simp
 have slots:∀b o,s.heap.get? b=some o->H b=none->b∈bA X.stack->∃sl,h'.get? b=some {o with slots:=sl}:=λb o e n hb=>by obtain⟨sV,e2⟩:=F.un.slot b _ e n hb (cA b);obtain⟨_,o3,e3,nf⟩:=I.stack.mem hb;rw[e]at e3;cases e3;obtain⟨tJ,e4⟩:=hu b _ e2 nf;exact⟨tJ,e4⟩
 refine I.Cp (ch:=[]) F.os ⟨λb o e n hb _=>?_,λb o e n hb _=>slots b o e n hb,λb o e n _=>F.un.free b o e n (cA b),λb o e _=>?_,F.un.cn,F.un.dJ,F.un.eI⟩ (λb u e=>?_) F.bare λb z=>absurd z (cA b)
 .have e2:=F.un.keep b o e n hb (cA b);exact hf.1 _ _ (k1 b o o e e2 hb)
 .by_cases hb:b∈bA X.stack
  .obtain⟨sl,q⟩:=slots b o e (I.yF b hb) hb;exact⟨_,q⟩
  .obtain⟨o2,e2⟩:=F.un.there b o e (cA b);exact⟨o2,hf.1 _ _ (k1 b o o2 e e2 hb)⟩
 .refine(F.ag b u e).cG (λc v hc q=>?_) (λ_ q=>q) λ_ _ q=>q;rcases hc with z|z
  .subst z;exact hf.1 _ _ (k2 _ _ _ e q)
  .exact hf.1 _ _ (k2 _ _ _ z q)
theorem Inv.DG {a:Addr}{o:HO}(I:Inv X pins U H s)(hex:X.ex=[])(hn:H a=none)(h0:X.au.heap.get? a=none)(hL:a≠X.env.locals)(hc:∀x c,X.env.cells.lookup x=some c->c≠a)(hp:∀p∈X.pn++pins,p.1≠a)(new:ym X.prog X.w (upd H a o) s.heap a o):Inv X pins U (upd H a o) s:=by
 have gW:∀b ob,X.au.heap.get? b=some ob->b≠a:=λb ob e z=>by rw[z,h0]at e;cases e
 refine⟨I.ok,I.os,I.bare,⟨I.base.keep,I.base.slot,λb ob e n hx=>?_,I.base.there,λb xs q=>?_,λb ob u q=>?_,λb ps q=>?_⟩,I.loc,I.cell,?_,λx c e=>?_,λp Kv=>?_,λb u e=>?_,I.len⟩
 .rw[jd (gW b ob e)];exact I.base.free b ob e n hx
 .rw[jd (ji (I.base.cn b xs q) hn)];exact I.base.cn b xs q
 .rw[jd (ji (I.base.dJ b ob u q) hn)];exact I.base.dJ b ob u q
 .obtain⟨more,z⟩:=I.base.eI b ps q;exact⟨more,by rw[jd (ji z hn)];exact z⟩
 .rw[jd (Ne.symm hL)];exact I.free
 .rw[jd (hc x c e)];exact I.dM x c e
 .obtain⟨q1,q2,q3⟩:=I.pin p Kv;exact⟨q1,by rw[jd (hp p Kv)];exact q2,q3⟩
 .by_cases hb:b=a
  .subst hb;rw[ja]at e;cases e;exact new
  .rw[jd hb]at e;exact(I.ag b u e).cG (λ_ _ _ q=>q) (λc q=>by rw[jd (ji q hn)];exact q) λc xs q=>by rw[jd (ji q hn)];exact q
theorem Inv.unset {i:Nat}{n:Str}(I:Inv X pins U H s)(hN:X.N.Nodup)(hi:X.N[i]?=some n){m:Str->Option Value}(hm:s.heap.Ns X.env.locals m)(hl:∀(i:Nat)(x:Str)(v:V),X.N[i]?=some x->U[i]?=some (some v)->pZ X.env.scope x->∃u,RelV v u/\Look X.env s.heap m x u){h':Heap}{u:Option Value}(mj:h'.Ns X.env.locals (λx=>if x=n then u else m x))(hs:Heap.SameBut X.env.locals s.heap h'):Inv X pins (U.set i none) H {s with heap:=h'}:=by
 obtain⟨oL,_,_,IB,_⟩:=id hm;have qB:i<U.length:=by rw[I.len];exact(List.getElem?_eq_some_iff.mp hi).1
 have iR:=I.iR;refine⟨I.ok,I.os,I.bare,⟨λb o e n hb hx=>?_,λb o e n hb hx=>?_,I.base.free,λb o e hx=>?_,I.base.cn,I.base.dJ,I.base.eI⟩,⟨_,mj,λj y v' e1 e2 e3=>?_⟩,λy c e=>?_,I.free,I.dM,λp hp=>?_,λb ob e=>?_,by simpa using I.len⟩
 .exact(hs.2 b (ne_of_lt (lt_of_lt_of_le (Heap.lt_size e) I.ok.above))).trans (I.base.keep b o e n hb hx)
 .obtain⟨sl,e1⟩:=I.base.slot b o e n hb hx;exact⟨sl,(hs.2 b (ne_of_lt (lt_of_lt_of_le (Heap.lt_size e) I.ok.above))).trans e1⟩
 .obtain⟨o',e1⟩:=I.base.there b o e hx;exact⟨o',(hs.2 b (ne_of_lt (lt_of_lt_of_le (Heap.lt_size e) I.ok.above))).trans e1⟩
 .by_cases hj:j=i
  .subst hj;rw[getElem?_set_self qB]at e2;cases e2
  .rw[getElem?_set_ne (Ne.symm hj)]at e2;obtain⟨u',r',q⟩:=hl j y v' e1 e2 e3;refine⟨u',r',?_⟩;rcases q with⟨k,e⟩|⟨k,c,e,z⟩
   .refine .inl ⟨k,?_⟩;have:y≠n:=λe=>hj (Ck hN e1 (e ▸ hi));simp[this,e]
   .exact .inr ⟨k,c,e,z.sameBut hs (iR y c e)⟩
 .obtain⟨w',z⟩:=I.cell y c e;exact⟨w',z.sameBut hs (iR y c e)⟩
 .obtain⟨e,n,ne,nf,d⟩:=I.pin p hp;exact⟨(hs.2 p.1 ne).trans e,n,ne,nf,d⟩
 .refine(I.ag b ob e).cG (λc w' hc q=>(hs.2 c ?_).trans q) (λ_ q=>q) λ_ _ q=>q;have fr:=I.free
  rintro rfl
  rcases hc with rfl|hc
  .rw[fr]at e;cases e
  .rw[fr]at hc;cases hc
end
structure fM (K:PySem.W.Frag)(C:Addr):Prop where
 ga:PySem.W.findIn K (.ref C) "__getattribute__"=some (some (.builtin "BaseException.__getattribute__"))
 gn:PySem.W.findIn K (.ref C) "__getattr__"=some none
 cl:PySem.W.findIn K (.ref C) "__class__"=some (some (.builtin "object.__class__"))
 be:PySem.W.mroIn K C (.type "BaseException")=some true
 ob:PySem.W.mroIn K C (.type "object")=some true
 is:(PySem.W.clsIn K C).isSome=true
section
variable {prog:Program}{w:World}{A:Around}{E:Value->Shared->Prop}{K:PySem.W.Frag}{h:Heap}{g:Array GenState}{d:Drawn}{t:Nat}{os:OsState}{a C:Addr}{o:Obj}
theorem TB {M:Model}(hx:h.get? a=some o)(hc:o.cls= .ref C):PySem.W.Looks M h (typeOf (.ref a)) (.ref C):=hc ▸ (PySem.W.Looks.ld hx).andThen .now
theorem TC {R:Result->Shared->Prop}{tp:Value}(X:K.In h)(I:fM K C)(hx:h.get? a=some o)(hc:o.cls= .ref C)(hq:R (.ok (.ret (.ref C))) ⟨h,g,d,t,os⟩):codeAny (model prog w) A (.call (.builtin "getset_descriptor.__get__") ⟨[.builtin "object.__class__",.ref a,tp],[]⟩) R ⟨h,g,d,t,os⟩:=by
 have L1:=PySem.W.looks_mroIn (M:=model prog w) X I.ob;have Kw:(⟨h,g,d,t,os⟩:Shared).TypeIs (.builtin "object.__class__") "getset_descriptor":=F.typeOf_object_class;refine codeAny_call_builtin F.slot_gs_get.plain F.entry_gs_get (F.slot_gs_get.check _ _ _ _ _ _ _ _ Kw (F.args_gs_get _ _ _) ?_);have ow:=F.owner_object_class;repeat(any_goals (first|assumption|(with_reducible refine wpAny_loadPart_at hx ?_;rw[hc])|(rw[ow];with_reducible refine L1.at ?_)|(with_reducible refine L1.at ?_)|wp_step))
 refine⟨Code.quiet_builtin _ (by decide+kernel),codeAny_builtin F.entry_object_class ?_⟩;repeat(any_goals (first|assumption|(with_reducible refine wpAny_loadPart_at hx ?_;rw[hc])|wp_step))
theorem TF {tk:Tok}{Q:Fin->Shared->Prop}(X:K.In h)(I:fM K C)(hx:h.get? a=some o)(hc:o.cls= .ref C)(hq:Q (.done (.ret (.ref C))) ⟨h,g,d,t,os⟩):wpAny (model prog w) A (Builtin.«object.__getattribute__» ⟨[.ref a,.str "__class__" tk],[]⟩) Q E ⟨h,g,d,t,os⟩:=by
 have Kw:(⟨h,g,d,t,os⟩:Shared).TypeIs (.builtin "object.__class__") "getset_descriptor":=F.typeOf_object_class;have f5:=F.typeOf_object_class;have f6:=F.slot_gs_get.lookup;have f7:=F.slot_gs_set.lookup;have L1:=PySem.W.looks_findIn (M:=model prog w) X I.cl;repeat(any_goals (first|assumption|(with_reducible refine wpAny_loadPart_at hx ?_;rw[hc])|(with_reducible refine L1.at ?_)|wp_step))
 refine TC X I hx hc ?_;repeat(any_goals (first|assumption|wp_step))
theorem TH {M:Model}{cw:Value}{Q:Unit->Shared->Prop}(X:K.In h)(I:fM K C)(hx:h.get? a=some o)(hc:o.cls= .ref C)(hq:Q () ⟨h,g,d,t,os⟩):wpAny M A (checkBuiltinCall "BaseException.__getattribute__" ⟨[.ref a,cw],[]⟩) Q E ⟨h,g,d,t,os⟩:=by
 have hk:builtinKind "BaseException.__getattribute__"=some .slot:=by decide+kernel
 have fN:splitId "BaseException.__getattribute__"=some ("BaseException","__getattribute__"):=by decide+kernel
 have L1:=PySem.W.looks_mroIn (M:=M) X I.be;have ha:=F.args_bexc_ga (.ref a) cw;simp only[checkBuiltinCall,hk,fN];refine wpAny_bind ?_
 .unfold isInstance;repeat(first|(with_reducible refine wpAny_loadPart_at hx ?_;rw[hc])|(with_reducible refine L1.at ?_)|wp_step)
  exact hq
theorem TJ {tk:Tok}{R:Result->Shared->Prop}(X:K.In h)(I:fM K C)(hx:h.get? a=some o)(hc:o.cls= .ref C)(hq:R (.ok (.ret (.ref C))) ⟨h,g,d,t,os⟩):codeAny (model prog w) A (.call (.builtin "BaseException.__getattribute__") ⟨[.ref a,.str "__class__" tk],[]⟩) R ⟨h,g,d,t,os⟩:=
 codeAny_call_builtin F.attr_ValueError.ga.plain F.entry_bexc_ga (TH X I hx hc (TF X I hx hc hq))
theorem TK {tk:Tok}{Q:Value->Shared->Prop}(X:K.In h)(I:fM K C)(hx:h.get? a=some o)(hc:o.cls= .ref C)(hq:Q (.ref C) ⟨h,g,d,t,os⟩):wpAny (model prog w) A (getAttrBy (.ref a) (.str "__class__" tk) false) Q E ⟨h,g,d,t,os⟩:=by
 have f3:=F.attr_ValueError.ga.bind (.ref a);have L1:=PySem.W.looks_findIn (M:=model prog w) X I.ga;have L2:=PySem.W.looks_findIn (M:=model prog w) X I.gn;have DH:(Value.builtin "BaseException.__getattribute__"==Value.builtin "object.__getattribute__")=false:=by decide+kernel
 have zL:(onTheHeap (Value.ref C)&&Value.builtin "BaseException.__getattribute__"==Value.builtin "object.__getattribute__")=false:=by rw[DH];rfl
 repeat(any_goals (first|assumption|(with_reducible refine wpAny_loadPart_at hx ?_;rw[hc])|(with_reducible refine L1.at ?_)|(with_reducible refine L2.at ?_)|wp_step))
 refine TJ X I hx hc ?_;repeat(any_goals (first|assumption|wp_step))
theorem TL {Q:Option Value->Shared->Prop}(X:K.In h)(I:fM K C)(hx:h.get? a=some o)(hc:o.cls= .ref C)(hq:Q (some (.ref C)) ⟨h,g,d,t+1,os⟩):wpAny (model prog w) A (getAttr? (.ref a) "__class__") Q E ⟨h,g,d,t,os⟩:=by unfold getAttr? getAttrBy?;repeat(any_goals (first|assumption|with_reducible apply TK X I hx hc|wp_step))
end
theorem TM {K:PySem.W.Frag}{ea C:Addr}(I:fM K C):PySem.W.KitX K (.ref ea) (.ref C) (λh=>∃o vs,h.get? ea=some o/\o.cls= .ref C/\o.data= .fields vs) where
 ty:=λ_ _ _ ⟨o,_,h1,h2,_⟩=>TB h1 h2
 it:=λ_ _ X _=>by
  have iT:=I.is;unfold PySem.W.clsIn at iT;split at iT
  .rename_i c' d' TN nM ho;intro A' Q' E' s' k q;unfold isType loadHead;exact wpAny_bind (wpAny_loadPart (k _ _ (X _ _ ho)) (wpAny_pure q))
  .cases iT
 ne:=λh tp dd its n sl X TQ=>by
  refine Bool.eq_false_iff.mpr λq=>?_;have e:C=tp:=Value.ref.inj (beq_iff_eq.mp q);subst e;have iT:=I.is;unfold PySem.W.clsIn at iT;split at iT
  .rename_i c' d' TN nM ho;have z:=(X _ _ ho).symm.trans TQ;cases z
  .cases iT
 ca:=λ{_ _ _ _ _ s} X ⟨o,_,h1,h2,_⟩ k=>by obtain⟨hh,g,d,t,os⟩:=s;exact TL X I h1 h2 k
section
variable {X:Cx}
theorem zy:dA X (.builtin "isinstance") (λxs H Q=>∃ea C y c b,xs=[.ref ea,y]/\H ea=some (mI ea (.ref C))/\fM X.K C/\RelV y c/\PySem.W.kitOne X.K (.ref C) c=some b/\Q (.bl b) H):=by
 intro pins s U H xs us Q I r h;obtain⟨ea,C,y,c,b,rfl,hH,hX,ry,hk,q⟩:=h;obtain⟨u,w,rfl,r1,r2⟩:=vals2 r;obtain rfl:u=Value.ref ea:=r1;have hw:w=c:=by
  cases y with
  |ref z=>exact(show w=Value.ref z from r2).trans (show c=Value.ref z from ry).symm
  |ty z=>exact(show w=Value.type z from r2).trans (show c=Value.type z from ry).symm
  |aj=>exact(show w=Value.none from r2).trans (show c=Value.none from ry).symm
  |bl z=>exact(show w=Value.bool z from r2).trans (show c=Value.bool z from ry).symm
  |int z=>exfalso;obtain⟨_,rfl⟩:=ry;unfold PySem.W.kitOne PySem.W.kitCls at hk;simp at hk
  |str z=>exfalso;obtain⟨_,rfl⟩:=ry;unfold PySem.W.kitOne PySem.W.kitCls at hk;simp at hk
  |fu z=>exfalso;obtain⟨_,rfl⟩:=ry;unfold PySem.W.kitOne PySem.W.kitCls at hk;simp at hk
  |mf z=>exfalso;obtain⟨_,rfl⟩:=ry;unfold PySem.W.kitOne PySem.W.kitCls at hk;simp at hk
 subst hw;obtain⟨p,_,_⟩:=(show ym X.prog X.w H s.heap ea (mI ea (.ref C))from I.ag ea _ hH);exact PySem.W.kia_one (TM hX) I.aU p hk (λz=>nomatch z) λtk=>⟨.bl b,H,I.tok tk,rfl,q⟩
end
theorem Kx {A:Around}{s:Shared}(k:Bool)(bs:List Bool):∀y,y∈(bs.map Value.bool).toArray->SeqAt.EqAt A s y (.bool k) (isBoolOf k y):=λy hy=>by
 have TR:y∈bs.map Value.bool:=by simpa using hy
 obtain⟨b,_,rfl⟩:=mem_map.mp TR;exact SeqAt.EqAt.bool_bool b k
theorem Ky (k:Bool):∀bs:List Bool,(bs.map Value.bool).countP (isBoolOf k)=bs.count k
 |[]=>rfl
 |b::bs=>by rw[map_cons,List.countP_cons,List.count_cons,Ky k bs];rfl
noncomputable def TU (K:PySem.W.Frag):V->List V->Hp->VK->Prop:=λx vs H Q=>∃(l:Addr)(bs:List Bool)(k:Bool),x= .ref l/\vs=[.bl k]/\ai K H l (bs.map V.bl)/\Q (.int (bs.count k)) H
noncomputable def TV (K:PySem.W.Frag):V->List V->Hp->VK->Prop:=λx vs H Q=>∃(l:Addr)(bs:List Bool)(k:Bool),x= .ref l/\vs=[.bl k]/\ai K H l (bs.map V.bl)/\k∈bs/\Q (.int (bs.idxOf k)) H
section
variable {X:Cx}
theorem TX:sZ X "list.count" (TU X.K):=by intro pins s U H x vs v us Q I rx rv h;obtain⟨l,bs,k,rfl,rfl,hH,q⟩:=h;cases rx;obtain⟨u,rfl,ru⟩:=rv.one;obtain rfl:u=Value.bool k:=ru;obtain⟨its,r,pl,hz⟩:=I.list hH;have e:=zH r;subst e;obtain⟨⟨cls,dd,data,sl⟩,ho,hc,n,hd⟩:=pl.isList;simp only at hc hd;subst hc hd;refine call_meets PySem.F.slot_list_count ⟨_,ho,rfl⟩ PySem.F.entry_list_count (PySem.F.args_list_count_2 _ _) (SeqAt.list_countAt l _ n dd sl (.bool k) (isBoolOf k)) ⟨ho,λy hy=>Kx k bs y hy,?_⟩;rw[show(bs.map Value.bool).toArray.toList=bs.map Value.bool from rfl,Ky k bs];exact⟨.int (bs.count k),H,I.tok _,⟨_,rfl⟩,q⟩
theorem TY:sZ X "list.index" (TV X.K):=by
 intro pins s U H x vs v us Q I rx rv h;obtain⟨l,bs,k,rfl,rfl,hH,hk,q⟩:=h;cases rx;obtain⟨u,rfl,ru⟩:=rv.one;obtain rfl:u=Value.bool k:=ru;obtain⟨its,r,pl,hz⟩:=I.list hH;have e:=zH r;subst e;obtain⟨⟨cls,dd,data,sl⟩,ho,hc,n,hd⟩:=pl.isList;simp only at hc hd;subst hc hd;have hj:bs.idxOf k<bs.length:=List.idxOf_lt_length_iff.mpr hk;have zM:bs.length<=sizeLine:=by rw[length_map]at hz;exact hz
 have hs:(sizeLine:Int)<2^63-1:=by decide
 refine call_meets PySem.F.slot_list_index ⟨_,ho,rfl⟩ PySem.F.entry_list_index (PySem.F.args_list_index_2 _ _) (SeqAt.list_indexAt l _ n dd sl (.bool k) (isBoolOf k) (bs.idxOf k) (by simpa using hj) (by lia) ?_ ?_) ⟨ho,λy hy=>Kx k bs y hy,?_⟩
 .have e:(bs.map Value.bool).toArray[bs.idxOf k]'(by simpa using hj)=Value.bool (bs[bs.idxOf k]):=by simp
  rw[e];show(bs[bs.idxOf k]==k)=true;simpa using List.getElem_idxOf hj
 .intro j Kz aD;have hjl:j<bs.length:=by simpa using Kz
  have e:(bs.map Value.bool).toArray[j]'Kz=Value.bool (bs[j]):=by simp
  rw[e];show(bs[j]==k)=false;exact Bool.eq_false_iff.mpr λz=>by simpa[z]using List.not_of_lt_findIdx (p:=(·==k)) (xs:=bs) (i:=j) aD
 .exact⟨.int (bs.idxOf k),H,I.tok _,⟨_,rfl⟩,q⟩
end
end L2
namespace L2
open PySem
noncomputable def kinds (K:PySem.W.Frag)(C:Value)(Ds:List Value):List (Option Bool):=Ds.map (PySem.W.kitOne K C)
end L2
namespace L2
open PySem PySem.Spec PyProof.Rows
noncomputable def isStar:Expr->Bool
 | .Starred _ _=>true
 |_=>false
theorem TZ {e:Expr}{es:List Expr}{env:Env}(h:isStar e=false):starEach (e::es) env=(false,eval e env)::starEach es env:=by cases e<;>first|rfl|cases h
section
variable {X:Cx}{e:Expr}{es:List Expr}{te:TE}{t:TA}
theorem jb (ha:PE X e te)(hr:PA X es t)(h:autoParam (isStar e=false) aP1):PA X (e::es) (xu te t):=Ri ha hr (TZ h)
end
noncomputable def mJ {α:Type}:List α->List α->List α
 |[u0],[w0,w1]=>[u0,w0,w1]
 |_,_=>[]
theorem T1 {vs:List V}{us:List Value}{zs:List V}{ws:List Value}(r1:Vals vs us)(r2:Vals zs ws):Vals (mJ vs zs) (mJ us ws):=by rcases r1 with _|⟨a,_|⟨_,_⟩⟩<;>rcases r2 with _|⟨b,_|⟨c,_|⟨_,_⟩⟩⟩;all_goals first|exact .nil|exact .cons a (.cons b (.cons c .nil))
section
variable {X:Cx}{pins:List (Addr×Obj)}{U:St}{H:Hp}{s:Shared}{a:Addr}{o:Obj}{u:HO}
theorem Inv.freeze (I:Inv X pins U H s)(hm:fw (some u))(ha:H a=some u)(ho:s.heap.get? a=some o):Inv X pins U (upd H a (.aE o u)) s:=by
 have new:ym X.prog X.w (upd H a (.aE o u)) s.heap a (.aE o u):=by
  refine⟨ho,(I.ag a u ha).cG (λ_ _ _ q=>q) (λc q=>?_) λc xs q=>?_⟩
  .have hc:c≠a:=λz=>by
    subst z;rw[ha]at q;cases q;exact hm
   rw[jd hc];exact q
  .have hc:c≠a:=λz=>by
    subst z;rw[ha]at q;cases q;exact hm
   rw[jd hc];exact q
 exact I.write (t':=s.toks) (x:=a) (e:=a) (o:=.aE o u) (h':=s.heap) (by rw[ha];exact hm) (.inl rfl) (λb v _ q=>q) ⟨o,ho⟩ new
theorem Inv.DI (I:Inv X pins U H s)(ha:H a=some (.aE o u))(h0:∀o' u',X.bK a≠some (.aE o' u'))(hm:fw (some u)):Inv X pins U (upd H a u) s:=by
 have ne:∀{b:Addr}{v:HO},H b=some v->(∀o' u',v≠.aE o' u')->b≠a:=λ{b v} e h z=>by subst z;rw[ha]at e;exact h _ _ (Option.some.inj e).symm
 have zN:∀{b:Addr},H b=none->b≠a:=λ{b} e z=>by subst z;rw[ha]at e;cases e
 refine⟨I.ok,I.os,I.bare,⟨I.base.keep,I.base.slot,λb ob e n hx=>?_,I.base.there,λb xs q=>?_,λb ob v q=>?_,λb ps q=>?_⟩,I.loc,I.cell,?_,λx c e=>?_,λp hp=>?_,λb v e=>?_,I.len⟩
 .have q:=I.base.free b ob e n hx;rw[jd (zN q)];exact q
 .have q':=I.base.cn b xs q;rw[jd (ne q' λ_ _ z=>nomatch z)];exact q'
 .have hb:b≠a:=λz=>by
   subst z;exact h0 _ _ q
  rw[jd hb];exact I.base.dJ b ob v q
 .obtain⟨more,z⟩:=I.base.eI b ps q;exact⟨more,by rw[jd (ne z λ_ _ z=>nomatch z)];exact z⟩
 .rw[jd (zN I.free)];exact I.free
 .rw[jd (zN (I.dM x c e))];exact I.dM x c e
 .obtain⟨q1,q2,q3⟩:=I.pin p hp;exact⟨q1,by rw[jd (zN q2)];exact q2,q3⟩
 .have own:∀(c y:Addr),H c=some (.own y)->upd H a u c=some (.own y):=λc y q=>by
   rw[jd (ne q λ_ _ z=>nomatch z)];exact q
  have tup:∀(c:Addr)(xs:List V),H c=some (.tup xs)->upd H a u c=some (.tup xs):=λc xs q=>by rw[jd (ne q λ_ _ z=>nomatch z)];exact q
  by_cases hb:b=a
  .subst hb;rw[ja]at e;cases e;obtain⟨_,q⟩:=I.ag _ _ ha;exact q.cG (λ_ _ _ q=>q) (λc q=>own c _ q) tup
  .rw[jd hb]at e;exact(I.ag b v e).cG (λ_ _ _ q=>q) (λc q=>own c _ q) tup
noncomputable def T2 (H0:Hp)(t:TS):TS:=λD U H=>
 let un:(Hp->Prop)->Hp->Prop:=λQ H'=>∃a o u,H' a=some (.aE o u)/\(∀o' u',H0 a≠some (.aE o' u'))/\fw (some u)/\Q (upd H' a u)
 t {nx:=λ U' H'=>un (D.nx U') H',rt:=λv H'=>un (D.rt v) H',bk:=D.bk,ct:=D.ct} U H
theorem T3 {st:Stmt}{t:TS}(h:PS X st t):PS X st (T2 X.bK t):=by
 intro pins s U H D I q;refine aq (h pins s U H _ I q) λf s1 q1=>?_;cases f with
 |next=>obtain⟨U1,H1,I1,a,o,u,ha,h0,hm,q⟩:=q1;exact⟨U1,_,I1.DI ha h0 hm,q⟩
 |ret v=>obtain⟨x,U1,H1,I1,r,a,o,u,ha,h0,hm,q⟩:=q1;exact⟨x,U1,_,I1.DI ha h0 hm,r,q⟩
 |brk=>exact q1
 |cont=>exact q1
noncomputable def T4 (H0:Hp)(t:TE):TE:=λ U H Q=>t U H λv H'=>∃a o u,H' a=some (.aE o u)/\(∀o' u',H0 a≠some (.aE o' u'))/\fw (some u)/\Q v (upd H' a u)
theorem KA {e:Expr}{t:TE}(h:PE X e t):PE X e (T4 X.bK t):=by intro pins s U H Q I q;refine aq (h pins s U H _ I q) λv s1 zQ=>?_;obtain⟨x,H1,I1,r,a,o,u,ha,h0,hm,q⟩:=zQ;exact⟨x,_,I1.DI ha h0 hm,r,q⟩
end
theorem T5 {k:Key}{v:Value}(h:nB k v=true):RelV (kV k) v:=by
 rcases xw h with⟨i,t,rfl,rfl⟩|⟨x,t,rfl,rfl⟩
 .exact⟨t,rfl⟩
 .exact⟨t,rfl⟩
noncomputable def tQ (a:Addr)(o:Obj)(aa:List (Key×V)):It where
 go:=λi H=>i<aa.length/\H a=some (.aE o (.dK aa))
 dz:=λi H x H'=>H'=H/\∃kv,aa[i]?=some kv/\x=kV kv.1
 stop:=λi H=>aa.length<=i/\H a=some (.aE o (.dK aa))
theorem KC {aa:List (Key×V)}{vs:List (Key×Value)}:∀{i:Nat}{kv:Key×V},KV aa vs->aa[i]?=some kv->∃v,vs[i]?=some (kv.1,v)/\RelV kv.2 v:=by
 intro i kv r;unfold KV at r;induction r generalizing i with
 |nil=>intro e;simp at e
 |@cons p q ps qs h t ih=>
  intro e;cases i with
  |zero=>have e':=Option.some.inj e;subst e';exact⟨q.2,by rw[h.1];rfl,h.2⟩
  |succ i=>exact ih e
theorem T6 {P:Program}{w:World}{K:PySem.W.Frag}{tg:Expr}(a it:Addr)(o:Obj)(aa:List (Key×V))(es:Array DictEntry)(ep:Nat)(hd:o.data= .dict es ep):Turn P w K tg (tQ a o aa) [it] it (λi h=>h.IsKeyIter it a i aa.length ep) where
 mem:=by simp
 obj:=λi h st b hb=>by
  have e:b=it:=by simpa using hb
  subst e;obtain⟨o,e,c,d⟩:=st;exact⟨o,e,λv z=>by rw[d]at z;cases z⟩
 keep:=λi h h' st k=>st.at λo e=>k it (by simp) o e
 item:=by
  intro X hP hw hK hc i pins s U H E I hf st hg;subst hP hw hK;obtain⟨hi,hq⟩:=hg;obtain⟨ho,hz,hs,vs,r,o',fA,dN,aV,gX,aZ,r1,r2,r3⟩:=I.ag a _ hq;have eo:o'=o:=Option.some.inj (aV.symm.trans ho);subst eo;have ee:dN=ep:=by rw[hd]at aZ;cases aZ;rfl
  subst ee;have hlen:aa.length=vs.length:=Paired.length r;have hm:s.heap.DictAt (qh X.prog X.w) a vs dN:=⟨o',fA,ho,gX,aZ,r1,r2,r3⟩;obtain⟨kv,mK⟩:∃kv,aa[i]?=some kv:=⟨aa[i],by simp[hi]⟩;obtain⟨v,ev,rv⟩:=KC r mK;obtain⟨f0,f1,f2,f3,f4,f5⟩:=hf it (by simp);rw[hlen]at st;refine wpAny_pyNext_dict_item st hm ev λkey h' hk bF sb=>?_;have I1:Inv X pins U H {s with heap:=h'}:=I.turned (t':=s.toks) (λb o hb e=>(sb.2 b hb).trans e) f0 f1 f3 f4 f5;rw[<-hlen]at bF;obtain⟨oi,ei,ci,di⟩:=id bF;exact⟨key,rfl,nO (s:={s with heap:=h'}) ei ci di (by decide) ⟨kV kv.1,H,I1,T5 hk,⟨rfl,kv,mK,rfl⟩,bF,λb hb=>(hf b hb).1⟩⟩
 done:=by
  intro X hP hw hK hc i pins s U H E I hf st hg;subst hP hw hK;obtain⟨hi,hq⟩:=hg;obtain⟨ho,hz,hs,vs,r,o',fA,dN,aV,gX,aZ,r1,r2,r3⟩:=I.ag a _ hq;have eo:o'=o:=Option.some.inj (aV.symm.trans ho);subst eo;have ee:dN=ep:=by rw[hd]at aZ;cases aZ;rfl
  subst ee;have hlen:aa.length=vs.length:=Paired.length r;have hm:s.heap.DictAt (qh X.prog X.w) a vs dN:=⟨o',fA,ho,gX,aZ,r1,r2,r3⟩;obtain⟨f0,f1,f2,f3,f4,f5⟩:=hf it (by simp);rw[hlen]at st;exact wpAny_pyNext_dict_end (I.ok.hd hc) st hm (List.getElem?_eq_none_iff.mpr (by lia)) λh' eb=>⟨rfl,I.turned (t':=s.toks) (λb o hb e=>eb b o hb e) f0 f1 f3 f4 f5⟩
 self:=λ_ _ _ _ _ st h=>wpAny_pyIter_keyiter st h
noncomputable def T7 (tl:TE):TI:=λ U H R=>tl U H λx H1=>∃a aa,x= .ref a/\H1 a=some (.dK aa)/\∀o,R (tQ a o aa) (upd H1 a (.aE o (.dK aa)))
theorem T8 {X:Cx}{tg l:Expr}{tl:TE}(hl:PE X l tl):PI X tg l (T7 tl):=by
 intro pins s U H R I h;refine aq (hl pins s U H _ I h) λv s1 zQ=>?_;obtain⟨x,H1,I1,r1,q1⟩:=zQ;obtain⟨a,aa,e,hq,q⟩:=q1;subst e;cases r1;obtain⟨hz,hs,vs,r,o,es,ep,ho,hx,hd,r1,r2,r3⟩:=I1.ag a _ hq;have hlen:aa.length=vs.length:=Paired.length r;have hm:s1.heap.DictAt (qh X.prog X.w) a vs ep:=⟨o,es,ho,hx,hd,r1,r2,r3⟩;refine wpAny_pyIter_dict hs hm ?_;have I2:=I1.freeze (show fw (some (HO.dK aa))from True.intro) hq ho;have hn:upd H1 a (.aE o (.dK aa)) s1.heap.objs.size=none:=I2.ag.fresh (le_refl _);refine⟨s1.heap.objs.size,[s1.heap.objs.size],_,_,_,rfl,I2.kept (t':=s1.toks) λb o e=>Heap.get?_push_of_some _ e,T6 a _ o aa es ep hd,?_,λb hb=>?_,q o⟩
 .rw[hlen];exact⟨_,Heap.get?_push_size _ rfl,rfl,rfl⟩
 .have e:b=s1.heap.objs.size:=by simpa using hb
  subst e;exact I2.mq (le_refl _) hn
noncomputable def kG (v d:Addr):HO:=.ext λh=>h.IsValuesView v d
noncomputable def tR (a:Addr)(o:Obj)(aa:List (Key×V)):It where
 go:=λi H=>i<aa.length/\H a=some (.aE o (.dK aa))
 dz:=λi H x H'=>H'=H/\∃kv,aa[i]?=some kv/\x=kv.2
 stop:=λi H=>aa.length<=i/\H a=some (.aE o (.dK aa))
section
variable {X:Cx}
theorem T9:sZ X "dict.values" (λx xs H Q=>∃d aa,x= .ref d/\xs=[]/\H d=some (.dK aa)/\∀p,H p=none->Q (.ref p) (upd H p (kG p d))):=by intro pins s U H x xs v us Q I rx rs h;obtain⟨d,aa,rfl,rfl,hq,q⟩:=h;cases rx;cases rs;obtain⟨hz,hs,vs,r,hd⟩:=I.ag d _ hq;refine call_meetsIn PySem.F.slot_dict_values hd.typeIs PySem.F.entry_dict_values (PySem.F.args_dict_values_1 _) (meets_dict_values (qh X.prog X.w) d hs) ⟨⟨vs,hd⟩,?_⟩;refine⟨.ref s.heap.objs.size,_,I.laid (t':=s.toks) (o:=kG s.heap.objs.size d) (λb ob q=>Heap.get?_push_of_some _ q) (le_refl _) ?_,rfl,q _ I.fresh⟩;refine⟨⟨_,Heap.get?_push_size _ rfl,rfl,rfl⟩,⟨_,Heap.get?_push_size _ rfl⟩,λh1 h2 p k=>?_⟩;obtain⟨o,e,c,d⟩:=p;exact⟨o,k o e,c,d⟩
end
theorem Ua {P:Program}{w:World}{K:PySem.W.Frag}{tg:Expr}(a it:Addr)(o:Obj)(aa:List (Key×V))(es:Array DictEntry)(ep:Nat)(hd:o.data= .dict es ep):Turn P w K tg (tR a o aa) [it] it (λi h=>h.IsValIter it a i aa.length ep) where
 mem:=by simp
 obj:=λi h st b hb=>by
  have e:b=it:=by simpa using hb
  subst e;obtain⟨o,e,c,d⟩:=st;exact⟨o,e,λv z=>by rw[d]at z;cases z⟩
 keep:=λi h h' st k=>st.at λo e=>k it (by simp) o e
 item:=by
  intro X hP hw hK hc i pins s U H E I hf st hg;subst hP hw hK;obtain⟨hi,hq⟩:=hg;obtain⟨ho,hz,hs,vs,r,o',fA,dN,aV,gX,aZ,r1,r2,r3⟩:=I.ag a _ hq;have eo:o'=o:=Option.some.inj (aV.symm.trans ho);subst eo;have ee:dN=ep:=by rw[hd]at aZ;cases aZ;rfl
  subst ee;have hlen:aa.length=vs.length:=Paired.length r;have hm:s.heap.DictAt (qh X.prog X.w) a vs dN:=⟨o',fA,ho,gX,aZ,r1,r2,r3⟩;obtain⟨kv,mK⟩:∃kv,aa[i]?=some kv:=⟨aa[i],by simp[hi]⟩;obtain⟨v,ev,rv⟩:=KC r mK;obtain⟨f0,f1,f2,f3,f4,f5⟩:=hf it (by simp);rw[hlen]at st;refine wpAny_pyNext_values_item st hm ev λh' bF sb=>?_;have I1:Inv X pins U H {s with heap:=h'}:=I.turned (t':=s.toks) (λb o hb e=>(sb.2 b hb).trans e) f0 f1 f3 f4 f5;rw[<-hlen]at bF;obtain⟨oi,ei,ci,di⟩:=id bF;exact⟨v,rfl,nO (s:={s with heap:=h'}) ei ci di (by decide) ⟨kv.2,H,I1,rv,⟨rfl,kv,mK,rfl⟩,bF,λb hb=>(hf b hb).1⟩⟩
 done:=by
  intro X hP hw hK hc i pins s U H E I hf st hg;subst hP hw hK;obtain⟨hi,hq⟩:=hg;obtain⟨ho,hz,hs,vs,r,o',fA,dN,aV,gX,aZ,r1,r2,r3⟩:=I.ag a _ hq;have eo:o'=o:=Option.some.inj (aV.symm.trans ho);subst eo;have ee:dN=ep:=by rw[hd]at aZ;cases aZ;rfl
  subst ee;have hlen:aa.length=vs.length:=Paired.length r;have hm:s.heap.DictAt (qh X.prog X.w) a vs dN:=⟨o',fA,ho,gX,aZ,r1,r2,r3⟩;obtain⟨f0,f1,f2,f3,f4,f5⟩:=hf it (by simp);rw[hlen]at st;exact wpAny_pyNext_values_end (I.ok.hd hc) st hm (List.getElem?_eq_none_iff.mpr (by lia)) λh' eb=>⟨rfl,I.turned (t':=s.toks) (λb o hb e=>eb b o hb e) f0 f1 f3 f4 f5⟩
 self:=λ_ _ _ _ _ st h=>wpAny_pyIter_valiter st h
noncomputable def Ub (tl:TE):TI:=λ U H R=>tl U H λx H1=>∃v a aa,x= .ref v/\H1 v=some (kG v a)/\H1 a=some (.dK aa)/\∀o,R (tR a o aa) (upd H1 a (.aE o (.dK aa)))
theorem Uc {X:Cx}{tg l:Expr}{tl:TE}(hl:PE X l tl):PI X tg l (Ub tl):=by
 intro pins s U H R I h;refine aq (hl pins s U H _ I h) λv s1 zQ=>?_;obtain⟨x,H1,I1,r1,q1⟩:=zQ;obtain⟨v,a,aa,e,hv,hq,q⟩:=q1;subst e;cases r1;obtain⟨hz,hs,vs,r,o,es,ep,ho,hx,hd,r1,r2,r3⟩:=I1.ag a _ hq;have hlen:aa.length=vs.length:=Paired.length r;have hm:s1.heap.DictAt (qh X.prog X.w) a vs ep:=⟨o,es,ho,hx,hd,r1,r2,r3⟩;obtain⟨Ud,_,_⟩:=(show ym X.prog X.w H1 s1.heap v (kG v a)from I1.ag v _ hv);refine wpAny_pyIter_values Ud hm ?_;have I2:=I1.freeze (show fw (some (HO.dK aa))from True.intro) hq ho;have hn:upd H1 a (.aE o (.dK aa)) s1.heap.objs.size=none:=I2.ag.fresh (le_refl _);refine⟨s1.heap.objs.size,[s1.heap.objs.size],_,_,_,rfl,I2.kept (t':=s1.toks) λb o e=>Heap.get?_push_of_some _ e,Ua a _ o aa es ep hd,?_,λb hb=>?_,q o⟩
 .rw[hlen];exact⟨_,Heap.get?_push_size _ rfl,rfl,rfl⟩
 .have e:b=s1.heap.objs.size:=by simpa using hb
  subst e;exact I2.mq (le_refl _) hn
end L2
namespace bb
open PySem PyProof.Rows PySem.W
noncomputable def Wp (f:Nat->Nat->Bool)(n:Nat){α:Type}:KasT α->(α->Prop)->Prop
 | .ret a,R=>R a
 | .ask i j k,R=>i<n/\j<n/\i≠j/\Wp f n (k (f i j)) R
theorem Wp.mono {f:Nat->Nat->Bool}{n:Nat}{α:Type}{R R':α->Prop}(h:∀a,R a->R' a):∀{t:KasT α},Wp f n t R->Wp f n t R'
 | .ret a,q=>h a q
 | .ask _ _ _,⟨a,b,c,q⟩=>⟨a,b,c,Wp.mono h q⟩
theorem Wp.bind {f:Nat->Nat->Bool}{n:Nat}{α β:Type}{g:α->KasT β}{R:β->Prop}:∀{t:KasT α},Wp f n t (λa=>Wp f n (g a) R)->Wp f n (t.bind g) R
 | .ret _,q=>q
 | .ask _ _ _,⟨a,b,c,q⟩=>⟨a,b,c,Wp.bind q⟩
structure i4 (f:Nat->Nat->Bool)(n:Nat):Prop where
 aO:∀i j,i<n->j<n->i≠j->f i j=false->f j i=true
 KG:∀i j,i<n->j<n->f i j=true->f j i=false
 tr:∀i j k,i<n->j<n->k<n->f i j=true->f j k=true->f i k=true
noncomputable def P (n:Nat)(p:Array Nat):Prop:=p.toList.Perm (List.range n)
section
variable {n:Nat}{p:Array Nat}
theorem P.size (h:P n p):p.size=n:=by have:=h.length_eq;rw[List.length_range]at this;simpa using this
theorem getD_eq {k:Nat}(h:k<p.size):p.getD k 0=p[k]:=by simp[Array.getD,h]
theorem P.lt (h:P n p){k:Nat}(hk:k<n):p.getD k 0<n:=by have hs:=h.size;rw[getD_eq (by lia)];exact mem_range.mp (h.mem_iff.mp (by simp))
theorem P.inj (h:P n p){a b:Nat}(ha:a<n)(hb:b<n)(e:p.getD a 0=p.getD b 0):a=b:=by have hs:=h.size;rw[getD_eq (by lia),getD_eq (by lia)]at e;have nd:p.toList.Nodup:=h.nodup_iff.mpr List.nodup_range;exact(getElem_inj (h₀:=by simp;lia) (h₁:=by simp;lia) nd).mp (by simpa using e)
noncomputable def Up (f:Nat->Nat->Bool)(p:Array Nat)(m:Nat):Prop:=∀a b,a<b->b<m->f (p.getD a 0) (p.getD b 0)=true
noncomputable def Down (f:Nat->Nat->Bool)(p:Array Nat)(m:Nat):Prop:=∀a b,a<b->b<m->f (p.getD b 0) (p.getD a 0)=true
variable {f:Nat->Nat->Bool}
theorem Up.more (T:i4 f n)(hp:P n p){m:Nat}(h1:1<=m)(hm:m<n)(u:Up f p m)(h:f (p.getD (m-1) 0) (p.getD m 0)=true):Up f p (m+1):=by
 intro a b ab bm;by_cases e:b=m
 .subst e;by_cases e2:a=b-1
  .subst e2;exact h
  .exact T.tr _ _ _ (hp.lt (by lia)) (hp.lt (by lia)) (hp.lt hm) (u a (b-1) (by lia) (by lia)) h
 .exact u a b ab (by lia)
theorem Down.more (T:i4 f n)(hp:P n p){m:Nat}(h1:1<=m)(hm:m<n)(u:Down f p m)(h:f (p.getD m 0) (p.getD (m-1) 0)=true):Down f p (m+1):=by
 intro a b ab bm;by_cases e:b=m
 .subst e;by_cases e2:a=b-1
  .subst e2;exact h
  .exact T.tr _ _ _ (hp.lt hm) (hp.lt (by lia)) (hp.lt (by lia)) h (u a (b-1) (by lia) (by lia))
 .exact u a b ab (by lia)
theorem asc (T:i4 f n)(hp:P n p):∀(c m:Nat),1<=m->m+c<=n->Up f p m->Wp f n (kas_asc p c m) λr=>m<=r/\r<=m+c/\Up f p r/\(r<m+c->f (p.getD r 0) (p.getD (r-1) 0)=true)
 |0,m,_,_,u=>⟨le_refl _,le_refl _,u,λh=>absurd h (by lia)⟩
 |c+1,m,h1,hm,u=>by
  refine⟨hp.lt (by lia),hp.lt (by lia),λe=>?_,?_⟩
  .have:=hp.inj (by lia) (by lia) e;lia
  cases h:f (p.getD m 0) (p.getD (m-1) 0)with
  |true=>exact⟨le_refl _,by lia,u,λ_=>h⟩
  |false=>have u':=u.more T hp h1 (by lia) (T.aO _ _ (hp.lt (by lia)) (hp.lt (by lia)) (λe=>by have:=hp.inj (by lia) (by lia) e;lia) h);show Wp f n (kas_asc p c (m+1)) _;refine(asc T hp c (m+1) (by lia) (by lia) u').mono λr q=>?_;exact⟨by lia,by lia,q.2.2.1,λz=>q.2.2.2 (by lia)⟩
theorem desc (T:i4 f n)(hp:P n p):∀(c m:Nat),2<=m->m+c<=n->Down f p m->Wp f n (kas_desc c p m 0) λr=>r.1=p/\r.2.2=0/\m<=r.2.1/\r.2.1<=m+c/\Down f p r.2.1
 |0,m,_,_,u=>⟨rfl,rfl,le_refl _,le_refl _,u⟩
 | c+1,m,h1,hm,u=>by
  refine⟨hp.lt (by lia),hp.lt (by lia),λe=>?_,?_⟩
  .have:=hp.inj (by lia) (by lia) e;lia
  cases h:f (p.getD m 0) (p.getD (m-1) 0)with
  |true=>show Wp f n (kas_desc c p (m+1) 0) _;refine(desc T hp c (m+1) (by lia) (by lia) (u.more T hp (by lia) (by lia) h)).mono λr q=>?_;exact⟨q.1,q.2.1,by lia,by lia,q.2.2.2.2⟩
  |false=>
   have h':=T.aO _ _ (hp.lt (by lia)) (hp.lt (by lia)) (λe=>by have:=hp.inj (by lia) (by lia) e;lia) h;refine⟨hp.lt (by lia),hp.lt (by lia),λe=>?_,?_⟩
   .have:=hp.inj (by lia) (by lia) e;lia
   rw[h'];exact⟨rfl,rfl,le_refl _,le_add_right _ _,u⟩
theorem tS {q:Array Nat}{a b:Nat}(e:q[a]?=p[b]?):q.getD a 0=p.getD b 0:=by rw[Array.getD_eq_getD_getElem?,Array.getD_eq_getD_getElem?,e]
theorem KH (hp:P n p){m:Nat}(hm:m<=n)(k:Nat):(kas_rev p 0 m).getD k 0=if k<m then p.getD (m-1-k) 0 else p.getD k 0:=by
 have h:=getElem?_mirror_all (xs:=p) (i:=0) (j:=m) (by rw[hp.size];exact hm) k;by_cases hk:k<m
 .rw[if_pos hk];rw[if_pos ⟨zero_le _,hk⟩]at h;refine tS (h.trans ?_);congr 1;lia
 .rw[if_neg hk];rw[if_neg (by lia)]at h;exact tS h
theorem KI (hp:P n p)(m:Nat):P n (kas_rev p 0 m):=(Array.perm_iff_toList_perm.mp (mirror_perm p 0 m _)).trans hp
theorem Ue (hp:P n p){m:Nat}(hm:m<=n)(d:Down f p m):Up f (kas_rev p 0 m) m:=by intro a b ab bm;rw[KH hp hm,KH hp hm,if_pos (by lia),if_pos bm];exact d _ _ (by lia) (by lia)
theorem tail3 (T:i4 f n)(hp:P n p){m:Nat}(h1:1<=m)(hm:m<=n)(d:Down f p m):Wp f n (kas_tail3 m n p) λr=>1<=r.1/\r.1<=n/\P n r.2/\Up f r.2 r.1:=by refine Wp.bind ((asc T (KI hp m) (n-m) m h1 (by lia) (Ue hp hm d)).mono λr q=>?_);exact⟨by lia,by lia,KI hp m,q.2.2.1⟩
theorem count (T:i4 f n)(hp:P n p)(h1:1<=n):Wp f n (kas_count n p) λr=>1<=r.1/\r.1<=n/\P n r.2/\Up f r.2 r.1:=by
 refine Wp.bind ((asc T hp (n-1) 1 (le_refl _) (by lia) (λa b ab hb=>absurd hb (by lia))).mono λm q=>?_);obtain⟨q1,q2,q3,q4⟩:=q;by_cases e:m=n
 .rw[if_pos (by simp[e])];exact⟨q1,by lia,hp,q3⟩
 .rw[if_neg (by simp[e])];by_cases e2:m>1
  .rw[if_pos e2];refine⟨hp.lt (by lia),hp.lt (by lia),λz=>?_,?_⟩
   .have:=hp.inj (by lia) (by lia) z;lia
   rw[q3 0 (m-1) (by lia) (by lia)];exact⟨q1,by lia,hp,q3⟩
  .rw[if_neg e2];have e3:m=1:=by lia
   subst e3;have h:=q4 (by lia);have d2:Down f p 2:=λa b ab hb=>by
    have ea:a=0:=by lia
    have eb:b=1:=by lia
    subst ea eb;exact h
   refine Wp.bind ((desc T hp (n-2) 2 (le_refl _) (by lia) d2).mono λr q=>?_);obtain⟨r1,r2,r3,r4,r5⟩:=q;rw[if_neg (by lia),r1];exact tail3 T hp (by lia) (by lia) r5
theorem place (T:i4 f n)(hp:P n p){k:Nat}(hk:k<n)(u:Up f p k):∀(c l r:Nat),l<=r->r<=k->r-l<=c->(∀i,i<l->f (p.getD i 0) (p.getD k 0)=true)->(∀i,r<=i->i<k->f (p.getD k 0) (p.getD i 0)=true)->Wp f n (kas_place p k c l r) λq=>q<=k/\(∀i,i<q->f (p.getD i 0) (p.getD k 0)=true)/\(∀i,q<=i->i<k->f (p.getD k 0) (p.getD i 0)=true)
 |0,l,r,h1,h2,h3,h4,h5=>⟨by lia,h4,λi a b=>h5 i (by lia) b⟩
 | c+1,l,r,h1,h2,h3,h4,h5=>by
  show Wp f n (if l>=r then .ret l else _) _;by_cases e:l>=r
  .rw[if_pos e];exact⟨by lia,h4,λi a b=>h5 i (by lia) b⟩
  .rw[if_neg e];refine⟨hp.lt hk,hp.lt (by lia),λz=>?_,?_⟩
   .have:=hp.inj hk (by lia) z;lia
   cases h:f (p.getD k 0) (p.getD ((l+r) / 2) 0)with
   |true=>
    show Wp f n (kas_place p k c l ((l+r) / 2)) _;refine place T hp hk u c l _ (by lia) (by lia) (by lia) h4 λi a b=>?_;by_cases ei:i=(l+r) / 2
    .rw[ei];exact h
    .exact T.tr _ _ _ (hp.lt hk) (hp.lt (by lia)) (hp.lt (by lia)) h (u _ _ (by lia) b)
   |false=>
    have h':=T.aO _ _ (hp.lt hk) (hp.lt (by lia)) (λz=>by have:=hp.inj hk (by lia) z;lia) h;show Wp f n (kas_place p k c ((l+r) / 2+1) r) _;refine place T hp hk u c _ r (by lia) h2 (by lia) (λi a=>?_) h5;by_cases ei:i=(l+r) / 2
    .rw[ei];exact h'
    .exact T.tr _ _ _ (hp.lt (by lia)) (hp.lt (by lia)) (hp.lt hk) (u _ _ (by lia) (by lia)) h'
theorem KJ (hp:P n p){k l:Nat}(hk:k<n)(hl:l<=k)(i:Nat):(bubble p k (k-l)).getD i 0=if i=l then p.getD k 0 else if l<i/\i<=k then p.getD (i-1) 0 else p.getD i 0:=by
 have h:=getElem?_bubble (xs:=p) (src:=k) (by rw[hp.size];exact hk) (k-l) (by lia) i;rw[show k-(k-l)=l by lia]at h;by_cases e:i=l
 .rw[if_pos e]at h⊢;exact tS h
 .rw[if_neg e]at h⊢;by_cases e2:l<i/\i<=k
  .rw[if_pos e2]at h⊢;exact tS h
  .rw[if_neg e2]at h⊢;exact tS h
theorem Ug (hp:P n p){k l:Nat}(hk:k<n)(hl:l<=k)(u:Up f p k)(h1:∀i,i<l->f (p.getD i 0) (p.getD k 0)=true)(h2:∀i,l<=i->i<k->f (p.getD k 0) (p.getD i 0)=true):Up f (bubble p k (k-l)) (k+1):=by
 intro a b ab bm;rw[KJ hp hk hl,KJ hp hk hl];by_cases ea:a=l
 .rw[if_pos ea,if_neg (by lia),if_pos ⟨by lia,by lia⟩];exact h2 _ (by lia) (by lia)
 .rw[if_neg ea];by_cases eb:b=l
  .rw[if_neg (by lia),if_pos eb];exact h1 _ (by lia)
  .rw[if_neg eb];by_cases e1:l<a/\a<=k
   .rw[if_pos e1,if_pos ⟨by lia,by lia⟩];exact u _ _ (by lia) (by lia)
   .rw[if_neg e1];by_cases e2:l<b/\b<=k
    .rw[if_pos e2];exact u _ _ (by lia) (by lia)
    .rw[if_neg e2];exact u _ _ ab (by lia)
theorem Uh (hp:P n p)(k d:Nat):P n (bubble p k d):=(Array.perm_iff_toList_perm.mp (bubble_perm p k d)).trans hp
end
theorem bin {f:Nat->Nat->Bool}{n:Nat}(T:i4 f n):∀(c:Nat)(p:Array Nat)(k:Nat),P n p->k+c<=n->Up f p k->Wp f n (kas_bin c p k) λr=>P n r/\Up f r (k+c)
 |0,p,k,hp,_,u=>⟨hp,u⟩
 |c+1,p,k,hp,hk,u=>by refine Wp.bind ((place T hp (k:=k) (by lia) u k 0 k (zero_le _) (le_refl _) (by lia) (λi h=>absurd h (by lia)) (λi a b=>absurd b (by lia))).mono λl q=>?_);refine(bin T c _ (k+1) (Uh hp k _) (by lia) (Ug hp (by lia) q.1 u q.2.1 q.2.2)).mono λr q=>?_;rw[show k+1+c=k+(c+1)by lia]at q;exact q
theorem Ui (n:Nat):P n (List.toArray (List.range n)):=by unfold P;rw[List.toList_toArray]
theorem sort {f:Nat->Nat->Bool}{n:Nat}(T:i4 f n)(h1:1<=n):Wp f n (kas_sort n) λr=>P n r/\Up f r n:=by
 refine Wp.bind ((count T (Ui n) h1).mono λr q=>?_);obtain⟨q1,q2,q3,q4⟩:=q;by_cases e:r.1<n
 .rw[if_pos e];refine(bin T _ _ _ q3 (by lia) (by rw[show max r.1 1=r.1 by lia];exact q4)).mono λz q=>?_;rw[show max r.1 1+(n-max r.1 1)=n by lia]at q;exact q
 .rw[if_neg e];exact⟨q3,by rw[show n=r.1 by lia];exact q4⟩
end bb
namespace L2
open PySem PySem.Spec PyProof.Rows PySem.W
section
variable {prog:Program}{w:World}{A:Around}{E:Value->Shared->Prop}{s:Shared}
theorem KL {Q:Bool->Shared->Prop}:∀{vs us:List Value}{ns ms:List Int}(i:Nat),IntsAre vs ns->IntsAre us ms->Q (HT.lexLt ns ms) s->KatLex prog w A true (decide (ns.length<ms.length)) Q (vs.zip us) i s
 |[],[],[],[],_,_,_,q=>kat_nil (by simpa[HT.lexLt]using q)
 |[],_::_,[],_::_,_,_,_,q=>kat_nil (by simpa[HT.lexLt]using q)
 |_::_,[],_::_,[],_,_,_,q=>kat_nil (by simpa[HT.lexLt]using q)
 | _::vs,_::us,n::ns,m::ms,i,.cons _ t hv,.cons _ t' hu,q=>by
  rw[HT.sU]at q;refine kat_cons (wpAny_eqBool_int (kat_go (λe=>?_) λe=>?_))
  .have e':n=m:=by simpa using e
   rw[if_pos e']at q;refine kat_yes ?_;show KatLex prog w A true _ Q (vs.zip us) (i+1) s;have h:=KL (i+1) hv hu q;rw[show decide ((n::ns).length<(m::ms).length)=decide (ns.length<ms.length)by simp];exact h
  .have e':¬n=m:=by simpa using e
   rw[if_neg e']at q;refine kat_no ?_;cases i with
   |zero=>exact oneLt_int q
   |succ i=>exact kat_one _ _ (PyProof.Rows.lt_int q)
theorem Uj {a:Addr}{vs:List Value}{n:Nat}{R:PySem.Fin->Shared->Prop}{Good:Array Nat->Prop}(ho:s.heap.get? a=some (seqObj "list" vs.toArray n))(oN:vs.length<64)(ask:2<=vs.length->∀s':Shared,(∀b o,b≠a->s.heap.get? b=some o->s'.heap.get? b=some o)->wpAny (model prog w) A (keyKind' vs.toArray) (λ B s1=>s1=s'/\(kas_sort vs.length).kasWp (kas_ask prog w A B vs) (λp s2=>s2=s'/\Good p) s') (λ_ _=>False) s')(one:vs.length<2->R (.done (.ret .none)) {s with heap:=sortedHeap s.heap a vs vs.toArray})(more:∀p:Array Nat,p.size=vs.length->Good p->R (.done (.ret .none)) {s with heap:=sortedHeap s.heap a vs (List.toArray (p.toList.map λi=>vs.getD i Value.none))}):
  wpAny (model prog w) A (Builtin.«list.sort» ⟨[.ref a],[]⟩) R E s:=by
 have big:(64:Nat)<=sizeLine:=by decide
 obtain⟨e1,DJ⟩:∃e1,(s.heap.update a (Obj.mapSeq λ_=>#[])).get? a=some (seqObj "list" #[] e1):=⟨_,get?_update_seq ho (λ_=>#[])⟩;have la:a<(s.heap.update a (Obj.mapSeq λ_=>(#[]:Array Value))).objs.size:=Heap.lt_size DJ;have zO:=Heap.get?_push_of_some (seqObj "list" #[] 0) (Heap.get?_push_of_some (seqObj "tuple" vs.toArray 0) DJ);have old:∀b o,b≠a->s.heap.get? b=some o->(((s.heap.update a (Obj.mapSeq λ_=>#[])).push (seqObj "tuple" vs.toArray 0)).push (seqObj "list" #[] 0)).get? b=some o:=λb o hb e=>Heap.get?_push_of_some _ (Heap.get?_push_of_some _ ((Heap.get?_update_ne _ _ _ _ hb).trans e));rw[list_sort_plain];refine wpAny_bind (listItems_at ho rfl (wpAny_bind (listUpdate_at ho rfl (wpAny_bind (seqEpoch_at DJ rfl (wpAny_bind (wpAny_newTuple (wpAny_bind (wpAny_newList (wpAny_holding ?_) (zero_le _))) (by show vs.length<=_;lia))))) (by show vs.toArray.size<=_;simp;lia) (zero_le _))));by_cases h2:vs.length<2
 .have fJ:vs.toArray.size<2:=by simpa using h2
  have e:((vs.toArray.zip vs.toArray).map λx:Value×Value=>x.2)=vs.toArray:=by apply Array.toList_inj.mp;simp;exact List.map_snd_zip (le_refl _)
  dsimp only;rw[if_pos fJ,if_pos fJ];refine wpAny_bind (wpAny_pure ?_);rw[StateT.run_pure];refine wpAny_bind (wpAny_pure (wpAny_bind (seqEpoch_at zO rfl (wpAny_bind (listUpdate_at zO rfl ?_ (zero_le _) ?_)))))
  .simp only[bne_self_eq_false,Bool.false_eq_true,if_false];have q:=one h2;rw[<-e]at q;exact wpAny_pure q
  .show((vs.toArray.zip vs.toArray).map λx:Value×Value=>x.2).size<=_;rw[e];simp;lia
 .have fJ:¬vs.toArray.size<2:=by simpa using h2
  dsimp only;rw[if_neg fJ,if_neg fJ];refine wpAny_bind (wpAny_mono (ask (by lia) _ old) (λ B s1 hk=>?_) λ_ _ z=>z.elim);obtain⟨rfl,hk⟩:=hk;refine wpAny_bind (wpAny_mono (kat_run (ks:=vs) (vs:=vs) (Q:=λbF s2=>∃p:Array Nat,p.size=vs.length/\arrOf bF=p.map (kas_item (vs.toArray.zip vs.toArray))/\failedOf bF=none/\s2=_/\Good p) rfl (by lia) oN (λp bF s2 a1 a2 a3 a4=>⟨p,a1,a2,a3,a4⟩) hk) ?_ λ_ _ z=>z)
  rintro⟨⟨⟩,st⟩ s2 ⟨p,hp,Uk,hf,rfl,good⟩
  have e:=kat_snds (ks:=vs) (vs:=vs) rfl Uk;dsimp only;rw[e];refine wpAny_bind (seqEpoch_at zO rfl (wpAny_bind (listUpdate_at zO rfl ?_ (zero_le _) ?_)))
  .rw[hf];simp only[bne_self_eq_false,Bool.false_eq_true,if_false];exact wpAny_pure (more p hp good)
  .rw[size_toArray,length_map,Array.length_toList,hp];lia
theorem KN {l:Addr}{vs:List Value}{Q:Value->Shared->Prop}{Good:Array Nat->Prop}(hl:s.heap.IsList l vs.toArray)(oN:vs.length<64)(ask:2<=vs.length->∀s':Shared,(∀b o,s.heap.get? b=some o->s'.heap.get? b=some o)->wpAny (model prog w) A.in1.in1 (keyKind' vs.toArray) (λ B s1=>s1=s'/\(kas_sort vs.length).kasWp (kas_ask prog w A.in1.in1 B vs) (λp s2=>s2=s'/\Good p) s') (λ_ _=>False) s')(one:vs.length<2->Q (.ref (s.heap.objs.size+1)) {s with heap:=sortedAll s.heap vs vs.toArray})(more:∀p:Array Nat,p.size=vs.length->Good p->Q (.ref (s.heap.objs.size+1)) {s with heap:=sortedAll s.heap vs (List.toArray (p.toList.map λi=>vs.getD i Value.none))}):
  wpAny (model prog w) A (call (.builtin "sorted") [.ref l]) Q E s:=by
 have big:(64:Nat)<=sizeLine:=by decide
 have sz:((s.heap.push (seqObj "list" #[] 0)).update s.heap.objs.size (Obj.mapSeq (·++vs.toArray))).objs.size=s.heap.objs.size+1:=(Heap.size_update ..).trans (size_push' ..);have KO:(((s.heap.push (seqObj "list" #[] 0)).update s.heap.objs.size (Obj.mapSeq (·++vs.toArray))).push (seqObj "list" vs.toArray 0)).get? (s.heap.objs.size+1)=some (seqObj "list" vs.toArray 0):=sz ▸ Heap.get?_push_size _ rfl;have old:∀b o,s.heap.get? b=some o->(((s.heap.push (seqObj "list" #[] 0)).update s.heap.objs.size (Obj.mapSeq (·++vs.toArray))).push (seqObj "list" vs.toArray 0)).get? b=some o:=λb o e=>Heap.get?_push_of_some _ ((Heap.get?_update_ne _ _ _ _ (ne_of_lt (Heap.lt_size e))).trans (Heap.get?_push_of_some _ e));have body:=Uj (prog:=prog) (w:=w) (A:=A.in1.in1) (E:=E) (a:=s.heap.objs.size+1) (Good:=Good) (R:=λf s'=>f= .done (.ret .none)/\Q (.ref (s.heap.objs.size+1)) s') (s:={s with heap:=((s.heap.push (seqObj "list" #[] 0)).update s.heap.objs.size (Obj.mapSeq (·++vs.toArray))).push (seqObj "list" vs.toArray 0)}) KO oN (λh2 s' k=>ask h2 s' λb o e=>k b o (ne_of_lt (lt_succ_of_lt (Heap.lt_size e))) (old b o e)) (λh=>⟨rfl,one h⟩) (λp hp g=>⟨rfl,more p hp g⟩);refine Calls.call_function_entry kind_sorted plain_sorted entry_sorted (args_sorted1 _) ?_;show wpAny (model prog w) A.in1 (do checkCount "sorted" 1 1 _;_) _ _ s;refine wpAny_bind (m:=checkCount "sorted" 1 1 _) (wpAny_pure (wpAny_bind (collect_list hl (wpAny_bind (wpAny_newList ?_ (by lia))) (by lia))));show wpAny (model prog w) A.in1 _ _ E {s with heap:=((s.heap.push (seqObj "list" #[] 0)).update s.heap.objs.size (Obj.mapSeq (·++vs.toArray))).push (seqObj "list" vs.toArray 0)};rw[sz];exact wpAny_bind (wpAny_holding (wpAny_call_entry slot_list_sort ⟨_,KO,rfl⟩ entry_list_sort (wpAny_mono body (λf s' z=>⟨_,z.1,wpAny_pure ⟨_,rfl,z.2⟩⟩) λ_ _ z=>z) (args_list_sort _)))
end
theorem qZ:∀{a b:List Int},HT.lexLt a b=true->HT.lexLt b a=false
 |[],[],h=>by cases h
 |[],_::_,_=>rfl
 |_::_,[],h=>by cases h
 |x::a,y::b,h=>by
  rw[HT.sU]at h⊢;by_cases e:x=y
  .rw[if_pos e]at h;rw[if_pos e.symm];exact qZ h
  .rw[if_neg e]at h;rw[if_neg (λz=>e z.symm)];have:=of_decide_eq_true h;exact decide_eq_false (by lia)
theorem zP:∀{a b:List Int},a≠b->HT.lexLt a b=false->HT.lexLt b a=true
 |[],[],h,_=>absurd rfl h
 |[],_::_,_,h=>by cases h
 |_::_,[],_,_=>rfl
 |x::a,y::b,h,h'=>by
  rw[HT.sU]at h'⊢;by_cases e:x=y
  .subst e;rw[if_pos rfl]at h'⊢;exact zP (λz=>h (by rw[z])) h'
  .rw[if_neg e]at h';rw[if_neg (λz=>e z.symm)];have:=of_decide_eq_false h';exact decide_eq_true (by lia)
theorem zQ:∀{a b c:List Int},HT.lexLt a b=true->HT.lexLt b c=true->HT.lexLt a c=true
 |[],[],_,h,_=>by cases h
 |[],_::_,[],_,h=>by cases h
 |[],_::_,_::_,_,_=>rfl
 |_::_,[],_,h,_=>by cases h
 |_::_,_::_,[],_,h=>by cases h
 | x::a,y::b,z::c,h,h'=>by
  rw[HT.sU]at h h'⊢;by_cases e:x=y
  .subst e;rw[if_pos rfl]at h;by_cases e2:x=z
   .rw[if_pos e2]at h'⊢;exact zQ h h'
   .rw[if_neg e2]at h'⊢;exact h'
  .rw[if_neg e]at h;have h1:=of_decide_eq_true h;by_cases e2:y=z
   .subst e2;rw[if_neg e];exact h
   .rw[if_neg e2]at h';have h2:=of_decide_eq_true h';rw[if_neg (by lia)];exact decide_eq_true (by lia)
theorem wp_ask {f:Nat->Nat->Bool}{n:Nat}{s:Shared}{cmp:Nat->Nat->(Bool->Shared->Prop)->Shared->Prop}{α:Type}{R:α->Prop}(hc:∀i j C,i<n->j<n->C (f i j) s->cmp i j C s):∀{t:KasT α},bb.Wp f n t R->t.kasWp cmp (λp s2=>s2=s/\R p) s
 | .ret _,h=>⟨rfl,h⟩
 | .ask i j _,⟨a,b,_,h⟩=>hc i j _ a b (wp_ask hc h)
theorem range_getD {α:Type}(d:α)(l:List α):(List.range l.length).map (λi=>l.getD i d)=l:=by
 apply List.ext_getElem
 .simp
 .intro i h1 h2;simp[h2]
section
variable {X:Cx}{pins:List (Addr×Obj)}{U:St}{H:Hp}{s:Shared}
theorem rh {α β:Type}{F:α->β->Prop}{d:α}{e:β}:∀{xs:List α}{ys:List β}{i:Nat},Paired F xs ys->i<xs.length->F (xs.getD i d) (ys.getD i e)
 |_,_,_,.nil,h=>absurd h (Nat.not_lt_zero _)
 |_,_,0,.cons h _,_=>h
 |_,_,i+1,.cons _ r,h=>rh (i:=i) r (by simpa using h)
theorem tT {α β:Type}{F:α->β->Prop}{d:α}{e:β}{xs:List α}{ys:List β}(h:Paired F xs ys):∀{l:List Nat},(∀i∈l,i<xs.length)->Paired F (l.map λi=>xs.getD i d) (l.map λi=>ys.getD i e)
 |[],_=>.nil
 |i::l,q=>.cons (rh h (q i (by simp))) (tT h λj hj=>q j (by simp[hj]))
noncomputable def tU (K:PySem.W.Frag)(H:Hp)(vs:List V)(ts:List (List Int)):Prop:=Paired (λv t=>∃a,v= .ref a/\ax K H a (t.map V.int)) vs ts
theorem Ul:∀{h:Heap}{its:List Value}{ts:List (List Int)},Paired (λu t=>∃a xs,u=Value.ref a/\IsTup h a xs/\IntsAre xs.toList t) its ts->(∀t∈ts,t≠[])->∃fs,KatTups h its fs/\fs.length=its.length/\∀v∈fs,∃i k,v=Value.int i k:=λ{h its ts} q ne=>by
 induction q with
 |nil=>exact⟨[],KatTups.nil,rfl,λ_ z=>by cases z⟩
 | @cons _ t _ ts a r ih=>
  obtain⟨a,xs,e,⟨o,ho,hc,n,hd⟩,hi⟩:=a;subst e;obtain⟨fs,k,l,q⟩:=ih λz hz=>ne z (by simp[hz]);obtain⟨x,hx⟩:∃x r,xs.toList=x::r:=by
   cases tV:xs.toList with
   |nil=>rw[tV]at hi;cases hi;exact absurd rfl (ne [] (by simp))
   |cons x r=>exact⟨x,r,rfl⟩
  obtain⟨rr,hx⟩:=hx;have h0:xs[0]?=some x:=by rw[<-Array.getElem?_toList,hx];rfl
  rw[hx]at hi;refine⟨x::fs,KatTups.cons ho hc hd h0 k,by simp[l],λv hv=>?_⟩;rcases mem_cons.mp hv with rfl|hv
  .cases hi with|cons i k _=>exact⟨i,k,rfl⟩
  .exact q v hv
theorem KP {α β γ:Type}{F:α->β->Prop}{G:α->γ->Prop}{L:β->γ->Prop}(h:∀v u t,F v u->G v t->L u t):∀{vs:List α}{us:List β}{ts:List γ},Paired F vs us->Paired G vs ts->Paired L us ts:=λ{vs us ts} p q=>by
 induction p generalizing ts with
 |nil=>cases q;exact .nil
 |cons a r ih=>
  cases q with
  |cons b s=>exact .cons (h _ _ _ a b) (ih s)
theorem Um {ts:List (List Int)}(nd:ts.Nodup):bb.i4 (λi j=>HT.lexLt (ts.getD i []) (ts.getD j [])) ts.length where
 aO:=λi j hi hj ne h=>zP (λe=>ne (by rw[getD_eq_getElem?_getD,getD_eq_getElem?_getD,getElem?_eq_getElem hi,getElem?_eq_getElem hj]at e;exact(getElem_inj nd).mp e)) h
 KG:=λ_ _ _ _ h=>qZ h
 tr:=λ_ _ _ _ _ _ h1 h2=>zQ h1 h2
theorem DL:∀{vs:List Value}{ns:List Int},IntsAre vs ns->vs.length=ns.length
 |_,_,.nil=>rfl
 |_,_,.cons _ _ r=>by rw[length_cons,length_cons,DL r]
theorem Uo:dA X (.builtin "sorted") (λxs H Q=>∃(p:Addr)(vs:List V)(ts:List (List Int)),xs=[.ref p]/\ai X.K H p vs/\tU X.K H vs ts/\vs.length<64/\ts.Nodup/\(∀t∈ts,t≠[])/\∀(q:Addr)(bp:List V)(bW:List (List Int))(ix:List Nat),H q=none->ix.Perm (List.range vs.length)->bp=ix.map (λi=>vs.getD i .aj)->bW=ix.map (λi=>ts.getD i [])->bp.Perm vs->bW.Perm ts->tU X.K H bp bW->bW.Pairwise (λa b=>HT.lexLt a b=true)->Q (.ref q) (upd H q (.lst bp))):=by
 intro pins s U H xs us Q I r h;obtain⟨p,vs,ts,rfl,hq,ht,oN,nd,ne,q⟩:=h;obtain⟨u,rfl,rx⟩:=vals1 r;cases rx;obtain⟨its,r',pl,hz⟩:=I.list hq;have l1:vs.length=its.length:=r'.length;have l2:vs.length=ts.length:=Paired.length ht;have hn:H (s.heap.objs.size+1)=none:=I.ag.fresh (le_succ _);have end_:∀(out:List Value)(bp:List V)(bW:List (List Int))(ix:List Nat),ix.Perm (List.range vs.length)->bp=ix.map (λi=>vs.getD i .aj)->bW=ix.map (λi=>ts.getD i [])->Vals bp out->bp.Perm vs->bW.Perm ts->tU X.K H bp bW->bW.Pairwise (λa b=>HT.lexLt a b=true)->EP X pins U Q (.ref (s.heap.objs.size+1)) {s with heap:=sortedAll s.heap its out.toArray}:=λout bp bW ix b1 b2 b3 a1 a2 a3 a4 a5=>by
  obtain⟨e,he⟩:=sortedAll_at s.heap its out.toArray;refine⟨.ref (s.heap.objs.size+1),_,I.laid (a:=s.heap.objs.size+1) (o:=.lst bp) (t':=s.toks) (λb o z=>sortedAll_old z) (le_succ _) ⟨?_,out,e,a1,he⟩,rfl,q _ bp bW ix hn b1 b2 b3 a2 a3 a4 a5⟩;rw[a2.length_eq];exact hz
 have tt:Paired (λu t=>∃a xs,u=Value.ref a/\IsTup s.heap a xs/\IntsAre xs.toList t) its ts:=KP (λv u t hv hu=>by obtain⟨a,rfl,ha⟩:=hu;cases hv;obtain⟨ys,ry,hy,_⟩:=I.tuple ha;exact⟨a,ys.toArray,rfl,hy,intsAre_of ry⟩) r' ht;refine KN pl.isList (by lia) (Good:=λp=>bb.P its.length p/\bb.Up (λi j=>HT.lexLt (ts.getD i []) (ts.getD j [])) p its.length) (λh2 s' k=>?_) (λh=>?_) (λp hp g=>?_)
 .have oO:Paired (λu t=>∃a xs,u=Value.ref a/\IsTup s'.heap a xs/\IntsAre xs.toList t) its ts:=Paired.aQ tt λu t ⟨a,xs,e,⟨o,ho,hr⟩,hi⟩=>⟨a,xs,e,⟨o,k a o ho,hr⟩,hi⟩;obtain⟨fs,kt,lf,hf⟩:=Ul oO ne;refine kat_kind (T:=Value.type "int") kt (by lia) (λv hv=>?_) rfl ⟨rfl,?_⟩
  .obtain⟨i,t,rfl⟩:=hf v hv;exact .now
  have hs:=bb.sort (Um nd) (by lia);rw[<-l2,l1]at hs;refine wp_ask (λi j C hi hj c=>?_) hs;obtain⟨a,xs,ea,⟨o,ho,hc,n,hd⟩,ia⟩:=rh (d:=Value.none) (e:=[]) oO hi;obtain⟨b,ys,eb,⟨o',aV,qC,n',aZ⟩,ib⟩:=rh (d:=Value.none) (e:=[]) oO hj;unfold kas_ask;rw[ea,eb];have q:=KL (prog:=X.prog) (w:=X.w) (A:=X.A.in1.in1) 0 ia ib c;rw[<-DL ia,<-DL ib]at q;refine kat_lt ho hd aV aZ ?_;rw[show(Value.type "int" != Value.type "tuple")=true from rfl];simpa using q
 .refine end_ its vs ts (List.range vs.length) (List.Perm.refl _) (range_getD ..).symm (by rw[l2];exact(range_getD ..).symm) r' (List.Perm.refl _) (List.Perm.refl _) ht ?_
  match ts,l2 with
  |[],_=>exact .nil
  |[_],_=>exact List.pairwise_singleton _ _
  |_::_::_,e=>exact absurd e (by simp;lia)
 .obtain⟨g1,g2⟩:=g;have hm:∀i∈p.toList,i<vs.length:=λi hi=>by
   rw[l1];exact mem_range.mp (g1.mem_iff.mp hi)
  refine end_ _ (p.toList.map λi=>vs.getD i .aj) (p.toList.map λi=>ts.getD i []) p.toList (by rw[l1];exact g1) rfl rfl (tT r' hm) ?_ ?_ (tT ht hm) ?_
  .refine(g1.map _).trans ?_;rw[<-l1,range_getD]
  .refine(g1.map _).trans ?_;rw[<-l1,l2,range_getD]
  .rw[List.pairwise_map,List.pairwise_iff_getElem];intro i j hi hj ij;have DM:j<its.length:=by rw[Array.length_toList,hp]at hj;exact hj
   have:=g2 i j ij DM;rw[bb.getD_eq (by rw[hp];lia),bb.getD_eq (by rw[hp];lia)]at this;simpa using this
theorem Uq:dA X (.builtin "sorted") (λxs H Q=>∃(p:Addr)(vs:List V)(ts:List (List Int)),xs=[.ref p]/\ai X.K H p vs/\tU X.K H vs ts/\vs.length<64/\ts.Nodup/\(∀t∈ts,t≠[])/\∀(q:Addr)(bp:List V)(bW:List (List Int)),H q=none->bp.Perm vs->bW.Perm ts->tU X.K H bp bW->bW.Pairwise (λa b=>HT.lexLt a b=true)->Q (.ref q) (upd H q (.lst bp))):=by
 intro pins s U H xs us Q I r h;obtain⟨p,vs,ts,e,h1,h2,h3,h4,h5,q⟩:=h;exact Uo pins s U H xs us Q I r ⟨p,vs,ts,e,h1,h2,h3,h4,h5,λq' bp bW ix a _ _ _ b c d f=>q q' bp bW a b c d f⟩
end
end L2
namespace L2
open PySem PySem.Spec PyProof.Rows
noncomputable def lO (K:PySem.W.Frag)(H:Hp)(x:V)(ns:List Int):Prop:=∃a,x= .ref a/\ax K H a (ns.map V.int)
noncomputable def kH (K:PySem.W.Frag)(H:Hp)(n:List Int)(u:Value):Bool:=@decide (∃a,u= .ref a/\ax K H a (n.map V.int)) (Classical.propDecidable _)
theorem Ur {ns ms:List Int}(h:ns.map V.int=ms.map V.int):ns=ms:=by
 induction ns generalizing ms with
 |nil=>cases ms with
  |nil=>rfl
  |cons _ _=>cases h
 |cons n ns ih=>cases ms with
  |nil=>cases h
  |cons m ms=>rw[map_cons,map_cons]at h;injection h with h1 h2;injection h1 with h1;rw[h1,ih h2]
section
variable {X:Cx}{pins:List (Addr×Obj)}{U:St}{H:Hp}{s:Shared}
theorem DN (I:Inv X pins U H s){x:V}{u:Value}{ns n:List Int}(h:lO X.K H x ns)(r:RelV x u):kH X.K H n u=decide (ns=n):=by
 obtain⟨a,rfl,ha⟩:=h;cases r;unfold kH;by_cases e:ns=n
 .subst e;rw[decide_eq_true rfl];exact@decide_eq_true _ (Classical.propDecidable _) ⟨a,rfl,ha⟩
 .rw[decide_eq_false e];refine@decide_eq_false _ (Classical.propDecidable _) λzQ=>?_;obtain⟨b,z,hb⟩:=zQ;cases z;exact e (Ur (I.sI ha hb))
theorem KQ (I:Inv X pins U H s){A:Around}(hu:A.units+60<cLine){x:V}{v:Value}{n:List Int}(hx:lO X.K H x n)(rx:RelV x v):∀{xs:List V}{us:List Value}{cq:List (List Int)},Vals xs us->Paired (lO X.K H) xs cq->∀u∈us,SeqAt.EqAt A s u v (kH X.K H n u):=λ{xs us cq} p q=>by
 induction p generalizing cq with
 |nil=>exact λu hu=>by cases hu
 | @cons y w xs us r t ih=>
  cases q with
  |@cons _ m _ cq h hs=>
   intro u hm;rcases mem_cons.mp hm with rfl|hm
   .rw[DN I h r];obtain⟨a,rfl,ha⟩:=h;obtain⟨b,rfl,hb⟩:=hx;have q:=tI I 60 (.tup (m.map Dt.int)) (.tup (n.map Dt.int)) (.ref a) (.ref b) u v A (Tg _) hu (Kn ha) (Kn hb) r rx;rw[Te]at q;exact q
   .exact ih hs u hm
theorem Us (I:Inv X pins U H s){n:List Int}:∀{xs:List V}{us:List Value}{cq:List (List Int)},Vals xs us->Paired (lO X.K H) xs cq->us.any (kH X.K H n)=decide (n∈cq):=λ{xs us cq} p q=>by
 induction p generalizing cq with
 |nil=>cases q;simp
 | @cons y w xs us r t ih=>
  cases q with
  |@cons _ m _ cq h hs=>
   rw[any_cons,DN I h r,ih hs];by_cases e:m=n
   .subst e;simp
   .have e':¬n=m:=λz=>e z.symm;simp[e,e']
noncomputable def Ut (K:PySem.W.Frag)(neg:Bool):R2:=λx y H Q=>∃p xs n cq,y= .ref p/\ai K H p xs/\lO K H x n/\Paired (lO K H) xs cq/\Q (.bl (if neg then !decide (n∈cq)else decide (n∈cq))) H
end
section
variable {X:Cx}
theorem Uu (hu:X.A.units+64<cLine):bQ X (compareOp .In) (Ut X.K false):=by
 intro pins s U H x y v u Q I rx ry h;obtain⟨p,xs,n,cq,rfl,hq,hx,hs,q⟩:=h;cases ry;obtain⟨its,r,pl,hz⟩:=I.list hq;refine SeqAt.in_listAt (kH X.K H n) pl.isList (λw hw=>KQ I ?_ hx rx r hs w (by simpa using hw)) ⟨.bl _,H,I,rfl,?_⟩
 .first|(have e:X.A.in1.units=X.A.units+1:=rfl;lia)|(have e:X.A.in1.units=X.A.units:=rfl;lia)|(have e:=Around.units_in1 X.A;lia)
 .rw[show its.toArray.any (kH X.K H n)=its.any (kH X.K H n)by simp,Us I r hs];exact q
end
section
variable {X:Cx}{scope:Scope}{N':List Str}{ix:List (Option Nat)}{C:Addr}{fp:List Addr}{ae:Shared}{ah:Hp}{pins:List (Addr×Obj)}{U:St}
theorem Uv (I:Inv X pins U ah ae)(hf:∀b∈fp,eA X pins ah b){ps:List (Addr×Obj)}{U':St}{H':Hp}{s':Shared}(I':Inv (bo X scope N' C fp ae ah) ps U' H' s'):Inv X pins U H' s':=I.Cp (ch:=fp) I'.os I'.base I'.ag I'.bare λb hb=>by obtain⟨_,f1,_,f3,f4,f5⟩:=hf b hb;exact⟨f3,f1,f4,f5⟩
end
section
variable {X:Cx}{pins:List (Addr×Obj)}{U:St}{H:Hp}{s:Shared}{a:Addr}{y v:V}{u r:Value}{A:Around}{E:Value->Shared->Prop}
theorem Uw {H':Hp}{Q:Unit->Shared->Prop}(hu:A.units<cLine)(I:Inv X pins U H s)(g:iw H a y v H')(ry:RelV y u)(rv:RelV v r)(h:∀s',Inv X pins U H' s'->Q () s'):wpAny (model X.prog X.w) A (dictSet a u r) Q E s:=by
 rcases g with⟨aa,k,e,ey,l,eH⟩|⟨aa,k,b,e,ey,eb,l,eH⟩
 .subst ey eH;obtain⟨z,hd,vs,rel,dd⟩:=J3 I.ag e;have hz:vs.length<=sizeLine:=by rw[<-rel.length];exact z
  have hl:(putK aa k v).length<=sizeLine:=by have:=tF aa k v;lia
  refine wpAny_dictSet_pairs (hsz:=hz) (ou ry) dd λh' gS hs=>h _ ?_;have he:∃q,h'.get? a=some q:=let⟨q,_,_,hq,_⟩:=gS;⟨q,hq⟩;exact qQ I (by rw[e];exact True.intro) hs he (J4 hl hd (rel.put k rv) gS)
 .subst ey eH;cases(show u=Value.ref b from ry);obtain⟨z,hd,xs,rel,dd⟩:=C8 I.ag e;have hz:xs.length<=sizeLine:=by rw[<-Paired.length rel];exact z
  have hl:(putK aa k v).length<=sizeLine:=by have:=tF aa k v;lia
  refine wpAny_dictSet_heap (hsz:=hz) (knd:=tupleKind (qh X.prog X.w)) hu (kA I.ag eb) dd λh' gS hs=>h _ ?_;obtain⟨q,es,ep,hq,h2,h3,h4,_,h5⟩:=gS;refine qQ I (by rw[e];exact True.intro) hs ⟨q,hq⟩ ⟨hl,hd,_,(rel.put k eb rv).keeps λc ys ec=>?_,q,es,ep,hq,h2,h3,h4,h5⟩;rw[jd (ie ec e (λz=>nomatch z))];exact ec
end
section
variable {prog:Program}{w:World}{A:Around}{R:Result->Shared->Prop}{s:Shared}
theorem Ux {kx vx target iter:Expr}{ifs:List Expr}{scope:Scope}{pos:Pos}{it:Value}{D:Addr}{env:Env}(I:Nat->Shared->Prop)(turn:∀n s,I n s->wpAny (model prog w) A (pyNext it) (λr ar=>match r with
   |none=>R (.ok .next) ar
   |some v=>wpAny (model prog w) A (letOwnedTupleGo target it v) (λ_ ar=>wpAny (model prog w) A (assign target env v) (λ_ ae=>wpAny (model prog w) A (forIn ifs true λc r=>if r=true then do let ok<-isTrue c env (eval c env);pure (ForInStep.yield ok)else pure (ForInStep.yield r)) (λok aX=>if ok=true then wpAny (model prog w) A (eval kx env) (λkv dR=>wpAny (model prog w) A (eval vx env) (λvv iY=>wpAny (model prog w) A (dictSet D kv vv) (λ_ tW=>∃m,m<n/\I m tW) eB iY) eB dR) eB aX
      else ∃m,m<n/\I m aX) eB ae) eB ar) eB ar) eB s)(n:Nat)(h:I n s):codeAny (model prog w) A (.compLoop (.DictComp kx vx [⟨target,iter,ifs,0⟩] scope pos) 0 it (.ref D) env) R s:=by
 refine codeAny_loop rfl I (λn s hI=>?_) n h;have no:∀{α:Type}{t:Sem α}{Q:α->Shared->Prop}{E:Value->Shared->Prop}{s:Shared},wpAny (model prog w) A t Q eB s->wpAny (model prog w) A t Q E s:=λh=>wpAny_mono h (λ_ _ q=>q) λ_ _ z=>z.elim;show wpAny _ A ((compTurn (.DictComp kx vx [⟨target,iter,ifs,0⟩] scope pos) 0 it (.ref D) env).onRaise (λx=>do noteFrame x env;theTreesLotGoes x)) _ _ s;rw[compTurn_dict];refine wpAny_noted (wpAny_bind (wpAny_standAt (wpAny_bind (no (aq (turn n s hI) λr ar h₁=>?_)))));cases r with
 |none=>exact wpAny_pure h₁
 |some v=>
  refine wpAny_bind (no (aq h₁ λ_ ar h₁=>wpAny_bind (no (aq h₁ λ_ ae cM=>wpAny_bind (no (aq cM λok aX fE=>?_))))));cases ok with
  |false=>exact wpAny_pure ⟨rfl,fE⟩
  |true=>refine wpAny_bind (wpAny_bind (no (aq fE λkv dR cO=>wpAny_bind (wpAny_holding (no (aq cO λvv iY aY=>?_))))));exact wpAny_bind (wpAny_standAt (wpAny_holding (no (aq aY λ_ tW cP=>wpAny_pure ⟨rfl,cP⟩))))
end
section
variable {X:Cx}{scope:Scope}{N':List Str}{ix:List (Option Nat)}{C:Addr}{fp:List Addr}{ae:Shared}{ah:Hp}{pins:List (Addr×Obj)}{U:St}
theorem Uy (I:Inv X pins U ah ae)(co:lJ X.N X.env.scope scope N' ix){h₁:Heap}{t':Nat}(hC:@Eq Nat C ae.heap.objs.size)(hf:∀b∈fp,eA X pins ah b)(aD:∀b∈fp,b<ae.heap.objs.size)(old:∀b o,ae.heap.get? b=some o->h₁.get? b=some o){m:Str->Option Value}(ir:h₁.Ns C m):
  Inv (bo X scope N' C fp ae ah) [] (iy ix U) ah {ae with heap:=h₁,toks:=t'} where
 ok:=Ke I co (by lia) hf aD
 os:=rfl
 bare:=I.bare
 base:=Un.kept old
 loc :=by
  refine⟨m,ir,λi x v e1 e2 e3=>?_⟩;unfold iy at e2;rw[getElem?_map]at e2;cases q:ix[i]? with
  |none=>rw[q]at e2;cases e2
  | some o=>
   rw[q]at e2;cases o with
   |none=>cases e2
   | some k=>
    have gC:(U[k]?).join=some v:=Option.some.inj e2;have oz:U[k]?=some (some v):=by
     cases z:U[k]? with
     |none=>rw[z]at gC;cases gC
     |some o=>rw[z]at gC;exact congrArg some gC
    obtain⟨o1,o2,o3⟩:=co.out i x k e1 q;have hk:X.env.kindOf x=some .cell\/X.env.kindOf x=some .free:=co.frees _ o2 rfl;obtain⟨m0,_,hl⟩:=I.loc;obtain⟨u,r,l⟩:=hl k x v o1 oz (.inr hk);refine⟨u,r,?_⟩;rcases l with⟨l,_⟩|⟨_,c,ec,dy⟩
    .rcases hk with z|z
     .rw[z]at l;cases l
     .rw[z]at l;cases l
    .refine .inr ⟨?_,c,Df o2 ec,?_⟩
     .rcases e3 with z|z|z
      .obtain⟨k',hm,q⟩:=gd z;rcases q with q|⟨_,q⟩
       .have:=o3 _ hm rfl;rw[show k'=NameKind.local from q]at this;cases this
       .cases q
      .exact .inl z
      .exact .inr z
     .obtain⟨o,ho,hd⟩:=dy;exact⟨o,old _ _ ho,hd⟩
 cell:=λx c e=>by obtain⟨v,o,ho,hd⟩:=I.cell x c (iX e);exact⟨v,o,old _ _ ho,hd⟩
 free:=I.ag.fresh (by show@LE.le Nat _ ae.heap.objs.size C;lia)
 dM:=λx c e=>I.dM x c (iX e)
 pin:=λp hp=>by
  have lL:p∈([]:List (Addr×Obj)):=by simpa[bo]using hp
  cases lL
 ag:=I.ag.kept old
 len:=by unfold iy;rw[length_map];exact co.len
end
noncomputable def DO (J:It)(g:TG)(ti:TT)(tk tv:TE)(D:Addr)(QF:Hp->Prop)(W:Nat->Nat->St->Hp->Prop):Prop:=∀i m U H,W i m U H->(J.stop i H/\QF H)\/(J.go i H/\∃N:St->Hp->Prop,(∀U' H',N U' H'->∃m',m'<m/\W (i+1) m' U' H')/\∀x H',J.dz i H x H'->g x U H' λ U2 H2=>ti U2 H2 λb H3=>if b=true then tk U2 H3 λy H4=>tv U2 H4 λz H5=>∃H6,iw H5 D y z H6/\N U2 H6 else N U2 H3)
noncomputable def Uz (new:HO)(ix:List (Option Nat))(wi:TI)(g:TG)(ti:TT)(tk tv:TE):TE:=λ U H Q=>wi U H λJ H1=>∀D,H1 D=none->∃W:Nat->Nat->St->Hp->Prop,(∃m,W 0 m (iy ix U) (upd H1 D new))/\DO J g ti tk tv D (λH=>Q (.ref D) H) W
section
variable {X:Cx}
theorem UA {scope:Scope}{N':List Str}{ix:List (Option Nat)}{pins:List (Addr×Obj)}{U:St}{tg iter kx vx:Expr}{ifs:List Expr}{pos:Pos}{g:TG}{ti:TT}{tk tv:TE}{E:Value->Shared->Prop}{D:Addr}(co:lJ X.N X.env.scope scope N' ix)(hc:X.calm=true)(hu:X.A.units<cLine)(hg:∀C fp ae ah,PG (bo X scope N' C fp ae ah) tg g)(hi:∀C fp ae ah,qR (bo X scope N' C fp ae ah) ifs ti)(hk:∀C fp ae ah,PE (bo X scope N' C fp ae ah) kx tk)(hv:∀C fp ae ah,PE (bo X scope N' C fp ae ah) vx tv){ah:Hp}{ae:Shared}{J:It}{fp:List Addr}{it:Addr}{tn:Nat->Heap->Prop}{QF:Hp->Prop}{W:Nat->Nat->St->Hp->Prop}(I:Inv X pins U ah ae)(T:Turn X.prog X.w X.K tg J fp it tn)(st:tn 0 ae.heap)(hf:∀b∈fp,eA X pins ah b)(w0:∃m,W 0 m (iy ix U) ah)(hW:DO J g ti tk tv D QF W){RR:Addr->Result->Shared->Prop}(Dj:∀C H' s',Inv X pins U H' s'->QF H'->bZ X pins H' s' C->RR C (.ok .next) s'):
  wpAny (model X.prog X.w) X.A (newFunctionEnv scope X.env.globals (gT scope X.env) [] X.env.qual none .none (some X.env)) (λiZ dR=>codeAny (model X.prog X.w) X.A (.compStart (.DictComp kx vx [⟨tg,iter,ifs,0⟩] scope pos) 0 (.ref it) (.ref D) {iZ with scope:=relabel scope X.env}) (RR iZ.locals) dR) E ae:=by
 have aD:∀b∈fp,@LT.lt Nat _ b ae.heap.objs.size:=λb hb=>by obtain⟨o,e,_⟩:=T.obj _ _ st b hb;exact Heap.lt_size e
 refine wpAny_newFunctionEnv co.Dh (by intro y hy;simp at hy) (λh₁ bU bE=>?_) co.kind;have below:∀b:Nat,b<ae.heap.objs.size->¬@Eq Nat b ae.heap.objs.size:=λb hb=>by lia
 have old:∀b o,ae.heap.get? b=some o->h₁.get? b=some o:=λb o e=>bE.extBut b o (below b (Heap.lt_size e)) (Heap.get?_push_of_some _ e);have eP:tn 0 h₁:=T.keep _ _ _ st λb _ o e=>old b o e;generalize Dk:ae.heap.objs.size=C at bU bE below⊢;have loop:∀aX:Shared,aX={ae with heap:=h₁,toks:=ae.toks+([]:List (Str×Value)).length}->codeAny (model X.prog X.w) X.A (.compLoop (.DictComp kx vx [⟨tg,iter,ifs,0⟩] scope pos) 0 (.ref it) (.ref D) (compEnvC scope (gT scope X.env) C X.env)) (RR C) aX:=by
  rintro aX rfl
  obtain⟨m0,w0⟩:=w0;have I3:Inv (bo X scope N' C fp ae ah) [] (iy ix U) ah {ae with heap:=h₁,toks:=ae.toks+([]:List (Str×Value)).length}:=Uy I co Dk.symm hf aD old bU;refine Ux (λk s'=>∃i U' H',Inv (bo X scope N' C fp ae ah) [] U' H' s'/\tn i s'.heap/\(∀b∈fp,H' b=none)/\W i k U' H') ?_ m0 ⟨0,_,_,I3,eP,λb hb=>(hf b hb).1,w0⟩
  rintro k s' ⟨i,U',H',I',bF,oE,w'⟩
  have fF:∀{H':Hp},(∀b∈fp,H' b=none)->∀b∈fp,eA (bo X scope N' C fp ae ah) [] H' b:=λ{H'} hn b hb=>by
   refine⟨hn b hb,below b (Dk ▸ aD b hb),λz=>?_,.inl hb,λx c e=>(hf b hb).2.2.2.2.1 x c (iX e),λp hp=>?_⟩
   .rcases mem_cons.mp (I.nJ b z)with e|e
    .exact(hf b hb).2.1 e
    .exact(hf b hb).2.2.1 e
   .have lL:p∈([]:List (Addr×Obj)):=by simpa[bo]using hp
    cases lL
  rcases hW i k U' H' w' with⟨stop,q⟩|⟨go,N,hN,step⟩
  .refine aq (T.done (bo X scope N' C fp ae ah) rfl rfl rfl hc i _ s' U' H' eB I' (fF oE) bF stop) λr s4 ⟨hr,I4⟩=>?_;subst hr;have cf:H' C=none:=I4.free;refine Dj C H' s4 (Uv I hf I4) q ⟨?_,cf,?_,?_,λx c e=>?_,λp hp=>?_⟩
   .obtain⟨m,hn,_⟩:=I4.loc;exact⟨m,hn⟩
   .have z:@LT.lt Nat _ X.env.locals ae.heap.objs.size:=I.lt;show¬@Eq Nat C X.env.locals;lia
   .have z:@LE.le Nat _ X.au.heap.objs.size ae.heap.objs.size:=I.sz;show@LE.le Nat _ X.au.heap.objs.size C;lia
   .obtain⟨v,z⟩:=I.cell x c e;have z2:@LT.lt Nat _ c ae.heap.objs.size:=z.lt;show¬@Eq Nat c C;lia
   .have z2:@LT.lt Nat _ p.1 ae.heap.objs.size:=Heap.lt_size (I.pin p hp).1;show¬@Eq Nat p.1 C;lia
  .refine aq (T.item (bo X scope N' C fp ae ah) rfl rfl rfl hc i _ s' U' H' eB I' (fF oE) bF go) λr s4 zQ=>?_;obtain⟨u,hr,h4⟩:=zQ;subst hr;refine aq h4 λ_ s5 zQ=>?_;obtain⟨x,H5,I5,r5,y5,gO,sN⟩:=zQ;have sO:=I5.pinned (fF sN) (T.obj _ _ gO);refine aq (hg C fp ae ah _ s5 U' H5 x u _ sO r5 (step x H5 y5)) λ_ s6 zQ=>?_;obtain⟨U6,H6,I6,q6⟩:=zQ;refine aq (hi C fp ae ah _ s6 U6 H6 _ I6 q6) λok s7 zQ=>?_;obtain⟨H7,I7,q7⟩:=zQ;have back:∀{U8:St}{H8:Hp}{s8:Shared},Inv (bo X scope N' C fp ae ah) ([]++lC fp s5.heap) U8 H8 s8->N U8 H8->∃m',m'<k/\∃i U' H',Inv (bo X scope N' C fp ae ah) [] U' H' s8/\tn i s8.heap/\(∀b∈fp,H' b=none)/\W i m' U' H':=λ{U8 H8 s8} I8 n8=>by
    obtain⟨m',hm,w8⟩:=hN _ _ n8;have fG:∀b∈fp,∀o,s5.heap.get? b=some o->s8.heap.get? b=some o/\H8 b=none:=λb hb o e=>by have z:=I8.pin (b,o) (mem_append_right _ (mem_append_right _ (yO hb e)));exact⟨z.1,z.2.1⟩
    refine⟨m',hm,i+1,U8,H8,I8.sM,T.keep _ _ _ gO λb hb o e=>(fG b hb o e).1,λb hb=>?_,w8⟩;obtain⟨o,e,_⟩:=T.obj _ _ gO b hb;exact(fG b hb o e).2
   cases ok with
   |false=>have fH:=q7;rw[if_neg Bool.false_ne_true]at fH;exact back I7 fH
   |true=>have fH:=q7;rw[if_pos rfl]at fH;show wpAny _ _ _ _ _ _;refine aq (hk C fp ae ah _ s7 U6 H7 _ I7 fH) λkv s8 zQ=>?_;obtain⟨y,H8,I8,r8,q8⟩:=zQ;refine aq (hv C fp ae ah _ s8 U6 H8 _ I8 q8) λvv s9 zQ=>?_;obtain⟨z,H9,I9,r9,zR,dp,q9⟩:=zQ;exact Uw (X:=bo X scope N' C fp ae ah) (A:=X.A) hu I9 dp r8 r9 λbL gD=>back gD q9
 exact codeAny_compStart_dict (loop _ rfl) (T.self _ 0 _ _ _ eP (loop _ rfl))
variable {scope:Scope}{N':List Str}{ix:List (Option Nat)}{tg iter kx vx:Expr}{ifs:List Expr}{pos:Pos}{wi:TI}{g:TG}{ti:TT}{tk tv:TE}
theorem UB (new:HO)(oj:new= .dK []\/new= .dT [])(hu:X.A.units+1<cLine)(co:lJ X.N X.env.scope scope N' ix)(hc:X.calm=true)(hit:PI X tg iter wi)(hg:∀C fp ae ah,PG (bo X scope N' C fp ae ah) tg g)(hi:∀C fp ae ah,qR (bo X scope N' C fp ae ah) ifs ti)(hk:∀C fp ae ah,PE (bo X scope N' C fp ae ah) kx tk)(hv:∀C fp ae ah,PE (bo X scope N' C fp ae ah) vx tv)(hs:autoParam (∀x,foldedSetIterable iter X.env x=pure x) aP3):
  PE X (.DictComp kx vx [⟨tg,iter,ifs,0⟩] scope pos) (Uz new ix wi g ti tk tv):=by
 intro pins s U H Q I h;show wpAny _ _ (comprehension (.DictComp kx vx [⟨tg,iter,ifs,0⟩] scope pos) scope X.env _ newDict false (eval iter X.env)) _ _ s;refine wpAny_comprehension_free (use:=none) rfl hs (Ki co I) co.kind co.names (aq (hit pins s U H _ I h) λxv ar h₁=>aq h₁ λyN ae cM=>?_);obtain⟨it,fp,tn,J,ah,e,gU,T,st,hf,hq⟩:=cM;subst e;refine wpAny_newObj_type ?_;have hn:ah ae.heap.objs.size=none:=gU.ag.fresh (le_refl _);have UC:ym X.prog X.w (upd ah ae.heap.objs.size new) (ae.heap.push {cls:=.type "dict",dict:=none,data:=.dict #[]}) ae.heap.objs.size new:=by
  rcases oj with z|z
  .rw[z];exact SD ae.heap gU.big
  .rw[z];exact J9 ae.heap gU.big
 have DP:Inv X pins U (upd ah ae.heap.objs.size new) {ae with heap:=ae.heap.push {cls:=.type "dict",dict:=none,data:=.dict #[]}}:=gU.laid (a:=ae.heap.objs.size) (o:=new) (t':=ae.toks) (λ_ _ q=>Heap.get?_push_of_some _ q) (le_refl _) UC;obtain⟨W,w0,hW⟩:=hq ae.heap.objs.size hn;have oP:∀b∈fp,eA X pins (upd ah ae.heap.objs.size new) b:=λb hb=>by obtain⟨f0,f⟩:=hf b hb;obtain⟨o,e,_⟩:=T.obj _ _ st b hb;exact⟨by rw[jd (ne_of_lt (Heap.lt_size e))];exact f0,f⟩
 refine UA co hc (Nat.lt_of_succ_lt hu) hg hi hk hv DP T (T.keep _ _ _ st λb _ o e=>Heap.get?_push_of_some _ e) oP w0 hW (RR:=λC=>compPost (model X.prog X.w) X.A X.xe none (EP X pins U Q) (.ref ae.heap.objs.size) C) λC H' s' I' q G=>?_;obtain⟨m,hn⟩:=G.ns;exact⟨m,hn,λh' oF=>⟨.ref ae.heap.objs.size,_,G.go I' oF,rfl,q⟩⟩
end
section
variable {X:Cx}{pins:List (Addr×Obj)}{U:St}{H:Hp}{s:Shared}{h':Heap}
theorem Inv.UD {t':Nat}{ch:List Addr}{p:Addr}{o':HO}(I:Inv X pins U H s)(ef:∀b∈ch,eA X pins H b)(k:∀b o,b∉ch->s.heap.get? b=some o->h'.get? b=some o)(hp:s.heap.objs.size<=p)(new:ym X.prog X.w (upd H p o') h' p o'):Inv X pins U (upd H p o') {s with heap:=h',toks:=t'}:=by
 have neT:∀{b:Addr}{u:HO},H b=some u->b≠p:=λ{b u} e=>ne_of_lt (lt_of_lt_of_le (I.ag.lt e) hp);have gM:∀{b:Addr}{u:HO},H b=some u->b∉ch:=λ{b u} e z=>by rw[(ef b z).1]at e;cases e
 refine I.step (g':=s.gens) (d':=s.drawn) (ch:=ch) (λb hb=>?_) (λb o _ _ hc e _=>k b o hc e) (λb o _ _ hc e _=>⟨o.slots,k b o hc e⟩) (λb o _ e n=>?_) (λb o hc e=>⟨o,k b o hc e⟩) (λb xs e=>by rw[jd (neT e)];exact e) (λb o u e=>by rw[jd (neT e)];exact e) (λb ps e=>⟨#[],by rw[jd (neT e),e];simp⟩) (λm hm=>?_) (λb u e=>?_) I.bare
 .obtain⟨_,f1,_,f3,f4,f5⟩:=ef b hb;exact⟨f3,f1,f4,f5⟩
 .rw[jd (ne_of_lt (lt_of_lt_of_le (Heap.lt_size e) hp))];exact n
 .obtain⟨o,es,ep,ho,r⟩:=hm;exact⟨o,es,ep,k _ o (λz=>(ef _ z).2.1 rfl) ho,r⟩
 .by_cases hb:b=p
  .subst hb;rw[ja]at e;cases e;exact new
  .rw[jd hb]at e;refine(I.ag b u e).cG (λc v hc q=>k c v ?_ q) (λc q=>by rw[jd (neT q)];exact q) λc xs q=>by rw[jd (neT q)];exact q
   rcases hc with z|z
   .rw[z];exact gM e
   .exact gM z
end
theorem KR (bt:Nat->Nat->Bool):∀k,argBest bt k<=k
 |0=>le_refl _
 |k+1=>by have:=KR bt k;unfold argBest;split<;>lia
theorem KS:∀{vs:List Value}{ns:List Int},IntsAre vs ns->Vals (ns.map V.int) vs
 |_,_,.nil=>.nil
 |_,_,.cons n t r=>.cons ⟨t,rfl⟩ (KS r)
section
variable {X:Cx}
theorem UE:dA X (.builtin "sorted") (λxs H Q=>∃(p:Addr)(ns:List Int),xs=[.ref p]/\ai X.K H p (ns.map V.int)/\ns.length<64/\∀(q:Addr)(gQ:List Int),H q=none->gQ.Perm ns->gQ.Pairwise (·<=·)->Q (.ref q) (upd H q (.lst (gQ.map V.int)))):=by
 intro pins s U H xs us Q I r h;obtain⟨p,ns,rfl,hq,oN,q⟩:=h;obtain⟨u,rfl,rx⟩:=vals1 r;cases rx;obtain⟨its,r',pl,hz⟩:=I.list hq;have hlen:ns.length=its.length:=by have:=r'.length;rw[length_map]at this;exact this
 refine sorted_ints pl.isList (intsAre_of r') (by lia) λout gQ a1 a2 a3=>?_;obtain⟨e,he⟩:=sortedAll_at s.heap its out;have hn:H (s.heap.objs.size+1)=none:=I.ag.fresh (le_succ _);refine⟨.ref (s.heap.objs.size+1),_,I.laid (a:=s.heap.objs.size+1) (o:=.lst (gQ.map V.int)) (t':=s.toks) (λb o z=>sortedAll_old z) (le_succ _) ⟨?_,out.toList,e,KS a1,he⟩,rfl,q _ gQ hn a2 a3⟩;rw[length_map,a2.length_eq];exact le_trans (le_of_lt oN) (by rw[sizeLine_eq];lia)
end
section
variable {X:Cx}{K:PySem.W.Frag}
theorem UG {es:List Expr}{k:Nat}{pos:Pos}{t:mn}(hK:X.K=K)(hc:X.calm=true)(n:Nat)(h:sJ X es t)(hn:(assignEach es X.env).length=n)(fY:(assignEach es X.env).findIdx? (·.1)=none):PG X (.Tuple es k pos) (II K n t):=by subst hK;exact qF hc h hn fY
theorem UH (hK:X.K=K):yY X (JP K):=by subst hK;exact oa
end
end L2
namespace PySem
section
variable {prog:Program}{w:World}{K:Type}[DecidableEq K]{knd:HeapKind prog w K}{A:Around}{E:Value->Shared->Prop}{s:Shared}
theorem UI {h:Heap}{d a:Addr}{xs:List (K×Addr×Value)}{k:K}{v:Value}{o:Obj}{es:Array DictEntry}{ep:Nat}(ho:h.get? d=some o)(hc:o.ExactDict)(hd:o.data= .dict es ep)(he:es.toList=xs.map (entryOfKey knd))(zS:∀x∈xs,knd.is h x.1 x.2.1)(hn:(xs.map (·.1)).Nodup)(cp:knd.is h k a)(DQ:k∉xs.map (·.1)):(h.update d (Obj.mapDictKeys (·.push ⟨knd.hash k,.ref a,v⟩))).DictOfH knd d (xs++[(k,a,v)]):=by
 refine⟨_,_,ep+1,Heap.get?_update_self _ ho (Obj.isFreed_of_dict (Obj.data_mapDictKeys hd _)),hc.mapDictKeys _,Obj.data_mapDictKeys hd _,by simp[he,entryOfKey],λx hx=>?_,?_⟩
 .have old:knd.is h x.1 x.2.1:=(mem_append.mp hx).elim (zS x) λz=>by
   rw[mem_singleton.mp z];exact cp
  exact knd.keeps old ho hd (Heap.SameBut.update ..)
 .have p:((xs++[(k,a,v)]).map (·.1)).Perm (k::xs.map (·.1)):=by
   rw[map_append];exact List.perm_append_comm
  exact p.nodup_iff.mpr (nodup_cons.mpr ⟨DQ,hn⟩)
theorem UJ {d a:Addr}{xs:List (K×Addr×Value)}{k:K}{dflt:Value}{Q:Value->Shared->Prop}(hu:knd.room A)(cp:knd.is s.heap k a)(hm:s.heap.DictOfH knd d xs)(hsz:xs.length<=sizeLine)(h1:∀p,atKey xs k=some p->Q p.2 {s with toks:=s.toks+knd.draws k})(h2:atKey xs k=none->∀h',h'.DictOfH knd d (xs++[(k,a,dflt)])->Heap.SameBut d s.heap h'->Q dflt {s with heap:=h',toks:=s.toks+knd.draws k}):
  wpAny (model prog w) A (dictSetDefault d (.ref a) dflt) Q E s:=by
 obtain⟨o,es,ep,ho,hc,hd,he,zS,hn⟩:=hm;have sz:es.size=xs.length:=by have:=congrArg List.length he;simpa using this
 unfold dictSetDefault;refine wpAny_holding (wpAny_bind (knd.pyHash hu cp (wpAny_bind (wpAny_dictFind_heap (s:={s with toks:=s.toks+knd.draws k}) hu cp ho hd he zS hn (λlD=>?_) (λj p hj=>?_)))))
 .refine wpAny_bind (wpAny_rule (wpAny_bind (wpAny_updateDictKeys (hz:=by lia) (s:={s with toks:=s.toks+knd.draws k}) ho hd (wpAny_pure (h2 (atKey_none_of_get lD) _ (UI ho hc hd he zS hn cp (not_mem_keys_of_get lD)) (Heap.SameBut.update ..))))))
 .refine wpAny_bind (wpAny_dictEntries (s:={s with toks:=s.toks+knd.draws k}) ho hd ?_);rw[entry_at he j,hj];exact wpAny_bind (wpAny_rule (wpAny_pure (h1 _ (atKey_of_get hn hj))))
theorem KU (knd:HeapKind prog w K)(d a:Addr)(hd:(d==sysModules)=false)(dflt:Value):MeetsIn prog w (Builtin.«dict.setdefault» ⟨[.ref d,.ref a,dflt],[]⟩) (λA R s=>knd.room A.in1/\∃k xs,knd.is s.heap k a/\s.heap.DictOfH knd d xs/\xs.length<=sizeLine/\(∀p,atKey xs k=some p->R (.ok (.ret p.2)) {s with toks:=s.toks+knd.draws k})/\(atKey xs k=none->∀h',h'.DictOfH knd d (xs++[(k,a,dflt)])->Heap.SameBut d s.heap h'->R (.ok (.ret dflt)) {s with heap:=h',toks:=s.toks+knd.draws k})):=
 .of_wp λA R s ⟨hu,k,xs,cp,hm,hz,h1,h2⟩=>by have run:=UJ (prog:=prog) (w:=w) (E:=λe s'=>R (.error e) s') (Q:=λv s'=>R (.ok (.ret v)) s') hu cp hm hz h1 h2;unfold Builtin.«dict.setdefault» Builtin.Dict.keyAndDefault;refine wpAny_bind (wpAny_bind (wpAny_notOrdered_dict hm.typeIs ?_));show wpAny _ _ (pure (d,Value.ref a,some dflt)) _ _ s;refine wpAny_pure ?_;show wpAny _ _ (if(d==sysModules)=true then _ else(dictSetDefault d (.ref a) dflt >>= _)) _ _ s;rw[if_neg (by rw[hd];exact Bool.false_ne_true)];exact wpAny_bind (wpAny_mono run (λv s' q=>wpAny_pure ⟨v,rfl,q⟩) λ_ _ z=>z)
end
section
variable {prog:Program}{w:World}{A:Around}{E:Value->Shared->Prop}{s:Shared}
theorem KW {it d:Addr}{i ep:Nat}{es:Array DictEntry}{od:Obj}{Q:Option Value->Shared->Prop}(hit:s.heap.IsKeyIter it d i es.size ep)(lP:s.heap.get? d=some od)(dE:od.data= .dict es ep)(aD:i<es.size)(hQ:∀h',h'.IsKeyIter it d (i+1) es.size ep->Heap.SameBut it s.heap h'->Q (some es[i].key) {s with heap:=h'}):wpAny (model prog w) A (pyNext (.ref it)) Q E s:=by
 obtain⟨o,ho,hc,hd⟩:=id hit;have hT:=hit.typeIs;unfold pyNext;refine wpAny_bind (wpAny_attempt ?_);refine wpAny_callSpecial?_slot hT F.slot_dict_keyiterator_next ?_;refine wpAny_call_entry F.slot_dict_keyiterator_next hT F.entry_dict_keyiterator_next ?_ (F.args_dict_keyiterator_next_1 _);unfold Builtin.«dict_keyiterator.__next__»;wp_walk using wpAny_typeNameOfWhole_keyiter hT,wpAny_fieldsOf ho hd,wpAny_dictEntries lP dE,wpAny_dictEpoch lP dE,wpAny_isOneOf_keyiter hT;rw[if_neg (show¬(i:Int)<0 by lia),Int.toNat_natCast,Array.getElem?_eq_getElem aD];have UK:Builtin.Dict_items.ownsTuple "dict_keyiterator"=false:=by decide
 have tX:(s.heap.update it (Obj.mapFields (·.setIfInBounds 1 (rawInt ((i:Int)+1))))).IsKeyIter it d (i+1) es.size ep:=⟨_,Heap.get?_update_self _ ho (Obj.isFreed_of_fields (Obj.data_mapFields hd _)),(Obj.cls_mapFields ..).trans hc,by rw[Obj.data_mapFields hd];simp[rawInt]⟩;refine wpAny_bind ?_;wp_walk using wpAny_typeNameOfWhole_keyiter hT;rw[hd];show wpAny _ _ (update it (Obj.mapFields (·.setIfInBounds 1 (rawInt ((i:Int)+1))))) _ _ s;refine wpAny_update ho (wpAny_bind (wpAny_holding ?_));wp_walk using wpAny_isOneOf_keyiter (s:={s with heap:=s.heap.update it (Obj.mapFields (·.setIfInBounds 1 (rawInt ((i:Int)+1))))}) tX.typeIs;exact⟨_,rfl,wpAny_pure (hQ _ tX (Heap.SameBut.update ..))⟩
theorem KY {it d:Addr}{i ep:Nat}{es:Array DictEntry}{od:Obj}{Q:Option Value->Shared->Prop}(hh:A.handled=none)(hit:s.heap.IsKeyIter it d i es.size ep)(lP:s.heap.get? d=some od)(dE:od.data= .dict es ep)(UL:es.size<=i)(hQ:∀h',Heap.ExtBut it s.heap h'->Q none {s with heap:=h'}):wpAny (model prog w) A (pyNext (.ref it)) Q E s:=by
  obtain⟨o,ho,hc,hd⟩:=id hit;have hT:=hit.typeIs;unfold pyNext;refine wpAny_bind (wpAny_attempt ?_);refine wpAny_callSpecial?_slot hT F.slot_dict_keyiterator_next ?_;refine wpAny_call_entry F.slot_dict_keyiterator_next hT F.entry_dict_keyiterator_next ?_ (F.args_dict_keyiterator_next_1 _);unfold Builtin.«dict_keyiterator.__next__»;wp_walk using wpAny_typeNameOfWhole_keyiter hT,wpAny_fieldsOf ho hd,wpAny_dictEntries lP dE,wpAny_dictEpoch lP dE,wpAny_isOneOf_keyiter hT;rw[if_neg (show¬(i:Int)<0 by lia),Int.toNat_natCast,Array.getElem?_eq_none UL];wp_walk using wpAny_typeNameOfWhole_keyiter hT;rw[hd];show wpAny _ _ (update it (Obj.mapFields (·.setIfInBounds 0 .none))) _ _ s;refine wpAny_update ho ?_;unfold newExc raiseNew newTuple firstArgMember;wp_walk using wpAny_newObj_type;all_goals first
    | (show wpAny _ _ (isSubtype (.type "StopIteration") (.type "StopIteration")) _ _ _
       rw[isSubtype_stop];exact wpAny_pure (wpAny_pure (hQ _ (((Heap.SameBut.update ..).extBut.push _).push _))))
    |(unfold autoParam;size_fits)
    |size_fits
theorem KZ {d:Addr}{es:Array DictEntry}{ep:Nat}{od:Obj}{Q:Value->Shared->Prop}(hd:(d==sysModules)=false)(lP:s.heap.get? d=some od)(hx:od.ExactDict)(dE:od.data= .dict es ep)(hQ:Q (.ref s.heap.objs.size) {s with heap:=s.heap.push {cls:=.type "dict_keyiterator",data:=.fields #[.ref d,.int 0 0,.int es.size 0,.int ep 0]}}):wpAny (model prog w) A (pyIter (.ref d)) Q E s:=by
 have hT:s.TypeIs (.ref d) "dict":=⟨od,lP,hx.1⟩;have run:wpAny (model prog w) A.in1 (Builtin.«dict.__iter__» ⟨[.ref d],[]⟩) (λfin s'=>fin= .done (.ret (.ref s.heap.objs.size))/\s'={s with heap:=s.heap.push {cls:=.type "dict_keyiterator",data:=.fields #[.ref d,.int 0 0,.int es.size 0,.int ep 0]}}) E s:=by unfold Builtin.«dict.__iter__» Builtin.Dict.dictSlotNone Builtin.Dict.showsAll;wp_walk using wpAny_notOrdered_dict hT,wpAny_dictEntries lP dE,wpAny_dictEpoch lP dE;exact⟨rfl,rfl⟩
 refine wpAny_pyIter_slot hT F.slot_dict_iter (wpAny_call_entry F.slot_dict_iter hT F.entry_dict_iter (wpAny_mono run (λf s' z=>?_) λ_ _ z=>z) (F.args_dict_iter_1 _));obtain⟨rfl,rfl⟩:=z;exact⟨_,rfl,"dict_keyiterator",_,⟨_,Heap.get?_push_size _ rfl,rfl⟩,F.slot_dict_keyiterator_next.lookup,hQ⟩
end
end PySem
namespace L2
open PySem PySem.Spec PyProof.Rows
noncomputable def tY (a:Addr)(o:Obj)(aa:List (List Key×V)):It where
 go:=λi H=>i<aa.length/\H a=some (.aE o (.dT aa))
 dz:=λi H x H'=>H'=H/\∃kv b,aa[i]?=some kv/\x= .ref b/\H b=some (.tup (kv.1.map kV))
 stop:=λi H=>aa.length<=i/\H a=some (.aE o (.dT aa))
theorem qx {α β:Type}{F:α->β->Prop}:∀{xs:List α}{ys:List β}{i:Nat}{x:α},Paired F xs ys->xs[i]?=some x->∃y,ys[i]?=some y/\F x y:=λ{xs ys i x} q e=>by
 induction q generalizing i with
 |nil=>simp at e
 |cons h _ ih=>
  cases i with
  |zero=>cases Option.some.inj e;exact⟨_,rfl,h⟩
  |succ i=>exact ih (i:=i) e
theorem UM {P:Program}{w:World}{K:PySem.W.Frag}{tg:Expr}(a it:Addr)(o:Obj)(aa:List (List Key×V))(es:Array DictEntry)(ep:Nat)(hd:o.data= .dict es ep):Turn P w K tg (tY a o aa) [it] it (λi h=>h.IsKeyIter it a i aa.length ep) where
 mem:=by simp
 obj:=λi h st b hb=>by
  have e:b=it:=by simpa using hb
  subst e;obtain⟨o,e,c,d⟩:=st;exact⟨o,e,λv z=>by rw[d]at z;cases z⟩
 keep:=λi h h' st k=>st.at λo e=>k it (by simp) o e
 item:=by
  intro X hP hw hK hc i pins s U H E I hf st hg;subst hP hw hK;obtain⟨hi,hq⟩:=hg;obtain⟨ho,hz,hs,xs,r,o',fA,dN,aV,gX,aZ,he,nd⟩:=I.ag a _ hq;cases Option.some.inj (aV.symm.trans ho);rw[hd]at aZ;cases aZ;have hsz:es.size=aa.length:=by have e1:=congrArg List.length he;rw[length_map,<-Paired.length r]at e1;simpa using e1
  obtain⟨kv,mK⟩:∃kv,aa[i]?=some kv:=⟨aa[i],by simp[hi]⟩;obtain⟨x,ex,e1,e2,e3⟩:=qx r mK;have aD:i<es.size:=by lia
  have cp:es[i].key= .ref x.2.1:=by
   have h1:es.toList[i]?=some es[i]:=by simp[aD]
   rw[he,getElem?_map,ex]at h1;rw[<-Option.some.inj h1];rfl
  obtain⟨f0,f1,f2,f3,f4,f5⟩:=hf it (by simp);rw[<-hsz]at st;refine KW st ho hd aD λh' bF sb=>?_;have I1:Inv X pins U H {s with heap:=h'}:=I.turned (t':=s.toks) (λb o hb e=>(sb.2 b hb).trans e) f0 f1 f3 f4 f5;rw[hsz]at bF;rw[cp];obtain⟨oi,ei,ci,di⟩:=id bF;exact⟨_,rfl,nO (s:={s with heap:=h'}) ei ci di (by decide) ⟨.ref x.2.1,H,I1,rfl,⟨rfl,kv,x.2.1,mK,rfl,by rw[e1];rw[e1]at e2;exact e2⟩,bF,λb hb=>(hf b hb).1⟩⟩
 done:=by
  intro X hP hw hK hc i pins s U H E I hf st hg;subst hP hw hK;obtain⟨hi,hq⟩:=hg;obtain⟨ho,hz,hs,xs,r,o',fA,dN,aV,gX,aZ,he,nd⟩:=I.ag a _ hq;cases Option.some.inj (aV.symm.trans ho);rw[hd]at aZ;cases aZ;have hsz:es.size=aa.length:=by have e1:=congrArg List.length he;rw[length_map,<-Paired.length r]at e1;simpa using e1
  obtain⟨f0,f1,f2,f3,f4,f5⟩:=hf it (by simp);rw[<-hsz]at st;exact KY (I.ok.hd hc) st ho hd (by lia) λh' eb=>⟨rfl,I.turned (t':=s.toks) (λb o hb e=>eb b o hb e) f0 f1 f3 f4 f5⟩
 self:=λ_ _ _ _ _ st h=>wpAny_pyIter_keyiter st h
section
variable {X:Cx}
theorem UN:dA X (.builtin "isinstance") (λxs H Q=>∃x q,xs=[.ref x,.ref q]/\H q=some (.tup [.ty "list",.ty "tuple"])/\((∃ys,ai X.K H x ys)\/∃ys,ax X.K H x ys)/\Q (.bl true) H):=by
 intro pins s U H xs us Q I r h;obtain⟨x,q,rfl,hq,hx,k⟩:=h;obtain⟨u,w,rfl,r1,r2⟩:=vals2 r;cases r1;cases r2;obtain⟨ts,rt,ht,_⟩:=I.tuple (ax.of hq);obtain⟨a,b,rfl,ra,rb⟩:=vals2 rt;obtain rfl:a=Value.type "list":=ra;obtain rfl:b=Value.type "tuple":=rb;obtain⟨⟨c,dd,dt,sl⟩,ho,hc,n,hd⟩:=ht;simp only at hc hd;subst hc hd;have fin:∀tk,EP X pins U Q (.bool true) {s with toks:=tk}:=λtk=>⟨.bl true,H,I.tok tk,rfl,k⟩;rcases hx with⟨ys,hy⟩|⟨ys,hy⟩
 .obtain⟨its,_,pl,_⟩:=I.list hy;obtain⟨o,qN,mz,_⟩:=pl.isList;exact PySem.W.kia_tup (its:=[.type "list",.type "tuple"]) PySem.W.kitx_list I.aU ⟨o,qN,mz⟩ ho rfl (λz=>nomatch z) fin
 .obtain⟨its,_,⟨o,qN,mz,_⟩,_⟩:=I.tuple hy;exact PySem.W.kia_tup (its:=[.type "list",.type "tuple"]) PySem.W.kitx_tuple I.aU ⟨o,qN,mz⟩ ho rfl (λz=>nomatch z) fin
noncomputable def K0 (a b:TI):TI:=λ U H R=>a U H R\/b U H R
theorem UO {tg l:Expr}{a b:TI}(h1:PI X tg l a)(h2:PI X tg l b):PI X tg l (K0 a b):=by
 intro pins s U H R I h;rcases h with h|h
 .exact h1 pins s U H R I h
 .exact h2 pins s U H R I h
theorem UP {tg l:Expr}{tl:TE}(hl:PE X l tl):PI X tg l (K0 (IV X.K tl) (IW X.K tl)):=UO (gN hl) (IY hl)
end
section
variable {X:Cx}{CX:eK}{k:Nat}{C f:Addr}{fd:FuncData}{ps ks:List Str}{sp:Sp}{E:XK}{g:List Value->List Value->List Value}{gV:List V->List V->List V}{x:Str}{p pos:Pos}{e:Expr}{es:List Expr}{fg:List Keyword}{t tk:TA}
theorem UQ {pins:List (Addr×Obj)}{U:St}{H:Hp}{s:Shared}{Q:VK}{us ws:List Value}{vs zs:List V}(M:Mk X.K C f)(F:zi X.prog X.w X.K X.mg X.base CX k f fd ps sp)(hr:ba (k+1) X.A)(hb:gP X.K fd ps ks g gV)(hx:Passes CX X E)(I:Inv X pins U H s)(r:Vals vs us)(rz:Vals zs ws)(h:∀x dx,H x=none->H dx=none->dx≠x->sp (gV (.ref x::vs) zs) (upd (upd H dx (.own x)) x (.ins C dx [])) (λv H2=>v= .aj/\Q (.ref x) H2) E):
  wpAny (model X.prog X.w) X.A (call (.ref C) us (ks.zip ws)) (EP X pins U Q) X.xe s:=by
 have hq:=h (s.heap.objs.size+1) s.heap.objs.size (I.ag.fresh (le_succ _)) (I.ag.fresh (le_refl _)) (ne_of_lt (lt_succ_self _));have I2:=Inv.made (C:=C) I;have r2:=hb.rel (Paired.cons (show RelV (V.ref (s.heap.objs.size+1)) (Value.ref (s.heap.objs.size+1))from rfl) r) rz;have hl:(g (Value.ref (s.heap.objs.size+1)::us) ws).length=ps.length:=by rw[<-Paired.length r2];exact F.len _ _ _ _ hq
 refine wpAny_call (Jq (f:=f) I.aU M.makes M.init (beq_iff_eq.mp M.fn) (codeAny_mono (F.run _ X.stack _ _ ⟨Value.ref (s.heap.objs.size+1)::us,ks.zip ws⟩ _ _ _ E (hr.make C us (ks.zip ws)) (I2.qJ.make C us (ks.zip ws)) (hb.to _ _ _ I2.aU hl) r2 hq) λr s' dO=>?_));cases r with
 |error e=>exact hx pins U _ _ e s' I2 dO
 |ok fl=>
  cases fl with
  |ret u=>obtain⟨v,H',I3,rv,ev,q3⟩:=I2.after dO;subst ev;exact⟨rv,⟨V.ref (s.heap.objs.size+1),H',I3,rfl,q3⟩⟩
  |next=>exact False.elim dO
  |brk=>exact False.elim dO
  |cont=>exact False.elim dO
noncomputable def UR (C:Addr)(sp:Sp)(gV:List V->List V->List V)(E:XK)(t tk:TA):TE:=λ U H Q=>t U H λvs H1=>tk U H1 λzs H2=>∀x dx,H2 x=none->H2 dx=none->dx≠x->sp (gV (.ref x::vs) zs) (upd (upd H2 dx (.own x)) x (.ins C dx [])) (λv H3=>v= .aj/\Q (.ref x) H3) E
theorem US (M:Mk X.K C f)(F:zi X.prog X.w X.K X.mg X.base CX k f fd ps sp)(hr:ba (k+1) X.A)(hg:Gl X x)(hm:X.mg x=some (.ref C))(hb:gP X.K fd ps ks g gV)(hx:Passes CX X E)(ha:PA X (e::es) t)(n6:PK X fg tk)(iU:autoParam ((backToKw pos (keywordEach fg X.env)).all (·.1.isSome)=true) aP1)(CM:autoParam ((backToKw pos (keywordEach fg X.env)).filterMap (·.1)=ks) aP1)(cy:autoParam ((x==("__debug__":Str))=false) aP2)(he:autoParam (starEach (e::es) X.env=(false,eval e X.env)::starEach es X.env) aP1)(cu:autoParam (((backTo pos (starEach (e::es) X.env)).any (·.1)||(backToKw pos (keywordEach fg X.env)).any (·.1.isNone))=false) aP1):
  PE X (.Call (.Name x p) (e::es) fg pos) (UR C sp gV E t tk):=by
 intro pins s U H Q I h;refine wpAny_Call_Name_kw (lq I hg hm ?_ cy);refine PySem.W.callWith_KW (h₀:=X.base) I.ok.mod.iP M.kp iU (aq (ha pos pins s U H _ I h) λus s1 zQ=>?_) cu he;obtain⟨vs,H1,I1,r,q⟩:=zQ;refine aq (n6 pos pins s1 U H1 _ I1 q) λws s2 ⟨zs,H2,I2,rz,q2⟩=>⟨I2.aU,?_⟩;rw[CM];exact UQ M F hr hb hx I2 r rz q2
end
section
variable {X:Cx}{K:PySem.W.Frag}
theorem UT (hK:X.K=K):bQ X (compareOp .NotIn) (CT K true):=by subst hK;exact JS
end
noncomputable def DK {α:Type}:Sem α->Prop
 | .pure _=>True
 | .raise _=>True
 | .unsupported _=>True
 | .finish _=>True
 | .rule _ k=>DK (k ())
 | .at _ k=>DK (k ())
 | .load _ _ k=>∀o,DK (k o)
 | .update _ _ f k=>(∀o:Obj,(f o).dict=o.dict/\(o.isFreed=false->(f o).isFreed=false))/\DK (k ())
 | .loadIfAlive _ k=>∀o,DK (k o)
 | .point _ k=>DK (k ())
 | .register _ _=>True
 | .alloc _ k=>∀a,DK (k a)
 | .fresh k=>∀t,DK (k t)
 | .ask k=>∀x,DK (k x)
 | .handled _ k=>∀x,DK (k x)
 | .stack k=>∀x,DK (k x)
 |_=>False
theorem UU {α β:Type}{f:α->Sem β}(hf:∀a,DK (f a))(m:Sem α)(h:DK m):DK (m.bind f):=by
 induction m with
 |pure a=>exact hf a
 |raise _=>exact True.intro
 |unsupported _=>exact True.intro
 |finish _=>exact True.intro
 |rule _ k ih=>exact ih () h
 |«at» _ k ih=>exact ih () h
 |load _ _ k ih=>exact λo=>ih o (h o)
 |update _ _ _ k ih=>exact⟨h.1,ih () h.2⟩
 |loadIfAlive _ k ih=>exact λo=>ih o (h o)
 |point _ k ih=>exact ih () h
 |register _ _ _=>exact True.intro
 |alloc _ k ih=>exact λa=>ih a (h a)
 |fresh k ih=>exact λa=>ih a (h a)
 |ask k ih=>exact λa=>ih a (h a)
 |handled _ k ih=>exact λa=>ih a (h a)
 |stack k ih=>exact λa=>ih a (h a)
 |choose _ _ _ _=>exact False.elim h
 |os _ _ _ _=>exact False.elim h
 |call _ _ _ _ _ _=>exact False.elim h
 |newGen _ _ _=>exact False.elim h
 |genState _ _ _=>exact False.elim h
 |resume _ _ _ _ _=>exact False.elim h
 |yield _ _ _ _ _=>exact False.elim h
 |fork _ _ _=>exact False.elim h
 |thread _ _=>exact False.elim h
 |await _ _ _ _ _ _=>exact False.elim h
theorem zf {α β:Type}{m:Sem α}{f:α->Sem β}(hm:DK m)(hf:∀a,DK (f a)):DK (m >>= f):=UU hf m hm
theorem DR {a:Addr}:DK (load a):=λ_=>True.intro
theorem UW {o:Obj}:DK (alloc o):=λ_=>True.intro
theorem DS:DK stack:=λ_=>True.intro
theorem K1 {a:Addr}{f:Obj->Obj}(h:∀o:Obj,(f o).dict=o.dict/\(o.isFreed=false->(f o).isFreed=false)):DK (update a f):=⟨h,True.intro⟩
noncomputable def KD (h h':Heap):Prop:=∀b o,h.get? b=some o->∃o',h'.get? b=some o'/\o'.dict=o.dict
theorem KD.refl (h:Heap):KD h h:=λ_ o e=>⟨o,e,rfl⟩
theorem KD.trans {a b c:Heap}(x:KD a b)(y:KD b c):KD a c:=λi o e=>by obtain⟨o1,e1,d1⟩:=x i o e;obtain⟨o2,e2,d2⟩:=y i o1 e1;exact⟨o2,e2,d2.trans d1⟩
theorem KD.push (h:Heap)(o:Obj):KD h (h.push o):=λ_ o' e=>⟨o',Heap.get?_push_of_some o e,rfl⟩
theorem KD.update {h:Heap}{a:Addr}{f:Obj->Obj}(hf:∀o:Obj,(f o).dict=o.dict/\(o.isFreed=false->(f o).isFreed=false)):KD h (h.update a f):=λb o e=>by
 by_cases z:a=b
 .subst z;exact⟨f o,Heap.get?_update_self f e ((hf o).2 (Heap.get?_some_iff.mp e).2),(hf o).1⟩
 .exact⟨o,by rw[Heap.get?_update_other h f z];exact e,rfl⟩
theorem UX {α:Type}{M:Model}{Γ:PySem.Ctx}{Q:α->Pos->Shared->Prop}{E:Value->Pos->Shared->Prop}(t:Sem α)(p:Pos)(s:Shared)(d:DK t)(h:Sem.wp M Γ t Q E p s):Sem.wp M Γ t (λa p' s'=>Q a p' s'/\KD s.heap s'.heap) (λe p' s'=>E e p' s'/\KD s.heap s'.heap) p s:=by
 induction t generalizing p s with
 |pure a=>rw[Sem.wp]at h⊢;exact⟨h,KD.refl _⟩
 |raise _=>rw[Sem.wp]at h⊢;exact⟨h,KD.refl _⟩
 |unsupported _=>rw[Sem.wp]at h;exact h.elim
 |finish _=>rw[Sem.wp]at h;exact h.elim
 |rule _ k ih=>rw[Sem.wp]at h⊢;exact ih () p s d h
 |«at» p' k ih=>rw[Sem.wp]at h⊢;exact ih () p' s d h
 |load a x k ih=>rw[Sem.wp]at h⊢;obtain⟨o,e,h⟩:=h;exact⟨o,e,ih o p s (d o) h⟩
 |update a x f k ih=>rw[Sem.wp]at h⊢;obtain⟨e,h⟩:=h;exact⟨e,Sem.wp_mono M Γ (k ()) (λ_ _ s' q=>⟨q.1,(KD.update d.1).trans q.2⟩) (λ_ _ s' q=>⟨q.1,(KD.update d.1).trans q.2⟩) p _ (ih () p _ d.2 h)⟩
 |loadIfAlive a k ih=>rw[Sem.wp]at h⊢;exact ih _ p s (d _) h
 |point _ k ih=>rw[Sem.wp]at h⊢;exact ih () p s d h
 |register _ _ _=>rw[Sem.wp]at h;exact h.elim
 |alloc o k ih=>rw[Sem.wp]at h⊢;exact Sem.wp_mono M Γ (k s.heap.objs.size) (λ_ _ s' q=>⟨q.1,(KD.push _ o).trans q.2⟩) (λ_ _ s' q=>⟨q.1,(KD.push _ o).trans q.2⟩) p _ (ih _ p _ (d _) h)
 |fresh k ih=>rw[Sem.wp]at h⊢;exact ih _ p _ (d _) h
 |ask k ih=>rw[Sem.wp]at h⊢;exact ih _ p s (d _) h
 |handled own k ih=>rw[Sem.wp]at h⊢;exact ih _ p s (d _) h
 |stack k ih=>rw[Sem.wp]at h⊢;exact ih _ p s (d _) h
 |choose _ _ _ _=>exact False.elim d
 |os _ _ _ _=>exact False.elim d
 |call _ _ _ _ _ _=>exact False.elim d
 |newGen _ _ _=>exact False.elim d
 |genState _ _ _=>exact False.elim d
 |resume _ _ _ _ _=>exact False.elim d
 |yield _ _ _ _ _=>exact False.elim d
 |fork _ _ _=>exact False.elim d
 |thread _ _=>exact False.elim d
 |await _ _ _ _ _ _=>exact False.elim d
theorem tZ {α:Type}{M:Model}{A:Around}{t:Sem α}{Q:α->Shared->Prop}{E:Value->Shared->Prop}{s:Shared}(d:DK t)(h:wpAny M A t Q E s):wpAny M A t (λa s'=>Q a s'/\KD s.heap s'.heap) (λe s'=>E e s'/\KD s.heap s'.heap) s:=λΓ p UY=>UX t p s d (h Γ p UY)
theorem UZ {v:Value}:DK (fieldsOf v):=by
 unfold fieldsOf;split
 .refine zf DR λo=>?_;split<;>exact True.intro
 .exact True.intro
theorem zT {v:Value}{i:Nat}:DK (field v i):=by unfold field;refine zf UZ λvs=>?_;split<;>exact True.intro
theorem U4 (f:Array Value->Array Value)(o:Obj):(Obj.mapFields f o).dict=o.dict/\(o.isFreed=false->(Obj.mapFields f o).isFreed=false):=by obtain⟨c,d,dt,sl⟩:=o;cases dt<;>exact⟨rfl,λh=>h⟩
theorem DT {v x:Value}{i:Nat}:DK (setField v i x):=by
 unfold setField;split
 .unfold updateField;refine zf DR λo=>?_;split
  .split
   .exact K1 (U4 _)
   .exact True.intro
  .exact True.intro
 .exact True.intro
theorem DU {e:Value}{f:Option Addr}:DK (setFlight e f):=by
 unfold setFlight;refine zf zT λtb=>?_;split
 .exact DT
 .exact True.intro
theorem K3:∀l:List Env,DK (readyFrames l)
 |[]=>True.intro
 | env::outer=>by
  unfold readyFrames;split
  .refine zf DR λo=>?_;split
   .exact True.intro
   .refine zf ?_ λim=>zf ?_ λback=>zf (K1 λo=>⟨rfl,λh=>?_⟩) λ_=>K3 outer
    .unfold behindIsImport;split
     .exact True.intro
     .split
      .exact True.intro
      .exact zf zT λ_=>True.intro
    .unfold keptBack;split
     .split
      .exact True.intro
      .refine zf ?_ λ_=>True.intro;unfold underTheClaimsCaller;exact zf DS λ_=>True.intro
     .exact True.intro
    .obtain⟨c,d,dt,sl⟩:=o;cases dt<;>exact h
  .exact True.intro
theorem U5 {env:Env}:DK (PySem.frameOf env):=by
 unfold PySem.frameOf;refine zf (zf DS λ_=>True.intro) λes=>zf ?_ λr=>?_
 .cases es.dropWhile (·.frame != env.frame)with
  |nil=>exact True.intro
  |cons e r=>unfold frameObject;exact zf (K3 _) λ_=>True.intro
 .split<;>exact True.intro
theorem Va {ty:String}{vs:List Value}:DK (newFields ty vs):=by
 unfold newFields newObj;dsimp only;have rest:DK (newObjAsIs (Value.type ty) (Data.fields vs.toArray)):=by unfold newObjAsIs;exact zf UW λ_=>True.intro
 split
 .exact zf True.intro λ_=>rest
 .exact rest
theorem Vb {f:Addr}{b:Bool}:DK (entryPlaceOf f b):=by unfold entryPlaceOf;refine zf DS λVc=>?_;split<;>exact True.intro
theorem K4 {e:Value}{env:Env}:DK (noteFrame e env):=by
 unfold noteFrame;split
 .have rest:∀{head:Value}{f:Addr},DK (do setField e 1 (<-EntryCells.newEntry head (<-PySem.frameOf env) .none (rawInt f) .none (<-entryPlaceOf f (head != .none)))):=λ{head f}=>zf U5 λa=>zf Vb λpl=>zf Va λb=>DT;refine zf zT λhead=>?_;split
  .refine zf zT λx=>?_;split
   .exact True.intro
   .exact zf DT λ_=>rest
  .exact rest
 .exact True.intro
theorem K5 {env:Env}{e:Value}:DK (leaving env e):=zf K4 λ_=>DU
end L2
namespace PySem
section
variable {prog:Program}{w:World}{A:Around}{E:Value->Shared->Prop}{h:Heap}{g:Array GenState}{d:Drawn}{t:Nat}{os:OsState}
variable {nm q:Str}{C N:Addr}{bs bm oH:List Value}{hdct:Bool}{sn:List Str}{sub:List Value}{ab:Bool}{col:Option Bool}{dd:Option Addr}{k0 k1 k2 k3 k5:Option Value}{Bq newId i5:String}
theorem Vd (F:ExcBaseFacts Bq newId i5 oH)(T:OwnTail h oH bm){rest:List Value}{fI:Addr}{oI:Obj}{Q:Fin->Shared->Prop}(hC:h.get? C=some (excClassObj nm q C N bs bm hdct sn sub ab col dd k0 k1 k2 k3 k5 newId))(L:PySem.W.Looks (model prog w) h (typeLookup (.ref C) "__init__") (some (.ref fI)))(DV:h.get? fI=some oI)(DW:oI.cls= .type "function")(eL:rest.length<=sizeLine)(hq:∀h' e,Heap.MadeExcOf h h' e (.ref C) rest->wpAny (model prog w) A (call (.ref fI) (.ref e::rest)) (λr s'=>r= .none/\Q (.done (.ret (.ref e))) s') E ⟨h',g,d,t,os⟩):
  wpAny (model prog w) A (Builtin.«type.__call__» ⟨.ref C::rest,[]⟩) Q E ⟨h,g,d,t,os⟩:=by
 repeat(first|with_reducible refine wpAny_loadPart_at hC ?_|with_reducible refine wpAny_madeBy_exc hC ?_|wp_step)
 refine codeAny_call_builtin_code (Code.quiet_builtin _ F.quiet) (wpAny_check_new_subT F T hC (codeAny_exc_new_subT F T hC ?_ eL));show wpAny _ _ _ _ _ _;have hk:∀b o,h.get? b=some o->((h.push {cls:=.type "tuple",data:=.seq rest.toArray}).push {cls:=.ref C,data:=.fields #[.ref h.objs.size,.none,.none,.none,.bool false,.none]}).get? b=some o:=λb o e=>Heap.get?_push_of_some _ (Heap.get?_push_of_some _ e);have uA:((h.push {cls:=.type "tuple",data:=.seq rest.toArray}).push {cls:=.ref C,data:=.fields #[.ref h.objs.size,.none,.none,.none,.bool false,.none]}).get? (h.objs.size+1)=some {cls:=.ref C,data:=.fields #[.ref h.objs.size,.none,.none,.none,.bool false,.none]}:=by heap_get
 have hm:Heap.MadeExcOf h ((h.push {cls:=.type "tuple",data:=.seq rest.toArray}).push {cls:=.ref C,data:=.fields #[.ref h.objs.size,.none,.none,.none,.bool false,.none]}) (h.objs.size+1) (.ref C) rest:=⟨hk,Heap.get?_none_of_le (le_succ _),h.objs.size,uA,Heap.get?_none_of_le (le_refl _),Heap.get?_push_of_some _ (Heap.get?_push_at rfl rfl)⟩;have dO:=hq _ _ hm;have rj:=hk _ _ hC;have DX:=hk _ _ DV;have Ve:(Value.ref C::bm).contains (.ref C)=true:=by simp
 unfold isInstance;repeat(first|with_reducible refine wpAny_loadPart_at uA ?_|(with_reducible refine wpAny_isSubtype_exc rj ?_;rw[Ve])|wp_step)
 show wpAny _ _ (typeLookup (.ref C) _) _ _ _;refine L _ _ _ _ hk (wpAny_holding (wpAny_bind ?_));unfold bindSpecial;refine wpAny_bind (wpAny_typeOf (T:="function") ⟨_,DX,DW⟩ ?_);rw[if_pos (by decide)];refine wpAny_pure (wpAny_bind (wpAny_mono dO (λr s' hr=>?_) λ_ _ x=>x));obtain⟨rfl,hQ⟩:=hr;wp_walk;exact hQ
theorem Vf (F:ExcBaseFacts Bq newId i5 oH)(T:OwnTail h oH bm){rest:List Value}{fI:Addr}{oI:Obj}{Q:Value->Shared->Prop}(hC:h.get? C=some (excClassObj nm q C N bs bm hdct sn sub ab col dd k0 k1 k2 k3 k5 newId))(L:PySem.W.Looks (model prog w) h (typeLookup (.ref C) "__init__") (some (.ref fI)))(DV:h.get? fI=some oI)(DW:oI.cls= .type "function")(eL:rest.length<=sizeLine)(hq:∀h' e,Heap.MadeExcOf h h' e (.ref C) rest->wpAny (model prog w) (A.under (.builtin "type.__call__" ⟨.ref C::rest,[]⟩)) (call (.ref fI) (.ref e::rest)) (λr s'=>r= .none/\Q (.ref e) s') E ⟨h',g,d,t,os⟩):
  wpAny (model prog w) A (call (.ref C) rest) Q E ⟨h,g,d,t,os⟩:=by
 have f1:=tc_lookup;have f2:=tc_bind (.ref C);have hT:(⟨h,g,d,t,os⟩:Shared).TypeIs (.ref C) "type":=⟨_,hC,rfl⟩;refine wpAny_call (codeAny_of_tree ?_);show wpAny _ _ (callAny (.ref C) _) _ _ _;repeat(any_goals (first|assumption|with_reducible refine wpAny_loadPart_at hC ?_|wp_step))
 refine⟨rfl,?_⟩;exact codeAny_call_builtin_at (Code.quiet_builtin _ (by decide+kernel)) entry_typeCall (wpAny_check_type_call_sub hC (Vd F T hC L DV DW eL λh' e hm=>hq h' e hm))
theorem Vg {s:Shared}{env:Env}{x:Sem Value}{Q:Flow->Shared->Prop}(eN:bm.contains (.type "BaseException")=true)(hh:A.handled=none)(hx:wpAny (model prog w) A x (λv s1=>∃e oe t,v= .ref e/\s1.heap.get? C=some (excClassObj nm q C N bs bm hdct sn sub ab col dd k0 k1 k2 k3 k5 newId)/\s1.heap.get? e=some oe/\oe.cls= .ref C/\oe.data= .fields #[.ref t,.none,.none,.none,.bool false,.none]/\E (.ref e) s1) E s):
  wpAny (model prog w) A (raiseStmt env (some x) none) Q E s:=by
 have uB:(Value.ref C::bm).contains (.type "BaseException")=true:=by rw[List.contains_cons,eN,Bool.or_true]
 unfold raiseStmt;refine wpAny_bind (wpAny_mono hx (λv s1 q1=>?_) λ_ _ z=>z);obtain⟨e,oe,t,rfl,hC,he,hc,hd,hE⟩:=q1;obtain⟨hp,g,dr,tk,os⟩:=s1;obtain⟨c0,di,da,sl⟩:=oe;dsimp only at hc hd;subst hc hd;repeat(first|with_reducible refine wpAny_loadPart_at he ?_|with_reducible refine wpAny_loadPart_at hC ?_|(with_reducible refine wpAny_isSubtype_exc hC ?_;rw[uB])|wp_step)
 exact wpAny_raiseNew_none hh hE
end
end PySem
namespace PySem
open Builtin Builtin.ObjectAttr
noncomputable abbrev rn:List Value:=[.type "ValueError",.type "Exception",.type "BaseException",.type "object"]
section
variable {prog:Program}{w:World}{A:Around}{E:Value->Shared->Prop}{h:Heap}{g:Array GenState}{d:Drawn}{t:Nat}{os:OsState}
variable {nm q:Str}{C N x:Addr}{bs bm:List Value}{hdct:Bool}{sn:List Str}{sub:List Value}{ab:Bool}{col:Option Bool}{dd:Option Addr}{k0 k1 k2 k3 k5:Option Value}{newId:String}{name:Str}{v:Value}{o:Obj}
theorem uC {M:Model}{α:Type}{p:Sem α}{r:α}{Q:α->Shared->Prop}(L:PySem.W.Looks M h p r)(hq:Q r ⟨h,g,d,t,os⟩):wpAny M A p Q E ⟨h,g,d,t,os⟩:=L _ _ _ _ (λ_ _ e=>e) hq
theorem Vh {self:Value}(T:OwnTail h rn bm):refuseLoop self "__setattr__" bm=pure ():=by
 induction T with
 |base=>exact F.store_ValueError.passes self
 |own _ _ _ _ ih=>rw[refuseLoop_ref];exact ih
theorem Vi {tk:Tok}{Q:Fin->Shared->Prop}(T:OwnTail h rn bm)(hC:h.get? C=some (excClassObj nm q C N bs bm true sn sub ab col dd k0 k1 k2 k3 k5 newId))(Ln:PySem.W.Looks (model prog w) h (typeLookup (.ref C) name) none)(hx:h.get? x=some o)(hc:o.cls= .ref C)(oQ:∀c,o.data≠.cls c)(DY:o.dict=none)(hq:∀h' lQ dx,h.get? dx=none->dx≠x->h'.get? x=some {o with dict:=some dx}->h'.Ns1 dx (λy=>if y=name then some v else none)->(∀b ob,b≠x->h.get? b=some ob->h'.get? b=some ob)->Q (.done (.ret .none)) ⟨h',g,d,lQ,os⟩):
  wpAny (model prog w) A (Builtin.«object.__setattr__» ⟨[.ref x,.str name tk,v],[]⟩) Q E ⟨h,g,d,t,os⟩:=by
 have uD:=Vh (self:=.ref x) T;unfold Builtin.«object.__setattr__»;repeat(first|rw[refuse_eq]|(rw[refuseLoop_ref,uD])|(with_reducible refine wpAny_loadPart_at hx ?_;rw[hc])|with_reducible refine wpAny_mroOf_exc hC ?_|with_reducible refine uC Ln ?_|wp_step)
 rw[DY,if_neg (by simp[typeHasDict])];split
 .rename_i cX;cases cX
 split
 .rename_i c cX;exact absurd cX (oQ c)
 have zL:(h.push {cls:=.type "dict",data:=.dict #[]}).get? x=some o:=Heap.get?_push_of_some _ hx;have tV:x≠h.objs.size:=ne_of_lt (Heap.lt_size hx);refine wpAny_bind (wpAny_alloc' (wpAny_bind (wpAny_update' zL (wpAny_pure ?_))));have Vj:((h.push {cls:=.type "dict",data:=.dict #[]}).update x λo=>{cls:=o.cls,dict:=some h.objs.size,data:=o.data,slots:=o.slots}).get? h.objs.size=some {cls:=.type "dict",data:=.dict #[]}:=(Heap.get?_update_ne _ _ _ _ tV.symm).trans (Heap.get?_push_at rfl rfl);show wpAny _ _ (storeInDict h.objs.size (.str name tk) name v) _ _ _;unfold storeInDict newKeyGuard;refine wpAny_bind (wpAny_pure (wpAny_bind (wpAny_nsSet1 (Heap.Ns1.of_empty ⟨_,#[],_,Vj,rfl,λe he=>absurd he (by simp),λ_=>rfl⟩) λh' mj hs=>?_)));obtain⟨oD,Q7,Q8,CH,CI,iT⟩:=mj.count (Within.cons name v Within.nil);refine wpAny_bind (wpAny_lookBehind CH (by rw[CI];exact pastItsLine_dict (le_trans iT (by rw[length_cons,length_nil,sizeLine_eq];lia))) ?_);wp_walk;refine hq h' _ h.objs.size (Heap.get?_none_of_le (le_refl _)) tV.symm ?_ mj λb ob Vl hb=>(hs.2 b (ne_of_lt (Heap.lt_size hb))).trans ((Heap.get?_update_ne _ _ _ _ Vl).trans (Heap.get?_push_of_some _ hb));refine(hs.2 x tV).trans (Heap.get?_update_self _ zL ?_);have lN:=(Heap.get?_some_iff.mp hx).2;obtain⟨oc,od,Vm,jY⟩:=o;cases Vm<;>first|rfl|exact lN
theorem Vn {M:Model}{cw:Value}{Q:Unit->Shared->Prop}(T:OwnTail h rn bm)(hC:h.get? C=some (excClassObj nm q C N bs bm hdct sn sub ab col dd k0 k1 k2 k3 k5 newId))(hx:h.get? x=some o)(hc:o.cls= .ref C)(hq:Q () ⟨h,g,d,t,os⟩):wpAny M A (checkBuiltinCall "object.__setattr__" ⟨[.ref x,cw,v],[]⟩) Q E ⟨h,g,d,t,os⟩:=by
 have uB:(Value.ref C::bm).contains (.type "object")=true:=by rw[List.contains_cons,T.hasType F.store_ValueError.hasOwner,Bool.or_true]
 have ha:=F.store_ValueError.args (.ref x) cw v;simp only[checkBuiltinCall,F.store_ValueError.kind,F.store_ValueError.split];refine wpAny_bind ?_;unfold isInstance;repeat(first|(with_reducible refine wpAny_loadPart_at hx ?_;rw[hc])|(with_reducible refine wpAny_isSubtype_exc hC ?_;rw[uB])|wp_step)
 exact hq
theorem Vo {Q:Unit->Shared->Prop}(T:OwnTail h rn bm)(hC:h.get? C=some (excClassObj nm q C N bs bm true sn sub ab col dd k0 k1 k2 k3 k5 newId))(Ls:PySem.W.Looks (model prog w) h (typeLookup (.ref C) "__setattr__") (some (.builtin "object.__setattr__")))(Ln:PySem.W.Looks (model prog w) h (typeLookup (.ref C) name) none)(hx:h.get? x=some o)(hc:o.cls= .ref C)(oQ:∀c,o.data≠.cls c)(DY:o.dict=none)(hq:∀h' lQ dx,h.get? dx=none->dx≠x->h'.get? x=some {o with dict:=some dx}->h'.Ns1 dx (λy=>if y=name then some v else none)->(∀b ob,b≠x->h.get? b=some ob->h'.get? b=some ob)->Q () ⟨h',g,d,lQ,os⟩):
  wpAny (model prog w) A (setAttr (.ref x) name v) Q E ⟨h,g,d,t,os⟩:=by
 have f3:=F.store_ValueError.slot.bind (.ref x);unfold setAttr callSpecial? specialOf;repeat(any_goals (first|assumption|(with_reducible refine wpAny_loadPart_at hx ?_;rw[hc])|with_reducible refine uC Ls ?_|wp_step))
 refine codeAny_call_builtin F.store_ValueError.slot.plain F.store_ValueError.entry (Vn T hC hx hc (Vi T hC Ln hx hc oQ DY λh' lQ dx a1 a2 a3 a4 a5=>?_));repeat(any_goals (first|assumption|wp_step))
 exact hq h' lQ dx a1 a2 a3 a4 a5
theorem Vp {M:Model}{cw:Value}{Q:Unit->Shared->Prop}(T:OwnTail h rn bm)(hC:h.get? C=some (excClassObj nm q C N bs bm hdct sn sub ab col dd k0 k1 k2 k3 k5 newId))(hx:h.get? x=some o)(hc:o.cls= .ref C)(hq:Q () ⟨h,g,d,t,os⟩):wpAny M A (checkBuiltinCall "BaseException.__getattribute__" ⟨[.ref x,cw],[]⟩) Q E ⟨h,g,d,t,os⟩:=by
 have hk:builtinKind "BaseException.__getattribute__"=some .slot:=by decide+kernel
 have fN:splitId "BaseException.__getattribute__"=some ("BaseException","__getattribute__"):=by decide+kernel
 have uB:(Value.ref C::bm).contains (.type "BaseException")=true:=by rw[List.contains_cons,T.hasType F.attrBase_ValueError.hasBase];rfl
 have ha:=F.args_bexc_ga (.ref x) cw;simp only[checkBuiltinCall,hk,fN];refine wpAny_bind ?_;unfold isInstance;repeat(first|(with_reducible refine wpAny_loadPart_at hx ?_;rw[hc])|(with_reducible refine wpAny_isSubtype_exc hC ?_;rw[uB])|wp_step)
 exact hq
theorem Vq {tk:Tok}{dx:Addr}{mA:Str->Option Value}{Q:Fin->Shared->Prop}(hC:h.get? C=some (excClassObj nm q C N bs bm true sn sub ab col dd k0 k1 k2 k3 k5 newId))(Ln:PySem.W.Looks (model prog w) h (typeLookup (.ref C) name) none)(hx:h.get? x=some o)(hc:o.cls= .ref C)(oQ:∀c,o.data≠.cls c)(DZ:o.dict=some dx)(ir:h.Ns1 dx mA)(hv:mA name=some v)(hq:Q (.done (.ret v)) ⟨h,g,d,t,os⟩):
  wpAny (model prog w) A (Builtin.«object.__getattribute__» ⟨[.ref x,.str name tk],[]⟩) Q E ⟨h,g,d,t,os⟩:=by
 unfold Builtin.«object.__getattribute__»;repeat(first|(with_reducible refine wpAny_loadPart_at hx ?_;rw[hc])|with_reducible refine uC Ln ?_|wp_step)
 split
 .rename_i c cX;exact absurd cX (oQ c)
 unfold instanceDict;repeat(first|(with_reducible refine wpAny_loadPart_at hx ?_;rw[hc])|with_reducible refine wpAny_loadPart_at hC ?_|wp_step)
 rw[DZ];repeat(first|(with_reducible refine wpAny_nsGet ir.ns ?_;rw[hv])|wp_step)
 exact hq
theorem get_own {expr:Bool}{dx:Addr}{mA:Str->Option Value}{Q:Value->Shared->Prop}(T:OwnTail h rn bm)(hC:h.get? C=some (excClassObj nm q C N bs bm true sn sub ab col dd k0 k1 k2 k3 k5 newId))(Lg:PySem.W.Looks (model prog w) h (typeLookup (.ref C) "__getattribute__") (some (.builtin "BaseException.__getattribute__")))(La:PySem.W.Looks (model prog w) h (typeLookup (.ref C) "__getattr__") none)(Ln:PySem.W.Looks (model prog w) h (typeLookup (.ref C) name) none)(hx:h.get? x=some o)(hc:o.cls= .ref C)(oQ:∀c,o.data≠.cls c)(DZ:o.dict=some dx)(ir:h.Ns1 dx mA)(hv:mA name=some v)(hh:handedOut v=pure v)(hq:Q v ⟨h,g,d,t+1,os⟩):
  wpAny (model prog w) A (getAttr (.ref x) name expr) Q E ⟨h,g,d,t,os⟩:=by
 have f3:=F.attrBase_ValueError.ga.bind (.ref x);have hx0:(expr&&onTheHeap (Value.builtin "BaseException.__getattribute__"))=false:=by cases expr<;>rfl
 have DH:(Value.builtin "BaseException.__getattribute__"==Value.builtin "object.__getattribute__")=false:=by decide+kernel
 have zL:(onTheHeap (Value.ref C)&&Value.builtin "BaseException.__getattribute__"==Value.builtin "object.__getattribute__")=false:=by rw[DH];rfl
 unfold getAttr;repeat(any_goals (first|assumption|(with_reducible refine wpAny_loadPart_at hx ?_;rw[hc])|with_reducible refine uC Lg ?_|with_reducible refine uC La ?_|wp_step))
 refine codeAny_call_builtin F.attrBase_ValueError.ga.plain F.entry_bexc_ga (Vp T hC hx hc (Vq hC Ln hx hc oQ DZ ir hv ?_));repeat(any_goals (first|assumption|wp_step))
end
end PySem
namespace L2
open PySem PySem.Spec PyProof.Rows
noncomputable def uE (K:PySem.W.Frag)(C f:Addr):Bool:=(match K.lookup f with
 |some o=>o.cls== .type "function"
 |none=>false)&&match K.lookup C with
 |some ⟨.type "type",_,.cls cd,sl⟩=>(match cd.mro,sl.toList with
  | .ref C'::bm,[_,_,_,_,some (.builtin n),_]=>C'==C&&n=="ValueError.__new__"&&!cd.hasDel&&cd.hasDict&&PySem.W.tailIn K oG bm
  |_,_=>false)
 |_=>false
theorem zU {K:PySem.W.Frag}{h:Heap}{C f:Addr}(X:K.In h)(q:uE K C f=true):(∃oI,h.get? f=some oI/\oI.cls= .type "function")/\∃bm N nm qn bs sn sub ab col dd k0 k1 k2 k3 k5,h.get? C=some (excClassObj nm qn C N bs bm true sn sub ab col dd k0 k1 k2 k3 k5 "ValueError.__new__")/\OwnTail h oG bm:=by
 unfold uE at q;rw[Bool.and_eq_true]at q;obtain⟨q0,q⟩:=q;refine⟨?_,?_⟩
 .split at q0
  .rename_i o ho;exact⟨o,X _ _ ho,beq_iff_eq.mp q0⟩
  .cases q0
 split at q
 .rename_i dd cd sl ho;split at q
  .rename_i C' bm k0 k1 k2 k3 n k5 hm hs;simp only[Bool.and_eq_true,beq_iff_eq,Bool.not_eq_true']at q;obtain⟨⟨⟨⟨rfl,rfl⟩,i3⟩,K6⟩,ht⟩:=q;obtain⟨nm,bs,mro,ns,qn,hd,sn,sub,ab,col,del⟩:=cd;dsimp only at hm i3 K6;subst hm i3 K6;have DB:sl=#[k0,k1,k2,k3,some (.builtin "ValueError.__new__"),k5]:=by
    obtain⟨l⟩:=sl;simp only at hs;rw[hs]
   subst DB;exact⟨bm,ns,nm,qn,bs,sn,sub,ab,col,dd,k0,k1,k2,k3,k5,X _ _ ho,PySem.W.tail_of_in X ht⟩
  .cases q
 .cases q
structure rq (K:PySem.W.Frag)(C f:Addr)(x:Str):Prop where
 cls:uE K C f=true
 Vr:PySem.W.findIn K (.ref C) "__init__"=some (some (.ref f))
 sa:PySem.W.findIn K (.ref C) "__setattr__"=some (some (.builtin "object.__setattr__"))
 ga:PySem.W.findIn K (.ref C) "__getattribute__"=some (some (.builtin "BaseException.__getattribute__"))
 gn:PySem.W.findIn K (.ref C) "__getattr__"=some none
 no:PySem.W.findIn K (.ref C) x=some none
noncomputable def i7 (ea C:Addr):HO:=.ext λh=>∃t sl,h.get? ea=some ⟨.ref C,none,.fields #[.ref t,.none,.none,.none,.bool false,.none],sl⟩
noncomputable def iz (ea C d:Addr):HO:=.ext λh=>∃t sl,h.get? ea=some ⟨.ref C,some d,.fields #[.ref t,.none,.none,.none,.bool false,.none],sl⟩
section
variable {X:Cx}{pins:List (Addr×Obj)}{U:St}{H:Hp}{s:Shared}
theorem Inv.uF (I:Inv X pins U H s)(hex:X.ex=[]){b:Addr}(e:s.heap.get? b=none):X.au.heap.get? b=none:=by
 cases q:X.au.heap.get? b with
 |none=>rfl
 |some o=>have base:=I.base;rw[hex]at base;obtain⟨o1,e1⟩:=base.there b o q (by simp);rw[e]at e1;cases e1
noncomputable def Vs (C:Addr)(ta tv:TE)(f:Str):TS:=λD U H=>tv U H λy H1=>ta U H1 λx H2=>∃a,x= .ref a/\H2 a=some (i7 a C)/\∀d,H2 d=none->D.nx U (upd (upd H2 a (iz a C d)) d (.xd [(f,y)]))
theorem K7 {C fi:Addr}{o value:Expr}{f:Str}{pos pos':Pos}{ta tv:TE}(hI:rq X.K C fi f)(hex:X.ex=[])(ha:PE X o ta)(hv:PE X value tv)(hs:swapsWith value (some (.Attribute o f pos')) pos.line X.env=pure false):PS X (.Assign [.Attribute o f pos'] value pos) (Vs C ta tv f):=by
 intro pins s U H D I h;refine plainObj_wpAny_Assign_Attribute (aq (hv pins s U H _ I h) λu s1 ⟨y,H1,I1,ry,q⟩=>aq (ha pins s1 U H1 _ I1 q) λov s2 zQ=>?_) hs;obtain⟨x,H2,I2,rx,a,ex,ea,q2⟩:=zQ;subst ex;obtain rfl:ov=Value.ref a:=rx;obtain⟨⟨t,sl,hx⟩,_,_⟩:=I2.ag a _ ea;obtain⟨_,bm,N,nm,qn,bs,sn,sub,ab,col,dd,k0,k1,k2,k3,k5,hC,T⟩:=zU I2.aU hI.cls;obtain⟨hp,g,dr,tk,os⟩:=s2;refine Vo T hC (PySem.W.looks_findIn I2.aU hI.sa) (PySem.W.looks_findIn I2.aU hI.no) hx rfl (λc z=>by cases z) rfl λh' lQ d n1 n2 e1 e2 kp=>?_;have qV:H2 d=none:=by
  cases z:H2 d with
  |none=>rfl
  |some u=>obtain⟨o',e'⟩:=(I2.ag d u z).there;rw[show hp.get? d=none from n1]at e';cases e'
 have I3:Inv X pins U (upd H2 a (iz a C d)) ⟨h',g,dr,lQ,os⟩:=by refine I2.write (x:=a) (e:=a) (h':=h') (t':=lQ) (by rw[ea];exact True.intro) (.inl rfl) (λb u hb e=>kp b u hb e) ⟨_,e1⟩ ⟨⟨t,sl,e1⟩,⟨_,e1⟩,λh1 h2 p k=>?_⟩;obtain⟨t',nM,e'⟩:=p;exact⟨t',nM,k _ e'⟩
 have oR:hp.get? d=none:=n1;have gW:∀b o,hp.get? b=some o->b≠d:=λb o e z=>by rw[z,oR]at e;cases e
 have I4:Inv X pins U (upd (upd H2 a (iz a C d)) d (.xd [(f,y)])) ⟨h',g,dr,lQ,os⟩:=by
  refine I3.DG hex (by rw[jd n2];exact qV) (I2.uF hex oR) ?_ (λz c e=>?_) (λp lL=>?_) ⟨_,e2,λz=>?_⟩
  .obtain⟨m,⟨o',_,_,aV,_⟩,_⟩:=I2.loc;exact(gW _ _ aV).symm
  .obtain⟨v',o',aV,_⟩:=I2.cell z c e;exact gW _ _ aV
  .exact gW _ _ (I2.pin p lL).1
  .rw[lookup_cons];by_cases hz:z=f
   .subst hz;simp only[beq_self_eq_true,if_true];exact ry
   .have:(z==f)=false:=by simpa using hz
    rw[this,if_neg hz];exact True.intro
 exact⟨U,_,I4,q2 d qV⟩
theorem Inv.drop {a:Addr}{φ:Heap->Prop}(I:Inv X pins U H s)(ha:H a=some (.ext φ)):Inv X pins U (λb=>if b=a then none else H b) s:=by
 have ne:∀{b:Addr}{u:HO},H b=some u->(∀ψ,u≠.ext ψ)->b≠a:=λ{b u} e h z=>by subst z;rw[ha]at e;exact h _ (Option.some.inj e).symm
 have at_:∀{b:Addr},b≠a->(λb=>if b=a then none else H b) b=H b:=λh=>if_neg h;have nn:∀{b:Addr},H b=none->(λb=>if b=a then none else H b) b=none:=λ{b} h=>by
  by_cases z:b=a
  .exact if_pos z
  .exact(if_neg z).trans h
 refine⟨I.ok,I.os,I.bare,⟨I.base.keep,I.base.slot,λb ob e n hx=>nn (I.base.free b ob e n hx),I.base.there,λb xs q=>?_,λb ob v q=>?_,λb ps q=>?_⟩,I.loc,I.cell,nn I.free,λx c e=>nn (I.dM x c e),λp hp=>?_,λb v e=>?_,I.len⟩
 .have q':=I.base.cn b xs q;exact(at_ (ne q' λ_ z=>nomatch z)).trans q'
 .have q':=I.base.dJ b ob v q;exact(at_ (ne q' λ_ z=>nomatch z)).trans q'
 .obtain⟨more,z⟩:=I.base.eI b ps q;exact⟨more,(at_ (ne z λ_ z=>nomatch z)).trans z⟩
 .obtain⟨q1,q2,q3⟩:=I.pin p hp;exact⟨q1,nn q2,q3⟩
 .by_cases z:b=a
  .have e':(if b=a then none else H b)=some v:=e;rw[if_pos z]at e';cases e'
  .have e':H b=some v:=(at_ z).symm.trans e;exact(I.ag b v e').cG (λ_ _ _ q=>q) (λc q=>(at_ (ne q λ_ z=>nomatch z)).trans q) λc xs q=>(at_ (ne q λ_ z=>nomatch z)).trans q
end
noncomputable def bz (P:Program)(w:World):eK:=λl H s E e s'=>∃ea cls dd H',e= .ref ea/\qX P w l H H' s s' ea cls/\(∃oe,s'.heap.get? ea=some oe/\oe.dict=dd)/\E cls dd H'
theorem mL {P:Program}{w:World}{X:Cx}:Passes (bz P w) X E0:=λ_ _ _ _ _ _ _ ⟨_,_,_,_,_,_,_,z⟩=>z.elim
section
variable {P:Program}{w:World}{K:PySem.W.Frag}{mg:Str->Option Value}{base:Heap}{N:List Str}{qual:Str}{scope:Scope}{f:Addr}{cd:Value}{A:Around}{outer:List Env}{s:Shared}{H:Hp}{E:XK}
theorem cB:Passes (bz P w) (cZ (bz P w) P w K mg base N qual scope f cd A outer s H E) E:=by
 intro pins U H1 s1 e s' I h;obtain⟨ea,cls,dd,H',rfl,F,⟨oe,he,dE⟩,q⟩:=h;obtain⟨Bq,t,hf,k1,k2⟩:=F.Kq;show wpAny (model P w) (A.deeper (envOfC qual scope s.heap.objs.size f cd)) (leaving (envOfC qual scope s.heap.objs.size f cd) (.ref ea)) _ _ s';refine wpAny_mono (tZ K5 (wpAny_leaves_onW (E:=λ_ _=>False) (Q:=λ_ cv=>∃h',cv={s' with heap:=h'}/\Heap.FlyingW Bq outer ea cls (.ref t) h'/\s'.heap.UpToSlots h') I.ok.frames (L:=s.heap.objs.size) rfl hf λh' oP hu=>⟨h',rfl,oP,hu⟩)) (λ_ cv zQ=>?_) (λ_ _ c=>c.1.elim);obtain⟨⟨h',e1,oP,hu⟩,kd⟩:=zQ;subst e1;obtain⟨o2,e2,d2⟩:=kd ea oe he;exact⟨ea,cls,dd,H',rfl,Tp I rfl F oP hu k1 k2,⟨o2,e2,d2.trans dE⟩,q⟩
theorem K8 {pins:List (Addr×Obj)}{U:St}{H1:Hp}{s1:Shared}{ea t:Addr}{oe:Obj}(I:Inv (cZ (bz P w) P w K mg base N qual scope f cd A outer s H E) pins U H1 s1)(he:s1.heap.get? ea=some oe)(hd:oe.data= .fields #[.ref t,.none,.none,.none,.bool false,.none])(new:s.heap.get? ea=none)(hn:H1 ea=none)(q:E oe.cls oe.dict H1):(cZ (bz P w) P w K mg base N qual scope f cd A outer s H E).xe (.ref ea) s1:=by
 have cA:∀b:Addr,b∉([]:List Addr):=λb=>by simp
 have ib:Un (bA outer) [] H H1 s.heap s1.heap:=I.base;obtain⟨cW,lR⟩:∃cW,cW=envOfC qual scope s.heap.objs.size f cd::outer:=⟨_,rfl⟩;have K9:∀env∈cW,∀b,env.frame=some b->b∈ea::bA cW:=λenv he b hb=>mem_cons_of_mem _ (mem_filterMap.mpr ⟨env,he,hb⟩);have i8:∀b o,s1.heap.get? b=some o->b≠ea->b∉bA cW->(PySem.W.hideAll s1.heap (ea::bA cW)).get? b=some o:=λb o e h1 h2=>PySem.W.hideAll_get _ e λz=>(mem_cons.mp z).elim h1 h2;have kE:∀b o,s.heap.get? b=some o->b∉bA outer->b∉bA cW:=λb o e hb=>by rw[lR];exact I.kE e hb
 have zV:∀b o,s.heap.get? b=some o->b≠ea:=λb o e z=>by rw[z,new]at e;cases e
 have mG:∀b u,H1 b=some u->b≠ea:=λb u e z=>by rw[z,hn]at e;cases e
 have lg:∀b u,H1 b=some u->b∉bA cW:=λb u e z=>by rw[lR]at z;have:=I.yF b z;rw[e]at this;cases this
 have IS:s1.heap.FunFrames (PySem.W.hideAll s1.heap (ea::bA cW)) (envOfC qual scope s.heap.objs.size f cd::outer):=by rw[lR];exact PySem.W.funFrames_hide I.stack (by rw[lR]at K9;exact K9)
 show wpAny (model P w) (A.deeper (envOfC qual scope s.heap.objs.size f cd)) (leaving (envOfC qual scope s.heap.objs.size f cd) (.ref ea)) _ _ s1;refine wpAny_mono (tZ K5 (wpAny_leaving_firstW (E:=λ_ _=>False) (base:=PySem.W.hideAll s1.heap (ea::bA cW)) (a0:=.ref t) (Q:=λ_ cv=>∃h',cv={s1 with heap:=h'}/\Heap.LeftW (PySem.W.hideAll s1.heap (ea::bA cW)) (envOfC qual scope s.heap.objs.size f cd::outer) ea oe.cls (.ref t) s1.heap h') I.ok.frames IS rfl he (λb o q=>PySem.W.of_hideAll _ q) (PySem.W.hideAll_none _ (by simp)) hd rfl rfl λh' hL=>⟨h',rfl,hL⟩)) (λ_ cv ⟨⟨h',e1,hL⟩,kd⟩=>?_) (λ_ _ c=>c.1.elim);subst e1;obtain⟨o2,e2,d2⟩:=kd ea oe he;obtain⟨x1,⟨_,_,x2⟩,x3,x4⟩:=hL;have cG:∀b o,s1.heap.get? b=some o->b≠ea->b∉bA cW->h'.get? b=some o:=λb o e h1 h2=>x1 _ _ (i8 b o e h1 h2);have slots:∀b o,s.heap.get? b=some o->H b=none->b∈bA outer->∃sl,h'.get? b=some {o with slots:=sl}:=λb o e n hb=>by
  obtain⟨sl,e1⟩:=ib.slot b o e n hb (cA b);obtain⟨_,o3,e3,nf⟩:=I.ok.fc.mem hb;have Lb:s.heap.get? b=some o3:=e3;rw[e]at Lb;cases Lb;obtain⟨tJ,e4⟩:=x4 b _ e1 nf;exact⟨tJ,e4⟩
 refine⟨ea,oe.cls,oe.dict,H1,rfl,⟨I.os,I.bare,⟨λb o e n hb _=>?_,λb o e n hb _=>slots b o e n hb,λb o e n _=>ib.free b o e n (cA b),λb o e _=>?_,ib.cn,ib.dJ,ib.eI⟩,λb u e=>?_,⟨PySem.W.hideAll s1.heap (ea::bA cW),t,⟨x1,PySem.W.hideAll_none _ (by simp),x2,x3⟩,λb o o' e e' hb=>?_,λb u o' q e'=>?_⟩,new⟩,⟨o2,e2,d2⟩,q⟩
 .exact cG b o (ib.keep b o e n hb (cA b)) (zV b o e) (kE b o e hb)
 .by_cases hb:b∈bA outer
  .obtain⟨sl,q⟩:=slots b o e (I.ok.iQ b hb) hb;exact⟨_,q⟩
  .obtain⟨o1,e1⟩:=ib.there b o e (cA b);exact⟨o1,cG b o1 e1 (zV b o e) (kE b o e hb)⟩
 .refine(I.ag b u e).cG (λc v hc q=>?_) (λ_ q=>q) λ_ _ q=>q;rcases hc with z|z
  .subst z;exact cG _ _ q (mG _ _ e) (lg _ _ e)
  .exact cG _ _ q (mG _ _ z) (lg _ _ z)
 .obtain⟨o1,e1⟩:=ib.there b o e (cA b);have z:=cG b o1 e1 (zV b o e) (kE b o e hb);have e2:h'.get? b=some o':=e';rw[z]at e2;cases e2;exact i8 b _ e1 (zV b o e) (kE b o e hb)
 .obtain⟨o1,e1⟩:=(I.ag b u q).there;have z:=cG b o1 e1 (mG _ _ q) (lg _ _ q);have e2:h'.get? b=some o':=e';rw[z]at e2;cases e2;exact i8 b _ e1 (mG _ _ q) (lg _ _ q)
end
section
variable {P:Program}{w:World}{K:PySem.W.Frag}{mg:Str->Option Value}{base:Heap}
theorem aw.Lc {x qual:Str}{st:Stmt}{f:Addr}{fd:FuncData}{N ps:List Str}{k:Nat}{sp:Sp}(F:aw K x qual st f fd)(S:ql N ps (jo st))(len:∀vs H Q E,sp vs H Q E->vs.length=ps.length)(bg:∀(aT:Value)(A:Around)(outer:List Env)(s:Shared)(H:Hp)(vs:List V)(Q:VK)(E:XK),ba k (A.deeper (envOfC qual (jo st) s.heap.objs.size f aT))->sp vs H Q E->∃t,cK (cZ (bz P w) P w K mg base N qual (jo st) f aT A outer s H E) (iu st) t/\t {nx:=λ_ H'=>Q .aj H',rt:=Q} (start N vs) H):zi P w K mg base (bz P w) (k+1) f fd ps sp:=by
 obtain⟨oc,od,kV,doc,pm,an,aT,ct,jY,rfl,lk,cX⟩:=F.ex;exact JG lk cX S len λA outer s H vs Q E hr ip=>bg aT A outer s H vs Q E hr ip
theorem aw.D0 {x qual:Str}{st:Stmt}{f:Addr}{fd:FuncData}{N ps:List Str}{k:Nat}{sp:Sp}(F:aw K x qual st f fd)(S:ql N ps (jo st))(bg:∀(aT:Value)(A:Around)(outer:List Env)(s:Shared)(H:Hp)(vs:List V)(Q:VK)(E:XK),ba k (A.deeper (envOfC qual (jo st) s.heap.objs.size f aT))->sp vs H Q E->∃t,cK (cZ (bz P w) P w K mg base N qual (jo st) f aT A outer s H E) (iu st) t/\t {nx:=λ_ H'=>Q .aj H',rt:=Q} (start N vs) H)(len:autoParam (∀vs H Q E,sp vs H Q E->vs.length=ps.length) aP6):zi P w K mg base (bz P w) (k+1) f fd ps sp:=F.Lc S len bg
theorem aw.fO {x qual:Str}{st:Stmt}{f:Addr}{fd:FuncData}{N ps:List Str}{k:Nat}{sp:Sp}(F:aw K x qual st f fd)(bg:∀(aT:Value)(A:Around)(outer:List Env)(s:Shared)(H:Hp)(vs:List V)(Q:VK)(E:XK),ba k (A.deeper (envOfC qual (jo st) s.heap.objs.size f aT))->sp vs H Q E->∃t,cK (cZ (bz P w) P w K mg base N qual (jo st) f aT A outer s H E) (iu st) t/\t {nx:=λ_ H'=>Q .aj H',rt:=Q} (start N vs) H)(S:autoParam (ql N ps (jo st)) aP8)(len:autoParam (∀vs H Q E,sp vs H Q E->vs.length=ps.length) aP6):zi P w K mg base (bz P w) (k+1) f fd ps sp:=F.Lc S len bg
theorem Inv.Ld {X:Cx}{pins:List (Addr×Obj)}{U:St}{H:Hp}{s:Shared}(I:Inv X pins U H s){a:Addr}(e:s.heap.get? a=none):H a=none:=by
 cases z:H a with
 |none=>rfl
 |some u=>obtain⟨o,q⟩:=(I.ag a u z).there;rw[e]at q;cases q
theorem rA {N:List Str}{qual:Str}{scope:Scope}{f:Addr}{cd:Value}{A:Around}{outer:List Env}{s:Shared}{H:Hp}{E:XK}{x:Str}{C:Addr}{e:Expr}{es:List Expr}{t:TA}{np az pos:Pos}(hg:Gl (cZ (bz P w) P w K mg base N qual scope f cd A outer s H E) x)(hm:mg x=some (.ref C))(hC:qY K C)(ha:PA (cZ (bz P w) P w K mg base N qual scope f cd A outer s H E) (e::es) t)(cy:autoParam ((x==("__debug__":Str))=false) aP2)(he:autoParam (starEach (e::es) (envOfC qual scope s.heap.objs.size f cd)=(false,eval e (envOfC qual scope s.heap.objs.size f cd))::starEach es (envOfC qual scope s.heap.objs.size f cd)) aP1)(cu:autoParam ((backTo az (starEach es (envOfC qual scope s.heap.objs.size f cd))).any (·.1)=false) aP1):
  PS (cZ (bz P w) P w K mg base N qual scope f cd A outer s H E) (.Raise (some (.Call (.Name x np) (e::es) [] az)) none pos) (Ks (E (.ref C) none) t):=
 Tr rfl hg hm hC ha (λ{pins U H1 s1 ea vs h1} I hx q=>by obtain⟨t,h2,_,_⟩:=hx.there;exact K8 (I.kept (t':=s1.toks) hx.keeps) h2 rfl (I.uF rfl hx.new) (I.Ld hx.new) q) cy he cu
end
noncomputable def Le (C:Addr)(sp:Sp)(W:Option Addr->Hp->Prop)(t:TA):TS:=λ_ U H=>t U H λvs H1=>vs.length<=sizeLine/\∀ea,H1 ea=none->sp (.ref ea::vs) (upd H1 ea (i7 ea C)) (λv H2=>v= .aj/\∃d,H2 ea=some (iz ea C d)/\W (some d) (λb=>if b=ea then none else H2 b)) E0
section
variable {X:Cx}
theorem Vu {k:Nat}{fI C:Addr}{fd:FuncData}{ps:List Str}{sp:Sp}{fld x:Str}{e:Expr}{es:List Expr}{t:TA}{np az pos:Pos}{W:Option Addr->Hp->Prop}(hc:X.calm=true)(hex:X.ex=[])(hg:Gl X x)(hm:X.mg x=some (.ref C))(hI:rq X.K C fI fld)(Fn:zi X.prog X.w X.K X.mg X.base CX0 k fI fd ps sp)(hr:ba (k+1) X.A)(hb:Binds X.K fd ps [])(ha:PA X (e::es) t)(DC:∀{pins:List (Addr×Obj)}{U:St}{H:Hp}{s:Shared}{ea t:Addr}{oe:Obj},Inv X pins U H s->s.heap.get? ea=some oe->oe.data= .fields #[.ref t,.none,.none,.none,.bool false,.none]->X.au.heap.get? ea=none->H ea=none->oe.cls= .ref C->W oe.dict H->X.xe (.ref ea) s)(cy:autoParam ((x==("__debug__":Str))=false) aP2)(he:autoParam (starEach (e::es) X.env=(false,eval e X.env)::starEach es X.env) aP1)(cu:autoParam ((backTo az (starEach es X.env)).any (·.1)=false) aP1):
  PS X (.Raise (some (.Call (.Name x np) (e::es) [] az)) none pos) (Le C sp W t):=by
 intro pins s U H D I h;have FB:=F.excBase_ValueError;obtain⟨_,bm,N,nm,qn,bs,sn,sub,ab,col,dd,k0,k1,k2,k3,k5,Lf,T0⟩:=zU I.mod.iP hI.cls;have D1:((backTo az (starEach (e::es) X.env)).any λx=>x.fst)=false:=by rw[he];show(false||(backTo az (starEach es X.env)).any (·.1))=false;rw[cu];rfl
 rw[arm_exec_Raise];refine wpAny_bind (wpAny_standAt ?_);refine Vg (C:=C) (nm:=nm) (q:=qn) (N:=N) (bs:=bs) (bm:=bm) (hdct:=true) (sn:=sn) (sub:=sub) (ab:=ab) (col:=col) (dd:=dd) (k0:=k0) (k1:=k1) (k2:=k2) (k3:=k3) (k5:=k5) (newId:="ValueError.__new__") (T0.hasType FB.hasBase) (I.ok.hd hc) (wpAny_bind (wpAny_mono (wpAny_Call_ofName (lq I hg hm ?_ cy)) (λv s3 h3=>wpAny_bind (wpAny_standAt (wpAny_pure h3))) λ_ _ x=>x));have h1:wpAny (model X.prog X.w) X.A (evalArgs (.ref C) true (backTo az (starEach (e::es) X.env)) []) (λa s2=>∃us vs H2,a=⟨us,[]⟩/\Inv X pins U H2 s2/\Vals vs us/\vs.length<=sizeLine/\∀ea,H2 ea=none->sp (.ref ea::vs) (upd H2 ea (i7 ea C)) (λv H3=>v= .aj/\∃d,H3 ea=some (iz ea C d)/\W (some d) (λb=>if b=ea then none else H3 b)) E0) X.xe s:=by
  have hA:=ha az pins s U H _ I h;rw[he]at hA⊢;exact Calls.evalArgs_plain (aq hA λus s2 ⟨vs,H2,I2,r2,hz,q2⟩=>⟨us,vs,H2,rfl,I2,r2,hz,q2⟩)
 delta callWith;refine wpAny_bind (wpAny_holding (wpAny_mono h1 (λa s2 h2=>wpAny_bind (wpAny_standAt ?_)) λ_ _ x=>x));obtain⟨us,vs,H2,rfl,I2,r2,hz,q2⟩:=h2;have hC:=I2.bk _ _ Lf;have T:=T0.keeps I2.bk;obtain⟨⟨oI,Vv,yH⟩,_⟩:=zU I2.aU hI.cls;obtain⟨hp,g,dr,tk,os⟩:=s2;simp only[D1];refine wpAny_bind (wpAny_keeperOf_exc hC ?_);refine wpAny_bind (Vf FB T hC (PySem.W.looks_findIn I2.aU hI.Vr) Vv yH (by show us.length<=sizeLine;rw[<-r2.length];exact hz) λh' ea D2=>?_);have zW:hp.get? ea=none:=D2.new;have gW:∀b o,hp.get? b=some o->b≠ea:=λb o e z=>by rw[z,zW]at e;cases e
 obtain⟨t0,het,_,_⟩:=D2.there;have I3:Inv X pins U H2 ⟨h',g,dr,tk,os⟩:=I2.kept (t':=tk) D2.keeps;have qS:H2 ea=none:=I2.Ld zW;have I4:Inv X pins U (upd H2 ea (i7 ea C)) ⟨h',g,dr,tk,os⟩:=by
  refine I3.DG hex qS (I2.uF hex zW) ?_ (λz c e=>?_) (λp lL=>?_) ⟨⟨t0,_,het⟩,⟨_,het⟩,λh1 h2 p k=>?_⟩
  .obtain⟨m,⟨o',_,_,aV,_⟩,_⟩:=I2.loc;exact(gW _ _ aV).symm
  .obtain⟨v',o',aV,_⟩:=I2.cell z c e;exact gW _ _ aV
  .exact gW _ _ (I2.pin p lL).1
  .obtain⟨t',nM,e'⟩:=p;exact⟨t',nM,k _ e'⟩
 have hq:=q2 ea qS;have r3:Vals (V.ref ea::vs) (Value.ref ea::us):=.cons rfl r2;have hl:(Value.ref ea::us++[]).length=ps.length:=by have e:=r3.length;rw[Fn.len _ _ _ _ hq]at e;rw[append_nil];exact e.symm
 have Lh:=hb ⟨h',g,dr,tk,os⟩ (Value.ref ea::us) I4.aU hl;rw[append_nil]at Lh;refine wpAny_call (codeAny_mono (Fn.run _ X.stack _ _ ⟨Value.ref ea::us,[]⟩ (Value.ref ea::us) _ _ E0 (hr.make C us []) (I4.qJ.make C us []) Lh r3 hq) λr s' dO=>?_);cases r with
 |error e'=>exact False.elim dO
 |ok fl=>
  cases fl with
  |ret u=>obtain⟨v,H5,I5,rv,⟨ev,d,uG,w5⟩⟩:=I4.after dO;subst ev;refine⟨rv,wpAny_bind (wpAny_holding (wpAny_point (wpAny_pure ?_)))⟩;obtain⟨⟨t5,sl5,uH⟩,_,_⟩:=I5.ag ea _ uG;exact⟨ea,_,t5,rfl,I5.bk _ _ Lf,uH,rfl,rfl,DC (I5.drop uG) uH rfl (I2.uF hex zW) (if_pos rfl) rfl w5⟩
  |next=>exact False.elim dO
  |brk=>exact False.elim dO
  |cont=>exact False.elim dO
end
noncomputable def i9 (ea:Addr)(cls:Value)(dd:Option Addr):HO:=.ext λh=>∃o vs,h.get? ea=some o/\o.cls=cls/\o.data= .fields vs/\o.dict=dd
noncomputable def kI (X:Cx)(pn:List (Addr×Obj))(W:St->Value->Option Addr->Hp->Prop):Cx:={X with pn:=pn,xe:=λe s'=>∃(pins:List (Addr×Obj))(U:St)(H:Hp)(s0:Shared)(ea:Addr)(cls:Value)(dd:Option Addr)(H':Hp),e= .ref ea/\Inv {X with pn:=pn} pins U H s0/\qX X.prog X.w X.stack H H' s0 s' ea cls/\(∃oe,s'.heap.get? ea=some oe/\oe.dict=dd)/\W U cls dd H'}
section
variable {X:Cx}{pins pn:List (Addr×Obj)}{U:St}{H H':Hp}{s s':Shared}
theorem Inv.Vw {W:St->Value->Option Addr->Hp->Prop}(I:Inv X pins U H s)(h:∀p∈pn,p∈X.pn++pins):Inv (kI X pn W) pins U H s:=I.kF (Yq:=kI X pn W) (I.ok.kF (Yq:=kI X pn W) ⟨rfl,rfl,rfl⟩ rfl rfl rfl rfl rfl rfl rfl I.ok.hd I.ok.frames) rfl rfl rfl rfl rfl rfl rfl rfl λp hp=>(mem_append.mp hp).elim (h p) λz=>mem_append_right _ z
theorem Inv.Li {W:St->Value->Option Addr->Hp->Prop}(I:Inv (kI X pn W) pins U H s):Inv {X with pn:=pn} pins U H s:=I.kF (Yq:={X with pn:=pn}) (I.ok.kF (Yq:={X with pn:=pn}) ⟨rfl,rfl,rfl⟩ rfl rfl rfl rfl rfl rfl rfl I.ok.hd I.ok.frames) rfl rfl rfl rfl rfl rfl rfl rfl λ_ hp=>hp
noncomputable def Vx (sp:Sp)(bG:List V)(W:St->Value->Option Addr->Hp->Prop)(t:TA):TE:=λ U H Q=>t U H λvs H1=>sp (vs++bG) H1 Q λcls dd H'=>W U cls dd H'
theorem Vy {W:St->Value->Option Addr->Hp->Prop}(I:Inv (kI X pn W) pins U H s)(e:Value)(s':Shared)(h:bz X.prog X.w X.stack H s (λcls dd H'=>W U cls dd H') e s'):(kI X pn W).xe e s':=by obtain⟨ea,cls,dd,H',rfl,F,hd,q⟩:=h;exact⟨pins,U,H,s,ea,cls,dd,H',rfl,I.Li,F,hd,q⟩
theorem Vz {W:St->Value->Option Addr->Hp->Prop}{k:Nat}{f:Addr}{fd:FuncData}{ps:List Str}{sp:Sp}{bG:List V}{ds:List Value}{x:Str}{p pos:Pos}{e:Expr}{es:List Expr}{t:TA}(F:zi X.prog X.w X.K X.mg X.base (bz X.prog X.w) k f fd ps sp)(hr:ba k X.A)(hg:Gl X x)(hm:X.mg x=some (.ref f))(hk:PySem.W.keepIn X.K (.ref f)=true)(hb:Binds X.K fd ps ds)(hd:Vals bG ds)(ha:PA (kI X pn W) (e::es) t)(cy:autoParam ((x==("__debug__":Str))=false) aP2)(he:autoParam (starEach (e::es) X.env=(false,eval e X.env)::starEach es X.env) aP1)(cu:autoParam ((backTo pos (starEach es X.env)).any (·.1)=false) aP1):
  PE (kI X pn W) (.Call (.Name x p) (e::es) [] pos) (Vx sp bG W t):=by
 intro pins s U H Q I h;refine wpAny_Call_Name_kw (lq I hg hm ?_ cy);refine PySem.W.callWith_K (h₀:=X.base) I.ok.mod.iP hk (aq (ha pos pins s U H _ I h) λus s1 ⟨vs,H1,I1,r,q⟩=>⟨I1.aU,?_⟩) he cu;exact Tz F hr hb hd I1 (Vy I1) r q
theorem Inv.less {a:Addr}{φ ψ:Heap->Prop}(I:Inv X pins U H s)(ha:H a=some (.ext φ))(h:∀h,φ h->ψ h)(st:∀h1 h2:Heap,ψ h1->(∀o,h1.get? a=some o->h2.get? a=some o)->ψ h2):Inv X pins U (upd H a (.ext ψ)) s:=by obtain⟨p,⟨o,e⟩,_⟩:=I.ag a _ ha;exact I.write (t':=s.toks) (x:=a) (e:=a) (h':=s.heap) (by rw[ha];exact True.intro) (.inl rfl) (λb u _ q=>q) ⟨o,e⟩ ⟨h _ p,⟨o,e⟩,st⟩
noncomputable def D3 (D:Ends)(i:Nat)(ea:Addr)(cls:Value)(dd:Option Addr):Ends:=
  { nx:=λ U2 H2=>H2 ea=some (i9 ea cls dd)/\D.nx (U2.set i none) (upd H2 ea (mI ea cls))
    rt:=λv H2=>H2 ea=some (i9 ea cls dd)/\D.rt v (upd H2 ea (mI ea cls))
    bk:=λ U2 H2=>H2 ea=some (i9 ea cls dd)/\D.bk (U2.set i none) (upd H2 ea (mI ea cls))
    ct:=λ U2 H2=>H2 ea=some (i9 ea cls dd)/\D.ct (U2.set i none) (upd H2 ea (mI ea cls))}
theorem Lj {s0 s1:Shared}{H1:Hp}{D:Ends}{x n:Str}{i:Nat}{np uI:Pos}{uJ:Stmt}{mM:List Stmt}{rest:List ExceptHandler}{Pc C ea t:Addr}{dd:Option Addr}{ts:TS}{aY Bq:Heap}{U':St}(gY:X.stack=X.env::X.outer)(hex:X.ex=[])(hg:Gl X x)(hm:X.mg x=some (.ref Pc))(hB:PySem.W.mroIn X.K Pc (.type "BaseException")=some true)(hN:X.N.Nodup)(hi:X.N[i]?=some n)(hn:X.env.scope.names.lookup n=some .local)(hs:∀ea,cK (oJ X ea) (uJ::mM) ts)(cy:(x==("__debug__":Str))=false)(IX:Inv X pins U' H1 s0)(F:qX X.prog X.w X.stack H1 H' s0 s1 ea (.ref C))(eQ:Heap.FlyingW Bq X.stack ea (.ref C) (.ref t) aY)(hu:s1.heap.UpToSlots aY)(k1:∀b o o',s0.heap.get? b=some o->s1.heap.get? b=some o'->b∉bA X.stack->Bq.get? b=some o')(k2:∀b u o',H' b=some u->s1.heap.get? b=some o'->Bq.get? b=some o')(gE:H' ea=none)(dE:∃oe,aY.get? ea=some oe/\oe.dict=dd)(uK:PySem.W.kitCls X.K (.ref C) (.ref Pc)=some true)(D4:ts (D3 D i ea (.ref C) dd) (U'.set i (some (.ref ea))) (upd H' ea (i9 ea (.ref C) dd))):
  wpAny (model X.prog X.w) X.A (handleBy (.ref ea) X.env (.ExceptHandler (some (.Name x np)) (some n) (uJ::mM) uI::rest)) (SP X pins D) X.xe {s1 with heap:=aY}:=by
 have cA:∀b:Addr,b∉([]:List Addr):=λb=>by simp
 have I5:Inv X pins U' H' {s1 with heap:=aY}:=DF IX F eQ hu k1 k2;obtain⟨oe,ve,D5,D6,VA,_⟩:=eQ.first;refine wpAny_handleBy_cons (codeAny_handlers_test (Calls.Name_function_global I5.ok.kind hg (Calls.loadGlobal_global (by rw[I5.ok.glob];exact I5.mod.glob.keeps I5.bk) hm ?_) cy)) (by intro q;cases q);refine Kr (K:=X.K) (h:=aY) I5.aU D5 D6 uK hB _ _ _ _ (λ_ _ q=>q) ?_;show codeAny _ _ _ _ _;refine codeAny_handlers_suite_as ?_;refine wpAny_mono (tZ DU (lands_againW (E:=λ_ _=>False) (Q:=λ_ cv=>∃cP,cv={s1 with heap:=cP}/\Heap.FlyingW Bq X.stack ea (.ref C) (.ref t) cP/\aY.UpToSlots cP) eQ λcP dS fP=>⟨cP,rfl,dS,fP⟩)) (λ_ cv zQ=>?_) (λ_ _ z=>z.1.elim);obtain⟨⟨cP,e6,dS,fP⟩,kd⟩:=zQ;subst e6;have I6:Inv X pins U' H' {s1 with heap:=cP}:=DF IX F dS (hu.trans fP) k1 k2;obtain⟨D7,VB,oT,uL,uM,_⟩:=dS.first;have VC:D7.dict=dd:=by obtain⟨o5,e5,d5⟩:=dE;obtain⟨o6,e6,d6⟩:=kd ea o5 e5;have Lk:cP.get? ea=some o6:=e6;rw[oT]at Lk;cases Lk;exact d6.trans d5
 have D8:X.au.heap.get? ea=none:=IX.uF hex F.new;have gW:∀b o,s0.heap.get? b=some o->b≠ea:=λb o e z=>by rw[z,F.new]at e;cases e
 have I7:Inv X pins U' (upd H' ea (i9 ea (.ref C) dd)) {s1 with heap:=cP}:=by
  refine I6.DG hex gE D8 ?_ (λy c e=>?_) (λp hp=>?_) ⟨⟨D7,VB,oT,uL,uM,VC⟩,⟨D7,oT⟩,λh1 h2 p k=>?_⟩
  .obtain⟨m,⟨o,_,_,ho,_⟩,_⟩:=IX.loc;exact(gW _ _ ho).symm
  .obtain⟨v,o,ho,_⟩:=IX.cell y c e;exact gW _ _ ho
  .exact gW _ _ (IX.pin p hp).1
  .obtain⟨o,vs,e1,e2,e3,e4⟩:=p;exact⟨o,vs,k o e1,e2,e3,e4⟩
 refine yI (v:=.ref ea) I7 hN hi (.inl hn) rfl (λs8 I8=>?_) (.inr hn);refine wpAny_mono (hs ea pins s8 _ _ _ I8.Tx D4) (λf s9 q=>?_) (λ_ _ z=>z.elim);have wk:∀{U9:St}{H9:Hp},Inv X pins U9 H9 s9->H9 ea=some (i9 ea (.ref C) dd)->Inv X pins U9 (upd H9 ea (mI ea (.ref C))) s9:=λJ e=>J.less e (λh ⟨o,vs,a1,a2,a3,_⟩=>⟨o,vs,a1,a2,a3⟩) λh1 h2 p k=>by obtain⟨o,vs,e1,e2,e3⟩:=p;exact⟨o,vs,k o e1,e2,e3⟩
 have behind:∀{U9:St}{H9:Hp},Inv X pins U9 H9 s9->(∀bL,Inv X pins (U9.set i none) H9 bL->SP X pins D f bL)->wpAny (model X.prog X.w) X.A (do bindName X.env n .none;unbindBehindTheSuite X.env n uI) (λ_ aX=>SP X pins D f aX) X.xe s9:=λ{U9 H9} J k=>by
  refine wpAny_bind (wpAny_bindName (yI (v:=.aj) J hN hi (.inl hn) rfl (λbL gD=>?_) (.inr hn)));obtain⟨m,uN,uO⟩:=id gD.loc;have qB:i<U9.length:=by rw[J.len];exact(List.getElem?_eq_some_iff.mp hi).1
  obtain⟨u,ru,lk⟩:=uO i n .aj hi (by rw[getElem?_set_self qB]) (.inl hn);have VD:m n=some u:=by
   rcases lk with⟨_,q⟩|⟨q,_⟩
   .exact q
   .rcases q with q|q
    .have q':X.env.scope.names.lookup n=some .cell:=q;rw[hn]at q';cases q'
    .have q':X.env.scope.names.lookup n=some .free:=q;rw[hn]at q';cases q'
  unfold unbindBehindTheSuite;refine wpAny_onRaise (wpAny_unbindName_local (env:=X.env) hn uN VD (by rw[J.ok.kind];rfl) λh' u' mj oF=>?_);have Ll:=gD.unset hN hi uN uO mj oF;rw[List.set_set]at Ll;exact k _ Ll
 show wpAny _ _ _ _ _ _;cases f with
 |next=>obtain⟨U9,H9,I9,e9,q⟩:=q;exact behind (wk (I9.zK I8.ok) e9) λbL gD=>⟨_,_,gD,q⟩
 |brk=>obtain⟨U9,H9,I9,e9,q⟩:=q;exact behind (wk (I9.zK I8.ok) e9) λbL gD=>⟨_,_,gD,q⟩
 |cont=>obtain⟨U9,H9,I9,e9,q⟩:=q;exact behind (wk (I9.zK I8.ok) e9) λbL gD=>⟨_,_,gD,q⟩
 |ret u=>obtain⟨v,U9,H9,I9,r,e9,q⟩:=q;exact behind (wk (I9.zK I8.ok) e9) λbL gD=>⟨v,_,_,gD,r,q⟩
end
noncomputable def VE (K:PySem.W.Frag)(P1 P2:Addr)(i:Nat)(tb:(St->Value->Option Addr->Hp->Prop)->TS)(zX zY:TS):TS:=λD U H=>∃W:St->Value->Option Addr->Hp->Prop,tb W D U H/\∀U' cls dd H' ea,W U' cls dd H'->H' ea=none->∃C,cls= .ref C/\((PySem.W.kitCls K (.ref C) (.ref P1)=some true/\zX (D3 D i ea cls dd) (U'.set i (some (.ref ea))) (upd H' ea (i9 ea cls dd)))\/(PySem.W.kitCls K (.ref C) (.ref P1)=some false/\PySem.W.kitCls K (.ref C) (.ref P2)=some true/\zY (D3 D i ea cls dd) (U'.set i (some (.ref ea))) (upd H' ea (i9 ea cls dd))))
section
variable {X:Cx}
theorem VF {body:List Stmt}{x1 x2 n:Str}{i:Nat}{VG D9 uP C9 pos:Pos}{b1 b2:Stmt}{Lm Lo:List Stmt}{P1 P2:Addr}{tb:(St->Value->Option Addr->Hp->Prop)->TS}{zX zY:TS}(gY:X.stack=X.env::X.outer)(lN:X.env.frame=some X.env.locals)(hex:X.ex=[])(Lp:Gl X x1)(tP:X.mg x1=some (.ref P1))(Lq:PySem.W.mroIn X.K P1 (.type "BaseException")=some true)(VH:Gl X x2)(zJ:X.mg x2=some (.ref P2))(VI:PySem.W.mroIn X.K P2 (.type "BaseException")=some true)(hN:X.N.Nodup)(hi:X.N[i]?=some n)(hn:X.env.scope.names.lookup n=some .local)(hb:∀pn W,cK (kI X pn W) body (tb W))(zZ:∀ea,cK (oJ X ea) (b1::Lm) zX)(nY:∀ea,cK (oJ X ea) (b2::Lo) zY)(oR:autoParam ((x1==("__debug__":Str))=false) aP2)(hd2:autoParam ((x2==("__debug__":Str))=false) aP2):
  PS X (.Try body [.ExceptHandler (some (.Name x1 VG)) (some n) (b1::Lm) uP,.ExceptHandler (some (.Name x2 D9)) (some n) (b2::Lo) C9] [] [] pos) (VE X.K P1 P2 i tb zX zY):=by
 intro pins s U H D I h;obtain⟨W,h1,h2⟩:=h;refine wpAny_Try_except ?_;have back:∀{bP:List (Addr×Obj)}{U':St}{H':Hp}{s':Shared},Inv (kI X (X.pn++pins) W) bP U' H' s'->Inv X pins U' H' s':=λJ=>J.Li.Ku λ_ hp=>hp;refine wpAny_mono (hb (X.pn++pins) W pins s U H D (I.Vw λ_ hp=>hp) h1) (λf s1 q=>?_) (λe s1 q=>?_)
 .cases f with
  |next=>obtain⟨U1,H1,I1,q⟩:=q;exact wpAny_execs_nil ⟨U1,H1,back I1,q⟩
  |brk=>obtain⟨U1,H1,I1,q⟩:=q;exact⟨U1,H1,back I1,q⟩
  |cont=>obtain⟨U1,H1,I1,q⟩:=q;exact⟨U1,H1,back I1,q⟩
  |ret u=>obtain⟨v,U1,H1,I1,r,q⟩:=q;exact⟨v,U1,H1,back I1,r,q⟩
 .obtain⟨bP,U',H1,s0,ea,cls,dd,H',rfl,I0,F,⟨oe,D5,dE⟩,wW⟩:=q;have IX:Inv X pins U' H1 s0:=I0.Ku λ_ hp=>hp;obtain⟨Bq,t,hf,k1,k2⟩:=F.Kq;have gE:H' ea=none:=by
   cases q:H' ea with
   |none=>rfl
   |some u=>obtain⟨o,e⟩:=(F.ag ea u q).there;have z:=k2 ea u o q e;rw[hf.2.1]at z;cases z
  obtain⟨C,rfl,D4⟩:=h2 U' cls dd H' ea wW gE;have frames:X.A.frames=some (X.env::X.outer):=by rw[IX.ok.frames,gY]
  have oP:Heap.FlyingW Bq (X.env::X.outer) ea (.ref C) (.ref t) s1.heap:=by rw[<-gY];exact hf
  refine wpAny_mono (tZ K4 (wpAny_looks_onW (E:=λ_ _=>False) (Q:=λ_ cv=>∃cO,cv={s1 with heap:=cO}/\Heap.HeldW Bq (X.env::X.outer) ea (.ref C) (.ref t) X.env.locals cO/\s1.heap.UpToSlots cO) frames lN oP λcO a b=>⟨cO,rfl,a,b⟩)) (λ_ cv zQ=>?_) (λ_ _ z=>z.1.elim);obtain⟨⟨cO,e4,jA,fQ⟩,VJ⟩:=zQ;subst e4;refine wpAny_mono (tZ DU (wpAny_landsW (E:=λ_ _=>False) (Q:=λ_ cv=>∃aY,cv={s1 with heap:=aY}/\Heap.FlyingW Bq (X.env::X.outer) ea (.ref C) (.ref t) aY/\cO.UpToSlots aY) jA λaY a b=>⟨aY,rfl,a,b⟩)) (λ_ cv zQ=>?_) (λ_ _ z=>z.1.elim);obtain⟨⟨aY,e5,oU,fR⟩,VL⟩:=zQ;subst e5;have eQ:Heap.FlyingW Bq X.stack ea (.ref C) (.ref t) aY:=by rw[gY];exact oU
  have uG:∃oe,aY.get? ea=some oe/\oe.dict=dd:=by obtain⟨o4,e4,d4⟩:=VJ ea oe D5;obtain⟨o5,e5,d5⟩:=VL ea o4 e4;exact⟨o5,e5,(d5.trans d4).trans dE⟩
  rcases D4 with⟨m1,q1⟩|⟨m1,m2,q2⟩
  .exact Lj gY hex Lp tP Lq hN hi hn zZ oR IX F eQ (fQ.trans fR) k1 k2 gE uG m1 q1
  .have I5:Inv X pins U' H' {s1 with heap:=aY}:=DF IX F eQ (fQ.trans fR) k1 k2;obtain⟨oe5,ve5,Ea,uQ,Lr,_⟩:=eQ.first;refine wpAny_handleBy_cons (codeAny_handlers_test (Calls.Name_function_global I5.ok.kind Lp (Calls.loadGlobal_global (by rw[I5.ok.glob];exact I5.mod.glob.keeps I5.bk) tP ?_) oR)) (by intro q;cases q);refine Kr (K:=X.K) (h:=aY) I5.aU Ea uQ m1 Lq _ _ _ _ (λ_ _ q=>q) ?_;exact Lj gY hex VH zJ VI hN hi hn nY hd2 IX F eQ (fQ.trans fR) k1 k2 gE uG m2 q2
noncomputable def Lu (K:PySem.W.Frag)(ta:TE)(f:Str):TE:=λ U H Q=>ta U H λx H1=>∃a C fi d fs v,x= .ref a/\H1 a=some (i9 a (.ref C) (some d))/\H1 d=some (.xd fs)/\rq K C fi f/\fs.lookup f=some v/\Q v H1
theorem VM {e:Expr}{f:Str}{pos:Pos}{ta:TE}(he:PE X e ta)(hb:attributeBase e f X.env (eval e X.env)=eval e X.env):PE X (.Attribute e f pos) (Lu X.K ta f):=by
 intro pins s U H Q I h;refine Ju hb (aq (he pins s U H _ I h) λu s1 zQ=>?_);obtain⟨x,H1,I1,rx,a,C,fi,d,fs,v,ex,ea,ed,hI,l,q⟩:=zQ;subst ex;obtain rfl:u=Value.ref a:=rx;obtain⟨⟨o,vs,e1,e2,e3,e4⟩,_,_⟩:=I1.ag a _ ea;obtain⟨mA,ir,r⟩:=I1.ag d _ ed;obtain⟨_,bm,N,nm,qn,bs,sn,sub,ab,col,dd,k0,k1,k2,k3,k5,hC,T⟩:=zU I1.aU hI.cls;have rf:=r f;rw[l]at rf;cases hv:mA f with
 |none=>rw[hv]at rf;exact rf.elim
 |some y=>rw[hv]at rf;have rv:RelV v y:=rf;obtain⟨hp,g,dr,tk,os⟩:=s1;exact get_own T hC (PySem.W.looks_findIn I1.aU hI.ga) (PySem.W.looks_findIn I1.aU hI.gn) (PySem.W.looks_findIn I1.aU hI.no) e1 e2 (λc z=>by rw[e3]at z;cases z) e4 ir hv (PySem.W.handedOut_of (Jt rv)) ⟨v,H1,I1.tok _,rv,q⟩
end
theorem Eb {P:Program}{w:World}{K:PySem.W.Frag}{mg:Str->Option Value}{base:Heap}{N:List Str}{qual:Str}{scope:Scope}{f:Addr}{cd:Value}{A:Around}{outer:List Env}{s:Shared}{H:Hp}{E:XK}{k:Nat}{fI C:Addr}{fd:FuncData}{ps:List Str}{sp:Sp}{fld x:Str}{e:Expr}{es:List Expr}{t:TA}{np az pos:Pos}(hg:Gl (cZ (bz P w) P w K mg base N qual scope f cd A outer s H E) x)(hm:mg x=some (.ref C))(hI:rq K C fI fld)(Fn:zi P w K mg base CX0 k fI fd ps sp)(hr:ba (k+1) (cZ (bz P w) P w K mg base N qual scope f cd A outer s H E).A)(hb:Binds K fd ps [])(ha:PA (cZ (bz P w) P w K mg base N qual scope f cd A outer s H E) (e::es) t)(cy:autoParam ((x==("__debug__":Str))=false) aP2)(he:autoParam (starEach (e::es) (envOfC qual scope s.heap.objs.size f cd)=(false,eval e (envOfC qual scope s.heap.objs.size f cd))::starEach es (envOfC qual scope s.heap.objs.size f cd)) aP1)(cu:autoParam ((backTo az (starEach es (envOfC qual scope s.heap.objs.size f cd))).any (·.1)=false) aP1):
  PS (cZ (bz P w) P w K mg base N qual scope f cd A outer s H E) (.Raise (some (.Call (.Name x np) (e::es) [] az)) none pos) (Le C sp (E (.ref C)) t):=
 Vu rfl rfl hg hm hI Fn hr hb ha (λI he hd new hn hc q=>K8 I he hd new hn (by rw[hc];exact q)) cy he cu
theorem px {X:Cx}{K:PySem.W.Frag}(i:Nat){x f:Str}{p pos:Pos}(hK:autoParam (X.K=K) aP1)(hN:autoParam (X.N[i]?=some x) aP1)(hv:autoParam (pZ X.env.scope x) aP9)(hd:autoParam ((x==("__debug__":Str))=false) aP2)(cX:autoParam ((x==("__classdict__":Str))=false) aP2)(hb:autoParam (attributeBase (.Name x p) f X.env (eval (.Name x p) X.env)=eval (.Name x p) X.env) aP1):PE X (.Attribute (.Name x p) f pos) (Lu K (Cq i) f):=by
 subst hK;exact VM (pv i hN hv hd cX) hb
theorem VN {lo:Int}{n:Nat}{D:Addr}{g:TG}{ti:TT}{tk tv:TE}{U0:St}{H0:Hp}{QF:Hp->Prop}(Pv:Nat->St->Hp->Prop)(h0:Pv 0 U0 H0)(hs:∀i U H,i<n->Pv i U H->g (.int (lo+i)) U H λ U2 H2=>ti U2 H2 λb H3=>if b=true then tk U2 H3 λy H4=>tv U2 H4 λz H5=>∃H6,iw H5 D y z H6/\Pv (i+1) U2 H6 else Pv (i+1) U2 H3)(hd:∀U H,Pv n U H->QF H):∃W:Nat->Nat->St->Hp->Prop,(∃m,W 0 m U0 H0)/\DO (nP lo n) g ti tk tv D QF W:=by
 refine⟨λi m U H=>m=n-i/\i<=n/\Pv i U H,⟨n,by simp,zero_le _,h0⟩,?_⟩
 rintro i m U H ⟨rfl,hi,p⟩
 by_cases aD:i<n
 .refine .inr ⟨aD,Pv (i+1),λ U' H' p'=>⟨n-(i+1),by lia,rfl,aD,p'⟩,λx H' y=>?_⟩;obtain⟨e,y⟩:=y;subst e y;exact hs i U _ aD p
 .have e:i=n:=by lia
  subst e;exact .inl ⟨le_refl _,hd U H p⟩
theorem Lv (val:Nat->Int):∀k i,i<=k->val i<=val (argBest (λi j=>decide (val i>val j)) k)
 |0,i,h=>by
  have:i=0:=by lia
  subst this;exact Int.le_refl _
 | k+1,i,h=>by
  have ih:=Lv val k;unfold argBest;by_cases z:val (k+1)>val (argBest (λi j=>decide (val i>val j)) k)
  .rw[if_pos (decide_eq_true z)];by_cases q:i=k+1
   .rw[q];exact Int.le_refl _
   .have:=ih i (by lia);lia
  .rw[if_neg (by simpa using z)];by_cases q:i=k+1
   .rw[q];lia
   .exact ih i (by lia)
theorem Aa {α β:Type}{R:α->β->Prop}:∀{xs:List α}{ys:List β}{i:Nat}{y:β},Paired R xs ys->ys[i]?=some y->∃x,xs[i]?=some x/\R x y:=λ{xs ys i y} q e=>by
 induction q generalizing i with
 |nil=>simp at e
 |cons h _ ih=>
  cases i with
  |zero=>cases Option.some.inj e;exact⟨_,rfl,h⟩
  |succ i=>exact ih (i:=i) e
section
variable {X:Cx}
theorem VO (hc:X.calm=true):dA X (.builtin "max") (λxs H Q=>∃(p:Addr)(ns:List Int),xs=[.ref p]/\ai X.K H p (ns.map V.int)/\0<ns.length/\∀M,M∈ns->(∀a∈ns,a<=M)->Q (.int M) H):=by
 intro pins s U H xs us Q I r h;obtain⟨p,ns,rfl,hq,hne,q⟩:=h;obtain⟨u,rfl,rx⟩:=vals1 r;cases rx;obtain⟨its,r',pl,hz⟩:=I.list hq;have hlen:ns.length=its.length:=by have:=r'.length;rw[length_map]at this;exact this
 have hv:∀i v,its.toArray[i]?=some v->∃t,v=Value.int (ns.getD i 0) t:=λi v e=>by
  have e':its[i]?=some v:=by simpa using e
  obtain⟨y,ey,ry⟩:=Aa r' e';rw[getElem?_map]at ey;cases hn:ns[i]? with
  |none=>rw[hn]at ey;cases ey
  |some n=>rw[hn]at ey;cases ey;obtain⟨t,et⟩:=ry;refine⟨t,?_⟩;rw[et,getD_eq_getElem?_getD,hn];rfl
 have hp:p≠s.heap.objs.size:=by obtain⟨o,ho,_⟩:=pl.isList;exact ne_of_lt (Heap.lt_size ho)
 refine call_max_walk (wpAny_pyIter_list pl.isList ⟨s.heap.objs.size,_,_,_,_,_,_,rfl,Walks.list (A:=X.A.in1) (show X.A.in1.handled=none from I.ok.hd hc) s.heap.objs.size p hp its.toArray,⟨⟨_,Heap.get?_push_size _ rfl,rfl,rfl⟩,?_⟩,λb hb=>?_,by simpa using(by lia:0<its.length),CmpOf.ints_gt (λi=>ns.getD i 0) hv,λv h' tk hP hk=>?_⟩)
 .obtain⟨o,ho,hr⟩:=pl.isList;exact⟨o,Heap.get?_push_of_some _ ho,hr⟩
 .rw[Heap.size_push];rcases mem_cons.mp hb with rfl|hb
  .exact lt_succ_self _
  .rw[mem_singleton.mp hb];obtain⟨o,ho,_⟩:=pl.isList;exact lt_succ_of_lt (Heap.lt_size ho)
 .obtain⟨t,rfl⟩:=hv _ _ hP;refine⟨V.int (ns.getD (argBest (λi j=>decide (ns.getD i 0>ns.getD j 0)) (its.toArray.size-1)) 0),H,I.kept (t':=tk) λb o e=>hk b o (λz=>?_) (Heap.get?_push_of_some _ e),⟨t,rfl⟩,q _ ?_ λa ha=>?_⟩
  .have:b=s.heap.objs.size:=by simpa using z
   have lt:=Heap.lt_size e;rw[this]at lt;exact lt_irrefl _ lt
  .have hb:=KR (λi j=>decide (ns.getD i 0>ns.getD j 0)) (its.toArray.size-1);have hs:its.toArray.size=its.length:=by simp
   generalize argBest (λi j=>decide (ns.getD i 0>ns.getD j 0)) (its.toArray.size-1)=j at hb;have hj:j<ns.length:=by lia
   rw[getD_eq_getElem?_getD,getElem?_eq_getElem hj];exact List.getElem_mem hj
  .obtain⟨i,hi,rfl⟩:=mem_iff_getElem.mp ha;have:=Lv (λi=>ns.getD i 0) (its.toArray.size-1) i (by simp;lia);rw[show ns.getD i 0=ns[i]by rw[getD_eq_getElem?_getD,getElem?_eq_getElem hi];rfl]at this;exact this
end
structure Lw (K:PySem.W.Frag)(C:Addr)(m:Str)(f:Addr):Prop where
 sp:PySem.W.specialIn K (.ref C) "__getattribute__"=some (some (.builtin "type.__getattribute__"))
 rd:PySem.W.readsIn K C (.type "type")=true
 at_:PySem.W.findCls K (.ref C) (.type "type") m=some (.val (.ref f))
 kp:PySem.W.keepIn K (.ref f)=true
section
variable {X:Cx}{CX:eK}{E:XK}{k:Nat}{f C:Addr}{fd:FuncData}{ps:List Str}{sp:Sp}{bG:List V}{ds:List Value}{x m:Str}{p apos pos:Pos}{e:Expr}{es:List Expr}{t:TA}
theorem VP {pl:Sem Bool}(hg:Gl X x)(hC:X.mg x=some (.ref C))(hm:Lw X.K C m f)(F:zi X.prog X.w X.K X.mg X.base CX k f fd ps sp)(hr:ba k X.A)(hb:Binds X.K fd ps ds)(hd:Vals bG ds)(hx:Passes CX X E)(ha:PA X (e::es) t)(cy:autoParam ((x==("__debug__":Str))=false) aP2)(fY:autoParam (starEach (e::es) X.env=(false,eval e X.env)::starEach es X.env) aP1)(cu:autoParam ((backTo pos (starEach es X.env)).any (·.1)=false) aP1)(ht:autoParam (eval (.Call (.Attribute (.Name x p) m apos) (e::es) [] pos) X.env=(do
   let ov<-eval (.Name x p) X.env
   standAt apos.atName
   let(f,first)<-holding [ov] (getMethod ov m pl)
   callWith pos f first (backTo pos (starEach (e :: es) X.env)) (backToKw pos (keywordEach [] X.env)))) aP1) :
  PE X (.Call (.Attribute (.Name x p) m apos) (e::es) [] pos) (Jy sp bG E t):=by
 intro pins s U H Q I h;refine PySem.W.methodCall_KW (pl:=pl) (aq (lq (Q:=EP X pins U λv H'=>v=V.ref C/\H'=H) I hg hC ⟨V.ref C,H,I,rfl,rfl,rfl⟩ cy) λu s1 zQ=>?_) ht;obtain⟨y,H1,I1,ry,ey,eH⟩:=zQ;subst ey eH;obtain rfl:u=Value.ref C:=ry;refine PySem.W.method_cls I1.aU hm.sp (PySem.W.cls_value I1.aU hm.rd hm.at_ rfl ?_);have I2:=I1.tok (s1.toks+1);refine PySem.W.callWith_K (first:=[]) (h₀:=X.base) I.ok.mod.iP hm.kp (aq (ha pos pins _ U H1 _ I2 h) λus s2 ⟨vs,H2,I3,r,q2⟩=>⟨I3.aU,?_⟩) fY cu;exact yV F hr hb hd hx I3 r q2
end
open AutoSeq1 (wpAny_loadPart')
theorem Lx {l:Addr}{its:List Value}{n:Nat}{x:Value}{e:Value->Bool}{j:Nat}{y:Value}(hj:its[j]?=some y)(hit:e y=true)(hz:its.length<=sizeLine):∀(d i:Nat),i+d=j->(∀m z,i<=m->m<j->its[m]?=some z->e z=false)->Meets (Builtin.«list.remove.loop» ⟨[.ref l,x,rawInt i],[]⟩) (λA R s=>s.heap.get? l=some {cls:=.type "list",dict:=none,data:=.seq its.toArray n,slots:=#[]}/\(∀u∈its,SeqAt.EqAt A.in1 s u x (e u))/\R (.ok (.ret .none)) {s with heap:=s.heap.update l (Obj.mapSeq λxs=>xs.eraseIdxIfInBounds j)})
 | d,i,hd,lD=>by
  intro prog w A R s h;obtain⟨hp,g,dp,tk,os⟩:=s;obtain⟨hl,he,h⟩:=h;have lt:i<its.length:=by have:=(List.getElem?_eq_some_iff.mp hj).1;lia
  obtain⟨v,hv⟩:∃v,its[i]?=some v:=⟨_,getElem?_eq_getElem lt⟩;have hi:its.toArray[((i:Nat):Int).toNat]?=some v:=by simpa using hv
  have zZ:its.toArray.size<=sizeLine:=by rw[size_toArray];exact hz
  wp_walk using wpAny_loadPart' hl;rw[hi];refine wpAny_bind (he v (mem_of_getElem? hv) prog w _ _ ?_);cases d with
  |zero=>
   have e1:i=j:=by lia
   subst e1;rw[hj]at hv;cases hv;rw[hit];wp_walk using wpAny_loadPart' hl;have small:(Obj.mapSeq (λx=>x.eraseIdxIfInBounds ((i:Nat):Int).toNat) {cls:=Value.type "list",data:=Data.seq its.toArray n}).data.pastItsLine=none:=by refine pastItsLine_seq (le_trans ?_ (Nat.le_succ_of_le hz));show(its.toArray.eraseIdxIfInBounds ((i:Nat):Int).toNat).size<=its.length;rw[List.eraseIdxIfInBounds_toArray,size_toArray];exact length_eraseIdx_le _ _
   rw[small];wp_walk;exact h
  |succ d=>
   rw[lD i v (le_refl _) (by lia) hv];wp_walk;have ec:((i:Int)+1)=((i+1:Nat):Int):=by push_cast;rfl
   rw[ec];refine⟨plainId_quiet MeetsSeq.plain_remove_loop _,codeAny_builtin MeetsSeq.entry_remove_loop ?_⟩;rw[Around.under_plainId MeetsSeq.plain_remove_loop _];exact Lx hj hit hz d (i+1) (by lia) (λm z h1 h2=>lD m z (by lia) h2) prog w A R _ ⟨hl,he,h⟩
theorem VQ {l:Addr}{its:List Value}{n:Nat}{x:Value}{e:Value->Bool}{j:Nat}{y:Value}(hj:its[j]?=some y)(hit:e y=true)(hz:its.length<=sizeLine)(lD:∀m z,m<j->its[m]?=some z->e z=false):Meets (Builtin.«list.remove» ⟨[.ref l,x],[]⟩) (λA R s=>s.heap.get? l=some {cls:=.type "list",dict:=none,data:=.seq its.toArray n,slots:=#[]}/\(∀u∈its,SeqAt.EqAt A.in1 s u x (e u))/\R (.ok (.ret .none)) {s with heap:=s.heap.update l (Obj.mapSeq λxs=>xs.eraseIdxIfInBounds j)}):=by
 intro prog w A R s h;obtain⟨hp,g,dp,tk,os⟩:=s;have go:=Lx (l:=l) (n:=n) (x:=x) hj hit hz j 0 (Nat.zero_add j) (λm z _ h2=>lD m z h2) prog w A R _ h;wp_walk using wpAny_loadPart' h.1;refine⟨plainId_quiet MeetsSeq.plain_remove_loop _,codeAny_builtin MeetsSeq.entry_remove_loop ?_⟩;rw[Around.under_plainId MeetsSeq.plain_remove_loop _];exact go
noncomputable def VR (K:PySem.W.Frag):V->List V->Hp->VK->Prop:=λx vs H Q=>∃l xs y n cq,x= .ref l/\vs=[y]/\H l=some (.lst xs)/\lO K H y n/\Paired (lO K H) xs cq/\n∈cq/\Q .aj (upd H l (.lst (xs.eraseIdx (cq.idxOf n))))
section
variable {X:Cx}
theorem VS (hu:X.A.units+64<cLine):CY X "list.remove" (VR X.K):=by
 intro pins s U H x vs v us Q I rx rv h;obtain⟨l,xs,y,n,cq,rfl,rfl,hH,hy,hs,hm,q⟩:=h;cases rx;obtain⟨u,rfl,ru⟩:=rv.one;obtain⟨z,its,k,r,hl,e⟩:=I.qO hH;have lx:=Paired.length hs;have hi:cq.idxOf n<cq.length:=List.idxOf_lt_length_iff.mpr hm;obtain⟨w,hw,cR⟩:=r.get (getElem?_eq_getElem (show cq.idxOf n<xs.length by lia));have is:∀(m:Nat)(v:Value),its[m]?=some v->∃t,cq[m]?=some t/\kH X.K H n v=decide (t=n):=λm v hv=>by obtain⟨x',gX,VT⟩:=Aa r hv;obtain⟨t,ht,q'⟩:=qx hs gX;exact⟨t,ht,DN I q' VT⟩
 have yes:kH X.K H n w=true:=by obtain⟨t,ht,q'⟩:=is _ _ hw;rw[getElem?_eq_getElem hi,List.getElem_idxOf hi]at ht;rw[q',<-Option.some.inj ht];exact decide_eq_true rfl
 refine call_meets F.slot_list_remove ⟨_,e,rfl⟩ F.entry_list_remove (F.args_list_remove_2 _ _) (VQ (e:=kH X.K H n) hw yes (by lia) (λm v aD hv=>?_)) ⟨e,λv hv=>KQ I ?_ hy ru r hs v hv,?_⟩
 .obtain⟨t,ht,q'⟩:=is _ _ hv;rw[q'];refine decide_eq_false λz=>?_;subst z;obtain⟨a1,b1⟩:=List.getElem?_eq_some_iff.mp ht;have no:=List.not_of_lt_findIdx (p:=(·==t)) (xs:=cq) (i:=m) aD;rw[b1]at no;simp at no
 .first|(have e:X.A.in1.units=X.A.units+1:=rfl;lia)|(have e:X.A.in1.units=X.A.units:=rfl;lia)|(have e:=Around.units_in1 X.A;lia)
 .refine⟨.aj,_,I.CZ (its':=its.eraseIdx (cq.idxOf n)) hH e ?_ (r.eraseIdx _) ?_,rfl,q⟩
  .show its.toArray.eraseIdxIfInBounds _=(its.eraseIdx _).toArray;rw[List.eraseIdxIfInBounds_toArray]
  .have:=length_eraseIdx_le xs (cq.idxOf n);lia
end
theorem ay {a b:Str}(h:¬a=b):(a==b)=false/\(b==a)=false:=⟨by simpa using h,by simpa using λz=>h z.symm⟩
structure Ly (K:PySem.W.Frag)(C:Addr):Prop where
 ha:PySem.W.findIn K (.ref C) "__class__"=some (some (.builtin "object.__class__"))
 hn:PySem.W.specialIn K (.builtin "object.__class__") "__get__"=some (some (.builtin "getset_descriptor.__get__"))
 tk:PySem.W.takesIn K (.builtin "object.__class__")=some true
 hm:PySem.W.mroIn K C (.type "object")=some true
 ki:PySem.W.kitOne K (.ref C) (.ref C)=some true
section
variable {K:PySem.W.Frag}{x qual:Str}{st:Stmt}{f:Addr}{fd:FuncData}{p1 p2 p3 p4 p5:Str}
noncomputable abbrev Ab (x qual:Str)(st:Stmt)(ps:List Str)(us:List Value):Prop:=∀(kV doc pm:Value)(an:Option Addr)(aT ct:Value),bindArgs (PySem.W.fnOf x qual (qP st) (iu st) (jo st) .none kV doc pm an aT ct) ⟨us,[]⟩=pure (ps.zip us)
theorem df (F:aw K x qual st f fd)(h:∀a,Ab x qual st [p1] [a]:=by exact λ_ _ _ _ _ _ _=>rfl):Binds K fd [p1] []:=F.binds λkV doc pm an aT ct us hl=>by obtain⟨a,rfl⟩:=length_eq_one_iff.mp hl;exact h a kV doc pm an aT ct
theorem rB {us:List Value}{n:Nat}(h:us.length=n+1):∃a r,us=a::r/\r.length=n:=by
 cases us with
 |nil=>cases h
 |cons a r=>exact⟨a,r,rfl,Nat.succ.inj h⟩
theorem cg (F:aw K x qual st f fd)(h:∀a b,Ab x qual st [p1,p2] [a,b]:=by exact λ_ _ _ _ _ _ _ _=>rfl):Binds K fd [p1,p2] []:=F.binds λkV doc pm an aT ct us hl=>by obtain⟨a,r1,rfl,h1⟩:=rB hl;obtain⟨b,rfl⟩:=length_eq_one_iff.mp h1;exact h a b kV doc pm an aT ct
theorem mO (F:aw K x qual st f fd)(h:∀a b c,Ab x qual st [p1,p2,p3] [a,b,c]:=by exact λ_ _ _ _ _ _ _ _ _=>rfl):Binds K fd [p1,p2,p3] []:=F.binds λkV doc pm an aT ct us hl=>by obtain⟨a,r1,rfl,h1⟩:=rB hl;obtain⟨b,r2,rfl,h2⟩:=rB h1;obtain⟨c,rfl⟩:=length_eq_one_iff.mp h2;exact h a b c kV doc pm an aT ct
theorem Ec (F:aw K x qual st f fd)(h:∀a b c d,Ab x qual st [p1,p2,p3,p4] [a,b,c,d]:=by exact λ_ _ _ _ _ _ _ _ _ _=>rfl):Binds K fd [p1,p2,p3,p4] []:=F.binds λkV doc pm an aT ct us hl=>by obtain⟨a,r1,rfl,h1⟩:=rB hl;obtain⟨b,r2,rfl,h2⟩:=rB h1;obtain⟨c,r3,rfl,h3⟩:=rB h2;obtain⟨d,rfl⟩:=length_eq_one_iff.mp h3;exact h a b c d kV doc pm an aT ct
theorem Ed {k1:Str}(h:∀(s:Shared) a b,BindsTo s fd ⟨[a],[(k1,b)]⟩ [(p1,a),(p2,b)]):gP K fd [p1,p2] [k1] kD kD:=⟨λs us ws _ hl=>by rcases us with _|⟨a,_|⟨_,_⟩⟩<;>rcases ws with _|⟨b,_|⟨_,_⟩⟩;all_goals first|exact h s a b|(cases hl),λr1 r2=>Ti r1 r2⟩
theorem Lz {k1 k2:Str}(h:∀(s:Shared) a b c,BindsTo s fd ⟨[a],[(k1,b),(k2,c)]⟩ [(p1,a),(p2,b),(p3,c)]):gP K fd [p1,p2,p3] [k1,k2] mJ mJ:=⟨λs us ws _ hl=>by rcases us with _|⟨a,_|⟨_,_⟩⟩<;>rcases ws with _|⟨b,_|⟨c,_|⟨_,_⟩⟩⟩;all_goals first|exact h s a b c|(cases hl),λr1 r2=>T1 r1 r2⟩
end
end L2
namespace PySem
open Sem (wp)
section
variable {prog:Program}{w:World}{K:Type}[DecidableEq K](knd:KeyKind prog w K)
noncomputable def yj (h:Heap)(k:List K×List K)(a:Addr):Prop:=∃o b c n,h.get? a=some o/\o.cls= .type "tuple"/\o.data= .seq #[.ref b,.ref c] n/\IsTupleKey knd h k.1 b/\IsTupleKey knd h k.2 c
variable {knd}
theorem yj.typeIs {s:Shared}{k:List K×List K}{a:Addr}(x:yj knd s.heap k a):s.TypeIs (.ref a) "tuple":=let⟨o,_,_,_,ho,hc,_⟩:=x;⟨o,ho,hc⟩
theorem yj.inj {h:Heap}{a:Addr}{x y:List K×List K}(hx:yj knd h x a)(hy:yj knd h y a):x=y:=by obtain⟨o,b,c,n,ho,_,hd,h1,h2⟩:=hx;obtain⟨o',b',c',n',aV,_,aZ,de,fJ⟩:=hy;rw[ho]at aV;cases aV;rw[hd]at aZ;cases aZ;exact Prod.ext (h1.inj de) (h2.inj fJ)
theorem yj.keeps {h h':Heap}{k:List K×List K}{a d:Addr}{o:Obj}{es ep}(x:yj knd h k a)(ho:h.get? d=some o)(hd:o.data= .dict es ep)(hs:Heap.SameBut d h h'):yj knd h' k a:=by
 obtain⟨o',b,c,n,aV,hc,aZ,h1,h2⟩:=x;have ne:a≠d:=λe=>by rw[e,ho]at aV;cases aV;rw[hd]at aZ;cases aZ
 exact⟨o',b,c,n,(hs.2 a ne).trans aV,hc,aZ,h1.keeps ho hd hs,h2.keeps ho hd hs⟩
noncomputable def Ee (knd:KeyKind prog w K)(k:List K×List K):Int:=reduceHash (Builtin.Tuple.tupleHashOf [tupleKeyHash knd k.1,tupleKeyHash knd k.2])
variable {A:Around}{E:Value->Shared->Prop}{s:Shared}
theorem VU {k:List K×List K}{a:Addr}{Q:Int->Shared->Prop}(hu:A.units+1<cLine)(hk:yj knd s.heap k a)(h:Q (Ee knd k) {s with toks:=s.toks+(k.1.length+k.2.length+3)}):wpAny (model prog w) A (pyHash (.ref a)) Q E s:=by
 have hT:=hk.typeIs;obtain⟨o,b,c,n,ho,_,hd,h1,h2⟩:=hk;have n0:(some (Value.builtin "tuple.__hash__")==some Value.none)=false:=by rw[beq_builtin_none]
 unfold pyHash pyHashByItsType;refine wpAny_bind (wpAny_cRoomFor_or (.inr (by lia)) (wpAny_bind (wpAny_specialOf hT F.slot_tuple_hash.lookup ?_)));rw[n0];refine wpAny_bind (wpAny_specialOf hT F.slot_tuple_hash.lookup ?_);refine wpAny_bind (wpAny_callSpecialIfBoundUnlessNone?_slot hT F.slot_tuple_hash (wpAny_call_entry F.slot_tuple_hash hT F.entry_tuple_hash ?_ (F.args_tuple_hash_1 _)));show wpAny _ _ (Builtin.Tuple.tupleItemsOf (.ref a) >>= _) _ _ s;refine wpAny_bind (wpAny_tupleItemsOf ho hd (wpAny_bind ?_));rw[<-Array.forIn_toList];simp only[forIn_cons,forIn_nil];have hi:(A.in1).units<cLine:=by show A.units+1<cLine;exact hu
 refine wpAny_bind (wpAny_bind (wpAny_pyHash_tuple hi h1 ?_));refine wpAny_pure ?_;dsimp only;refine wpAny_bind (wpAny_bind (wpAny_pyHash_tuple (s:={s with toks:=s.toks+(k.1.length+1)}) hi h2 (wpAny_pure (wpAny_pure ?_))));refine wpAny_ret_mkInt ?_;have tk:s.toks+(k.1.length+1)+(k.2.length+1)+1=s.toks+(k.1.length+k.2.length+3):=by lia
 unfold Ee reduceHash at h;show wpAny _ _ (pyHashByItsType.reduced (Builtin.Tuple.tupleHashOf [tupleKeyHash knd k.1,tupleKeyHash knd k.2])) _ _ _;unfold pyHashByItsType.reduced;rw[<-tk]at h;split at h
 .rename_i z;rw[if_pos z];exact wpAny_pure h
 .rename_i z;rw[if_neg z];exact wpAny_bind (wpAny_rule (wpAny_pure h))
theorem VV {x y:List K×List K}{a b:Addr}{Q:Bool->Shared->Prop}(hu:A.units+1<cLine)(hx:yj knd s.heap x a)(hy:yj knd s.heap y b)(h:Q (decide (x=y)) s):wpAny (model prog w) A (eqBool (.ref a) (.ref b)) Q E s:=by
 have tx:=hx.typeIs;have ty:=hy.typeIs;have same:a=b->x=y:=λe=>by subst e;exact hx.inj hy
 obtain⟨o,b1,c1,n,ho,_,hd,h1,h2⟩:=hx;obtain⟨o',b2,c2,n',aV,_,aZ,de,fJ⟩:=hy;unfold eqBool;refine wpAny_holding ?_;by_cases ab:a=b
 .rw[if_pos (by rw[ab];exact beq_self_eq_true _)];rw[decide_eq_true (same ab)]at h;exact wpAny_bind (wpAny_rule (wpAny_pure h))
 .rw[if_neg (λz=>ab (Value.ref.inj (eq_of_beq z)))];refine wpAny_bind (wpAny_richCompare_same_room (op:=.Eq) tx ty F.slot_tuple_eq (wpAny_call_entry F.slot_tuple_eq tx F.entry_tuple_eq ?_ (F.args_tuple_eq_2 _ _)) (by lia));show wpAny _ _ (isInstance (.ref b) (.type "tuple") >>= _) _ _ s;refine wpAny_bind (wpAny_isInstance ty isSubtype_tuple_tuple ?_);rw[if_neg (by decide)];refine wpAny_bind (wpAny_tupleItemsOf ho hd (wpAny_bind (wpAny_tupleItemsOf aV aZ (wpAny_bind ?_))));have hi:(A.in1).units<cLine:=by
   show A.units+1<cLine;exact hu
  simp only[zip_cons_cons,zip_nil_right,forIn_cons,forIn_nil];have no:decide (x=y)=false->∃v,Fin.done (Flow.ret (.bool false))=Fin.done (Flow.ret v)/\v≠Value.notImplemented/\wpAny (model prog w) A (truthOfDropped v) Q E s:=λe=>⟨_,rfl,(λz=>nomatch z),wpAny_truthy_bool (by rw[e]at h;exact h)⟩;refine wpAny_bind (wpAny_bind (wpAny_eqBool_tuple hi h1 de ?_));by_cases z1:x.1=y.1
  .rw[decide_eq_true z1,if_neg (by decide)];refine wpAny_pure ?_;dsimp only;refine wpAny_bind (wpAny_bind (wpAny_eqBool_tuple hi h2 fJ ?_));by_cases z2:x.2=y.2
   .rw[decide_eq_true z2,if_neg (by decide)];refine wpAny_pure (wpAny_pure (wpAny_pure ⟨_,rfl,(λz=>nomatch z),wpAny_truthy_bool ?_⟩));rw[decide_eq_true (Prod.ext z1 z2)]at h;exact h
   .rw[decide_eq_false z2,if_pos (by decide)];exact wpAny_bind (wpAny_pure (wpAny_pure (wpAny_pure (wpAny_pure (no (decide_eq_false λe=>z2 (by rw[e])))))))
  .rw[decide_eq_false z1,if_pos (by decide)];exact wpAny_bind (wpAny_pure (wpAny_pure (wpAny_pure (wpAny_pure (no (decide_eq_false λe=>z1 (by rw[e])))))))
theorem LA (n:Nat){ks:List K}{a:Addr}{Q:Bool->Shared->Prop}(hk:IsTupleKey knd s.heap ks a)(h:Q true s):wpAny (model prog w) A (eqIsQuiet (n+1) (.ref a)) Q E s:=by
 have hT:=hk.typeIs;obtain⟨o,items,m,ho,_,hd,hi⟩:=hk;unfold eqIsQuiet;refine wpAny_bind (wpAny_specialOf hT F.slot_tuple_eq.lookup ?_);show wpAny _ _ (isInstance (.ref a) (.type "tuple") >>= _) _ _ s;refine wpAny_bind (wpAny_isInstance hT isSubtype_tuple_tuple ?_);rw[if_neg (by decide)];refine wpAny_bind (wpAny_seqItems ho hd (wpAny_bind ?_));show wpAny _ _ (forIn items _ _) _ _ s;rw[<-Array.forIn_toList];have q:=hi.byValue;generalize items.toList=l at q;clear hi hd;induction l with
 |nil=>exact wpAny_pure (wpAny_pure h)
 |cons v l ih=>rw[forIn_cons,eqIsQuiet_byValue _ (q v mem_cons_self)];refine wpAny_bind (wpAny_bind (wpAny_pure ?_));rw[if_neg (by decide)];exact wpAny_pure (ih λu hu=>q u (mem_cons_of_mem _ hu))
theorem VW {k:List K×List K}{a:Addr}{Q:Bool->Shared->Prop}(hk:yj knd s.heap k a)(h:Q true s):wpAny (model prog w) A (eqIsQuiet 8 (.ref a)) Q E s:=by have hT:=hk.typeIs;obtain⟨o,b,c,m,ho,_,hd,h1,h2⟩:=hk;unfold eqIsQuiet;refine wpAny_bind (wpAny_specialOf hT F.slot_tuple_eq.lookup ?_);show wpAny _ _ (isInstance (.ref a) (.type "tuple") >>= _) _ _ s;refine wpAny_bind (wpAny_isInstance hT isSubtype_tuple_tuple ?_);rw[if_neg (by decide)];refine wpAny_bind (wpAny_seqItems ho hd (wpAny_bind ?_));show wpAny _ _ (forIn #[Value.ref b,Value.ref c] _ _) _ _ s;rw[<-Array.forIn_toList];simp only[forIn_cons,forIn_nil];refine wpAny_bind (wpAny_bind (LA 6 h1 ?_));rw[if_neg (by decide)];refine wpAny_pure (wpAny_bind (wpAny_bind (LA 6 h2 ?_)));rw[if_neg (by decide)];exact wpAny_pure (wpAny_pure (wpAny_pure h))
end
noncomputable def rE {prog:Program}{w:World}{K:Type}[DecidableEq K](knd:KeyKind prog w K):HeapKind prog w (List K×List K) where
 is:=yj knd
 hash:=Ee knd
 draws:=λk=>k.1.length+k.2.length+3
 room:=λA=>A.units+1<cLine
 inj:=λhx hy=>hx.inj hy
 keeps:=λx ho hd hs=>x.keeps ho hd hs
 pyHash:=λhu hk h=>VU hu hk h
 eqBool:=λhu hx hy h=>VV hu hx hy h
 quiet:=λhk h=>VW hk h
end PySem
namespace L2
open PySem PySem.Spec PyProof.Rows
noncomputable abbrev K2:=List Key×List Key
noncomputable def gZ (H:Hp)(k:K2)(b:Addr):Prop:=∃c d,H b=some (.tup [.ref c,.ref d])/\H c=some (.tup (k.1.map kV))/\H d=some (.tup (k.2.map kV))
theorem gZ.keeps {H H':Hp}{k:K2}{b:Addr}(h:gZ H k b)(ht:∀b ys,H b=some (.tup ys)->H' b=some (.tup ys)):gZ H' k b:=let⟨c,d,h1,h2,h3⟩:=h;⟨c,d,ht _ _ h1,ht _ _ h2,ht _ _ h3⟩
noncomputable abbrev P2:=List (K2×Addr×V)
noncomputable def dU (xs:P2)(k:K2):Option V:=(xs.find? λx=>decide (x.1=k)).map (·.2.2)
noncomputable abbrev Ac:P2->List (K2×Addr×Value)->Prop:=Paired λp q=>p.1=q.1/\p.2.1=q.2.1/\RelV p.2.2 q.2.2
theorem Ac.val {xs:P2}{ys:List (K2×Addr×Value)}(r:Ac xs ys)(k:K2):dI (dU xs k) ((atKey ys k).map (·.2)):=by
 induction r with
 |nil=>exact True.intro
 |@cons p q ps qs h t ih=>
  obtain⟨h1,_,h2⟩:=h;by_cases e:p.1=k
  .have e':q.1=k:=h1.symm.trans e;simp only[dU,atKey,find?_cons,e,e',decide_true];exact h2
  .have e':¬q.1=k:=λz=>e (h1.trans z);simp only[dU,atKey,find?_cons,e,e',decide_false];exact ih
theorem VX {α β:Type}{F:α->β->Prop}{xs:List α}{ys:List β}(p:Paired F xs ys){i:Nat}{y:β}(e:ys[i]?=some y):∃x,xs[i]?=some x/\F x y:=by have l:=Paired.length p;have hi:=(List.getElem?_eq_some_iff.mp e).1;obtain⟨z,ez,f⟩:=qx p (getElem?_eq_getElem (show i<xs.length by lia));rw[e]at ez;cases ez;exact⟨_,getElem?_eq_getElem _,f⟩
section
variable {P:Program}{w:World}{H:Hp}{h:Heap}{a b:Addr}{k:K2}{xs:P2}
theorem Ef (ok:bJ P w H h)(e:gZ H k b):(rE (qh P w)).is h k b:=by obtain⟨c,d,h1,h2,h3⟩:=e;obtain⟨_,its,r,o,e1,e2,n,e3⟩:=(show ym P w H h b (.tup [.ref c,.ref d])from ok b _ h1);obtain⟨u,v,rfl,ru,rv⟩:=r.two;cases(show u=Value.ref c from ru);cases(show v=Value.ref d from rv);exact⟨o,c,d,n,e1,e2,e3,kA ok h2,kA ok h3⟩
noncomputable def LB (P:Program)(w:World)(a:Addr)(xs:P2)(h:Heap):Prop:=xs.length<=sizeLine/\(a==sysModules)=false/\∃ys,Ac xs ys/\∃o es ep,h.get? a=some o/\o.ExactDict/\o.data= .dict es ep/\es.toList=ys.map (entryOfKey (rE (qh P w)))/\(ys.map (·.1)).Nodup
noncomputable def dP (P:Program)(w:World)(a:Addr)(xs:P2):HO:=.ext (LB P w a xs)
theorem VY {H':Hp}(x:LB P w a xs h):ym P w H' h a (dP P w a xs):=by
 refine⟨x,?_,λh1 h2 y k=>?_⟩
 .obtain⟨_,_,_,_,o,_,_,e,_⟩:=x;exact⟨o,e⟩
 .obtain⟨l,n,ys,r,o,es,ep,e,z⟩:=y;exact⟨l,n,ys,r,o,es,ep,k o e,z⟩
noncomputable def mP (P:Program)(w:World)(H:Hp)(a:Addr)(xs:P2):Prop:=(Rd H a (dP P w a xs)\/xs=[]/\Rd H a (.dT []))/\∀x∈xs,gZ H x.1 x.2.1
theorem Eg (ok:bJ P w H h)(e:mP P w H a xs):xs.length<=sizeLine/\(a==sysModules)=false/\∃ys,Ac xs ys/\h.DictOfH (rE (qh P w)) a ys:=by
 obtain⟨r|⟨rfl,r⟩,ps⟩:=e
 .obtain⟨⟨l,n,ys,rel,o,es,ep,h1,h2,h3,h4,h5⟩,_⟩:=(show ym P w H h a (dP P w a xs)from r.ok ok);refine⟨l,n,ys,rel,o,es,ep,h1,h2,h3,h4,λy hy=>?_,h5⟩;obtain⟨i,hi⟩:=List.mem_iff_getElem?.mp hy;obtain⟨x,hx,e1,e2,_⟩:=VX rel hi;have:=Ef ok (ps x (mem_of_getElem? hx));rw[e1,e2]at this;exact this
 .obtain⟨_,n,ys,rel,o,es,ep,h1,h2,h3,h4,h5⟩:=(show ym P w H h a (.dT [])from r.ok ok);cases rel;exact⟨zero_le _,n,[],.nil,o,es,ep,h1,h2,h3,h4,(λ_ z=>by cases z),.nil⟩
end
noncomputable def Eh (P:Program)(w:World)(H:Hp)(a:Addr):Prop:=Ka H a\/∃xs,mP P w H a xs
noncomputable def LC (P:Program)(w:World)(H:Hp)(a:Addr)(y:V)(o:Option V):Prop:=lI H a y o\/∃xs k b,mP P w H a xs/\y= .ref b/\gZ H k b/\o=dU xs k
section
variable {X:Cx}{pins:List (Addr×Obj)}{U:St}{H:Hp}{s:Shared}{a:Addr}
theorem LF (I:Inv X pins U H s)(d:Eh X.prog X.w H a):s.TypeIs (.ref a) "dict"/\(∀b,Value.ref a= .ref b->∃ob,s.heap.get? b=some ob/\ob.dict=none):=by
 rcases d with d|⟨xs,e⟩
 .obtain⟨h1,h2,_⟩:=SG I d;exact⟨h1,h2⟩
 .obtain⟨_,hd,ys,_,dd⟩:=Eg I.ag e;refine⟨dd.typeIs,λb q=>?_⟩;cases q;obtain⟨ob,_,_,h1,h2,_⟩:=dd;exact⟨ob,h1,h2.2.1⟩
theorem LG {prog:Program}{w:World}{A:Around}(hu:A.units+2<cLine):(rE (qh prog w)).room A.in1:=hu
theorem VZ {A:Around}{E:Value->Shared->Prop}{y d:V}{u r:Value}{o:Option V}{Q:Value->Shared->Prop}(hu:A.units+2<cLine)(I:Inv X pins U H s)(g:LC X.prog X.w H a y o)(ry:RelV y u)(rd:RelV d r)(h:∀w' s',Inv X pins U H s'->RelV (o.getD d) w'->Q w' s'):wpAny (model X.prog X.w) A (call (.builtin "dict.get") [.ref a,u,r]) Q E s:=by
 rcases g with g|⟨xs,k,b,e,rfl,eb,rfl⟩
 .exact SH (by lia) I g ry rd h
 .cases(show u=Value.ref b from ry);obtain⟨z,hd,ys,rel,dd⟩:=Eg I.ag e;exact call_meetsIn PySem.F.slot_dict_get dd.typeIs PySem.F.entry_dict_get (PySem.F.args_dict_get_3 _ _ _) (meetsH_dict_get_default (rE (qh X.prog X.w)) a b hd r) ⟨LG hu,k,ys,Ef I.ag eb,dd,h _ _ (I.tok _) ((rel.val k).getD rd)⟩
end
noncomputable def V0 (P:Program)(w:World)(td ty tx:TE):TE:=λ U H Q=>td U H λx H1=>∃a,x= .ref a/\Eh P w H1 a/\ty U H1 λy H2=>tx U H2 λz H3=>∃o,LC P w H3 a y o/\Q (o.getD z) H3
noncomputable def V1 (P:Program)(w:World)(td ty tx:TE):TE:=λ U H Q=>td U H λx H1=>∃a,x= .ref a/\Eh P w H1 a/\ty U H1 λy H2=>tx U H2 λz H3=>(∃aa k b,H3 a=some (.dT aa)/\y= .ref b/\H3 b=some (.tup (k.map kV))/\aa.length<sizeLine/\(∀v,br aa k=some v->Q v H3)/\(br aa k=none->Q z (upd H3 a (.dT (putK aa k z)))))\/(∃xs k b,fw (H3 a)/\mP P w H3 a xs/\y= .ref b/\gZ H3 k b/\xs.length<sizeLine/\(∀v,dU xs k=some v->Q v H3)/\(dU xs k=none->Q z (upd H3 a (dP P w a (xs++[(k,b,z)])))))
section
variable {X:Cx}{o e f:Expr}{apos az:Pos}{td ty tx:TE}
theorem LH (hu:X.A.units+2<cLine)(ho:PE X o td)(he:PE X e ty)(hf:PE X f tx)(m:M2 X o "get" apos e f az):PE X (.Call (.Attribute o "get" apos) [e,f] [] az) (V0 X.prog X.w td ty tx):=by
 intro pins s U H Q I h;refine wpAny_Call_method m.base m.few m.line PySem.F.plainAttrs_dict PySem.F.slot_dict_get PySem.F.type_dict_get (aq (ho pins s U H _ I h) λu s1 zQ=>?_);obtain⟨x,H1,I1,rx,a,ex,d,q1⟩:=zQ;subst ex;obtain rfl:u=Value.ref a:=rx;obtain⟨t1,t2⟩:=LF I1 d;refine⟨t1,t2,?_⟩;rw[m.trees];refine Calls.callWith_builtin rfl (Calls.evalArgs_plain (Calls.spliced_cons (aq (he pins s1 U H1 _ I1 q1) λiv s2 ⟨y,H2,I2,ry,q2⟩=>Calls.spliced_cons (aq (hf pins s2 U H2 _ I2 q2) λfv s3 ⟨z,H3,I3,rz,ov,g,q3⟩=>Calls.spliced_nil ?_))));exact VZ hu I3 g ry rz λw' s4 I4 cR=>⟨_,H3,I4,cR,q3⟩
theorem V2 (hu:X.A.units+2<cLine)(ho:PE X o td)(he:PE X e ty)(hf:PE X f tx)(m:M2 X o "setdefault" apos e f az):PE X (.Call (.Attribute o "setdefault" apos) [e,f] [] az) (V1 X.prog X.w td ty tx):=by
 intro pins s U H Q I h;refine wpAny_Call_method m.base m.few m.line PySem.F.plainAttrs_dict PySem.F.slot_dict_setdefault PySem.F.type_dict_setdefault (aq (ho pins s U H _ I h) λu s1 zQ=>?_);obtain⟨x,H1,I1,rx,a,ex,d,q1⟩:=zQ;subst ex;obtain rfl:u=Value.ref a:=rx;obtain⟨t1,t2⟩:=LF I1 d;refine⟨t1,t2,?_⟩;rw[m.trees];refine Calls.callWith_builtin rfl (Calls.evalArgs_plain (Calls.spliced_cons (aq (he pins s1 U H1 _ I1 q1) λiv s2 ⟨y,H2,I2,ry,q2⟩=>Calls.spliced_cons (aq (hf pins s2 U H2 _ I2 q2) λfv s3 ⟨z,H3,I3,rz,q3⟩=>Calls.spliced_nil ?_))));rcases q3 with⟨aa,k,b,ea,rfl,eb,hl,g1,g2⟩|⟨xs,k,b,mu,ea,rfl,eb,hl,g1,g2⟩
 .cases(show iv=Value.ref b from ry);obtain⟨hz,hd,ys,rel,dd⟩:=C8 I3.ag ea;have zM:ys.length<=sizeLine:=by rw[<-Paired.length rel];exact hz
  refine call_meetsIn PySem.F.slot_dict_setdefault dd.typeIs PySem.F.entry_dict_setdefault (PySem.F.args_dict_setdefault_3 _ _ _) (KU (tupleKind (qh X.prog X.w)) a b hd fv) ⟨tupleKind_room_in1 (by lia),k,ys,kA I3.ag eb,dd,zM,λp hp=>?_,λhn h' gS hs=>?_⟩
  .have rv:=rel.val k;rw[hp]at rv;cases hv:br aa k with
   |none=>rw[hv]at rv;cases rv
   |some v=>rw[hv]at rv;exact⟨v,H3,I3.tok _,rv,g1 v hv⟩
  .have rv:=rel.val k;rw[hn]at rv;have hv:br aa k=none:=by
    cases hv:br aa k with
    |none=>rfl
    |some v=>rw[hv]at rv;cases rv
   have oh:(putK aa k z).length<=sizeLine:=by have:=tF aa k z;lia
   have uR:=rel.put k eb rz;rw[storedH_new hn]at uR;obtain⟨q,es,ep,hq,h2,h3,h4,_,h5⟩:=gS;refine⟨z,_,qQ (ob:=.dT (putK aa k z)) I3 (by rw[ea];exact True.intro) hs ⟨q,hq⟩ ⟨oh,hd,_,uR.keeps λc ys ec=>?_,q,es,ep,hq,h2,h3,h4,h5⟩,rz,g2 hv⟩;rw[jd (ie ec ea (λz=>nomatch z))];exact ec
 .cases(show iv=Value.ref b from ry);obtain⟨hz,hd,ys,rel,dd⟩:=Eg I3.ag ea;have zM:ys.length<=sizeLine:=by rw[<-Paired.length rel];exact hz
  refine call_meetsIn PySem.F.slot_dict_setdefault dd.typeIs PySem.F.entry_dict_setdefault (PySem.F.args_dict_setdefault_3 _ _ _) (KU (rE (qh X.prog X.w)) a b hd fv) ⟨LG hu,k,ys,Ef I3.ag eb,dd,zM,λp hp=>?_,λhn h' gS hs=>?_⟩
  .have rv:=rel.val k;rw[hp]at rv;cases hv:dU xs k with
   |none=>rw[hv]at rv;cases rv
   |some v=>rw[hv]at rv;exact⟨v,H3,I3.tok _,rv,g1 v hv⟩
  .have rv:=rel.val k;rw[hn]at rv;have hv:dU xs k=none:=by
    cases hv:dU xs k with
    |none=>rfl
    |some v=>rw[hv]at rv;cases rv
   obtain⟨q,es,ep,hq,h2,h3,h4,_,h5⟩:=gS;exact⟨z,_,qQ (ob:=dP X.prog X.w a (xs++[(k,b,z)])) I3 mu hs ⟨q,hq⟩ (VY ⟨by rw[length_append];exact hl,hd,_,Paired.snoc rel ⟨rfl,rfl,rz⟩,q,es,ep,hq,h2,h3,h4,h5⟩),rz,g2 hv⟩
end
noncomputable def uT (P:Program)(w:World)(a:Addr)(o:Obj)(xs:P2):It where
 go:=λi H=>i<xs.length/\H a=some (.aE o (dP P w a xs))
 dz:=λi H x H'=>H'=H/\∃y,xs[i]?=some y/\x= .ref y.2.1
 stop:=λi H=>xs.length<=i/\H a=some (.aE o (dP P w a xs))
theorem V3 {P:Program}{w:World}{K:PySem.W.Frag}{tg:Expr}(a it:Addr)(o:Obj)(xs:P2)(es:Array DictEntry)(ep:Nat)(hd:o.data= .dict es ep):Turn P w K tg (uT P w a o xs) [it] it (λi h=>h.IsKeyIter it a i xs.length ep) where
 mem:=by simp
 obj:=λi h st b hb=>by
  have e:b=it:=by simpa using hb
  subst e;obtain⟨o,e,c,d⟩:=st;exact⟨o,e,λv z=>by rw[d]at z;cases z⟩
 keep:=λi h h' st k=>st.at λo e=>k it (by simp) o e
 item:=by
  intro X hP hw hK hc i pins s U H E I hf st hg;subst hP hw hK;obtain⟨hi,hq⟩:=hg;obtain⟨ho,⟨hz,hs,ys,r,o',fA,dN,aV,gX,aZ,he,nd⟩,_⟩:=I.ag a _ hq;cases Option.some.inj (aV.symm.trans ho);rw[hd]at aZ;cases aZ;have hsz:es.size=xs.length:=by have e1:=congrArg List.length he;rw[length_map,<-Paired.length r]at e1;simpa using e1
  obtain⟨y,ey,e1,e2,e3⟩:=qx r (getElem?_eq_getElem hi);have aD:i<es.size:=by lia
  have cp:es[i].key= .ref y.2.1:=by
   have h1:es.toList[i]?=some es[i]:=by simp[aD]
   rw[he,getElem?_map,ey]at h1;rw[<-Option.some.inj h1];rfl
  obtain⟨f0,f1,f2,f3,f4,f5⟩:=hf it (by simp);rw[<-hsz]at st;refine KW st ho hd aD λh' bF sb=>?_;have I1:Inv X pins U H {s with heap:=h'}:=I.turned (t':=s.toks) (λb o hb e=>(sb.2 b hb).trans e) f0 f1 f3 f4 f5;rw[hsz]at bF;rw[cp,<-e2];obtain⟨oi,ei,ci,di⟩:=id bF;exact⟨_,rfl,nO (s:={s with heap:=h'}) ei ci di (by decide) ⟨.ref _,H,I1,rfl,⟨rfl,_,getElem?_eq_getElem hi,rfl⟩,bF,λb hb=>(hf b hb).1⟩⟩
 done:=by
  intro X hP hw hK hc i pins s U H E I hf st hg;subst hP hw hK;obtain⟨hi,hq⟩:=hg;obtain⟨ho,⟨hz,hs,ys,r,o',fA,dN,aV,gX,aZ,he,nd⟩,_⟩:=I.ag a _ hq;cases Option.some.inj (aV.symm.trans ho);rw[hd]at aZ;cases aZ;have hsz:es.size=xs.length:=by have e1:=congrArg List.length he;rw[length_map,<-Paired.length r]at e1;simpa using e1
  obtain⟨f0,f1,f2,f3,f4,f5⟩:=hf it (by simp);rw[<-hsz]at st;exact KY (I.ok.hd hc) st ho hd (by lia) λh' eb=>⟨rfl,I.turned (t':=s.toks) (λb o hb e=>eb b o hb e) f0 f1 f3 f4 f5⟩
 self:=λ_ _ _ _ _ st h=>wpAny_pyIter_keyiter st h
noncomputable def V4 (P:Program)(w:World)(tl:TE):TI:=λ U H R=>tl U H λx H1=>∃a,x= .ref a/\((∃aa,H1 a=some (.dT aa)/\∀o,R (tY a o aa) (upd H1 a (.aE o (.dT aa))))\/∃xs,H1 a=some (dP P w a xs)/\∀o,R (uT P w a o xs) (upd H1 a (.aE o (dP P w a xs))))
theorem V5 {X:Cx}{tg l:Expr}{tl:TE}(hl:PE X l tl):PI X tg l (V4 X.prog X.w tl):=by
 intro pins s U H R I h;refine aq (hl pins s U H _ I h) λv s1 zQ=>?_;obtain⟨x,H1,I1,r1,q1⟩:=zQ;obtain⟨a,rfl,⟨aa,hq,q⟩|⟨xs,hq,q⟩⟩:=q1
 .cases r1;obtain⟨hz,hs,ys,r,o,es,ep,ho,hx,hd,he,nd⟩:=I1.ag a _ hq;have hsz:es.size=aa.length:=by
   have e1:=congrArg List.length he;rw[length_map,<-Paired.length r]at e1;simpa using e1
  refine KZ hs ho hx hd ?_;have I2:=I1.freeze (show fw (some (HO.dT aa))from True.intro) hq ho;have hn:upd H1 a (.aE o (.dT aa)) s1.heap.objs.size=none:=I2.ag.fresh (le_refl _);refine⟨s1.heap.objs.size,[s1.heap.objs.size],_,_,_,rfl,I2.kept (t':=s1.toks) λb o e=>Heap.get?_push_of_some _ e,UM a _ o aa es ep hd,?_,λb hb=>?_,q o⟩
  .rw[<-hsz];exact⟨_,Heap.get?_push_size _ rfl,rfl,rfl⟩
  .have e:b=s1.heap.objs.size:=by simpa using hb
   subst e;exact I2.mq (le_refl _) hn
 .cases r1;obtain⟨⟨hz,hs,ys,r,o,es,ep,ho,hx,hd,he,nd⟩,_⟩:=I1.ag a _ hq;have hsz:es.size=xs.length:=by
   have e1:=congrArg List.length he;rw[length_map,<-Paired.length r]at e1;simpa using e1
  refine KZ hs ho hx hd ?_;have I2:=I1.freeze (show fw (some (dP X.prog X.w a xs))from True.intro) hq ho;have hn:upd H1 a (.aE o (dP X.prog X.w a xs)) s1.heap.objs.size=none:=I2.ag.fresh (le_refl _);refine⟨s1.heap.objs.size,[s1.heap.objs.size],_,_,_,rfl,I2.kept (t':=s1.toks) λb o e=>Heap.get?_push_of_some _ e,V3 a _ o xs es ep hd,?_,λb hb=>?_,q o⟩
  .rw[<-hsz];exact⟨_,Heap.get?_push_size _ rfl,rfl,rfl⟩
  .have e:b=s1.heap.objs.size:=by simpa using hb
   subst e;exact I2.mq (le_refl _) hn
theorem Ae {A:Around}{k:Nat}(hr:ba k A):A.units+2<cLine:=lt_of_le_of_lt (Nat.add_le_add_left (by decide:2<=64) _) hr.units
end L2
namespace PySem
section
variable {prog:Program}{w:World}{A:Around}{E:Value->Shared->Prop}{s:Shared}
theorem Ei {it t:Addr}{i:Nat}{items:Array Value}{x:Value}{Q:Value->Shared->Prop}(hit:s.heap.IsTupleIter it t i)(ht:s.heap.IsTuple t items)(hx:items[i]?=some x)(hQ:∀h',h'.IsTupleIter it t (i+1)->Heap.SameBut it s.heap h'->Q x {s with heap:=h'}):wpAny (model prog w) A (Builtin.SmallTypes.nextOf (.ref it)) Q E s:=by
 obtain⟨o,ho,hc,hd⟩:=id hit;obtain⟨ot,Ej,_,m,Ek⟩:=ht;have hT:=hit.typeIs;unfold Builtin.SmallTypes.nextOf;refine wpAny_bind (wpAny_callSpecial?_slot hT F.slot_tuple_iterator_next (wpAny_call_entry F.slot_tuple_iterator_next hT F.entry_tuple_iterator_next ?_ (F.args_tuple_iterator_next_1 _)));show wpAny _ _ (field (.ref it) 0 >>= _) _ _ s;wp_walk using wpAny_field ho hd (x:=.ref t) rfl,wpAny_field ho hd (x:=.int i 0) rfl,wpAny_seqItems Ej Ek;rw[Int.toNat_natCast,hx];refine wpAny_bind (wpAny_setField ho hd (by simp) (wpAny_pure ⟨x,rfl,wpAny_pure (hQ _ ⟨_,Heap.get?_update_self _ ho (Obj.isFreed_of_fields (Obj.data_mapFields hd _)),(Obj.cls_mapFields ..).trans hc,?_⟩ (Heap.SameBut.update ..))⟩));rw[Obj.data_mapFields hd];simp[rawInt]
theorem LI {it t:Addr}{i:Nat}{items:Array Value}{Q:Value->Shared->Prop}(hh:A.handled=none)(hit:s.heap.IsTupleIter it t i)(ht:s.heap.IsTuple t items)(hx:items[i]?=none)(hE:∀h' e,Heap.ExtBut it s.heap h'->(∃o,h'.get? e=some o/\o.cls= .type "StopIteration")->E (.ref e) {s with heap:=h'}):wpAny (model prog w) A (Builtin.SmallTypes.nextOf (.ref it)) Q E s:=by
 obtain⟨o,ho,hc,hd⟩:=id hit;obtain⟨ot,Ej,_,m,Ek⟩:=ht;have hT:=hit.typeIs;unfold Builtin.SmallTypes.nextOf;refine wpAny_bind (wpAny_callSpecial?_slot hT F.slot_tuple_iterator_next (wpAny_call_entry F.slot_tuple_iterator_next hT F.entry_tuple_iterator_next ?_ (F.args_tuple_iterator_next_1 _)));show wpAny _ _ (field (.ref it) 0 >>= _) _ _ s;wp_walk using wpAny_field ho hd (x:=.ref t) rfl,wpAny_field ho hd (x:=.int i 0) rfl,wpAny_seqItems Ej Ek;rw[Int.toNat_natCast,hx];refine wpAny_bind (wpAny_rule (wpAny_bind (wpAny_setField ho hd (by simp) ?_)));unfold Builtin.SmallTypes.stopIteration newExc raiseNew newTuple firstArgMember;wp_walk using wpAny_newObj_type;all_goals first
  |exact hE _ _ (((Heap.SameBut.update ..).extBut.push _).push _) ⟨_,Heap.get?_push_size _ rfl,rfl⟩
  |(unfold autoParam;size_fits)
  |size_fits
structure rF (h:Heap)(z TI TO i1 i2 t1 t2:Addr)(f0:Value)(k:Nat):Prop where
 z:IsZip h z TI TO f0
 ti:IsPair h TI (.ref i1) (.ref i2)
 to:∃a b,IsPair h TO a b
 i1:h.IsTupleIter i1 t1 k
 i2:h.IsTupleIter i2 t2 k
theorem V6 {z TI TO i1 i2 t1 t2:Addr}{k:Nat}{xs ys:Array Value}{x y:Value}{Q:Value->Shared->Prop}(D:ZipApart z TI TO i1 i2 t1 t2)(Zq:rF s.heap z TI TO i1 i2 t1 t2 .none k)(h1:s.heap.IsTuple t1 xs)(h2:s.heap.IsTuple t2 ys)(hx:xs[k]?=some x)(hy:ys[k]?=some y)(hQ:∀h',rF h' z TI TO i1 i2 t1 t2 (rawInt s.heap.objs.size) (k+1)->IsPair h' s.heap.objs.size x y->(∀c o,c≠z->c≠TO->c≠i1->c≠i2->s.heap.get? c=some o->h'.get? c=some o)->Q (.ref s.heap.objs.size) {s with heap:=h'}):
  wpAny (model prog w) A (Builtin.«zip.__next__» ⟨[.ref z],[]⟩) (λfin s'=>∃v,fin= .done (.ret v)/\Q v s') E s:=by
 obtain⟨hz,rG,⟨a,b,uU⟩,j1,j2⟩:=Zq;show wpAny _ _ (field (.ref z) 2 >>= _) _ _ _;unfold Builtin.SmallTypes.ownedTupleIsFree;generalize hS:setField=SF;generalize hN:Builtin.SmallTypes.nextOf=NX;wp_walk using wpAny_field hz rfl (x:=.bool false) rfl,wpAny_field hz rfl (x:=.ref TI) rfl,wpAny_seqItems rG rfl,wpAny_field hz rfl (x:=.none) rfl,wpAny_field hz rfl (x:=.ref TO) rfl;subst hS hN;refine wpAny_setField_rec hz (by simp) λg mQ sg=>wpAny_bind ?_;have mQ:IsZip g z TI TO .ellipsis:=mQ;simp only[List.zipIdx_cons,List.zipIdx_nil,forIn_cons,forIn_nil];refine wpAny_bind (wpAny_bind (wpAny_onRaise ?_));show wpAny _ _ (Builtin.SmallTypes.nextOf (.ref i1) >>= _) _ _ _;refine wpAny_bind (Ei (j1.extBut sg.extBut D.i1z) (h1.extBut sg.extBut D.l1z) hx λg1 Af s1=>wpAny_pure ?_);have o1:IsPair g1 TO a b:=s1.extBut _ _ D.TOi1 (sg.extBut _ _ D.TOz uU);refine wpAny_bind (wpAny_seqItems o1 rfl (wpAny_bind (wpAny_updateSeq_pair o1 λg2 o2 s2=>wpAny_bind (wpAny_letGo (wpAny_pure ?_)))));refine wpAny_bind (wpAny_bind (wpAny_onRaise ?_));show wpAny _ _ (Builtin.SmallTypes.nextOf (.ref i2) >>= _) _ _ _;have k2:Heap.ExtBut z s.heap g:=sg.extBut;refine wpAny_bind (Ei (((j2.extBut k2 D.i2z).extBut s1.extBut D.i12.symm).extBut s2.extBut D.TOi2.symm) (((h2.extBut k2 D.l2z).extBut s1.extBut D.l2i1).extBut s2.extBut D.l2TO) hy λg3 V7 s3=>wpAny_pure ?_);have o3:IsPair g3 TO x b:=s3.extBut _ _ D.TOi2 o2;refine wpAny_bind (wpAny_seqItems o3 rfl (wpAny_bind (wpAny_updateSeq_pair o3 λg4 o4 s4=>wpAny_bind (wpAny_letGo (wpAny_pure (wpAny_pure ?_))))));have o4:IsPair g4 TO x y:=o4;have old:∀c o,c≠z->c≠TO->c≠i1->c≠i2->s.heap.get? c=some o->g4.get? c=some o:=λc o c1 c2 c3 c4 e=>s4.extBut _ _ c2 (s3.extBut _ _ c4 (s2.extBut _ _ c2 (s1.extBut _ _ c3 (k2 _ _ c1 e))));have z4:IsZip g4 z TI TO .ellipsis:=s4.extBut _ _ D.TOz.symm (s3.extBut _ _ D.i2z.symm (s2.extBut _ _ D.TOz.symm (s1.extBut _ _ D.i1z.symm mQ)));have n4:g4.objs.size=s.heap.objs.size:=by rw[s4.1,s3.1,s2.1,s1.1,sg.1]
 have j1:g4.IsTupleIter i1 t1 (k+1):=((Af.extBut s2.extBut D.TOi1.symm).extBut s3.extBut D.i12).extBut s4.extBut D.TOi1.symm;have j2:g4.IsTupleIter i2 t2 (k+1):=V7.extBut s4.extBut D.TOi2.symm;refine wpAny_bind (wpAny_seqItems o4 rfl (wpAny_bind (wpAny_newTuple ?_)));unfold Builtin.SmallTypes.ownedTupleHandOut;have z5:IsZip (g4.push {cls:=.type "tuple",data:=.seq #[x,y]}) z TI TO .ellipsis:=Heap.get?_push_of_some _ z4;refine wpAny_bind (wpAny_bind (wpAny_setField_rec z5 (by simp) λg6 z6 s6=>?_));have z6:IsZip g6 z TI TO (rawInt g4.objs.size):=z6;refine wpAny_setField_rec z6 (by simp) λg7 z7 s7=>wpAny_pure ⟨_,rfl,?_⟩;have up:∀c o,c≠z->g4.get? c=some o->g7.get? c=some o:=λc o c1 e=>s7.extBut _ _ c1 (s6.extBut _ _ c1 (Heap.get?_push_of_some _ e));have lz:z<g4.objs.size:=Heap.lt_size z4;have new:IsPair g7 g4.objs.size x y:=s7.extBut _ _ (ne_of_gt lz) (s6.extBut _ _ (ne_of_gt lz) (Heap.get?_push_size _ rfl));have z7:IsZip g7 z TI TO (rawInt g4.objs.size):=z7;show Q (.ref g4.objs.size) _;rw[n4]at z7 new⊢;exact hQ g7 ⟨z7,up _ _ D.TIz (old _ _ D.TIz D.TITO D.TIi1 D.TIi2 rG),⟨x,y,up _ _ D.TOz o4⟩,j1.extBut (λc o c1 e=>up c o c1 e) D.i1z,j2.extBut (λc o c1 e=>up c o c1 e) D.i2z⟩ new λc o c1 c2 c3 c4 e=>up c o c1 (old c o c1 c2 c3 c4 e)
theorem V8 {z TI TO i1 i2 t1 t2:Addr}{k:Nat}{xs ys:Array Value}{Q:Fin->Shared->Prop}(hh:A.handled=none)(D:ZipApart z TI TO i1 i2 t1 t2)(Zq:rF s.heap z TI TO i1 i2 t1 t2 .none k)(h1:s.heap.IsTuple t1 xs)(h2:s.heap.IsTuple t2 ys)(hx:xs[k]?=none\/ys[k]?=none)(hE:∀h' e,(∀c o,c≠z->c≠TO->c≠i1->c≠i2->s.heap.get? c=some o->h'.get? c=some o)->(∃o,h'.get? e=some o/\o.cls= .type "StopIteration")->E (.ref e) {s with heap:=h'}):
  wpAny (model prog w) A (Builtin.«zip.__next__» ⟨[.ref z],[]⟩) Q E s:=by
 obtain⟨hz,rG,⟨a,b,uU⟩,j1,j2⟩:=Zq;show wpAny _ _ (field (.ref z) 2 >>= _) _ _ _;unfold Builtin.SmallTypes.ownedTupleIsFree;generalize hS:setField=SF;generalize hN:Builtin.SmallTypes.nextOf=NX;wp_walk using wpAny_field hz rfl (x:=.bool false) rfl,wpAny_field hz rfl (x:=.ref TI) rfl,wpAny_seqItems rG rfl,wpAny_field hz rfl (x:=.none) rfl,wpAny_field hz rfl (x:=.ref TO) rfl;subst hS hN;refine wpAny_setField_rec hz (by simp) λg mQ sg=>wpAny_bind ?_;have mQ:IsZip g z TI TO .ellipsis:=mQ;have stop:∀{g':Heap}{e:Addr}{it:Addr},it≠z->IsZip g' z TI TO .ellipsis->(∃o,g'.get? e=some o/\o.cls= .type "StopIteration")->(∀c o,c≠z->c≠TO->c≠i1->c≠i2->s.heap.get? c=some o->g'.get? c=some o)->wpAny (model prog w) A (setField (.ref z) 0 .none) (λ_ s'=>E (.ref e) s') E {s with heap:=g'}:=λ{g' e it} _ zg ⟨oe,he,hc⟩ od=>by
  have ne:e≠z:=λq=>by subst q;rw[zg]at he;cases he;simp at hc
  exact wpAny_setField_rec (s:={s with heap:=g'}) zg (by simp) λg2 _ s2=>hE g2 e (λc o c1 c2 c3 c4 q=>s2.extBut _ _ c1 (od c o c1 c2 c3 c4 q)) ⟨oe,s2.extBut _ _ ne he,hc⟩
 simp only[List.zipIdx_cons,List.zipIdx_nil,forIn_cons,forIn_nil];refine wpAny_bind (wpAny_bind (wpAny_onRaise ?_));show wpAny _ _ (Builtin.SmallTypes.nextOf (.ref i1) >>= _) _ _ _;have Af:=j1.extBut sg.extBut D.i1z;have de:=h1.extBut sg.extBut D.l1z;cases ex:xs[k]? with
 |none=>exact wpAny_bind (LI (s:={s with heap:=g}) hh Af de ex λg1 e s1 he=>stop D.i1z (s1 _ _ D.i1z.symm mQ) he λc o c1 _ c3 _ q=>s1 _ _ c3 (sg.extBut _ _ c1 q))
 |some x=>have hy:ys[k]?=none:=hx.resolve_left (by rw[ex];intro q;cases q);refine wpAny_bind (Ei Af de ex λg1 _ s1=>wpAny_pure ?_);have o1:IsPair g1 TO a b:=s1.extBut _ _ D.TOi1 (sg.extBut _ _ D.TOz uU);refine wpAny_bind (wpAny_seqItems o1 rfl (wpAny_bind (wpAny_updateSeq_pair o1 λg2 o2 s2=>wpAny_bind (wpAny_letGo (wpAny_pure ?_)))));refine wpAny_bind (wpAny_bind (wpAny_onRaise ?_));show wpAny _ _ (Builtin.SmallTypes.nextOf (.ref i2) >>= _) _ _ _;exact wpAny_bind (LI (s:={s with heap:=g2}) hh (((j2.extBut sg.extBut D.i2z).extBut s1.extBut D.i12.symm).extBut s2.extBut D.TOi2.symm) (((h2.extBut sg.extBut D.l2z).extBut s1.extBut D.l2i1).extBut s2.extBut D.l2TO) hy λg3 e s3 he=>stop D.i2z (s3 _ _ D.i2z.symm (s2.extBut _ _ D.TOz.symm (s1.extBut _ _ D.i1z.symm mQ))) he λc o c1 c2 c3 c4 q=>s3 _ _ c4 (s2.extBut _ _ c2 (s1.extBut _ _ c3 (sg.extBut _ _ c1 q))))
theorem V9 (h:Heap){q1 q2 q3 q4 q5:Obj}(f1:q1.isFreed=false)(f2:q2.isFreed=false)(f3:q3.isFreed=false)(f4:q4.isFreed=false)(f5:q5.isFreed=false):(((((h.push q1).push q2).push q3).push q4).push q5).get? h.objs.size=some q1/\(((((h.push q1).push q2).push q3).push q4).push q5).get? (h.objs.size+1)=some q2/\(((((h.push q1).push q2).push q3).push q4).push q5).get? (h.objs.size+2)=some q3/\(((((h.push q1).push q2).push q3).push q4).push q5).get? (h.objs.size+3)=some q4/\(((((h.push q1).push q2).push q3).push q4).push q5).get? (h.objs.size+4)=some q5/\∀c o,h.get? c=some o->(((((h.push q1).push q2).push q3).push q4).push q5).get? c=some o:=by
 have g1:=Heap.get?_push_size (h) f1;have g2:=Heap.get?_push_size (h.push q1) f2;have g3:=Heap.get?_push_size ((h.push q1).push q2) f3;have g4:=Heap.get?_push_size (((h.push q1).push q2).push q3) f4;have g5:=Heap.get?_push_size ((((h.push q1).push q2).push q3).push q4) f5;simp only[Heap.size_push]at g2 g3 g4 g5;have up:=λ{h:Heap}(q:Obj){c:Addr}{o:Obj}(e:h.get? c=some o)=>Heap.get?_push_of_some q e;exact⟨up _ (up _ (up _ (up _ g1))),up _ (up _ (up _ g2)),up _ (up _ g3),up _ g4,g5,λc o e=>up _ (up _ (up _ (up _ (up _ e))))⟩
theorem Wa {t1 t2:Addr}{xs ys:Array Value}{Q:Value->Shared->Prop}(h1:s.heap.IsTuple t1 xs)(h2:s.heap.IsTuple t2 ys)(h:∀h' n,n=s.heap.objs.size->rF h' (n+4) (n+2) (n+3) n (n+1) t1 t2 .none 0->(∀c o,s.heap.get? c=some o->h'.get? c=some o)->Q (.ref (n+4)) {s with heap:=h'}):wpAny (model prog w) A (call (.type "zip") [.ref t1,.ref t2]) Q E s:=by
 have m:Meets (Builtin.«zip.__new__» ⟨[.type "zip",.ref t1,.ref t2],[]⟩) (λ_ R s=>s.heap.IsTuple t1 xs/\s.heap.IsTuple t2 ys/\∀h',rF h' (s.heap.objs.size+4) (s.heap.objs.size+2) (s.heap.objs.size+3) s.heap.objs.size (s.heap.objs.size+1) t1 t2 .none 0->(∀c o,s.heap.get? c=some o->h'.get? c=some o)->R (.ok (.ret (.ref (s.heap.objs.size+4)))) {s with heap:=h'}):=
  .of_wp λprog w A R s h=>by obtain⟨hp,g,d,tk,os⟩:=s;obtain⟨l1,l2,h⟩:=h;have uK:=sub_zip;have L1:Heap.IsTuple (Shared.heap ⟨hp,g,d,tk,os⟩) t1 xs:=l1;have L2:Heap.IsTuple (Shared.heap ⟨hp.push {cls:=.type "tuple_iterator",data:=.fields #[.ref t1,.int 0 0]},g,d,tk,os⟩) t2 ys:=Heap.IsTuple.push l2 _;wp_walk using wpAny_pyIter_tuple L1,wpAny_pyIter_tuple L2;refine⟨_,rfl,?_⟩;simp only[Heap.size_push];obtain⟨e1,e2,e3,e4,e5,e6⟩:=V9 hp (q1:={cls:=.type "tuple_iterator",data:=.fields #[.ref t1,.int 0 0]}) (q2:={cls:=.type "tuple_iterator",data:=.fields #[.ref t2,.int 0 0]}) (q3:={cls:=.type "tuple",data:=.seq #[.ref hp.objs.size,.ref (hp.objs.size+1)]}) (q4:={cls:=.type "tuple",data:=.seq #[.none,.none]}) (q5:={cls:=.type "zip",data:=.fields #[.none,.bool false,.bool false,.ref (hp.objs.size+2),.ref (hp.objs.size+3)]}) rfl rfl rfl rfl rfl;exact h _ ⟨e5,e3,⟨_,_,e4⟩,⟨_,e1,rfl,rfl⟩,⟨_,e2,rfl,rfl⟩⟩ e6
 refine callType_new F.called_zip (by decide) (F.typeCall_zip_2 _ _) (F.newCall_zip_2 _ _) (λobj=>F.args_object_init_3 obj _ _) F.entry_zip_new m ⟨h1,h2,λh' Zq k=>?_⟩;exact⟨⟨_,Zq.z,rfl⟩,h h' _ rfl Zq k⟩
end
end PySem
namespace L2
open PySem PySem.Spec PyProof.Rows
theorem Inv.Wb {X:Cx}{pins:List (Addr×Obj)}{U:St}{H:Hp}{s:Shared}{h':Heap}{t':Nat}{ch:List Addr}(I:Inv X pins U H s)(ef:∀b∈ch,eA X pins H b)(k:∀b o,b∉ch->s.heap.get? b=some o->h'.get? b=some o):Inv X pins U H {s with heap:=h',toks:=t'}:=by
 have gM:∀{b:Addr}{u:HO},H b=some u->b∉ch:=λ{b u} e z=>by rw[(ef b z).1]at e;cases e
 refine I.step (g':=s.gens) (d':=s.drawn) (ch:=ch) (λb hb=>?_) (λb o _ _ hc e _=>k b o hc e) (λb o _ _ hc e _=>⟨o.slots,k b o hc e⟩) (λb o _ e n=>n) (λb o hc e=>⟨o,k b o hc e⟩) (λb xs e=>e) (λb o u e=>e) (λb ps e=>⟨#[],by rw[e];simp⟩) (λm hm=>?_) (λb u e=>?_) I.bare
 .obtain⟨_,f1,_,f3,f4,f5⟩:=ef b hb;exact⟨f3,f1,f4,f5⟩
 .obtain⟨o,es,ep,ho,r⟩:=hm;exact⟨o,es,ep,k _ o (λz=>(ef _ z).2.1 rfl) ho,r⟩
 .refine(I.ag b u e).cG (λc v hc q=>k c v ?_ q) (λc q=>q) λc xs q=>q;rcases hc with z|z
  .rw[z];exact gM e
  .exact gM z
noncomputable def uV (K:PySem.W.Frag)(t1 t2:Addr):It where
 go:=λi H=>∃xs ys x y,ax K H t1 xs/\ax K H t2 ys/\xs[i]?=some x/\ys[i]?=some y
 dz:=λi H v H'=>∃p x y,H p=none/\v= .ref p/\(∀xs,ax K H t1 xs->xs[i]?=some x)/\(∀ys,ax K H t2 ys->ys[i]?=some y)/\H'=upd H p (.tup [x,y])
 stop:=λi H=>∃xs ys,ax K H t1 xs/\ax K H t2 ys/\min xs.length ys.length<=i
theorem LJ {t1 t2 n:Nat}(l1:t1<n)(l2:t2<n):ZipApart (n+4) (n+2) (n+3) n (n+1) t1 t2:=by constructor<;>(intro e;exact absurd (show@Eq Nat _ _ from e) (by lia))
theorem Wc {P:Program}{w:World}{K:PySem.W.Frag}{elts:List Expr}{k:Nat}{fB:Pos}(t1 t2 n:Nat)(l1:t1<n)(l2:t2<n):Turn P w K (.Tuple elts k fB) (uV K t1 t2) [n+4,n+2,n+3,n,n+1] (n+4) (λi h=>rF h (n+4) (n+2) (n+3) n (n+1) t1 t2 .none i) where
 mem:=by simp
 obj:=λi h st b hb=>by
  obtain⟨hz,rG,⟨a',b',uU⟩,⟨o1,e1,_,d1⟩,⟨o2,e2,_,d2⟩⟩:=st;have iV:b=n+4\/b=n+2\/b=n+3\/b=n\/b=n+1:=by simpa using hb
  rcases iV with rfl|rfl|rfl|rfl|rfl
  .exact⟨_,hz,λv z=>by cases(show Data.fields _=Data.cell v from z)⟩
  .exact⟨_,rG,λv z=>by cases(show Data.seq _ _=Data.cell v from z)⟩
  .exact⟨_,uU,λv z=>by cases(show Data.seq _ _=Data.cell v from z)⟩
  .exact⟨o1,e1,λv z=>by rw[d1]at z;cases z⟩
  .exact⟨o2,e2,λv z=>by rw[d2]at z;cases z⟩
 keep:=λi h h' st k=>⟨k _ (by simp) _ st.z,k _ (by simp) _ st.ti,st.to.imp λa z=>z.imp λb z=>k _ (by simp) _ z,let⟨o,e,r⟩:=st.i1;⟨o,k _ (by simp) o e,r⟩,let⟨o,e,r⟩:=st.i2;⟨o,k _ (by simp) o e,r⟩⟩
 item:=by
  intro X hP hw hK hc i pins s U H E I hf st hg;subst hP hw hK;obtain⟨xs,ys,x,y,q1,q2,ex,ey⟩:=hg;obtain⟨as,r1,p1,_⟩:=I.tuple q1;obtain⟨bs,r2,p2,_⟩:=I.tuple q2;obtain⟨u,hu,ru⟩:=r1.get ex;obtain⟨v,hv,rv⟩:=r2.get ey;have hT:s.TypeIs (.ref (n+4)) "zip":=⟨_,st.z,rfl⟩;have D:=LJ l1 l2;have big:∀{b:Addr},b∈[n+4,n+2,n+3,n,n+1]->b<s.heap.objs.size:=λ{b} hb=>by
   have iV:b=n+4\/b=n+2\/b=n+3\/b=n\/b=n+1:=by simpa using hb
   have:=Heap.lt_size st.z;rcases iV with rfl|rfl|rfl|rfl|rfl
   .exact this
   all_goals exact lt_of_le_of_lt (by lia) this
  unfold pyNext;refine wpAny_bind (wpAny_attempt (wpAny_callSpecial?_slot (name:=Str.ofString "__next__") hT F.slot_zip_next (wpAny_call_entry F.slot_zip_next hT F.entry_zip_next (V6 D st p1 p2 (by simpa using hu) (by simpa using hv) λh' Z' np hk=>wpAny_pure ?_) (F.args_zip_next_1 _))));refine⟨_,rfl,wpAny_letOwnedTupleGo_zip Z'.z λh2 We s2=>?_⟩;have up:∀b o,b∉[n+4,n+2,n+3,n,n+1]->s.heap.get? b=some o->h2.get? b=some o:=λb o hb e=>(s2.2 b (λz=>hb (by simp[z]))).trans (hk b o (λz=>hb (by simp[z])) (λz=>hb (by simp[z])) (λz=>hb (by simp[z])) (λz=>hb (by simp[z])) e);have ne4:s.heap.objs.size≠n+4:=ne_of_gt (big (by simp));have D9:=(s2.2 _ ne4).trans np;refine⟨.ref s.heap.objs.size,upd H s.heap.objs.size (.tup [x,y]),I.UD (ch:=[n+4,n+2,n+3,n,n+1]) (t':=s.toks) hf up (le_refl _) ⟨(by show 2<=sizeLine;decide),[u,v],.cons ru (.cons rv .nil),_,D9,rfl,_,rfl⟩,rfl,⟨_,x,y,I.fresh,rfl,λzs hz=>by rw[I.sI hz q1];exact ex,λzs hz=>by rw[I.sI hz q2];exact ey,rfl⟩,⟨We,s2.extBut _ _ D.TIz Z'.ti,Z'.to.imp λa z=>z.imp λb z=>s2.extBut _ _ D.TOz z,Z'.i1.extBut s2.extBut D.i1z,Z'.i2.extBut s2.extBut D.i2z⟩,λb hb=>?_⟩;rw[jd (ne_of_lt (big hb))];exact(hf b hb).1
 done:=by
  intro X hP hw hK hc i pins s U H E I hf st hg;subst hP hw hK;obtain⟨xs,ys,q1,q2,hl⟩:=hg;obtain⟨as,r1,p1,_⟩:=I.tuple q1;obtain⟨bs,r2,p2,_⟩:=I.tuple q2;have e1:=r1.length;have e2:=r2.length;have hT:s.TypeIs (.ref (n+4)) "zip":=⟨_,st.z,rfl⟩;unfold pyNext;refine wpAny_bind (wpAny_attempt (wpAny_callSpecial?_slot (name:=Str.ofString "__next__") hT F.slot_zip_next (wpAny_call_entry F.slot_zip_next hT F.entry_zip_next (V8 (I.ok.hd hc) (LJ l1 l2) st p1 p2 ?_ λh' e hk he=>?_) (F.args_zip_next_1 _))))
  .by_cases z:xs.length<=i
   .exact .inl (by simp;lia)
   .exact .inr (by simp;lia)
  .obtain⟨o,ho,Wf⟩:=he;refine wpAny_bind (wpAny_isInstance (T:="StopIteration") (b:=true) ⟨o,ho,Wf⟩ isSubtype_stop (wpAny_pure ⟨rfl,?_⟩));exact I.Wb (ch:=[n+4,n+2,n+3,n,n+1]) (t':=s.toks) hf λb o hb e=>hk b o (λz=>hb (by simp[z])) (λz=>hb (by simp[z])) (λz=>hb (by simp[z])) (λz=>hb (by simp[z])) e
 self:=λ_ _ _ _ _ st h=>wpAny_pyIter_zip st.z h
theorem boot_zip:bootBuiltins "zip"=some (.type "zip"):=by decide+kernel
noncomputable def Wg (K:PySem.W.Frag)(ta:TA):TI:=λ U H R=>ta U H λvs H1=>∃a b,vs=[.ref a,.ref b]/\(∃xs,ax K H1 a xs)/\(∃ys,ax K H1 b ys)/\R (uV K a b) H1
theorem Wh {X:Cx}{elts:List Expr}{k:Nat}{fB:Pos}{a b:Expr}{ta:TA}{p pos:Pos}(hg:Gl X "zip")(hm:X.mg "zip"=none)(ha:PA X [a,b] ta)(hs:autoParam (starEach [a,b] X.env=(false,eval a X.env)::starEach [b] X.env) aP1)(h2:autoParam ((backTo pos (starEach [b] X.env)).any (·.1)=false) aP1):PI X (.Tuple elts k fB) (.Call (.Name "zip" p) [a,b] [] pos) (Wg X.K ta):=by
 intro pins s U H R I h;refine Call_ (sE I hg hm boot_zip (PyProof.Rows.callWith_type1 (aq (ha pos pins s U H _ I h) λus s1 zQ=>?_) hs h2));obtain⟨vs,H1,I1,r1,q1⟩:=zQ;obtain⟨t1,t2,rfl,⟨xs,e1⟩,⟨ys,e2⟩,q⟩:=q1;obtain⟨u,v,rfl,ru,rv⟩:=r1.two;cases(show u=Value.ref t1 from ru);cases(show v=Value.ref t2 from rv);obtain⟨as,_,p1,_⟩:=I1.tuple e1;obtain⟨bs,_,p2,_⟩:=I1.tuple e2;have lt:∀{t:Addr}{its:Array Value},s1.heap.IsTuple t its->t<s1.heap.objs.size:=λ⟨o,e,_⟩=>Heap.lt_size e;refine Wa (p1:s1.heap.IsTuple t1 as.toArray) (p2:s1.heap.IsTuple t2 bs.toArray) λh' n en Zq hk=>wpAny_pyIter_zip Zq.z ?_;subst en;refine⟨_,_,_,_,H1,rfl,I1.kept (t':=s1.toks) hk,Wc t1 t2 s1.heap.objs.size (lt p1) (lt p2),Zq,λb hb=>?_,q⟩;have hle:s1.heap.objs.size<=b:=by
  have iV:b=s1.heap.objs.size+4\/b=s1.heap.objs.size+2\/b=s1.heap.objs.size+3\/b=s1.heap.objs.size\/b=s1.heap.objs.size+1:=by simpa using hb
  rcases iV with rfl|rfl|rfl|rfl|rfl
  .exact le_add_right _ _
  .exact le_add_right _ _
  .exact le_add_right _ _
  .exact le_refl _
  .exact le_add_right _ _
 exact I1.mq hle (I1.ag.fresh hle)
theorem Wi {K:PySem.W.Frag}{a b:Addr}{xs zs:List V}{g:TG}{ti:TT}{te:TE}{U0:St}{H0:Hp}{Q:VK}(Pv:Nat->List V->St->Hp->Prop)(le:xs.length=zs.length)(h0:Pv 0 [] U0 H0)(hl:∀i ys U H,i<=xs.length->Pv i ys U H->ax K H a xs/\ax K H b zs/\ys.length<=sizeLine)(hs:∀i x z ys U H p,xs[i]?=some x->zs[i]?=some z->Pv i ys U H->H p=none->g (.ref p) U (upd H p (.tup [x,z])) λ U2 H2=>ti U2 H2 λb H3=>if b=true then te U2 H3 λy H4=>Pv (i+1) (ys++[y]) U2 H4 else Pv (i+1) ys U2 H3)(hd:∀ys U H,Pv xs.length ys U H->∀p,H p=none->Q (.ref p) (upd H p (.lst ys))):∃W:Nat->Nat->List V->St->Hp->Prop,(∃m,W 0 m [] U0 H0)/\∀i m ys U H,W i m ys U H->ys.length<=sizeLine/\(((uV K a b).stop i H/\oB Q ys H)\/((uV K a b).go i H/\∃N:List V->St->Hp->Prop,(∀bH U' H',N bH U' H'->∃m',m'<m/\W (i+1) m' bH U' H')/\∀x H',(uV K a b).dz i H x H'->g x U H' λ U2 H2=>ti U2 H2 λb H3=>if b=true then te U2 H3 λy H4=>N (ys++[y]) U2 H4 else N ys U2 H3)):=by
 refine⟨λi m ys U H=>m=xs.length-i/\i<=xs.length/\Pv i ys U H,⟨xs.length,by simp,zero_le _,h0⟩,?_⟩
 rintro i m ys U H ⟨rfl,hi,p⟩
 obtain⟨q1,q2,hz⟩:=hl i ys U H hi p;refine⟨hz,?_⟩;by_cases aD:i<xs.length
 .refine .inr ⟨⟨xs,zs,xs[i],zs[i],q1,q2,by simp[aD],by simp[le ▸ aD]⟩,Pv (i+1),λbH U' H' p'=>⟨xs.length-(i+1),by lia,rfl,aD,p'⟩,λx H' y=>?_⟩;obtain⟨c,v,u,hc,rfl,y1,y2,rfl⟩:=y;exact hs i v u ys U H c (y1 xs q1) (y2 zs q2) p hc
 .have e:i=xs.length:=by lia
  subst e;exact .inl ⟨⟨xs,zs,q1,q2,by lia⟩,hd ys U H p⟩
end L2
namespace L2
open PySem PySem.Spec PyProof.Rows PySem.W
noncomputable abbrev Cut:=List Int×List Int
noncomputable def eC (a b:Cut):Bool:=if a.1=b.1 then HT.lexLt a.2 b.2 else HT.lexLt a.1 b.1
theorem Wj {a b:Cut}(h:eC a b=true):eC b a=false:=by
 unfold eC at h⊢;by_cases e:a.1=b.1
 .rw[if_pos e]at h;rw[if_pos e.symm];exact qZ h
 .rw[if_neg e]at h;rw[if_neg λz=>e z.symm];exact qZ h
theorem Wk {a b:Cut}(ne:a≠b)(h:eC a b=false):eC b a=true:=by
 unfold eC at h⊢;by_cases e:a.1=b.1
 .rw[if_pos e]at h;rw[if_pos e.symm];exact zP (λz=>ne (Prod.ext e z)) h
 .rw[if_neg e]at h;rw[if_neg λz=>e z.symm];exact zP e h
theorem Wl {a b c:Cut}(h1:eC a b=true)(h2:eC b c=true):eC a c=true:=by
 unfold eC at h1 h2⊢;by_cases e:a.1=b.1
 .rw[if_pos e]at h1;by_cases f:b.1=c.1
  .rw[if_pos f]at h2;rw[if_pos (e.trans f)];exact zQ h1 h2
  .rw[if_neg f]at h2;rw[e,if_neg f];exact h2
 .rw[if_neg e]at h1;by_cases f:b.1=c.1
  .rw[<-f,if_neg e];exact h1
  .rw[if_neg f]at h2;rw[if_neg λz=>by rw[z]at h1;rw[qZ h1]at h2;cases h2];exact zQ h1 h2
theorem Wm {ts:List Cut}(nd:ts.Nodup):bb.i4 (λi j=>eC (ts.getD i ([],[])) (ts.getD j ([],[]))) ts.length where
 aO:=λi j hi hj ne h=>Wk (λe=>ne (by rw[getD_eq_getElem?_getD,getD_eq_getElem?_getD,getElem?_eq_getElem hi,getElem?_eq_getElem hj]at e;exact(getElem_inj nd).mp e)) h
 KG:=λ_ _ _ _ h=>Wj h
 tr:=λ_ _ _ _ _ _ h1 h2=>Wl h1 h2
noncomputable def jB (K:PySem.W.Frag)(H:Hp)(vs:List V)(ts:List Cut):Prop:=Paired (λv (t:Cut)=>∃a c d,v= .ref a/\ax K H a [.ref c,.ref d]/\ax K H c (t.1.map V.int)/\ax K H d (t.2.map V.int)) vs ts
noncomputable def uW (h:Heap)(u:Value)(t:Cut):Prop:=∃a c d xs ys,u=Value.ref a/\IsTup h a #[.ref c,.ref d]/\IsTup h c xs/\IntsAre xs.toList t.1/\IsTup h d ys/\IntsAre ys.toList t.2
section
variable {prog:Program}{w:World}{A:Around}{E:Value->Shared->Prop}{s:Shared}
theorem LK:∀{vs:List Value}{ns:List Int},IntsAre vs ns->ItemsAre (qh prog w) (ns.map (Sum.inl:Int->Key)) vs
 |_,_,.nil=>.nil
 |_,_,.cons i t r=>.cons (Iw prog w i t) (LK r)
theorem Ag {h:Heap}{a:Addr}{xs:Array Value}{ns:List Int}(p:IsTup h a xs)(hi:IntsAre xs.toList ns):IsTupleKey (qh prog w) h (ns.map (Sum.inl:Int->Key)) a:=let⟨o,h1,h2,n,h3⟩:=p;⟨o,xs,n,h1,h2,h3,LK hi⟩
theorem Wn {u v:Value}{t t':Cut}{Q:Bool->Shared->Prop}(hu:A.units<cLine)(h1:uW s.heap u t)(h2:uW s.heap v t')(q:Q (eC t t') s):wpAny (model prog w) A (keyLt' (tuples' false) u v) Q E s:=by
 obtain⟨a,c,d,xs,ys,rfl,⟨o,ho,_,n,hd⟩,pc,ic,pd,id⟩:=h1;obtain⟨a',c',d',aW,bH,rfl,⟨o',aV,_,n',aZ⟩,LL,LM,LN,LO⟩:=h2;refine kat_lt ho hd aV aZ ?_;have inj:∀{x y:List Int},decide (x.map (Sum.inl:Int->Key)=y.map Sum.inl)=decide (x=y):=λ{x y}=>by have:x.map (Sum.inl:Int->Key)=y.map Sum.inl↔x=y:=List.map_inj_right λ_ _ z=>Sum.inl.inj z;simp only[this]
 unfold eC at q;refine kat_cons (wpAny_eqBool_tuple hu (Ag (prog:=prog) (w:=w) pc ic) (Ag LL LM) ?_);rw[inj];by_cases e:t.1=t'.1
 .rw[if_pos e]at q;rw[decide_eq_true e];refine kat_yes (kat_cons (wpAny_eqBool_tuple hu (Ag (prog:=prog) (w:=w) pd id) (Ag LN LO) ?_));rw[inj];by_cases f:t.2=t'.2
  .rw[decide_eq_true f];refine kat_yes (kat_nil ?_);rw[f]at q;have:HT.lexLt t'.2 t'.2=false:=by
    cases z:HT.lexLt t'.2 t'.2 with
    |false=>rfl
    |true=>rw[qZ z]at z;cases z
   rw[this]at q;simpa using q
  .rw[decide_eq_false f];refine kat_no (kat_one _ _ ?_);exact HT.JI pd LN id LO hu q
 .rw[if_neg e]at q;rw[decide_eq_false e];exact kat_no (kat_one _ _ (HT.JI pc LL ic LM hu q))
end
theorem LP:∀{h:Heap}{its:List Value}{ts:List Cut},Paired (uW h) its ts->∃fs,KatTups h its fs/\fs.length=its.length/\∀v∈fs,∃c xs,v=Value.ref c/\IsTup h c xs
 |_,_,_,.nil=>⟨[],KatTups.nil,rfl,λ_ z=>by cases z⟩
 |h,_,_,.cons ⟨a,c,d,xs,ys,e,⟨o,ho,hc,n,hd⟩,pc,_⟩ r=>by
  subst e;obtain⟨fs,k,l,q⟩:=LP r;refine⟨.ref c::fs,KatTups.cons ho hc hd rfl k,by simp[l],λv hv=>?_⟩;rcases mem_cons.mp hv with rfl|hv
  .exact⟨c,xs,rfl,pc⟩
  .exact q v hv
section
variable {X:Cx}
theorem Wo (hu:X.A.units+2<cLine):dA X (.builtin "sorted") (λxs H Q=>∃(p:Addr)(vs:List V)(ts:List Cut),xs=[.ref p]/\ai X.K H p vs/\jB X.K H vs ts/\vs.length<64/\ts.Nodup/\∀(q:Addr)(bp:List V)(bW:List Cut),H q=none->bp.Perm vs->bW.Perm ts->jB X.K H bp bW->bW.Pairwise (λa b=>eC a b=true)->Q (.ref q) (upd H q (.lst bp))):=by
 intro pins s U H xs us Q I r h;obtain⟨p,vs,ts,rfl,hq,ht,oN,nd,q⟩:=h;obtain⟨u,rfl,rx⟩:=vals1 r;cases rx;obtain⟨its,r',pl,hz⟩:=I.list hq;have l1:vs.length=its.length:=r'.length;have l2:vs.length=ts.length:=Paired.length ht;have hn:H (s.heap.objs.size+1)=none:=I.ag.fresh (le_succ _);have end_:∀(out:List Value)(bp:List V)(bW:List Cut),Vals bp out->bp.Perm vs->bW.Perm ts->jB X.K H bp bW->bW.Pairwise (λa b=>eC a b=true)->EP X pins U Q (.ref (s.heap.objs.size+1)) {s with heap:=sortedAll s.heap its out.toArray}:=λout bp bW a1 a2 a3 a4 a5=>by obtain⟨e,he⟩:=sortedAll_at s.heap its out.toArray;refine⟨.ref (s.heap.objs.size+1),_,I.laid (a:=s.heap.objs.size+1) (o:=.lst bp) (t':=s.toks) (λb o z=>sortedAll_old z) (le_succ _) ⟨?_,out,e,a1,he⟩,rfl,q _ bp bW hn a2 a3 a4 a5⟩;rw[a2.length_eq];exact hz
 have tt:Paired (uW s.heap) its ts:=KP (λv u t hv hu=>by obtain⟨a,c,d,rfl,ha,hc,hd⟩:=hu;cases hv;obtain⟨ys,ry,hy,_⟩:=I.tuple ha;obtain⟨x,y,rfl,rx,Wq⟩:=ry.two;cases(show x=Value.ref c from rx);cases(show y=Value.ref d from Wq);obtain⟨y1,k1,p1,_⟩:=I.tuple hc;obtain⟨y2,k2,p2,_⟩:=I.tuple hd;exact⟨a,c,d,y1.toArray,y2.toArray,rfl,hy,p1,intsAre_of k1,p2,intsAre_of k2⟩) r' ht;refine KN pl.isList (by lia) (Good:=λp=>bb.P its.length p/\bb.Up (λi j=>eC (ts.getD i ([],[])) (ts.getD j ([],[]))) p its.length) (λh2 s' k=>?_) (λh=>?_) (λp hp g=>?_)
 .have up:∀{b:Addr}{xs:Array Value},IsTup s.heap b xs->IsTup s'.heap b xs:=λ⟨o,ho,hr⟩=>⟨o,k _ o ho,hr⟩;have oO:Paired (uW s'.heap) its ts:=Paired.aQ tt λu t ⟨a,c,d,xs,ys,e,pa,pc,ic,pd,id⟩=>⟨a,c,d,xs,ys,e,up pa,up pc,ic,up pd,id⟩;obtain⟨fs,kt,lf,hf⟩:=LP oO;refine kat_kind (T:=Value.type "tuple") kt (by lia) (λv hv=>?_) rfl ⟨rfl,?_⟩
  .obtain⟨c,xs,rfl,o,ho,hc,_⟩:=hf v hv;rw[<-hc];exact(Looks.ld ho).andThen .now
  have hs:=bb.sort (Wm nd) (by lia);rw[<-l2,l1]at hs;refine wp_ask (λi j C hi hj c=>?_) hs;unfold kas_ask;exact Wn (by show X.A.units+2<cLine;exact hu) (rh (d:=Value.none) (e:=([],[])) oO hi) (rh (d:=Value.none) (e:=([],[])) oO hj) c
 .refine end_ its vs ts r' (List.Perm.refl _) (List.Perm.refl _) ht ?_
  match ts,l2 with
  |[],_=>exact .nil
  |[_],_=>exact List.pairwise_singleton _ _
  |_::_::_,e=>exact absurd e (by simp;lia)
 .obtain⟨g1,g2⟩:=g;have hm:∀i∈p.toList,i<vs.length:=λi hi=>by
   rw[l1];exact mem_range.mp (g1.mem_iff.mp hi)
  refine end_ _ (p.toList.map λi=>vs.getD i .aj) (p.toList.map λi=>ts.getD i ([],[])) (tT r' hm) ?_ ?_ (tT ht hm) ?_
  .refine(g1.map _).trans ?_;rw[<-l1,range_getD]
  .refine(g1.map _).trans ?_;rw[<-l1,l2,range_getD]
  .rw[List.pairwise_map,List.pairwise_iff_getElem];intro i j hi hj ij;have DM:j<its.length:=by rw[Array.length_toList,hp]at hj;exact hj
   have:=g2 i j ij DM;rw[bb.getD_eq (by rw[hp];lia),bb.getD_eq (by rw[hp];lia)]at this;simpa using this
theorem Wr (hc:X.calm=true):dA X (.builtin "sum") (λxs H Q=>∃(p:Addr)(ns:List Int),xs=[.ref p]/\ax X.K H p (ns.map V.int)/\Q (.int ns.sum) H):=by
 intro pins s U H xs us Q I r h;obtain⟨p,ns,rfl,hq,q⟩:=h;obtain⟨u,rfl,rx⟩:=vals1 r;cases rx;obtain⟨its,r',pl,hz⟩:=I.tuple hq;have hi:=intsAre_of r';obtain⟨ms,hx⟩:=hi.allInts.items;have ht:s.heap.IsTuple p (intItems ms):=hx ▸ pl;have lp:p<s.heap.objs.size:=let⟨_,e,_⟩:=ht;Heap.lt_size e;have e1:ns=ms.toList.map (·.1):=by rw[<-nums_intItems,<-hx];exact(show numsOf its.toArray.toList=ns from hi.numsOf).symm
 have e2:preSum (numAt ms) ms.size=ns.sum:=by rw[preSum_eq,List.take_of_length_le (by simp),e1]
 refine call_sum_walkG (wpAny_pyIter_tuple ht ⟨_,_,_,_,_,_,numAt ms,rfl,Walks.tuple (A:=X.A.in1) (I.ok.hd hc) _ p (ne_of_lt lp) (intItems ms),⟨⟨_,Heap.get?_push_size _ rfl,rfl,rfl⟩,ht.push _⟩,λb hb=>?_,λ_ _=>intItems_at,λh' tk t' hk=>?_⟩)
 .show b<(s.heap.push _).objs.size;rw[Heap.size_push];have iV:b=s.heap.objs.size\/b=p:=by simpa using hb
  rcases iV with rfl|rfl
  .exact lt_succ_self _
  .exact lt_succ_of_lt lp
 .have e3:(intItems ms).size=ms.size:=by simp[intItems]
  rw[e3,e2];exact⟨.int ns.sum,H,I.kept (t':=tk) (λb o e=>hk b o (λz=>by
   have z':b=s.heap.objs.size:=by simpa using z
   rw[z']at e;exact absurd (Heap.lt_size e) (lt_irrefl _)) (Heap.get?_push_of_some _ e)),⟨t',rfl⟩,q⟩
noncomputable def Ah (K:PySem.W.Frag)(C:Addr)(ts:List Value):Prop:=ts.map (λt=>PySem.W.kitOne K t (.ref C))=ts.map λ_=>some false
theorem Ah.get {K:PySem.W.Frag}{C:Addr}{ts:List Value}(h:Ah K C ts)(i:Nat){t:Value}(e:ts[i]?=some t):PySem.W.kitOne K t (.ref C)=some false:=by have q:=congrArg (λl=>l[i]?) h;simp only[getElem?_map,e,Option.map_some]at q;exact Option.some.inj q
theorem Ws:dA X (.builtin "isinstance") (λxs H Q=>∃x t C b,xs=[x,.ref C]/\fZ X.K H x t/\PySem.W.kitOne X.K t (.ref C)=some b/\Q (.bl b) H):=by intro pins s U H xs us Q I r h;obtain⟨x,t,C,b,rfl,ty,e,q⟩:=h;obtain⟨u,w,rfl,r1,r2⟩:=vals2 r;cases r2;exact Jw I r1 ty e λtk=>⟨.bl b,H,I.tok tk,rfl,q⟩
theorem Wt {f:Value}{r1 r2:List V->Hp->VK->Prop}(h1:dA X f r1)(h2:dA X f r2):dA X f (λxs H Q=>r1 xs H Q\/r2 xs H Q):=by intro pins s U H xs us Q I r h;exact h.elim (h1 pins s U H xs us Q I r) (h2 pins s U H xs us Q I r)
end
noncomputable def rH {α:Type}(d:α):List α->List α->List α
 |[u0,u1],[w0,w1,w2]=>[u0,u1,w0,w1,w2,d]
 |_,_=>[]
theorem Wu {x:V}{u:Value}(r:RelV x u){vs:List V}{us:List Value}{zs:List V}{ws:List Value}(r1:Vals vs us)(r2:Vals zs ws):Vals (rH x vs zs) (rH u us ws):=by rcases r1 with _|⟨a,_|⟨a2,_|⟨_,_⟩⟩⟩<;>rcases r2 with _|⟨b,_|⟨c,_|⟨d,_|⟨_,_⟩⟩⟩⟩;all_goals first|exact .nil|exact .cons a (.cons a2 (.cons b (.cons c (.cons d (.cons r .nil)))))
theorem Wv {K:PySem.W.Frag}{fd:FuncData}{p p2 k1 k2 k3 k4:Str}{kd:Addr}{v:Value}{x:V}(r:RelV x v)(e:PySem.W.nsIn K kd k4=some (some v))(hp:fd.params.posonlyargs=[])(ha:fd.params.args.map (·.arg)=[p,p2])(hv:fd.params.vararg=none)(hk:fd.params.kwonlyargs.map (·.arg)=[k1,k2,k3,k4])(n6:fd.params.kwarg=none)(hd:fd.defaults= .none)(Dz:fd.kwdefaults= .ref kd)(nd:[p,p2,k1,k2,k3,k4].Nodup):
  gP K fd [p,p2,k1,k2,k3,k4] [k1,k2,k3] (rH v) (rH x):=by
 refine⟨λs us ws KX hl=>?_,λr1 r2=>Wu r r1 r2⟩
 match us,ws,hl with
 |[u,u'],[w1,w2,w3],_=>
 intro Mo A E Q hq;have L:=PySem.W.looks_nsIn (M:=Mo) KX e;simp only[nodup_cons,mem_cons,List.not_mem_nil,or_false,not_or,not_false_eq_true,and_true,List.nodup_nil]at nd;obtain⟨⟨a1,a2,a3,a4,a5⟩,⟨b2,b3,b4,b5⟩,⟨c3,c4,c5⟩,⟨d4,d5⟩,e5⟩:=nd;obtain⟨a11,a12⟩:=ay a1;obtain⟨a21,a22⟩:=ay a2;obtain⟨a31,a32⟩:=ay a3;obtain⟨a41,a42⟩:=ay a4;obtain⟨a51,a52⟩:=ay a5;obtain⟨LQ,LR⟩:=ay b2;obtain⟨LS,LU⟩:=ay b3;obtain⟨LW,LX⟩:=ay b4;obtain⟨LY,LZ⟩:=ay b5;obtain⟨c31,c32⟩:=ay c3;obtain⟨c41,c42⟩:=ay c4;obtain⟨c51,c52⟩:=ay c5;obtain⟨El,Em⟩:=ay d4;obtain⟨En,Eo⟩:=ay d5;obtain⟨L0,Ma⟩:=ay e5;unfold bindArgs;have hz:seqItems? Value.none=pure none:=rfl;simp only[hp,ha,hv,hk,n6,hd,Dz,hz,map_nil,List.nil_append,length_cons,length_nil,zip_cons_cons,zip_nil_right,List.zip_nil_left,pure_bind,Option.getD_none,forIn_nil];simp[lookup_cons,a11,a12,a21,a22,a31,a32,a41,a42,a51,a52,LQ,LR,LS,LU,LW,LX,LY,LZ,c31,c32,c41,c42,c51,c52,El,Em,En,Eo,L0,Ma];refine wpAny_bind (L A _ E s (λ_ _ h=>h) ?_);simp[lookup_cons,a11,a12,a21,a22,a31,a32,a41,a42,a51,a52,LQ,LR,LS,LU,LW,LX,LY,LZ,c31,c32,c41,c42,c51,c52,El,Em,En,Eo,L0,Ma];exact wpAny_pure hq
end L2
set_option Elab.async false
set_option linter.all false
set_option compiler.extract_closed false
set_option maxRecDepth 100000
namespace M
structure O where
 p:Int
 n:Int
 g:Int
 m:Int
 deriving DecidableEq
noncomputable def cC (q:Int)(o:O):Bool:=decide (0<=o.p/\o.p<=q-1/\0<=o.g/\o.g<=q-1/\o.p≠o.g/\0<=o.n/\o.n<=99/\1<=o.m/\o.m<=1000)
theorem Ep {q:Int}{o:O}:cC q o=true↔(0<=o.p/\o.p<=q-1/\0<=o.g/\o.g<=q-1/\o.p≠o.g/\0<=o.n/\o.n<=99/\1<=o.m/\o.m<=1000):=by unfold cC;rw[decide_eq_true_iff]
end M
namespace M
open PySem L2
theorem dF:0<=sizeLine:=by decide
theorem kJ:1<=sizeLine:=by decide
theorem bc:2<=sizeLine:=by decide
theorem oV:3<=sizeLine:=by decide
theorem Mb:4<=sizeLine:=by decide
theorem Mc:5<=sizeLine:=by decide
theorem Er:6<=sizeLine:=by decide
theorem Md:9<=sizeLine:=by decide
theorem Me:11<=sizeLine:=by decide
theorem Ww:14<=sizeLine:=by decide
theorem xj {X:Cx}{e0 e1:Expr}{t0 t1:TE}(h0:PE X e0 t0)(h1:PE X e1 t1)(s0:autoParam (isStar e0=false) aP1)(s1:autoParam (isStar e1=false) aP1):PA X [e0,e1] (xu t0 (xu t1 jV)):=by refine jb h0 ?_ s0;refine jb h1 ?_ s1;exact jg
theorem dG {X:Cx}{e0 e1 e2:Expr}{t0 t1 t2:TE}(h0:PE X e0 t0)(h1:PE X e1 t1)(h2:PE X e2 t2)(s0:autoParam (isStar e0=false) aP1)(s1:autoParam (isStar e1=false) aP1)(s2:autoParam (isStar e2=false) aP1):PA X [e0,e1,e2] (xu t0 (xu t1 (xu t2 jV))):=by refine jb h0 ?_ s0;refine jb h1 ?_ s1;refine jb h2 ?_ s2;exact jg
theorem iA {X:Cx}{e0 e1 e2 e3:Expr}{t0 t1 t2 t3:TE}(h0:PE X e0 t0)(h1:PE X e1 t1)(h2:PE X e2 t2)(h3:PE X e3 t3)(s0:autoParam (isStar e0=false) aP1)(s1:autoParam (isStar e1=false) aP1)(s2:autoParam (isStar e2=false) aP1)(s3:autoParam (isStar e3=false) aP1):PA X [e0,e1,e2,e3] (xu t0 (xu t1 (xu t2 (xu t3 jV)))):=by refine jb h0 ?_ s0;refine jb h1 ?_ s1;refine jb h2 ?_ s2;refine jb h3 ?_ s3;exact jg
theorem Mf {X:Cx}{e0 e1 e2 e3 e4:Expr}{t0 t1 t2 t3 t4:TE}(h0:PE X e0 t0)(h1:PE X e1 t1)(h2:PE X e2 t2)(h3:PE X e3 t3)(h4:PE X e4 t4)(s0:autoParam (isStar e0=false) aP1)(s1:autoParam (isStar e1=false) aP1)(s2:autoParam (isStar e2=false) aP1)(s3:autoParam (isStar e3=false) aP1)(s4:autoParam (isStar e4=false) aP1):PA X [e0,e1,e2,e3,e4] (xu t0 (xu t1 (xu t2 (xu t3 (xu t4 jV))))):=by refine jb h0 ?_ s0;refine jb h1 ?_ s1;refine jb h2 ?_ s2;refine jb h3 ?_ s3;refine jb h4 ?_ s4;exact jg
theorem Mg {X:Cx}{e0 e1 e2 e3 e4 e5:Expr}{t0 t1 t2 t3 t4 t5:TE}(h0:PE X e0 t0)(h1:PE X e1 t1)(h2:PE X e2 t2)(h3:PE X e3 t3)(h4:PE X e4 t4)(h5:PE X e5 t5)(s0:autoParam (isStar e0=false) aP1)(s1:autoParam (isStar e1=false) aP1)(s2:autoParam (isStar e2=false) aP1)(s3:autoParam (isStar e3=false) aP1)(s4:autoParam (isStar e4=false) aP1)(s5:autoParam (isStar e5=false) aP1):PA X [e0,e1,e2,e3,e4,e5] (xu t0 (xu t1 (xu t2 (xu t3 (xu t4 (xu t5 jV)))))):=by refine jb h0 ?_ s0;refine jb h1 ?_ s1;refine jb h2 ?_ s2;refine jb h3 ?_ s3;refine jb h4 ?_ s4;refine jb h5 ?_ s5;exact jg
theorem Wx {X:Cx}{e0 e1 e2 e3 e4 e5 e6 e7 e8:Expr}{t0 t1 t2 t3 t4 t5 t6 t7 t8:TE}(h0:PE X e0 t0)(h1:PE X e1 t1)(h2:PE X e2 t2)(h3:PE X e3 t3)(h4:PE X e4 t4)(h5:PE X e5 t5)(h6:PE X e6 t6)(h7:PE X e7 t7)(h8:PE X e8 t8)(s0:autoParam (isStar e0=false) aP1)(s1:autoParam (isStar e1=false) aP1)(s2:autoParam (isStar e2=false) aP1)(s3:autoParam (isStar e3=false) aP1)(s4:autoParam (isStar e4=false) aP1)(s5:autoParam (isStar e5=false) aP1)(s6:autoParam (isStar e6=false) aP1)(s7:autoParam (isStar e7=false) aP1)(s8:autoParam (isStar e8=false) aP1):PA X [e0,e1,e2,e3,e4,e5,e6,e7,e8] (xu t0 (xu t1 (xu t2 (xu t3 (xu t4 (xu t5 (xu t6 (xu t7 (xu t8 jV))))))))):=by refine jb h0 ?_ s0;refine jb h1 ?_ s1;refine jb h2 ?_ s2;refine jb h3 ?_ s3;refine jb h4 ?_ s4;refine jb h5 ?_ s5;refine jb h6 ?_ s6;refine jb h7 ?_ s7;refine jb h8 ?_ s8;exact jg
theorem Wy {X:Cx}{e0 e1 e2 e3 e4 e5 e6 e7 e8 e9 Es:Expr}{t0 t1 t2 t3 t4 t5 t6 t7 t8 t9 oW:TE}(h0:PE X e0 t0)(h1:PE X e1 t1)(h2:PE X e2 t2)(h3:PE X e3 t3)(h4:PE X e4 t4)(h5:PE X e5 t5)(h6:PE X e6 t6)(h7:PE X e7 t7)(h8:PE X e8 t8)(h9:PE X e9 t9)(Wz:PE X Es oW)(s0:autoParam (isStar e0=false) aP1)(s1:autoParam (isStar e1=false) aP1)(s2:autoParam (isStar e2=false) aP1)(s3:autoParam (isStar e3=false) aP1)(s4:autoParam (isStar e4=false) aP1)(s5:autoParam (isStar e5=false) aP1)(s6:autoParam (isStar e6=false) aP1)(s7:autoParam (isStar e7=false) aP1)(s8:autoParam (isStar e8=false) aP1)(s9:autoParam (isStar e9=false) aP1)(bL:autoParam (isStar Es=false) aP1):PA X [e0,e1,e2,e3,e4,e5,e6,e7,e8,e9,Es] (xu t0 (xu t1 (xu t2 (xu t3 (xu t4 (xu t5 (xu t6 (xu t7 (xu t8 (xu t9 (xu oW jV))))))))))):=by refine jb h0 ?_ s0;refine jb h1 ?_ s1;refine jb h2 ?_ s2;refine jb h3 ?_ s3;refine jb h4 ?_ s4;refine jb h5 ?_ s5;refine jb h6 ?_ s6;refine jb h7 ?_ s7;refine jb h8 ?_ s8;refine jb h9 ?_ s9;refine jb Wz ?_ bL;exact jg
noncomputable def top (i:Nat):Stmt:=PySem.Challenge.pw_manypurses_k15_cuts_refused.main.body.getD i (.Pass ⟨0,0,0,0⟩)
noncomputable abbrev uX:Stmt:=top 2
noncomputable abbrev uY:Stmt:=top 3
noncomputable abbrev Ai:Stmt:=top 30
noncomputable abbrev Aj:Stmt:=top 31
noncomputable abbrev uZ:Stmt:=top 4
noncomputable abbrev ur:Stmt:=top 5
noncomputable abbrev gr:Stmt:=top 9
noncomputable abbrev Ak:Stmt:=top 10
noncomputable abbrev Et:Stmt:=top 11
noncomputable abbrev Eu:Stmt:=top 12
noncomputable abbrev Al:Stmt:=top 42
noncomputable abbrev gp:Stmt:=top 43
noncomputable abbrev vc:Stmt:=inClass (top 18) 0
noncomputable abbrev y0:Stmt:=inClass (top 19) 0
noncomputable abbrev Ew:Stmt:=top 47
noncomputable abbrev Ex:Stmt:=top 48
noncomputable abbrev Am:Stmt:=top 49
noncomputable abbrev gm:Stmt:=inClass (top 34) 0
noncomputable abbrev vA:Stmt:=inClass (top 34) 1
noncomputable abbrev y3:Stmt:=inClass (top 34) 2
noncomputable abbrev xr:Stmt:=inClass (top 34) 4
noncomputable abbrev uw:Stmt:=inClass (top 34) 5
noncomputable abbrev uk:Stmt:=inClass (top 36) 0
noncomputable abbrev An:Stmt:=inClass (top 36) 1
noncomputable abbrev pq:Stmt:=inClass (top 36) 2
noncomputable abbrev vB:Stmt:=inClass (top 36) 3
noncomputable abbrev wa:Stmt:=inClass (top 38) 0
noncomputable abbrev ub:Stmt:=inClass (top 38) 1
noncomputable abbrev gj:Stmt:=inClass (top 38) 2
noncomputable abbrev xc:Stmt:=inClass (top 38) 8
noncomputable abbrev xn:Stmt:=inClass (top 38) 7
noncomputable abbrev wz:Stmt:=inClass (top 38) 6
noncomputable abbrev Ao:Stmt:=inClass (top 38) 3
noncomputable abbrev yr:Stmt:=inClass (top 38) 4
noncomputable abbrev Ey:Stmt:=inClass (top 50) 0
noncomputable abbrev um:Stmt:=inClass (top 50) 7
noncomputable abbrev vt:Stmt:=inClass (top 50) 20
noncomputable abbrev Ap:Stmt:=inClass (top 50) 9
noncomputable abbrev yn:Stmt:=inClass (top 50) 22
noncomputable abbrev yq:Stmt:=inClass (top 50) 23
noncomputable abbrev vb:Stmt:=inClass (top 50) 21
noncomputable abbrev zj:Stmt:=inClass (top 50) 19
noncomputable abbrev yi:Stmt:=inClass (top 50) 18
noncomputable abbrev vC:Stmt:=inClass (top 50) 3
noncomputable abbrev vD:Stmt:=inClass (top 50) 8
noncomputable abbrev Aq:Stmt:=top 53
noncomputable abbrev pf:Stmt:=top 54
noncomputable abbrev Ar:Stmt:=top 55
noncomputable abbrev As:Stmt:=top 56
noncomputable abbrev yw:Stmt:=inClass (top 57) 6
noncomputable abbrev y9:Stmt:=inClass (top 57) 0
noncomputable abbrev w4:Stmt:=inClass (top 57) 1
noncomputable abbrev Au:Stmt:=inClass (top 57) 2
noncomputable abbrev ye:Stmt:=inClass (top 57) 3
noncomputable abbrev Av:Stmt:=inClass (top 57) 4
noncomputable abbrev w9:Stmt:=inClass (top 57) 5
noncomputable abbrev Aw:Stmt:=top 59
noncomputable abbrev Ax:Stmt:=top 60
noncomputable abbrev Ay:Stmt:=top 61
noncomputable abbrev Az:Stmt:=top 62
noncomputable abbrev AA:Stmt:=top 67
noncomputable abbrev vE:Stmt:=top 68
noncomputable abbrev AB:Stmt:=top 69
noncomputable abbrev gf:Stmt:=top 70
noncomputable abbrev AD:Stmt:=top 71
noncomputable abbrev vF:Stmt:=top 72
noncomputable abbrev vG:Stmt:=top 73
theorem Mh:ql ["thing"] ["thing"] (jo uX):=cJ
theorem Mi:ql ["thing","low","high"] ["thing","low","high"] (jo uY):=cJ
theorem vH:ql ["thing","purses","purse","number","goal","much"] ["thing","purses"] (jo Ai):=cJ
theorem AE:ql ["things","bound","least","thing"] ["things","bound"] (jo uZ):=cJ
theorem Mj:ql ["self","house","thing","houses"] ["self","house","thing"] (jo vA):=cJ
theorem WB:ql ["self","thing"] ["self","thing"] (jo xr):=cJ
theorem gc:ql ["self","order","purse","number","goal","much"] ["self","order"] (jo pq):=cJ
theorem w6:ql ["self","order","purse","number","goal","much"] ["self","order"] (jo vB):=cJ
theorem ya:ql ["self","votes","later","order"] ["self"] (jo xc):=cJ
theorem Ml:ql ["self","order"] ["self"] (jo xn):=cJ
theorem Ez:ql ["self","order"] ["self"] (jo wz):=cJ
theorem Mm:ql ["self","word","order","house"] ["self","word","order"] (jo zj):=cJ
theorem Mn:ql ["self","house","orders","order"] ["self","house","orders"] (jo yi):=cJ
theorem EA:ql ["self","purse","goal","much","asked","order"] ["self","purse","goal","much"] (jo vC):=cJ
theorem vz:ql ["self","at","letter","word","house","order","keeper"] ["self","at"] (jo vD):=cJ
theorem EB:ql ["thing","purses","total","numbers","sums"] ["thing","purses","total"] (jo Ar):=cJ
theorem Mp:ql ["self","house","cut"] ["self","house"] (jo w4):=cJ
theorem Mq:ql ["self","house","cut","here"] ["self","house","cut"] (jo w9):=cJ
theorem ku:ql ["_law_town_here","_law_many","_law_row","_law_at","_law_cell","_law_mixed"] ["_law_town_here","_law_many"] (jo vE):=cJ
theorem yl:ql ["_law_caught","_law_kinds","_law_words"] ["_law_caught"] (jo gf):=cJ
theorem xt:ql ["_law_kind","_law_thing","_law_one","_law_two","_law_caught","_law_found","e"] ["_law_kind","_law_thing","_law_one","_law_two"] (jo vF):=cJ
theorem hG:ql ["_law_script","_law_town_here","_law_world","_law_cutting","_law_thing","_law_start","_law_bad","_law_turn","_law_cut","_law_odd","_law_house"] ["_law_script"] (jo vG):=cJ
theorem WC:(["order","self"]:List Str).Nodup:=by decide+kernel
theorem WD:(["keeper","purse","asked"]:List Str).Nodup:=by decide+kernel
theorem WE:(["each"]:List Str).Nodup:=by decide+kernel
theorem WG:(["each"]:List Str).Nodup:=by decide+kernel
theorem WH:(["house","sums","liars"]:List Str).Nodup:=by decide+kernel
theorem WI:(["each"]:List Str).Nodup:=by decide+kernel
theorem Mr:(["mine","theirs"]:List Str).Nodup:=by decide+kernel
theorem WJ:(["thing","self"]:List Str).Nodup:=by decide+kernel
theorem WK:(["_law_kind","_law_cutting","_law_cut"]:List Str).Nodup:=by decide+kernel
theorem WL:(["_law_kind","_law_thing"]:List Str).Nodup:=by decide+kernel
theorem boot_isinstance:bootBuiltins "isinstance"=some (.builtin "isinstance"):=by decide+kernel
theorem boot_bool:bootBuiltins "bool"=some (.type "bool"):=by decide+kernel
theorem boot_int:bootBuiltins "int"=some (.type "int"):=by decide+kernel
theorem boot_len:bootBuiltins "len"=some (.builtin "len"):=by decide+kernel
theorem boot_tuple:bootBuiltins "tuple"=some (.type "tuple"):=by decide+kernel
theorem boot_list:bootBuiltins "list"=some (.type "list"):=by decide+kernel
theorem boot_sum:bootBuiltins "sum"=some (.builtin "sum"):=by decide+kernel
theorem boot_max:bootBuiltins "max"=some (.builtin "max"):=by decide+kernel
theorem boot_all:bootBuiltins "all"=some (.builtin "all"):=by decide+kernel
theorem boot_sorted:bootBuiltins "sorted"=some (.builtin "sorted"):=by decide+kernel
theorem WM:bootBuiltins "ValueError"=some (.type "ValueError"):=by decide+kernel
set_option genInjectivity false in
structure Ad where
 AF:Addr
 AG:FuncData
 AH:Addr
 AI:FuncData
 EC:Addr
 ED:FuncData
 EE:Addr
 EF:FuncData
 EG:Addr
 EH:FuncData
 EI:Addr
 EJ:FuncData
 EK:Addr
 EL:FuncData
 EM:Addr
 EN:FuncData
 EO:Addr
 ER:FuncData
 ES:Addr
 ET:FuncData
 EU:Addr
 EV:FuncData
 EW:Addr
 EX:FuncData
 y4:Addr
 ui:FuncData
 kz:Addr
 ua:FuncData
 EY:Addr
 EZ:FuncData
 E1:Addr
 E2:FuncData
 E3:Addr
 E4:FuncData
 gk:Addr
 E5:FuncData
 vI:Addr
 vJ:FuncData
 ue:Addr
 ph:FuncData
 xm:Addr
 xp:FuncData
 E6:Addr
 E7:FuncData
 vf:Addr
 E8:FuncData
 AJ:Addr
 E9:FuncData
 AK:Addr
 Fb:FuncData
 AL:Addr
 Fc:FuncData
 vq:Addr
 Fd:FuncData
 Fe:Addr
 Ff:FuncData
 Fg:Addr
 Fh:FuncData
 gw:Addr
 gu:FuncData
 uh:Addr
 uj:FuncData
 Fi:Addr
 Fj:FuncData
 Fl:Addr
 Fm:FuncData
 kl:Addr
 gs:FuncData
 gg:Addr
 Fo:FuncData
 Fp:Addr
 Fq:FuncData
 Fs:Addr
 Ft:FuncData
 Fu:Addr
 Fv:FuncData
 kj:Addr
 gz:FuncData
 km:Addr
 kn:FuncData
 uv:Addr
 pz:FuncData
 we:Addr
 wm:FuncData
 Fw:Addr
 Fx:FuncData
 Fy:Addr
 Fz:FuncData
 FA:Addr
 FC:FuncData
 FD:Addr
 FE:FuncData
 FF:Addr
 FG:FuncData
 FH:Addr
 FI:FuncData
 FJ:Addr
 FK:FuncData
 ka:Addr
 gy:FuncData
 y7:Addr
 uf:FuncData
 FL:Addr
 FN:FuncData
 FO:Addr
 FP:FuncData
 wg:Addr
 wd:FuncData
 FQ:Addr
 FR:FuncData
 FT:Addr
 FU:FuncData
 FV:Addr
 FW:FuncData
 FX:Addr
 FY:FuncData
 FZ:Addr
 F0:FuncData
 F1:Addr
 F3:FuncData
 F5:Addr
 F6:FuncData
 F7:Addr
 F8:FuncData
 Ga:Addr
 Gb:FuncData
 Gd:Addr
 Ge:FuncData
 Gf:Addr
 Gg:FuncData
 Gh:Addr
 Gi:FuncData
 Gj:Addr
 Gk:FuncData
 jw:Addr
 yy:Addr
 j3:Addr
 jC:Addr
 j5:Addr
 yf:Addr
 uz:Addr
 vm:Addr
 ju:Addr
 xl:Addr
 gq:Addr
 zq:Addr
 Gm:Addr
 Gn:Addr
 Gp:Addr
 Gq:Addr
 Gr:Addr
noncomputable def asked (t:Ad):List Value:=[.ref t.Gp,.ref t.Gq,.ref t.Gr,.ref t.ju,.ref t.yf,.ref t.Gn,.ref t.vm,.ref t.uz,.ref t.xl,.ref t.gq,.ref t.Gm,.ref t.zq,.type "ValueError"]
structure Txt (K:W.Frag)(mg:Str->Option Value)(t:Ad):Prop where
 rJ:aw K "is_whole" "is_whole" uX t.AF t.AG
 AM:mg "is_whole"=some (.ref t.AF)
 AN:Binds K t.AG ["thing"] []
 qd:aw K "is_between" "is_between" uY t.AH t.AI
 qo:mg "is_between"=some (.ref t.AH)
 qm:Binds K t.AI ["thing","low","high"] []
 Ms:aw K "is_order" "is_order" Ai t.EC t.ED
 WN:mg "is_order"=some (.ref t.EC)
 WO:∃tk,Binds K t.ED ["thing","purses"] [.int 8 tk]
 AO:aw K "place_of" "place_of" Aj t.EE t.EF
 Gs:mg "place_of"=some (.ref t.EE)
 Gu:Binds K t.EF ["order"] []
 Mt:aw K "are_rising" "are_rising" uZ t.EG t.EH
 WQ:mg "are_rising"=some (.ref t.EG)
 WR:Binds K t.EH ["things","bound"] []
 uy:aw K "is_rising_row" "is_rising_row" ur t.EI t.EJ
 Mu:mg "is_rising_row"=some (.ref t.EI)
 Mv:Binds K t.EJ ["thing","bound"] []
 Mw:aw K "is_house_count" "is_house_count" gr t.EK t.EL
 WS:mg "is_house_count"=some (.ref t.EK)
 WT:Binds K t.EL ["thing"] []
 Mx:aw K "is_few" "is_few" Ak t.EM t.EN
 WU:mg "is_few"=some (.ref t.EM)
 WV:Binds K t.EN ["thing"] []
 My:aw K "outnumber" "outnumber" Et t.EO t.ER
 WW:mg "outnumber"=some (.ref t.EO)
 WX:gP K t.ER ["houses","few"] ["few"] kD kD
 Mz:aw K "enough_of" "enough_of" Eu t.ES t.ET
 WY:mg "enough_of"=some (.ref t.ES)
 WZ:gP K t.ET ["houses","few"] ["few"] kD kD
 MA:aw K "are_sums" "are_sums" Al t.EU t.EV
 W0:mg "are_sums"=some (.ref t.EU)
 W2:Binds K t.EV ["thing"] []
 MB:aw K "are_first_sums" "are_first_sums" gp t.EW t.EX
 W3:mg "are_first_sums"=some (.ref t.EW)
 W4:Binds K t.EX ["thing"] []
 W5:aw K "__init__" "NoHouse.__init__" vc t.y4 t.ui
 AQ:rq K t.ju t.y4 "house"
 ud:Binds K t.ui ["self","house"] []
 W6:aw K "__init__" "NoPurse.__init__" y0 t.kz t.ua
 MC:rq K t.yf t.kz "purse"
 W7:Binds K t.ua ["self","purse"] []
 MD:aw K "check_houses" "check_houses" Ew t.EY t.EZ
 W8:mg "check_houses"=some (.ref t.EY)
 W9:gP K t.EZ ["houses","few","liars"] ["few","liars"] mJ mJ
 ME:aw K "check_purses" "check_purses" Ex t.E1 t.E2
 Xa:mg "check_purses"=some (.ref t.E1)
 Xb:gP K t.E2 ["sums","cheats"] ["cheats"] kD kD
 xo:aw K "check_world" "check_world" Am t.E3 t.E4
 yt:mg "check_world"=some (.ref t.E3)
 yp:Binds K t.E4 ["thing"] []
 Xc:aw K "__init__" "Board.__init__" gm t.gk t.E5
 jmy:Meth K t.yy "__init__" t.gk
 MF:Mk K t.yy t.gk
 MG:Binds K t.E5 ["self","enough"] []
 Xd:aw K "put" "Board.put" vA t.vI t.vJ
 Gw:Meth K t.yy "put" t.vI
 Gx:Binds K t.vJ ["self","house","thing"] []
 Xe:aw K "houses_for" "Board.houses_for" y3 t.ue t.ph
 Xf:Meth K t.yy "houses_for" t.ue
 Xg:Binds K t.ph ["self","thing"] []
 Xh:aw K "is_carried" "Board.is_carried" xr t.xm t.xp
 yo:Meth K t.yy "is_carried" t.xm
 va:Binds K t.xp ["self","thing"] []
 Xi:aw K "carried" "Board.carried" uw t.E6 t.E7
 Xj:Meth K t.yy "carried" t.E6
 Xk:Binds K t.E7 ["self"] []
 Xl:aw K "__init__" "Book.__init__" uk t.vf t.E8
 jog:Meth K t.jC "__init__" t.vf
 j43:Mk K t.jC t.vf
 Xm:Binds K t.E8 ["self","sums"] []
 Xn:aw K "is_past" "Book.is_past" An t.AJ t.E9
 jph:Meth K t.jC "is_past" t.AJ
 Gy:Binds K t.E9 ["self","order"] []
 Xo:aw K "is_due" "Book.is_due" pq t.AK t.Fb
 jqo:Meth K t.jC "is_due" t.AK
 MH:Binds K t.Fb ["self","order"] []
 Xp:aw K "settle" "Book.settle" vB t.AL t.Fc
 jqy:Meth K t.jC "settle" t.AL
 Xq:Binds K t.Fc ["self","order"] []
 Xr:aw K "__init__" "Keeper.__init__" wa t.vq t.Fd
 jl4:Meth K t.jw "__init__" t.vq
 Xs:Mk K t.jw t.vq
 Xt:Binds K t.Fd ["self","sums"] []
 Xu:aw K "stands" "Keeper.stands" ub t.Fe t.Ff
 Xv:Meth K t.jw "stands" t.Fe
 Xw:Binds K t.Ff ["self"] []
 Xx:aw K "left_of" "Keeper.left_of" gj t.Fg t.Fh
 Xy:Meth K t.jw "left_of" t.Fg
 Xz:Binds K t.Fh ["self","purse","orders"] []
 XA:aw K "give_votes" "Keeper.give_votes" xc t.gw t.gu
 wq:Meth K t.jw "give_votes" t.gw
 kb:Binds K t.gu ["self"] []
 XB:aw K "first_due" "Keeper.first_due" xn t.uh t.uj
 kh:Meth K t.jw "first_due" t.uh
 MI:Binds K t.uj ["self"] []
 XC:aw K "go_on" "Keeper.go_on" wz t.Fi t.Fj
 XD:Meth K t.jw "go_on" t.Fi
 XE:Binds K t.Fj ["self"] []
 XF:aw K "hear" "Keeper.hear" Ao t.Fl t.Fm
 XG:Meth K t.jw "hear" t.Fl
 XH:Binds K t.Fm ["self","order"] []
 XI:aw K "take_paper" "Keeper.take_paper" yr t.kl t.gs
 XJ:Meth K t.jw "take_paper" t.kl
 XM:Binds K t.gs ["self","order"] []
 XN:aw K "__init__" "World.__init__" Ey t.gg t.Fo
 jm4:Meth K t.j3 "__init__" t.gg
 XO:Mk K t.j3 t.gg
 MJ:∃a,gP K t.Fo ["self","houses","few","sums","liars","cheats"] ["few","sums","liars"] (rH (Value.ref a)) (rH (V.ref a))/\∃o n,K.lookup a=some o/\o.cls= .type "tuple"/\o.data= .seq #[] n
 XQ:aw K "letters" "World.letters" um t.Fp t.Fq
 XR:Meth K t.j3 "letters" t.Fp
 XS:Binds K t.Fq ["self"] []
 XT:aw K "keeper_of" "World.keeper_of" vt t.Fs t.Ft
 MK:Meth K t.j3 "keeper_of" t.Fs
 ML:Binds K t.Ft ["self","house"] []
 XU:aw K "sums" "World.sums" Ap t.Fu t.Fv
 XW:Meth K t.j3 "sums" t.Fu
 XX:Binds K t.Fv ["self","house"] []
 XY:aw K "check_purse" "World.check_purse" yn t.kj t.gz
 wj:Meth K t.j3 "check_purse" t.kj
 kg:Binds K t.gz ["self","purse"] []
 XZ:aw K "check_asker" "World.check_asker" yq t.km t.kn
 X0:Meth K t.j3 "check_asker" t.km
 X1:Binds K t.kn ["self","purse","goal"] []
 X2:aw K "check_liar" "World.check_liar" vb t.uv t.pz
 X3:Meth K t.j3 "check_liar" t.uv
 X4:Binds K t.pz ["self","liar"] []
 X5:aw K "write_to_all" "World.write_to_all" zj t.we t.wm
 vd:Meth K t.j3 "write_to_all" t.we
 wo:Binds K t.wm ["self","word","order"] []
 X6:aw K "put_votes" "World.put_votes" yi t.Fw t.Fx
 uu:Meth K t.j3 "put_votes" t.Fw
 MM:Binds K t.Fx ["self","house","orders"] []
 X7:aw K "ask" "World.ask" vC t.Fy t.Fz
 X8:Meth K t.j3 "ask" t.Fy
 X9:Binds K t.Fz ["self","purse","goal","much"] []
 Ya:aw K "come" "World.come" vD t.FA t.FC
 Yb:Meth K t.j3 "come" t.FA
 Yc:Binds K t.FC ["self","at"] []
 rK:aw K "cut_of" "cut_of" Aq t.FD t.FE
 vK:mg "cut_of"=some (.ref t.FD)
 vL:Binds K t.FE ["world","house"] []
 ug:aw K "is_number_row" "is_number_row" pf t.FF t.FG
 MN:mg "is_number_row"=some (.ref t.FF)
 MO:Binds K t.FG ["thing","many"] []
 MP:aw K "is_cut" "is_cut" Ar t.FH t.FI
 Yd:mg "is_cut"=some (.ref t.FH)
 Ye:gP K t.FI ["thing","purses","total"] ["purses","total"] mJ mJ
 AR:aw K "is_behind" "is_behind" As t.FJ t.FK
 Gz:mg "is_behind"=some (.ref t.FJ)
 GA:Binds K t.FK ["cut","other"] []
 Yf:aw K "check_cut" "Cutting.check_cut" yw t.ka t.gy
 x9:Meth K t.j5 "check_cut" t.ka
 yu:Binds K t.gy ["self","cut"] []
 Yg:aw K "__init__" "Cutting.__init__" y9 t.y7 t.uf
 jln:Meth K t.j5 "__init__" t.y7
 MQ:Mk K t.j5 t.y7
 MR:Binds K t.uf ["self","world"] []
 Yh:aw K "sign" "Cutting.sign" w4 t.FL t.FN
 MS:Meth K t.j5 "sign" t.FL
 MT:Binds K t.FN ["self","house"] []
 Yi:aw K "lie" "Cutting.lie" Au t.FO t.FP
 Yj:Meth K t.j5 "lie" t.FO
 Yk:Binds K t.FP ["self","liar","cut"] []
 Yl:aw K "signers_of" "Cutting.signers_of" ye t.wg t.wd
 xq:Meth K t.j5 "signers_of" t.wg
 yb:Binds K t.wd ["self","cut"] []
 Ym:aw K "good" "Cutting.good" Av t.FQ t.FR
 MU:Meth K t.j5 "good" t.FQ
 MV:Binds K t.FR ["self"] []
 Yn:aw K "take" "Cutting.take" w9 t.FT t.FU
 Yo:Meth K t.j5 "take" t.FT
 Yp:Binds K t.FU ["self","house","cut"] []
 MW:aw K "false_owners" "false_owners" Aw t.FV t.FW
 Yr:mg "false_owners"=some (.ref t.FV)
 Ys:Binds K t.FW ["world"] []
 MX:aw K "false_houses" "false_houses" Ax t.FX t.FY
 Yt:mg "false_houses"=some (.ref t.FX)
 Yu:Binds K t.FY ["world"] []
 MY:aw K "stuck_purses" "stuck_purses" Ay t.FZ t.F0
 Yv:mg "stuck_purses"=some (.ref t.FZ)
 Yw:Binds K t.F0 ["world"] []
 MZ:aw K "lost_nothing" "lost_nothing" Az t.F1 t.F3
 Yx:mg "lost_nothing"=some (.ref t.F1)
 Yy:Binds K t.F3 ["world"] []
 M0:aw K "_law_town" "_law_town" AA t.F5 t.F6
 Yz:mg "_law_town"=some (.ref t.F5)
 YA:Binds K t.F6 ["_law_script"] []
 M1:aw K "_law_draw" "_law_draw" vE t.F7 t.F8
 YB:mg "_law_draw"=some (.ref t.F7)
 YC:Binds K t.F8 ["_law_town_here","_law_many"] []
 M3:aw K "_law_pick" "_law_pick" AB t.Ga t.Gb
 YD:mg "_law_pick"=some (.ref t.Ga)
 YE:Binds K t.Gb ["_law_town_here","_law_some"] []
 M4:aw K "_law_refusal" "_law_refusal" gf t.Gd t.Ge
 YF:mg "_law_refusal"=some (.ref t.Gd)
 YG:Binds K t.Ge ["_law_caught"] []
 M5:aw K "_law_did" "_law_did" AD t.Gf t.Gg
 YH:mg "_law_did"=some (.ref t.Gf)
 YI:Binds K t.Gg ["_law_kind","_law_thing","_law_one","_law_two"] []
 zb:aw K "_law_asked" "_law_asked" vF t.Gh t.Gi
 zu:mg "_law_asked"=some (.ref t.Gh)
 zt:Binds K t.Gi ["_law_kind","_law_thing","_law_one","_law_two"] []
 YJ:aw K "law" "law" vG t.Gj t.Gk
 YK:mg "law"=some (.ref t.Gj)
 j8x:Binds K t.Gk ["_law_script"] []
 M6:∃tk,mg "MOST_MUCH"=some (.int 1000 tk)
 M7:∃tk,mg "LAST_NUMBER"=some (.int 99 tk)
 YL:∃tk,mg "PAPER_LETTER"=some (.str "paper" tk)
 M8:∃tk,mg "ORDER_LETTER"=some (.str "order" tk)
 YM:∃tk,mg "MOST_HOUSES"=some (.int 16 tk)
 YN:∃tk,mg "MOST_FEW"=some (.int 5 tk)
 YO:∃tk,mg "MOST_FIRST_SUM"=some (.int 1000 tk)
 YQ:∃tk,mg "LEAST_PURSES"=some (.int 2 tk)
 YR:∃tk,mg "MOST_PURSES"=some (.int 8 tk)
 YS:∃tk,mg "MOST_IN_CUT"=some (.int 100000 tk)
 YT:mg "Keeper"=some (.ref t.jw)
 jl:fe K t.jw
 zv:xx K t.jw "held"
 qj:xx K t.jw "next_numbers"
 M9:xx K t.jw "done"
 GB:xx K t.jw "heard"
 yg:xx K t.jw "unvoted"
 xa:xx K t.jw "choices"
 xb:xx K t.jw "waiting"
 Na:mg "Board"=some (.ref t.yy)
 qi:fe K t.yy
 qe:xx K t.yy "enough"
 qw:xx K t.yy "signers"
 Nb:mg "World"=some (.ref t.j3)
 jt:fe K t.j3
 vM:Ly K t.j3
 vN:Ah K t.j3 [.type "NoneType",.type "int",.type "list",.type "str",.ref t.j5]
 ky:xx K t.j3 "purses"
 Nc:xx K t.j3 "total"
 Nd:xx K t.j3 "lying"
 Nf:xx K t.j3 "cheating"
 qv:xx K t.j3 "keepers"
 gb:xx K t.j3 "board"
 Ng:xx K t.j3 "asked"
 yh:xx K t.j3 "on_way"
 YU:mg "Book"=some (.ref t.jC)
 j5n:fe K t.jC
 juf:xx K t.jC "held"
 jjk:xx K t.jC "next_numbers"
 juj:xx K t.jC "done"
 Nh:mg "Cutting"=some (.ref t.j5)
 jx:fe K t.j5
 AS:Ly K t.j5
 zh:xx K t.j5 "world"
 ze:xx K t.j5 "board"
 Ni:Meth K t.jw "is_due" t.AK
 vn:Meth K t.jw "is_past" t.AJ
 YV:Meth K t.jw "settle" t.AL
 YW:Lw K t.jC "__init__" t.vf
 Nj:mg "NoPurse"=some (.ref t.yf)
 Nk:mg "TooMuch"=some (.ref t.uz)
 GC:mg "NotNow"=some (.ref t.vm)
 AU:mg "NoHouse"=some (.ref t.ju)
 Nl:mg "BadPaper"=some (.ref t.xl)
 GD:mg "BadCut"=some (.ref t.gq)
 Nm:mg "PurseError"=some (.ref t.zq)
 YX:mg "BadText"=some (.ref t.Gm)
 YY:mg "NoLetter"=some (.ref t.Gn)
 YZ:mg "BadNumber"=some (.ref t.Gp)
 Y0:mg "BadOrder"=some (.ref t.Gq)
 Y2:mg "BadHouses"=some (.ref t.Gr)
 jyn:fM K t.yf
 jxw:kinds K (.ref t.yf) (asked t)=[some false,some false,some false,some false,some true,some false,some false,some false,some false,some false,some false,some true,some true]
 jmd:W.kitCls K (.ref t.yf) (.ref t.ju)=some false
 jhv:W.kitCls K (.ref t.yf) (.ref t.zq)=some true
 Y3:qY K t.uz
 jyg:fM K t.uz
 jxv:kinds K (.ref t.uz) (asked t)=[some false,some false,some false,some false,some false,some false,some false,some true,some false,some false,some false,some true,some true]
 jl9:W.kitCls K (.ref t.uz) (.ref t.ju)=some false
 jii:W.kitCls K (.ref t.uz) (.ref t.zq)=some true
 Nn:qY K t.vm
 Y4:fM K t.vm
 Y5:kinds K (.ref t.vm) (asked t)=[some false,some false,some false,some false,some false,some false,some true,some false,some false,some false,some false,some true,some true]
 Y6:W.kitCls K (.ref t.vm) (.ref t.ju)=some false
 Y7:W.kitCls K (.ref t.vm) (.ref t.zq)=some true
 jxr:fM K t.ju
 jyo:kinds K (.ref t.ju) (asked t)=[some false,some false,some false,some true,some false,some false,some false,some false,some false,some false,some false,some true,some true]
 Y8:W.kitCls K (.ref t.ju) (.ref t.ju)=some true
 jiz:W.kitCls K (.ref t.ju) (.ref t.zq)=some true
 Y9:qY K t.xl
 Za:fM K t.xl
 Zb:kinds K (.ref t.xl) (asked t)=[some false,some false,some false,some false,some false,some false,some false,some false,some true,some false,some false,some true,some true]
 Zc:W.kitCls K (.ref t.xl) (.ref t.ju)=some false
 Zd:W.kitCls K (.ref t.xl) (.ref t.zq)=some true
 Np:qY K t.gq
 Ze:fM K t.gq
 Zf:kinds K (.ref t.gq) (asked t)=[some false,some false,some false,some false,some false,some false,some false,some false,some false,some true,some false,some true,some true]
 Zg:W.kitCls K (.ref t.gq) (.ref t.ju)=some false
 Zh:W.kitCls K (.ref t.gq) (.ref t.zq)=some true
 Zi:W.mroIn K t.ju (.type "BaseException")=some true
 Zj:W.mroIn K t.zq (.type "BaseException")=some true
 jq:mg "isinstance"=none
 Nq:mg "bool"=none
 Nr:mg "int"=none
 fh:mg "len"=none
 rM:mg "tuple"=none
 mR:mg "list"=none
 GF:mg "sum"=none
 Zk:mg "max"=none
 GG:mg "all"=none
 Nt:mg "range"=none
 Zl:mg "zip"=none
 Nu:mg "sorted"=none
 Zm:mg "ValueError"=none
noncomputable def dW (o:O):List V:=[.int o.p,.int o.n,.int o.g,.int o.m]
noncomputable def Zn (H:Hp)(x:V)(o:O):Prop:=∃a,x= .ref a/\H a=some (.tup (dW o))
theorem jh {H:Hp}{p:Addr}{o:HO}(h:H p=none):qg H (upd H p o):=λb u e=>by rw[jd (ji e h)];exact e
theorem nd {c:Prop}[Decidable c](h:(!decide c)=true):¬c:=λz=>by rw[decide_eq_true z]at h;cases h
theorem yd {c:Prop}[Decidable c](h:¬(!decide c)=true):c:=by
 by_cases z:c
 .exact z
 .exact absurd (by rw[decide_eq_false z];rfl) h
theorem Zo {b:Bool}{A Bq:Prop}(e:b=true)(h:Bq):if(!b)=true then A else Bq:=by subst e;exact qq h
theorem take_snoc {α:Type}{l:List α}{i:Nat}{x:α}(h:l[i]?=some x):l.take (i+1)=l.take i++[x]:=by rw[List.take_add_one,h];rfl
theorem CG (s:List Int)(i:Nat)(z:Int):(s.map V.int).set i (.int z)=(s.set i z).map V.int:=by rw[map_set]
theorem get_map {s:List Int}{i:Nat}(h:i<s.length):(s.map V.int)[i]?=some (.int (s.getD i 0)):=by rw[getElem?_map,getElem?_eq_getElem h,getD_eq_getElem?_getD,getElem?_eq_getElem h];rfl
theorem vO {n:Nat}{i:Int}(h0:0<=i)(h1:i.toNat<n):mB n i=some i.toNat:=by unfold mB;rw[if_pos h0,if_pos (by lia)]
theorem mS {α:Type}{xs:List α}{i:Int}{v:α}(h0:0<=i)(h:xs[i.toNat]?=some v):mC xs i=some v:=by unfold mC;rw[vO h0 (List.getElem?_eq_some_iff.mp h).1];exact h
theorem kK {n:Nat}(h:n<=1000):n<=sizeLine:=le_of_lt (xg h)
noncomputable def iB (T R:Addr)(H:Hp):Prop:=∃(row:List Int)(c:Int),H T=some (.lst [.ref R,.int c])/\H R=some (.lst (row.map V.int))/\0<row.length
noncomputable def AV (T R:Addr)(H H':Hp):Prop:=∀b o,H b=some o->b≠T->b≠R->H' b=some o
theorem iB.ne {T R:Addr}{H:Hp}(h:iB T R H):T≠R:=by
 obtain⟨row,c,h1,h2,h3⟩:=h;refine ie h1 h2 λe=>?_;have e':=HO.lst.inj e;cases row with
 |nil=>cases h3
 |cons x r=>rw[map_cons]at e';cases(List.cons.inj e').1
theorem iB.same {T R:Addr}{H H':Hp}(h:iB T R H)(s:qg H H'):iB T R H':=by obtain⟨row,c,h1,h2,h3⟩:=h;exact⟨row,c,s _ _ h1,s _ _ h2,h3⟩
noncomputable def Zp:Sp:=λvs H Q _=>∃i,vs=[.int i]/\Q (.bl true) H
noncomputable def Zr:Sp:=λvs H Q _=>∃i l h,vs=[.int i,.int l,.int h]/\Q (.bl (decide (l<=i/\i<=h))) H
noncomputable def Zs:Sp:=λvs H Q _=>∃a o q,vs=[.ref a,.int q]/\H a=some (.tup (dW o))/\Q (.bl (cC q o)) H
noncomputable def Zt:Sp:=λvs H Q _=>∃a o,vs=[.ref a]/\H a=some (.tup (dW o))/\cC 8 o=true/\∀p,H p=none->Q (.ref p) (upd H p (.tup [.int o.p,.int o.n]))
theorem Zu (T:Txt K mg t):zi P w K mg base CX0 1 t.AF t.AG ["thing"] Zp:=by refine T.rJ.dQ Mh λ_ A _ s H vs Q E hr h=>?_;obtain⟨i,rfl,q⟩:=h;refine⟨_,(@je _ _ _ (jr (ik (jm vg rfl T.jq boot_isinstance (@xj _ _ _ _ _ (pv 0) (iS (v:=.ty "int") rfl T.Nr boot_int rfl) rfl rfl)) (jQ (ID (jm vg rfl T.jq boot_isinstance (@xj _ _ _ _ _ (pv 0) (iS (v:=.ty "bool") rfl T.Nq boot_bool rfl) rfl rfl))))))),?_⟩;refine⟨_,rfl,_,_,_,true,rfl,.int _,rfl,_,rfl,yz ?_⟩;exact⟨_,rfl,_,_,_,false,rfl,.int _,rfl,_,rfl,q⟩
theorem qt (T:Txt K mg t):zi P w K mg base CX0 2 t.AH t.AI ["thing","low","high"] Zr:=by
 refine T.qd.dQ Mi λ_ A _ s H vs Q E hr h=>?_;obtain⟨i,l,u,rfl,q⟩:=h;refine⟨_,(@je _ _ _ (jr (ik (jn (Zu T) hr.dn rfl T.AM T.rJ.kp T.AN .nil jz (jb (pv 0) jg)) (jQ (Jm nU nU (pv 1) (pv 0) (pv 2)))))),?_⟩;refine⟨_,rfl,i,rfl,_,rfl,yz ?_⟩;refine⟨_,rfl,_,rfl,_,_,rfl,rfl,_,rfl,?_⟩;refine cz (λh1=>?_) (λh1=>?_)
 .refine⟨_,rfl,_,_,rfl,rfl,?_⟩;have e:decide (l<=i/\i<=u)=decide (i<=u):=by
   have de:=of_decide_eq_true h1;simp[de]
  rw[e]at q;exact q
 .have e:decide (l<=i/\i<=u)=false:=by
   have de:¬l<=i:=λz=>h1 (decide_eq_true z);simp[de]
  rw[e]at q;exact q
theorem Zv (T:Txt K mg t):zi P w K mg base CX0 3 t.EC t.ED ["thing","purses"] Zs:=by
 refine T.Ms.dQ vH λ_ A _ s H vs Q E hr h=>?_;obtain⟨a,o,q,rfl,ha,k⟩:=h;refine⟨_,(@jc _ _ _ _ _ (zo (PW.pt (cY (x8 (zk (jm vg rfl T.jq boot_isinstance (@xj _ _ _ _ _ (pv 0) (iS (v:=.ty "tuple") rfl T.rM boot_tuple rfl) rfl rfl)))) (eJ (jy sP (jm qb rfl T.fh boot_len (jb (pv 0) jg)) jf (j7 _))))) (@je _ _ _ (jr cL)) jv) (@jc _ _ _ _ _ (nN (pv 0) (qF rfl (zl (qa (i:=2) vH.nd rfl (Or.inl rfl)) (zl (qa (i:=3) vH.nd rfl (Or.inl rfl)) (zl (qa (i:=4) vH.nd rfl (Or.inl rfl)) (zl (qa (i:=5) vH.nd rfl (Or.inl rfl)) qE)))))) (@jc _ _ _ _ _ (zo (PW.pt (cY (x8 (zk (jn (qt T) hr.dn rfl T.qo T.qd.kp T.qm .nil jz (@dG _ _ _ _ _ _ _ (pv 2) jf (vp jU (pv 1) jf) rfl rfl rfl)))) (eJ (x8 (zk (jn (qt T) hr.dn rfl T.qo T.qd.kp T.qm .nil jz (@dG _ _ _ _ _ _ _ (pv 4) jf (vp jU (pv 1) jf) rfl rfl rfl))))))) (@je _ _ _ (jr cL)) jv) (@je _ _ _ (jr (ik (il sP (pv 2) (pv 4) (j7 _)) (ik (jn (qt T) hr.dn rfl T.qo T.qd.kp T.qm .nil jz (@dG _ _ _ _ _ _ _ (pv 3) jf (zd (v:=.int 99) rfl T.M7.choose_spec ⟨_,rfl⟩) rfl rfl rfl)) (jQ (jn (qt T) hr.dn rfl T.qo T.qd.kp T.qm .nil jz (@dG _ _ _ _ _ _ _ (pv 5) jf (zd (v:=.int 1000) rfl T.M6.choose_spec ⟨_,rfl⟩) rfl rfl rfl)))))))))),?_⟩;refine⟨_,rfl,_,_,_,true,rfl,.tup ha,rfl,_,rfl,?_⟩;refine qq ?_;refine⟨_,rfl,a,dW o,rfl,.inr (ax.of ha),rfl,_,rfl,?_⟩;refine qq ?_;refine⟨_,rfl,a,dW o,rfl,ax.of ha,rfl,_,_,rfl,_,_,rfl,_,_,rfl,_,_,rfl,rfl,?_⟩;have fin:∀b,b=cC q o->Q (.bl b) H:=λb e=>e ▸ k;refine⟨_,rfl,_,rfl,_,_,rfl,rfl,_,_,_,rfl,_,rfl,?_⟩;refine cz (λh1=>fin _ ?_) (λh1=>?_)
 .have z:=nd h1;unfold cC;exact(decide_eq_false (λh=>z ⟨h.1,h.2.1⟩)).symm
 have z1:=yd h1;refine⟨_,rfl,_,rfl,_,_,rfl,rfl,_,_,_,rfl,_,rfl,?_⟩;refine cz (λh2=>fin _ ?_) (λh2=>?_)
 .have z:=nd h2;unfold cC;exact(decide_eq_false (λh=>z ⟨h.2.2.1,h.2.2.2.1⟩)).symm
 have z2:=yd h2;refine⟨_,rfl,_,rfl,rfl,_,rfl,?_⟩;refine cz (λh3=>?_) (λh3=>fin _ ?_)
 .have z3:¬o.p=o.g:=by simpa using h3
  refine⟨_,rfl,_,_,_,rfl,_,rfl,?_⟩;refine cz (λh4=>?_) (λh4=>fin _ ?_)
  .have z4:=of_decide_eq_true h4;refine⟨_,rfl,_,_,_,rfl,fin _ ?_⟩;unfold cC;rw[Bool.eq_iff_iff,decide_eq_true_iff,decide_eq_true_iff];exact⟨λh=>⟨z1.1,z1.2,z2.1,z2.2,z3,z4.1,z4.2,h.1,h.2⟩,λh=>h.2.2.2.2.2.2.2⟩
  .have z4:¬(0<=o.n/\o.n<=99):=λh=>h4 (decide_eq_true h);unfold cC;exact(decide_eq_false (λh=>z4 ⟨h.2.2.2.2.2.1,h.2.2.2.2.2.2.1⟩)).symm
 .have z3:o.p=o.g:=by simpa using h3
  unfold cC;exact(decide_eq_false (λh=>h.2.2.2.2.1 z3)).symm
theorem GH (T:Txt K mg t):zi P w K mg base CX0 4 t.EE t.EF ["order"] Zt:=by
 refine T.AO.bY (N:=["order"]) λ_ A _ s H vs Q E hr h=>?_;obtain⟨a,o,rfl,ha,ho,k⟩:=h;refine⟨_,(@jc _ _ _ _ _ (zo (x8 (zk (jn (Zv T) hr.dn rfl T.WN T.Ms.kp T.WO.choose_spec (show Vals [.int 8] _ from .cons ⟨_,rfl⟩ .nil) jz (jb (pv 0) jg)))) (@je _ _ _ (Qz)) jv) (@je _ _ _ (jr (@qp _ _ _ _ _ (@xj _ _ _ _ _ (dD oa (pv 0) jf (λ_ _=>rfl)) (dD oa (pv 0) jf (λ_ _=>rfl)) rfl rfl))))),?_⟩;refine⟨_,rfl,a,o,8,rfl,ha,_,rfl,Zo ho ?_⟩;exact⟨_,rfl,a,dW o,0,.int o.p,rfl,rfl,ax.of ha,rfl,_,rfl,a,dW o,1,.int o.n,rfl,rfl,ax.of ha,rfl,bc,λp hp=>k p hp⟩
theorem Zw {H:Hp}{a b:Addr}{o:HO}(h:upd H a o b=none):b≠a/\H b=none:=by
 have hb:b≠a:=λz=>by rw[z,ja]at h;cases h
 rw[jd hb]at h;exact⟨hb,h⟩
noncomputable def iC (S:Addr)(en:Int):List (Str×V):=vy "signers" (.ref S) (vy "enough" (.int en) [])
theorem rN (S:Addr)(en:Int):(iC S en).lookup ("signers":Str)=some (.ref S):=by unfold iC;rw[jk,if_pos rfl]
theorem vo (S:Addr)(en:Int):(iC S en).lookup ("enough":Str)=some (.int en):=by unfold iC;rw[jk,if_neg (by decide+kernel),jk,if_pos rfl]
theorem mT (S:Addr)(en:Int){m:Str}(h1:¬m="signers")(h2:¬m="enough"):(iC S en).lookup m=none:=by unfold iC;rw[jk,if_neg h1,jk,if_neg h2];rfl
noncomputable abbrev fS:=List (List Key×List Int)
noncomputable def iD (H:Hp)(kv:List Key×V)(p:List Key×List Int):Prop:=kv.1=p.1/\∃b,kv.2= .ref b/\H b=some (.lst (p.2.map V.int))
structure vh (t:Ad)(H:Hp)(p dx S:Addr)(en:Int)(aa:List (List Key×V))(ps:fS):Prop where
 ob:H p=some (.ins t.yy dx (iC S en))
 sg:H S=some (.dT aa)
 hs:Paired (iD H) aa ps
 un:(aa.map (·.2)).Nodup
theorem vh.same {t:Ad}{H H':Hp}{p dx S:Addr}{en:Int}{aa:List (List Key×V)}{ps:fS}(s:qg H H')(b:vh t H p dx S en aa ps):vh t H' p dx S en aa ps:=⟨s _ _ b.ob,s _ _ b.sg,Paired.aQ b.hs λ_ _ ⟨e,c,ec,h⟩=>⟨e,c,ec,s _ _ h⟩,b.un⟩
structure Nv (t:Ad)(H:Hp)(p dx S:Addr)(en:Int)(aa:List (List Key×V))(ps:fS):Prop where
 ob:H p=some (.ins t.yy dx (iC S en))
 sg:Rd H S (.dT aa)
 hs:Paired (iD H) aa ps
theorem vh.rd {t:Ad}{H:Hp}{p dx S:Addr}{en:Int}{aa:List (List Key×V)}{ps:fS}(b:vh t H p dx S en aa ps):Nv t H p dx S en aa ps:=⟨b.ob,.inl b.sg,b.hs⟩
theorem rO {H H':Hp}{a:Addr}{u:HO}(s:qg H H')(h:Rd H a u):Rd H' a u:=by
 rcases h with h|⟨o,h⟩
 .exact .inl (s _ _ h)
 .exact .inr ⟨o,s _ _ h⟩
noncomputable def za:fS->List Key->List Int
 |[],_=>[]
 |p::ps,k=>if p.1=k then p.2 else za ps k
theorem GI {H:Hp}{k:List Key}:∀{aa:List (List Key×V)}{ps:fS},Paired (iD H) aa ps->(br aa k=none/\za ps k=[]/\k∉ps.map (·.1))\/∃b,br aa k=some (.ref b)/\H b=some (.lst ((za ps k).map V.int)):=λ{aa ps} q=>by
 induction q with
 |nil=>exact .inl ⟨rfl,rfl,by simp⟩
 | @cons kv p aa ps a r ih=>
  obtain⟨e,b,eb,h⟩:=a;by_cases z:p.1=k
  .refine .inr ⟨b,?_,?_⟩
   .rw[lH (e.trans z),eb]
   .rw[za,if_pos z];exact h
  .have z':¬kv.1=k:=λq=>z (e.symm.trans q);rw[za,if_neg z,jZ z'];rcases ih with⟨h1,h2,h3⟩|h
   .exact .inl ⟨h1,h2,by rw[map_cons,mem_cons];exact λq=>q.elim (λq=>z q.symm) h3⟩
   .exact .inr h
noncomputable def Zx (t:Ad):Sp:=λvs H Q _=>∃x dx en,vs=[.ref x,.int en]/\H x=some (.ins t.yy dx [])/\∀S H',H S=none->vh t H' x dx S en [] []->(∀b o,H b=some o->b≠x->H' b=some o)->Q .aj H'
noncomputable def Nw (t:Ad):Sp:=λvs H Q _=>∃p dx S en aa ps b k,vs=[.ref p,.ref b]/\Nv t H p dx S en aa ps/\H b=some (.tup (k.map kV))/\∀H',qg H H'->Q (.bl (decide (en<=((za ps k).length:Int)))) H'
noncomputable def lS:fS->List Key->Int->fS
 |[],k,h=>[(k,[h])]
 |p::ps,k,h=>if p.1=k then(p.1,p.2++[h])::ps else p::lS ps k h
noncomputable def NotIn (aa:List (List Key×V))(c:Addr):Prop:=∀kv∈aa,kv.2≠.ref c
noncomputable def Nx (t:Ad):Sp:=λvs H Q _=>∃p dx S en aa ps b k h,vs=[.ref p,.int h,.ref b]/\vh t H p dx S en aa ps/\H b=some (.tup (k.map kV))/\aa.length<=1000/\(za ps k).length<=1000/\(h∈za ps k->∀H',qg H H'->Q (.bl false) H')/\(h∉za ps k->∀bM H',vh t H' p dx S en bM (lS ps k h)->(∀c u,H c=some u->c≠S->NotIn aa c->H' c=some u)->(∀c u,H c=some u->NotIn aa c->NotIn bM c)->Q (.bl (decide (((za ps k).length:Int)+1=en))) H')
theorem Ny:∀{ps:fS}{k:List Key}{h:Int},k∉ps.map (·.1)->lS ps k h=ps++[(k,[h])]
 |[],_,_,_=>rfl
 |p::ps,k,h,z=>by rw[map_cons,mem_cons]at z;rw[lS,if_neg (λe=>z (.inl e.symm)),Ny λe=>z (.inr e)];rfl
theorem zx {α β:Type}{F:α->β->Prop}:∀{xs:List α}{ys:List β}{x:α}{y:β},Paired F xs ys->F x y->Paired F (xs++[x]) (ys++[y]):=λ{xs ys x y} q h=>by
 induction q with
 |nil=>exact .cons h .nil
 |cons a _ ih=>exact .cons a ih
theorem Nz {k:List Key}{v:V}{aa:List (List Key×V)}(ev:br aa k=some v):v∈aa.map (·.2):=by
 unfold br at ev;cases hf:aa.find? (λkv=>decide (kv.1=k))with
 |none=>rw[hf]at ev;cases ev
 |some q=>rw[hf]at ev;have e3:q.2=v:=Option.some.inj ev;rw[<-e3];exact mem_map_of_mem (List.mem_of_find?_eq_some hf)
theorem kM {h:Int}:∀{hs:List Int},yZ (.int h) (hs.map V.int)=decide (h∈hs)
 |[]=>rfl
 |x::hs=>by
  have ih:=kM (h:=h) (hs:=hs);simp only[map_cons,yZ,any_cons]at ih⊢;rw[ih];show(x==h||decide (h∈hs))=_;by_cases e:h=x
  .simp[e]
  .have e':¬x=h:=λz=>e z.symm;simp[e,e']
theorem vP (hs:List Int):(hs.map V.int).all lE=true:=by rw[all_eq_true];intro y hy;obtain⟨i,_,rfl⟩:=mem_map.mp hy;rfl
theorem Zy {H:Hp}{r:Addr}(hr:H r=none):∀{aa:List (List Key×V)}{ps:fS},Paired (iD H) aa ps->V.ref r∉aa.map (·.2):=λ{aa ps} q=>by
 induction q with
 |nil=>simp
 |@cons kv p aa ps a r ih=>
  obtain⟨_,b,eb,hb⟩:=a;rw[map_cons,mem_cons]
  rintro(z|z)
  .rw[eb]at z;cases z;rw[hr]at hb;cases hb
  .exact ih z
theorem grown {H:Hp}{k:List Key}{h:Int}{c:Addr}:∀{aa:List (List Key×V)}{ps:fS},Paired (iD H) aa ps->(aa.map (·.2)).Nodup->br aa k=some (.ref c)->Paired (iD (upd H c (.lst ((za ps k++[h]).map V.int)))) aa (lS ps k h):=λ{aa ps} q nd ev=>by
 induction q with
 |nil=>cases ev
 | @cons kv p aa ps a r ih=>
  obtain⟨e,b,eb,hb⟩:=a;rw[map_cons,nodup_cons]at nd;have keep:∀{aa:List (List Key×V)}{ps:fS}{o:HO}{a:Addr},V.ref a∉aa.map (·.2)->Paired (iD H) aa ps->Paired (iD (upd H a o)) aa ps:=λ{aa ps o a} ha r=>by
   induction r with
   |nil=>exact .nil
   |cons q _ ih=>rw[map_cons,mem_cons]at ha;obtain⟨q1,b,q2,q3⟩:=q;refine .cons ⟨q1,b,q2,?_⟩ (ih λz=>ha (.inr z));rw[jd (λz=>ha (.inl (by rw[q2,z])))];exact q3
  by_cases z:p.1=k
  .rw[lH (e.trans z),eb]at ev;cases ev;rw[lS,if_pos z,za,if_pos z];rw[eb]at nd;exact .cons ⟨e,c,eb,ja⟩ (keep nd.1 r)
  .have z':¬kv.1=k:=λq=>z (e.symm.trans q);rw[jZ z']at ev;rw[lS,if_neg z,za,if_neg z];have hm:V.ref c∈aa.map (·.2):=Nz ev;have GJ:b≠c:=λq=>nd.1 (by rw[eb,q];exact hm);exact .cons ⟨e,b,eb,by rw[jd GJ];exact hb⟩ (ih nd.2 ev)
theorem Zz {a:Addr}{o:Obj}{aa:List (List Key×V)}{g:TG}{ti:TT}{te:TE}{U0:St}{H0:Hp}{Q:VK}(Pv:Nat->List V->St->Hp->Prop)(h0:Pv 0 [] U0 H0)(hl:∀i ys U H,i<=aa.length->Pv i ys U H->H a=some (.aE o (.dT aa))/\ys.length<=sizeLine)(hs:∀i kv b ys U H,aa[i]?=some kv->H b=some (.tup (kv.1.map kV))->Pv i ys U H->g (.ref b) U H λ U2 H2=>ti U2 H2 λc H3=>if c=true then te U2 H3 λy H4=>Pv (i+1) (ys++[y]) U2 H4 else Pv (i+1) ys U2 H3)(hd:∀ys U H,Pv aa.length ys U H->∀p,H p=none->Q (.ref p) (upd H p (.lst ys))):∃W:Nat->Nat->List V->St->Hp->Prop,(∃m,W 0 m [] U0 H0)/\∀i m ys U H,W i m ys U H->ys.length<=sizeLine/\(((tY a o aa).stop i H/\oB Q ys H)\/((tY a o aa).go i H/\∃N:List V->St->Hp->Prop,(∀bH U' H',N bH U' H'->∃m',m'<m/\W (i+1) m' bH U' H')/\∀x H',(tY a o aa).dz i H x H'->g x U H' λ U2 H2=>ti U2 H2 λb H3=>if b=true then te U2 H3 λy H4=>N (ys++[y]) U2 H4 else N ys U2 H3)):=by
 refine⟨λi m ys U H=>m=aa.length-i/\i<=aa.length/\Pv i ys U H,⟨aa.length,by simp,zero_le _,h0⟩,?_⟩
 rintro i m ys U H ⟨rfl,hi,p⟩
 obtain⟨q,hz⟩:=hl i ys U H hi p;refine⟨hz,?_⟩;by_cases aD:i<aa.length
 .refine .inr ⟨⟨aD,q⟩,Pv (i+1),λbH U' H' p'=>⟨aa.length-(i+1),by lia,rfl,aD,p'⟩,λx H' y=>?_⟩;obtain⟨e,kv,b,ek,ex,eb⟩:=y;subst e ex;exact hs i kv b ys U _ ek eb p
 .have e:i=aa.length:=by lia
  subst e;exact .inl ⟨⟨le_refl _,q⟩,hd ys U H p⟩
noncomputable abbrev kN:=List (List Int×List Int)
noncomputable def fj (t:List Int):List Key:=t.map Sum.inl
noncomputable def dX (is:kN):fS:=is.map λp=>(fj p.1,p.2)
theorem AW (t:List Int):(fj t).map kV=t.map V.int:=by unfold fj;rw[List.map_map];rfl
theorem NA {t u:List Int}(h:fj t=fj u):t=u:=(List.map_inj_right (λ_ _ z=>Sum.inl.inj z)).mp h
noncomputable abbrev zc:=List (Cut×List Int)
noncomputable def k2 (k:Cut):K2:=(k.1.map Sum.inl,k.2.map Sum.inl)
theorem NB {a b:Cut}(h:k2 a=k2 b):a=b:=by have i:∀{x y:List Int},x.map (Sum.inl:Int->Key)=y.map Sum.inl->x=y:=λz=>(List.map_inj_right λ_ _ z=>Sum.inl.inj z).mp z;exact Prod.ext (i (congrArg Prod.fst h)) (i (congrArg Prod.snd h))
noncomputable def iE (H:Hp)(x:K2×Addr×V)(p:Cut×List Int):Prop:=x.1=k2 p.1/\∃b,x.2.2= .ref b/\H b=some (.lst (p.2.map V.int))
noncomputable def iF (P:Program)(w:World)(H:Hp)(S:Addr)(xs:P2):Prop:=(H S=some (dP P w S xs)\/xs=[]/\H S=some (.dT []))/\∀x∈xs,gZ H x.1 x.2.1
theorem iF.at_ {P:Program}{w:World}{H:Hp}{S:Addr}{xs:P2}(h:iF P w H S xs):mP P w H S xs:=⟨h.1.imp .inl λz=>⟨z.1,.inl z.2⟩,h.2⟩
theorem iF.mut {P:Program}{w:World}{H:Hp}{S:Addr}{xs:P2}(h:iF P w H S xs):fw (H S):=by rcases h.1 with e|⟨_,e⟩<;>(rw[e];exact True.intro)
theorem NC {P:Program}{w:World}{H H':Hp}{S:Addr}{xs:P2}(s:qg H H')(h:mP P w H S xs):mP P w H' S xs:=⟨h.1.imp (rO s) λz=>⟨z.1,rO s z.2⟩,λx hx=>(h.2 x hx).keeps λ_ _ e=>s _ _ e⟩
theorem iF.same {P:Program}{w:World}{H H':Hp}{S:Addr}{xs:P2}(s:qg H H')(h:iF P w H S xs):iF P w H' S xs:=⟨h.1.imp (s _ _) λz=>⟨z.1,s _ _ z.2⟩,λx hx=>(h.2 x hx).keeps λ_ _ e=>s _ _ e⟩
theorem iF.ne {P:Program}{w:World}{H:Hp}{S a:Addr}{xs:P2}{ys:List V}(h:iF P w H S xs)(e:H a=some (.tup ys)):a≠S:=λz=>by
 subst z;rcases h.1 with f|⟨_,f⟩
 .rw[e]at f;cases(show HO.tup ys=HO.ext _ from Option.some.inj f)
 .rw[e]at f;cases f
theorem iF.nK {P:Program}{w:World}{H:Hp}{S a:Addr}{xs:P2}{ys:List V}(h:iF P w H S xs)(e:H a=some (.lst ys)):a≠S:=λz=>by
 subst z;rcases h.1 with f|⟨_,f⟩
 .rw[e]at f;cases(show HO.lst ys=HO.ext _ from Option.some.inj f)
 .rw[e]at f;cases f
structure jD (P:Program)(w:World)(t:Ad)(H:Hp)(p dx S:Addr)(en:Int)(xs:P2)(ps:zc):Prop where
 ob:H p=some (.ins t.yy dx (iC S en))
 sg:iF P w H S xs
 hs:Paired (iE H) xs ps
 un:(xs.map (·.2.2)).Nodup
theorem ZA {H H':Hp}{xs:P2}{ps:zc}(s:qg H H')(h:Paired (iE H) xs ps):Paired (iE H') xs ps:=Paired.aQ h λ_ _ ⟨e,c,ec,q⟩=>⟨e,c,ec,s _ _ q⟩
theorem jD.same {P:Program}{w:World}{t:Ad}{H H':Hp}{p dx S:Addr}{en:Int}{xs:P2}{ps:zc}(s:qg H H')(b:jD P w t H p dx S en xs ps):jD P w t H' p dx S en xs ps:=⟨s _ _ b.ob,b.sg.same s,ZA s b.hs,b.un⟩
structure AX (P:Program)(w:World)(t:Ad)(H:Hp)(p dx S:Addr)(en:Int)(xs:P2)(ps:zc):Prop where
 ob:H p=some (.ins t.yy dx (iC S en))
 sg:mP P w H S xs
 hs:Paired (iE H) xs ps
theorem jD.rd {P:Program}{w:World}{t:Ad}{H:Hp}{p dx S:Addr}{en:Int}{xs:P2}{ps:zc}(b:jD P w t H p dx S en xs ps):AX P w t H p dx S en xs ps:=⟨b.ob,b.sg.at_,b.hs⟩
noncomputable def qf:zc->Cut->List Int
 |[],_=>[]
 |p::ps,k=>if p.1=k then p.2 else qf ps k
noncomputable def kO:zc->Cut->Int->zc
 |[],k,h=>[(k,[h])]
 |p::ps,k,h=>if p.1=k then(p.1,p.2++[h])::ps else p::kO ps k h
theorem ND {x:K2×Addr×V}{xs:P2}{k:K2}(e:x.1=k):dU (x::xs) k=some x.2.2:=by simp[dU,find?_cons,e]
theorem NF {x:K2×Addr×V}{xs:P2}{k:K2}(e:¬x.1=k):dU (x::xs) k=dU xs k:=by simp[dU,find?_cons,e]
theorem AY {H:Hp}{k:Cut}{xs:P2}{ps:zc}(p:Paired (iE H) xs ps):(dU xs (k2 k)=none/\qf ps k=[]/\k∉ps.map (·.1))\/∃b,dU xs (k2 k)=some (.ref b)/\H b=some (.lst ((qf ps k).map V.int)):=by
 induction p with
 |nil=>exact .inl ⟨rfl,rfl,by simp⟩
 | @cons x q xs ps h r ih=>
  obtain⟨e,b,eb,hb⟩:=h;by_cases z:q.1=k
  .exact .inr ⟨b,by rw[ND (by rw[e,z]),eb],by rw[qf,if_pos z];exact hb⟩
  .rw[qf,if_neg z,NF (λy=>z (NB (e.symm.trans y)))];rcases ih with⟨h1,h2,h3⟩|h
   .exact .inl ⟨h1,h2,by rw[map_cons,mem_cons];exact λy=>y.elim (λy=>z y.symm) h3⟩
   .exact .inr h
theorem NG {k:Cut}{h:Int}:∀{ps:zc},k∉ps.map (·.1)->kO ps k h=ps++[(k,[h])]
 |[],_=>rfl
 |p::ps,z=>by rw[map_cons,mem_cons]at z;rw[kO,if_neg (λe=>z (.inl e.symm)),NG λe=>z (.inr e)];rfl
theorem NH {k:K2}{v:V}{xs:P2}(ev:dU xs k=some v):v∈xs.map (·.2.2):=by
 unfold dU at ev;cases hf:xs.find? (λx=>decide (x.1=k))with
 |none=>rw[hf]at ev;cases ev
 |some q=>rw[hf]at ev;have e3:q.2.2=v:=Option.some.inj ev;rw[<-e3];exact mem_map_of_mem (List.mem_of_find?_eq_some hf)
theorem ZC {H:Hp}{r:Addr}(hr:H r=none){xs:P2}{ps:zc}(p:Paired (iE H) xs ps):V.ref r∉xs.map (·.2.2):=by
 induction p with
 |nil=>simp
 |cons h _ ih=>
  obtain⟨_,b,eb,hb⟩:=h;rw[map_cons,mem_cons]
  rintro(z|z)
  .rw[eb]at z;cases z;rw[hr]at hb;cases hb
  .exact ih z
theorem ZD {H:Hp}{k:Cut}{h:Int}{c:Addr}{xs:P2}{ps:zc}(p:Paired (iE H) xs ps)(nd:(xs.map (·.2.2)).Nodup)(ev:dU xs (k2 k)=some (.ref c)):Paired (iE (upd H c (.lst ((qf ps k++[h]).map V.int)))) xs (kO ps k h):=by
 have keep:∀{xs:P2}{ps:zc}{o:HO}{a:Addr},V.ref a∉xs.map (·.2.2)->Paired (iE H) xs ps->Paired (iE (upd H a o)) xs ps:=λ{xs ps o a} ha r=>by
  induction r with
  |nil=>exact .nil
  |cons q _ ih=>rw[map_cons,mem_cons]at ha;obtain⟨q1,b,q2,q3⟩:=q;refine .cons ⟨q1,b,q2,?_⟩ (ih λz=>ha (.inr z));rw[jd (λz=>ha (.inl (by rw[q2,z])))];exact q3
 induction p with
 |nil=>cases ev
 |@cons x q xs ps a r ih=>
  obtain⟨e,b,eb,hb⟩:=a;rw[map_cons,nodup_cons]at nd;by_cases z:q.1=k
  .rw[ND (by rw[e,z]),eb]at ev;cases ev;rw[kO,if_pos z,qf,if_pos z];rw[eb]at nd;exact .cons ⟨e,c,eb,ja⟩ (keep nd.1 r)
  .rw[NF (λy=>z (NB (e.symm.trans y)))]at ev;rw[kO,if_neg z,qf,if_neg z];have GJ:b≠c:=λy=>nd.1 (by rw[eb,y];exact NH ev);exact .cons ⟨e,b,eb,by rw[jd GJ];exact hb⟩ (ih nd.2 ev)
noncomputable def kP (xs:P2)(c:Addr):Prop:=∀x∈xs,x.2.2≠.ref c
noncomputable def NI (P:Program)(w:World)(t:Ad):Sp:=λvs H Q _=>∃p dx S en xs ps b k,vs=[.ref p,.ref b]/\AX P w t H p dx S en xs ps/\gZ H (k2 k) b/\∀H',qg H H'->Q (.bl (decide (en<=((qf ps k).length:Int)))) H'
noncomputable def NJ (P:Program)(w:World)(t:Ad):Sp:=λvs H Q _=>∃p dx S en xs ps b k h,vs=[.ref p,.int h,.ref b]/\jD P w t H p dx S en xs ps/\gZ H (k2 k) b/\xs.length<=1000/\(qf ps k).length<=1000/\(h∈qf ps k->∀H',qg H H'->Q (.bl false) H')/\(h∉qf ps k->∀aW H',jD P w t H' p dx S en aW (kO ps k h)->(∀c u,H c=some u->c≠S->kP xs c->H' c=some u)->(∀c u,H c=some u->kP xs c->kP aW c)->Q (.bl (decide (((qf ps k).length:Int)+1=en))) H')
section
variable {P:Program}{w:World}{K:W.Frag}{mg:Str->Option Value}{base:Heap}{t:Ad}
theorem NK (T:Txt K mg t):zi P w K mg base CX0 1 t.xm t.xp ["self","thing"] (λvs H Q E=>Nw t vs H Q E\/NI P w t vs H Q E):=by
 refine T.Xh.ok WB (λvs H Q E h=>?_) (λaT A outer s H vs Q E hr h=>?_)
 .rcases h with⟨p,dx,S,en,aa,ps,b,k,rfl,_⟩|⟨p,dx,S,en,xs,ps,b,k,rfl,_⟩<;>rfl
 .refine⟨_,(@je _ _ _ (jr (il Jk (jm qb rfl T.fh boot_len (jb (LH (Ae hr) (j4 (pv 0) rfl) (pv 1) (@qk _ _ _ _ jg) ⟨rfl,rfl,rfl,rfl⟩) jg)) (j4 (pv 0) rfl) (j7 _)))),?_⟩;rcases h with⟨p,dx,S,en,aa,ps,b,k,rfl,Bq,hb,q⟩|⟨p,dx,S,en,xs,ps,b,k,rfl,Bq,hb,q⟩;case inr=>
   refine⟨_,rfl,p,_,dx,_,_,rfl,Bq.ob,T.qi,T.qw,rN _ _,S,rfl,.inr ⟨xs,Bq.sg⟩,_,rfl,dF,λr hr=>?_⟩;have s1:=jh (o:=.lst []) hr;refine⟨_,.inr ⟨xs,k2 k,b,NC s1 Bq.sg,rfl,hb.keeps λ_ _ e=>s1 _ _ e,rfl⟩,?_⟩;rcases AY (k:=k) Bq.hs with⟨h1,h2,h3⟩|⟨c,h1,h2⟩
   .rw[h1];refine⟨r,[],rfl,.inl (ai.of ja),_,rfl,p,_,dx,_,_,rfl,s1 _ _ Bq.ob,T.qi,T.qe,vo _ _,_,_,rfl,rfl,?_⟩;have:=q _ s1;rw[h2]at this;exact this
   .rw[h1];refine⟨c,_,rfl,.inl (ai.of (s1 _ _ h2)),_,rfl,p,_,dx,_,_,rfl,s1 _ _ Bq.ob,T.qi,T.qe,vo _ _,_,_,rfl,rfl,?_⟩;rw[length_map];exact q _ s1
  refine⟨_,rfl,p,_,dx,_,_,rfl,Bq.ob,T.qi,T.qw,rN _ _,S,rfl,.inl (.inr ⟨aa,Bq.sg⟩),_,rfl,dF,λr hr=>?_⟩;have s1:=jh (o:=.lst []) hr;refine⟨_,.inl (.inr ⟨aa,k,b,rO s1 Bq.sg,rfl,s1 _ _ hb,rfl⟩),?_⟩;rcases GI (k:=k) Bq.hs with⟨h1,h2,h3⟩|⟨c,h1,h2⟩
  .rw[h1];refine⟨r,[],rfl,.inl (ai.of ja),_,rfl,p,_,dx,_,_,rfl,s1 _ _ Bq.ob,T.qi,T.qe,vo _ _,_,_,rfl,rfl,?_⟩;have:=q _ s1;rw[h2]at this;exact this
  .rw[h1];refine⟨c,_,rfl,.inl (ai.of (s1 _ _ h2)),_,rfl,p,_,dx,_,_,rfl,s1 _ _ Bq.ob,T.qi,T.qe,vo _ _,_,_,rfl,rfl,?_⟩;rw[length_map];exact q _ s1
theorem ZE (T:Txt K mg t):zi P w K mg base CX0 1 t.xm t.xp ["self","thing"] (Nw t):=(NK T).imp λ_ _ _ _ h=>.inl h
theorem NL (T:Txt K mg t):zi P w K mg base CX0 1 t.xm t.xp ["self","thing"] (NI P w t):=(NK T).imp λ_ _ _ _ h=>.inr h
theorem NM (T:Txt K mg t):zi P w K mg base CX0 1 t.vI t.vJ ["self","house","thing"] (λvs H Q E=>Nx t vs H Q E\/NJ P w t vs H Q E):=by
 refine T.Xd.ok Mj (λvs H Q E h=>?_) (λaT A outer s H vs Q E hr h=>?_)
 .rcases h with⟨p,dx,S,en,aa,ps,b,k,h,rfl,_⟩|⟨p,dx,S,en,xs,ps,b,k,h,rfl,_⟩<;>rfl
 .refine⟨_,(@jc _ _ _ _ _ (qz (i:=3) Mj.nd rfl (Or.inl rfl) (V2 (Ae hr) (j4 (pv 0) rfl) (pv 2) (@qk _ _ _ _ jg) ⟨rfl,rfl,rfl,rfl⟩)) (@jc _ _ _ _ _ (zo (jy JR (pv 1) (pv 3) (by with_unfolding_all rfl)) (@je _ _ _ (jr cL)) jv) (@jc _ _ _ _ _ (qc (iq PySem.F.plainAttrs_list PySem.F.slot_list_append PySem.F.type_list_append mE (pv 3) (jb (pv 1) jg))) (@je _ _ _ (jr (il fC (jm qb rfl T.fh boot_len (jb (pv 3) jg)) (j4 (pv 0) rfl) (j7 _))))))),?_⟩;rcases h with⟨p,dx,S,en,aa,ps,b,k,h,rfl,Bq,hb,l1,l2,q1,q2⟩|⟨p,dx,S,en,xs,ps,b,k,h,rfl,Bq,hb,l1,l2,q1,q2⟩;case inr=>
   refine⟨_,rfl,p,_,dx,_,_,rfl,Bq.ob,T.qi,T.qw,rN _ _,S,rfl,.inr ⟨xs,Bq.sg.at_⟩,_,rfl,dF,λr hr=>?_⟩;have s1:=jh (o:=.lst []) hr;have B1:=Bq.same s1;have ZF:=hb.keeps λ_ _ e=>s1 _ _ e;refine .inr ⟨xs,k2 k,b,B1.sg.mut,B1.sg.at_,rfl,ZF,xg l1,λv hv=>?_,λhv=>?_⟩
   .rcases AY (k:=k) B1.hs with⟨z,_⟩|⟨c,h1,h2⟩
    .rw[hv]at z;cases z
    cases Option.some.inj (hv.symm.trans h1);refine⟨_,rfl,_,rfl,c,_,rfl,.inl (ai.of h2),rfl,vP _,_,rfl,cz (λz=>?_) (λz=>?_)⟩
    .rw[if_neg (by decide),kM]at z;exact q1 (of_decide_eq_true z) _ s1
    rw[if_neg (by decide),kM]at z;have nh:h∉qf ps k:=λy=>z (decide_eq_true y);have pc:p≠c:=ie B1.ob h2 (by intro z;cases z);have Sc:c≠S:=B1.sg.nK h2;refine⟨_,rfl,.inl ⟨rfl,_,ai.of h2⟩,_,rfl,c,_,_,rfl,rfl,h2,xg (by rw[length_map];exact l2),?_⟩;refine⟨_,rfl,c,_,rfl,.inl (ai.of ja),_,rfl,p,_,dx,_,_,rfl,(by rw[jd pc];exact B1.ob),T.qi,T.qe,vo _ _,rfl,?_⟩;have G:=ZD (h:=h) B1.hs B1.un h1;rw[map_append]at G;have e:decide (V.int (((qf ps k).map V.int++[V.int h]).length:Nat)=V.int en)=decide (((qf ps k).length:Int)+1=en):=by rw[length_append,length_map];simp
    have cn:∀b ys,upd H r (.lst []) b=some (.tup ys)->upd (upd H r (.lst [])) c (.lst ((qf ps k).map V.int++[.int h])) b=some (.tup ys):=λb ys eb=>by rw[jd (ie eb h2 (by intro z;cases z))];exact eb
    have goal:=q2 nh xs _ ⟨by rw[jd pc];exact B1.ob,⟨B1.sg.1.imp (λz=>by rw[jd Sc.symm];exact z) λz=>⟨z.1,by rw[jd Sc.symm];exact z.2⟩,λx hx=>(B1.sg.2 x hx).keeps cn⟩,G,B1.un⟩ λc' u hc cS cN=>by
     have ne:c'≠c:=λy=>by obtain⟨x,hm,ek⟩:=mem_map.mp (NH h1);exact cN x hm (by rw[ek,y])
     rw[jd ne];exact s1 _ _ hc
    have goal:=goal λ_ _ _ z=>z;rw[<-e]at goal;exact goal
   .rcases AY (k:=k) B1.hs with⟨_,h2,h3⟩|⟨c,z,_⟩;case inr=>rw[hv]at z;cases z
    have rS:r≠S:=(B1.sg.nK ja);have rp:r≠p:=(ji Bq.ob hr).symm;have pS:p≠S:=λz=>by
     have h0:=Bq.ob;rw[z]at h0;rcases Bq.sg.1 with f|⟨_,f⟩
     .rw[h0]at f;cases(show HO.ins _ _ _=HO.ext _ from Option.some.inj f)
     .rw[h0]at f;cases f
    have kQ:upd (upd H r (.lst [])) S (dP P w S (xs++[(k2 k,b,.ref r)])) r=some (.lst []):=by rw[jd rS];exact ja
    refine⟨_,rfl,_,rfl,r,[],rfl,.inl (ai.of kQ),rfl,rfl,_,rfl,qq ?_⟩;refine⟨_,rfl,.inl ⟨rfl,_,ai.of kQ⟩,_,rfl,r,[],_,rfl,rfl,kQ,(by show 0<sizeLine;decide),?_⟩;have vQ:upd (upd (upd H r (.lst [])) S (dP P w S (xs++[(k2 k,b,.ref r)]))) r (.lst ([]++[.int h])) p=some (.ins t.yy dx (iC S en)):=by rw[jd rp.symm,jd pS];exact B1.ob
    refine⟨_,rfl,r,_,rfl,.inl (ai.of ja),_,rfl,p,_,dx,_,_,rfl,vQ,T.qi,T.qe,vo _ _,rfl,?_⟩;have up:∀a u,H a=some u->a≠S->upd (upd (upd H r (.lst [])) S (dP P w S (xs++[(k2 k,b,.ref r)]))) r (.lst ([]++[.int h])) a=some u:=λa u ea aS=>by rw[jd (ji ea hr),jd aS,jd (ji ea hr)];exact ea
    have cn:∀b' ys,H b'=some (.tup ys)->upd (upd (upd H r (.lst [])) S (dP P w S (xs++[(k2 k,b,.ref r)]))) r (.lst ([]++[.int h])) b'=some (.tup ys):=λb' ys eb=>by rw[jd (ji eb hr),jd (Bq.sg.ne eb),jd (ji eb hr)];exact eb
    have goal:=q2 (by rw[h2];simp) (xs++[(k2 k,b,.ref r)]) (upd (upd (upd H r (.lst [])) S (dP P w S (xs++[(k2 k,b,.ref r)]))) r (.lst ([]++[.int h]))) ⟨vQ,⟨.inl (by rw[jd rS.symm];exact ja),λx hx=>?_⟩,?_,?_⟩ (λc' u hc cS _=>up c' u hc cS)
    .have goal:=goal λc u hc z x hm=>by
      rcases mem_append.mp hm with y|y
      .exact z x y
      .have y':x=(k2 k,b,.ref r):=by simpa using y
       rw[y'];intro w';have w2:r=c:=by simpa using w'
       rw[<-w2,hr]at hc;cases hc
     rw[h2]at goal;have e:decide (V.int ((([]:List V)++[V.int h]).length:Nat)=V.int en)=decide ((([]:List Int).length:Int)+1=en):=by simp
     rw[<-e]at goal;exact goal
    .rcases mem_append.mp hx with hx|hx
     .obtain⟨c,d,e1,e2,e3⟩:=Bq.sg.2 x hx;exact⟨c,d,cn _ _ e1,cn _ _ e2,cn _ _ e3⟩
     .have y':x=(k2 k,b,.ref r):=by simpa using hx
      rw[y'];obtain⟨c,d,e1,e2,e3⟩:=hb;exact⟨c,d,cn _ _ e1,cn _ _ e2,cn _ _ e3⟩
    .rw[NG h3];refine zx (Paired.aQ Bq.hs λx pp ⟨e1,c,e2,e3⟩=>⟨e1,c,e2,up c _ e3 (Bq.sg.nK e3)⟩) ⟨rfl,r,rfl,ja⟩
    .rw[map_append,List.nodup_append];refine⟨Bq.un,by simp,λx hx y hy e=>?_⟩;rw[map_cons,map_nil,mem_singleton]at hy;rw[e,hy]at hx;exact ZC hr Bq.hs hx
  refine⟨_,rfl,p,_,dx,_,_,rfl,Bq.ob,T.qi,T.qw,rN _ _,S,rfl,.inl (.inr ⟨aa,.inl Bq.sg⟩),_,rfl,dF,λr hr=>?_⟩;have s1:=jh (o:=.lst []) hr;have B1:=Bq.same s1;refine .inl ⟨aa,k,b,B1.sg,rfl,s1 _ _ hb,xg l1,λv hv=>?_,λhv=>?_⟩
  .rcases GI (k:=k) B1.hs with⟨z,_⟩|⟨c,h1,h2⟩
   .rw[hv]at z;cases z
   cases Option.some.inj (hv.symm.trans h1);refine⟨_,rfl,_,rfl,c,_,rfl,.inl (ai.of h2),rfl,vP _,_,rfl,cz (λz=>?_) (λz=>?_)⟩
   .rw[if_neg (by decide),kM]at z;exact q1 (of_decide_eq_true z) _ s1
   rw[if_neg (by decide),kM]at z;have nh:h∉za ps k:=λy=>z (decide_eq_true y);have pc:p≠c:=ie B1.ob h2 (by intro z;cases z);have Sc:S≠c:=ie B1.sg h2 (by intro z;cases z);refine⟨_,rfl,.inl ⟨rfl,_,ai.of h2⟩,_,rfl,c,_,_,rfl,rfl,h2,xg (by rw[length_map];exact l2),?_⟩;refine⟨_,rfl,c,_,rfl,.inl (ai.of ja),_,rfl,p,_,dx,_,_,rfl,(by rw[jd pc];exact B1.ob),T.qi,T.qe,vo _ _,rfl,?_⟩;have G:=grown (h:=h) B1.hs B1.un h1;rw[map_append]at G;have e:decide (V.int (((za ps k).map V.int++[V.int h]).length:Nat)=V.int en)=decide (((za ps k).length:Int)+1=en):=by rw[length_append,length_map];simp
   have goal:=q2 nh aa _ ⟨by rw[jd pc];exact B1.ob,by rw[jd Sc];exact B1.sg,G,B1.un⟩ λc' u hc cS cN=>by
    have ne:c'≠c:=λy=>by obtain⟨kv,hm,ek⟩:=mem_map.mp (Nz h1);exact cN kv hm (by rw[ek,y])
    rw[jd ne];exact s1 _ _ hc
   have goal:=goal λ_ _ _ z=>z;rw[<-e]at goal;exact goal
  .rcases GI (k:=k) B1.hs with⟨_,h2,h3⟩|⟨c,z,_⟩;case inr=>rw[hv]at z;cases z
   have rS:r≠S:=(ji Bq.sg hr).symm;have rp:r≠p:=(ji Bq.ob hr).symm;have Sp:S≠p:=ie Bq.sg Bq.ob (by intro z;cases z);rw[zF _ hv];have kQ:upd (upd H r (.lst [])) S (.dT (aa++[(k,.ref r)])) r=some (.lst []):=by rw[jd rS];exact ja
   refine⟨_,rfl,_,rfl,r,[],rfl,.inl (ai.of kQ),rfl,rfl,_,rfl,qq ?_⟩;refine⟨_,rfl,.inl ⟨rfl,_,ai.of kQ⟩,_,rfl,r,[],_,rfl,rfl,kQ,(by show 0<sizeLine;decide),?_⟩;have vQ:upd (upd (upd H r (.lst [])) S (.dT (aa++[(k,.ref r)]))) r (.lst ([]++[.int h])) p=some (.ins t.yy dx (iC S en)):=by rw[jd rp.symm,jd Sp.symm];exact B1.ob
   refine⟨_,rfl,r,_,rfl,.inl (ai.of ja),_,rfl,p,_,dx,_,_,rfl,vQ,T.qi,T.qe,vo _ _,rfl,?_⟩;have goal:=q2 (by rw[h2];simp) (aa++[(k,.ref r)]) (upd (upd (upd H r (.lst [])) S (.dT (aa++[(k,.ref r)]))) r (.lst ([]++[.int h]))) ⟨vQ,by rw[jd rS.symm];exact ja,by
    rw[Ny h3];refine zx (Paired.aQ Bq.hs λkv pp ⟨e1,c,e2,e3⟩=>⟨e1,c,e2,?_⟩) ⟨rfl,r,rfl,ja⟩;rw[jd (ji e3 hr),jd (ie e3 Bq.sg (by intro z;cases z)),jd (ji e3 hr)];exact e3,by
    rw[map_append,List.nodup_append];refine⟨Bq.un,by simp,λx hx y hy e=>?_⟩;rw[map_cons,map_nil,mem_singleton]at hy;rw[e,hy]at hx;exact Zy hr Bq.hs hx⟩ λc' u hc cS _=>by rw[jd (ji hc hr),jd cS,jd (ji hc hr)];exact hc
   have goal:=goal λc u hc z kv hm=>by
    rcases mem_append.mp hm with y|y
    .exact z kv y
    .have y':kv=(k,.ref r):=by simpa using y
     rw[y'];intro w;have w':r=c:=by simpa using w
     rw[<-w',hr]at hc;cases hc
   rw[h2]at goal;have e:decide (V.int ((([]:List V)++[V.int h]).length:Nat)=V.int en)=decide ((([]:List Int).length:Int)+1=en):=by simp
   rw[<-e]at goal;exact goal
theorem ZG (T:Txt K mg t):zi P w K mg base CX0 1 t.vI t.vJ ["self","house","thing"] (Nx t):=(NM T).imp λ_ _ _ _ h=>.inl h
theorem NN (T:Txt K mg t):zi P w K mg base CX0 1 t.vI t.vJ ["self","house","thing"] (NJ P w t):=(NM T).imp λ_ _ _ _ h=>.inr h
theorem NO (T:Txt K mg t):zi P w K mg base CX0 1 t.gk t.E5 ["self","enough"] (Zx t):=by
 refine T.Xc.bY (N:=["self","enough"]) λ_ A _ s H vs Q E hr h=>?_;obtain⟨x,dx,en,rfl,hx,k⟩:=h;refine⟨_,(@jc _ _ _ _ _ (ko (pv 0) (pv 1) rfl) (@je _ _ _ (ko (pv 0) Dd rfl))),?_⟩;refine⟨_,rfl,_,rfl,x,_,dx,_,rfl,hx,T.qi,T.qe,(by show 0<1000;decide),λS hS=>?_⟩;obtain⟨Sx,NP⟩:=Zw hS;refine⟨_,rfl,x,_,dx,_,rfl,(by rw[jd (Ne.symm Sx),ja]),T.qi,T.qw,(by show 1<1000;decide),?_⟩;refine k S _ NP ⟨ja,by rw[jd Sx];exact ja,.nil,.nil⟩ λb o e bx=>?_;rw[jd bx,jd (ji e NP),jd bx];exact e
theorem ZH (T:Txt K mg t):zi P w K mg base CX0 1 t.kz t.ua ["self","purse"] (λvs H Q _=>∃x v,vs=[.ref x,v]/\H x=some (i7 x t.yf)/\∀d,H d=none->Q .aj (upd (upd H x (iz x t.yf d)) d (.xd [("purse",v)]))):=by refine T.W6.bY (N:=["self","purse"]) λ_ A _ s H vs Q E hr h=>?_;obtain⟨x,v,rfl,hx,k⟩:=h;refine⟨_,(@je _ _ _ (K7 T.MC rfl (pv 0) (pv 1) rfl)),?_⟩;exact⟨_,rfl,_,rfl,x,rfl,hx,k⟩
theorem NQ {H:Hp}{ea d:Addr}{X Yq Zq:HO}(h:H ea=none)(hd:upd H ea X d=none):H d=none/\upd (upd (upd H ea X) ea Yq) d Zq ea=some Yq/\qg H (λb=>if b=ea then none else upd (upd (upd H ea X) ea Yq) d Zq b)/\(λb=>if b=ea then none else upd (upd (upd H ea X) ea Yq) d Zq b) d=some Zq:=by
 have n1:d≠ea:=λz=>by rw[z,ja]at hd;cases hd
 have n2:H d=none:=by rw[jd n1]at hd;exact hd
 refine⟨n2,by rw[jd (Ne.symm n1),ja],λb u e=>?_,?_⟩
 .have be:=ji e h;show(if b=ea then none else upd (upd (upd H ea X) ea Yq) d Zq b)=some u;rw[if_neg be,jd (ji e n2),jd be,jd be];exact e
 .show(if d=ea then none else upd (upd (upd H ea X) ea Yq) d Zq d)=some Zq;rw[if_neg n1,ja]
theorem NR (T:Txt K mg t):zi P w K mg base CX0 1 t.y4 t.ui ["self","house"] (λvs H Q _=>∃x v,vs=[.ref x,v]/\H x=some (i7 x t.ju)/\∀d,H d=none->Q .aj (upd (upd H x (iz x t.ju d)) d (.xd [("house",v)]))):=by refine T.W5.bY (N:=["self","house"]) λ_ A _ s H vs Q E hr h=>?_;obtain⟨x,v,rfl,hx,k⟩:=h;refine⟨_,(@je _ _ _ (K7 T.AQ rfl (pv 0) (pv 1) rfl)),?_⟩;exact⟨_,rfl,_,rfl,x,rfl,hx,k⟩
noncomputable def simple:V->Bool
 | .aj=>true
 | .bl _=>true
 | .int _=>true
 | .str _=>true
 |_=>false
noncomputable def Thing (H:Hp)(x:V):Prop:=simple x=true\/∃a xs,x= .ref a/\(H a=some (.lst xs)\/H a=some (.tup xs))
noncomputable def vR:V->Bool
 | .int _=>true
 |_=>false
noncomputable def lT (x:V)(l h:Int):Bool:=match x with
 | .int i=>decide (l<=i/\i<=h)
 |_=>false
theorem ZI {x:V}{l h:Int}(e:lT x l h=true):∃i,x= .int i/\l<=i/\i<=h:=by
 cases x with
 |int i=>exact⟨i,rfl,of_decide_eq_true e⟩
 |_=>cases e
noncomputable def ZJ:Sp:=λvs H Q _=>∃x,vs=[x]/\Thing H x/\Q (.bl (vR x)) H
noncomputable def ZK:Sp:=λvs H Q _=>∃x l h,vs=[x,.int l,.int h]/\Thing H x/\Q (.bl (lT x l h)) H
theorem GK (T:Txt K mg t):zi P w K mg base CX0 1 t.AF t.AG ["thing"] ZJ:=by
 refine T.rJ.dQ Mh λ_ A _ s H vs Q E hr h=>?_;obtain⟨x,rfl,th,q⟩:=h;refine⟨_,(@je _ _ _ (jr (ik (jm vg rfl T.jq boot_isinstance (@xj _ _ _ _ _ (pv 0) (iS (v:=.ty "int") rfl T.Nr boot_int rfl) rfl rfl)) (jQ (ID (jm vg rfl T.jq boot_isinstance (@xj _ _ _ _ _ (pv 0) (iS (v:=.ty "bool") rfl T.Nq boot_bool rfl) rfl rfl))))))),?_⟩;rcases th with z|⟨a,xs,rfl,e|e⟩
 .cases x with
  |aj=>exact⟨_,rfl,_,_,_,false,rfl,.aj,rfl,_,rfl,qq q⟩
  |bl b=>exact⟨_,rfl,_,_,_,true,rfl,.bl _,rfl,_,rfl,yz ⟨_,rfl,_,_,_,true,rfl,.bl _,rfl,_,rfl,q⟩⟩
  |int i=>exact⟨_,rfl,_,_,_,true,rfl,.int _,rfl,_,rfl,yz ⟨_,rfl,_,_,_,false,rfl,.int _,rfl,_,rfl,q⟩⟩
  |str i=>exact⟨_,rfl,_,_,_,false,rfl,.str _,rfl,_,rfl,qq q⟩
  |_=>cases z
 .exact⟨_,rfl,_,_,_,false,rfl,.lst e,rfl,_,rfl,qq q⟩
 .exact⟨_,rfl,_,_,_,false,rfl,.tup e,rfl,_,rfl,qq q⟩
theorem ZL {x:V}{l h:Int}(e:vR x=false):lT x l h=false:=by cases x<;>first|rfl|cases e
theorem ZM (T:Txt K mg t):zi P w K mg base CX0 2 t.AH t.AI ["thing","low","high"] ZK:=by
 refine T.qd.dQ Mi λ_ A _ s H vs Q E hr h=>?_;obtain⟨x,l,u,rfl,th,q⟩:=h;refine⟨_,(@je _ _ _ (jr (ik (jn (GK T) hr.dn rfl T.AM T.rJ.kp T.AN .nil jz (jb (pv 0) jg)) (jQ (Jm nU nU (pv 1) (pv 0) (pv 2)))))),?_⟩;refine⟨_,rfl,x,rfl,th,_,rfl,?_⟩;cases hx:vR x with
 |false=>rw[ZL hx]at q;exact qq q
 | true=>
  cases x with
  | int i=>
   refine yz ?_;refine⟨_,rfl,_,rfl,_,_,rfl,rfl,_,rfl,?_⟩;have q':Q (.bl (decide (l<=i/\i<=u))) H:=q;refine cz (λh1=>?_) (λh1=>?_)
   .refine⟨_,rfl,_,_,rfl,rfl,?_⟩;have e:decide (l<=i/\i<=u)=decide (i<=u):=by
     have de:=of_decide_eq_true h1;simp[de]
    rw[e]at q';exact q'
   .have e:decide (l<=i/\i<=u)=false:=by
     have de:¬l<=i:=λz=>h1 (decide_eq_true z);simp[de]
    rw[e]at q';exact q'
  |_=>cases hx
inductive oX where
 |eD (v:V)
 |now
 |pap
 |cut
noncomputable def bZ (t:Ad)(E:XK)(H:Hp):oX->Prop
 | .eD v=>∀d H',qg H H'->H' d=some (.xd [("house",v)])->E (.ref t.ju) (some d) H'
 | .now=>∀H',qg H H'->E (.ref t.vm) none H'
 | .pap=>∀H',qg H H'->E (.ref t.xl) none H'
 | .cut=>∀H',qg H H'->E (.ref t.gq) none H'
theorem bZ.same {t:Ad}{E:XK}{H H':Hp}(s:qg H H'):∀{a:oX},bZ t E H a->bZ t E H' a
 | .eD _,h=>λd G g=>h d G (s.trans g)
 | .now,h=>λG g=>h G (s.trans g)
 | .pap,h=>λG g=>h G (s.trans g)
 | .cut,h=>λG g=>h G (s.trans g)
theorem AZ {t:Ad}{E:XK}{H:Hp}{v:V}(e:bZ t E H (.eD v))(ea:Addr)(gE:H ea=none):∃x v',[V.ref ea,v]=[V.ref x,v']/\upd H ea (i7 ea t.ju) x=some (i7 x t.ju)/\∀d,upd H ea (i7 ea t.ju) d=none->V.aj= .aj/\∃d',upd (upd (upd H ea (i7 ea t.ju)) x (iz x t.ju d)) d (.xd [("house",v')]) ea=some (iz ea t.ju d')/\E (.ref t.ju) (some d') (λb=>if b=ea then none else upd (upd (upd H ea (i7 ea t.ju)) x (iz x t.ju d)) d (.xd [("house",v')]) b):=by refine⟨ea,v,rfl,ja,λd hd=>?_⟩;obtain⟨g1,g2,g3,g4⟩:=NQ (Yq:=iz ea t.ju d) (Zq:=.xd [("house",v)]) gE hd;exact⟨rfl,d,g2,e d _ g3 g4⟩
theorem iG:1<=sizeLine:=by show 1<=sizeLine;decide
theorem bI {a b:TS}{D:Ends}{U:St}{H:Hp}(h:∀N:St->Hp->Prop,(∀U' H',b D U' H'->N U' H')->a {D with nx:=N} U H):IF a b D U H:=h _ λ_ _ x=>x
structure Kp where
 held:List Int
 xk:List Int
 done:List O
 fk:List O
 bN:List O
 cho:List ((Int×Int)×O)
 wait:List O
noncomputable def gI (xs:List Int)(i:Int):Int:=(xs[i.toNat]?).getD 0
noncomputable def bq (xs:List Int)(i d:Int):List Int:=xs.set i.toNat (gI xs i+d)
theorem A0 (xs:List Int)(i d:Int):(bq xs i d).length=xs.length:=length_set ..
theorem GL {xs:List Int}{i:Int}(h0:0<=i)(h:i<xs.length):xs[i.toNat]?=some (gI xs i):=by unfold gI;rw[getElem?_eq_getElem (by lia)];rfl
noncomputable def Kp.past (k:Kp)(o:O):Bool:=decide (o.n<gI k.xk o.p)
noncomputable def Kp.jE (k:Kp)(o:O):Bool:=decide (o.n=gI k.xk o.p)&&decide (o.m<=gI k.held o.p)
noncomputable def Kp.settle (k:Kp)(o:O):Kp:={k with held:=bq (bq k.held o.p (-o.m)) o.g o.m,xk:=bq k.xk o.p 1,done:=k.done++[o]}
noncomputable def lU (c:List ((Int×Int)×O))(o:O):Bool:=c.any λx=>decide (x.1=(o.p,o.n))
noncomputable abbrev Gv:=List ((Int×Int)×O)×List O×List O
noncomputable def gF (k:Kp)(o:O)(a:Gv):Gv:=if(k.jE o&&!lU a.1 o)=true then(a.1++[((o.p,o.n),o)],a.2.1++[o],a.2.2)else if(!k.past o&&!lU a.1 o)=true then(a.1,a.2.1,a.2.2++[o])else a
noncomputable def gv (k:Kp)(os:List O)(a:Gv):Gv:=os.foldl (λa o=>gF k o a) a
noncomputable def Kp.dg (k:Kp):Kp×List O:=({k with cho:=(gv k k.bN (k.cho,[],[])).1,bN:=(gv k k.bN (k.cho,[],[])).2.2},(gv k k.bN (k.cho,[],[])).2.1)
noncomputable def Kp.first (k:Kp):Option O:=k.wait.find? k.jE
noncomputable def Kp.step (k:Kp)(o:O):Kp:={k with wait:=k.wait.erase o}.settle o
noncomputable def Kp.go:Nat->Kp->Kp
 |0,k=>k
 |n+1,k=>match k.first with
  |none=>k
  |some o=>Kp.go n (k.step o)
noncomputable def Kp.A1 (k:Kp):Kp:=Kp.go k.wait.length k
noncomputable def Kp.vS (k:Kp)(o:O):Kp×List O:=if o∈k.fk then(k,[])else Kp.dg {k with fk:=k.fk++[o],bN:=k.bN++[o]}
noncomputable def Kp.vT (k:Kp)(o:O):Kp×List O:=if(k.past o||decide (o∈k.wait))=true then(k,[])else(Kp.A1 {k with wait:=k.wait++[o]}).dg
structure Kp.Ok (n:Nat)(k:Kp):Prop where
 h:k.held.length=n
 x:k.xk.length=n
 u:∀o∈k.bN,cC n o=true
 w:∀o∈k.wait,cC n o=true
 nd:k.wait.Nodup
theorem Kp.Ok.settle {n:Nat}{k:Kp}(q:k.Ok n)(o:O):(k.settle o).Ok n:=⟨by show(bq (bq _ _ _) _ _).length=n;rw[A0,A0];exact q.h,by show(bq _ _ _).length=n;rw[A0];exact q.x,q.u,q.w,q.nd⟩
theorem Kp.Ok.step {n:Nat}{k:Kp}(q:k.Ok n)(o:O):(k.step o).Ok n:=Kp.Ok.settle (k:={k with wait:=k.wait.erase o}) ⟨q.h,q.x,q.u,λo' h=>q.w o' (List.mem_of_mem_erase h),q.nd.erase o⟩ o
set_option genInjectivity true in
inductive Part where
 | x | wy | ak | bd | sd | sg | kd
 | row (i:Nat)
 | kp (h:Int) (f:Nat)
 | own (i:Nat)
 deriving DecidableEq
noncomputable abbrev Role:=Nat×Part
noncomputable abbrev av:=Addr->Option Role
noncomputable def mU:HO->Prop
 | .tup _=>False
 | .aE _ (.tup _)=>False
 |_=>True
noncomputable def aA (Z:av)(H:Hp):Prop:=∀a r,Z a=some r->∃u,H a=some u/\mU u
noncomputable def Fr (P:Role->Prop)(Z:av)(H:Hp)(af:av)(H':Hp):Prop:=∀a u,H a=some u->(∀r,Z a=some r->¬P r)->H' a=some u/\af a=Z a
noncomputable def aH (Z:av)(p:Addr)(r:Role):av:=λa=>if a=p then some r else Z a
theorem qr {Z:av}{p:Addr}{r:Role}:aH Z p r p=some r:=if_pos rfl
theorem qy {Z:av}{p a:Addr}{r:Role}(h:a≠p):aH Z p r a=Z a:=if_neg h
theorem Fr.refl {P:Role->Prop}{Z:av}{H:Hp}:Fr P Z H Z H:=λ_ _ e _=>⟨e,rfl⟩
theorem Fr.trans {P:Role->Prop}{Z af NS:av}{H H' rP:Hp}(f:Fr P Z H af H')(g:Fr P af H' NS rP):Fr P Z H NS rP:=λa u e n=>by obtain⟨e1,r1⟩:=f a u e n;obtain⟨e2,r2⟩:=g a u e1 (λr h=>n r (r1 ▸ h));exact⟨e2,r2.trans r1⟩
theorem Fr.mono {P P':Role->Prop}{Z af:av}{H H':Hp}(h:∀r,P r->P' r)(f:Fr P Z H af H'):Fr P' Z H af H':=λa u e n=>f a u e λr hr p=>n r hr (h r p)
theorem Fr.same {P:Role->Prop}{Z:av}{H H':Hp}(s:qg H H'):Fr P Z H Z H':=λ_ _ e _=>⟨s _ _ e,rfl⟩
theorem aA.same {Z:av}{H H':Hp}(s:qg H H')(o:aA Z H):aA Z H':=λa r h=>let⟨u,e,n⟩:=o a r h;⟨u,s _ _ e,n⟩
theorem aA.none {Z:av}{H:Hp}{p:Addr}(o:aA Z H)(h:H p=none):Z p= .none:=by
 cases e:Z p with
 |none=>rfl
 |some r=>obtain⟨u,q,_⟩:=o p r e;rw[h]at q;cases q
theorem Fr.put {P:Role->Prop}{Z:av}{H:Hp}{a:Addr}{r:Role}{o:HO}(h:Z a=some r)(p:P r):Fr P Z H Z (upd H a o):=λb u e n=>by have:b≠a:=λz=>n r (z ▸ h) p;exact⟨by rw[jd this];exact e,rfl⟩
theorem aA.put {Z:av}{H:Hp}{a:Addr}{o:HO}(k:aA Z H)(ho:autoParam (mU o) aP7):aA Z (upd H a o):=λb r h=>by
 by_cases z:b=a
 .subst z;exact⟨_,ja,ho⟩
 .obtain⟨u,e,n⟩:=k b r h;exact⟨u,by rw[jd z];exact e,n⟩
theorem Fr.cD {P:Role->Prop}{Z:av}{H:Hp}{p:Addr}{r:Role}{o:HO}(n:H p=none):Fr P Z H (aH Z p r) (upd H p o):=λb u e _=>by have:b≠p:=ji e n;exact⟨by rw[jd this];exact e,qy this⟩
theorem aA.cD {Z:av}{H:Hp}{p:Addr}{r:Role}{o:HO}(k:aA Z H)(ho:autoParam (mU o) aP7):aA (aH Z p r) (upd H p o):=λb r' h=>by
 by_cases z:b=p
 .subst z;exact⟨_,ja,ho⟩
 .rw[qy z]at h;obtain⟨u,e,n⟩:=k b r' h;exact⟨u,by rw[jd z];exact e,n⟩
theorem fm {Z:av}{a b:Addr}{r r':Role}(ha:Z a=some r)(hb:Z b=some r')(n:r≠r'):a≠b:=λz=>by subst z;rw[ha]at hb;exact n (Option.some.inj hb)
noncomputable def yc (H:Hp)(Z:av)(x:V)(o:O):Prop:=∃a,x= .ref a/\Z a=none/\H a=some (.tup (dW o))
theorem yc.fr {P:Role->Prop}{Z af:av}{H H':Hp}{x:V}{o:O}(f:Fr P Z H af H')(h:yc H Z x o):yc H' af x o:=by
 obtain⟨a,e,n,q⟩:=h;obtain⟨q',n'⟩:=f a _ q λr hr=>by rw[n]at hr;cases hr
 exact⟨a,e,n'.trans n,q'⟩
theorem yc.at_ {H:Hp}{Z:av}{x:V}{o:O}(h:yc H Z x o):Zn H x o:=let⟨a,e,_,q⟩:=h;⟨a,e,q⟩
noncomputable def dh (o:O):List Key:=[.inl o.p,.inl o.n,.inl o.g,.inl o.m]
theorem ZN {o u:O}(h:dh o=dh u):o=u:=by cases o;cases u;unfold dh at h;simp at h;simp[h]
noncomputable def jF (he nn dn:Addr):List (Str×V):=vy "done" (.ref dn) (vy "next_numbers" (.ref nn) (vy "held" (.ref he) []))
noncomputable def kf (he nn dn hd un cs wt:Addr):List (Str×V):=vy "waiting" (.ref wt) (vy "choices" (.ref cs) (vy "unvoted" (.ref un) (vy "heard" (.ref hd) (jF he nn dn))))
noncomputable abbrev eR (A:Nat->Addr):List (Str×V):=kf (A 1) (A 2) (A 3) (A 4) (A 5) (A 6) (A 7)
noncomputable def eE (H:Hp)(Z:av)(B:Kp)(f:Nat)(u:HO):Prop:=match f with
 |1=>u= .lst (B.held.map V.int)
 |2=>u= .lst (B.xk.map V.int)
 |3=>∃xs,u= .lst xs/\Paired (yc H Z) xs B.done
 |4=>∃aa,u= .dT aa/\aa.map (·.1)=B.fk.map dh
 |5=>∃xs,u= .lst xs/\Paired (yc H Z) xs B.bN
 |6=>∃aa,u= .dT aa/\Paired (λkv (c:(Int×Int)×O)=>kv.1=[.inl c.1.1,.inl c.1.2]/\yc H Z kv.2 c.2) aa B.cho
 |7=>∃xs,u= .lst xs/\Paired (yc H Z) xs B.wait
 |_=>True
theorem eE.fr {P:Role->Prop}{Z af:av}{H H':Hp}{B:Kp}{f:Nat}{u:HO}(fr:Fr P Z H af H')(h:eE H Z B f u):eE H' af B f u:=by
 unfold eE at h⊢;split at h
 .exact h
 .exact h
 .obtain⟨xs,e,p⟩:=h;exact⟨xs,e,Paired.aQ p λ_ _=>yc.fr fr⟩
 .exact h
 .obtain⟨xs,e,p⟩:=h;exact⟨xs,e,Paired.aQ p λ_ _=>yc.fr fr⟩
 .obtain⟨xs,e,p⟩:=h;exact⟨xs,e,Paired.aQ p λ_ _ ⟨a,b⟩=>⟨a,b.fr fr⟩⟩
 .obtain⟨xs,e,p⟩:=h;exact⟨xs,e,Paired.aQ p λ_ _=>yc.fr fr⟩
 .trivial
structure xf (t:Ad)(H:Hp)(Z:av)(id:Nat)(h:Int)(k:Addr)(A:Nat->Addr)(dk:Addr)(B:Kp):Prop where
 ob:H k=some (.ins t.jw dk (eR A))
 r0:Z k=some (id,.kp h 0)
 fl:∀f,1<=f->f<=7->Z (A f)=some (id,.kp h f)/\∃u,H (A f)=some u/\eE H Z B f u
noncomputable def bC (id:Nat)(h:Int):Role->Prop:=λr=>∃f,r=(id,.kp h f)
section
variable {t:Ad}{H H':Hp}{Z af:av}{id:Nat}{h:Int}{k dk:Addr}{A:Nat->Addr}{B κ':Kp}{P:Role->Prop}
theorem xf.fr (hP:∀f,¬P (id,.kp h f))(f:Fr P Z H af H')(K:xf t H Z id h k A dk B):xf t H' af id h k A dk B:=by
 obtain⟨e1,r1⟩:=f _ _ K.ob λr hr=>by rw[K.r0]at hr;cases hr;exact hP 0
 refine⟨e1,r1.trans K.r0,λi h1 h7=>?_⟩;obtain⟨ri,u,hu,q⟩:=K.fl i h1 h7;obtain⟨e2,r2⟩:=f _ _ hu λr hr=>by rw[ri]at hr;cases hr;exact hP i
 exact⟨r2.trans ri,u,e2,q.fr f⟩
theorem xf.put (K:xf t H Z id h k A dk B){f0:Nat}(h1:1<=f0)(h7:f0<=7){u0:HO}(q0:eE (upd H (A f0) u0) Z κ' f0 u0)(hs:∀f u,f≠f0->eE H Z B f u->eE H Z κ' f u):xf t (upd H (A f0) u0) Z id h k A dk κ'/\Fr (bC id h) Z H Z (upd H (A f0) u0):=by
 obtain⟨r0,_⟩:=K.fl f0 h1 h7;have fr:Fr (bC id h) Z H Z (upd H (A f0) u0):=Fr.put r0 ⟨f0,rfl⟩;refine⟨⟨?_,K.r0,λf a b=>?_⟩,fr⟩
 .rw[jd (fm K.r0 r0 (by intro z;cases z;lia))];exact K.ob
 .obtain⟨rf,u,hu,q⟩:=K.fl f a b;by_cases z:f=f0
  .subst z;exact⟨rf,_,ja,q0⟩
  .refine⟨rf,u,?_,(hs f u z q).fr fr⟩;rw[jd (fm rf r0 (by intro y;cases y;exact z rfl))];exact hu
end
theorem xi (A:Nat->Addr):(eR A).lookup ("held":Str)=some (.ref (A 1))/\(eR A).lookup ("next_numbers":Str)=some (.ref (A 2))/\(eR A).lookup ("done":Str)=some (.ref (A 3))/\(eR A).lookup ("heard":Str)=some (.ref (A 4))/\(eR A).lookup ("unvoted":Str)=some (.ref (A 5))/\(eR A).lookup ("choices":Str)=some (.ref (A 6))/\(eR A).lookup ("waiting":Str)=some (.ref (A 7)):=by unfold eR kf jF;refine⟨?_,?_,?_,?_,?_,?_,?_⟩<;>repeat(first|rw[jk,if_pos rfl]|rw[jk,if_neg (by decide+kernel)])
theorem fq (A:Nat->Addr){m:Str}(h:autoParam (¬m="waiting"/\¬m="choices"/\¬m="unvoted"/\¬m="heard"/\¬m="done"/\¬m="next_numbers"/\¬m="held") aP4):(eR A).lookup m=none:=by obtain⟨h1,h2,h3,h4,h5,h6,h7⟩:=h;unfold eR kf jF;rw[jk,if_neg h1,jk,if_neg h2,jk,if_neg h3,jk,if_neg h4,jk,if_neg h5,jk,if_neg h6,jk,if_neg h7];rfl
theorem xf.he {t:Ad}{H:Hp}{Z:av}{id:Nat}{h:Int}{k dk:Addr}{A:Nat->Addr}{B:Kp}(K:xf t H Z id h k A dk B):H (A 1)=some (.lst (B.held.map V.int)):=by obtain⟨_,u,hu,q⟩:=K.fl 1 (by decide) (by decide);rw[hu,show u=_ from q]
theorem xf.nn {t:Ad}{H:Hp}{Z:av}{id:Nat}{h:Int}{k dk:Addr}{A:Nat->Addr}{B:Kp}(K:xf t H Z id h k A dk B):H (A 2)=some (.lst (B.xk.map V.int)):=by obtain⟨_,u,hu,q⟩:=K.fl 2 (by decide) (by decide);rw[hu,show u=_ from q]
theorem xf.dn {t:Ad}{H:Hp}{Z:av}{id:Nat}{h:Int}{k dk:Addr}{A:Nat->Addr}{B:Kp}(K:xf t H Z id h k A dk B):∃xs,H (A 3)=some (.lst xs)/\Paired (yc H Z) xs B.done:=by obtain⟨_,u,hu,xs,rfl,q⟩:=K.fl 3 (by decide) (by decide);exact⟨xs,hu,q⟩
theorem xf.hd {t:Ad}{H:Hp}{Z:av}{id:Nat}{h:Int}{k dk:Addr}{A:Nat->Addr}{B:Kp}(K:xf t H Z id h k A dk B):∃aa,H (A 4)=some (.dT aa)/\aa.map (·.1)=B.fk.map dh:=by obtain⟨_,u,hu,xs,rfl,q⟩:=K.fl 4 (by decide) (by decide);exact⟨xs,hu,q⟩
theorem xf.un {t:Ad}{H:Hp}{Z:av}{id:Nat}{h:Int}{k dk:Addr}{A:Nat->Addr}{B:Kp}(K:xf t H Z id h k A dk B):∃xs,H (A 5)=some (.lst xs)/\Paired (yc H Z) xs B.bN:=by obtain⟨_,u,hu,xs,rfl,q⟩:=K.fl 5 (by decide) (by decide);exact⟨xs,hu,q⟩
theorem xf.cs {t:Ad}{H:Hp}{Z:av}{id:Nat}{h:Int}{k dk:Addr}{A:Nat->Addr}{B:Kp}(K:xf t H Z id h k A dk B):∃aa,H (A 6)=some (.dT aa)/\Paired (λkv (c:(Int×Int)×O)=>kv.1=[.inl c.1.1,.inl c.1.2]/\yc H Z kv.2 c.2) aa B.cho:=by obtain⟨_,u,hu,xs,rfl,q⟩:=K.fl 6 (by decide) (by decide);exact⟨xs,hu,q⟩
theorem xf.wt {t:Ad}{H:Hp}{Z:av}{id:Nat}{h:Int}{k dk:Addr}{A:Nat->Addr}{B:Kp}(K:xf t H Z id h k A dk B):∃xs,H (A 7)=some (.lst xs)/\Paired (yc H Z) xs B.wait:=by obtain⟨_,u,hu,xs,rfl,q⟩:=K.fl 7 (by decide) (by decide);exact⟨xs,hu,q⟩
theorem vU {n:Nat}{o:O}{xs:List Int}(h:cC n o=true)(l:xs.length=n):xs[o.p.toNat]?=some (gI xs o.p)/\0<=o.p/\o.p<n:=by obtain⟨a1,a2,_⟩:=Ep.mp h;exact⟨GL a1 (by lia),a1,by lia⟩
theorem GN (T:Txt K mg t):zi P w K mg base CX0 1 t.AJ t.E9 ["self","order"] (λvs H Q _=>∃Z id h k A dk B n q o,vs=[.ref k,.ref q]/\xf t H Z id h k A dk B/\H q=some (.tup (dW o))/\cC (n:Nat) o=true/\B.xk.length=n/\Q (.bl (B.past o)) H):=by refine T.Xn.bY (N:=["self","order"]) λ_ A _ s H vs Q E hr h=>?_;obtain⟨Z,id,h,k,A',dk,B,n,q,o,rfl,R,hq,ho,l,g⟩:=h;refine⟨_,(@je _ _ _ (jr (il Jj (dD oa (pv 1) jf (λ_ _=>rfl)) (dD gR (j4 (pv 0) rfl) (dD oa (pv 1) jf (λ_ _=>rfl)) (λ_ _=>rfl)) (j7 _)))),?_⟩;obtain⟨e,p0,_⟩:=vU ho l;refine⟨_,rfl,q,dW o,1,.int o.n,rfl,rfl,ax.of hq,rfl,_,rfl,k,_,dk,_,_,rfl,R.ob,T.jl,T.qj,(xi A').2.1,_,rfl,q,dW o,0,.int o.p,rfl,rfl,ax.of hq,rfl,A' 2,_,o.p,.int (gI B.xk o.p),rfl,rfl,ai.of R.nn,mS p0 (by rw[getElem?_map,e];rfl),_,_,rfl,rfl,g⟩
theorem NT (T:Txt K mg t):zi P w K mg base CX0 1 t.AK t.Fb ["self","order"] (λvs H Q _=>∃Z id h k A dk B n q o,vs=[.ref k,.ref q]/\xf t H Z id h k A dk B/\H q=some (.tup (dW o))/\cC (n:Nat) o=true/\B.xk.length=n/\B.held.length=n/\Q (.bl (B.jE o)) H):=by
 refine T.Xo.dQ gc λ_ A _ s H vs Q E hr h=>?_;obtain⟨Z,id,h,k,A',dk,B,n,q,o,rfl,R,hq,ho,l,l2,g⟩:=h;refine⟨_,(@jc _ _ _ _ _ (nN (pv 1) (qF rfl (zl (qa (i:=2) gc.nd rfl (Or.inl rfl)) (zl (qa (i:=3) gc.nd rfl (Or.inl rfl)) (zl (qa (i:=4) gc.nd rfl (Or.inl rfl)) (zl (qa (i:=5) gc.nd rfl (Or.inl rfl)) qE)))))) (@je _ _ _ (jr (ik (il fC (pv 3) (dD gR (j4 (pv 0) rfl) (pv 2) (λ_ _=>rfl)) (j7 _)) (jQ (il nU (pv 5) (dD gR (j4 (pv 0) rfl) (pv 2) (λ_ _=>rfl)) (j7 _))))))),?_⟩;obtain⟨e,p0,_⟩:=vU ho l;obtain⟨e2,_,_⟩:=vU ho l2;refine⟨_,rfl,q,_,rfl,ax.of hq,rfl,_,_,rfl,_,_,rfl,_,_,rfl,_,_,rfl,rfl,?_⟩;refine⟨_,rfl,_,rfl,k,_,dk,_,_,rfl,R.ob,T.jl,T.qj,(xi A').2.1,_,rfl,A' 2,_,o.p,.int (gI B.xk o.p),rfl,rfl,ai.of R.nn,mS p0 (by rw[getElem?_map,e];rfl),rfl,_,rfl,?_⟩;unfold Kp.jE at g;refine cz (λz=>?_) (λz=>?_)
 .refine⟨_,rfl,_,rfl,k,_,dk,_,_,rfl,R.ob,T.jl,T.zv,(xi A').1,_,rfl,A' 1,_,o.p,.int (gI B.held o.p),rfl,rfl,ai.of R.he,mS p0 (by rw[getElem?_map,e2];rfl),_,_,rfl,rfl,?_⟩;rw[decide_eq_true (V.int.inj (of_decide_eq_true z)),Bool.true_and]at g;exact g
 .rw[decide_eq_false (λy=>z (by rw[y];exact decide_eq_true rfl)),Bool.false_and]at g;exact g
theorem ZO (T:Txt K mg t):zi P w K mg base CX0 1 t.AL t.Fc ["self","order"] (λvs H Q _=>∃Z id h k A dk B n q o,vs=[.ref k,.ref q]/\xf t H Z id h k A dk B/\yc H Z (.ref q) o/\cC (n:Nat) o=true/\B.xk.length=n/\B.held.length=n/\B.done.length<=1000/\aA Z H/\∀H',xf t H' Z id h k A dk (B.settle o)->Fr (bC id h) Z H Z H'->aA Z H'->Q .aj H'):=by
 refine T.Xp.dQ w6 λ_ A _ s H vs Q E hr h=>?_;obtain⟨Z,id,h,k,A',dk,B,n,q,o,rfl,R,uq,ho,l,l2,ld,kr,g⟩:=h;refine⟨_,(@jc _ _ _ _ _ (nN (pv 1) (qF rfl (zl (qa (i:=2) w6.nd rfl (Or.inl rfl)) (zl (qa (i:=3) w6.nd rfl (Or.inl rfl)) (zl (qa (i:=4) w6.nd rfl (Or.inl rfl)) (zl (qa (i:=5) w6.nd rfl (Or.inl rfl)) qE)))))) (@jc _ _ _ _ _ (Cw (j4 (pv 0) rfl) (pv 2) Dy (pv 5) QD set_list) (@jc _ _ _ _ _ (Cw (j4 (pv 0) rfl) (pv 4) Dy (pv 5) IP set_list) (@jc _ _ _ _ _ (Cw (j4 (pv 0) rfl) (pv 2) Dy jf IP set_list) (@je _ _ _ (qc (iq PySem.F.plainAttrs_list PySem.F.slot_list_append PySem.F.type_list_append mE (j4 (pv 0) rfl) (jb (pv 1) jg)))))))),?_⟩;obtain⟨_,eq,nq,hq⟩:=uq;cases eq;obtain⟨e,p0,p1⟩:=vU ho l;obtain⟨e2,_,_⟩:=vU ho l2;refine⟨_,rfl,q,_,rfl,ax.of hq,rfl,_,_,rfl,_,_,rfl,_,_,rfl,_,_,rfl,rfl,?_⟩;obtain⟨g0,g1⟩:=(λa=>⟨a.2.2.1,a.2.2.2.1⟩:_->0<=o.g/\o.g<=(n:Int)-1) (Ep.mp ho);refine⟨_,rfl,k,_,dk,_,_,rfl,R.ob,T.jl,T.zv,(xi A').1,_,rfl,A' 1,_,o.p,.int (gI B.held o.p),rfl,rfl,ai.of R.he,p0,(by rw[getElem?_map,e2];rfl),_,rfl,_,_,rfl,rfl,A' 1,_,o.p,_,rfl,rfl,R.he,vO p0 (by rw[length_map];omega),?_⟩;have m1:((B.held.map V.int).set o.p.toNat (.int (gI B.held o.p-o.m)))=(bq B.held o.p (-o.m)).map V.int:=by
  rw[bq,map_set];rfl
 dsimp only;rw[m1];obtain⟨R1,f1⟩:=R.put (κ':={B with held:=bq B.held o.p (-o.m)}) (f0:=1) (by decide) (by decide) (u0:=.lst ((bq B.held o.p (-o.m)).map V.int)) rfl (λf u hf q=>by unfold eE at q⊢;split at q<;>first|exact q|exact absurd rfl hf);have cb:=kr.put (a:=A' 1) (o:=.lst ((bq B.held o.p (-o.m)).map V.int));generalize upd H (A' 1) (.lst ((bq B.held o.p (-o.m)).map V.int))=H1 at R1 f1 cb;have l3:(bq B.held o.p (-o.m)).length=n:=(A0 ..).trans l2;have e3:(bq B.held o.p (-o.m))[o.g.toNat]?=some (gI (bq B.held o.p (-o.m)) o.g):=GL g0 (by omega);refine⟨_,rfl,k,_,dk,_,_,rfl,R1.ob,T.jl,T.zv,(xi A').1,_,rfl,A' 1,_,o.g,.int (gI (bq B.held o.p (-o.m)) o.g),rfl,rfl,ai.of R1.he,g0,(by rw[getElem?_map,e3];rfl),_,rfl,_,_,rfl,rfl,A' 1,_,o.g,_,rfl,rfl,R1.he,vO g0 (by rw[length_map];show o.g.toNat<(bq B.held o.p (-o.m)).length;omega),?_⟩;have m2:((bq B.held o.p (-o.m)).map V.int).set o.g.toNat (.int (gI (bq B.held o.p (-o.m)) o.g+o.m))=(bq (bq B.held o.p (-o.m)) o.g o.m).map V.int:=by rw[bq.eq_def (bq B.held o.p (-o.m)),map_set]
 dsimp only;rw[m2];obtain⟨R2,f2⟩:=R1.put (κ':={B with held:=bq (bq B.held o.p (-o.m)) o.g o.m}) (f0:=1) (by decide) (by decide) (u0:=.lst ((bq (bq B.held o.p (-o.m)) o.g o.m).map V.int)) rfl (λf u hf q=>by unfold eE at q⊢;split at q<;>first|exact q|exact absurd rfl hf);have bO:=cb.put (a:=A' 1) (o:=.lst ((bq (bq B.held o.p (-o.m)) o.g o.m).map V.int));generalize upd H1 (A' 1) (.lst ((bq (bq B.held o.p (-o.m)) o.g o.m).map V.int))=H2 at R2 f2 bO;refine⟨_,rfl,k,_,dk,_,_,rfl,R2.ob,T.jl,T.qj,(xi A').2.1,_,rfl,A' 2,_,o.p,.int (gI B.xk o.p),rfl,rfl,ai.of R2.nn,p0,(by rw[getElem?_map,e];rfl),_,_,rfl,rfl,A' 2,_,o.p,_,rfl,rfl,R2.nn,vO p0 (by rw[length_map];show o.p.toNat<B.xk.length;rw[l];omega),?_⟩;have m3:(B.xk.map V.int).set o.p.toNat (.int (gI B.xk o.p+1))=(bq B.xk o.p 1).map V.int:=by rw[bq,map_set]
 dsimp only;rw[m3];obtain⟨R3,f3⟩:=R2.put (κ':={B with held:=bq (bq B.held o.p (-o.m)) o.g o.m,xk:=bq B.xk o.p 1}) (f0:=2) (by decide) (by decide) (u0:=.lst ((bq B.xk o.p 1).map V.int)) rfl (λf u hf q=>by unfold eE at q⊢;split at q<;>first|exact q|exact absurd rfl hf);have fT:=bO.put (a:=A' 2) (o:=.lst ((bq B.xk o.p 1).map V.int));generalize upd H2 (A' 2) (.lst ((bq B.xk o.p 1).map V.int))=H3 at R3 f3 fT;obtain⟨xs,hx,px⟩:=R3.dn;have fr:=(f1.trans f2).trans f3;have ZP:yc H3 Z (.ref q) o:=yc.fr fr ⟨q,rfl,nq,hq⟩;have lx:xs.length<=1000:=by rw[Paired.length px];exact ld
 refine⟨_,rfl,k,_,dk,_,_,rfl,R3.ob,T.jl,T.M9,(xi A').2.2.1,.inl ⟨rfl,_,ai.of hx⟩,_,rfl,A' 3,xs,.ref q,rfl,rfl,hx,xg lx,?_⟩;obtain⟨r3,_⟩:=R3.fl 3 (by decide) (by decide);obtain⟨R4,f4⟩:=R3.put (κ':=B.settle o) (f0:=3) (by decide) (by decide) (u0:=.lst (xs++[.ref q])) ⟨_,rfl,zx (Paired.aQ px λ_ _=>yc.fr (Fr.put (P:=bC id h) r3 ⟨3,rfl⟩)) (ZP.fr (Fr.put (P:=bC id h) r3 ⟨3,rfl⟩))⟩ (λf u hf q=>by unfold eE at q⊢;split at q<;>first|exact q|exact absurd rfl hf);exact g _ R4 (fr.trans f4) fT.put
theorem yc.ref {H:Hp}{Z:av}{x:V}{o:O}(h:yc H Z x o):∃q,x= .ref q/\H q=some (.tup (dW o)):=let⟨q,e,_,h⟩:=h;⟨q,e,h⟩
theorem NU (T:Txt K mg t):zi P w K mg base CX0 2 t.uh t.uj ["self"] (λvs H Q _=>∃Z id h k A dk B n,vs=[.ref k]/\xf t H Z id h k A dk B/\B.Ok n/\∀v,((B.first=none/\v= .aj)\/∃o,B.first=some o/\yc H Z v o)->Q v H):=by
 refine T.XB.dQ Ml λ_ A _ s H vs Q E hr h=>?_;obtain⟨Z,id,h,k,A',dk,B,n,rfl,R,ag,g⟩:=h;refine⟨_,(@jc _ _ _ _ _ (jT PassesOwn.never rfl (@gN _ _ _ _ (j4 (pv 0) rfl)) (qa (i:=1) Ml.nd rfl (Or.inl rfl)) (@je _ _ _ (zo (zk (j6 (pv 0) T.jl T.Ni (NT T) hr.dn T.MH .nil jz (jb (pv 1) jg))) (@je _ _ _ (jr (pv 1))) jv))) (@je _ _ _ (jr ig))),?_⟩;obtain⟨xs,hx,px⟩:=R.wt;refine⟨_,rfl,k,_,dk,_,_,rfl,R.ob,T.jl,T.xb,(xi A').2.2.2.2.2.2,A' 7,rfl,⟨_,ai.of hx⟩,mw (K:=K) (a:=A' 7) (xs:=xs) (λi U H'=>∃v,U=[some (.ref k),v]/\H'=H/\(B.wait.take i).find? B.jE=none) ⟨none,rfl,rfl,rfl⟩ (λi U H' _ ⟨_,_,e,_⟩=>ai.of (by rw[e];exact hx)) ?_ ?_⟩
 .rintro i x U H' ex ⟨v,rfl,rfl,hf⟩
  obtain⟨o,eo,uo⟩:=qx px ex;obtain⟨q,rfl,hq⟩:=uo.ref;have om:o∈B.wait:=mem_of_getElem? eo;refine⟨_,rfl,k,dk,_,rfl,R.ob,fq A',_,rfl,Z,id,h,k,A',dk,B,n,q,o,rfl,R,hq,ag.w o om,ag.x,ag.h,_,rfl,?_⟩;cases hd:B.jE o with
  |true=>
   refine yz ⟨_,rfl,g _ (.inr ⟨o,?_,uo⟩)⟩;have:(B.wait.take (i+1)).find? B.jE=some o:=by rw[take_snoc eo,List.find?_append,hf,find?_cons,hd];rfl
   unfold Kp.first;rw[<-List.take_append_drop (i+1) B.wait,List.find?_append,this];rfl
  |false=>refine qq ⟨_,rfl,rfl,?_⟩;rw[take_snoc eo,List.find?_append,hf,find?_cons,hd];rfl
 .rintro U H' ⟨v,rfl,rfl,hf⟩
  refine g _ (.inl ⟨?_,rfl⟩);rw[Paired.length px,take_length]at hf;exact hf
theorem Fr.GO {P:Role->Prop}{Z:av}{H:Hp}{a:Addr}{r r':Role}(h:Z a=some r)(p:P r):Fr P Z H (aH Z a r') H:=λb u e n=>by have:b≠a:=λz=>n r (z ▸ h) p;exact⟨e,qy this⟩
theorem aA.GO {Z:av}{H:Hp}{a:Addr}{r r':Role}(h:Z a=some r)(k:aA Z H):aA (aH Z a r') H:=λb r'' hb=>by
 by_cases z:b=a
 .subst z;exact k _ _ h
 .rw[qy z]at hb;exact k _ _ hb
theorem ZQ {H:Hp}{Z:av}{o:O}:∀{aa:List (List Key×V)}{c:List ((Int×Int)×O)},Paired (λkv (c:(Int×Int)×O)=>kv.1=[.inl c.1.1,.inl c.1.2]/\yc H Z kv.2 c.2) aa c->(br aa [.inl o.p,.inl o.n]).isSome=lU c o:=λ{aa c} q=>by
 induction q with
 |nil=>rfl
 |@cons kv c aa cs a r ih=>
  obtain⟨e,_⟩:=a;unfold lU at ih⊢;rw[any_cons];by_cases z:c.1=(o.p,o.n)
  .rw[lH (show kv.1=_ by rw[e,z]),decide_eq_true z];rfl
  .rw[jZ (λy=>z ?_),ih,decide_eq_false z,Bool.false_or];rw[e]at y;have y1:=(List.cons.inj y).1;have y2:=(List.cons.inj (List.cons.inj y).2).1;exact Prod.ext (Sum.inl.inj y1) (Sum.inl.inj y2)
theorem ZR {n:Nat}{o:O}(h:cC n o=true)(l:n<=8):cC 8 o=true:=by rw[Ep]at h⊢;lia
theorem ZS (B:Kp){os:List O}{i:Nat}{o:O}(e:os[i]?=some o)(a:Gv):gv B (os.take (i+1)) a=gF B o (gv B (os.take i) a):=by unfold gv;rw[take_snoc e,List.foldl_append];rfl
theorem ZT (B:Kp)(o:O)(a:Gv):(gF B o a).1.length<=a.1.length+1/\(gF B o a).2.1.length<=a.2.1.length+1/\(gF B o a).2.2.length<=a.2.2.length+1:=by
 unfold gF;split
 .simp
 .split
  .simp
  .simp
theorem NV (B:Kp):∀(os:List O)(a:Gv),(gv B os a).1.length<=a.1.length+os.length/\(gv B os a).2.1.length<=a.2.1.length+os.length/\(gv B os a).2.2.length<=a.2.2.length+os.length
 |[],a=>by simp[gv]
 |o::os,a=>by have h1:=NV B os (gF B o a);have h2:=ZT B o a;unfold gv at h1⊢;rw[List.foldl_cons,length_cons];lia
structure hJ (t:Ad)(Z:av)(id:Nat)(h:Int)(k:Addr)(A:Nat->Addr)(dk:Addr)(B:Kp)(Vt Lt:Addr)(xs:List V)(H0:Hp)(a:Gv)(H:Hp):Prop where
 fr:Fr (bC id h) Z H0 Z H
 kr:aA Z H
 R:xf t H Z id h k A dk {B with cho:=a.1}
 hv:∃vs,H Vt=some (.lst vs)/\Paired (yc H Z) vs a.2.1
 hl:∃ls,H Lt=some (.lst ls)/\Paired (yc H Z) ls a.2.2
 hx:H (A 5)=some (.lst xs)
 px:Paired (yc H Z) xs B.bN
theorem hJ.same {t:Ad}{Z:av}{id:Nat}{h:Int}{k:Addr}{A:Nat->Addr}{dk:Addr}{B:Kp}{Vt Lt:Addr}{xs:List V}{H0 H H':Hp}{a:Gv}(s:qg H H')(J:hJ t Z id h k A dk B Vt Lt xs H0 a H):hJ t Z id h k A dk B Vt Lt xs H0 a H':=by have f:Fr (λ_=>False) Z H Z H':=Fr.same s;obtain⟨vs,v1,v2⟩:=J.hv;obtain⟨ls,l1,l2⟩:=J.hl;exact⟨J.fr.trans (Fr.same s),J.kr.same s,J.R.fr (λ_ z=>z) f,⟨vs,s _ _ v1,Paired.aQ v2 λ_ _=>yc.fr f⟩,⟨ls,s _ _ l1,Paired.aQ l2 λ_ _=>yc.fr f⟩,s _ _ J.hx,Paired.aQ J.px λ_ _=>yc.fr f⟩
theorem hJ.putL {t:Ad}{Z:av}{id:Nat}{h:Int}{k:Addr}{A:Nat->Addr}{dk:Addr}{B:Kp}{Vt Lt:Addr}{xs ls rQ:List V}{H0 H:Hp}{a:Gv}{later:List O}(J:hJ t Z id h k A dk B Vt Lt xs H0 a H)(hl:H Lt=some (.lst ls))(rL:Z Lt=some (id,.kp h 9))(rV:Z Vt=some (id,.kp h 8))(LV:Lt≠Vt)(fL:Fr (bC id h) Z H Z (upd H Lt (.lst rQ)))(pl:Paired (yc (upd H Lt (.lst rQ)) Z) rQ later):hJ t Z id h k A dk B Vt Lt xs H0 (a.1,a.2.1,later) (upd H Lt (.lst rQ)):=by
 have f9:Fr (λr=>r=(id,.kp h 9)) Z H Z (upd H Lt (.lst rQ)):=Fr.put rL rfl;obtain⟨vs,v1,v2⟩:=J.hv;have nf:∀{f:Nat},f<=7->∀{b:Addr},Z b=some (id,.kp h f)->b≠Lt:=λ{f} hf {b} hb=>fm hb rL (by intro z;cases z;lia);refine⟨J.fr.trans fL,J.kr.put,⟨?_,J.R.r0,λf a1 b1=>?_⟩,⟨vs,?_,Paired.aQ v2 λ_ _=>yc.fr fL⟩,⟨rQ,ja,pl⟩,?_,Paired.aQ J.px λ_ _=>yc.fr fL⟩
 .rw[jd (nf (by decide) J.R.r0)];exact J.R.ob
 .obtain⟨rf,u,hu,q⟩:=J.R.fl f a1 b1;exact⟨rf,u,by rw[jd (nf b1 rf)];exact hu,q.fr fL⟩
 .rw[jd LV.symm];exact v1
 .rw[jd (nf (by decide) (J.R.fl 5 (by decide) (by decide)).1)];exact J.hx
theorem hJ.ZU {t:Ad}{Z:av}{id:Nat}{h:Int}{k:Addr}{A:Nat->Addr}{dk:Addr}{B:Kp}{Vt Lt:Addr}{xs bp:List V}{H0 H:Hp}{a:Gv}{dg:List O}(J:hJ t Z id h k A dk B Vt Lt xs H0 a H)(rV:Z Vt=some (id,.kp h 8))(LV:Lt≠Vt)(fL:Fr (bC id h) Z H Z (upd H Vt (.lst bp)))(pv:Paired (yc (upd H Vt (.lst bp)) Z) bp dg):hJ t Z id h k A dk B Vt Lt xs H0 (a.1,dg,a.2.2) (upd H Vt (.lst bp)):=by
 obtain⟨ls,l1,l2⟩:=J.hl;have nf:∀{f:Nat},f<=7->∀{b:Addr},Z b=some (id,.kp h f)->b≠Vt:=λ{f} hf {b} hb=>fm hb rV (by intro z;cases z;lia);refine⟨J.fr.trans fL,J.kr.put,⟨?_,J.R.r0,λf a1 b1=>?_⟩,⟨bp,ja,pv⟩,⟨ls,?_,Paired.aQ l2 λ_ _=>yc.fr fL⟩,?_,Paired.aQ J.px λ_ _=>yc.fr fL⟩
 .rw[jd (nf (by decide) J.R.r0)];exact J.R.ob
 .obtain⟨rf,u,hu,q⟩:=J.R.fl f a1 b1;exact⟨rf,u,by rw[jd (nf b1 rf)];exact hu,q.fr fL⟩
 .rw[jd LV];exact l1
 .rw[jd (nf (by decide) (J.R.fl 5 (by decide) (by decide)).1)];exact J.hx
theorem hJ.ZV {t:Ad}{Z:av}{id:Nat}{h:Int}{k:Addr}{A:Nat->Addr}{dk:Addr}{B:Kp}{Vt Lt:Addr}{xs:List V}{H0 H:Hp}{a:Gv}{cho:List ((Int×Int)×O)}{aa:List (List Key×V)}(J:hJ t Z id h k A dk B Vt Lt xs H0 a H)(rL:Z Lt=some (id,.kp h 9))(rV:Z Vt=some (id,.kp h 8))(pc:Paired (λkv (c:(Int×Int)×O)=>kv.1=[.inl c.1.1,.inl c.1.2]/\yc (upd H (A 6) (.dT aa)) Z kv.2 c.2) aa cho):hJ t Z id h k A dk B Vt Lt xs H0 (cho,a.2.1,a.2.2) (upd H (A 6) (.dT aa)):=by
 obtain⟨R,fL⟩:=J.R.put (κ':={B with cho:=cho}) (f0:=6) (by decide) (by decide) (u0:=.dT aa) ⟨aa,rfl,pc⟩ (λf u hf q=>by unfold eE at q⊢;split at q<;>first|exact q|exact absurd rfl hf);obtain⟨vs,v1,v2⟩:=J.hv;obtain⟨ls,l1,l2⟩:=J.hl;have r6:=(J.R.fl 6 (by decide) (by decide)).1;refine⟨J.fr.trans fL,J.kr.put,R,⟨vs,?_,Paired.aQ v2 λ_ _=>yc.fr fL⟩,⟨ls,?_,Paired.aQ l2 λ_ _=>yc.fr fL⟩,?_,Paired.aQ J.px λ_ _=>yc.fr fL⟩
 .rw[jd (fm rV r6 (by intro z;cases z))];exact v1
 .rw[jd (fm rL r6 (by intro z;cases z))];exact l1
 .rw[jd (fm (J.R.fl 5 (by decide) (by decide)).1 r6 (by intro z;cases z))];exact J.hx
theorem ZW (A:Nat->Addr)(p:Addr):vy "unvoted" (.ref p) (eR A)=eR (λf=>if f=5 then p else A f):=by unfold eR kf jF;rfl
theorem NW (T:Txt K mg t):zi P w K mg base CX0 5 t.gw t.gu ["self"] (λvs H Q _=>∃Z id h k A dk B n,vs=[.ref k]/\xf t H Z id h k A dk B/\B.Ok n/\n<=8/\B.bN.length+B.cho.length<=1000/\aA Z H/\∀af H' A' r xs,xf t H' af id h k A' dk B.dg.1->Fr (bC id h) Z H af H'->aA af H'->af r=some (id,.kp h 8)->H' r=some (.lst xs)->Paired (yc H' af) xs B.dg.2->Q (.ref r) H'):=by
 refine T.XA.dQ ya λ_ A _ s H vs Q E hr h=>?_;obtain⟨Z,id,h,k,A',dk,B,n,rfl,R,ag,n8,ll,kr,g⟩:=h;refine⟨_,(@jc _ _ _ _ _ (@qz _ _ 1 _ _ _ _ ya.nd rfl (Or.inl rfl) (@qk _ _ _ _ jg) (by rfl) (by first|exact .inl rfl|exact .inr rfl)) (@jc _ _ _ _ _ (@qz _ _ 2 _ _ _ _ ya.nd rfl (Or.inl rfl) (@qk _ _ _ _ jg) (by rfl) (by first|exact .inl rfl|exact .inr rfl)) (@jc _ _ _ _ _ (jT PassesOwn.never rfl (@gN _ _ _ _ (j4 (pv 0) rfl)) (qa (i:=3) ya.nd rfl (Or.inl rfl)) (@je _ _ _ (zo (PW.pt (Cs (zk (j6 (pv 0) T.jl T.Ni (NT T) hr.dn T.MH .nil jz (jb (pv 3) jg))) (Cr (yJ (Dc (lG hr) (jn (GH T) hr.dn rfl T.Gs T.AO.kp T.Gu .nil jz (jb (pv 3) jg)) (j4 (pv 0) rfl)))))) (@jc _ _ _ _ _ (J8 (lG hr) (j4 (pv 0) rfl) (jn (GH T) hr.dn rfl T.Gs T.AO.kp T.Gu .nil jz (jb (pv 3) jg)) (pv 3) rfl) (@je _ _ _ (qc (iq PySem.F.plainAttrs_list PySem.F.slot_list_append PySem.F.type_list_append mE (pv 1) (jb (pv 3) jg))))) (@je _ _ _ (zo (PW.pt (Cs (x8 (zk (j6 (pv 0) T.jl T.vn (GN T) hr.dn T.Gy .nil jz (jb (pv 3) jg)))) (Cr (yJ (Dc (lG hr) (jn (GH T) hr.dn rfl T.Gs T.AO.kp T.Gu .nil jz (jb (pv 3) jg)) (j4 (pv 0) rfl)))))) (@je _ _ _ (qc (iq PySem.F.plainAttrs_list PySem.F.slot_list_append PySem.F.type_list_append mE (pv 2) (jb (pv 3) jg)))) jv))))) (@jc _ _ _ _ _ (ko (pv 0) (pv 2) rfl) (@je _ _ _ (jr (pv 1))))))),?_⟩;refine⟨dF,λVt nV=>⟨dF,λLt nL=>?_⟩⟩;have kf0:∀f,bC id h (id,.kp h f):=λf=>⟨f,rfl⟩;have f1:Fr (bC id h) Z H (aH Z Vt (id,.kp h 8)) (upd H Vt (.lst [])):=Fr.cD nV;have cb:aA (aH Z Vt (id,.kp h 8)) (upd H Vt (.lst [])):=kr.cD;have f2:Fr (bC id h) (aH Z Vt (id,.kp h 8)) (upd H Vt (.lst [])) (aH (aH Z Vt (id,.kp h 8)) Lt (id,.kp h 9)) (upd (upd H Vt (.lst [])) Lt (.lst [])):=Fr.cD nL;have bO:aA (aH (aH Z Vt (id,.kp h 8)) Lt (id,.kp h 9)) (upd (upd H Vt (.lst [])) Lt (.lst [])):=cb.cD;generalize eZ:aH (aH Z Vt (id,.kp h 8)) Lt (id,.kp h 9)=Z2 at f2 bO;have dY:=f1.trans f2;have LV:Lt≠Vt:=λz=>by
  rw[z,ja]at nL;cases nL
 have rV:Z2 Vt=some (id,.kp h 8):=by rw[<-eZ,qy LV.symm,qr]
 have rL:Z2 Lt=some (id,.kp h 9):=by rw[<-eZ,qr]
 have NY:upd (upd H Vt (.lst [])) Lt (.lst []) Vt=some (.lst []):=by rw[jd LV.symm,ja]
 have NZ:upd (upd H Vt (.lst [])) Lt (.lst []) Lt=some (.lst []):=ja;have R2:xf t (upd (upd H Vt (.lst [])) Lt (.lst [])) Z2 id h k A' dk B:=by
  have s2:=(jh (o:=.lst []) nV).trans (jh (o:=.lst []) nL);have N0:∀{a:Addr}{u:HO},H a=some u->Z2 a=Z a:=λ{a u} e=>by rw[<-eZ,qy (ji ((jh (o:=.lst []) nV) _ _ e) nL),qy (ji e nV)]
  refine⟨s2 _ _ R.ob,(N0 R.ob).trans R.r0,λf a b=>?_⟩;obtain⟨rf,u,hu,q⟩:=R.fl f a b;exact⟨(N0 hu).trans rf,u,s2 _ _ hu,q.fr dY⟩
 generalize upd (upd H Vt (.lst [])) Lt (.lst [])=H2 at dY bO R2 NY NZ;obtain⟨xs,hx,px⟩:=R2.un;have lx:xs.length=B.bN.length:=Paired.length px;clear f1 f2 cb nV nL R;refine⟨_,rfl,k,_,dk,_,_,rfl,R2.ob,T.jl,T.yg,(xi A').2.2.2.2.1,A' 5,rfl,⟨_,ai.of hx⟩,mw (K:=K) (a:=A' 5) (xs:=xs) (λi U H'=>∃v,U=[some (.ref k),some (.ref Vt),some (.ref Lt),v]/\hJ t Z2 id h k A' dk B Vt Lt xs H2 (gv B (B.bN.take i) (B.cho,[],[])) H') ⟨none,rfl,Fr.refl,bO,R2,⟨_,NY,.nil⟩,⟨_,NZ,.nil⟩,hx,px⟩ (λi U H' _ ⟨_,_,J⟩=>ai.of J.hx) ?_ ?_⟩
 .rintro i x U H3 ex ⟨v,rfl,J⟩
  obtain⟨o,eo,uo⟩:=qx J.px ex;have gl:=NV B (B.bN.take i) (B.cho,[],[]);have li:(B.bN.take i).length<=B.bN.length:=by rw[length_take];omega
  rw[ZS B eo];generalize gv B (B.bN.take i) (B.cho,[],[])=a at J gl⊢;obtain⟨q,rfl,hq⟩:=uo.ref;have om:o∈B.bN:=mem_of_getElem? eo;have ho:=ag.u o om;have A3:=ZR ho n8;obtain⟨aa,hk,pk⟩:=J.R.cs;have ck:=ZQ (o:=o) pk;refine⟨_,rfl,k,dk,_,rfl,J.R.ob,fq A',_,rfl,Z2,id,h,k,A',dk,_,n,q,o,rfl,J.R,hq,ho,ag.x,ag.h,_,rfl,?_⟩;show(if B.jE o=true then _ else _);have Js:qg H3 H3:=qg.refl _;cases hd:B.jE o with
  | false=>
   refine qq ?_;have no:¬(B.jE o&&!lU a.1 o)=true:=by simp[hd]
   refine⟨_,rfl,k,dk,_,rfl,J.R.ob,fq A',_,rfl,Z2,id,h,k,A',dk,_,n,q,o,rfl,J.R,hq,ho,ag.x,_,rfl,?_⟩;show(if(!B.past o)=true then _ else _);cases hp:B.past o with
   |true=>refine qq ⟨_,rfl,?_⟩;rw[gF,if_neg no,if_neg (by simp[hp])];exact J
   | false=>
    refine yz ⟨_,rfl,q,o,rfl,hq,A3,λp np=>?_⟩;have sp:=jh (o:=.tup [.int o.p,.int o.n]) np;have Jp:=J.same sp;refine⟨_,rfl,k,_,dk,_,_,rfl,Jp.R.ob,T.jl,T.xa,(xi A').2.2.2.2.2.1,A' 6,br aa [.inl o.p,.inl o.n],rfl,.inr ⟨aa,[.inl o.p,.inl o.n],p,.inl (sp _ _ hk),rfl,ja,rfl⟩,_,rfl,?_⟩;rw[ck];cases hc:lU a.1 o with
    |true=>refine qq ⟨_,rfl,?_⟩;rw[gF,if_neg no,if_neg (by rw[hc,Bool.not_true,Bool.and_false];decide)];exact Jp
    |false=>
     obtain⟨ls,hl,pl⟩:=Jp.hl;have GP:ls.length<=1000:=by rw[Paired.length pl];have:=gl.2.2;simp at this;omega
     refine yz ⟨_,rfl,.inl ⟨rfl,_,ai.of hl⟩,_,rfl,Lt,ls,.ref q,rfl,rfl,hl,xg GP,⟨_,rfl,?_⟩⟩;rw[gF,if_neg no,if_pos (by rw[hp,hc];rfl)];have fL:Fr (bC id h) Z2 (upd H3 p (.tup [.int o.p,.int o.n])) Z2 (upd (upd H3 p (.tup [.int o.p,.int o.n])) Lt (.lst (ls++[.ref q]))):=Fr.put rL ⟨9,rfl⟩;have uq:=(uo.fr (Fr.same (P:=λ_=>False) ((Js).trans sp))).fr fL;exact Jp.putL hl rL rV LV fL (zx (Paired.aQ pl λ_ _=>yc.fr fL) uq)
  | true=>
   refine yz ⟨_,rfl,q,o,rfl,hq,A3,λp0 GQ=>?_⟩;have rR:=jh (o:=.tup [.int o.p,.int o.n]) GQ;have J0:=J.same rR;have vV:=rR;have vW:=rR _ _ hk;have oY:=rR _ _ hq;refine⟨_,rfl,k,_,dk,_,_,rfl,J0.R.ob,T.jl,T.xa,(xi A').2.2.2.2.2.1,A' 6,br aa [.inl o.p,.inl o.n],rfl,.inr ⟨aa,[.inl o.p,.inl o.n],p0,.inl vW,rfl,ja,rfl⟩,_,rfl,?_⟩;rw[ck];cases GR:lU a.1 o with
   | true=>
    refine qq ?_;have no:¬(B.jE o&&!lU a.1 o)=true:=by rw[GR,Bool.not_true,Bool.and_false];decide
    generalize upd H3 p0 (.tup [.int o.p,.int o.n])=H4 at rR J0 vV vW oY;refine⟨_,rfl,k,dk,_,rfl,J0.R.ob,fq A',_,rfl,Z2,id,h,k,A',dk,_,n,q,o,rfl,J0.R,oY,ho,ag.x,_,rfl,?_⟩;show(if(!B.past o)=true then _ else _);cases hp:B.past o with
    |true=>refine qq ⟨_,rfl,?_⟩;rw[gF,if_neg no,if_neg (by simp[hp])];exact J0
    | false=>
     refine yz ⟨_,rfl,q,o,rfl,oY,A3,λp np=>?_⟩;have sp:=jh (o:=.tup [.int o.p,.int o.n]) np;have Jp:=J0.same sp;refine⟨_,rfl,k,_,dk,_,_,rfl,Jp.R.ob,T.jl,T.xa,(xi A').2.2.2.2.2.1,A' 6,br aa [.inl o.p,.inl o.n],rfl,.inr ⟨aa,[.inl o.p,.inl o.n],p,.inl (sp _ _ vW),rfl,ja,rfl⟩,_,rfl,?_⟩;rw[ck];cases hc:lU a.1 o with
     |true=>refine qq ⟨_,rfl,?_⟩;rw[gF,if_neg no,if_neg (by rw[hc,Bool.not_true,Bool.and_false];decide)];exact Jp
     |false=>
      obtain⟨ls,hl,pl⟩:=Jp.hl;have GP:ls.length<=1000:=by rw[Paired.length pl];have:=gl.2.2;simp at this;omega
      refine yz ⟨_,rfl,.inl ⟨rfl,_,ai.of hl⟩,_,rfl,Lt,ls,.ref q,rfl,rfl,hl,xg GP,⟨_,rfl,?_⟩⟩;rw[gF,if_neg no,if_pos (by rw[hp,hc];rfl)];have fL:Fr (bC id h) Z2 (upd H4 p (.tup [.int o.p,.int o.n])) Z2 (upd (upd H4 p (.tup [.int o.p,.int o.n])) Lt (.lst (ls++[.ref q]))):=Fr.put rL ⟨9,rfl⟩;have uq:=(uo.fr (Fr.same (P:=λ_=>False) ((vV).trans sp))).fr fL;exact Jp.putL hl rL rV LV fL (zx (Paired.aQ pl λ_ _=>yc.fr fL) uq)
   | false=>
    refine yz ?_;generalize upd H3 p0 (.tup [.int o.p,.int o.n])=H4 at rR J0 vV vW oY;refine⟨_,rfl,_,rfl,k,_,dk,_,_,rfl,J0.R.ob,T.jl,T.xa,(xi A').2.2.2.2.2.1,_,rfl,q,o,rfl,oY,A3,λp np=>?_⟩;have sp:=jh (o:=.tup [.int o.p,.int o.n]) np;have Jp:=J0.same sp;have lk:aa.length<=1000:=by rw[Paired.length pk];have:=gl.1;show a.1.length<=1000;simp at this;omega
    have nk:br aa [.inl o.p,.inl o.n]=none:=by
     cases e:br aa [.inl o.p,.inl o.n]with
     |none=>rfl
     |some v=>rw[e,GR]at ck;cases ck
    refine⟨A' 6,_,rfl,iw.t (k:=[.inl o.p,.inl o.n]) (sp _ _ vW) ja (xg lk),?_⟩;rw[zF _ nk];have r6:=(Jp.R.fl 6 (by decide) (by decide)).1;have f6:Fr (bC id h) Z2 (upd H4 p (.tup [.int o.p,.int o.n])) Z2 (upd (upd H4 p (.tup [.int o.p,.int o.n])) (A' 6) (.dT (aa++[([.inl o.p,.inl o.n],.ref q)]))):=Fr.put r6 ⟨6,rfl⟩;have u4:=uo.fr (Fr.same (P:=λ_=>False) (vV.trans sp));have ZX:=Paired.aQ pk λ_ _ ⟨e,b⟩=>(⟨e,(b.fr (Fr.same (P:=λ_=>False) (vV.trans sp))).fr f6⟩:_/\yc _ Z2 _ _);have J5:=Jp.ZV rL rV (cho:=a.1++[((o.p,o.n),o)]) (zx ZX ⟨rfl,u4.fr f6⟩);have u5:=u4.fr f6;generalize upd (upd H4 p (.tup [.int o.p,.int o.n])) (A' 6) (.dT (aa++[([.inl o.p,.inl o.n],.ref q)]))=H5 at J5 u5;obtain⟨vs,hv,pv⟩:=J5.hv;have lv:vs.length<=1000:=by rw[Paired.length pv];have:=gl.2.1;show a.2.1.length<=1000;simp at this;omega
    refine⟨_,rfl,.inl ⟨rfl,_,ai.of hv⟩,_,rfl,Vt,vs,.ref q,rfl,rfl,hv,xg lv,⟨_,rfl,?_⟩⟩;rw[gF,if_pos (by simp[hd,GR])];have fV:Fr (bC id h) Z2 H5 Z2 (upd H5 Vt (.lst (vs++[.ref q]))):=Fr.put rV ⟨8,rfl⟩;exact J5.ZU rV LV fV (zx (Paired.aQ pv λ_ _=>yc.fr fV) (u5.fr fV))
 .rintro U H3 ⟨v,rfl,J⟩
  rw[lx,take_length]at J;obtain⟨vs,hv,pv⟩:=J.hv;obtain⟨ls,hl,pl⟩:=J.hl;refine⟨_,rfl,_,rfl,k,_,dk,_,rfl,J.R.ob,T.jl,T.yg,(by show 7<1000;decide),⟨_,rfl,?_⟩⟩;rw[ZW];have fo:Fr (bC id h) Z2 H3 Z2 (upd H3 k (.ins t.jw dk (eR λf=>if f=5 then Lt else A' f))):=Fr.put J.R.r0 ⟨0,rfl⟩;have ZY:Fr (bC id h) Z2 (upd H3 k (.ins t.jw dk (eR λf=>if f=5 then Lt else A' f))) (aH Z2 Lt (id,.kp h 5)) (upd H3 k (.ins t.jw dk (eR λf=>if f=5 then Lt else A' f))):=Fr.GO rL ⟨9,rfl⟩;have ff:=fo.trans ZY;have kL:Lt≠k:=fm rL J.R.r0 (by intro z;cases z);have Vk:Vt≠k:=fm rV J.R.r0 (by intro z;cases z);refine g (aH Z2 Lt (id,.kp h 5)) _ (λf=>if f=5 then Lt else A' f) Vt vs ⟨ja,?_,λf a1 b1=>?_⟩ (dY.trans (J.fr.trans ff)) ?_ ?_ ?_ (Paired.aQ pv λ_ _=>yc.fr ff)
  .rw[qy kL.symm];exact J.R.r0
  .by_cases z:f=5
   .subst z;exact⟨qr,.lst ls,(by show upd H3 k _ Lt=_;rw[jd kL];exact hl),ls,rfl,Paired.aQ pl λ_ _=>yc.fr ff⟩
   .obtain⟨rf,u,hu,q⟩:=J.R.fl f a1 b1;have nL:A' f≠Lt:=fm rf rL (by intro y;cases y;omega);show aH Z2 Lt (id,.kp h 5) (if f=5 then Lt else A' f)=_/\∃u,upd H3 k _ (if f=5 then Lt else A' f)=_/\_;rw[if_neg z];refine⟨by rw[qy nL];exact rf,u,by rw[jd (fm rf J.R.r0 (by intro y;cases y;omega))];exact hu,?_⟩;have q':=q.fr ff;unfold eE at q'⊢;split at q'<;>first|exact q'|exact absurd rfl z
  .exact aA.GO rL J.kr.put
  .rw[qy LV.symm];exact rV
  .rw[jd Vk];exact hv
theorem GS {α β:Type}{F:α->β->Prop}:∀{xs:List α}{ys:List β}{j:Nat},Paired F xs ys->Paired F (xs.eraseIdx j) (ys.eraseIdx j)
 |_,_,_,.nil=>.nil
 |_,_,0,.cons _ t=>t
 |_,_,j+1,.cons h t=>.cons h (GS t)
theorem N1 {α:Type}[DecidableEq α](a:α):∀l:List α,l.erase a=l.eraseIdx (l.idxOf a)
 |[]=>rfl
 | b::l=>by
  by_cases z:b=a
  .subst z;simp
  .have e:(b::l).idxOf a=l.idxOf a+1:=by
    rw[List.idxOf_cons,show(b==a)=false by simpa using z];rfl
   rw[List.erase_cons_tail (by simpa using z),e,List.eraseIdx_cons_succ,N1 a l]
noncomputable def bR (o:O):List Int:=[o.p,o.n,o.g,o.m]
theorem N2 {o u:O}(h:bR o=bR u):o=u:=by cases o;cases u;unfold bR at h;simp at h;simp[h]
theorem N3 (o:O):∀l:List O,(l.map bR).idxOf (bR o)=l.idxOf o
 |[]=>rfl
 |b::l=>by
  rw[map_cons];by_cases z:b=o
  .subst z;simp
  .rw[List.idxOf_cons,List.idxOf_cons,show(b==o)=false by simpa using z,show(bR b==bR o)=false by simpa using λy=>z (N2 y),N3 o l]
theorem N4 {K:W.Frag}{H:Hp}{Z:av}:∀{xs:List V}{os:List O},Paired (yc H Z) xs os->Paired (lO K H) xs (os.map bR):=λ{xs os} q=>by
 induction q with
 |nil=>exact .nil
 |cons a _ ih=>obtain⟨a,e,_,h⟩:=a;exact .cons ⟨a,e,ax.of h⟩ ih
theorem GU {B:Kp}{o:O}(h:B.first=some o):o∈B.wait:=List.mem_of_find?_eq_some h
theorem ZZ {B:Kp}(h:B.first=none):∀m,Kp.go m B=B
 |0=>rfl
 |m+1=>by unfold Kp.go;rw[h]
theorem Z9 {B:Kp}{o:O}(h:B.first=some o):Kp.go B.wait.length B=Kp.go (B.step o).wait.length (B.step o):=by have e:(B.step o).wait.length=B.wait.length-1:=List.length_erase_of_mem (GU h);have p:0<B.wait.length:=List.length_pos_of_mem (GU h);obtain⟨m,hm⟩:∃m,B.wait.length=m+1:=⟨B.wait.length-1,by lia⟩;rw[e,hm];show(match B.first with|none=>B|some o=>Kp.go m (B.step o))=_;rw[h];rfl
theorem jpz (T:Txt K mg t):zi P w K mg base CX0 6 t.Fi t.Fj ["self"] (λvs H Q _=>∃Z id h k A dk B n,vs=[.ref k]/\xf t H Z id h k A dk B/\B.Ok n/\n<=8/\B.bN.length+B.cho.length<=1000/\B.done.length+B.wait.length<=1000/\aA Z H/\∀af H' A' r xs,xf t H' af id h k A' dk B.A1.dg.1->Fr (bC id h) Z H af H'->aA af H'->af r=some (id,.kp h 8)->H' r=some (.lst xs)->Paired (yc H' af) xs B.A1.dg.2->Q (.ref r) H'):=by
 refine T.XC.dQ Ez λ_ A _ s H vs Q E hr h=>?_;obtain⟨Z,id,h,k,A',dk,B,n,rfl,R,ag,n8,ll,ld,kr,g⟩:=h;refine⟨_,(@jc _ _ _ _ _ (qz (i:=1) Ez.nd rfl (Or.inl rfl) (jW (pv 0) T.jl T.kh (NU T) hr.dn T.MI .nil jz)) (@jc _ _ _ _ _ (IT PassesOwn.never (jy QY (pv 1) ig (j7 _)) (@jc _ _ _ _ _ (qc (iq PySem.F.plainAttrs_list PySem.F.slot_list_remove PySem.F.type_list_remove (VS hr.units) (j4 (pv 0) rfl) (jb (pv 1) jg))) (@jc _ _ _ _ _ (qc (j6 (pv 0) T.jl T.YV (ZO T) hr.dn T.Xq .nil jz (jb (pv 1) jg))) (@je _ _ _ (qz (i:=1) Ez.nd rfl (Or.inl rfl) (jW (pv 0) T.jl T.kh (NU T) hr.dn T.MI .nil jz)))))) (@je _ _ _ (jr (jW (pv 0) T.jl T.wq (NW T) hr.dn T.kb .nil jz))))),?_⟩;refine⟨_,rfl,k,dk,_,rfl,R.ob,fq A',Z,id,h,k,A',dk,B,n,rfl,R,ag,λv0 h0=>?_⟩;refine QN (λ U H'=>∃κ' v,U=[some (.ref k),some v]/\xf t H' Z id h k A' dk κ'/\κ'.Ok n/\Fr (bC id h) Z H Z H'/\aA Z H'/\Kp.go κ'.wait.length κ'=B.A1/\κ'.bN=B.bN/\κ'.cho=B.cho/\κ'.done.length+κ'.wait.length<=1000/\((κ'.first=none/\v= .aj)\/∃o,κ'.first=some o/\yc H' Z v o)) (λ_ H'=>match H' (A' 7)with|some (.lst xs)=>xs.length|_=>0) ⟨B,v0,rfl,R,ag,Fr.refl,kr,rfl,rfl,rfl,ld,h0⟩ ?_ ?_
 .rintro U H1 ⟨κ',v,rfl,R1,jG,f1,cb,eg,eu,ec,ld1,hv⟩
  refine⟨_,rfl,rfl,_,rfl,?_⟩;rcases hv with⟨e,rfl⟩|⟨o,e,uo⟩
  .refine qq ?_;rw[ZZ e]at eg;subst eg;refine⟨_,rfl,k,dk,_,rfl,R1.ob,fq A',Z,id,h,k,A',dk,_,n,rfl,R1,jG,n8,by rw[eu,ec];exact ll,cb,λ af H' vX r xs q1 q2 q3 q4 q5 q6=>g af H' vX r xs q1 (f1.trans q2) q3 q4 q5 q6⟩
  .obtain⟨q,rfl,nq,hq⟩:=uo;refine yz ?_;obtain⟨xs,hx,px⟩:=R1.wt;have om:=GU e;refine⟨_,rfl,k,_,dk,_,_,rfl,R1.ob,T.jl,T.xb,(xi A').2.2.2.2.2.2,.inl ⟨rfl,_,ai.of hx⟩,_,rfl,A' 7,xs,.ref q,bR o,κ'.wait.map bR,rfl,rfl,hx,⟨q,rfl,ax.of hq⟩,N4 px,mem_map_of_mem om,?_⟩;rw[N3];obtain⟨r7,_⟩:=R1.fl 7 (by decide) (by decide);obtain⟨R2,f2⟩:=R1.put (κ':={κ' with wait:=κ'.wait.erase o}) (f0:=7) (by decide) (by decide) (u0:=.lst (xs.eraseIdx (κ'.wait.idxOf o))) ⟨_,rfl,by show Paired _ _ (κ'.wait.erase o);rw[N1];exact GS (Paired.aQ px λ_ _=>yc.fr (Fr.put (P:=bC id h) r7 ⟨7,rfl⟩))⟩ (λf u hf q=>by unfold eE at q⊢;split at q<;>first|exact q|exact absurd rfl hf);have bO:=cb.put (a:=A' 7) (o:=.lst (xs.eraseIdx (κ'.wait.idxOf o)));have rT:yc (upd H1 (A' 7) (.lst (xs.eraseIdx (κ'.wait.idxOf o)))) Z (.ref q) o:=yc.fr f2 ⟨q,rfl,nq,hq⟩;have ho:=jG.w o om;generalize upd H1 (A' 7) (.lst (xs.eraseIdx (κ'.wait.idxOf o)))=H2 at R2 f2 bO rT;refine⟨_,rfl,k,dk,_,rfl,R2.ob,fq A',_,rfl,Z,id,h,k,A',dk,_,n,q,o,rfl,R2,rT,ho,jG.x,jG.h,by show κ'.done.length<=1000;omega,bO,λH3 R3 f3 fT=>?_⟩;have N5:(κ'.step o).Ok n:=jG.step o;refine⟨_,rfl,k,dk,_,rfl,R3.ob,fq A',Z,id,h,k,A',dk,κ'.step o,n,rfl,R3,N5,λv1 hv1=>⟨⟨κ'.step o,v1,rfl,R3,N5,(f1.trans f2).trans f3,fT,by rw[<-Z9 e];exact eg,eu,ec,?_,hv1⟩,?_⟩⟩
   .have l1:(κ'.step o).done.length=κ'.done.length+1:=by show(κ'.done++[o]).length=_;rw[length_append];rfl
    have l2:(κ'.step o).wait.length=κ'.wait.length-1:=List.length_erase_of_mem om;have:=List.length_pos_of_mem om;omega
   .obtain⟨ys,hy,py⟩:=R3.wt;have l2:(κ'.step o).wait.length=κ'.wait.length-1:=List.length_erase_of_mem om;have:=List.length_pos_of_mem om;have e1:=Paired.length px;have e2:ys.length=(κ'.step o).wait.length:=Paired.length py;rw[hy,hx];show ys.length<xs.length;omega
 .intro U H Q Q' hQ h;obtain⟨v,e1,e2,c,e3,q⟩:=h;exact⟨v,e1,e2,c,e3,hQ _ _ q⟩
theorem jzc {o:O}:∀{aa:List (List Key×V)}{os:List O},aa.map (·.1)=os.map dh->(br aa (dh o)).isSome=decide (o∈os):=λ{aa os} e=>by
 induction aa generalizing os with
 |nil=>
  cases os with
  |nil=>rfl
  |cons _ _=>simp at e
 | cons kv aa ih=>
  cases os with
  |nil=>simp at e
  |cons u os=>
   rw[map_cons,map_cons]at e;obtain⟨e1,e2⟩:=List.cons.inj e;have ih:=ih e2;by_cases z:u=o
   .subst z;rw[lH e1];simp
   .rw[jZ (λy=>z (ZN (e1.symm.trans y))),ih];simp[Ne.symm z]
theorem xf.cD {t:Ad}{H:Hp}{Z:av}{id:Nat}{h:Int}{k dk:Addr}{A:Nat->Addr}{B:Kp}{r:Addr}{ro:Role}{o:HO}(R:xf t H Z id h k A dk B)(kr:aA Z H)(nr:H r=none):xf t (upd H r o) (aH Z r ro) id h k A dk B:=R.fr (P:=λ_=>False) (λ_ z=>z) (Fr.cD nr)
noncomputable def N6 (t:Ad)(κ':Kp->O->Kp×List O):Sp:=λvs H Q _=>∃Z id h k A dk B n q o,vs=[.ref k,.ref q]/\xf t H Z id h k A dk B/\yc H Z (.ref q) o/\B.Ok n/\n<=8/\cC (n:Nat) o=true/\B.fk.length<=900/\B.bN.length+B.cho.length<=900/\B.done.length+B.wait.length<=900/\aA Z H/\∀af H' A' r xs,xf t H' af id h k A' dk (κ' B o).1->Fr (bC id h) Z H af H'->aA af H'->af r=some (id,.kp h 8)->H' r=some (.lst xs)->Paired (yc H' af) xs (κ' B o).2->Q (.ref r) H'
theorem jqz (T:Txt K mg t):zi P w K mg base CX0 6 t.Fl t.Fm ["self","order"] (N6 t Kp.vS):=by
 refine T.XF.bY (N:=["self","order"]) λ_ A _ s H vs Q E hr h=>?_;obtain⟨Z,id,h,k,A',dk,B,n,q,o,rfl,R,uq,ag,n8,ho,lh,lu,ld,kr,g⟩:=h;refine⟨_,(@jc _ _ _ _ _ (zo (yJ (SA (lG hr) (pv 1) (j4 (pv 0) rfl))) (@je _ _ _ (jr (@qk _ _ _ _ jg))) jv) (@jc _ _ _ _ _ (J8 (lG hr) (j4 (pv 0) rfl) (pv 1) cL rfl) (@jc _ _ _ _ _ (qc (iq PySem.F.plainAttrs_list PySem.F.slot_list_append PySem.F.type_list_append mE (j4 (pv 0) rfl) (jb (pv 1) jg))) (@je _ _ _ (jr (jW (pv 0) T.jl T.wq (NW T) hr.dn T.kb .nil jz)))))),?_⟩;obtain⟨_,eq,nq,hq⟩:=uq;cases eq;obtain⟨aa,hk,ek⟩:=R.hd;have hv:=jzc (o:=o) ek;refine⟨_,rfl,_,rfl,k,_,dk,_,_,rfl,R.ob,T.jl,T.GB,(xi A').2.2.2.1,A' 4,br aa (dh o),rfl,.inr ⟨aa,dh o,q,.inl hk,rfl,hq,rfl⟩,_,rfl,?_⟩;rw[hv];unfold Kp.vS at g;refine cz (λz=>?_) (λz=>?_)
 .have z':o∈B.fk:=of_decide_eq_true z;rw[if_pos z']at g;refine⟨dF,λr nr=>?_⟩;have f1:Fr (bC id h) Z H (aH Z r (id,.kp h 8)) (upd H r (.lst [])):=Fr.cD nr;refine g _ _ A' r [] (xf.cD R kr nr) f1 kr.cD qr ja .nil
 .have z':¬o∈B.fk:=λy=>z (decide_eq_true y);rw[if_neg z']at g;have nk:br aa (dh o)=none:=by
   cases e:br aa (dh o)with
   |none=>rfl
   |some v=>rw[e,decide_eq_false z']at hv;cases hv
  have lk:aa.length<=1000:=by have:=congrArg List.length ek;rw[length_map,length_map]at this;omega
  refine⟨_,rfl,k,_,dk,_,_,rfl,R.ob,T.jl,T.GB,(xi A').2.2.2.1,_,rfl,A' 4,_,rfl,iw.t (k:=dh o) hk hq (xg lk),?_⟩;rw[zF _ nk];obtain⟨R1,f1⟩:=R.put (κ':={B with fk:=B.fk++[o]}) (f0:=4) (by decide) (by decide) (u0:=.dT (aa++[(dh o,.bl true)])) ⟨_,rfl,by rw[map_append,ek,map_append];rfl⟩ (λf u hf q=>by unfold eE at q⊢;split at q<;>first|exact q|exact absurd rfl hf);have cb:=kr.put (a:=A' 4) (o:=.dT (aa++[(dh o,.bl true)]));have rW:yc _ Z (.ref q) o:=yc.fr f1 ⟨q,rfl,nq,hq⟩;generalize upd H (A' 4) (.dT (aa++[(dh o,.bl true)]))=H1 at R1 f1 cb rW;obtain⟨xs,hx,px⟩:=R1.un;have lx:xs.length<=1000:=by rw[Paired.length px];show B.bN.length<=1000;omega
  refine⟨_,rfl,k,_,dk,_,_,rfl,R1.ob,T.jl,T.yg,(xi A').2.2.2.2.1,.inl ⟨rfl,_,ai.of hx⟩,_,rfl,A' 5,xs,.ref q,rfl,rfl,hx,xg lx,?_⟩;obtain⟨r5,_⟩:=R1.fl 5 (by decide) (by decide);obtain⟨R2,f2⟩:=R1.put (κ':={B with fk:=B.fk++[o],bN:=B.bN++[o]}) (f0:=5) (by decide) (by decide) (u0:=.lst (xs++[.ref q])) ⟨_,rfl,zx (Paired.aQ px λ_ _=>yc.fr (Fr.put (P:=bC id h) r5 ⟨5,rfl⟩)) (rW.fr (Fr.put (P:=bC id h) r5 ⟨5,rfl⟩))⟩ (λf u hf q=>by unfold eE at q⊢;split at q<;>first|exact q|exact absurd rfl hf);have bO:=cb.put (a:=A' 5) (o:=.lst (xs++[.ref q]));dsimp only;generalize upd H1 (A' 5) (.lst (xs++[.ref q]))=H2 at R2 f2 bO;have GV:Kp.Ok n {B with fk:=B.fk++[o],bN:=B.bN++[o]}:=⟨ag.h,ag.x,λu hu=>by
   rcases mem_append.mp hu with hu|hu
   .exact ag.u u hu
   .rw[mem_singleton.mp hu];exact ho,ag.w,ag.nd⟩;exact⟨_,rfl,k,dk,_,rfl,R2.ob,fq A',Z,id,h,k,A',dk,_,n,rfl,R2,GV,n8,by show(B.bN++[o]).length+B.cho.length<=1000;rw[length_append];show B.bN.length+1+B.cho.length<=1000;omega,bO,λ af H' vX r ys q1 q2 q3 q4 q5 q6=>g af H' vX r ys q1 ((f1.trans f2).trans q2) q3 q4 q5 q6⟩
theorem jjn (T:Txt K mg t):zi P w K mg base CX0 7 t.kl t.gs ["self","order"] (N6 t Kp.vT):=by
 refine T.XI.bY (N:=["self","order"]) λ_ A _ s H vs Q E hr h=>?_;obtain⟨Z,id,h,k,A',dk,B,n,q,o,rfl,R,uq,ag,n8,ho,lh,lu,ld,kr,g⟩:=h;refine⟨_,(@jc _ _ _ _ _ (zo (PW.pt (cY (zk (j6 (pv 0) T.jl T.vn (GN T) hr.dn T.Gy .nil jz (jb (pv 1) jg))) (eJ (jy (Uu hr.units) (pv 1) (j4 (pv 0) rfl) (by with_unfolding_all rfl))))) (@je _ _ _ (jr (@qk _ _ _ _ jg))) jv) (@jc _ _ _ _ _ (qc (iq PySem.F.plainAttrs_list PySem.F.slot_list_append PySem.F.type_list_append mE (j4 (pv 0) rfl) (jb (pv 1) jg))) (@je _ _ _ (jr (jW (pv 0) T.jl T.XD (jpz T) hr.dn T.XE .nil jz))))),?_⟩;obtain⟨_,eq,nq,hq⟩:=uq;cases eq;obtain⟨xs,hx,px⟩:=R.wt;unfold Kp.vT at g;have none_:(B.past o||decide (o∈B.wait))=true->∀r H1,qg H H1->H1 r=none->Q (.ref r) (upd H1 r (.lst [])):=λz r H1 s1 nr=>by
  rw[if_pos z]at g;have f0:Fr (bC id h) Z H Z H1:=Fr.same s1;have f1:Fr (bC id h) Z H1 (aH Z r (id,.kp h 8)) (upd H1 r (.lst [])):=Fr.cD nr;exact g _ _ A' r [] (xf.cD (R.fr (P:=λ_=>False) (λ_ z=>z) (Fr.same s1)) (kr.same s1) nr) (f0.trans f1) (kr.same s1).cD qr ja .nil
 refine⟨_,rfl,k,dk,_,rfl,R.ob,fq A',_,rfl,Z,id,h,k,A',dk,B,n,q,o,rfl,R,hq,ho,ag.x,_,rfl,?_⟩;cases hp:B.past o with
 |true=>refine yz (yz ⟨dF,λr nr=>none_ (by rw[hp];rfl) r H (qg.refl _) nr⟩)
 | false=>
  refine qq ⟨_,rfl,_,rfl,k,_,dk,_,_,rfl,R.ob,T.jl,T.xb,(xi A').2.2.2.2.2.2,A' 7,xs,bR o,B.wait.map bR,rfl,ai.of hx,⟨q,rfl,ax.of hq⟩,N4 px,_,rfl,cz (λz=>?_) (λz=>?_)⟩
  .have z':o∈B.wait:=by
    obtain⟨u,hu,e⟩:=mem_map.mp (of_decide_eq_true z);rw[<-N2 e];exact hu
   exact⟨dF,λr nr=>none_ (by rw[decide_eq_true z',Bool.or_true]) r H (qg.refl _) nr⟩
  .have z':¬o∈B.wait:=λy=>z (decide_eq_true (mem_map_of_mem y));rw[if_neg (by rw[hp,decide_eq_false z'];decide)]at g;have lx:xs.length<=1000:=by rw[Paired.length px];omega
   refine⟨_,rfl,k,_,dk,_,_,rfl,R.ob,T.jl,T.xb,(xi A').2.2.2.2.2.2,.inl ⟨rfl,_,ai.of hx⟩,_,rfl,A' 7,xs,.ref q,rfl,rfl,hx,xg lx,?_⟩;obtain⟨r7,_⟩:=R.fl 7 (by decide) (by decide);obtain⟨R2,f2⟩:=R.put (κ':={B with wait:=B.wait++[o]}) (f0:=7) (by decide) (by decide) (u0:=.lst (xs++[.ref q])) ⟨_,rfl,zx (Paired.aQ px λ_ _=>yc.fr (Fr.put (P:=bC id h) r7 ⟨7,rfl⟩)) (yc.fr (Fr.put (P:=bC id h) r7 ⟨7,rfl⟩) ⟨q,rfl,nq,hq⟩)⟩ (λf u hf q=>by unfold eE at q⊢;split at q<;>first|exact q|exact absurd rfl hf);have bO:=kr.put (a:=A' 7) (o:=.lst (xs++[.ref q]));dsimp only;generalize upd H (A' 7) (.lst (xs++[.ref q]))=H2 at R2 f2 bO;have GV:Kp.Ok n {B with wait:=B.wait++[o]}:=⟨ag.h,ag.x,ag.u,λu hu=>by
    rcases mem_append.mp hu with hu|hu
    .exact ag.w u hu
    .rw[mem_singleton.mp hu];exact ho,List.nodup_append.mpr ⟨ag.nd,by simp,λx hx y hy e=>by rw[mem_singleton.mp hy]at e;subst e;exact z' hx⟩⟩;exact⟨_,rfl,k,dk,_,rfl,R2.ob,fq A',Z,id,h,k,A',dk,_,n,rfl,R2,GV,n8,by show B.bN.length+B.cho.length<=1000;omega,by show B.done.length+(B.wait++[o]).length<=1000;rw[length_append];show B.done.length+(B.wait.length+1)<=1000;omega,bO,λ af H' vX r ys q1 q2 q3 q4 q5 q6=>g af H' vX r ys q1 (f2.trans q2) q3 q4 q5 q6⟩
noncomputable def cQ (n aO:Int)(ly ch kd bd ak wy:Addr):List (Str×V):=vy "on_way" (.ref wy) (vy "asked" (.ref ak) (vy "board" (.ref bd) (vy "keepers" (.ref kd) (vy "cheating" (.ref ch) (vy "lying" (.ref ly) (vy "total" (.int aO) (vy "purses" (.int n) [])))))))
theorem N7 {n aO:Int}{ly ch kd bd ak wy:Addr}:(cQ n aO ly ch kd bd ak wy).lookup ("purses":Str)=some (.int n):=by unfold cQ;repeat(first|rw[jk,if_pos rfl]|rw[jk,if_neg (by decide+kernel)])
theorem j0i {n aO:Int}{ly ch kd bd ak wy:Addr}:(cQ n aO ly ch kd bd ak wy).lookup ("lying":Str)=some (.ref ly):=by unfold cQ;repeat(first|rw[jk,if_pos rfl]|rw[jk,if_neg (by decide+kernel)])
theorem juy {n aO:Int}{ly ch kd bd ak wy:Addr}:(cQ n aO ly ch kd bd ak wy).lookup ("cheating":Str)=some (.ref ch):=by unfold cQ;repeat(first|rw[jk,if_pos rfl]|rw[jk,if_neg (by decide+kernel)])
theorem rX {n aO:Int}{ly ch kd bd ak wy:Addr}:(cQ n aO ly ch kd bd ak wy).lookup ("keepers":Str)=some (.ref kd):=by unfold cQ;repeat(first|rw[jk,if_pos rfl]|rw[jk,if_neg (by decide+kernel)])
theorem GW {n aO:Int}{ly ch kd bd ak wy:Addr}:(cQ n aO ly ch kd bd ak wy).lookup ("board":Str)=some (.ref bd):=by unfold cQ;repeat(first|rw[jk,if_pos rfl]|rw[jk,if_neg (by decide+kernel)])
theorem jzl {n aO:Int}{ly ch kd bd ak wy:Addr}:(cQ n aO ly ch kd bd ak wy).lookup ("asked":Str)=some (.ref ak):=by unfold cQ;repeat(first|rw[jk,if_pos rfl]|rw[jk,if_neg (by decide+kernel)])
theorem A4 {n aO:Int}{ly ch kd bd ak wy:Addr}:(cQ n aO ly ch kd bd ak wy).lookup ("on_way":Str)=some (.ref wy):=by unfold cQ;repeat(first|rw[jk,if_pos rfl]|rw[jk,if_neg (by decide+kernel)])
theorem gG {n aO:Int}{ly ch kd bd ak wy:Addr}{m:Str}(h:autoParam (¬m="on_way"/\¬m="asked"/\¬m="board"/\¬m="keepers"/\¬m="cheating"/\¬m="lying"/\¬m="total"/\¬m="purses") aP4):(cQ n aO ly ch kd bd ak wy).lookup m=none:=by obtain⟨h1,h2,h3,h4,h5,h6,h7,h8⟩:=h;unfold cQ;rw[jk,if_neg h1,jk,if_neg h2,jk,if_neg h3,jk,if_neg h4,jk,if_neg h5,jk,if_neg h6,jk,if_neg h7,jk,if_neg h8];rfl
structure Wd where
 n:Nat
 oZ:List Int
 ks:List (Int×Kp)
 bd:kN
 en:Int
 asked:List (List O)
 way:List (Bool×Int×O)
noncomputable def jH (ks:List (Int×Kp))(h:Int)(B:Kp):List (Int×Kp):=ks.map λc=>if c.1=h then(h,B)else c
noncomputable def Wd.post (w:Wd)(b:Bool)(o:O):Wd:={w with way:=w.way++w.ks.map λc=>(b,c.1,o)}
noncomputable def hU:kN->List Int->List Int
 |[],_=>[]
 |p::ps,k=>if p.1=k then p.2 else hU ps k
noncomputable def jI:kN->List Int->Int->kN
 |[],k,h=>[(k,[h])]
 |p::ps,k,h=>if p.1=k then(p.1,p.2++[h])::ps else p::jI ps k h
noncomputable def Wd.put (w:Wd)(h:Int)(o:O):Wd×Bool:=if h∈hU w.bd (bR o)then(w,false)else({w with bd:=jI w.bd (bR o) h},decide (((hU w.bd (bR o)).length:Int)+1=w.en))
noncomputable def Wd.iH (h:Int)(w:Wd)(o:O):Wd:=if(w.put h o).2=true then(w.put h o).1.post false o else(w.put h o).1
noncomputable def Wd.dg (w:Wd)(h:Int)(os:List O):Wd:=os.foldl (Wd.iH h) w
noncomputable def Wd.keep (w:Wd)(h:Int):Option Kp:=(w.ks.find? λc=>decide (c.1=h)).map (·.2)
noncomputable def Kp.take (B:Kp)(b:Bool)(o:O):Kp×List O:=if b=true then B.vS o else B.vT o
noncomputable def Wd.A5 (w:Wd)(i:Nat)(l:Bool×Int×O)(B:Kp):Wd:=Wd.dg {w with way:=w.way.eraseIdx i,ks:=jH w.ks l.2.1 (B.take l.1 l.2.2).1} l.2.1 (B.take l.1 l.2.2).2
theorem GX (k:List Int):∀is:kN,za (dX is) (fj k)=hU is k
 |[]=>rfl
 |p::ps=>by
  show(if fj p.1=fj k then p.2 else za (dX ps) (fj k))=if p.1=k then p.2 else hU ps k;by_cases z:p.1=k
  .rw[if_pos z,if_pos (by rw[z])]
  .rw[if_neg z,if_neg (λy=>z (NA y)),GX k ps]
theorem N8 (k:List Int)(h:Int):∀is:kN,lS (dX is) (fj k) h=dX (jI is k h)
 |[]=>rfl
 |p::ps=>by
  show(if fj p.1=fj k then(fj p.1,p.2++[h])::dX ps else(fj p.1,p.2)::lS (dX ps) (fj k) h)=dX (if p.1=k then(p.1,p.2++[h])::ps else p::jI ps k h);by_cases z:p.1=k
  .rw[if_pos z,if_pos (by rw[z])];rfl
  .rw[if_neg z,if_neg (λy=>z (NA y)),N8 k h ps];rfl
noncomputable def rY (b:Bool):V:=.str (if b=true then"order"else"paper")
noncomputable def cH (H:Hp)(Z:av)(x:V)(l:Bool×Int×O):Prop:=∃a q,x= .ref a/\Z a=none/\H a=some (.tup [rY l.1,.int l.2.1,.ref q])/\yc H Z (.ref q) l.2.2
theorem cH.fr {P:Role->Prop}{Z af:av}{H H':Hp}{x:V}{l:Bool×Int×O}(f:Fr P Z H af H')(h:cH H Z x l):cH H' af x l:=by
 obtain⟨a,q,e,n,h1,h2⟩:=h;obtain⟨de,n'⟩:=f a _ h1 λr hr=>by rw[n]at hr;cases hr
 exact⟨a,q,e,n'.trans n,de,h2.fr f⟩
structure WA where
 x:Addr
 dx:Addr
 aO:Int
 ly:Addr
 ch:Addr
 kd:Addr
 bd:Addr
 ak:Addr
 wy:Addr
 db:Addr
 S:Addr
noncomputable abbrev WA.fs (W:WA)(n:Nat):List (Str×V):=cQ n W.aO W.ly W.ch W.kd W.bd W.ak W.wy
noncomputable def xy (t:Ad)(H:Hp)(Z:av)(id:Nat)(aa:List (Key×V))(ks:List (Int×Kp)):Prop:=Paired (λkv (c:Int×Kp)=>kv.1= .inl c.1/\∃k A dk,kv.2= .ref k/\xf t H Z id c.1 k A dk c.2) aa ks
noncomputable def lV (H:Hp)(Z:av)(id:Nat)(rs:List Addr)(asked:List (List O)):Prop:=rs.length=asked.length/\∀(i:Nat)(r:Addr)(os:List O),rs[i]?=some r->asked[i]?=some os->Z r=some (id,.row i)/\∃xs,H r=some (.lst xs)/\Paired (yc H Z) xs os
noncomputable def lW (Z:av)(id:Nat)(aa:List (List Key×V)):Prop:=∀kv∈aa,∃c,kv.2= .ref c/\Z c=some (id,.sg)
structure zw (t:Ad)(H:Hp)(Z:av)(id:Nat)(W:WA)(w:Wd):Prop where
 ob:H W.x=some (.ins t.j3 W.dx (W.fs w.n))/\Z W.x=some (id,.x)
 ch:H W.ch=some (.lst (w.oZ.map V.int))/\Z W.ch=none
 kd:Z W.kd=some (id,.kd)/\∃aa,H W.kd=some (.dK aa)/\xy t H Z id aa w.ks
 bd:Z W.bd=some (id,.bd)/\Z W.S=some (id,.sd)/\∃aa,vh t H W.bd W.db W.S w.en aa (dX w.bd)/\lW Z id aa
 ak:Z W.ak=some (id,.ak)/\∃rs,H W.ak=some (.lst (rs.map V.ref))/\lV H Z id rs w.asked
 wy:Z W.wy=some (id,.wy)/\∃xs,H W.wy=some (.lst xs)/\Paired (cH H Z) xs w.way
section
variable {t:Ad}{H H':Hp}{Z af:av}{id:Nat}{W:WA}{w:Wd}{P:Role->Prop}
theorem cj {a:Addr}{u:HO}{r:Role}(f:Fr P Z H af H')(e:H a=some u)(er:Z a=some r)(n:¬P r):H' a=some u/\af a=some r:=by
 obtain⟨e1,r1⟩:=f a u e λr' hr=>by rw[er]at hr;cases hr;exact n
 exact⟨e1,r1.trans er⟩
theorem dj {a:Addr}{u:HO}(f:Fr P Z H af H')(e:H a=some u)(er:Z a=none):H' a=some u/\af a=none:=by
 obtain⟨e1,r1⟩:=f a u e λr' hr=>by rw[er]at hr;cases hr
 exact⟨e1,r1.trans er⟩
theorem xy.fr {aa:List (Key×V)}{ks:List (Int×Kp)}(f:Fr P Z H af H')(hP:∀h i,¬P (id,.kp h i))(k:xy t H Z id aa ks):xy t H' af id aa ks:=Paired.aQ k λ_ c ⟨e,k,A,dk,ek,q⟩=>⟨e,k,A,dk,ek,q.fr (hP c.1) f⟩
theorem lV.fr {rs:List Addr}{asked:List (List O)}(f:Fr P Z H af H')(hP:∀i,¬P (id,.row i))(k:lV H Z id rs asked):lV H' af id rs asked:=⟨k.1,λi r os e1 e2=>by obtain⟨rr,xs,h,p⟩:=k.2 i r os e1 e2;obtain⟨h',r'⟩:=cj f h rr (hP i);exact⟨r',xs,h',Paired.aQ p λ_ _=>yc.fr f⟩⟩
theorem vh.fr {p dx S:Addr}{en:Int}{aa:List (List Key×V)}{ps:fS}(f:Fr P Z H af H')(rp:Z p=some (id,.bd))(rS:Z S=some (id,.sd))(sg:lW Z id aa)(n1:¬P (id,.bd))(n2:¬P (id,.sd))(n3:¬P (id,.sg))(Bq:vh t H p dx S en aa ps):vh t H' p dx S en aa ps/\af p=some (id,.bd)/\af S=some (id,.sd)/\lW af id aa:=by
 obtain⟨e1,r1⟩:=cj f Bq.ob rp n1;obtain⟨e2,r2⟩:=cj f Bq.sg rS n2;have hs:∀{kv:List Key×V}{q:List Key×List Int},kv∈aa->iD H kv q->iD H' kv q/\∃c,kv.2= .ref c/\af c=some (id,.sg):=λ{kv q} m ⟨a,c,ec,hc⟩=>by obtain⟨c',N9,rc⟩:=sg kv m;rw[ec]at N9;cases N9;obtain⟨h1,h2⟩:=cj f hc rc n3;exact⟨⟨a,c,ec,h1⟩,c,ec,h2⟩
 have all:∀{xs:List (List Key×V)}{ys:fS},(∀x∈xs,x∈aa)->Paired (iD H) xs ys->Paired (iD H') xs ys/\lW af id xs:=λ{xs ys} m q=>by
  induction q with
  |nil=>exact⟨.nil,λ_ z=>by cases z⟩
  |cons h _ ih=>
   obtain⟨i1,i2⟩:=ih λx hx=>m x (mem_cons_of_mem _ hx);obtain⟨j1,j2⟩:=hs (m _ mem_cons_self) h;refine⟨.cons j1 i1,λx hx=>?_⟩;rcases mem_cons.mp hx with rfl|hx
   .exact j2
   .exact i2 x hx
 obtain⟨a1,a2⟩:=all (λ_ h=>h) Bq.hs;exact⟨⟨e1,e2,a1,Bq.un⟩,r1,r2,a2⟩
theorem zw.fr (hP:∀p,¬P (id,p))(f:Fr P Z H af H')(w1:zw t H Z id W w):zw t H' af id W w:=by obtain⟨rk,aa,hk,ks⟩:=w1.kd;obtain⟨rb,rS,GY,Bq,sg⟩:=w1.bd;obtain⟨ra,rs,ha,rows⟩:=w1.ak;obtain⟨kR,xs,hw,pw⟩:=w1.wy;obtain⟨pA,rk'⟩:=cj f hk rk (hP _);obtain⟨B',A6,A7,GZ⟩:=Bq.fr f rb rS sg (hP _) (hP _) (hP _);obtain⟨G0,Ha⟩:=cj f ha ra (hP _);obtain⟨pB,cR⟩:=cj f hw kR (hP _);exact⟨cj f w1.ob.1 w1.ob.2 (hP _),dj f w1.ch.1 w1.ch.2,⟨rk',aa,pA,ks.fr f λ_ _=>hP _⟩,⟨A6,A7,GY,B',GZ⟩,⟨Ha,rs,G0,rows.fr f λ_=>hP _⟩,⟨cR,xs,pB,Paired.aQ pw λ_ _=>cH.fr f⟩⟩
theorem zw.but (f:Fr P Z H af H')(w1:zw t H Z id W w)(w':Wd)(n1:¬P (id,.x))(en:w'.n=w.n)(ec:w'.oZ=w.oZ)(kd:(Z W.kd=some (id,.kd)->(∃aa,H W.kd=some (.dK aa)/\xy t H Z id aa w.ks)->af W.kd=some (id,.kd)/\∃aa,H' W.kd=some (.dK aa)/\xy t H' af id aa w'.ks))(bd:(Z W.bd=some (id,.bd)->Z W.S=some (id,.sd)->(∃aa,vh t H W.bd W.db W.S w.en aa (dX w.bd)/\lW Z id aa)->af W.bd=some (id,.bd)/\af W.S=some (id,.sd)/\∃aa,vh t H' W.bd W.db W.S w'.en aa (dX w'.bd)/\lW af id aa))(ak:(Z W.ak=some (id,.ak)->(∃rs,H W.ak=some (.lst (rs.map V.ref))/\lV H Z id rs w.asked)->af W.ak=some (id,.ak)/\∃rs,H' W.ak=some (.lst (rs.map V.ref))/\lV H' af id rs w'.asked))(wy:(Z W.wy=some (id,.wy)->(∃xs,H W.wy=some (.lst xs)/\Paired (cH H Z) xs w.way)->af W.wy=some (id,.wy)/\∃xs,H' W.wy=some (.lst xs)/\Paired (cH H' af) xs w'.way)):zw t H' af id W w':=by
 refine⟨?_,?_,kd w1.kd.1 w1.kd.2,bd w1.bd.1 w1.bd.2.1 w1.bd.2.2,ak w1.ak.1 w1.ak.2,wy w1.wy.1 w1.wy.2⟩
 .rw[en];exact cj f w1.ob.1 w1.ob.2 n1
 .rw[ec];exact dj f w1.ch.1 w1.ch.2
theorem iI (f:Fr P Z H af H')(n1:¬P (id,.kd))(n2:∀h i,¬P (id,.kp h i)){kd:Addr}{ks:List (Int×Kp)}(r:Z kd=some (id,.kd))(h:∃aa,H kd=some (.dK aa)/\xy t H Z id aa ks):af kd=some (id,.kd)/\∃aa,H' kd=some (.dK aa)/\xy t H' af id aa ks:=by obtain⟨aa,hk,q⟩:=h;obtain⟨h',r'⟩:=cj f hk r n1;exact⟨r',aa,h',q.fr f n2⟩
theorem kS (f:Fr P Z H af H')(n1:¬P (id,.bd))(n2:¬P (id,.sd))(n3:¬P (id,.sg)){b db S:Addr}{en:Int}{is:kN}(rb:Z b=some (id,.bd))(rS:Z S=some (id,.sd))(h:∃aa,vh t H b db S en aa (dX is)/\lW Z id aa):af b=some (id,.bd)/\af S=some (id,.sd)/\∃aa,vh t H' b db S en aa (dX is)/\lW af id aa:=by obtain⟨aa,Bq,sg⟩:=h;obtain⟨B',A6,A7,GZ⟩:=Bq.fr f rb rS sg n1 n2 n3;exact⟨A6,A7,aa,B',GZ⟩
theorem pC (f:Fr P Z H af H')(n1:¬P (id,.ak))(n2:∀i,¬P (id,.row i)){ak:Addr}{asked:List (List O)}(r:Z ak=some (id,.ak))(h:∃rs,H ak=some (.lst (rs.map V.ref))/\lV H Z id rs asked):af ak=some (id,.ak)/\∃rs,H' ak=some (.lst (rs.map V.ref))/\lV H' af id rs asked:=by obtain⟨rs,hk,q⟩:=h;obtain⟨h',r'⟩:=cj f hk r n1;exact⟨r',rs,h',q.fr f n2⟩
theorem Hb (f:Fr P Z H af H')(n1:¬P (id,.wy)){wy:Addr}{way:List (Bool×Int×O)}(r:Z wy=some (id,.wy))(h:∃xs,H wy=some (.lst xs)/\Paired (cH H Z) xs way):af wy=some (id,.wy)/\∃xs,H' wy=some (.lst xs)/\Paired (cH H' af) xs way:=by obtain⟨rs,hk,q⟩:=h;obtain⟨h',r'⟩:=cj f hk r n1;exact⟨r',rs,h',Paired.aQ q λ_ _=>cH.fr f⟩
end
theorem jxl {α β:Type}{F:α->β->Prop}:∀{xs aW:List α}{ys bH:List β},Paired F xs ys->Paired F aW bH->Paired F (xs++aW) (ys++bH):=λ{xs aW ys bH} q h=>by
 induction q with
 |nil=>exact h
 |cons a _ ih=>exact .cons a ih
theorem big {n:Nat}(h:n<=1000000):n<sizeLine:=lt_of_le_of_lt h (by decide)
noncomputable abbrev A8 (H:Hp)(x:Addr)(G:Hp):Prop:=∀b u,H b=some u->b≠x->G b=some u
theorem Fr.Hc {P:Role->Prop}{Z:av}{H G:Hp}{x:Addr}{r:Role}(h:Z x=some r)(p:P r)(f:A8 H x G):Fr P Z H Z G:=λb u e n=>⟨f b u e λz=>n r (z ▸ h) p,rfl⟩
theorem aA.Hc {Z:av}{H G:Hp}{x:Addr}{u:HO}(k:aA Z H)(f:A8 H x G)(hx:G x=some u)(nu:mU u):aA Z G:=λb r h=>by
 by_cases z:b=x
 .subst z;exact⟨u,hx,nu⟩
 .obtain⟨v,e,n⟩:=k b r h;exact⟨v,f b v e z,n⟩
noncomputable def lX (id:Nat)(p:Part):Role->Prop:=λr=>r=(id,p)
theorem j8 {id:Nat}{p q:Part}(h:q≠p:=by intro z;cases z):¬lX id p (id,q):=λz=>h (Prod.mk.inj z).2
theorem j6e {a:Addr}{o:Obj}{aa:List (Key×V)}{g:TG}{tb:TS}{D:Ends}{U:St}{H:Hp}(Pv:Nat->St->Hp->Prop)(h0:Pv 0 U H)(hl:∀i U H,i<=aa.length->Pv i U H->H a=some (.aE o (.dK aa)))(hs:∀i kv U H,aa[i]?=some kv->Pv i U H->g (kV kv.1) U H λ U2 H2=>tb {D with nx:=Pv (i+1),ct:=Pv (i+1),bk:=D.nx} U2 H2)(hd:∀U H,Pv aa.length U H->D.nx U H):∃W:Nat->Nat->St->Hp->Prop,(∃m,W 0 m U H)/\∀i m U H,W i m U H->((tQ a o aa).stop i H/\D.nx U H)\/((tQ a o aa).go i H/\∃N:St->Hp->Prop,(∀U' H',N U' H'->∃m',m'<m/\W (i+1) m' U' H')/\∀x H',(tQ a o aa).dz i H x H'->g x U H' λ U2 H2=>tb {D with nx:=N,ct:=N,bk:=D.nx} U2 H2):=by
 refine⟨λi m U H=>m=aa.length-i/\i<=aa.length/\Pv i U H,⟨aa.length,by simp,zero_le _,h0⟩,?_⟩
 rintro i m U H ⟨rfl,hi,p⟩
 have q:=hl i U H hi p;by_cases aD:i<aa.length
 .refine .inr ⟨⟨aD,q⟩,Pv (i+1),λ U' H' p'=>⟨aa.length-(i+1),by lia,rfl,aD,p'⟩,λx H' y=>?_⟩;obtain⟨e,kv,ek,ex⟩:=y;subst e ex;exact hs i kv U _ ek p
 .have e:i=aa.length:=by lia
  subst e;exact .inl ⟨⟨le_refl _,q⟩,hd U H p⟩
theorem jn7 (T:Txt K mg t):zi P w K mg base CX0 1 t.Fp t.Fq ["self"] (λvs H Q _=>∃Z id W Y,vs=[.ref W.x]/\zw t H Z id W Y/\Y.way.length<=100000/\∀r xs,H r=none->Paired (cH H Z) xs Y.way->Q (.ref r) (upd H r (.lst xs))):=by refine T.XQ.bY (N:=["self"]) λ_ A _ s H vs Q E hr h=>?_;obtain⟨Z,id,W,Y,rfl,O,l,k⟩:=h;refine⟨_,(@je _ _ _ (jr (my kq rfl T.mR boot_list (jb (j4 (pv 0) rfl) jg)))),?_⟩;obtain⟨kR,xs,hw,pw⟩:=O.wy;exact⟨_,rfl,W.x,_,W.dx,_,_,rfl,O.ob.1,T.jt,T.yh,A4,W.wy,xs,rfl,.inl (ai.of hw),λr nr=>k r xs nr pw⟩
theorem Oa (T:Txt K mg t):zi P w K mg base CX0 1 t.we t.wm ["self","word","order"] (λvs H Q _=>∃Z id W Y b q o,vs=[.ref W.x,rY b,.ref q]/\zw t H Z id W Y/\aA Z H/\yc H Z (.ref q) o/\Y.way.length<=100000/\Y.ks.length<=16/\∀H',zw t H' Z id W (Y.post b o)->Fr (lX id .wy) Z H Z H'->aA Z H'->Q .aj H'):=by
 refine T.X5.dQ Mm λ_ A _ s H vs Q E hr h=>?_;obtain⟨Z,id,W,Y,b,q,o,rfl,O,kr,uq,l,l2,k⟩:=h;refine⟨_,(@je _ _ _ (T3 (jT PassesOwn.never rfl (T8 (j4 (pv 0) rfl)) (qa (i:=3) Mm.nd rfl (Or.inl rfl)) (@je _ _ _ (qc (iq PySem.F.plainAttrs_list PySem.F.slot_list_append PySem.F.type_list_append mE (j4 (pv 0) rfl) (jb (@qp _ _ _ _ _ (@dG _ _ _ _ _ _ _ (pv 1) (pv 3) (pv 2) rfl rfl rfl)) jg))))))),?_⟩;obtain⟨rk,aa,kd,ks⟩:=O.kd;obtain⟨kR,way,wy,pw⟩:=O.wy;have ob:=O.ob.1;have kw:W.kd≠W.wy:=fm rk kR (by intro z;cases z);have kx:W.x≠W.kd:=fm O.ob.2 rk (by intro z;cases z);have wx:W.x≠W.wy:=fm O.ob.2 kR (by intro z;cases z);have lk:aa.length=Y.ks.length:=Paired.length ks;have lw:way.length=Y.way.length:=Paired.length pw;refine⟨_,rfl,W.x,_,W.dx,_,_,rfl,ob,T.jt,T.qv,rX,W.kd,aa,rfl,kd,λoo=>j6e (λi U H'=>∃v ts,U=[some (.ref W.x),some (rY b),some (.ref q),v]/\ts.length=i/\H' W.wy=some (.lst (way++ts))/\A8 (upd H W.kd (.aE oo (.dK aa))) W.wy H'/\Paired (λx (c:Int×Kp)=>∃a,x= .ref a/\H a=none/\H' a=some (.tup [rY b,.int c.1,.ref q])) ts (Y.ks.take i)) ?_ ?_ ?_ ?_⟩
 .exact⟨none,[],rfl,rfl,(by rw[append_nil,jd kw.symm];exact wy),(λb u e _=>e),.nil⟩
 .rintro i U H' _ ⟨v,ts,_,_,_,f,_⟩
  exact f _ _ ja kw
 .rintro i kv U H' ek ⟨v,ts,rfl,lt,hw,f,pt⟩
  obtain⟨c,ec,e1,_⟩:=qx ks ek;have ob':H' W.x=some (.ins t.j3 W.dx (W.fs Y.n)):=f _ _ (by rw[jd kx];exact ob) wx;have hi:=(List.getElem?_eq_some_iff.mp ek).1;refine⟨_,rfl,W.x,_,W.dx,_,_,rfl,ob',T.jt,T.yh,A4,.inl ⟨rfl,_,ai.of hw⟩,_,rfl,_,rfl,_,rfl,oV,λp np=>?_⟩;have sp:=jh (o:=.tup [rY b,kV kv.1,.ref q]) np;have GQ:H p=none:=by
   cases e:H p with
   |none=>rfl
   | some u=>
    exfalso;by_cases z:p=W.wy
    .rw[z,hw]at np;cases np
    .by_cases z2:p=W.kd
     .rw[z2,f _ _ ja kw]at np;cases np
     .have:=f p u (by rw[jd z2];exact e) z;rw[np]at this;cases this
  have pw_:p≠W.wy:=λz=>by rw[z,hw]at np;cases np
  refine⟨W.wy,_,_,rfl,rfl,sp _ _ hw,big (by rw[length_append,lt];omega),_,ts++[.ref p],rfl,?_,?_,λb' u e bw=>?_,?_⟩
  .rw[length_append,lt];rfl
  .rw[ja,List.append_assoc]
  .rw[jd bw];exact sp _ _ (f _ _ e bw)
  .rw[take_snoc ec];refine zx (Paired.aQ pt λ_ _ ⟨a,e,n,h'⟩=>⟨a,e,n,?_⟩) ⟨p,rfl,GQ,?_⟩
   .rw[jd (λz=>by rw[z,hw]at h';cases h')];exact sp _ _ h'
   .rw[jd pw_,ja,e1];rfl
 .rintro U H' ⟨v,ts,rfl,lt,hw,f,pt⟩
  have fin:A8 H W.wy (upd H' W.kd (.dK aa)):=λb' u e bw=>by
   by_cases z:b'=W.kd
   .subst z;rw[kd]at e;rw[ja,<-e]
   .rw[jd z];exact f _ _ (by rw[jd z];exact e) bw
  have pB:upd H' W.kd (.dK aa) W.wy=some (.lst (way++ts)):=by rw[jd kw.symm];exact hw
  refine⟨W.kd,oo,.dK aa,f _ _ ja kw,λo' u' z=>?_,True.intro,?_⟩
  .have z':H W.kd=some (.aE o' u'):=z;rw[kd]at z';cases z'
  have fr:Fr (lX id .wy) Z H Z (upd H' W.kd (.dK aa)):=Fr.Hc kR rfl fin;rw[lk,take_length]at pt;refine k _ (O.but fr (Y.post b o) j8 rfl rfl (iI fr j8 (λ_ _=>j8)) (kS fr j8 j8 j8) (pC fr j8 (λ_=>j8)) (λ_ _=>⟨kR,_,pB,?_⟩)) fr (kr.Hc fin pB (by exact True.intro));have up:=uq.fr fr;have q2:Paired (cH (upd H' W.kd (.dK aa)) Z) ts (Y.ks.map λc=>(b,c.1,o)):=by
   clear pB lt hw;have gen:∀{xs:List V}{cs:List (Int×Kp)},Paired (λx (c:Int×Kp)=>∃a,x= .ref a/\H a=none/\H' a=some (.tup [rY b,.int c.1,.ref q])) xs cs->Paired (cH (upd H' W.kd (.dK aa)) Z) xs (cs.map λc=>(b,c.1,o)):=λ{xs cs} h=>by
    induction h with
    |nil=>exact .nil
    |cons a _ ih=>obtain⟨p,e,n,hp⟩:=a;refine .cons ⟨p,q,e,kr.none n,?_,up⟩ ih;rw[jd (λz=>by rw[z,kd]at n;cases n)];exact hp
   exact gen pt
  exact jxl (Paired.aQ pw λ_ _=>cH.fr fr) q2
noncomputable def vY (id:Nat):Role->Prop:=λr=>r=(id,.wy)\/r=(id,.sd)\/r=(id,.sg)
theorem pD {id:Nat}{p:Part}(h1:p≠.wy)(h2:p≠.sd)(h3:p≠.sg):¬vY id (id,p):=λz=>by
 rcases z with z|z|z
 .exact h1 (Prod.mk.inj z).2
 .exact h2 (Prod.mk.inj z).2
 .exact h3 (Prod.mk.inj z).2
structure Sz (Y:Wd)(a b c:Nat):Prop where
 bd:Y.bd.length<=a
 hs:∀x∈Y.bd,x.2.length<=b
 wy:Y.way.length<=c
 ks:Y.ks.length<=16
theorem Ob {k:List Int}{h:Int}:∀{is:kN}{a b:Nat},is.length<=a->(∀x∈is,x.2.length<=b)->(jI is k h).length<=a+1/\∀x∈jI is k h,x.2.length<=b+1
 |[],a,b,_,_=>⟨by show 1<=a+1;lia,λx hx=>by rw[mem_singleton.mp hx];show 1<=b+1;lia⟩
 | p::ps,a,b,h1,h2=>by
  unfold jI;split
  .refine⟨by rw[length_cons]at h1⊢;lia,λx hx=>?_⟩;rcases mem_cons.mp hx with rfl|hx
   .have:=h2 p mem_cons_self;show(p.2++[h]).length<=b+1;rw[length_append];show p.2.length+1<=b+1;lia
   .have:=h2 x (mem_cons_of_mem _ hx);lia
  .rw[length_cons]at h1;obtain⟨i1,i2⟩:=Ob (k:=k) (h:=h) (is:=ps) (a:=a-1) (b:=b) (by lia) (λx hx=>h2 x (mem_cons_of_mem _ hx));refine⟨by rw[length_cons];lia,λx hx=>?_⟩;rcases mem_cons.mp hx with rfl|hx
   .have:=h2 x mem_cons_self;lia
   .exact i2 x hx
theorem Sz.put {Y:Wd}{a b c:Nat}(z:Sz Y a b c)(h:Int)(o:O):Sz (Y.put h o).1 (a+1) (b+1) c:=by
 unfold Wd.put;split
 .exact⟨Nat.le_succ_of_le z.bd,λx hx=>Nat.le_succ_of_le (z.hs x hx),z.wy,z.ks⟩
 .obtain⟨i1,i2⟩:=Ob (k:=bR o) (h:=h) z.bd z.hs;exact⟨i1,i2,z.wy,z.ks⟩
theorem Sz.iH {Y:Wd}{a b c:Nat}(z:Sz Y a b c)(h:Int)(o:O):Sz (Y.iH h o) (a+1) (b+1) (c+16):=by
 have p:=z.put h o;unfold Wd.iH;split
 .refine⟨p.bd,p.hs,?_,p.ks⟩;show((Y.put h o).1.way++_).length<=c+16;rw[length_append,length_map];have:=p.wy;have:=p.ks;lia
 .exact⟨p.bd,p.hs,by have:=p.wy;lia,p.ks⟩
theorem Sz.mono {Y:Wd}{a b c a' b' c':Nat}(z:Sz Y a b c)(h1:a<=a')(h2:b<=b')(h3:c<=c'):Sz Y a' b' c':=⟨le_trans z.bd h1,λx hx=>le_trans (z.hs x hx) h2,le_trans z.wy h3,z.ks⟩
theorem Oc (Y:Wd)(h:Int){os:List O}{i:Nat}{o:O}(e:os[i]?=some o):Y.dg h (os.take (i+1))=(Y.dg h (os.take i)).iH h o:=by unfold Wd.dg;rw[take_snoc e,List.foldl_append];rfl
theorem Sz.dg {Y:Wd}{a b c:Nat}(z:Sz Y a b c)(h:Int){os:List O}:∀i,i<=os.length->Sz (Y.dg h (os.take i)) (a+i) (b+i) (c+16*i)
 |0,_=>z
 |i+1,hi=>by rw[Oc Y h (getElem?_eq_getElem (show i<os.length by lia))];exact((Sz.dg z h i (by lia)).iH h _).mono (by lia) (by lia) (by lia)
theorem Od {k:List Int}:∀{is:kN},hU is k=[]\/∃x∈is,hU is k=x.2
 |[]=>.inl rfl
 | p::ps=>by
  unfold hU;split
  .exact .inr ⟨p,mem_cons_self,rfl⟩
  .rcases Od (k:=k) (is:=ps)with h|⟨x,hx,e⟩
   .exact .inl h
   .exact .inr ⟨x,mem_cons_of_mem _ hx,e⟩
theorem Sz.hl {Y:Wd}{a b c:Nat}(z:Sz Y a b c)(k:List Int):(hU Y.bd k).length<=b:=by
 rcases Od (k:=k) (is:=Y.bd)with h|⟨x,hx,e⟩
 .rw[h];exact zero_le _
 .rw[e];exact z.hs x hx
open Classical in
noncomputable def kT (Z : av) (id:Nat) (aa bM:List (List Key × V)) : av:=λa=>if ∃ kv ∈ bM,kv.2 = .ref a then some (id,.sg) else if ∃ kv ∈ aa,kv.2 = .ref a then none else Z a
theorem Oe (T:Txt K mg t):zi P w K mg base CX0 2 t.Fw t.Fx ["self","house","orders"] (λvs H Q _=>∃Z id W Y h r xs os a b c,vs=[.ref W.x,.int h,.ref r]/\zw t H Z id W Y/\aA Z H/\H r=some (.lst xs)/\(∀ro,Z r=some ro->¬vY id ro)/\Paired (yc H Z) xs os/\Sz Y a b c/\a+os.length<=1000/\b+os.length<=1000/\c+16*os.length<=100000/\∀af H',zw t H' af id W (Y.dg h os)->Fr (vY id) Z H af H'->aA af H'->Q .aj H'):=by
 refine T.X6.dQ Mn λ_ A _ s H vs Q E hr h=>?_;obtain⟨Z,id,W,Y,h,r,xs,os,a,b,c,rfl,O,kr,hx,nr,px,sz,la,lb,lc,k⟩:=h;refine⟨_,(@je _ _ _ (jT PassesOwn.never rfl (@gN _ _ _ _ (pv 2)) (qa (i:=3) Mn.nd rfl (Or.inl rfl)) (@je _ _ _ (zo (zk (j6 (j4 (pv 0) rfl) T.qi T.Gw (ZG T) hr.dn T.Gx .nil jz (@xj _ _ _ _ _ (pv 1) (pv 3) rfl rfl))) (@je _ _ _ (qc (j6 (pv 0) T.jt T.vd (Oa T) hr.dn T.wo .nil jz (@xj _ _ _ _ _ (zd (v:=.str "paper") rfl T.YL.choose_spec ⟨_,rfl⟩) (pv 3) rfl rfl)))) jv)))),?_⟩;have lx:xs.length=os.length:=Paired.length px;refine⟨_,rfl,r,rfl,⟨_,ai.of hx⟩,mw (K:=K) (a:=r) (xs:=xs) (λi U H'=>∃v af,U=[some (.ref W.x),some (.int h),some (.ref r),v]/\zw t H' af id W (Y.dg h (os.take i))/\Fr (vY id) Z H af H'/\aA af H') ⟨none,Z,rfl,O,Fr.refl,kr⟩ (λi U H' _ ⟨_,af,_,_,f,_⟩=>ai.of (f _ _ hx nr).1) ?_ ?_⟩
 .rintro i x U H1 ex ⟨v,Z1,rfl,O1,f1,cb⟩
  obtain⟨o,eo,uo⟩:=qx px ex;have uo1:=uo.fr f1;obtain⟨q,rfl,nq,hq⟩:=uo1;have hi:=(List.getElem?_eq_some_iff.mp eo).1;have z1:=sz.dg h (os:=os) i (by omega);rw[Oc Y h eo];generalize Y.dg h (os.take i)=Y1 at O1 z1⊢;obtain⟨rb,rS,aa,Bq,sg⟩:=O1.bd;have ek:za (dX Y1.bd) (dh o)=hU Y1.bd (bR o):=GX (bR o) Y1.bd;have lk:aa.length<=1000:=by rw[Paired.length Bq.hs,dX,length_map];have:=z1.bd;omega
  have lh:=z1.hl (bR o);refine⟨_,rfl,W.x,_,W.dx,_,_,rfl,O1.ob.1,T.jt,T.gb,GW,W.bd,W.db,_,rfl,Bq.ob,mT _ _ (by decide+kernel) (by decide+kernel),_,rfl,_,rfl,W.bd,W.db,W.S,Y1.en,aa,dX Y1.bd,q,dh o,h,rfl,Bq,hq,lk,by rw[ek];omega,λhm H2 s2=>?_,λhm bM H2 B2 k2 iJ=>?_⟩
  .rw[ek]at hm;refine⟨_,rfl,qq ⟨_,Z1,rfl,?_,f1.trans (Fr.same s2),cb.same s2⟩⟩;have e:Y1.iH h o=Y1:=by
    unfold Wd.iH Wd.put;rw[if_pos hm];rfl
   rw[e];exact O1.fr (P:=λ_=>False) (λ_ z=>z) (Fr.same s2)
  .rw [ek]at hm;rw[ek];have pE:∀{a:Addr},(∃kv∈aa,kv.2= .ref a)->Z1 a=some (id,.sg):=λ{a} ⟨kv,m,e⟩=>by
    obtain⟨c,ec,rc⟩:=sg kv m;rw[e]at ec;cases ec;exact rc
   have f2:Fr (vY id) Z1 H1 (kT Z1 id aa bM) H2:=λa u e n=>by have n1:¬∃kv∈aa,kv.2= .ref a:=λz=>n _ (pE z) (.inr (.inr rfl));have n2:NotIn aa a:=λkv m e=>n1 ⟨kv,m,e⟩;have n3:¬∃kv∈bM,kv.2= .ref a:=λ⟨kv,m,e'⟩=>iJ a u e n2 kv m e';refine⟨k2 a u e (λz=>n _ (z ▸ rS) (.inr (.inl rfl))) n2,?_⟩;unfold kT;rw[if_neg n3,if_neg n1]
   have bO:aA (kT Z1 id aa bM) H2:=λa ro e=>by
    unfold kT at e;split at e
    .rename_i Hd;obtain⟨kv,m,ev⟩:=Hd;obtain⟨j,hj,ej⟩:=mem_iff_getElem.mp m;obtain⟨pp,_,_,c,ec,hc⟩:=qx B2.hs (by rw[getElem?_eq_getElem hj,ej]);rw[ev]at ec;cases ec;exact⟨_,hc,True.intro⟩
    .split at e
     .cases e
     .rename_i n1;obtain⟨u,hu,nu⟩:=cb a ro e;by_cases z:a=W.S
      .subst z;exact⟨_,B2.sg,True.intro⟩
      .exact⟨u,k2 a u hu z (λkv m e=>n1 ⟨kv,m,e⟩),nu⟩
   have O2:zw t H2 (kT Z1 id aa bM) id W {Y1 with bd:=jI Y1.bd (bR o) h}:=by
    refine O1.but f2 _ (pD (by intro z;cases z) (by intro z;cases z) (by intro z;cases z)) rfl rfl (iI f2 (pD (by intro z;cases z) (by intro z;cases z) (by intro z;cases z)) λ_ _=>pD (by intro z;cases z) (by intro z;cases z) (by intro z;cases z)) (λA6 A7 _=>?_) (pC f2 (pD (by intro z;cases z) (by intro z;cases z) (by intro z;cases z)) λ_=>pD (by intro z;cases z) (by intro z;cases z) (by intro z;cases z)) (λcR pB=>?_)
    .have e:=N8 (bR o) h Y1.bd;rw[show fj (bR o)=dh o from rfl]at e;rw[e]at B2;have nS:∀{a:Addr}{r:Role}{u:HO},Z1 a=some r->H1 a=some u->r≠(id,.sg)->kT Z1 id aa bM a=some r:=λ{a r u} er eu n=>by
      have n1:¬∃kv∈aa,kv.2= .ref a:=λz=>n (Option.some.inj (er.symm.trans (pE z)));have n3:¬∃kv∈bM,kv.2= .ref a:=λ⟨kv,m,e'⟩=>iJ a u eu (λkv m e=>n1 ⟨kv,m,e⟩) kv m e';unfold kT;rw[if_neg n3,if_neg n1];exact er
     refine⟨nS rb Bq.ob (by intro z;cases z),nS rS Bq.sg (by intro z;cases z),bM,B2,λkv m=>?_⟩;obtain⟨j,hj,ej⟩:=mem_iff_getElem.mp m;obtain⟨pp,_,_,c,ec,hc⟩:=qx B2.hs (by rw[getElem?_eq_getElem hj,ej]);refine⟨c,ec,?_⟩;unfold kT;rw[if_pos ⟨kv,m,ec⟩]
    .obtain⟨ws,h1,p1⟩:=pB;have n1:¬∃kv∈aa,kv.2= .ref W.wy:=λz=>by
      have:=pE z;rw[cR]at this;cases this
     have n2:NotIn aa W.wy:=λkv m e=>n1 ⟨kv,m,e⟩;have n3:¬∃kv∈bM,kv.2= .ref W.wy:=λ⟨kv,m,e'⟩=>iJ _ _ h1 n2 kv m e';refine⟨?_,ws,k2 _ _ h1 (fm cR rS (by intro z;cases z)) n2,Paired.aQ p1 λ_ _=>cH.fr f2⟩;unfold kT;rw[if_neg n3,if_neg n1];exact cR
   have ev:Y1.put h o=({Y1 with bd:=jI Y1.bd (bR o) h},decide (((hU Y1.bd (bR o)).length:Int)+1=Y1.en)):=by unfold Wd.put;rw[if_neg hm]
   refine⟨_,rfl,cz (λz=>?_) (λz=>?_)⟩
   .have zp:=z1.put h o;rw[ev]at zp;have hq2:yc H2 (kT Z1 id aa bM) (.ref q) o:=yc.fr f2 ⟨q,rfl,nq,hq⟩;refine⟨_,rfl,W.x,W.dx,_,rfl,O2.ob.1,gG,_,rfl,_,id,W,_,false,q,o,rfl,O2,bO,hq2,by show Y1.way.length<=100000;have:=z1.wy;omega,zp.ks,λH3 O3 f3 fT=>⟨_,_,rfl,?_,(f1.trans f2).trans (f3.mono λr hr=>.inl hr),fT⟩⟩;have e:Y1.iH h o=Wd.post {Y1 with bd:=jI Y1.bd (bR o) h} false o:=by
     unfold Wd.iH;rw[ev,if_pos z]
    rw[e];exact O3
   .refine⟨_,_,rfl,?_,f1.trans f2,bO⟩;have e:Y1.iH h o={Y1 with bd:=jI Y1.bd (bR o) h}:=by
     unfold Wd.iH;rw[ev,if_neg z]
    rw[e];exact O2
 .rintro U H1 ⟨v,Z1,rfl,O1,f1,cb⟩
  rw[lx,take_length]at O1;exact k Z1 H1 O1 f1 cb
theorem Of (ks:List (Int×Kp))(h:Int)(B:Kp):(jH ks h B).length=ks.length:=length_map ..
theorem Og {t:Ad}{H:Hp}{Z:av}{id:Nat}{h:Int}{B:Kp}:∀{aa:List (Key×V)}{ks:List (Int×Kp)},xy t H Z id aa ks->(ks.find? λc=>decide (c.1=h)).map (·.2)=some B->∃k A dk,br aa (.inl h)=some (.ref k)/\xf t H Z id h k A dk B:=λ{aa ks} q e=>by
 unfold xy at q;induction q with
 |nil=>cases e
 |@cons kv c aa ks a r ih=>
  obtain⟨e1,k,A,dk,e2,R⟩:=a;by_cases z:c.1=h
  .rw[find?_cons,decide_eq_true z]at e;obtain rfl:c.2=B:=Option.some.inj e;subst z;exact⟨k,A,dk,by rw[lH (by rw[e1]),e2],R⟩
  .rw[find?_cons,decide_eq_false z]at e;obtain⟨k',A',dk',v,R'⟩:=ih e;exact⟨k',A',dk',by rw[jZ (λy=>z (Sum.inl.inj (e1.symm.trans y)))];exact v,R'⟩
theorem j02 {t:Ad}{H H':Hp}{Z af:av}{id:Nat}{h:Int}{κ':Kp}{k:Addr}{A':Nat->Addr}{dk:Addr}(f:Fr (bC id h) Z H af H')(R':xf t H' af id h k A' dk κ'):∀{aa:List (Key×V)}{ks:List (Int×Kp)},(ks.map (·.1)).Nodup->br aa (.inl h)=some (.ref k)->xy t H Z id aa ks->xy t H' af id aa (jH ks h κ'):=λ{aa ks} nd ev q=>by
 unfold xy at q;induction q with
 |nil=>exact .nil
 | @cons kv c aa ks a r ih=>
  obtain⟨e1,k0,A,dk0,e2,R⟩:=a;rw[map_cons,nodup_cons]at nd;show Paired _ (kv::aa) ((if c.1=h then(h,κ')else c)::jH ks h κ');have oth:∀{aa:List (Key×V)}{ks:List (Int×Kp)},h∉ks.map (·.1)->xy t H Z id aa ks->xy t H' af id aa (jH ks h κ'):=λ{aa ks} nh q=>by
   induction q with
   |nil=>exact .nil
   |cons a _ ih=>rename_i b _ _ _;rw[map_cons,mem_cons]at nh;obtain⟨x1,x2,x3,x4,x5,x6⟩:=a;have nb:¬b.1=h:=λz=>nh (.inl z.symm);show Paired _ (_::_) ((if b.1=h then(h,κ')else b)::jH _ h κ');rw[if_neg nb];exact .cons ⟨x1,x2,x3,x4,x5,x6.fr (λi ⟨j,e⟩=>nb (by cases e;rfl)) f⟩ (ih λz=>nh (.inr z))
  by_cases z:c.1=h
  .subst z;rw[if_pos rfl];rw[lH (by rw[e1])]at ev;exact .cons ⟨e1,k,A',dk,Option.some.inj ev,R'⟩ (oth nd.1 r)
  .rw[if_neg z];refine .cons ⟨e1,k0,A,dk0,e2,R.fr (λi ⟨j,e⟩=>z (by cases e;rfl)) f⟩ (ih nd.2 ?_);rw[jZ (λy=>z (Sum.inl.inj (e1.symm.trans y)))]at ev;exact ev
theorem zw.Oh {t:Ad}{H H':Hp}{Z af:av}{id:Nat}{W:WA}{Y:Wd}{h:Int}{κ':Kp}{k:Addr}{A':Nat->Addr}{dk:Addr}(f:Fr (bC id h) Z H af H')(O:zw t H Z id W Y)(nd:(Y.ks.map (·.1)).Nodup)(ek:∀aa,H W.kd=some (.dK aa)->br aa (.inl h)=some (.ref k))(R':xf t H' af id h k A' dk κ'):zw t H' af id W {Y with ks:=jH Y.ks h κ'}:=by have no:∀{p:Part},(∀i,p≠.kp h i)->¬bC id h (id,p):=λhp ⟨i,e⟩=>hp i (Prod.mk.inj e).2;refine O.but f _ (no λ_ z=>by cases z) rfl rfl (λrk hk=>?_) (kS f (no λ_ z=>by cases z) (no λ_ z=>by cases z) (no λ_ z=>by cases z)) (pC f (no λ_ z=>by cases z) λ_=>no λ_ z=>by cases z) (Hb f (no λ_ z=>by cases z));obtain⟨aa,h1,q⟩:=hk;obtain⟨h2,r2⟩:=cj f h1 rk (no λ_ z=>by cases z);exact⟨r2,aa,h2,j02 f R' nd (ek aa h1) q⟩
theorem Oi (T:Txt K mg t):zi P w K mg base CX0 3 t.kj t.gz ["self","purse"] (λvs H Q _=>∃Z id W Y p,vs=[.ref W.x,.int p]/\zw t H Z id W Y/\0<=p/\p<(Y.n:Int)/\Q .aj H):=by refine T.XY.bY (N:=["self","purse"]) λ_ A _ s H vs Q E hr h=>?_;obtain⟨Z,id,W,Y,p,rfl,O,p0,p1,g⟩:=h;refine⟨_,(@je _ _ _ (zo (x8 (zk (jn (qt T) hr.dn rfl T.qo T.qd.kp T.qm .nil jz (@dG _ _ _ _ _ _ _ (pv 1) jf (vp jU (j4 (pv 0) rfl) jf) rfl rfl rfl)))) yk jv)),?_⟩;refine⟨_,rfl,_,rfl,W.x,_,W.dx,_,_,rfl,O.ob.1,T.jt,T.ky,N7,_,_,rfl,rfl,p,0,(Y.n:Int)-1,rfl,_,rfl,?_⟩;rw[decide_eq_true (show 0<=p/\p<=(Y.n:Int)-1 from⟨p0,by omega⟩)];exact qq g
theorem jjm (T:Txt K mg t):zi P w K mg base (bz P w) 4 t.km t.kn ["self","purse","goal"] (λvs H Q E=>∃Z id W Y p q,vs=[.ref W.x,.int p,.int q]/\zw t H Z id W Y/\(0<=p/\p<(Y.n:Int))/\(0<=q/\q<(Y.n:Int))/\q≠p/\(p∈Y.oZ->∀d H',qg H H'->E (.ref t.yf) (some d) H')/\(p∉Y.oZ->Q .aj H)):=by
 refine T.XZ.fO (N:=["self","purse","goal"]) λ_ A _ s H vs Q E hr h=>?_;obtain⟨Z,id,W,Y,p,q,rfl,O,hp,hq,nq,gx,g⟩:=h;refine⟨_,(@jc _ _ _ _ _ (qc (j6 (pv 0) T.jt T.wj (Oi T) hr.dn T.kg .nil jz (jb (pv 1) jg))) (@jc _ _ _ _ _ (qc (j6 (pv 0) T.jt T.wj (Oi T) hr.dn T.kg .nil jz (jb (pv 2) jg))) (@je _ _ _ (zo (PW.pt (cY (jy JR (pv 1) (j4 (pv 0) rfl) (by with_unfolding_all rfl)) (eJ (jy fC (pv 2) (pv 1) (j7 _))))) (@je _ _ _ (Eb rfl T.Nj T.MC (ZH T) hr.dn T.W7 (jb (pv 1) jg))) jv)))),?_⟩;refine⟨_,rfl,W.x,W.dx,_,rfl,O.ob.1,gG,_,rfl,Z,id,W,Y,p,rfl,O,hp.1,hp.2,?_⟩;refine⟨_,rfl,W.x,W.dx,_,rfl,O.ob.1,gG,_,rfl,Z,id,W,Y,q,rfl,O,hq.1,hq.2,?_⟩;refine⟨_,rfl,_,rfl,W.x,_,W.dx,_,_,rfl,O.ob.1,T.jt,T.Nf,juy,W.ch,_,rfl,.inl (ai.of O.ch.1),rfl,vP _,_,rfl,?_⟩;refine cz (λz=>?_) (λz=>?_)
 .rw[if_neg (by decide),kM]at z;refine yz ⟨_,rfl,kJ,λea gE=>⟨ea,_,rfl,ja,λd hd=>?_⟩⟩;obtain⟨g1,g2,g3,g4⟩:=NQ (Yq:=iz ea t.yf d) (Zq:=.xd [("purse",.int p)]) gE hd;exact⟨rfl,d,g2,gx (of_decide_eq_true z) d _ g3⟩
 .rw[if_neg (by decide),kM]at z;refine⟨_,rfl,_,rfl,rfl,_,rfl,cz (λy=>?_) (λ_=>g λy=>z (decide_eq_true y))⟩;exact absurd (V.int.inj (of_decide_eq_true y)) nq
theorem ju5 {α β:Type}{F:α->β->Prop}{xs:List α}{ys:List β}{j:Nat}(h:Paired F xs ys):Paired F (xs.eraseIdx j) (ys.eraseIdx j):=GS h
structure KSz (B:Kp)(m:Nat):Prop where
 hd:B.fk.length<=m
 uc:B.bN.length+B.cho.length<=m
 dw:B.done.length+B.wait.length<=m
theorem jsl (T:Txt K mg t):zi P w K mg base CX0 8 t.FA t.FC ["self","at"] (λvs H Q _=>∃Z id W Y i l B a b c,vs=[.ref W.x,.int (i:Nat)]/\zw t H Z id W Y/\aA Z H/\Y.way[i]?=some l/\Y.keep l.2.1=some B/\(Y.ks.map (·.1)).Nodup/\B.Ok Y.n/\Y.n<=8/\cC Y.n l.2.2=true/\KSz B 900/\Sz Y a b c/\a+(B.take l.1 l.2.2).2.length<=1000/\b+(B.take l.1 l.2.2).2.length<=1000/\c+16*(B.take l.1 l.2.2).2.length<=100000/\∀af H' x,zw t H' af id W (Y.A5 i l B)->Fr (λr=>r.1=id) Z H af H'->aA af H'->cH H' af x l->Q x H'):=by
 refine T.Ya.dQ vz λ_ A _ s H vs Q E hr h=>?_;obtain⟨Z,id,W,Y,i,l,B,a,b,c,rfl,O,kr,el,ek,nd,ag,n8,ho,rZ,sz,la,lb,lc,g⟩:=h;refine⟨_,(@jc _ _ _ _ _ (zo (x8 (zk (jn (qt T) hr.dn rfl T.qo T.qd.kp T.qm .nil jz (@dG _ _ _ _ _ _ _ (pv 1) jf (vp jU (jm qb rfl T.fh boot_len (jb (j4 (pv 0) rfl) jg)) jf) rfl rfl rfl)))) yk jv) (@jc _ _ _ _ _ (qz (i:=2) vz.nd rfl (Or.inl rfl) (iq PySem.F.plainAttrs_list PySem.F.slot_list_pop PySem.F.type_list_pop R9 (j4 (pv 0) rfl) (jb (pv 1) jg))) (@jc _ _ _ _ _ (nN (pv 2) (qF rfl (zl (qa (i:=3) vz.nd rfl (Or.inl rfl)) (zl (qa (i:=4) vz.nd rfl (Or.inl rfl)) (zl (qa (i:=5) vz.nd rfl (Or.inl rfl)) qE))))) (@jc _ _ _ _ _ (qz (i:=6) vz.nd rfl (Or.inl rfl) (J7 (lG hr) (j4 (pv 0) rfl) (pv 4) (λ_ _=>rfl))) (@jc _ _ _ _ _ (zo (jy fC (pv 3) (zd (v:=.str "order") rfl T.M8.choose_spec ⟨_,rfl⟩) (j7 _)) (@je _ _ _ (qc (j6 (pv 0) T.jt T.uu (Oe T) hr.dn T.MM .nil jz (@xj _ _ _ _ _ (pv 4) (j6 (pv 6) T.jl T.XG (jqz T) hr.dn T.XH .nil jz (jb (pv 5) jg)) rfl rfl)))) (@je _ _ _ (qc (j6 (pv 0) T.jt T.uu (Oe T) hr.dn T.MM .nil jz (@xj _ _ _ _ _ (pv 4) (j6 (pv 6) T.jl T.XJ (jjn T) hr.dn T.XM .nil jz (jb (pv 5) jg)) rfl rfl))))) (@je _ _ _ (jr (pv 2)))))))),?_⟩;obtain⟨kR,xs,hw,pw⟩:=O.wy;have lx:xs.length=Y.way.length:=Paired.length pw;have hi:=(List.getElem?_eq_some_iff.mp el).1;have wl:=sz.wy;refine⟨_,rfl,_,rfl,W.x,_,W.dx,_,_,rfl,O.ob.1,T.jt,T.yh,A4,W.wy,xs,rfl,.inl (ai.of hw),_,_,rfl,rfl,(i:Int),0,(xs.length:Int)-1,rfl,_,rfl,?_⟩;rw[decide_eq_true (show 0<=(i:Int)/\(i:Int)<=(xs.length:Int)-1 by omega)];refine qq ?_;obtain⟨x,ex,ux⟩:=Aa pw el;refine⟨_,rfl,W.x,_,W.dx,_,_,rfl,O.ob.1,T.jt,T.yh,A4,.inl ⟨rfl,_,ai.of hw⟩,_,rfl,W.wy,xs,(i:Int),i,x,rfl,rfl,hw,by omega,by omega,?_,ex,?_⟩
 .unfold seqIndex?;simp;omega
 have f1:Fr (lX id .wy) Z H Z (upd H W.wy (.lst (xs.eraseIdx i))):=Fr.put kR rfl;have O1:zw t (upd H W.wy (.lst (xs.eraseIdx i))) Z id W {Y with way:=Y.way.eraseIdx i}:=O.but f1 _ j8 rfl rfl (iI f1 j8 (λ_ _=>j8)) (kS f1 j8 j8 j8) (pC f1 j8 (λ_=>j8)) (λ_ _=>⟨kR,_,ja,ju5 (Paired.aQ pw λ_ _=>cH.fr f1)⟩);have cb:=kr.put (a:=W.wy) (o:=.lst (xs.eraseIdx i));have Oj:=ux.fr f1;generalize upd H W.wy (.lst (xs.eraseIdx i))=H1 at f1 O1 cb Oj;obtain⟨la',q,rfl,nl,hl,uq⟩:=Oj;refine⟨_,rfl,la',_,rfl,ax.of hl,rfl,_,_,rfl,_,_,rfl,_,_,rfl,rfl,?_⟩;obtain⟨rk,aa,hk,ks⟩:=O1.kd;obtain⟨k,A',dk,ev,R⟩:=Og ks ek;refine⟨_,rfl,W.x,_,W.dx,_,_,rfl,O1.ob.1,T.jt,T.qv,rX,_,rfl,W.kd,.ref k,rfl,.inl ⟨aa,.inl l.2.1,.inl hk,rfl,ev.symm⟩,?_⟩;obtain⟨wb,h,o⟩:=l;cases wb with
 |true=>
  refine⟨_,rfl,rfl,_,rfl,yz ?_⟩;refine⟨_,rfl,W.x,W.dx,_,rfl,O1.ob.1,gG,_,rfl,_,rfl,k,dk,_,rfl,R.ob,fq A',_,rfl,Z,id,h,k,A',dk,B,Y.n,q,o,rfl,R,uq,ag,n8,ho,rZ.hd,rZ.uc,rZ.dw,cb,λ Z2 H2 A2 r ys R2 f2 bO rr vZ pr=>?_⟩;have O2:=O1.Oh f2 nd (λbM pA=>by rw[hk]at pA;cases pA;exact ev) R2;have z2:Sz {{Y with way:=Y.way.eraseIdx i}with ks:=jH Y.ks h (Kp.vS B o).1} a b c:=⟨sz.bd,sz.hs,le_trans (length_eraseIdx_le _ _) sz.wy,by show(jH _ _ _).length<=16;rw[Of];exact sz.ks⟩;refine⟨Z2,id,W,_,h,r,ys,(Kp.vS B o).2,a,b,c,rfl,O2,bO,vZ,λro e=>?_,pr,z2,la,lb,lc,λ Z3 H3 O3 f3 fT=>?_⟩
  .rw[rr]at e;cases e;exact pD (by intro z;cases z) (by intro z;cases z) (by intro z;cases z)
  .have fr:Fr (λr=>r.1=id) Z H Z3 H3:=((f1.mono λr hr=>by rw[hr]).trans (f2.mono λr ⟨j,hr⟩=>by rw[hr])).trans (f3.mono λr hr=>by rcases hr with hr|hr|hr<;>rw[hr]);exact⟨_,rfl,g Z3 H3 _ O3 fr fT (cH.fr fr ux)⟩
 |false=>
  refine⟨_,rfl,rfl,_,rfl,qq ?_⟩;refine⟨_,rfl,W.x,W.dx,_,rfl,O1.ob.1,gG,_,rfl,_,rfl,k,dk,_,rfl,R.ob,fq A',_,rfl,Z,id,h,k,A',dk,B,Y.n,q,o,rfl,R,uq,ag,n8,ho,rZ.hd,rZ.uc,rZ.dw,cb,λ Z2 H2 A2 r ys R2 f2 bO rr vZ pr=>?_⟩;have O2:=O1.Oh f2 nd (λbM pA=>by rw[hk]at pA;cases pA;exact ev) R2;have z2:Sz {{Y with way:=Y.way.eraseIdx i}with ks:=jH Y.ks h (Kp.vT B o).1} a b c:=⟨sz.bd,sz.hs,le_trans (length_eraseIdx_le _ _) sz.wy,by show(jH _ _ _).length<=16;rw[Of];exact sz.ks⟩;refine⟨Z2,id,W,_,h,r,ys,(Kp.vT B o).2,a,b,c,rfl,O2,bO,vZ,λro e=>?_,pr,z2,la,lb,lc,λ Z3 H3 O3 f3 fT=>?_⟩
  .rw[rr]at e;cases e;exact pD (by intro z;cases z) (by intro z;cases z) (by intro z;cases z)
  .have fr:Fr (λr=>r.1=id) Z H Z3 H3:=((f1.mono λr hr=>by rw[hr]).trans (f2.mono λr ⟨j,hr⟩=>by rw[hr])).trans (f3.mono λr hr=>by rcases hr with hr|hr|hr<;>rw[hr]);exact⟨_,rfl,g Z3 H3 _ O3 fr fT (cH.fr fr ux)⟩
noncomputable def Kp.se (B:Kp)(p:Int)(os:List O):Int:=gI B.held p-((os.filter λo=>!B.past o).map λo=>o.m).sum
theorem jmv (T:Txt K mg t):zi P w K mg base CX0 2 t.Fg t.Fh ["self","purse","orders"] (λvs H Q _=>∃Z id h k A dk B n p r xs os,vs=[.ref k,.int p,.ref r]/\xf t H Z id h k A dk B/\B.Ok n/\0<=p/\p<(n:Int)/\H r=some (.lst xs)/\Paired (yc H Z) xs os/\(∀o∈os,cC (n:Nat) o=true)/\os.length<=1000/\∀H',qg H H'->Q (.int (B.se p os)) H'):=by
 refine T.Xx.bY (N:=["self","purse","orders"]) λ_ A _ s H vs Q E hr h=>?_;obtain⟨Z,id,h,k,A',dk,B,n,p,r,xs,os,rfl,R,ag,p0,p1,hx,px,ho,ll,g⟩:=h;refine⟨_,(@je _ _ _ (jr (vp jU (dD gR (j4 (pv 0) rfl) (pv 1) (λ_ _=>rfl)) (jm (Kj rfl) rfl T.GF boot_sum (jb (lM (N':=["order","self"]) (ix:=[none,some 0]) (wu (by kernel_rfl)) rfl (@gN _ _ _ _ (pv 2)) (λ_ _ _ _=>(qa (i:=0) WC rfl (Or.inl rfl) (.inr rfl))) (λ_ _ _ _=>(Di (x8 (zk (j6 (pv 1) T.jl T.vn (GN T) hr.dn T.Gy .nil jz (jb (pv 0) jg)))))) (λ_ _ _ _=>(dD (UH (K:=K) rfl) (pv 0) jf (λ_ _=>rfl)))) jg))))),?_⟩;have e:=GL (xs:=B.held) p0 (by rw[ag.h];exact p1);refine⟨_,rfl,k,_,dk,_,_,rfl,R.ob,T.jl,T.zv,(xi A').1,_,rfl,A' 1,_,p,.int (gI B.held p),rfl,rfl,ai.of R.he,mS p0 (by rw[getElem?_map,e];rfl),?_⟩;refine⟨_,rfl,r,rfl,⟨_,ai.of hx⟩,tH (K:=K) (a:=r) (xs:=xs) (λi ys U H'=>∃v,U=[v,some (.ref k)]/\H'=H/\ys=(((os.take i).filter λo=>!B.past o).map λo=>o.m).map V.int) ⟨none,rfl,rfl,rfl⟩ ?_ ?_ ?_⟩
 .rintro i ys U H' hi ⟨v,rfl,rfl,rfl⟩
  refine⟨ai.of hx,kK ?_⟩;rw[length_map,length_map];refine le_trans (length_filter_le _ _) ?_;rw[length_take];omega
 .rintro i x ys U H' ex ⟨v,rfl,rfl,rfl⟩
  obtain⟨o,eo,uo⟩:=qx px ex;obtain⟨q,rfl,hq⟩:=uo.ref;have om:o∈os:=mem_of_getElem? eo;refine⟨_,rfl,k,dk,_,rfl,R.ob,fq A',_,rfl,Z,id,h,k,A',dk,B,n,q,o,rfl,R,hq,ho o om,ag.x,_,rfl,?_⟩;rw[take_snoc eo,List.filter_append,map_append,map_append];cases hp:B.past o with
  |true=>refine qq ⟨_,rfl,rfl,?_⟩;simp[hp]
  |false=>refine yz ⟨_,rfl,q,dW o,3,.int o.m,rfl,rfl,ax.of hq,rfl,_,rfl,rfl,?_⟩;simp[hp]
 .rintro ys U H' ⟨v,rfl,rfl,rfl⟩ l nl
  rw[Paired.length px,take_length];refine⟨l,_,rfl,ai.of ja,_,_,rfl,rfl,g _ (jh nl)⟩
noncomputable def Wd.carried (Y:Wd)(o:O):Bool:=decide (Y.en<=((hU Y.bd (bR o)).length:Int))
theorem j6n {ns:List Int}{M:Int}(h1:M∈ns)(h2:∀a∈ns,a<=M):ns.max?=some M:=List.max?_eq_some_iff.mpr ⟨h1,h2⟩
noncomputable def Wd.asks (Y:Wd)(o:O)(row:List O):Wd:=Wd.post {Y with asked:=Y.asked.set o.p.toNat (row++[o])} true o
theorem j8y {a:Addr}{o:Obj}{aa:List (Key×V)}{g:TG}{ti:TT}{te:TE}{U0:St}{H0:Hp}{Q:VK}(Pv:Nat->List V->St->Hp->Prop)(h0:Pv 0 [] U0 H0)(hl:∀i ys U H,i<=aa.length->Pv i ys U H->H a=some (.aE o (.dK aa))/\ys.length<=sizeLine)(hs:∀i kv ys U H,aa[i]?=some kv->Pv i ys U H->g kv.2 U H λ U2 H2=>ti U2 H2 λc H3=>if c=true then te U2 H3 λy H4=>Pv (i+1) (ys++[y]) U2 H4 else Pv (i+1) ys U2 H3)(hd:∀ys U H,Pv aa.length ys U H->∀p,H p=none->Q (.ref p) (upd H p (.lst ys))):∃W:Nat->Nat->List V->St->Hp->Prop,(∃m,W 0 m [] U0 H0)/\∀i m ys U H,W i m ys U H->ys.length<=sizeLine/\(((tR a o aa).stop i H/\oB Q ys H)\/((tR a o aa).go i H/\∃N:List V->St->Hp->Prop,(∀bH U' H',N bH U' H'->∃m',m'<m/\W (i+1) m' bH U' H')/\∀x H',(tR a o aa).dz i H x H'->g x U H' λ U2 H2=>ti U2 H2 λb H3=>if b=true then te U2 H3 λy H4=>N (ys++[y]) U2 H4 else N ys U2 H3)):=by
 refine⟨λi m ys U H=>m=aa.length-i/\i<=aa.length/\Pv i ys U H,⟨aa.length,by simp,zero_le _,h0⟩,?_⟩
 rintro i m ys U H ⟨rfl,hi,p⟩
 obtain⟨q,hz⟩:=hl i ys U H hi p;refine⟨hz,?_⟩;by_cases aD:i<aa.length
 .refine .inr ⟨⟨aD,q⟩,Pv (i+1),λbH U' H' p'=>⟨aa.length-(i+1),by lia,rfl,aD,p'⟩,λx H' y=>?_⟩;obtain⟨e,kv,ek,ex⟩:=y;subst e ex;exact hs i kv ys U _ ek p
 .have e:i=aa.length:=by lia
  subst e;exact .inl ⟨⟨le_refl _,q⟩,hd ys U H p⟩
theorem j5h {H:Hp}{Z:av}{xs:List V}{os:List O}{o:O}(p:Paired (yc H Z) xs os)(e:os.getLast?=some o):∃x,mC xs (-1)=some x/\yc H Z x o:=by rw[List.getLast?_eq_getElem?]at e;obtain⟨x,ex,u⟩:=Aa p e;have l:=Paired.length p;have lt:=(List.getElem?_eq_some_iff.mp e).1;refine⟨x,?_,u⟩;unfold mC mB;rw[if_neg (by decide),if_pos (by lia)];show xs[(-1+(xs.length:Int)).toNat]?=some x;rw[show(-1+(xs.length:Int)).toNat=os.length-1 by lia];exact ex
structure Wd.Ok (Y:Wd):Prop where
 n8:Y.n<=8
 al:Y.asked.length=Y.n
 ao:∀row∈Y.asked,(∀o∈row,cC Y.n o=true)
 ks:∀c∈Y.ks,c.2.Ok Y.n
 nd:(Y.ks.map (·.1)).Nodup
 k0:0<Y.ks.length
 k1:Y.ks.length<=16
noncomputable def j7k (t:Ad):Sp:=λvs H Q E=>∃Z id W Y p g m row,vs=[.ref W.x,.int p,.int g,.int m]/\zw t H Z id W Y/\aA Z H/\Y.Ok/\(0<=p/\p<(Y.n:Int))/\(0<=g/\g<(Y.n:Int))/\g≠p/\(1<=m/\m<=1000)/\Y.asked[p.toNat]?=some row/\row.length<=90/\Y.way.length<=90000/\(p∈Y.oZ->∀d H',qg H H'->E (.ref t.yf) (some d) H')/\(∀o,row.getLast?=some o->Y.carried o=false->∀H',qg H H'->E (.ref t.vm) none H')/\((∀o,row.getLast?=some o->Y.carried o=true)->∀M,(Y.ks.map λc=>c.2.se p row).max?=some M->(M<m->∀H',qg H H'->E (.ref t.uz) none H')/\(m<=M->p∉Y.oZ->∀H' q,zw t H' Z id W (Y.asks ⟨p,row.length,g,m⟩ row)->Fr (λr=>r.1=id) Z H Z H'->aA Z H'->yc H' Z (.ref q) ⟨p,row.length,g,m⟩->Q (.ref q) H'))
set_option maxHeartbeats 0 in
theorem jto (T:Txt K mg t) : zi P w K mg base (bz P w) 6 t.Fy t.Fz ["self","purse","goal","much"] (j7k t):=by
 refine T.X7.D0 EA λ_ A _ s H vs Q E hr h=>?_
 obtain ⟨Z,id,W,Y,p,g,m,row,rfl,O,kr,ag,hp,hg,ng,hm,lY,lrow,lway,e0,e1,e2⟩:=h
 refine ⟨_,(@jc _ _ _ _ _ (qc (j6 (pv 0) T.jt T.X0 (jjm T) hr.dn T.X1 .nil cB (@xj _ _ _ _ _ (pv 1) (pv 2) rfl rfl)))
  (@jc _ _ _ _ _ (zo (x8 (zk (jn (qt T) hr.dn rfl T.qo T.qd.kp T.qm .nil jz (@dG _ _ _ _ _ _ _ (pv 3) jf (zd (v:=.int 1000) rfl T.M6.choose_spec ⟨_,rfl⟩) rfl rfl rfl)))) yk jv)
  (@jc _ _ _ _ _ (qz (i:=4) EA.nd rfl (Or.inr rfl) (dD gR (j4 (pv 0) rfl) (pv 1) (λ_ _=>rfl)))
  (@jc _ _ _ _ _ (zo (PW.pt (cY (jy yT (jm qb rfl T.fh boot_len (jb (pv 4) jg)) (zd (v:=.int 99) rfl T.M7.choose_spec ⟨_,rfl⟩) (j7 _)) (eJ (PW.pt (Cs (Q3 (pv 4) (λ_=>rfl)) (Cr (x8 (zk (j6 (j4 (pv 0) rfl) T.qi T.yo (ZE T) hr.dn T.va .nil jz (jb (dD gR (pv 4) (QQ QV jf) (λ_ _=>rfl)) jg)))))))))) (@je _ _ _ (rA rfl T.GC T.Nn (jb xh jg))) jv)
  (@jc _ _ _ _ _ (zo (jy yT (pv 3) (jm (VO rfl) rfl T.Zk boot_max (jb (KA (lM (N':=["keeper","purse","asked"]) (ix:=[none,some 1,some 4]) (wu (by kernel_rfl)) rfl (Uc (R5 PySem.F.plainAttrs_dict PySem.F.slot_dict_values PySem.F.type_dict_values T9 (j4 (pv 0) rfl))) (λ_ _ _ _=>(qa (i:=0) WD rfl (Or.inl rfl) (.inr rfl))) (λ_ _ _ _=>oA) (λ_ _ _ _=>(j6 (pv 0) T.jl T.Xy (jmv T) hr.dn T.Xz .nil jz (@xj _ _ _ _ _ (pv 1) (pv 2) rfl rfl))))) jg)) (j7 _)) (@je _ _ _ (rA rfl T.Nk T.Y3 (jb xh jg))) jv)
  (@jc _ _ _ _ _ (@qz _ _ 5 _ _ _ _ EA.nd rfl (Or.inl rfl) (@qp _ _ _ _ _ (@iA _ _ _ _ _ _ _ _ _ (pv 1) (jm qb rfl T.fh boot_len (jb (pv 4) jg)) (pv 2) (pv 3) rfl rfl rfl rfl)) (by rfl) (by first | exact .inl rfl | exact .inr rfl))
  (@jc _ _ _ _ _ (qc (iq PySem.F.plainAttrs_list PySem.F.slot_list_append PySem.F.type_list_append mE (pv 4) (jb (pv 5) jg)))
  (@jc _ _ _ _ _ (qc (j6 (pv 0) T.jt T.vd (Oa T) hr.dn T.wo .nil jz (@xj _ _ _ _ _ (zd (v:=.str "order") rfl T.M8.choose_spec ⟨_,rfl⟩) (pv 5) rfl rfl)))
  (@je _ _ _ (jr (pv 5))))))))))),?_⟩
 obtain ⟨ra,rs,ha,mV⟩:=O.ak
 obtain ⟨r,er⟩ : ∃ r,rs[p.toNat]? = some r:=⟨_,getElem?_eq_getElem (by rw [mV.1]; exact (List.getElem?_eq_some_iff.mp lY).1)⟩
 obtain ⟨rr,xs,sf,px⟩:=mV.2 _ _ _ er lY
 obtain ⟨rk,aa,Ol,Om⟩:=O.kd
 have lk:aa.length = Y.ks.length:=Paired.length Om
 have lx:xs.length = row.length:=Paired.length px
 refine bI λN hN=>⟨_,rfl,W.x,W.dx,_,rfl,O.ob.1,gG,_,rfl,_,rfl,Z,id,W,Y,p,g,rfl,O,hp,hg,ng,e0,λnc=>?_⟩
 refine hN _ _ (bI λN hN=>⟨_,rfl,m,1,1000,rfl,_,rfl,?_⟩)
 rw [decide_eq_true hm]
 refine qq ?_
 refine hN _ _ (bI λN hN=>⟨_,rfl,W.x,_,W.dx,_,_,rfl,O.ob.1,T.jt,T.Ng,jzl,_,rfl,W.ak,_,p,.ref r,rfl,rfl,ai.of ha,mS hp.1 (by rw [getElem?_map,er]; rfl),?_⟩)
 refine hN [some (.ref W.x),some (.int p),some (.int g),some (.int m),some (.ref r),none] _ (bI λN hN=>⟨_,rfl,r,xs,rfl,.inl (ai.of sf),_,_,rfl,rfl,_,rfl,cz (λz=>absurd (of_decide_eq_true z) (by show ¬ (99:Int) < (xs.length:Int); omega)) (λ_=>?_)⟩)
 refine' (λkey=>_:(∀ HC,qg H HC -> (∀ o,row.getLast? = some o -> Y.carried o = true) -> (_:Hp -> Prop) HC) -> _) _
 rotate_left
 .cases eS:row.getLast?
  case some o=>
   obtain ⟨x,ex,ux⟩:=j5h px eS
   have x0:(!xs.isEmpty) = true:=by
    cases xs with
    | nil=>cases ex
    | cons _ _=>rfl
   refine ⟨_,rfl,true,.inl ⟨_,ai.of sf,x0.symm⟩,yz ?_⟩
   obtain ⟨q0,rfl,oY⟩:=ux.ref
   obtain ⟨rb,rS,GY,Bq,sg⟩:=O.bd
   refine ⟨_,rfl,W.x,_,W.dx,_,_,rfl,O.ob.1,T.jt,T.gb,GW,W.bd,W.db,_,rfl,Bq.ob,mT _ _ (by decide +kernel) (by decide +kernel),_,rfl,_,rfl,r,xs,-1,.ref q0,rfl,rfl,ai.of sf,ex,W.bd,W.db,W.S,Y.en,GY,dX Y.bd,q0,dh o,rfl,Bq.rd,oY,λHC kU=>⟨_,rfl,?_⟩⟩
   have ec:decide (Y.en <= ((za (dX Y.bd) (dh o)).length:Int)) = Y.carried o:=by
    unfold Wd.carried
    rw [show za (dX Y.bd) (dh o) = hU Y.bd (bR o) from GX (bR o) Y.bd]
   rw [ec]
   cases hc : Y.carried o with
   | false=>exact yz ⟨kJ,e1 o eS hc _ kU⟩
   | true=>
    refine qq ?_
    have jJ : ∀ o',row.getLast? = some o' -> Y.carried o' = true:=λo' e=>by rw [eS] at e; cases e; exact hc
    exact key HC kU jJ
  case none=>
   have e0:row = []:=List.getLast?_eq_none_iff.mp eS
   have x0:xs = []:=List.length_eq_zero_iff.mp (by rw [lx,e0]; rfl)
   refine ⟨_,rfl,false,.inl ⟨_,ai.of sf,by rw [x0]; rfl⟩,qq ?_⟩
   have jJ : ∀ o,row.getLast? = some o -> Y.carried o = true:=λo e=>by rw [eS] at e; cases e
   exact key H (qg.refl _) jJ
 .rintro HC kU jJ
  have OC:=O.fr (P:=λ_=>False) (λ_ z=>z) (Fr.same kU)
  have kd:=kU _ _ Ol
  have ksR:xy t HC Z id aa Y.ks:=xy.fr (P:=λ_=>False) (Fr.same kU) (λ_ _ z=>z) Om
  have hrC:=kU _ _ sf
  have pxC:Paired (yc HC Z) xs row:=Paired.aQ px λ_ _=>yc.fr (P:=λ_=>False) (Fr.same kU)
  refine hN _ _ (bI λN hN=>⟨_,rfl,_,rfl,W.x,_,W.dx,_,_,rfl,OC.ob.1,T.jt,T.qv,rX,.inr (.inr (.inl ⟨rfl,.inl ⟨_,kd⟩⟩)),W.kd,aa,rfl,rfl,kd,λvw hvw=>?_⟩)
  have sv:=jh (o:=kG vw W.kd) hvw
  have He:=sv _ _ kd
  have Oo:xy t (upd HC vw (kG vw W.kd)) Z id aa Y.ks:=xy.fr (P:=λ_=>False) (Fr.same sv) (λ_ _ z=>z) ksR
  have kQ:=sv _ _ hrC
  have Oq:Paired (yc (upd HC vw (kG vw W.kd)) Z) xs row:=Paired.aQ pxC λ_ _=>yc.fr (P:=λ_=>False) (Fr.same sv)
  have gv:upd HC vw (kG vw W.kd) vw = some (kG vw W.kd):=ja
  generalize upd HC vw (kG vw W.kd) = H1 at sv He Oo gv kQ Oq
  refine ⟨vw,W.kd,aa,rfl,gv,He,λoo=>j8y (λi' ys U H'=>∃ v0,U = [v0,some (.int p),some (.ref r)] /\ qg (upd H1 W.kd (.aE oo (.dK aa))) H' /\ ys = ((Y.ks.take i').map λc=>c.2.se p row).map V.int) ⟨none,rfl,qg.refl _,rfl⟩ ?_ ?_ ?_⟩
  .rintro i' ys U H' hi ⟨v0,rfl,sm,rfl⟩
   refine ⟨sm _ _ ja,kK ?_⟩
   rw [length_map,length_map,length_take]
   have:=ag.k1
   omega
  .rintro i' kv ys U H' ek ⟨v0,rfl,sm,rfl⟩
   obtain ⟨c,ec,e1,kk,A',dk,e2,R⟩:=qx Oo ek
   have cm:c ∈ Y.ks:=mem_of_getElem? ec
   rw [e2]
   have fz:Fr (lX id .kd) Z H1 Z H':=(Fr.put rk rfl:Fr (lX id .kd) Z H1 Z (upd H1 W.kd (.aE oo (.dK aa)))).trans (Fr.same sm)
   have R':=R.fr (λf=>j8) fz
   have vZ:=(cj fz kQ rr j8).1
   have A9:Paired (yc H' Z) xs row:=Paired.aQ Oq λ_ _=>yc.fr fz
   dsimp only [jS,mH]
   rw [if_pos rfl]
   refine ⟨_,rfl,kk,dk,_,rfl,R'.ob,fq A',_,rfl,_,rfl,Z,id,c.1,kk,A',dk,c.2,Y.n,p,r,xs,row,rfl,R',ag.ks c cm,hp.1,hp.2,vZ,A9,ag.ao row (mem_of_getElem? lY),by omega,λrP cv=>⟨_,rfl,sm.trans cv,?_⟩⟩
   rw [take_snoc ec,map_append,map_append]
   rfl
  .rintro ys U H' ⟨v0,rfl,sm,rfl⟩ L nL
   rw [lk,take_length]
   have Ot:=sm _ _ (ja (H:=H1) (a:=W.kd) (o:=.aE oo (.dK aa)))
   have LD:L ≠ W.kd:=(ji Ot nL).symm
   have SF:qg HC (upd (upd H' L (.lst ((Y.ks.map λc=>c.2.se p row).map V.int))) W.kd (.dK aa)):=λc u hc=>by
    have h1:=sv _ _ hc
    by_cases z:c = W.kd
    .subst z
     rw [He] at h1
     rw [ja,h1]
    .have qC:H' c = some u:=sm _ _ (by rw [jd z]; exact h1)
     rw [jd z,jd (ji qC nL)]
     exact qC
   refine ⟨W.kd,oo,.dK aa,(by rw [jd LD.symm]; exact Ot),λo' u' z=>?_,True.intro,L,Y.ks.map λc=>c.2.se p row,rfl,ai.of (by rw [jd LD]; exact ja),(by rw [length_map]; exact ag.k0),λM hM hA=>?_⟩
   .have z':H W.kd = some (.aE o' u'):=z
    rw [Ol] at z'
    cases z'
   obtain ⟨eM,qM⟩:=e2 jJ M (j6n hM hA)
   refine ⟨_,_,rfl,rfl,_,rfl,cz (λz=>?_) (λz=>?_)⟩
   .exact ⟨kJ,eM (of_decide_eq_true z) _ (kU.trans SF)⟩
   .have z' : m <= M:=by
     have : ¬ M < m:=λy=>z (decide_eq_true y)
     omega
    have sG:=kU.trans SF
    generalize upd (upd H' L (.lst ((Y.ks.map λc=>c.2.se p row).map V.int))) W.kd (.dK aa) = G at SF sG
    have OG:=O.fr (P:=λ_=>False) (λ_ z=>z) (Fr.same sG)
    have Ou:=kr.same sG
    have Ov:=sG _ _ sf
    have pxG:Paired (yc G Z) xs row:=Paired.aQ px λ_ _=>yc.fr (P:=λ_=>False) (Fr.same sG)
    refine hN _ _ (bI λN hN=>⟨_,rfl,_,rfl,r,xs,rfl,.inl (ai.of Ov),_,rfl,_,rfl,Mb,λq nq=>?_⟩)
    have eo : [V.int p,.int xs.length,.int g,.int m] = dW ⟨p,row.length,g,m⟩:=by rw [lx]; rfl
    rw [eo]
    have s1:=jh (o:=.tup (dW ⟨p,row.length,g,m⟩)) nq
    have O1:=OG.fr (P:=λ_=>False) (λ_ z=>z) (Fr.same s1)
    have cb:=Ou.same s1
    have pF:=s1 _ _ Ov
    have wC:Paired (yc (upd G q (.tup (dW ⟨p,row.length,g,m⟩))) Z) xs row:=Paired.aQ pxG λ_ _=>yc.fr (P:=λ_=>False) (Fr.same s1)
    have rW:yc (upd G q (.tup (dW ⟨p,row.length,g,m⟩))) Z (.ref q) ⟨p,row.length,g,m⟩:=⟨q,rfl,Ou.none nq,ja⟩
    dsimp only
    generalize upd G q (.tup (dW ⟨p,row.length,g,m⟩)) = G1 at s1 O1 cb pF wC rW
    refine hN _ _ (bI λN hN=>⟨_,rfl,.inl ⟨rfl,_,ai.of pF⟩,_,rfl,r,xs,.ref q,rfl,rfl,pF,xg (by omega),?_⟩)
    have f2:Fr (lX id (.row p.toNat)) Z G1 Z (upd G1 r (.lst (xs ++ [.ref q]))):=Fr.put rr rfl
    have O2 : zw t (upd G1 r (.lst (xs ++ [.ref q]))) Z id W { Y with asked:=Y.asked.set p.toNat (row ++ [⟨p,row.length,g,m⟩]) }:=by
     refine O1.but f2 _ j8 rfl rfl (iI f2 j8 (λ_ _=>j8)) (kS f2 j8 j8 j8) (λHa G0=>?_) (Hb f2 j8)
     obtain ⟨Ow,h1,h2⟩:=G0
     have eq':Ow = rs:=by
      have h3:=s1 _ _ (sG _ _ ha)
      rw [h1] at h3
      have h4:=HO.lst.inj (Option.some.inj h3)
      exact (List.map_inj_right (λa b e=>V.ref.inj e)).mp h4
     subst eq'
     obtain ⟨h5,r5⟩:=cj f2 h1 Ha j8
     refine ⟨r5,Ow,h5,?_,λi r' os Hf gC=>?_⟩
     .rw [length_set]
      exact h2.1
     .by_cases z:i = p.toNat
      .subst z
       have:r' = r:=by
        rw [er] at Hf
        exact (Option.some.inj Hf).symm
       subst this
       have lt:=(List.getElem?_eq_some_iff.mp lY).1
       rw [getElem?_set_self lt] at gC
       cases gC
       exact ⟨rr,_,ja,zx (Paired.aQ wC λ_ _=>yc.fr f2) (rW.fr f2)⟩
      .rw [getElem?_set_ne (λy=>z y.symm)] at gC
       obtain ⟨q1,q2,q3,q4⟩:=h2.2 i r' os Hf gC
       obtain ⟨q5,q6⟩:=cj f2 q3 q1 (j8 (by intro y; cases y; exact z rfl))
       exact ⟨q6,q2,q5,Paired.aQ q4 λ_ _=>yc.fr f2⟩
    have bO:=cb.put (a:=r) (o:=.lst (xs ++ [.ref q]))
    have rT:=rW.fr f2
    dsimp only
    generalize upd G1 r (.lst (xs ++ [.ref q])) = G2 at f2 O2 bO rT
    refine hN _ _ (bI λN hN=>⟨_,rfl,W.x,W.dx,_,rfl,O2.ob.1,gG,_,rfl,Z,id,W,_,true,q,⟨p,row.length,g,m⟩,rfl,O2,bO,rT,by show Y.way.length <= 100000; omega,ag.k1,λG3 O3 f3 fT=>hN _ _ ⟨_,rfl,?_⟩⟩)
    have fr:Fr (λr=>r.1 = id) Z H Z G3:=((Fr.same (sG.trans s1)).trans (f2.mono λr hr=>by rw [hr])).trans (f3.mono λr hr=>by rw [hr])
    exact qM z' nc G3 q O3 fr fT (rT.fr f3)
noncomputable def y6 (K:W.Frag)(H:Hp)(a:Addr)(ks:List Int):Prop:=H a=some (.lst (ks.map V.int))\/(ks=[]/\ax K H a [])
noncomputable def jz4 (K:W.Frag):Sp:=λvs H Q _=>∃a b ks,vs=[.ref a,.int b]/\y6 K H a ks/\ks.Pairwise (·<·)/\(∀k∈ks,0<=k/\k<b)/\Q (.bl true) H
theorem jss (T:Txt K mg t):zi P w K mg base CX0 3 t.EG t.EH ["things","bound"] (jz4 K):=by
 refine T.Mt.dQ AE λ_ A _ s H vs Q E hr h=>?_;obtain⟨a,b,ks,rfl,hc,up,rg,k⟩:=h;refine⟨_,(@jc _ _ _ _ _ (qz (i:=2) AE.nd rfl (Or.inl rfl) jf) (@jc _ _ _ _ _ (jT PassesOwn.never rfl (UP (pv 0)) (qa (i:=3) AE.nd rfl (Or.inl rfl)) (@jc _ _ _ _ _ (zo (x8 (zk (jn (qt T) hr.dn rfl T.qo T.qd.kp T.qm .nil jz (@dG _ _ _ _ _ _ _ (pv 3) (pv 2) (vp jU (pv 1) jf) rfl rfl rfl)))) (@je _ _ _ (jr cL)) jv) (@je _ _ _ (qz (i:=2) AE.nd rfl (Or.inl rfl) (vp yS (pv 3) jf))))) (@je _ _ _ (jr cL)))),?_⟩;rcases hc with ha|⟨rfl,ha⟩
 .refine .inl ⟨_,rfl,a,rfl,⟨_,ai.of ha⟩,mw (K:=K) (a:=a) (xs:=ks.map V.int) (λi U H'=>∃v l,U=[some (.ref a),some (.int b),some (.int l),v]/\H'=H/\∀z∈ks.drop i,l<=z) ⟨none,0,rfl,rfl,λz hz=>(rg z hz).1⟩ (λi U H' _ ⟨_,_,_,e,_⟩=>ai.of (by rw[e];exact ha)) ?_ ?_⟩
  .rintro i x U H' hx ⟨v,l,rfl,rfl,hl⟩
   obtain⟨z,ez,rfl⟩:∃z,ks[i]?=some z/\x= .int z:=by
    rw[getElem?_map]at hx;cases e:ks[i]? with
    |none=>rw[e]at hx;cases hx
    |some z=>rw[e]at hx;exact⟨z,rfl,(Option.some.inj hx).symm⟩
   obtain⟨hi,Ox⟩:=List.getElem?_eq_some_iff.mp ez;have r:=rg z (mem_of_getElem? ez);have lz:l<=z:=hl z (by rw[List.drop_eq_getElem_cons hi,Ox];simp);refine⟨_,rfl,_,rfl,_,rfl,_,_,rfl,rfl,_,_,_,rfl,?_⟩;rw[decide_eq_true ⟨lz,(by omega:z<=b-1)⟩];refine⟨_,rfl,qq ?_⟩;refine⟨_,rfl,_,_,rfl,rfl,_,_,rfl,rfl,λy hy=>?_⟩;obtain⟨j,hj,e⟩:=mem_iff_getElem.mp hy;rw[List.length_drop]at hj;rw[List.getElem_drop]at e;have:=List.pairwise_iff_getElem.mp up i (i+1+j) hi (by omega) (by omega);rw[Ox,e]at this;omega
  .rintro U H' ⟨v,l,rfl,rfl,_⟩
   exact k
 .refine .inr ⟨_,rfl,a,rfl,⟨_,ha⟩,QL (K:=K) (a:=a) (xs:=[]) (λi U H'=>∃v,U=[some (.ref a),some (.int b),some (.int 0),v]/\H'=H) ⟨none,rfl,rfl⟩ (λi U H' _ ⟨_,_,e⟩=>by rw[e];exact ha) (λi x U H' hx _=>by simp at hx) ?_⟩
  rintro U H' ⟨v,rfl,rfl⟩
  exact k
theorem Oy (T:Txt K mg t):zi P w K mg base CX0 4 t.EI t.EJ ["thing","bound"] (λvs H Q _=>∃a b ks,vs=[.ref a,.int b]/\y6 K H a ks/\ks.Pairwise (·<·)/\(∀k∈ks,0<=k/\k<b)/\∀H',qg H H'->Q (.bl true) H'):=by
 refine T.uy.bY (N:=["thing","bound"]) λ_ A _ s H vs Q E hr h=>?_;obtain⟨a,b,ks,rfl,hc,up,rg,k⟩:=h;refine⟨_,(@je _ _ _ (jr (ik (jm UN rfl T.jq boot_isinstance (@xj _ _ _ _ _ (pv 0) (@qp _ _ _ _ _ (@xj _ _ _ _ _ (iS (v:=.ty "list") rfl T.mR boot_list rfl) (iS (v:=.ty "tuple") rfl T.rM boot_tuple rfl) rfl rfl)) rfl rfl)) (jQ (jn (jss T) hr.dn rfl T.WQ T.Mt.kp T.WR .nil jz (@xj _ _ _ _ _ (pv 0) (pv 1) rfl rfl)))))),?_⟩;refine⟨_,rfl,bc,λq hq=>?_⟩;have s1:=jh (o:=.tup [.ty "list",.ty "tuple"]) hq;have Oz:y6 K (upd H q (.tup [.ty "list",.ty "tuple"])) a ks:=by
  rcases hc with h|⟨e,h⟩
  .exact .inl (s1 _ _ h)
  .refine .inr ⟨e,?_⟩;rcases h with h|h
   .exact .inl (rO s1 h)
   .exact .inr h
 refine⟨a,q,rfl,ja,?_,?_⟩
 .rcases Oz with h|⟨_,h⟩
  .exact .inl ⟨_,ai.of h⟩
  .exact .inr ⟨_,h⟩
 exact⟨_,rfl,yz ⟨_,rfl,_,rfl,a,b,ks,rfl,Oz,up,rg,k _ s1⟩⟩
theorem y6.same {K:W.Frag}{H H':Hp}{a:Addr}{ks:List Int}(s1:qg H H')(hc:y6 K H a ks):y6 K H' a ks:=by
 rcases hc with h|⟨e,h⟩
 .exact .inl (s1 _ _ h)
 .refine .inr ⟨e,?_⟩;rcases h with h|h
  .exact .inl (rO s1 h)
  .exact .inr h
theorem y6.sq {K:W.Frag}{H:Hp}{a:Addr}{ks:List Int}(hc:y6 K H a ks):ai K H a (ks.map V.int)\/ax K H a (ks.map V.int):=by
 rcases hc with h|⟨e,h⟩
 .exact .inl (ai.of h)
 .subst e;exact .inr h
theorem jmo (T:Txt K mg t):zi P w K mg base CX0 3 t.EK t.EL ["thing"] (λvs H Q _=>∃i,vs=[.int i]/\Q (.bl (decide (1<=i/\i<=16))) H):=by refine T.Mw.bY (N:=["thing"]) λ_ A _ s H vs Q E hr h=>?_;obtain⟨x,rfl,k⟩:=h;refine⟨_,(@je _ _ _ (jr (jn (qt T) hr.dn rfl T.qo T.qd.kp T.qm .nil jz (@dG _ _ _ _ _ _ _ (pv 0) jf (zd (v:=.int 16) rfl T.YM.choose_spec ⟨_,rfl⟩) rfl rfl rfl)))),?_⟩;exact⟨_,rfl,x,1,16,rfl,k⟩
theorem j0k (T:Txt K mg t):zi P w K mg base CX0 3 t.EM t.EN ["thing"] (λvs H Q _=>∃i,vs=[.int i]/\Q (.bl (decide (0<=i/\i<=5))) H):=by refine T.Mx.bY (N:=["thing"]) λ_ A _ s H vs Q E hr h=>?_;obtain⟨x,rfl,k⟩:=h;refine⟨_,(@je _ _ _ (jr (jn (qt T) hr.dn rfl T.qo T.qd.kp T.qm .nil jz (@dG _ _ _ _ _ _ _ (pv 0) jf (zd (v:=.int 5) rfl T.YN.choose_spec ⟨_,rfl⟩) rfl rfl rfl)))),?_⟩;exact⟨_,rfl,x,0,5,rfl,k⟩
theorem jti (T:Txt K mg t):zi P w K mg base CX0 1 t.EO t.ER ["houses","few"] (λvs H Q _=>∃h f:Int,vs=[.int h,.int f]/\Q (.bl (decide (h>3*f))) H):=by refine T.My.bY (N:=["houses","few"]) λ_ A _ s H vs Q E hr h=>?_;obtain⟨i,j,rfl,q⟩:=h;refine⟨_,(@je _ _ _ (jr (il yT (pv 0) (vp CC jf (pv 1)) (j7 _)))),?_⟩;exact⟨_,rfl,_,rfl,_,_,rfl,rfl,.inl (by decide),_,_,rfl,rfl,q⟩
theorem ju4 (T:Txt K mg t):zi P w K mg base CX0 1 t.ES t.ET ["houses","few"] (λvs H Q _=>∃i j:Int,vs=[.int i,.int j]/\Q (.int (i-j)) H):=by refine T.Mz.bY (N:=["houses","few"]) λ_ A _ s H vs Q E hr h=>?_;obtain⟨i,j,rfl,q⟩:=h;refine⟨_,(@je _ _ _ (jr (vp jU (pv 0) (pv 1)))),?_⟩;exact⟨_,rfl,_,rfl,_,_,rfl,rfl,q⟩
theorem jv2 (T:Txt K mg t):zi P w K mg base CX0 3 t.EU t.EV ["thing"] (λvs H Q _=>∃a ns,vs=[.ref a]/\H a=some (.lst ((ns:List Int).map V.int))/\2<=ns.length/\ns.length<=8/\(∀i∈ns,0<=i/\i<=1000)/\∀H',qg H H'->Q (.bl true) H'):=by
 refine T.MA.bY (N:=["thing"]) λ_ A _ s H vs Q E hr h=>?_;obtain⟨a,ns,rfl,e,l2,l8,rg,k⟩:=h;refine⟨_,(@jc _ _ _ _ _ (zo (PW.pt (cY (x8 (zk (jm vg rfl T.jq boot_isinstance (@xj _ _ _ _ _ (pv 0) (iS (v:=.ty "list") rfl T.mR boot_list rfl) rfl rfl)))) (eJ (jy Jj (jm qb rfl T.fh boot_len (jb (pv 0) jg)) (zd (v:=.int 2) rfl T.YQ.choose_spec ⟨_,rfl⟩) (j7 _))))) (@je _ _ _ (jr cL)) jv) (@je _ _ _ (jr (jm (Dm rfl) rfl T.GG boot_all (jb (lM (N':=["each"]) (ix:=[none]) (wu (by kernel_rfl)) rfl (@gN _ _ _ _ (pv 0)) (λ_ _ _ _=>(qa (i:=0) WE rfl (Or.inl rfl) (.inr rfl))) (λ_ _ _ _=>oA) (λ_ _ _ _=>(jn (qt T) hr.dn rfl T.qo T.qd.kp T.qm .nil jz (@dG _ _ _ _ _ _ _ (pv 0) jf (zd (v:=.int 1000) rfl T.YO.choose_spec ⟨_,rfl⟩) rfl rfl rfl)))) jg))))),?_⟩;refine⟨_,rfl,_,_,_,true,rfl,.lst e,rfl,_,rfl,qq ?_⟩;refine⟨_,rfl,a,_,rfl,.inl (ai.of e),_,_,rfl,rfl,_,rfl,cz (λh1=>?_) (λh1=>?_)⟩
 .exfalso;have:=of_decide_eq_true h1;rw[length_map]at this;omega
 refine⟨_,rfl,a,rfl,⟨_,ai.of e⟩,tH (K:=K) (a:=a) (xs:=ns.map V.int) (λi ys U' H'=>∃v,U'=[v]/\H'=H/\ys=(List.replicate i true).map V.bl) ⟨none,rfl,rfl,rfl⟩ ?_ ?_ ?_⟩
 .rintro i ys U' H' hi ⟨v,rfl,rfl,rfl⟩
  refine⟨ai.of e,kK ?_⟩;rw[length_map]at hi;rw[length_map,length_replicate];omega
 .rintro i x ys U' H' hx ⟨v,rfl,rfl,rfl⟩
  obtain⟨z,ez,rfl⟩:∃z,ns[i]?=some z/\x= .int z:=by
   rw[getElem?_map]at hx;cases e:ns[i]? with
   |none=>rw[e]at hx;cases hx
   |some z=>rw[e]at hx;exact⟨z,rfl,(Option.some.inj hx).symm⟩
  dsimp only[jS,mH];rw[if_pos rfl];refine⟨_,rfl,z,0,1000,rfl,?_⟩;rw[decide_eq_true (rg z (mem_of_getElem? ez))];refine⟨_,rfl,rfl,?_⟩;rw[List.replicate_succ',map_append];rfl
 .rintro ys U' H' ⟨v,rfl,rfl,rfl⟩ q hq
  refine⟨q,List.replicate (ns.map V.int).length true,rfl,ai.of ja,?_⟩;have g:=k _ (jh (o:=.lst ((List.replicate (ns.map V.int).length true).map V.bl)) hq);rw[show(List.replicate (ns.map V.int).length true).all id=true by simp];exact g
theorem jnj (T:Txt K mg t):zi P w K mg base CX0 4 t.EW t.EX ["thing"] (λvs H Q _=>∃a ns,vs=[.ref a]/\H a=some (.lst ((ns:List Int).map V.int))/\2<=ns.length/\ns.length<=8/\(∀i∈ns,0<=i/\i<=1000)/\∀H',qg H H'->Q (.bl true) H'):=by refine T.MB.bY (N:=["thing"]) λ_ A _ s H vs Q E hr h=>?_;obtain⟨a,ns,rfl,e,l2,l8,rg,k⟩:=h;refine⟨_,(@je _ _ _ (jr (ik (jn (jv2 T) hr.dn rfl T.W0 T.MA.kp T.W2 .nil jz (jb (pv 0) jg)) (jQ (il nU (jm qb rfl T.fh boot_len (jb (pv 0) jg)) (zd (v:=.int 8) rfl T.YR.choose_spec ⟨_,rfl⟩) (j7 _)))))),?_⟩;refine⟨_,rfl,a,ns,rfl,e,l2,l8,rg,λH1 s1=>⟨_,rfl,yz ?_⟩⟩;refine⟨_,rfl,a,_,rfl,.inl (ai.of (s1 _ _ e)),_,_,rfl,rfl,?_⟩;have g:=k H1 s1;show Q (.bl (decide (((ns.map V.int).length:Int)<=8))) H1;rw[show decide (((ns.map V.int).length:Int)<=8)=true from decide_eq_true (by rw[length_map];omega)];exact g
theorem jpc (T:Txt K mg t):zi P w K mg base CX0 5 t.EY t.EZ ["houses","few","liars"] (λvs H Q _=>∃h f a ks,vs=[.int h,.int f,.ref a]/\(1<=h/\h<=16)/\(0<=f/\f<=5)/\3*f<h/\y6 K H a ks/\ks.Pairwise (·<·)/\(∀k∈ks,0<=k/\k<h)/\(ks.length:Int)<=f/\∀H',qg H H'->Q .aj H'):=by
 refine T.MD.bY (N:=["houses","few","liars"]) λ_ A _ s H vs Q E hr h=>?_;obtain⟨h,f,a,ks,rfl,h1,f1,lt,hc,up,rg,l,k⟩:=h;refine⟨_,(@jc _ _ _ _ _ (zo (PW.pt (cY (x8 (zk (jn (jmo T) hr.dn rfl T.WS T.Mw.kp T.WT .nil jz (jb (pv 0) jg)))) (eJ (x8 (zk (jn (j0k T) hr.dn rfl T.WU T.Mx.kp T.WV .nil jz (jb (pv 1) jg))))))) yk jv) (@jc _ _ _ _ _ (zo (x8 (zk (sR (jti T) hr.dn rfl T.WW T.My.kp T.WX jz (jb (pv 0) jg) (jX (pv 1) qK)))) yk jv) (@je _ _ _ (zo (PW.pt (cY (x8 (zk (jn (Oy T) hr.dn rfl T.Mu T.uy.kp T.Mv .nil jz (@xj _ _ _ _ _ (pv 2) (pv 0) rfl rfl)))) (eJ (jy yT (jm qb rfl T.fh boot_len (jb (pv 2) jg)) (pv 1) (j7 _))))) yk jv)))),?_⟩;refine⟨_,rfl,h,rfl,_,rfl,?_⟩;rw[decide_eq_true h1];refine qq ⟨_,rfl,f,rfl,_,rfl,?_⟩;rw[decide_eq_true f1];refine qq ⟨_,rfl,_,rfl,h,f,rfl,_,rfl,?_⟩;rw[decide_eq_true (by omega)];refine qq ⟨_,rfl,_,rfl,a,h,ks,rfl,hc,up,rg,λH1 s1=>⟨_,rfl,qq ?_⟩⟩;refine⟨_,rfl,a,_,rfl,(hc.same s1).sq,_,rfl,_,_,rfl,rfl,_,rfl,cz (λz=>?_) (λ_=>k _ s1)⟩;exfalso;have:=of_decide_eq_true z;rw[length_map]at this;omega
theorem jpe (T:Txt K mg t):zi P w K mg base CX0 5 t.E1 t.E2 ["sums","cheats"] (λvs H Q _=>∃a ns b ks,vs=[.ref a,.ref b]/\H a=some (.lst ((ns:List Int).map V.int))/\2<=ns.length/\ns.length<=8/\(∀i∈ns,0<=i/\i<=1000)/\y6 K H b ks/\ks.Pairwise (·<·)/\(∀k∈ks,0<=k/\k<(ns.length:Int))/\∀H',qg H H'->Q .aj H'):=by
 refine T.ME.bY (N:=["sums","cheats"]) λ_ A _ s H vs Q E hr h=>?_;obtain⟨a,ns,b,ks,rfl,e,l2,l8,r1,hc,up,rg,k⟩:=h;refine⟨_,(@jc _ _ _ _ _ (zo (x8 (zk (jn (jnj T) hr.dn rfl T.W3 T.MB.kp T.W4 .nil jz (jb (pv 0) jg)))) yk jv) (@je _ _ _ (zo (x8 (zk (jn (Oy T) hr.dn rfl T.Mu T.uy.kp T.Mv .nil jz (@xj _ _ _ _ _ (pv 1) (jm qb rfl T.fh boot_len (jb (pv 0) jg)) rfl rfl)))) yk jv))),?_⟩;refine⟨_,rfl,a,ns,rfl,e,l2,l8,r1,λH1 s1=>⟨_,rfl,qq ?_⟩⟩;refine⟨_,rfl,_,rfl,a,_,rfl,.inl (ai.of (s1 _ _ e)),b,_,ks,rfl,hc.same s1,up,λk hk=>?_,λH2 s2=>⟨_,rfl,qq (k _ (s1.trans s2))⟩⟩;rw[length_map];exact rg k hk
noncomputable def PK (H:Hp)(Z:av)(id:Nat)(h:Int)(L:List (Nat×Addr×HO)):Prop:=∀x∈L,1<=x.1/\Z x.2.1=some (id,.kp h x.1)/\H x.2.1=some x.2.2
theorem PK.new {H:Hp}{Z:av}{id:Nat}{h:Int}{L:List (Nat×Addr×HO)}{p:Addr}{f:Nat}{u:HO}(k:PK H Z id h L)(n:H p=none)(hf:1<=f):PK (upd H p u) (aH Z p (id,.kp h f)) id h ((f,p,u)::L):=λx hx=>by
 rcases mem_cons.mp hx with rfl|hx
 .exact⟨hf,qr,ja⟩
 .obtain⟨a,b,c⟩:=k x hx;have:x.2.1≠p:=ji c n;exact⟨a,by rw[qy this];exact b,by rw[jd this];exact c⟩
theorem PK.obj {H:Hp}{Z:av}{id:Nat}{h:Int}{L:List (Nat×Addr×HO)}{x:Addr}{o:HO}(k:PK H Z id h L)(rx:Z x=some (id,.kp h 0)):PK (upd H x o) Z id h L:=λy hy=>by obtain⟨a,b,c⟩:=k y hy;exact⟨a,b,by rw[jd (fm b rx (λz=>by have e:=(Part.kp.inj (Prod.mk.inj z).2).2;lia))];exact c⟩
theorem PK.same {H H':Hp}{Z:av}{id:Nat}{h:Int}{L:List (Nat×Addr×HO)}(s:qg H H')(k:PK H Z id h L):PK H' Z id h L:=λy hy=>let⟨a,b,c⟩:=k y hy;⟨a,b,s _ _ c⟩
theorem PK.at_ {H:Hp}{Z:av}{id:Nat}{h:Int}{L:List (Nat×Addr×HO)}(k:PK H Z id h L)(j:Nat){f:Nat}{a:Addr}{u:HO}(e:L[j]?=some (f,a,u)):Z a=some (id,.kp h f)/\H a=some u:=(k _ (mem_of_getElem? e)).2
structure Mk (t:Ad)(Z0:av)(H0:Hp)(id:Nat)(h:Int)(x dx:Addr)(fs:List (Str×V))(L:List (Nat×Addr×HO))(Z:av)(H:Hp):Prop where
 ob:H x=some (.ins t.jw dx fs)
 rx:Z x=some (id,.kp h 0)
 pk:PK H Z id h L
 fr:Fr (bC id h) Z0 H0 Z H
 kr:aA Z H
section
variable {t:Ad}{Z0 Z:av}{H0 H H':Hp}{id:Nat}{h:Int}{x dx:Addr}{fs fs':List (Str×V)}{L:List (Nat×Addr×HO)}
theorem Mk.new {p:Addr}{u:HO}(f:Nat)(m:Mk t Z0 H0 id h x dx fs L Z H)(n:H p=none)(hf:1<=f)(hu:autoParam (mU u) aP7):Mk t Z0 H0 id h x dx fs ((f,p,u)::L) (aH Z p (id,.kp h f)) (upd H p u):=by have nx:x≠p:=ji m.ob n;exact⟨by rw[jd nx];exact m.ob,by rw[qy nx];exact m.rx,m.pk.new n hf,m.fr.trans (Fr.cD n),m.kr.cD hu⟩
theorem Mk.wD (m:Mk t Z0 H0 id h x dx fs L Z H)(s:qg H H'):Mk t Z0 H0 id h x dx fs L Z H':=⟨s _ _ m.ob,m.rx,m.pk.same s,m.fr.trans (Fr.same s),m.kr.same s⟩
theorem Mk.obj (m:Mk t Z0 H0 id h x dx fs L Z H):Mk t Z0 H0 id h x dx fs' L Z (upd H x (.ins t.jw dx fs')):=⟨ja,m.rx,m.pk.obj m.rx,m.fr.trans (Fr.put m.rx ⟨0,rfl⟩),m.kr.put⟩
end
theorem joe (T:Txt K mg t):zi P w K mg base CX0 1 t.vf t.E8 ["self","sums"] (λvs H Q _=>∃Z id h x dx sa,∃ns:List Int,vs=[.ref x,.ref sa]/\H x=some (.ins t.jw dx [])/\Z x=some (id,.kp h 0)/\aA Z H/\H sa=some (.lst (ns.map V.int))/\ns.length<=1000/\∀af H' he nn dn,Mk t Z H id h x dx (jF he nn dn) [(3,dn,.lst []),(2,nn,.lst ((List.replicate ns.length 0).map V.int)),(1,he,.lst (ns.map V.int))] af H'->Q .aj H'):=by
 refine T.Xl.bY (N:=["self","sums"]) λ_ A _ s H vs Q E hr h=>?_;obtain⟨Z,id,h,x,dx,sa,ns,rfl,hx,rx,kr,hs,ln,k⟩:=h;refine⟨_,(@jc _ _ _ _ _ (ko (pv 0) (my kq rfl T.mR boot_list (jb (pv 1) jg)) rfl) (@jc _ _ _ _ _ (ko (pv 0) (vp C0 (@qk _ _ _ _ (jb jf jg)) (jm qb rfl T.fh boot_len (jb (pv 1) jg))) rfl) (@je _ _ _ (ko (pv 0) (@qk _ _ _ _ jg) rfl)))),?_⟩;have m0:Mk t Z H id h x dx [] [] Z H:=⟨hx,rx,(λ_ z=>by cases z),Fr.refl,kr⟩;have sx:sa≠x:=ie hs hx (by intro z;cases z);refine⟨_,rfl,sa,_,rfl,.inl (ai.of hs),λhe nh=>?_⟩;have m1:=m0.new 1 nh (u:=.lst (ns.map V.int)) (by decide);have zZ:=jh (o:=.lst (ns.map V.int)) nh _ _ hs;refine⟨_,rfl,x,_,dx,_,rfl,m1.ob,T.jl,T.zv,(by show 0<1000;decide),?_⟩;have m2:=m1.obj (fs':=vy "held" (.ref he) []);have nY:upd (upd H he (.lst (ns.map V.int))) x (.ins t.jw dx (vy "held" (.ref he) [])) sa=some (.lst (ns.map V.int)):=by rw[jd sx];exact zZ
 dsimp only;generalize upd (upd H he (.lst (ns.map V.int))) x (.ins t.jw dx (vy "held" (.ref he) []))=G at m2 nY;refine⟨kJ,λz1 n1=>⟨_,rfl,sa,_,rfl,.inl (ai.of ((jh n1) _ _ nY)),?_⟩⟩;have m3:=m2.wD (jh (o:=.lst [.int 0]) n1);refine⟨z1,_,[.int 0],rfl,rfl,ja,?_,?_,?_,λnn n2=>?_⟩
 .omega
 .rw[length_map];have:=nW;omega
 .rw[length_map];exact kK (by simp;omega)
 have er:(List.replicate (((ns.map V.int).length:Nat):Int).toNat [V.int 0]).flatten=(List.replicate ns.length 0).map V.int:=by
  rw[Int.toNat_natCast,length_map,List.map_replicate];generalize ns.length=n;induction n with
  |zero=>rfl
  |succ n ih=>rw[replicate_succ,flatten_cons,ih,replicate_succ];rfl
 rw[er];have m4:=m3.new 2 n2 (u:=.lst ((List.replicate ns.length 0).map V.int)) (by decide);generalize upd (upd G z1 (.lst [.int 0])) nn (.lst ((List.replicate ns.length 0).map V.int))=G4 at m4;refine⟨_,rfl,x,_,dx,_,rfl,m4.ob,T.jl,T.qj,(by show 1<1000;decide),?_⟩;have m5:=m4.obj (fs':=vy "next_numbers" (.ref nn) (vy "held" (.ref he) []));dsimp only;generalize upd G4 x (.ins t.jw dx (vy "next_numbers" (.ref nn) (vy "held" (.ref he) [])))=G5 at m5;refine⟨dF,λdn n3=>⟨_,rfl,x,_,dx,_,rfl,(m5.new 3 n3 (u:=.lst []) (by decide)).ob,T.jl,T.M9,(by show 2<1000;decide),?_⟩⟩;exact k _ _ he nn dn ((m5.new 3 n3 (u:=.lst []) (by decide)).obj)
noncomputable def pG (ns:List Int):Kp:=⟨ns,List.replicate ns.length 0,[],[],[],[],[]⟩
theorem jlz (T:Txt K mg t):zi P w K mg base CX0 2 t.vq t.Fd ["self","sums"] (λvs H Q _=>∃Z id h x dx sa,∃ns:List Int,vs=[.ref x,.ref sa]/\H x=some (.ins t.jw dx [])/\Z x=some (id,.kp h 0)/\aA Z H/\H sa=some (.lst (ns.map V.int))/\ns.length<=1000/\∀af H' A,xf t H' af id h x A dx (pG ns)->Fr (bC id h) Z H af H'->aA af H'->Q .aj H'):=by
 refine T.Xr.bY (N:=["self","sums"]) λ_ A _ s H vs Q E hr h=>?_;obtain⟨Z,id,h,x,dx,sa,ns,rfl,hx,rx,kr,hs,ln,k⟩:=h;refine⟨_,(@jc _ _ _ _ _ (qc (VP rfl T.YU T.YW (joe T) hr.dn T.Xm .nil jz (@xj _ _ _ _ _ (pv 0) (pv 1) rfl rfl))) (@jc _ _ _ _ _ (ko (pv 0) Dd rfl) (@jc _ _ _ _ _ (ko (pv 0) (@qk _ _ _ _ jg) rfl) (@jc _ _ _ _ _ (ko (pv 0) Dd rfl) (@je _ _ _ (ko (pv 0) (@qk _ _ _ _ jg) rfl)))))),?_⟩;refine⟨_,rfl,_,rfl,Z,id,h,x,dx,sa,ns,rfl,hx,rx,kr,hs,ln,λ Z1 H1 he nn dn m1=>?_⟩;refine λhd n1=>⟨_,rfl,x,_,dx,_,rfl,(m1.new 4 n1 (u:=.dT []) (by decide)).ob,T.jl,T.GB,(by show 3<1000;decide),?_⟩;have m2:=(m1.new 4 n1 (u:=.dT []) (by decide)).obj (fs':=vy "heard" (.ref hd) (jF he nn dn));dsimp only;generalize upd (upd H1 hd (.dT [])) x (.ins t.jw dx (vy "heard" (.ref hd) (jF he nn dn)))=G2 at m2;refine⟨dF,λun n2=>⟨_,rfl,x,_,dx,_,rfl,(m2.new 5 n2 (u:=.lst []) (by decide)).ob,T.jl,T.yg,(by show 4<1000;decide),?_⟩⟩;have m3:=(m2.new 5 n2 (u:=.lst []) (by decide)).obj (fs':=vy "unvoted" (.ref un) (vy "heard" (.ref hd) (jF he nn dn)));dsimp only;generalize upd (upd G2 un (.lst [])) x (.ins t.jw dx (vy "unvoted" (.ref un) (vy "heard" (.ref hd) (jF he nn dn))))=G3 at m3;refine λcs n3=>⟨_,rfl,x,_,dx,_,rfl,(m3.new 6 n3 (u:=.dT []) (by decide)).ob,T.jl,T.xa,(by show 5<1000;decide),?_⟩;have m4:=(m3.new 6 n3 (u:=.dT []) (by decide)).obj (fs':=vy "choices" (.ref cs) (vy "unvoted" (.ref un) (vy "heard" (.ref hd) (jF he nn dn))));dsimp only;generalize upd (upd G3 cs (.dT [])) x (.ins t.jw dx (vy "choices" (.ref cs) (vy "unvoted" (.ref un) (vy "heard" (.ref hd) (jF he nn dn)))))=G4 at m4;refine⟨dF,λwt n4=>⟨_,rfl,x,_,dx,_,rfl,(m4.new 7 n4 (u:=.lst []) (by decide)).ob,T.jl,T.xb,(by show 6<1000;decide),?_⟩⟩;have m5:=(m4.new 7 n4 (u:=.lst []) (by decide)).obj (fs':=kf he nn dn hd un cs wt);refine k _ _ (λf=>match f with|1=>he|2=>nn|3=>dn|4=>hd|5=>un|6=>cs|_=>wt) ⟨m5.ob,m5.rx,λf h1 h7=>?_⟩ m5.fr m5.kr;have p:=m5.pk
 match f,h1,h7 with
 |1,_,_=>exact⟨(p.at_ 6 rfl).1,_,(p.at_ 6 rfl).2,rfl⟩
 |2,_,_=>exact⟨(p.at_ 5 rfl).1,_,(p.at_ 5 rfl).2,rfl⟩
 |3,_,_=>exact⟨(p.at_ 4 rfl).1,_,(p.at_ 4 rfl).2,[],rfl,.nil⟩
 |4,_,_=>exact⟨(p.at_ 3 rfl).1,_,(p.at_ 3 rfl).2,[],rfl,rfl⟩
 |5,_,_=>exact⟨(p.at_ 2 rfl).1,_,(p.at_ 2 rfl).2,[],rfl,.nil⟩
 |6,_,_=>exact⟨(p.at_ 1 rfl).1,_,(p.at_ 1 rfl).2,[],rfl,.nil⟩
 |7,_,_=>exact⟨(p.at_ 0 rfl).1,_,(p.at_ 0 rfl).2,[],rfl,.nil⟩
noncomputable def pH (K:W.Frag)(H:Hp)(Z:av)(id:Nat)(a:Addr)(ks:List Int):Prop:=(H a=some (.lst (ks.map V.int))/\∀r,Z a=some r->¬r.1=id)\/(ks=[]/\∃(o:Obj)(its:Array Value)(n:Nat),K.lookup a=some o/\o.cls= .type "tuple"/\o.data= .seq its n/\its.size<=sizeLine/\Vals [] its.toList)
theorem pH.at_ {K:W.Frag}{H:Hp}{Z:av}{id:Nat}{a:Addr}{ks:List Int}(h:pH K H Z id a ks):y6 K H a ks:=h.imp (λq=>q.1) (λq=>⟨q.1,.inr q.2⟩)
theorem pH.fr {K:W.Frag}{H H':Hp}{Z af:av}{id:Nat}{a:Addr}{ks:List Int}(f:Fr (λr=>r.1=id) Z H af H')(h:pH K H Z id a ks):y6 K H' a ks:=by
 rcases h with⟨h,n⟩|⟨e,h⟩
 .exact .inl (f a _ h n).1
 .exact .inr ⟨e,.inr h⟩
theorem xy.oE {t:Ad}{P:Role->Prop}{Z af:av}{H H':Hp}{id:Nat}(f:Fr P Z H af H'):∀{aa:List (Key×V)}{ks:List (Int×Kp)},(∀c∈ks,∀j,¬P (id,.kp c.1 j))->xy t H Z id aa ks->xy t H' af id aa ks:=λ{aa ks} n q=>by
 unfold xy at q;induction q with
 |nil=>exact .nil
 |@cons kv c aa ks a r ih=>obtain⟨e,k,A,dk,ek,q⟩:=a;exact .cons ⟨e,k,A,dk,ek,q.fr (n c mem_cons_self) f⟩ (ih λc' hc=>n c' (mem_cons_of_mem _ hc))
noncomputable def allI (id:Nat):Role->Prop:=λr=>r.1=id
structure dm (t:Ad)(Z0:av)(H0:Hp)(id:Nat)(x dx:Addr)(fs:List (Str×V))(Z:av)(H:Hp):Prop where
 ob:H x=some (.ins t.j3 dx fs)
 rx:Z x=some (id,.x)
 fr:Fr (allI id) Z0 H0 Z H
 kr:aA Z H
section
variable {t:Ad}{Z0 Z af:av}{H0 H H':Hp}{id:Nat}{x dx:Addr}{fs fs':List (Str×V)}{P:Role->Prop}
theorem dm.step (m:dm t Z0 H0 id x dx fs Z H)(f:Fr P Z H af H')(n:¬P (id,.x))(hP:∀r,P r->r.1=id)(kr:aA af H'):dm t Z0 H0 id x dx fs af H':=by obtain⟨e,r⟩:=cj f m.ob m.rx n;exact⟨e,r,m.fr.trans (f.mono hP),kr⟩
theorem dm.wD (m:dm t Z0 H0 id x dx fs Z H)(s:qg H H'):dm t Z0 H0 id x dx fs Z H':=m.step (P:=λ_=>False) (Fr.same s) (λz=>z) (λ_ z=>z.elim) (m.kr.same s)
theorem dm.new {p:Addr}{u:HO}{r:Role}(m:dm t Z0 H0 id x dx fs Z H)(n:H p=none)(hu:autoParam (mU u) aP7):dm t Z0 H0 id x dx fs (aH Z p r) (upd H p u):=m.step (P:=λ_=>False) (Fr.cD n) (λz=>z) (λ_ z=>z.elim) (m.kr.cD hu)
theorem dm.obj (m:dm t Z0 H0 id x dx fs Z H):dm t Z0 H0 id x dx fs' Z (upd H x (.ins t.j3 dx fs')):=⟨ja,m.rx,m.fr.trans (Fr.put m.rx rfl),m.kr.put⟩
theorem dm.fo (m:dm t Z0 H0 id x dx fs Z H):Fr (lX id .x) Z H Z (upd H x (.ins t.j3 dx fs')):=Fr.put m.rx rfl
end
noncomputable def kW (ls:List Int)(n:Nat):List Int:=((List.range n).map λ(i:Nat)=>(i:Int)).filter λi=>!decide (i∈ls)
noncomputable def w0 (h f:Int)(ns cs ls:List Int):Wd:=⟨ns.length,cs,(kW ls h.toNat).map λi=>(i,pG ns),[],h-f,List.replicate ns.length [],[]⟩
structure sh (H:Hp)(Z:av)(ch ly:Addr)(cs ls:List Int):Prop where
 c:H ch=some (.lst (cs.map V.int))/\Z ch=none
 l:H ly=some (.lst (ls.map V.int))/\Z ly=none
theorem sh.fr {P:Role->Prop}{Z af:av}{H H':Hp}{ch ly:Addr}{cs ls:List Int}(f:Fr P Z H af H')(h:sh H Z ch ly cs ls):sh H' af ch ly cs ls:=⟨dj f h.c.1 h.c.2,dj f h.l.1 h.l.2⟩
theorem OA (ls:List Int)(n:Nat):kW ls (n+1)=kW ls n++if(n:Int)∈ls then[]else[(n:Int)]:=by
 unfold kW;rw[List.range_succ,map_append,List.filter_append];congr 1;by_cases z:(n:Int)∈ls
 .rw[if_pos z];simp[z]
 .rw[if_neg z];simp[z]
theorem OB {ls:List Int}{n:Nat}{i:Int}(h:i∈kW ls n):0<=i/\i<(n:Int)/\i∉ls:=by unfold kW at h;obtain⟨h1,h2⟩:=List.mem_filter.mp h;obtain⟨j,hj,rfl⟩:=mem_map.mp h1;have:=mem_range.mp hj;exact⟨by lia,by lia,by simpa using h2⟩
theorem j17 (ls:List Int)(n:Nat):(kW ls n).length<=n:=by unfold kW;refine le_trans (length_filter_le _ _) ?_;rw[length_map,List.length_range];exact le_refl _
noncomputable abbrev q2 (ns:List Int):List (Str×V):=vy "total" (.int ns.sum) (vy "purses" (.int (ns.map V.int).length) [])
noncomputable abbrev q3 (ns:List Int)(ly:Addr):List (Str×V):=vy "lying" (.ref ly) (q2 ns)
noncomputable abbrev q4 (ns:List Int)(ly ch:Addr):List (Str×V):=vy "cheating" (.ref ch) (q3 ns ly)
noncomputable abbrev q5 (ns:List Int)(ly ch D:Addr):List (Str×V):=vy "keepers" (.ref D) (q4 ns ly ch)
noncomputable abbrev q6 (ns:List Int)(ly ch D b:Addr):List (Str×V):=vy "board" (.ref b) (q5 ns ly ch D)
noncomputable abbrev q7 (ns:List Int)(ly ch D b ak:Addr):List (Str×V):=vy "asked" (.ref ak) (q6 ns ly ch D b)
noncomputable def j1z (K:PySem.W.Frag)(t:Ad):Sp:=λvs H Q _=>∃Z id x dx h f sa ns la ca cs ls,vs=[.ref x,.int h,.int f,.ref sa,.ref la,.ref ca]/\H x=some (.ins t.j3 dx [])/\Z x=some (id,.x)/\aA Z H/\(1<=h/\h<=16)/\(0<=f/\f<=5)/\3*f<h/\H sa=some (.lst ((ns:List Int).map V.int))/\(∀r,Z sa=some r->¬allI id r)/\2<=ns.length/\ns.length<=8/\(∀i∈ns,0<=i/\i<=1000)/\pH K H Z id la ls/\ls.Pairwise (·<·)/\(∀k∈ls,0<=k/\k<h)/\(ls.length:Int)<=f/\pH K H Z id ca cs/\cs.Pairwise (·<·)/\(∀k∈cs,0<=k/\k<(ns.length:Int))/\∀af H' W,W.x=x->W.aO=ns.sum->zw t H' af id W (w0 h f ns cs ls)->(H' W.ly=some (.lst (ls.map V.int))/\af W.ly=none)->Fr (allI id) Z H af H'->aA af H'->Q .aj H'
set_option maxHeartbeats 0 in
theorem jmn (T:Txt K mg t) : zi P w K mg base CX0 6 t.gg t.Fo ["self","houses","few","sums","liars","cheats"] (j1z K t):=by
 refine T.XN.bY (N:=["self","houses","few","sums","liars","cheats"]) λ_ A _ s H vs Q E hr h=>?_
 obtain ⟨Z,id,x,dx,h,f,sa,ns,la,ca,cs,ls,rfl,hx,rx,kr,h1,f1,lt,hs,wF,l2,l8,rg,OD,upl,rgl,llf,OE,up,rgc,k⟩:=h
 have Ba:=OD.at_
 have hca:=OE.at_
 refine ⟨_,(@jc _ _ _ _ _ (qc (sR (jpc T) hr.dn rfl T.W8 T.MD.kp T.W9 jz (jb (pv 1) jg) (jX (pv 2) (jX (pv 4) qK))))
  (@jc _ _ _ _ _ (qc (sR (jpe T) hr.dn rfl T.Xa T.ME.kp T.Xb jz (jb (pv 3) jg) (jX (pv 5) qK)))
  (@jc _ _ _ _ _ (ko (pv 0) (jm qb rfl T.fh boot_len (jb (pv 3) jg)) rfl)
  (@jc _ _ _ _ _ (ko (pv 0) (jm (Kj rfl) rfl T.GF boot_sum (jb (pv 3) jg)) rfl)
  (@jc _ _ _ _ _ (ko (pv 0) (my kq rfl T.mR boot_list (jb (pv 4) jg)) rfl)
  (@jc _ _ _ _ _ (ko (pv 0) (my kq rfl T.mR boot_list (jb (pv 5) jg)) rfl)
  (@jc _ _ _ _ _ (ko (pv 0) (UB (.dK []) (.inl rfl) (lG hr) (N':=["house","sums","liars"]) (ix:=[none,some 3,some 4]) (wu (by kernel_rfl)) rfl (IZ rfl T.Nt (jb (pv 1) jg)) (λ_ _ _ _=>(qa (i:=0) WH rfl (Or.inl rfl) (.inr rfl))) (λ_ _ _ _=>(Di (jy (UT (K:=K) rfl) (pv 0) (pv 2) (by with_unfolding_all rfl)))) (λ_ _ _ _=>(pv 0)) (λ_ _ _ _=>(sQ T.Xs (jlz T) hr.dn rfl T.YT T.Xt .nil jz (jb (pv 1) jg)))) rfl)
  (@jc _ _ _ _ _ (ko (pv 0) (sQ T.MF (NO T) hr.dn rfl T.Na T.MG .nil jz (jb (sR (ju4 T) hr.dn rfl T.WY T.Mz.kp T.WZ jz (jb (pv 1) jg) (jX (pv 2) qK)) jg)) rfl)
  (@jc _ _ _ _ _ (ko (pv 0) (lM (N':=["each"]) (ix:=[none]) (wu (by kernel_rfl)) rfl (@gN _ _ _ _ (pv 3)) (λ_ _ _ _=>(qa (i:=0) WG rfl (Or.inl rfl) (.inr rfl))) (λ_ _ _ _=>oA) (λ_ _ _ _=>(@qk _ _ _ _ jg))) rfl)
  (@je _ _ _ (ko (pv 0) (@qk _ _ _ _ jg) rfl))))))))))),?_⟩
 refine bI λN hN=>⟨_,rfl,_,rfl,_,rfl,h,f,la,ls,rfl,h1,f1,lt,Ba,upl,rgl,llf,λH1 s1=>?_⟩
 refine hN _ _ (bI λN hN=>⟨_,rfl,_,rfl,sa,ns,ca,cs,rfl,s1 _ _ hs,l2,l8,rg,hca.same s1,up,rgc,λH2 s2=>?_⟩)
 have m2:dm t Z H id x dx [] Z H2:=dm.wD ⟨hx,rx,Fr.refl,kr⟩ (s1.trans s2)
 have wG : ∀ {af H' fs},dm t Z H id x dx fs af H' -> H' sa = some (.lst (ns.map V.int)):=λm=>(m.fr _ _ hs wF).1
 have OF : ∀ {af H' fs},dm t Z H id x dx fs af H' -> y6 K H' la ls:=λm=>OD.fr m.fr
 have ca_ : ∀ {af H' fs},dm t Z H id x dx fs af H' -> y6 K H' ca cs:=λm=>OE.fr m.fr
 refine hN _ _ (bI λN hN=>⟨_,rfl,sa,_,rfl,.inl (ai.of (wG m2)),_,rfl,x,_,dx,_,rfl,m2.ob,T.jt,T.ky,(by show 0 < 1000; decide),?_⟩)
 have m3:=m2.obj (fs':=vy "purses" (.int (ns.map V.int).length) [])
 dsimp only
 generalize upd H2 x (.ins t.j3 dx (vy "purses" (.int (ns.map V.int).length) [])) = G3 at m3
 refine hN _ _ (bI λN hN=>⟨_,rfl,sa,ns,rfl,ai.of (wG m3),_,rfl,x,_,dx,_,rfl,m3.ob,T.jt,T.Nc,(by show 1 < 1000; decide),?_⟩)
 have m4:=m3.obj (fs':=q2 ns)
 dsimp only
 generalize upd G3 x (.ins t.j3 dx (q2 ns)) = G4 at m4
 refine hN _ _ (bI λN hN=>⟨_,rfl,la,_,rfl,(OF m4).sq,λly Hg=>?_⟩)
 have m5:=m4.wD (jh (o:=.lst (ls.map V.int)) Hg)
 have l5:upd G4 ly (.lst (ls.map V.int)) ly = some (.lst (ls.map V.int)) /\ Z ly = none:=⟨ja,m4.kr.none Hg⟩
 refine ⟨_,rfl,x,_,dx,_,rfl,m5.ob,T.jt,T.Nd,(by show 2 < 1000; decide),?_⟩
 have m6:=m5.obj (fs':=q3 ns ly)
 have l6:=dj (m5.fo (fs':=q3 ns ly)) l5.1 l5.2
 dsimp only
 generalize upd (upd G4 ly (.lst (ls.map V.int))) x (.ins t.j3 dx (q3 ns ly)) = G6 at m6 l6
 refine hN _ _ (bI λN hN=>⟨_,rfl,ca,_,rfl,(ca_ m6).sq,λch jP=>?_⟩)
 have m7:=m6.wD (jh (o:=.lst (cs.map V.int)) jP)
 have c7:sh (upd G6 ch (.lst (cs.map V.int))) Z ch ly cs ls:=⟨⟨ja,m6.kr.none jP⟩,dj (P:=λ_=>False) (Fr.same (jh jP)) l6.1 l6.2⟩
 refine ⟨_,rfl,x,_,dx,_,rfl,m7.ob,T.jt,T.Nf,(by show 3 < 1000; decide),?_⟩
 have m8:=m7.obj (fs':=q4 ns ly ch)
 have c8:=c7.fr (m7.fo (fs':=q4 ns ly ch))
 dsimp only
 generalize upd (upd G6 ch (.lst (cs.map V.int))) x (.ins t.j3 dx (q4 ns ly ch)) = G8 at m8 c8
 clear m2 m3 m4 m5 m6 m7 c7 Hg jP l5 l6
 refine hN _ _ (bI λN hN=>⟨_,rfl,h,rfl,(by omega),(by omega),λD nD=>?_⟩)
 have m9:=m8.new (r:=(id,.kd)) nD (u:=.dK [])
 have c9:sh (upd G8 D (.dK [])) (aH Z D (id,.kd)) ch ly cs ls:=c8.fr (P:=λ_=>False) (Fr.cD nD)
 refine VN (lo:=0) (n:=h.toNat) (λi U H'=>∃ v aa af,U = [v,some (.ref sa),some (.ref la)] /\ dm t Z H id x dx (q4 ns ly ch) af H' /\ sh H' af ch ly cs ls /\ af D = some (id,.kd) /\ H' D = some (.dK aa) /\ xy t H' af id aa ((kW ls i).map λi=>(i,pG ns))) ⟨none,[],_,rfl,m9,c9,qr,ja,.nil⟩ ?_ ?_
 .rintro i U H' hi ⟨v,aa,af,rfl,m,hc,rD,hD,ks⟩
  have e0:(0:Int) + (i:Int) = i:=Int.zero_add _
  rw [e0]
  refine ⟨_,rfl,_,rfl,la,_,rfl,(OF m).sq,rfl,vP _,_,rfl,cz (λzz=>?_) (λzz=>?_)⟩
  rotate_left
  .have nl:(i:Int) ∈ ls:=by
    rw [if_pos rfl,kM] at zz
    simpa using zz
   refine ⟨_,aa,af,rfl,m,hc,rD,hD,?_⟩
   rw [OA,if_pos nl,append_nil]
   exact ks
  have nl : ¬ (i:Int) ∈ ls:=by
   rw [if_pos rfl,kM] at zz
   simpa using zz
  refine ⟨_,rfl,_,rfl,λk dk nk ndk ne=>?_⟩
  have sk:qg H' (upd H' dk (.own k)):=jh ndk
  have nk1:upd H' dk (.own k) k = none:=by rw [jd ne.symm]; exact nk
  have f1:Fr (λ_=>False) af H' (aH af k (id,.kp i 0)) (upd (upd H' dk (.own k)) k (.ins t.jw dk [])):=(Fr.same sk).trans (Fr.cD nk1)
  have cb:aA (aH af k (id,.kp i 0)) (upd (upd H' dk (.own k)) k (.ins t.jw dk [])):=(m.kr.same sk).cD
  have m1:=m.step f1 (λz=>z) (λ_ z=>z.elim) cb
  refine ⟨_,id,(i:Int),k,dk,sa,ns,rfl,ja,qr,cb,wG m1,by omega,λ Z2 Bb A2 R2 f2 bO=>⟨rfl,?_⟩⟩
  have dY:Fr (bC id i) af H' Z2 Bb:=(f1.mono λ_ z=>z.elim).trans f2
  have Hh : ∀ {p:Part},(∀ j,p ≠ .kp (i:Int) j) -> ¬ bC id (i:Int) (id,p):=λhp ⟨j,e⟩=>hp j (Prod.mk.inj e).2
  have mm:=m.step dY (Hh λ_ z=>by cases z) (λr ⟨j,e⟩=>by rw [e]) bO
  have mz:=hc.fr dY
  obtain ⟨hD2,OH⟩:=cj dY hD rD (Hh λ_ z=>by cases z)
  have Hi:xy t Bb Z2 id aa ((kW ls i).map λi=>(i,pG ns)):=xy.oE dY (λc hc j=>by
   obtain ⟨i',Hj,rfl⟩:=mem_map.mp hc
   have:=OB Hj
   refine Hh λj' z=>?_
   have:i' = (i:Int):=(Part.kp.inj z).1
   omega) ks
  have nv:br aa (.inl (i:Int)) = none:=by
   cases e:br aa (.inl (i:Int)) with
   | none=>rfl
   | some v=>
    exfalso
    have hm:=SI e
    obtain ⟨j,hj,ej⟩:=mem_iff_getElem.mp hm
    rw [length_map] at hj
    obtain ⟨c,ec,e1,_⟩:=qx Hi (getElem?_eq_getElem hj)
    rw [List.getElem_map] at ej
    rw [e1] at ej
    obtain ⟨i',Hj,rfl⟩:=mem_map.mp (mem_of_getElem? ec)
    have:=OB Hj
    have:i' = (i:Int):=Sum.inl.inj ej
    omega
  have lk:aa.length <= 1000:=by
   rw [Paired.length Hi,length_map]
   have:=j17 ls i
   omega
  refine ⟨_,iw.k (k:=.inl (i:Int)) hD2 (xg lk),?_⟩
  rw [zF _ nv]
  have f3:Fr (lX id .kd) Z2 Bb Z2 (upd Bb D (.dK (aa ++ [(.inl (i:Int),.ref k)]))):=Fr.put OH rfl
  refine ⟨_,_,Z2,rfl,mm.step f3 j8 (λr e=>by rw [e]) bO.put,mz.fr f3,OH,ja,?_⟩
  rw [OA,if_neg nl,map_append]
  exact zx (xy.fr f3 (λ_ _=>j8) Hi) ⟨rfl,k,A2,dk,rfl,R2.fr (λ_=>j8) f3⟩
 .rintro U OI ⟨v,aa,Z1,rfl,Bc,c10,rD,hD,ks⟩
  clear m8 c8 m9 c9 nD
  refine ⟨_,rfl,x,_,dx,_,rfl,Bc.ob,T.jt,T.qv,(by show 4 < 1000; decide),?_⟩
  have Bd:=Bc.obj (fs':=q5 ns ly ch D)
  have pI:=Bc.fo (fs':=q5 ns ly ch D)
  have c11:=c10.fr pI
  have k11:=iI pI j8 (λ_ _=>j8) rD ⟨aa,hD,ks⟩
  dsimp only
  generalize upd OI x (.ins t.j3 dx (q5 ns ly ch D)) = pJ at Bd c11 k11
  clear pI Bc c10
  refine hN _ _ (bI λN hN=>⟨_,rfl,_,rfl,h,f,rfl,λb db nb ndb neb=>?_⟩)
  have sb:qg pJ (upd pJ db (.own b)):=jh ndb
  have nb1:upd pJ db (.own b) b = none:=by rw [jd neb.symm]; exact nb
  refine ⟨b,db,h - f,rfl,ja,λS si nS Bq fr=>⟨rfl,?_⟩⟩
  have nS0:pJ S = none:=by
   have nSb:S ≠ b:=λz=>by rw [z,ja] at nS; cases nS
   rw [jd nSb] at nS
   exact sb.free nS
  have bD:qg pJ si:=λc u e=>fr _ _ (by rw [jd (ji (sb _ _ e) nb1)]; exact sb _ _ e) (ji e nb)
  have bS:b ≠ S:=ie Bq.ob Bq.sg (by intro z; cases z)
  have dY:Fr (λ_=>False) Z1 pJ (aH (aH Z1 b (id,.bd)) S (id,.sd)) si:=λa u e _=>⟨bD _ _ e,by rw [qy (ji e nS0),qy (ji e nb)]⟩
  have pK:aA (aH (aH Z1 b (id,.bd)) S (id,.sd)) si:=λa r e=>by
   by_cases z:a = S
   .subst z
    exact ⟨_,Bq.sg,True.intro⟩
   .rw [qy z] at e
    by_cases y:a = b
    .subst y
     exact ⟨_,Bq.ob,True.intro⟩
    .rw [qy y] at e
     obtain ⟨u,hu,nu⟩:=Bd.kr a r e
     exact ⟨u,bD _ _ hu,nu⟩
  have wH:=Bd.step dY (λz=>z) (λ_ z=>z.elim) pK
  have c12:=c11.fr dY
  have k12:=iI dY (λz=>z) (λ_ _ z=>z) k11.1 k11.2
  have mW:(aH (aH Z1 b (id,.bd)) S (id,.sd)) b = some (id,.bd) /\ (aH (aH Z1 b (id,.bd)) S (id,.sd)) S = some (id,.sd) /\ ∃ aa,vh t si b db S (h - f) aa (dX []) /\ lW (aH (aH Z1 b (id,.bd)) S (id,.sd)) id aa:=⟨by rw [qy bS,qr],qr,[],Bq,λ_ z=>by cases z⟩
  generalize aH (aH Z1 b (id,.bd)) S (id,.sd) = Z2 at wH c12 k12 mW pK dY
  clear Bd c11 k11 dY pK
  refine ⟨_,rfl,x,_,dx,_,rfl,wH.ob,T.jt,T.gb,(by show 5 < 1000; decide),?_⟩
  have Hk:=wH.obj (fs':=q6 ns ly ch D b)
  have fo:=wH.fo (fs':=q6 ns ly ch D b)
  have c13:=c12.fr fo
  have k13:=iI fo j8 (λ_ _=>j8) k12.1 k12.2
  have Be:=kS fo j8 j8 j8 mW.1 mW.2.1 mW.2.2
  dsimp only
  generalize upd si x (.ins t.j3 dx (q6 ns ly ch D b)) = OJ at Hk c13 k13 Be
  clear wH c12 k12 mW fo
  have Bf:=wG Hk
  refine hN _ _ (bI λN hN=>⟨_,rfl,sa,rfl,⟨_,ai.of Bf⟩,tH (K:=K) (a:=sa) (xs:=ns.map V.int) (λi ys U H'=>∃ v rr af,U = [v] /\ ys = rr.map V.ref /\ rr.length = i /\ dm t Z H id x dx (q6 ns ly ch D b) af H' /\ Fr (λ_=>False) Z2 OJ af H' /\ ∀ (j:Nat) r,rr[j]? = some r -> af r = some (id,.row j) /\ H' r = some (.lst [])) ⟨none,[],Z2,rfl,rfl,rfl,Hk,Fr.refl,λj r e=>by cases e⟩ ?_ ?_ ?_⟩)
  .rintro i ys U H' hi ⟨v,rr,af,rfl,rfl,lr,mm,ff,Bg⟩
   rw [length_map] at hi
   refine ⟨ai.of (wG mm),kK ?_⟩
   rw [length_map]
   omega
  .rintro i y ys U H' hy ⟨v,rr,af,rfl,rfl,lr,mm,ff,Bg⟩
   dsimp only [jS,mH]
   rw [if_pos rfl]
   refine ⟨dF,λp np=>⟨_,rr ++ [p],aH af p (id,.row i),rfl,?_,?_,mm.new np,ff.trans (Fr.cD np),λj r e=>?_⟩⟩
   .rw [map_append]; rfl
   .rw [length_append,lr]; rfl
   .by_cases z:j < rr.length
    .rw [List.getElem?_append_left z] at e
     obtain ⟨q1,q2⟩:=Bg j r e
     have:r ≠ p:=ji q2 np
     exact ⟨by rw [qy this]; exact q1,by rw [jd this]; exact q2⟩
    .rw [List.getElem?_append_right (by omega)] at e
     have j0:j = rr.length:=by
      have:=(List.getElem?_eq_some_iff.mp e).1
      simp at this
      omega
     subst j0
     rw [Nat.sub_self] at e
     cases e
     rw [lr]
     exact ⟨qr,ja⟩
  .rintro ys U H' ⟨v,rr,Z3,rfl,rfl,lr,m14,pL,Bg⟩ ak OK
   rw [length_map] at lr
   have c14:=c13.fr pL
   have k14:=iI pL (λz=>z) (λ_ _ z=>z) k13.1 k13.2
   have Hl:=kS pL (λz=>z) (λz=>z) (λz=>z) Be.1 Be.2.1 Be.2.2
   have fU:Fr (λ_=>False) Z3 H' (aH Z3 ak (id,.ak)) (upd H' ak (.lst (rr.map V.ref))):=Fr.cD OK
   have Bh:=m14.new (r:=(id,.ak)) OK (u:=.lst (rr.map V.ref))
   have c15:=c14.fr fU
   have k15:=iI fU (λz=>z) (λ_ _ z=>z) k14.1 k14.2
   have Bi:=kS fU (λz=>z) (λz=>z) (λz=>z) Hl.1 Hl.2.1 Hl.2.2
   have a15:(aH Z3 ak (id,.ak)) ak = some (id,.ak) /\ ∃ rs,upd H' ak (.lst (rr.map V.ref)) ak = some (.lst (rs.map V.ref)) /\ lV (upd H' ak (.lst (rr.map V.ref))) (aH Z3 ak (id,.ak)) id rs (List.replicate ns.length []):=by
    refine ⟨qr,rr,ja,by rw [lr,length_replicate],λi r os e1 e2=>?_⟩
    obtain ⟨q1,q2⟩:=Bg i r e1
    obtain ⟨q3,q4⟩:=cj fU q2 q1 (λz=>z)
    have:os = []:=List.eq_of_mem_replicate (mem_of_getElem? e2)
    subst this
    exact ⟨q4,[],q3,.nil⟩
   generalize aH Z3 ak (id,.ak) = Z4 at fU Bh c15 k15 Bi a15
   refine ⟨_,rfl,x,_,dx,_,rfl,Bh.ob,T.jt,T.Ng,(by show 6 < 1000; decide),?_⟩
   have OL:=Bh.obj (fs':=q7 ns ly ch D b ak)
   have fo:=Bh.fo (fs':=q7 ns ly ch D b ak)
   have c16:=c15.fr fo
   have k16:=iI fo j8 (λ_ _=>j8) k15.1 k15.2
   have Bj:=kS fo j8 j8 j8 Bi.1 Bi.2.1 Bi.2.2
   have a16:=pC fo j8 (λ_=>j8) a15.1 a15.2
   dsimp only
   generalize upd (upd H' ak (.lst (rr.map V.ref))) x (.ins t.j3 dx (q7 ns ly ch D b ak)) = sj at OL c16 k16 Bj a16
   refine hN _ _ ⟨dF,λwy OM=>?_⟩
   have hV:Fr (λ_=>False) Z4 sj (aH Z4 wy (id,.wy)) (upd sj wy (.lst [])):=Fr.cD OM
   have Hm:=OL.new (r:=(id,.wy)) OM (u:=.lst [])
   have c17:=c16.fr hV
   have k17:=iI hV (λz=>z) (λ_ _ z=>z) k16.1 k16.2
   have Hn:=kS hV (λz=>z) (λz=>z) (λz=>z) Bj.1 Bj.2.1 Bj.2.2
   have a17:=pC hV (λz=>z) (λ_ z=>z) a16.1 a16.2
   refine ⟨_,rfl,x,_,dx,_,rfl,Hm.ob,T.jt,T.yh,(by show 7 < 1000; decide),?_⟩
   have Bk:=Hm.obj (fs':=cQ (ns.map V.int).length ns.sum ly ch D b ak wy)
   have jK:=Hm.fo (fs':=cQ (ns.map V.int).length ns.sum ly ch D b ak wy)
   have c18:=c17.fr jK
   have k18:=iI jK j8 (λ_ _=>j8) k17.1 k17.2
   have b18:=kS jK j8 j8 j8 Hn.1 Hn.2.1 Hn.2.2
   have a18:=pC jK j8 (λ_=>j8) a17.1 a17.2
   have y18:=Hb (way:=[]) jK j8 qr ⟨[],ja,.nil⟩
   refine k _ _ ⟨x,dx,ns.sum,ly,ch,D,b,ak,wy,db,S⟩ rfl rfl ⟨⟨?_,Bk.rx⟩,c18.c,k18,b18,a18,y18⟩ c18.l Bk.fr Bk.kr
   refine (Bk.ob).trans ?_
   show some (HO.ins t.j3 dx (cQ ((ns.map V.int).length:Int) ns.sum ly ch D b ak wy)) = some (HO.ins t.j3 dx (cQ (ns.length:Int) ns.sum ly ch D b ak wy))
   rw [length_map]
theorem j6x {K:PySem.W.Frag}{a:Addr}{xs:List V}{g:TG}{ti:TT}{te:TE}{U0:St}{H0:Hp}{Q:VK}(Pv:Nat->List V->St->Hp->Prop)(h0:Pv 0 [] U0 H0)(hl:∀i ys U H,i<=xs.length->Pv i ys U H->ax K H a xs/\ys.length<=sizeLine)(hs:∀i x ys U H,xs[i]?=some x->Pv i ys U H->g x U H λ U2 H2=>ti U2 H2 λb H3=>if b=true then te U2 H3 λy H4=>Pv (i+1) (ys++[y]) U2 H4 else Pv (i+1) ys U2 H3)(hd:∀ys U H,Pv xs.length ys U H->∀p,H p=none->Q (.ref p) (upd H p (.lst ys))):∃W:Nat->Nat->List V->St->Hp->Prop,(∃m,W 0 m [] U0 H0)/\∀i m ys U H,W i m ys U H->ys.length<=sizeLine/\(((mv K a).stop i H/\oB Q ys H)\/((mv K a).go i H/\∃N:List V->St->Hp->Prop,(∀bH U' H',N bH U' H'->∃m',m'<m/\W (i+1) m' bH U' H')/\∀x H',(mv K a).dz i H x H'->g x U H' λ U2 H2=>ti U2 H2 λb H3=>if b=true then te U2 H3 λy H4=>N (ys++[y]) U2 H4 else N ys U2 H3)):=by
 refine⟨λi m ys U H=>m=xs.length-i/\i<=xs.length/\Pv i ys U H,⟨xs.length,by simp,zero_le _,h0⟩,?_⟩
 rintro i m ys U H ⟨rfl,hi,p⟩
 obtain⟨q,hz⟩:=hl i ys U H hi p;refine⟨hz,?_⟩;by_cases aD:i<xs.length
 .refine .inr ⟨⟨xs,xs[i],q,by simp[aD]⟩,Pv (i+1),λbH U' H' p'=>⟨xs.length-(i+1),by lia,rfl,aD,p'⟩,λx H' y=>?_⟩;obtain⟨e,y⟩:=y;subst e;exact hs i x ys U _ (y xs q) p
 .have e:i=xs.length:=by lia
  subst e;exact .inl ⟨⟨xs,q,le_refl _⟩,hd ys U H p⟩
theorem jx4 {t:Ad}{H:Hp}{Z:av}{id:Nat}{h:Int}{aa:List (Key×V)}{ks:List (Int×Kp)}(p:xy t H Z id aa ks)(e:(ks.find? λc=>decide (c.1=h)).map (·.2)=none):br aa (.inl h)=none:=by
 induction p with
 |nil=>rfl
 |@cons kv c aa ks a r ih=>
  obtain⟨e1,_⟩:=a;by_cases z:c.1=h
  .rw[find?_cons,decide_eq_true z]at e;cases e
  .rw[find?_cons,decide_eq_false z]at e;rw[jZ (λy=>z (Sum.inl.inj (e1.symm.trans y)))];exact ih e
noncomputable def mX (Y:Wd)(v:V):Prop:=∀i,v= .int i->Y.keep i=none
theorem ON (T:Txt K mg t):zi P w K mg base (bz P w) 3 t.Fs t.Ft ["self","house"] (λvs H Q E=>∃Z id W Y v,vs=[.ref W.x,v]/\zw t H Z id W Y/\simple v=true/\((mX Y v/\bZ t E H (.eD v))\/∃h B,v= .int h/\Y.keep h=some B/\∀k A dk,xf t H Z id h k A dk B->Q (.ref k) H)):=by
 refine T.XT.fO (N:=["self","house"]) λ_ A _ s H vs Q E hr h=>?_;obtain⟨Z,id,W,Y,v,rfl,O,sv,hc⟩:=h;refine⟨_,(@jc _ _ _ _ _ (zo (PW.pt (cY (x8 (zk (jn (GK T) hr.dn rfl T.AM T.rJ.kp T.AN .nil jz (jb (pv 1) jg)))) (eJ (yJ (Dc (lG hr) (pv 1) (j4 (pv 0) rfl)))))) (@je _ _ _ (Eb rfl T.AU T.AQ (NR T) hr.dn T.ud (jb (pv 1) jg))) jv) (@je _ _ _ (jr (J7 (lG hr) (j4 (pv 0) rfl) (pv 1) (λ_ _=>rfl))))),?_⟩;obtain⟨rk,aa,hk,ks⟩:=O.kd;refine⟨_,rfl,v,rfl,.inl sv,_,rfl,?_⟩;rcases hc with⟨nh,g⟩|⟨h,B,rfl,e,q⟩
 .cases hv:vR v with
  |false=>exact yz (yz ⟨_,rfl,iG,AZ g⟩)
  |true=>
   cases v with
   |int i=>refine qq ?_;refine⟨_,rfl,_,rfl,W.x,_,W.dx,_,_,rfl,O.ob.1,T.jt,T.qv,rX,W.kd,none,rfl,.inl ⟨aa,.inl i,.inl hk,rfl,(jx4 ks (nh i rfl)).symm⟩,_,rfl,?_⟩;exact yz ⟨_,rfl,iG,AZ g⟩
   |_=>cases hv
 .obtain⟨k,A',dk,ev,R⟩:=Og ks e;refine qq ?_;refine⟨_,rfl,_,rfl,W.x,_,W.dx,_,_,rfl,O.ob.1,T.jt,T.qv,rX,W.kd,some (.ref k),rfl,.inl ⟨aa,.inl h,.inl hk,rfl,ev.symm⟩,_,rfl,qq ?_⟩;exact⟨_,rfl,W.x,_,W.dx,_,_,rfl,O.ob.1,T.jt,T.qv,rX,_,rfl,W.kd,.ref k,rfl,.inl ⟨aa,.inl h,.inl hk,rfl,ev.symm⟩,q k A' dk R⟩
theorem jsd (T:Txt K mg t):zi P w K mg base (bz P w) 4 t.Fu t.Fv ["self","house"] (λvs H Q _=>∃Z id W Y h B,vs=[.ref W.x,.int h]/\zw t H Z id W Y/\Y.keep h=some B/\∀r,H r=none->Q (.ref r) (upd H r (.lst (B.held.map V.int)))):=by refine T.XU.fO (N:=["self","house"]) λ_ A _ s H vs Q E hr h=>?_;obtain⟨Z,id,W,Y,h,B,rfl,O,e,g⟩:=h;refine⟨_,(@je _ _ _ (jr (my kq rfl T.mR boot_list (jb (j4 (j6 (pv 0) T.jt T.MK (ON T) hr.dn T.ML .nil cB (jb (pv 1) jg)) rfl) jg)))),?_⟩;exact⟨_,rfl,W.x,W.dx,_,rfl,O.ob.1,gG,_,rfl,Z,id,W,Y,.int h,rfl,O,rfl,.inr ⟨h,B,rfl,e,λk A' dk R=>⟨k,_,dk,_,_,rfl,R.ob,T.jl,T.zv,(xi A').1,A' 1,_,rfl,.inl (ai.of R.he),g⟩⟩⟩
theorem jkq (T:Txt K mg t):zi P w K mg base (bz P w) 3 t.uv t.pz ["self","liar"] (λvs H Q E=>∃Z id W Y v ls,vs=[.ref W.x,v]/\zw t H Z id W Y/\H W.ly=some (.lst ((ls:List Int).map V.int))/\simple v=true/\(((∀i,v= .int i->i∉ls)/\bZ t E H (.eD v))\/∃i,v= .int i/\i∈ls/\Q .aj H)):=by
 refine T.X2.fO (N:=["self","liar"]) λ_ A _ s H vs Q E hr h=>?_;obtain⟨Z,id,W,Y,v,ls,rfl,O,hl,sv,hc⟩:=h;refine⟨_,(@je _ _ _ (zo (PW.pt (cY (x8 (zk (jn (GK T) hr.dn rfl T.AM T.rJ.kp T.AN .nil jz (jb (pv 1) jg)))) (eJ (jy JS (pv 1) (j4 (pv 0) rfl) (by with_unfolding_all rfl))))) (@je _ _ _ (Eb rfl T.AU T.AQ (NR T) hr.dn T.ud (jb (pv 1) jg))) jv)),?_⟩;refine⟨_,rfl,v,rfl,.inl sv,_,rfl,?_⟩;cases hv:vR v with
 |false=>
  refine yz (yz ⟨_,rfl,iG,AZ ?_⟩);rcases hc with⟨_,g⟩|⟨i,rfl,_⟩
  .exact g
  .cases hv
 | true=>
  cases v with
  |int i=>
   refine qq ?_;refine⟨_,rfl,_,rfl,W.x,_,W.dx,_,_,rfl,O.ob.1,T.jt,T.Nd,j0i,W.ly,_,rfl,.inl (ai.of hl),rfl,vP _,_,rfl,?_⟩;rw[kM];rcases hc with⟨z,g⟩|⟨j,e,z,q⟩
   .rw[decide_eq_false (z i rfl)];exact yz ⟨_,rfl,iG,AZ g⟩
   .cases e;rw[decide_eq_true z];exact qq q
  |_=>cases hv
noncomputable def cI (H:Hp)(k:Cut)(b:Addr):Prop:=∃c d,H b=some (.tup [.ref c,.ref d])/\H c=some (.tup (k.1.map V.int))/\H d=some (.tup (k.2.map V.int))
theorem cI.pair {H:Hp}{k:Cut}{b:Addr}(h:cI H k b):gZ H (k2 k) b:=by obtain⟨c,d,h1,h2,h3⟩:=h;exact⟨c,d,h1,by rw[<-AW]at h2;exact h2,by rw[<-AW]at h3;exact h3⟩
theorem j6p {H:Hp}{k:Cut}{b:Addr}(h:gZ H (k2 k) b):cI H k b:=by obtain⟨c,d,h1,h2,h3⟩:=h;exact⟨c,d,h1,by rw[<-AW];exact h2,by rw[<-AW];exact h3⟩
theorem cI.same {H H':Hp}{k:Cut}{b:Addr}(s:qg H H')(h:cI H k b):cI H' k b:=let⟨c,d,h1,h2,h3⟩:=h;⟨c,d,s _ _ h1,s _ _ h2,s _ _ h3⟩
theorem jn8 (T:Txt K mg t):zi P w K mg base CX0 1 t.Fe t.Ff ["self"] (λvs H Q _=>∃Z id h k A dk B,vs=[.ref k]/\xf t H Z id h k A dk B/\∀H' p,qg H H'->H p=none->cI H' (B.xk,B.held) p->Q (.ref p) H'):=by
 refine T.Xu.bY (N:=["self"]) λ_ A _ s H vs Q E hr h=>?_;obtain⟨Z,id,h,k,A',dk,B,rfl,R,q⟩:=h;refine⟨_,(@je _ _ _ (jr (@qp _ _ _ _ _ (@xj _ _ _ _ _ (my JT rfl T.rM boot_tuple (jb (j4 (pv 0) rfl) jg)) (my JT rfl T.rM boot_tuple (jb (j4 (pv 0) rfl) jg)) rfl rfl)))),?_⟩;refine⟨_,rfl,k,_,dk,_,_,rfl,R.ob,T.jl,T.qj,(xi A').2.1,A' 2,_,rfl,.inl ⟨ai.of R.nn,λl1 h1=>?_⟩⟩;have s1:=jh (o:=.tup (B.xk.map V.int)) h1;refine⟨_,rfl,k,_,dk,_,_,rfl,s1 _ _ R.ob,T.jl,T.zv,(xi A').1,A' 1,_,rfl,.inl ⟨ai.of (s1 _ _ R.he),λl2 h2=>?_⟩⟩;have s2:=jh (o:=.tup (B.held.map V.int)) h2;refine⟨by show 2<=sizeLine;decide,λp hp=>?_⟩;have s3:=jh (o:=.tup [.ref l1,.ref l2]) hp;refine q _ p (s1.trans (s2.trans s3)) ?_ ⟨l1,l2,ja,?_,?_⟩
 .cases e:H p with
  |none=>rfl
  |some u=>exact absurd (s2 _ _ (s1 _ _ e)) (by rw[hp];intro z;cases z)
 .exact s3 _ _ (s2 _ _ ja)
 .exact s3 _ _ ja
noncomputable def iK (t:Ad)(H:Hp)(x:V):Prop:=x= .aj\/(∃i,x= .int i)\/(∃s,x= .str s)\/(∃a xs,x= .ref a/\H a=some (.lst xs))\/∃a dx fs,x= .ref a/\H a=some (.ins t.j5 dx fs)
theorem iK.same {t:Ad}{H H':Hp}{x:V}(s:qg H H')(h:iK t H x):iK t H' x:=by
 rcases h with h|h|h|⟨a,xs,e,h⟩|⟨a,dx,fs,e,h⟩
 .exact .inl h
 .exact .inr (.inl h)
 .exact .inr (.inr (.inl h))
 .exact .inr (.inr (.inr (.inl ⟨a,xs,e,s _ _ h⟩)))
 .exact .inr (.inr (.inr (.inr ⟨a,dx,fs,e,s _ _ h⟩)))
theorem yx (T:Txt K mg t):zi P w K mg base (bz P w) 1 t.E3 t.E4 ["thing"] (λvs H Q E=>∃x,vs=[x]/\((iK t H x/\bZ t E H .pap)\/∃a dx fs,x= .ref a/\H a=some (.ins t.j3 dx fs)/\Q .aj H)):=by
 refine T.xo.fO (N:=["thing"]) λ_ A _ s H vs Q E hr h=>?_;obtain⟨x,rfl,hc⟩:=h;refine⟨_,(@je _ _ _ (zo (x8 (zk (jm Ws rfl T.jq boot_isinstance (@xj _ _ _ _ _ (pv 0) (zd (v:=.ref t.j3) rfl T.Nb rfl) rfl rfl)))) (@je _ _ _ (rA rfl T.Nl T.Y9 (jb xh jg))) jv)),?_⟩;rcases hc with⟨n,g⟩|⟨a,dx,fs,rfl,e,q⟩
 .rcases n with rfl|⟨i,rfl⟩|⟨s',rfl⟩|⟨a,xs,rfl,e⟩|⟨a,dx,fs,rfl,e⟩
  .exact⟨_,rfl,_,_,_,false,rfl,.aj,T.vN.get 0 rfl,_,rfl,yz ⟨iG,g _ (qg.refl _)⟩⟩
  .exact⟨_,rfl,_,_,_,false,rfl,.int _,T.vN.get 1 rfl,_,rfl,yz ⟨iG,g _ (qg.refl _)⟩⟩
  .exact⟨_,rfl,_,_,_,false,rfl,.str _,T.vN.get 3 rfl,_,rfl,yz ⟨iG,g _ (qg.refl _)⟩⟩
  .exact⟨_,rfl,_,_,_,false,rfl,.lst e,T.vN.get 2 rfl,_,rfl,yz ⟨iG,g _ (qg.refl _)⟩⟩
  .exact⟨_,rfl,_,_,_,false,rfl,.ins e T.jx T.AS.ha T.AS.hn T.AS.tk T.AS.hm,T.vN.get 4 rfl,_,rfl,yz ⟨iG,g _ (qg.refl _)⟩⟩
 .exact⟨_,rfl,_,_,_,true,rfl,.ins e T.jt T.vM.ha T.vM.hn T.vM.tk T.vM.hm,T.vM.ki,_,rfl,qq q⟩
noncomputable def iL (q:Int)(xs:List V):Bool:=decide ((xs.length:Int)=q)&&xs.all λz=>lT z 0 100000
noncomputable def so (H:Hp)(q:Int)(x:V)(b:Bool):Prop:=(simple x=true/\b=false)\/(∃a xs,x= .ref a/\H a=some (.lst xs)/\b=false)\/∃a xs,x= .ref a/\H a=some (.tup xs)/\xs.length<=1000/\(∀y∈xs,simple y=true)/\b=iL q xs
theorem so.same {H H':Hp}{q:Int}{x:V}{b:Bool}(s:qg H H')(h:so H q x b):so H' q x b:=by
 rcases h with h|⟨a,xs,e,h,z⟩|⟨a,xs,e,h,z⟩
 .exact .inl h
 .exact .inr (.inl ⟨a,xs,e,s _ _ h,z⟩)
 .exact .inr (.inr ⟨a,xs,e,s _ _ h,z⟩)
theorem OO (T:Txt K mg t):zi P w K mg base CX0 3 t.FF t.FG ["thing","many"] (λvs H Q _=>∃x q b,vs=[x,.int q]/\so H q x b/\∀H',qg H H'->Q (.bl b) H'):=by
 refine T.ug.bY (N:=["thing","many"]) λ_ A _ s H vs Q E hr h=>?_;obtain⟨x,q,b,rfl,hx,k⟩:=h;refine⟨_,(@jc _ _ _ _ _ (zo (PW.pt (cY (x8 (zk (jm vg rfl T.jq boot_isinstance (@xj _ _ _ _ _ (pv 0) (iS (v:=.ty "tuple") rfl T.rM boot_tuple rfl) rfl rfl)))) (eJ (jy sP (jm qb rfl T.fh boot_len (jb (pv 0) jg)) (pv 1) (j7 _))))) (@je _ _ _ (jr cL)) jv) (@je _ _ _ (jr (jm (Dm rfl) rfl T.GG boot_all (jb (lM (N':=["each"]) (ix:=[none]) (wu (by kernel_rfl)) rfl (@IY _ _ _ _ (pv 0)) (λ_ _ _ _=>(qa (i:=0) WI rfl (Or.inl rfl) (.inr rfl))) (λ_ _ _ _=>oA) (λ_ _ _ _=>(jn (ZM T) hr.dn rfl T.qo T.qd.kp T.qm .nil jz (@dG _ _ _ _ _ _ _ (pv 0) jf (zd (v:=.int 100000) rfl T.YS.choose_spec ⟨_,rfl⟩) rfl rfl rfl)))) jg))))),?_⟩;rcases hx with⟨z,rfl⟩|⟨a,xs,rfl,e,rfl⟩|⟨a,xs,rfl,e,lx,hs,rfl⟩
 .cases x with
  |aj=>exact⟨_,rfl,_,_,_,false,rfl,.aj,rfl,_,rfl,yz (yz (k _ (qg.refl _)))⟩
  |bl b=>exact⟨_,rfl,_,_,_,false,rfl,.bl _,rfl,_,rfl,yz (yz (k _ (qg.refl _)))⟩
  |int i=>exact⟨_,rfl,_,_,_,false,rfl,.int _,rfl,_,rfl,yz (yz (k _ (qg.refl _)))⟩
  |str i=>exact⟨_,rfl,_,_,_,false,rfl,.str _,rfl,_,rfl,yz (yz (k _ (qg.refl _)))⟩
  |_=>cases z
 .exact⟨_,rfl,_,_,_,false,rfl,.lst e,rfl,_,rfl,yz (yz (k _ (qg.refl _)))⟩
 .refine⟨_,rfl,_,_,_,true,rfl,.tup e,rfl,_,rfl,qq ?_⟩;refine⟨_,rfl,a,_,rfl,.inr (ax.of e),_,rfl,rfl,_,rfl,cz (λz=>?_) (λz=>?_)⟩
  .have k1:=k _ (qg.refl _);rw[show iL q xs=false by
    unfold iL;rw[decide_eq_false (λy:(xs.length:Int)=q=>by rw[y]at z;simp at z)];rfl]at k1;exact k1
  have hl:(xs.length:Int)=q:=by
   by_cases y:(xs.length:Int)=q
   .exact y
   .exact absurd (by simp[y]) z
  refine⟨_,rfl,a,rfl,⟨_,ax.of e⟩,j6x (K:=K) (a:=a) (xs:=xs) (λi ys U' H'=>∃v,U'=[v]/\H'=H/\ys=((xs.take i).map λz=>lT z 0 100000).map V.bl) ⟨none,rfl,rfl,rfl⟩ ?_ ?_ ?_⟩
  .rintro i ys U' H' hi ⟨v,rfl,rfl,rfl⟩
   refine⟨ax.of e,kK ?_⟩;rw[length_map,length_map,length_take];omega
  .rintro i x ys U' H' hx ⟨v,rfl,rfl,rfl⟩
   dsimp only[jS,mH];rw[if_pos rfl];refine⟨_,rfl,x,0,100000,rfl,.inl (hs x (mem_of_getElem? hx)),?_⟩;refine⟨_,rfl,rfl,?_⟩;rw[List.take_succ,hx];simp
  .rintro ys U' H' ⟨v,rfl,rfl,rfl⟩ p hp
   refine⟨p,(xs.take xs.length).map λz=>lT z 0 100000,rfl,ai.of ja,?_⟩;have g:=k _ (jh (o:=.lst (((xs.take xs.length).map λz=>lT z 0 100000).map V.bl)) hp);rw[show((xs.take xs.length).map λz=>lT z 0 100000).all id=iL q xs by unfold iL;rw[decide_eq_true hl,take_length,List.all_map];rfl];exact g
theorem jzv {q:Int}{xs:List V}(h:iL q xs=true):∃ns:List Int,xs=ns.map V.int/\(ns.length:Int)=q:=by
 unfold iL at h;obtain⟨h1,h2⟩:=(Bool.and_eq_true_iff.mp h);have:∀{xs:List V},(xs.all λz=>lT z 0 100000)=true->∃ns:List Int,xs=ns.map V.int:=by
  intro xs;induction xs with
  |nil=>exact λ_=>⟨[],rfl⟩
  |cons x xs ih=>intro h;rw[all_cons,Bool.and_eq_true]at h;obtain⟨i,rfl,_⟩:=ZI h.1;obtain⟨ns,rfl⟩:=ih h.2;exact⟨i::ns,rfl⟩
 obtain⟨ns,rfl⟩:=this h2;exact⟨ns,rfl,by have:=of_decide_eq_true h1;rwa[length_map]at this⟩
noncomputable def dq (H:Hp)(q aO:Int)(x:V)(b:Bool):Prop:=(simple x=true/\b=false)\/(∃a xs,x= .ref a/\H a=some (.lst xs)/\b=false)\/(∃a xs,x= .ref a/\H a=some (.tup xs)/\xs.length≠2/\b=false)\/∃a y z b1 b2,x= .ref a/\H a=some (.tup [y,z])/\so H q y b1/\so H q z b2/\((b1&&b2)=false->b=false)/\(b1=true->∀d ns,z= .ref d->H d=some (.tup (ns.map V.int))->b2=true->b=decide ((ns:List Int).sum=aO))
theorem dq.same {H H':Hp}{q aO:Int}{x:V}{b:Bool}(s:qg H H')(h:dq H q aO x b):dq H' q aO x b:=by
 rcases h with h|⟨a,xs,e,h,z⟩|⟨a,xs,e,h,z⟩|⟨a,y,z,b1,b2,e,h,r1,r2,g1,g2⟩
 .exact .inl h
 .exact .inr (.inl ⟨a,xs,e,s _ _ h,z⟩)
 .exact .inr (.inr (.inl ⟨a,xs,e,s _ _ h,z⟩))
 .refine .inr (.inr (.inr ⟨a,y,z,b1,b2,e,s _ _ h,r1.same s,r2.same s,g1,λh1 d ns ez hd h2=>?_⟩));subst h2;rcases r2 with⟨_,z⟩|⟨_,_,_,_,z⟩|⟨a',xs,e',h',_,_,z⟩
  .cases z
  .cases z
  .have ed:a'=d:=V.ref.inj (e'.symm.trans ez);rw[<-ed,s _ _ h']at hd;have ex:xs=ns.map V.int:=HO.tup.inj (Option.some.inj hd);rw[ex]at h';exact g2 h1 a' ns e' h' rfl
theorem j00 (T:Txt K mg t):zi P w K mg base CX0 4 t.FH t.FI ["thing","purses","total"] (λvs H Q _=>∃x q aO b,vs=[x,.int q,.int aO]/\dq H q aO x b/\∀H',qg H H'->Q (.bl b) H'):=by
 refine T.MP.dQ EB λ_ A _ s H vs Q E hr h=>?_;obtain⟨x,q,aO,b,rfl,hx,k⟩:=h;refine⟨_,(@jc _ _ _ _ _ (zo (PW.pt (cY (x8 (zk (jm vg rfl T.jq boot_isinstance (@xj _ _ _ _ _ (pv 0) (iS (v:=.ty "tuple") rfl T.rM boot_tuple rfl) rfl rfl)))) (eJ (jy sP (jm qb rfl T.fh boot_len (jb (pv 0) jg)) jf (j7 _))))) (@je _ _ _ (jr cL)) jv) (@jc _ _ _ _ _ (nN (pv 0) (qF rfl (zl (qa (i:=3) EB.nd rfl (Or.inl rfl)) (zl (qa (i:=4) EB.nd rfl (Or.inl rfl)) qE)))) (@je _ _ _ (jr (ik (jn (OO T) hr.dn rfl T.MN T.ug.kp T.MO .nil jz (@xj _ _ _ _ _ (pv 3) (pv 1) rfl rfl)) (ik (jn (OO T) hr.dn rfl T.MN T.ug.kp T.MO .nil jz (@xj _ _ _ _ _ (pv 4) (pv 1) rfl rfl)) (jQ (il fC (jm (Wr rfl) rfl T.GF boot_sum (jb (pv 4) jg)) (pv 2) (j7 _))))))))),?_⟩;rcases hx with⟨z,rfl⟩|⟨a,xs,rfl,e,rfl⟩|⟨a,xs,rfl,e,ln,rfl⟩|⟨a,y,z,b1,b2,rfl,e,r1,r2,g1,g2⟩
 .cases x with
  |aj=>exact⟨_,rfl,_,_,_,false,rfl,.aj,rfl,_,rfl,yz (yz (k _ (qg.refl _)))⟩
  |bl b=>exact⟨_,rfl,_,_,_,false,rfl,.bl _,rfl,_,rfl,yz (yz (k _ (qg.refl _)))⟩
  |int i=>exact⟨_,rfl,_,_,_,false,rfl,.int _,rfl,_,rfl,yz (yz (k _ (qg.refl _)))⟩
  |str i=>exact⟨_,rfl,_,_,_,false,rfl,.str _,rfl,_,rfl,yz (yz (k _ (qg.refl _)))⟩
  |_=>cases z
 .exact⟨_,rfl,_,_,_,false,rfl,.lst e,rfl,_,rfl,yz (yz (k _ (qg.refl _)))⟩
 .refine⟨_,rfl,_,_,_,true,rfl,.tup e,rfl,_,rfl,qq ?_⟩;refine⟨_,rfl,a,_,rfl,.inr (ax.of e),rfl,_,rfl,cz (λz=>?_) (λz=>?_)⟩
  .exact k _ (qg.refl _)
  .exact absurd (by simp;omega) z
 .refine⟨_,rfl,_,_,_,true,rfl,.tup e,rfl,_,rfl,qq ?_⟩;refine⟨_,rfl,a,_,rfl,.inr (ax.of e),rfl,_,rfl,qq ?_⟩;refine⟨_,rfl,a,_,rfl,ax.of e,rfl,_,_,rfl,_,_,rfl,rfl,?_⟩;refine⟨_,rfl,_,rfl,y,q,b1,rfl,r1,λH1 s1=>⟨_,rfl,?_⟩⟩;cases b1 with
  |false=>refine qq ?_;rw[g1 rfl]at k;exact k _ s1
  | true=>
   refine yz ?_;refine⟨_,rfl,_,rfl,z,q,b2,rfl,r2.same s1,λH2 s2=>⟨_,rfl,?_⟩⟩;cases b2 with
   |false=>refine qq ?_;rw[g1 rfl]at k;exact k _ (s1.trans s2)
   |true=>
    refine yz ?_;have bD:=s1.trans s2;rcases r2 with⟨_,z⟩|⟨_,_,_,_,z⟩|⟨d,xs,rfl,hd,_,_,z⟩
    .cases z
    .cases z
    obtain⟨ns,rfl,_⟩:=jzv z.symm;refine⟨_,rfl,d,ns,rfl,ax.of (bD _ _ hd),_,rfl,rfl,?_⟩;have k1:=k _ bD;rw[g2 rfl d ns rfl hd rfl]at k1;rw[show decide (ns.sum=aO)=decide (V.int ns.sum=V.int aO)by simp]at k1;exact k1
theorem Ho (T:Txt K mg t):zi P w K mg base CX0 1 t.FJ t.FK ["cut","other"] (λvs H Q _=>∃a b k l,vs=[.ref a,.ref b]/\cI H k a/\cI H l b/\k.1.length=l.1.length/\k.1.length<=1000/\∀H',qg H H'->Q (.bl ((List.zip k.1 l.1).all λx=>decide (x.1<=x.2))) H'):=by
 refine T.AR.bY (N:=["cut","other"]) λ_ A _ s H vs Q E hr h=>?_;obtain⟨a,b,k,l,rfl,⟨c,d,h1,h2,h3⟩,⟨c',d',de,fJ,h3'⟩,le,l1,q⟩:=h;refine⟨_,(@je _ _ _ (jr (jm (Dm rfl) rfl T.GG boot_all (jb (lM (N':=["mine","theirs"]) (ix:=[none,none]) (wu (by kernel_rfl)) rfl (Wh rfl T.Zl (@xj _ _ _ _ _ (dD oa (pv 0) jf (λ_ _=>rfl)) (dD oa (pv 1) jf (λ_ _=>rfl)) rfl rfl)) (λ_ _ _ _=>(UG (K:=K) (t:=(Cv (jS 0) (Cv (jS 1) IH))) rfl rfl 2 (zl (qa (i:=0) Mr rfl (Or.inl rfl) (.inr rfl)) (zl (qa (i:=1) Mr rfl (Or.inl rfl) (.inr rfl)) qE)) rfl rfl)) (λ_ _ _ _=>oA) (λ_ _ _ _=>(il nU (pv 0) (pv 1) (j7 _)))) jg)))),?_⟩;refine⟨_,rfl,a,_,0,_,rfl,rfl,ax.of h1,rfl,_,rfl,b,_,0,_,rfl,rfl,ax.of de,rfl,c,c',rfl,⟨_,ax.of h2⟩,⟨_,ax.of fJ⟩,?_⟩;refine Wi (K:=K) (a:=c) (b:=c') (xs:=k.1.map V.int) (zs:=l.1.map V.int) (λi ys U' H'=>(∃v u,U'=[v,u])/\qg H H'/\ys=(((List.zip k.1 l.1).take i).map λx=>decide (x.1<=x.2)).map V.bl) (by simpa using le) ⟨⟨none,none,rfl⟩,qg.refl _,rfl⟩ ?_ ?_ ?_
 .rintro i ys U' H' hi ⟨_,s1,rfl⟩
  refine⟨ax.of (s1 _ _ h2),ax.of (s1 _ _ fJ),kK ?_⟩;rw[length_map,length_map,length_take,List.length_zip];omega
 .rintro i x z ys U' H' p hx hz ⟨⟨v,u,rfl⟩,s1,rfl⟩ hp
  rw[getElem?_map]at hx hz;obtain⟨x',ex,rfl⟩:=Option.map_eq_some_iff.mp hx;obtain⟨z',ez,rfl⟩:=Option.map_eq_some_iff.mp hz;refine⟨p,_,rfl,ax.of ja,rfl,?_⟩;refine⟨_,_,rfl,_,_,rfl,rfl,?_⟩;dsimp only[mH];rw[if_pos rfl];refine⟨_,rfl,_,rfl,_,_,rfl,rfl,⟨_,_,rfl⟩,s1.trans (jh hp),?_⟩;rw[List.take_succ,map_append,map_append];congr 1;rw[show(List.zip k.1 l.1)[i]?=some (x',z')by rw[List.zip_eq_zipWith,List.getElem?_zipWith,ex,ez]];rfl
 .rintro ys U' H' ⟨_,s1,rfl⟩ p hp
  refine⟨p,((List.zip k.1 l.1).take (k.1.map V.int).length).map λx=>decide (x.1<=x.2),rfl,ai.of ja,?_⟩;have g:=q _ (s1.trans (jh (o:=.lst ((((List.zip k.1 l.1).take (k.1.map V.int).length).map λx=>decide (x.1<=x.2)).map V.bl)) hp));rw[show(((List.zip k.1 l.1).take (k.1.map V.int).length).map λx=>decide (x.1<=x.2)).all id=(List.zip k.1 l.1).all λx=>decide (x.1<=x.2)by rw[length_map,List.take_of_length_le (by rw[List.length_zip];omega),List.all_map];rfl];exact g
theorem wI (T:Txt K mg t):zi P w K mg base (bz P w) 4 t.FD t.FE ["world","house"] (λvs H Q E=>∃x v,vs=[x,v]/\((iK t H x/\bZ t E H .pap)\/∃Z id W Y,x= .ref W.x/\zw t H Z id W Y/\simple v=true/\((mX Y v/\bZ t E H (.eD v))\/∃h B,v= .int h/\Y.keep h=some B/\∀H' p,qg H H'->H p=none->cI H' (B.xk,B.held) p->Q (.ref p) H'))):=by
 refine T.rK.fO (N:=["world","house"]) λ_ A _ s H vs Q E hr h=>?_;obtain⟨x,v,rfl,hc⟩:=h;refine⟨_,(@jc _ _ _ _ _ (qc (jn (yx T) hr.dn rfl T.yt T.xo.kp T.yp .nil cB (jb (pv 0) jg))) (@je _ _ _ (jr (jW (j6 (pv 0) T.jt T.MK (ON T) hr.dn T.ML .nil cB (jb (pv 1) jg)) T.jl T.Xv (jn8 T) hr.dn T.Xw .nil jz)))),?_⟩;refine⟨_,rfl,x,rfl,?_⟩;rcases hc with⟨n,g⟩|⟨Z,id,W,Y,rfl,O,sv,hc⟩
 .exact .inl ⟨n,g⟩
 refine .inr ⟨_,_,_,rfl,O.ob.1,?_⟩;refine⟨_,rfl,W.x,W.dx,_,rfl,O.ob.1,gG,_,rfl,Z,id,W,Y,v,rfl,O,sv,?_⟩;rcases hc with⟨n,g⟩|⟨h,B,rfl,e,q⟩
 .exact .inl ⟨n,g⟩
 refine .inr ⟨h,B,rfl,e,λk A' dk R=>?_⟩;exact⟨k,dk,_,rfl,R.ob,fq A',Z,id,h,k,A',dk,B,rfl,R,q⟩
theorem jpq (T:Txt K mg t):zi P w K mg base (bz P w) 2 t.FV t.FW ["world"] (λvs H Q E=>∃x,vs=[x]/\iK t H x/\bZ t E H .pap):=by
 refine T.MW.fO (N:=["world"]) λ_ A _ s H vs Q E hr h=>?_;obtain⟨x,rfl,n,g⟩:=h;refine⟨_,(@jc _ _ _ _ _ (qc (jn (yx T) hr.dn rfl T.yt T.xo.kp T.yp .nil cB (jb (pv 0) jg))) yk),?_⟩;exact⟨_,rfl,x,rfl,.inl ⟨n,g⟩⟩
theorem jpv (T:Txt K mg t):zi P w K mg base (bz P w) 2 t.FX t.FY ["world"] (λvs H Q E=>∃x,vs=[x]/\iK t H x/\bZ t E H .pap):=by
 refine T.MX.fO (N:=["world","houses"]) λ_ A _ s H vs Q E hr h=>?_;obtain⟨x,rfl,n,g⟩:=h;refine⟨_,(@jc _ _ _ _ _ (qc (jn (yx T) hr.dn rfl T.yt T.xo.kp T.yp .nil cB (jb (pv 0) jg))) yk),?_⟩;exact⟨_,rfl,x,rfl,.inl ⟨n,g⟩⟩
theorem jpy (T:Txt K mg t):zi P w K mg base (bz P w) 2 t.FZ t.F0 ["world"] (λvs H Q E=>∃x,vs=[x]/\iK t H x/\bZ t E H .pap):=by
 refine T.MY.fO (N:=["world","choices"]) λ_ A _ s H vs Q E hr h=>?_;obtain⟨x,rfl,n,g⟩:=h;refine⟨_,(@jc _ _ _ _ _ (qc (jn (yx T) hr.dn rfl T.yt T.xo.kp T.yp .nil cB (jb (pv 0) jg))) yk),?_⟩;exact⟨_,rfl,x,rfl,.inl ⟨n,g⟩⟩
theorem jp4 (T:Txt K mg t):zi P w K mg base (bz P w) 2 t.F1 t.F3 ["world"] (λvs H Q E=>∃x,vs=[x]/\iK t H x/\bZ t E H .pap):=by
 refine T.MZ.fO (N:=["world","rows"]) λ_ A _ s H vs Q E hr h=>?_;obtain⟨x,rfl,n,g⟩:=h;refine⟨_,(@jc _ _ _ _ _ (qc (jn (yx T) hr.dn rfl T.yt T.xo.kp T.yp .nil cB (jb (pv 0) jg))) yk),?_⟩;exact⟨_,rfl,x,rfl,.inl ⟨n,g⟩⟩
theorem j9e {P:Program}{w:World}{a:Addr}{o:Obj}{xs:P2}{g:TG}{ti:TT}{te:TE}{U0:St}{H0:Hp}{Q:VK}(Pv:Nat->List V->St->Hp->Prop)(h0:Pv 0 [] U0 H0)(hl:∀i ys U H,i<=xs.length->Pv i ys U H->H a=some (.aE o (dP P w a xs))/\ys.length<=sizeLine)(hs:∀i x ys U H,xs[i]?=some x->Pv i ys U H->g (.ref x.2.1) U H λ U2 H2=>ti U2 H2 λc H3=>if c=true then te U2 H3 λy H4=>Pv (i+1) (ys++[y]) U2 H4 else Pv (i+1) ys U2 H3)(hd:∀ys U H,Pv xs.length ys U H->∀p,H p=none->Q (.ref p) (upd H p (.lst ys))):∃W:Nat->Nat->List V->St->Hp->Prop,(∃m,W 0 m [] U0 H0)/\∀i m ys U H,W i m ys U H->ys.length<=sizeLine/\(((uT P w a o xs).stop i H/\oB Q ys H)\/((uT P w a o xs).go i H/\∃N:List V->St->Hp->Prop,(∀bH U' H',N bH U' H'->∃m',m'<m/\W (i+1) m' bH U' H')/\∀x H',(uT P w a o xs).dz i H x H'->g x U H' λ U2 H2=>ti U2 H2 λb H3=>if b=true then te U2 H3 λy H4=>N (ys++[y]) U2 H4 else N ys U2 H3)):=by
 refine⟨λi m ys U H=>m=xs.length-i/\i<=xs.length/\Pv i ys U H,⟨xs.length,by simp,zero_le _,h0⟩,?_⟩
 rintro i m ys U H ⟨rfl,hi,p⟩
 obtain⟨q,hz⟩:=hl i ys U H hi p;refine⟨hz,?_⟩;by_cases aD:i<xs.length
 .refine .inr ⟨⟨aD,q⟩,Pv (i+1),λbH U' H' p'=>⟨xs.length-(i+1),by lia,rfl,aD,p'⟩,λx H' y=>?_⟩;obtain⟨e,z,ez,ex⟩:=y;subst e ex;exact hs i z ys U _ ez p
 .have e:i=xs.length:=by lia
  subst e;exact .inl ⟨⟨le_refl _,q⟩,hd ys U H p⟩
noncomputable def gh (ps:zc)(en:Int):List Cut:=(ps.filter λp=>decide (en<=(p.2.length:Int))).map (·.1)
theorem OP {x:Cut×List Int}:∀{ps:zc}{i:Nat},(ps.map (·.1)).Nodup->ps[i]?=some x->qf ps x.1=x.2
 |[],i,_,e=>by simp at e
 |p::ps,0,_,e=>by cases e;rw[qf,if_pos rfl]
 |p::ps,i+1,nd,e=>by rw[map_cons,nodup_cons]at nd;rw[List.getElem?_cons_succ]at e;rw[qf,if_neg (λz=>nd.1 (by rw[z];exact mem_map_of_mem (mem_of_getElem? e)))];exact OP (i:=i) nd.2 e
theorem Hq {K:W.Frag}{H H':Hp}{a:Addr}{xs:List V}(s:qg H H')(h:ax K H a xs):ax K H' a xs:=h.imp (rO s) id
theorem jB.same {K:W.Frag}{H H':Hp}{vs:List V}{ks:List Cut}(s:qg H H')(h:jB K H vs ks):jB K H' vs ks:=Paired.aQ h λ_ _ ⟨a,c,d,e,h1,h2,h3⟩=>⟨a,c,d,e,Hq s h1,Hq s h2,Hq s h3⟩
noncomputable def iM (H:Hp)(v:V)(k:Cut):Prop:=∃b,v= .ref b/\cI H k b
theorem iM.same {H H':Hp}{v:V}{k:Cut}(s:qg H H'):iM H v k->iM H' v k:=λ⟨b,e,h⟩=>⟨b,e,h.same s⟩
theorem iM.at_ {K:W.Frag}{H:Hp}{vs:List V}{ks:List Cut}(h:Paired (iM H) vs ks):jB K H vs ks:=Paired.aQ h λ_ _ ⟨b,e,c,d,h1,h2,h3⟩=>⟨b,c,d,e,ax.of h1,ax.of h2,ax.of h3⟩
theorem jk5 (T:Txt K mg t):zi P w K mg base CX0 1 t.ue t.ph ["self","thing"] (λvs H Q _=>∃p dx S en xs ps b k,vs=[.ref p,.ref b]/\AX P w t H p dx S en xs ps/\cI H k b/\(qf ps k).length<64/\∀H' r (ns:List Int),qg H H'->H r=none->H' r=some (.lst (ns.map V.int))->ns.Perm (qf ps k)->ns.Pairwise (·<=·)->Q (.ref r) H'):=by
 refine T.Xe.bY (N:=["self","thing"]) λ_ A _ s H vs Q E hr h=>?_;obtain⟨p,dx,S,en,xs,ps,b,k,rfl,Bq,hb,l64,q⟩:=h;refine⟨_,(@je _ _ _ (jr (jm UE rfl T.Nu boot_sorted (jb (LH (Ae hr) (j4 (pv 0) rfl) (pv 1) (@qk _ _ _ _ jg) ⟨rfl,rfl,rfl,rfl⟩) jg)))),?_⟩;refine⟨_,rfl,p,_,dx,_,_,rfl,Bq.ob,T.qi,T.qw,rN _ _,S,rfl,.inr ⟨xs,Bq.sg⟩,_,rfl,dF,λr hr=>?_⟩;have s1:=jh (o:=.lst []) hr;refine⟨_,.inr ⟨xs,k2 k,b,NC s1 Bq.sg,rfl,hb.pair.keeps λ_ _ e=>s1 _ _ e,rfl⟩,?_⟩;rcases AY (k:=k) Bq.hs with⟨h1,h2,h3⟩|⟨c,h1,h2⟩
 .rw[h1];refine⟨r,[],rfl,ai.of ja,by decide,λq' ns hq pe pw=>?_⟩;refine q _ q' ns (s1.trans (jh hq)) ?_ ja (by rw[h2];exact pe) pw;cases e:H q' with
  |none=>rfl
  |some u=>exact absurd (s1 _ _ e) (by rw[hq];intro z;cases z)
 .rw[h1];refine⟨c,_,rfl,ai.of (s1 _ _ h2),l64,λq' ns hq pe pw=>?_⟩;refine q _ q' ns (s1.trans (jh hq)) ?_ ja pe pw;cases e:H q' with
  |none=>rfl
  |some u=>exact absurd (s1 _ _ e) (by rw[hq];intro z;cases z)
theorem joa (T:Txt K mg t):zi P w K mg base CX0 2 t.E6 t.E7 ["self"] (λvs H Q _=>∃p dx S en xs ps,vs=[.ref p]/\jD P w t H p dx S en xs ps/\ps.length<64/\(ps.map (·.1)).Nodup/\∀H' r us jL jM,qg H H'->H r=none->H' r=some (.lst jL)->Paired (iM H') us (gh ps en)->jL.Perm us->jB K H' jL jM->jM.Perm (gh ps en)->jM.Pairwise (λa b=>eC a b=true)->Q (.ref r) H'):=by
 refine T.Xi.bY (N:=["self"]) λ_ A _ s H vs Q E hr h=>?_;obtain⟨p,dx,S,en,xs,ps,rfl,Bq,l64,nd,q⟩:=h;refine⟨_,(@je _ _ _ (jr (jm (Wt Uq (Wo (Ae hr))) rfl T.Nu boot_sorted (jb (KA (lM (N':=["thing","self"]) (ix:=[none,some 0]) (wu (by kernel_rfl)) rfl (V5 (j4 (pv 0) rfl)) (λ_ _ _ _=>(qa (i:=0) WJ rfl (Or.inl rfl) (.inr rfl))) (λ_ _ _ _=>(Di (zk (j6 (pv 1) T.qi T.yo (NL (P:=P) (w:=w) (base:=base) T) hr.dn T.va .nil jz (jb (pv 0) jg))))) (λ_ _ _ _=>(pv 0)))) jg)))),?_⟩;have len:xs.length=ps.length:=Paired.length Bq.hs;have pS:p≠S:=λz=>by
  have h0:=Bq.ob;rw[z]at h0;rcases Bq.sg.1 with f|⟨_,f⟩
  .rw[h0]at f;cases(show HO.ins _ _ _=HO.ext _ from Option.some.inj f)
  .rw[h0]at f;cases f
 refine⟨_,rfl,p,_,dx,_,_,rfl,Bq.ob,T.qi,T.qw,rN _ _,S,rfl,?_⟩;rcases Bq.sg.1 with hS|⟨rfl,hS⟩
 .refine .inr ⟨xs,hS,λo=>j9e (λi ys U H'=>∃v,U=[v,some (.ref p)]/\qg (upd H S (.aE o (dP P w S xs))) H'/\Paired (iM H') ys (gh (ps.take i) en)) ⟨none,rfl,qg.refl _,.nil⟩ ?_ ?_ ?_⟩
  .rintro i ys U H' hi ⟨v,rfl,sm,tu⟩
   refine⟨sm _ _ ja,?_⟩;rw[Paired.length tu,gh,length_map];exact kK (le_trans (length_filter_le _ _) (by rw[length_take];omega))
  .rintro i x ys U H' ex ⟨v,rfl,sm,tu⟩
   obtain⟨pp,ep,e1,c,e2,e3⟩:=qx Bq.hs ex;have lN:∀c u,H c=some u->c≠S->H' c=some u:=λc u hc cS=>sm _ _ (by rw[jd cS];exact hc);have mY:H' S=some (.aE o (dP P w S xs)):=sm _ _ ja;have R:AX P w t H' p dx S en xs ps:=⟨lN _ _ Bq.ob pS,⟨.inl (.inr ⟨o,mY⟩),λx hx=>(Bq.sg.2 x hx).keeps λb ys e=>lN _ _ e (Bq.sg.ne e)⟩,Paired.aQ Bq.hs λ_ _ ⟨a1,c,a2,a3⟩=>⟨a1,c,a2,lN _ _ a3 (Bq.sg.nK a3)⟩⟩;have pb:gZ H' (k2 pp.1) x.2.1:=by have:=R.sg.2 x (mem_of_getElem? ex);rwa[e1]at this
   have hh:=OP nd ep;have tk:gh (ps.take (i+1)) en=gh (ps.take i) en++(if en<=(pp.2.length:Int)then[pp.1]else[]):=by unfold gh;rw[take_snoc ep,List.filter_append,map_append];by_cases z:en<=(pp.2.length:Int)<;>simp[z]
   refine⟨_,rfl,p,dx,_,rfl,R.ob,mT _ _ (by decide+kernel) (by decide+kernel),_,rfl,p,dx,S,en,xs,ps,x.2.1,pp.1,rfl,R,pb,λH3 s3=>⟨_,rfl,?_⟩⟩;rw[hh];refine cz (λz=>?_) (λz=>?_)
   .refine⟨_,rfl,_,rfl,sm.trans s3,?_⟩;rw[tk,if_pos (of_decide_eq_true z)];exact zx (Paired.aQ tu λ_ _ h=>h.same s3) ⟨_,rfl,(j6p pb).same s3⟩
   .refine⟨_,rfl,sm.trans s3,?_⟩;rw[tk,if_neg (λy=>z (decide_eq_true y)),append_nil];exact Paired.aQ tu λ_ _ h=>h.same s3
  .rintro ys U H' ⟨v,rfl,sm,tu⟩ r hr
   rw[len,take_length]at tu;have mY:H' S=some (.aE o (dP P w S xs)):=sm _ _ ja;have rS:r≠S:=(ji mY hr).symm;have gH:∀c u,H' c=some u->c≠S->upd (upd H' r (.lst ys)) S (dP P w S xs) c=some u:=λc u hc cS=>by rw[jd cS,jd (ji hc hr)];exact hc
   have wJ:qg H (upd (upd H' r (.lst ys)) S (dP P w S xs)):=λc u hc=>by
    by_cases z:c=S
    .subst z;rw[ja,<-hS,hc]
    .exact gH _ _ (sm _ _ (by rw[jd z];exact hc)) z
   have nS:∀{a zs},H' a=some (.tup zs)->a≠S:=λ{a zs} e z=>by subst z;rw[mY]at e;cases e
   have OQ:Paired (iM (upd (upd H' r (.lst ys)) S (dP P w S xs))) ys (gh ps en):=Paired.aQ tu λ_ _ ⟨b,e,c,d,h1,h2,h3⟩=>⟨b,e,c,d,gH _ _ h1 (nS h1),gH _ _ h2 (nS h2),gH _ _ h3 (nS h3)⟩;refine⟨S,o,dP P w S xs,(by rw[jd rS.symm];exact mY),(λo' u' z=>?_),?_,.inr ⟨r,ys,gh ps en,rfl,ai.of (by rw[jd rS];exact ja),iM.at_ OQ,?_,?_,λq' bp bW hq pv pt ct pw=>?_⟩⟩
   .have z':H S=some (.aE o' u'):=z;rw[hS]at z';cases(show HO.ext _=HO.aE _ _ from Option.some.inj z')
   .exact True.intro
   .rw[Paired.length tu,gh,length_map];exact lt_of_le_of_lt (length_filter_le _ _) l64
   .exact List.Nodup.sublist (List.Sublist.map _ List.filter_sublist) nd
   .have s3:=jh (o:=.lst bp) hq;refine q _ q' ys bp bW (wJ.trans s3) ?_ ja (Paired.aQ OQ λ_ _ h=>h.same s3) pv ?_ pt pw
    .cases e:H q' with
     |none=>rfl
     |some u=>exact absurd (wJ _ _ e) (by rw[hq];intro z;cases z)
    .exact jB.same s3 ct
 .cases Bq.hs;refine .inl ⟨[],hS,λo=>Zz (λi ys U H'=>ys=[]/\qg (upd H S (.aE o (.dT []))) H') ⟨rfl,qg.refl _⟩ ?_ ?_ ?_⟩
  .rintro i ys U H' hi ⟨rfl,sm⟩
   exact⟨sm _ _ ja,by show 0<=sizeLine;decide⟩
  .intro i kv b ys U H' ek;simp at ek
  .rintro ys U H' ⟨rfl,sm⟩ r hr
   have mY:H' S=some (.aE o (.dT [])):=sm _ _ ja;have rS:r≠S:=(ji mY hr).symm;have wJ:qg H (upd (upd H' r (.lst [])) S (.dT [])):=λc u hc=>by
    by_cases z:c=S
    .subst z;rw[ja,<-hS,hc]
    .rw[jd z];have e1:=sm c u (by rw[jd z];exact hc);rw[jd (ji e1 hr)];exact e1
   refine⟨S,o,.dT [],(by rw[jd rS.symm];exact mY),(λo' u' z=>?_),True.intro,.inr ⟨r,[],[],rfl,ai.of (by rw[jd rS];exact ja),.nil,by decide,.nil,λq' bp bW hq pv pt ct pw=>?_⟩⟩
   .have z':H S=some (.aE o' u'):=z;rw[hS]at z';cases z'
   .have s3:=jh (o:=.lst bp) hq;refine q _ q' [] bp bW (wJ.trans s3) ?_ ja .nil pv (jB.same s3 ct) pt pw;cases e:H q' with
    |none=>rfl
    |some u=>exact absurd (wJ _ _ e) (by rw[hq];intro z;cases z)
noncomputable def kX (x Bq:Addr):List (Str×V):=vy "board" (.ref Bq) (vy "world" (.ref x) [])
theorem wK (x Bq:Addr):(kX x Bq).lookup ("board":Str)=some (.ref Bq):=by unfold kX;rw[jk,if_pos rfl]
theorem wL (x Bq:Addr):(kX x Bq).lookup ("world":Str)=some (.ref x):=by unfold kX;rw[jk,if_neg (by decide+kernel),jk,if_pos rfl]
theorem gJ (x Bq:Addr){m:Str}(h1:¬m="board")(h2:¬m="world"):(kX x Bq).lookup m=none:=by unfold kX;rw[jk,if_neg h1,jk,if_neg h2];rfl
structure mZ (P:Program)(w:World)(t:Ad)(H:Hp)(Z:av)(C dC Bq dB S:Addr)(en:Int)(x:Addr)(xs:P2)(ps:zc):Prop where
 ob:H C=some (.ins t.j5 dC (kX x Bq))/\Z C=some (9,.x)
 bd:jD P w t H Bq dB S en xs ps
 rb:Z Bq=some (9,.bd)
 rs:Z S=some (9,.sd)
 rl:∀y∈xs,∃c,y.2.2= .ref c/\Z c=some (9,.sg)
theorem pM {Z:av}{H:Hp}{b:Addr}{ys:List V}(k:aA Z H)(e:H b=some (.tup ys)):Z b=none:=by
 cases er:Z b with
 |none=>rfl
 |some r=>obtain⟨u,hu,nu⟩:=k b r er;rw[e]at hu;cases hu;exact nu.elim
theorem mZ.fr {P:Program}{w:World}{t:Ad}{H H':Hp}{Z af:av}{C dC Bq dB S:Addr}{en:Int}{x:Addr}{xs:P2}{ps:zc}{F:Role->Prop}(h:mZ P w t H Z C dC Bq dB S en x xs ps)(kr:aA Z H)(f:Fr F Z H af H')(n:∀p,¬F (9,p)):mZ P w t H' af C dC Bq dB S en x xs ps:=by
 have tp:∀b ys,H b=some (.tup ys)->H' b=some (.tup ys):=λb ys e=>(dj f e (pM kr e)).1;have go:∀{a:Addr}{u:HO}{p:Part},H a=some u->Z a=some (9,p)->H' a=some u/\af a=some (9,p):=λ{a u p} e r=>cj f e r (n p);have oS:∃u,H S=some u:=h.bd.sg.1.elim (λe=>⟨_,e⟩) λe=>⟨_,e.2⟩;obtain⟨u,hu⟩:=oS;have oF:=go hu h.rs;have OR:∀y∈xs,∃c,y.2.2= .ref c/\af c=some (9,.sg)/\∀u,H c=some u->H' c=some u:=λy hy=>by obtain⟨c,e,r⟩:=h.rl y hy;obtain⟨u,hu,_⟩:=kr c _ r;exact⟨c,e,(go hu r).2,λu' aB=>(go aB r).1⟩
 refine⟨go h.ob.1 h.ob.2,⟨(go h.bd.ob h.rb).1,⟨?_,λy hy=>(h.bd.sg.2 y hy).keeps tp⟩,?_,h.bd.un⟩,(go h.bd.ob h.rb).2,oF.2,λy hy=>let⟨c,e,r,_⟩:=OR y hy;⟨c,e,r⟩⟩
 .rcases h.bd.sg.1 with e|⟨e1,e⟩
  .exact .inl (go e h.rs).1
  .exact .inr ⟨e1,(go e h.rs).1⟩
 .have aux:∀{aW:P2}{iN:zc},(∀y∈aW,y∈xs)->Paired (iE H) aW iN->Paired (iE H') aW iN:=λ{aW iN} sub q=>by
   induction q with
   |nil=>exact .nil
   |@cons y p ys ps a r ih=>obtain⟨e,b,eb,hb⟩:=a;obtain⟨c,ec,_,kc⟩:=OR y (sub y (by simp));rw[eb]at ec;cases ec;exact .cons ⟨e,b,eb,kc _ hb⟩ (ih λz hz=>sub z (by simp[hz]))
  exact aux (λ_ z=>z) h.bd.hs
open Classical in
noncomputable def kY (Z : av) (xs aW:P2) : av:=λa=>if ∃ y ∈ aW,y.2.2 = .ref a then some (9,.sg) else if ∃ y ∈ xs,y.2.2 = .ref a then none else Z a
theorem mZ.put {P:Program}{w:World}{t:Ad}{H H2:Hp}{Z:av}{C dC Bq dB S:Addr}{en:Int}{x:Addr}{xs aW:P2}{ps iN:zc}(h:mZ P w t H Z C dC Bq dB S en x xs ps)(kr:aA Z H)(B2:jD P w t H2 Bq dB S en aW iN)(k2:∀c u,H c=some u->c≠S->kP xs c->H2 c=some u)(iJ:∀c u,H c=some u->kP xs c->kP aW c):mZ P w t H2 (kY Z xs aW) C dC Bq dB S en x aW iN/\Fr (λr=>r.1=9) Z H (kY Z xs aW) H2/\aA (kY Z xs aW) H2:=by
 have pE:∀{a:Addr},(∃y∈xs,y.2.2= .ref a)->Z a=some (9,.sg):=λ{a} ⟨y,m,e⟩=>by obtain⟨c,ec,rc⟩:=h.rl y m;rw[e]at ec;cases ec;exact rc
 have nS:∀{a:Addr}{r:Role}{u:HO},Z a=some r->H a=some u->r≠(9,.sg)->kY Z xs aW a=some r:=λ{a r u} er eu n=>by have n1:¬∃y∈xs,y.2.2= .ref a:=λz=>n (Option.some.inj (er.symm.trans (pE z)));have n3:¬∃y∈aW,y.2.2= .ref a:=λ⟨y,m,e'⟩=>iJ a u eu (λy m e=>n1 ⟨y,m,e⟩) y m e';unfold kY;rw[if_neg n3,if_neg n1];exact er
 have f2:Fr (λr=>r.1=9) Z H (kY Z xs aW) H2:=λa u e n=>by have n1:¬∃y∈xs,y.2.2= .ref a:=λz=>n _ (pE z) rfl;have n2:kP xs a:=λy m e=>n1 ⟨y,m,e⟩;have n3:¬∃y∈aW,y.2.2= .ref a:=λ⟨y,m,e'⟩=>iJ a u e n2 y m e';refine⟨k2 a u e (λz=>n _ (z ▸ h.rs) rfl) n2,?_⟩;unfold kY;rw[if_neg n3,if_neg n1]
 have wM:∀y∈aW,∃c l,y.2.2= .ref c/\H2 c=some (.lst l):=λy m=>by obtain⟨j,hj,ej⟩:=mem_iff_getElem.mp m;obtain⟨pp,_,_,c,ec,hc⟩:=qx B2.hs (by rw[getElem?_eq_getElem hj,ej]);exact⟨c,_,ec,hc⟩
 have oS:∃u,H2 S=some u/\mU u:=B2.sg.1.elim (λe=>⟨_,e,True.intro⟩) λe=>⟨_,e.2,True.intro⟩;have oS1:∃u,H S=some u:=h.bd.sg.1.elim (λe=>⟨_,e⟩) λe=>⟨_,e.2⟩;obtain⟨uS,hS⟩:=oS1;have bO:aA (kY Z xs aW) H2:=λa ro e=>by
  unfold kY at e;split at e
  .rename_i Hd;obtain⟨y,m,ev⟩:=Hd;obtain⟨c,l,ec,hc⟩:=wM y m;rw[ev]at ec;cases ec;exact⟨_,hc,True.intro⟩
  .split at e
   .cases e
   .rename_i n1;obtain⟨u,hu,nu⟩:=kr a ro e;by_cases z:a=S
    .subst z;exact oS
    .exact⟨u,k2 a u hu z (λy m e=>n1 ⟨y,m,e⟩),nu⟩
 have oC:H2 C=some (.ins t.j5 dC (kX x Bq)):=k2 _ _ h.ob.1 (λz=>by
  have:=h.ob.2;rw[z,h.rs]at this;cases this) λy m e=>by
  have:=h.ob.2;rw[pE ⟨y,m,e⟩]at this;cases this
 refine⟨⟨⟨oC,nS h.ob.2 h.ob.1 (by intro z;cases z)⟩,B2,nS h.rb h.bd.ob (by intro z;cases z),nS h.rs hS (by intro z;cases z),λy m=>?_⟩,f2,bO⟩;obtain⟨c,l,ec,hc⟩:=wM y m;refine⟨c,ec,?_⟩;unfold kY;rw[if_pos ⟨y,m,ec⟩]
theorem j0z {n aO:Int}{ly ch kd bd ak wy:Addr}:(cQ n aO ly ch kd bd ak wy).lookup ("total":Str)=some (.int aO):=by unfold cQ;simp only[jk];rw[if_neg (by decide+kernel),if_neg (by decide+kernel),if_neg (by decide+kernel),if_neg (by decide+kernel),if_neg (by decide+kernel),if_neg (by decide+kernel),if_pos True.intro]
theorem OS (T:Txt K mg t):zi P w K mg base (bz P w) 3 t.y7 t.uf ["self","world"] (λvs H Q E=>∃C dC x,vs=[.ref C,x]/\H C=some (.ins t.j5 dC [])/\((iK t H x/\bZ t E H .pap)\/∃Z id W Y,x= .ref W.x/\zw t H Z id W Y/\aA Z H/\Z C=some (9,.x)/\id≠9/\∀af H' Bq dB S,mZ P w t H' af C dC Bq dB S Y.en W.x [] []->Fr (λr=>r.1=9) Z H af H'->aA af H'->Q .aj H')):=by
 refine T.Yg.fO (N:=["self","world"]) λ_ A _ s H vs Q E hr h=>?_;obtain⟨C,dC,x,rfl,hC,hc⟩:=h;refine⟨_,(@jc _ _ _ _ _ (qc (jn (yx T) hr.dn rfl T.yt T.xo.kp T.yp .nil cB (jb (pv 1) jg))) (@jc _ _ _ _ _ (ko (pv 0) (pv 1) rfl) (@je _ _ _ (ko (pv 0) (sQ T.MF (NO T) hr.dn rfl T.Na T.MG .nil jz (jb (j4 (j4 (pv 1) rfl) rfl) jg)) rfl)))),?_⟩;refine⟨_,rfl,x,rfl,?_⟩;rcases hc with⟨n,g⟩|⟨Z,id,W,Y,rfl,O,kr,rC,n9,q⟩
 .exact .inl ⟨n,g⟩
 refine .inr ⟨_,_,_,rfl,O.ob.1,?_⟩;refine⟨_,rfl,_,rfl,C,_,dC,_,rfl,hC,T.jx,T.zh,(by show 0<1000;decide),?_⟩;have f1:Fr (λr=>r.1=9) Z H Z (upd H C (.ins t.j5 dC (vy "world" (.ref W.x) []))):=Fr.put rC rfl;have cb:aA Z (upd H C (.ins t.j5 dC (vy "world" (.ref W.x) []))):=kr.put;have O1:=O.fr (λ_ z=>n9 z) f1;have rj:upd H C (.ins t.j5 dC (vy "world" (.ref W.x) [])) C=some (.ins t.j5 dC (vy "world" (.ref W.x) [])):=ja;generalize upd H C (.ins t.j5 dC (vy "world" (.ref W.x) []))=H1 at f1 cb O1 rj⊢;obtain⟨_,_,aa,Bw,_⟩:=O1.bd;refine⟨_,rfl,W.x,_,W.dx,_,_,rfl,O1.ob.1,T.jt,T.gb,GW,W.bd,_,W.db,_,_,rfl,Bw.ob,T.qi,T.qe,vo _ _,λ Bq dB hB OT ne=>⟨Bq,dB,Y.en,rfl,ja,λS H3 Hr B3 k3=>⟨rfl,?_⟩⟩⟩;have s2:∀b u,H1 b=some u->H3 b=some u:=λb u e=>by have bB:=ji e hB;exact k3 b u (by rw[jd bB,jd (ji e OT)];exact e) bB
 have CB:C≠Bq:=ji rj hB;have SB:S≠Bq:=λz=>by rw[z,ja]at Hr;cases Hr
 have OU:H1 S=none:=by
  cases e:H1 S with
  |none=>rfl
  |some u=>
   have:upd (upd H1 dB (.own Bq)) Bq (.ins t.yy dB []) S=some u:=by rw[jd SB,jd (ji e OT)];exact e
   rw[Hr]at this;cases this
 have CS:C≠S:=ji rj OU;refine⟨_,rfl,C,_,dC,_,rfl,s2 _ _ rj,T.jx,T.ze,(by show 1<1000;decide),?_⟩;have f3:Fr (λr=>r.1=9) Z H1 (aH (aH Z Bq (9,.bd)) S (9,.sd)) (upd H3 C (.ins t.j5 dC (kX W.x Bq))):=λa u e n=>by have naC:a≠C:=λz=>n _ (z ▸ rC) rfl;refine⟨by rw[jd naC];exact s2 _ _ e,?_⟩;rw[qy (ji e OU),qy (ji e hB)]
 refine q (aH (aH Z Bq (9,.bd)) S (9,.sd)) _ Bq dB S ⟨⟨ja,by rw[qy CS,qy CB];exact rC⟩,⟨by rw[jd CB.symm];exact B3.ob,⟨.inr ⟨rfl,by rw[jd CS.symm];exact B3.sg⟩,λ_ z=>by cases z⟩,.nil,.nil⟩,by rw[qy SB.symm,qr],qr,λ_ z=>by cases z⟩ (f1.trans f3) λa r e=>?_;by_cases z:a=S
 .subst z;exact⟨.dT [],by rw[jd CS.symm];exact B3.sg,True.intro⟩
 .rw[qy z]at e;by_cases y:a=Bq
  .subst y;exact⟨.ins _ _ _,by rw[jd CB.symm];exact B3.ob,True.intro⟩
  .rw[qy y]at e;by_cases x:a=C
   .subst x;exact⟨_,ja,True.intro⟩
   .obtain⟨u,hu,nu⟩:=cb a r e;exact⟨u,by rw[jd x];exact s2 _ _ hu,nu⟩
theorem wc (T:Txt K mg t):zi P w K mg base (bz P w) 5 t.ka t.gy ["self","cut"] (λvs H Q E=>∃(C dC Bq:Addr)(W:WA)(n:Nat)(k:V)(b:Bool),vs=[.ref C,k]/\H C=some (.ins t.j5 dC (kX W.x Bq))/\H W.x=some (.ins t.j3 W.dx (W.fs n))/\dq H n W.aO k b/\((b=false/\bZ t E H .cut)\/(b=true/\∀H',qg H H'->Q .aj H'))):=by
 refine T.Yf.fO (N:=["self","cut"]) λ_ A _ s H vs Q E hr h=>?_;obtain⟨C,dC,Bq,W,n,k,b,rfl,hC,hW,hk,hc⟩:=h;refine⟨_,(@je _ _ _ (zo (x8 (zk (sR (j00 T) hr.dn rfl T.Yd T.MP.kp T.Ye jz (jb (pv 1) jg) (jX (j4 (j4 (pv 0) rfl) rfl) (jX (j4 (j4 (pv 0) rfl) rfl) qK))))) (@je _ _ _ (rA rfl T.GD T.Np (jb xh jg))) jv)),?_⟩;refine⟨_,rfl,_,rfl,C,_,dC,_,_,rfl,hC,T.jx,T.zh,wL _ _,W.x,_,W.dx,_,_,rfl,hW,T.jt,T.ky,N7,_,rfl,C,_,dC,_,_,rfl,hC,T.jx,T.zh,wL _ _,W.x,_,W.dx,_,_,rfl,hW,T.jt,T.Nc,j0z,k,n,W.aO,b,rfl,hk,λH1 s1=>⟨_,rfl,?_⟩⟩;rcases hc with⟨rfl,g⟩|⟨rfl,q⟩
 .exact yz ⟨iG,g _ s1⟩
 .exact qq (q _ s1)
structure eF (P:Program)(w:World)(t:Ad)(H:Hp)(Z:av)(W:WA)(Y:Wd)(ls:List Int)(C dC Bq dB S:Addr)(en:Int)(xs:P2)(ps:zc):Prop where
 wr:zw t H Z 1 W Y
 ly:H W.ly=some (.lst (ls.map V.int))/\Z W.ly=none
 ct:mZ P w t H Z C dC Bq dB S en W.x xs ps
 kr:aA Z H
theorem eF.same {P:Program}{w:World}{t:Ad}{H H':Hp}{Z:av}{W:WA}{Y:Wd}{ls:List Int}{C dC Bq dB S:Addr}{en:Int}{xs:P2}{ps:zc}(s:qg H H')(h:eF P w t H Z W Y ls C dC Bq dB S en xs ps):eF P w t H' Z W Y ls C dC Bq dB S en xs ps:=⟨h.wr.fr (P:=λ_=>False) (λ_ z=>z) (Fr.same s),⟨s _ _ h.ly.1,h.ly.2⟩,h.ct.fr (F:=λ_=>False) h.kr (Fr.same s) λ_ z=>z,h.kr.same s⟩
theorem eF.put {P:Program}{w:World}{t:Ad}{H H2:Hp}{Z:av}{W:WA}{Y:Wd}{ls:List Int}{C dC Bq dB S:Addr}{en:Int}{xs aW:P2}{ps iN:zc}(h:eF P w t H Z W Y ls C dC Bq dB S en xs ps)(B2:jD P w t H2 Bq dB S en aW iN)(k2:∀c u,H c=some u->c≠S->kP xs c->H2 c=some u)(iJ:∀c u,H c=some u->kP xs c->kP aW c):∃af,eF P w t H2 af W Y ls C dC Bq dB S en aW iN/\Fr (λr=>r.1=9) Z H af H2:=by
 obtain⟨c,f,k⟩:=h.ct.put h.kr B2 k2 iJ;exact⟨_,⟨h.wr.fr (λ_ z=>by cases z) f,dj f h.ly.1 h.ly.2,c,k⟩,f⟩
theorem OV (T:Txt K mg t):zi P w K mg base (bz P w) 5 t.FL t.FN ["self","house"] (λvs H Q E=>∃Z W Y ls C dC Bq dB S en xs ps v,vs=[.ref C,v]/\eF P w t H Z W Y ls C dC Bq dB S en xs ps/\simple v=true/\((mX Y v/\bZ t E H (.eD v))\/∃h B,v= .int h/\Y.keep h=some B/\xs.length<=1000/\(qf ps (B.xk,B.held)).length<=1000/\h∉qf ps (B.xk,B.held)/\∀af H' aW p,eF P w t H' af W Y ls C dC Bq dB S en aW (kO ps (B.xk,B.held) h)->Fr (λr=>r.1=9) Z H af H'->cI H' (B.xk,B.held) p->Q (.ref p) H')):=by
 refine T.Yh.D0 Mp λ_ A _ s H vs Q E hr h=>?_;obtain⟨Z,W,Y,ls,C,dC,Bq,dB,S,en,xs,ps,v,rfl,R,sv,hc⟩:=h;refine⟨_,(@jc _ _ _ _ _ (qz (i:=2) Mp.nd rfl (Or.inl rfl) (jn (wI T) hr.dn rfl T.vK T.rK.kp T.vL .nil cB (@xj _ _ _ _ _ (j4 (pv 0) rfl) (pv 1) rfl rfl))) (@jc _ _ _ _ _ (qc (j6 (j4 (pv 0) rfl) T.qi T.Gw (NN T) hr.dn T.Gx .nil jz (@xj _ _ _ _ _ (pv 1) (pv 2) rfl rfl))) (@je _ _ _ (jr (pv 2))))),?_⟩;refine⟨_,rfl,C,_,dC,_,_,rfl,R.ct.ob.1,T.jx,T.zh,wL _ _,_,rfl,.ref W.x,v,rfl,.inr ⟨Z,1,W,Y,rfl,R.wr,sv,?_⟩⟩;rcases hc with⟨n,g⟩|⟨h,B,rfl,e,lx,lh,nh,q⟩
 .exact .inl ⟨n,g⟩
 refine .inr ⟨h,B,rfl,e,λH1 p s1 hp c1=>?_⟩;have R1:=R.same s1;refine⟨_,rfl,C,_,dC,_,_,rfl,R1.ct.ob.1,T.jx,T.ze,wK _ _,Bq,dB,_,rfl,R1.ct.bd.ob,mT _ _ (by decide+kernel) (by decide+kernel),_,rfl,_,rfl,Bq,dB,S,en,xs,ps,p,(B.xk,B.held),h,rfl,R1.ct.bd,c1.pair,lx,lh,λz=>absurd z nh,λ_ aW H2 B2 k2 iJ=>?_⟩;obtain⟨af,R2,f⟩:=R1.put B2 k2 iJ;refine⟨_,rfl,q af H2 aW p R2 ((Fr.same s1).trans f) ?_⟩;obtain⟨c,d,h1,h2,h3⟩:=c1;exact⟨c,d,(dj f h1 (pM R1.kr h1)).1,(dj f h2 (pM R1.kr h2)).1,(dj f h3 (pM R1.kr h3)).1⟩
theorem jq4 (T:Txt K mg t):zi P w K mg base (bz P w) 6 t.FO t.FP ["self","liar","cut"] (λvs H Q E=>∃Z W Y ls C dC Bq dB S en xs ps v x,vs=[.ref C,v,x]/\eF P w t H Z W Y ls C dC Bq dB S en xs ps/\simple v=true/\(((∀i,v= .int i->i∉ls)/\bZ t E H (.eD v))\/∃h b,v= .int h/\h∈ls/\dq H Y.n W.aO x b/\((b=false/\bZ t E H .cut)\/∃a k,b=true/\x= .ref a/\cI H k a/\xs.length<=1000/\(qf ps k).length<=1000/\h∉qf ps k/\∀af H' aW,eF P w t H' af W Y ls C dC Bq dB S en aW (kO ps k h)->Fr (λr=>r.1=9) Z H af H'->Q .aj H'))):=by
 refine T.Yi.fO (N:=["self","liar","cut"]) λ_ A _ s H vs Q E hr h=>?_;obtain⟨Z,W,Y,ls,C,dC,Bq,dB,S,en,xs,ps,v,x,rfl,R,sv,hc⟩:=h;refine⟨_,(@jc _ _ _ _ _ (qc (j6 (j4 (pv 0) rfl) T.jt T.X3 (jkq T) hr.dn T.X4 .nil cB (jb (pv 1) jg))) (@jc _ _ _ _ _ (qc (j6 (pv 0) T.jx T.x9 (wc T) hr.dn T.yu .nil cB (jb (pv 2) jg))) (@je _ _ _ (qc (j6 (j4 (pv 0) rfl) T.qi T.Gw (NN T) hr.dn T.Gx .nil jz (@xj _ _ _ _ _ (pv 1) (pv 2) rfl rfl)))))),?_⟩;refine⟨_,rfl,C,_,dC,_,_,rfl,R.ct.ob.1,T.jx,T.zh,wL _ _,W.x,W.dx,_,rfl,R.wr.ob.1,gG,_,rfl,Z,1,W,Y,v,ls,rfl,R.wr,R.ly.1,sv,?_⟩;rcases hc with⟨n,g⟩|⟨h,b,rfl,hl,hb,hc⟩
 .exact .inl ⟨n,g⟩
 refine .inr ⟨h,rfl,hl,?_⟩;refine⟨_,rfl,C,dC,_,rfl,R.ct.ob.1,gJ _ _ (by decide+kernel) (by decide+kernel),_,rfl,C,dC,Bq,W,Y.n,x,b,rfl,R.ct.ob.1,R.wr.ob.1,hb,?_⟩;rcases hc with⟨rfl,g⟩|⟨a,k,rfl,rfl,c,lx,lh,nh,q⟩
 .exact .inl ⟨rfl,g⟩
 refine .inr ⟨rfl,λH1 s1=>?_⟩;have R1:=R.same s1;refine⟨_,rfl,C,_,dC,_,_,rfl,R1.ct.ob.1,T.jx,T.ze,wK _ _,Bq,dB,_,rfl,R1.ct.bd.ob,mT _ _ (by decide+kernel) (by decide+kernel),_,rfl,_,rfl,Bq,dB,S,en,xs,ps,a,k,h,rfl,R1.ct.bd,(c.same s1).pair,lx,lh,λz=>absurd z nh,λ_ aW H2 B2 k2 iJ=>?_⟩;obtain⟨af,R2,f⟩:=R1.put B2 k2 iJ;exact q af H2 aW R2 ((Fr.same s1).trans f)
theorem vk (T:Txt K mg t):zi P w K mg base (bz P w) 6 t.wg t.wd ["self","cut"] (λvs H Q E=>∃Z W Y ls C dC Bq dB S en xs ps x b,vs=[.ref C,x]/\eF P w t H Z W Y ls C dC Bq dB S en xs ps/\dq H Y.n W.aO x b/\((b=false/\bZ t E H .cut)\/∃a k,b=true/\x= .ref a/\cI H k a/\(qf ps k).length<64/\∀H' r (ns:List Int),qg H H'->H' r=some (.lst (ns.map V.int))->ns.Perm (qf ps k)->ns.Pairwise (·<=·)->Q (.ref r) H')):=by
 refine T.Yl.fO (N:=["self","cut"]) λ_ A _ s H vs Q E hr h=>?_;obtain⟨Z,W,Y,ls,C,dC,Bq,dB,S,en,xs,ps,x,b,rfl,R,hb,hc⟩:=h;refine⟨_,(@jc _ _ _ _ _ (qc (j6 (pv 0) T.jx T.x9 (wc T) hr.dn T.yu .nil cB (jb (pv 1) jg))) (@je _ _ _ (jr (j6 (j4 (pv 0) rfl) T.qi T.Xf (jk5 T) hr.dn T.Xg .nil jz (jb (pv 1) jg))))),?_⟩;refine⟨_,rfl,C,dC,_,rfl,R.ct.ob.1,gJ _ _ (by decide+kernel) (by decide+kernel),_,rfl,C,dC,Bq,W,Y.n,x,b,rfl,R.ct.ob.1,R.wr.ob.1,hb,?_⟩;rcases hc with⟨rfl,g⟩|⟨a,k,rfl,rfl,c,l64,q⟩
 .exact .inl ⟨rfl,g⟩
 refine .inr ⟨rfl,λH1 s1=>?_⟩;have R1:=R.same s1;exact⟨_,rfl,C,_,dC,_,_,rfl,R1.ct.ob.1,T.jx,T.ze,wK _ _,Bq,dB,_,rfl,R1.ct.bd.ob,mT _ _ (by decide+kernel) (by decide+kernel),_,rfl,Bq,dB,S,en,xs,ps,a,k,rfl,R1.ct.bd.rd,c.same s1,l64,λH2 r ns s2 _ e p o=>q H2 r ns (s1.trans s2) e p o⟩
theorem OW (T:Txt K mg t):zi P w K mg base CX0 3 t.FQ t.FR ["self"] (λvs H Q _=>∃Z W Y ls C dC Bq dB S en xs ps,vs=[.ref C]/\eF P w t H Z W Y ls C dC Bq dB S en xs ps/\ps.length<64/\(ps.map (·.1)).Nodup/\∀H' r us jL jM,qg H H'->H' r=some (.lst jL)->Paired (iM H') us (gh ps en)->jL.Perm us->jB K H' jL jM->jM.Perm (gh ps en)->jM.Pairwise (λa b=>eC a b=true)->Q (.ref r) H'):=by
 refine T.Ym.bY (N:=["self"]) λ_ A _ s H vs Q E hr h=>?_;obtain⟨Z,W,Y,ls,C,dC,Bq,dB,S,en,xs,ps,rfl,R,l64,nd,q⟩:=h;refine⟨_,(@je _ _ _ (jr (jW (j4 (pv 0) rfl) T.qi T.Xj (joa T) hr.dn T.Xk .nil jz))),?_⟩;exact⟨_,rfl,C,_,dC,_,_,rfl,R.ct.ob.1,T.jx,T.ze,wK _ _,Bq,dB,_,rfl,R.ct.bd.ob,mT _ _ (by decide+kernel) (by decide+kernel),Bq,dB,S,en,xs,ps,rfl,R.ct.bd,l64,nd,λH' r us jL jM s1 _ e a1 a2 a3 a4 a5=>q H' r us jL jM s1 e a1 a2 a3 a4 a5⟩
noncomputable def behind (k l:Cut):Bool:=(List.zip k.1 l.1).all λx=>decide (x.1<=x.2)
theorem jpm (T:Txt K mg t):zi P w K mg base (bz P w) 6 t.FT t.FU ["self","house","cut"] (λvs H Q E=>∃Z W Y ls C dC Bq dB S en xs ps v x,vs=[.ref C,v,x]/\eF P w t H Z W Y ls C dC Bq dB S en xs ps/\simple v=true/\((mX Y v/\bZ t E H (.eD v))\/∃h B b,v= .int h/\Y.keep h=some B/\dq H Y.n W.aO x b/\((b=false/\bZ t E H .cut)\/∃a k,b=true/\x= .ref a/\cI H k a/\(((qf ps k).length<en/\bZ t E H .cut)\/(en<=(qf ps k).length/\B.xk.length=k.1.length/\B.xk.length<=1000/\behind (B.xk,B.held) k=false/\bZ t E H .now))))):=by
 refine T.Yn.D0 Mq λ_ A _ s H vs Q E hr h=>?_;obtain⟨Z,W,Y,ls,C,dC,Bq,dB,S,en,xs,ps,v,x,rfl,R,sv,hc⟩:=h;refine⟨_,(@jc _ _ _ _ _ (qz (i:=3) Mq.nd rfl (Or.inl rfl) (jn (wI T) hr.dn rfl T.vK T.rK.kp T.vL .nil cB (@xj _ _ _ _ _ (j4 (pv 0) rfl) (pv 1) rfl rfl))) (@jc _ _ _ _ _ (qc (j6 (pv 0) T.jx T.x9 (wc T) hr.dn T.yu .nil cB (jb (pv 2) jg))) (@jc _ _ _ _ _ (zo (x8 (zk (j6 (j4 (pv 0) rfl) T.qi T.yo (NL T) hr.dn T.va .nil jz (jb (pv 2) jg)))) (@je _ _ _ (rA rfl T.GD T.Np (jb xh jg))) jv) (@jc _ _ _ _ _ (zo (x8 (zk (jn (Ho T) hr.dn rfl T.Gz T.AR.kp T.GA .nil jz (@xj _ _ _ _ _ (pv 3) (pv 2) rfl rfl)))) (@je _ _ _ (rA rfl T.GC T.Nn (jb xh jg))) jv)
  yk)))),?_⟩;refine⟨_,rfl,C,_,dC,_,_,rfl,R.ct.ob.1,T.jx,T.zh,wL _ _,_,rfl,.ref W.x,v,rfl,.inr ⟨Z,1,W,Y,rfl,R.wr,sv,?_⟩⟩;rcases hc with⟨n,g⟩|⟨h,B,b,rfl,e,hb,hc⟩
 .exact .inl ⟨n,g⟩
 refine .inr ⟨h,B,rfl,e,λH1 p s1 hp c1=>?_⟩;have R1:=R.same s1;refine⟨_,rfl,C,dC,_,rfl,R1.ct.ob.1,gJ _ _ (by decide+kernel) (by decide+kernel),_,rfl,C,dC,Bq,W,Y.n,x,b,rfl,R1.ct.ob.1,R1.wr.ob.1,hb.same s1,?_⟩;rcases hc with⟨rfl,g⟩|⟨a,k,rfl,rfl,c,hc⟩
 .exact .inl ⟨rfl,g.same s1⟩
 refine .inr ⟨rfl,λH2 s2=>?_⟩;have R2:=R1.same s2;have bD:=s1.trans s2;refine⟨_,rfl,C,_,dC,_,_,rfl,R2.ct.ob.1,T.jx,T.ze,wK _ _,Bq,dB,_,rfl,R2.ct.bd.ob,mT _ _ (by decide+kernel) (by decide+kernel),_,rfl,Bq,dB,S,en,xs,ps,a,k,rfl,R2.ct.bd.rd,(c.same bD).pair,λH3 s3=>⟨_,rfl,?_⟩⟩;rcases hc with⟨z,g⟩|⟨z,ln,l1,bh,g⟩
 .rw[decide_eq_false (by omega)];exact yz ⟨iG,g _ (bD.trans s3)⟩
 rw[decide_eq_true z];refine qq ?_;refine⟨_,rfl,_,rfl,p,a,(B.xk,B.held),k,rfl,(c1.same s2).same s3,(c.same bD).same s3,ln,l1,λH4 s4=>⟨_,rfl,?_⟩⟩;rw[show((List.zip B.xk k.1).all λx=>decide (x.1<=x.2))=false from bh];exact yz ⟨iG,g _ ((bD.trans s3).trans s4)⟩
noncomputable def j4f (K:W.Frag):Sp:=λvs H Q _=>∃(a:Addr)(ns:List Int),vs=[.ref a]/\ai K H a (ns.map V.int)/\∀T R H',H T=none->H R=none->qg H H'->iB T R H'->Q (.ref T) H'
noncomputable def j4h:Sp:=λvs H Q _=>∃(T R:Addr)(m:Int),vs=[.ref T,.int m]/\iB T R H/\1<=m/\m<1073741824/\∀d H',0<=d->d<m->iB T R H'->AV T R H H'->Q (.int d) H'
noncomputable def j5e:Sp:=λvs H Q _=>∃(T R S:Addr)(xs:List V),vs=[.ref T,.ref S]/\iB T R H/\H S=some (.lst xs)/\S≠T/\S≠R/\0<xs.length/\xs.length<=1000000/\∀(i:Nat)(x:V)(H':Hp),xs[i]?=some x->iB T R H'->AV T R H H'->Q x H'
theorem juv (T:Txt K mg t):zi P w K mg base CX0 1 t.F5 t.F6 ["_law_script"] (j4f K):=by
 refine T.M0.bY (N:=["_law_script"]) λ_ A _ s H vs Q E hr h=>?_;obtain⟨a,ns,rfl,ha,k⟩:=h;refine⟨_,(@je _ _ _ (jr (@qk _ _ _ _ (@xj _ _ _ _ _ (sH (jy (fK hr.units) (pv 0) (@qk _ _ _ _ jg) (j7 _)) (my kq rfl T.mR boot_list (jb (pv 0) jg)) (@qk _ _ _ _ (jb jf jg))) jf rfl rfl)))),?_⟩;refine⟨_,rfl,dF,λp hp=>?_⟩;have s1:=jh (o:=.lst []) hp;refine⟨.lst (ns.map Dt.int),.lst (([]:List Int).map Dt.int),Km (s1.seq ha),Km (ai.of ja),Tf _,_,rfl,?_⟩;rw[Td];refine cz (λh1=>?_) (λh1=>?_)
 .have ne:=nd h1;refine⟨_,rfl,a,_,rfl,.inl (s1.seq ha),λR hR=>?_⟩;refine⟨bc,λT' hT=>?_⟩;have s2:=s1.trans (jh (o:=.lst (ns.map V.int)) hR);have Hs:R≠T':=ji ja hT;refine k T' R _ (s2.free hT) (s1.free hR) (s2.trans (jh hT)) ⟨ns,0,ja,by rw[jd Hs,ja],?_⟩;cases ns with
  |nil=>exact absurd rfl ne
  |cons x r=>exact Nat.succ_pos _
 .refine⟨kJ,λR hR=>?_⟩;refine⟨bc,λT' hT=>?_⟩;have s2:=s1.trans (jh (o:=.lst [.int 0]) hR);have Hs:R≠T':=ji ja hT;exact k T' R _ (s2.free hT) (s1.free hR) (s2.trans (jh hT)) ⟨[0],0,ja,by rw[jd Hs,ja];rfl,Nat.one_pos⟩
theorem jtn (T:Txt K mg t):zi P w K mg base CX0 1 t.F7 t.F8 ["_law_town_here","_law_many"] j4h:=by
 refine T.M1.dQ ku λ_ A _ s H vs Q E hr h=>?_;obtain⟨To,R,m,rfl,hT,m1,m2,k⟩:=h;have OX:=hT.ne;obtain⟨row,c,h1,h2,h3⟩:=hT;refine⟨_,(@jc _ _ _ _ _ (qz (i:=2) ku.nd rfl (Or.inl rfl) (dD gR (pv 0) jf (λ_ _=>rfl))) (@jc _ _ _ _ _ (nN (vp yS (dD gR (pv 0) jf (λ_ _=>rfl)) jf) (IJ (pv 0) jf set_list)) (@jc _ _ _ _ _ (qz (i:=3) ku.nd rfl (Or.inl rfl) (vp qH (dD gR (pv 0) jf (λ_ _=>rfl)) (jm qb rfl T.fh boot_len (jb (pv 2) jg)))) (@jc _ _ _ _ _ (qz (i:=4) ku.nd rfl (Or.inl rfl) (dD gR (pv 2) (pv 3) (λ_ _=>rfl))) (@jc _ _ _ _ _ (zo (jy Jk (pv 4) jf (j7 _)) (@jc _ _ _ _ _ (nN (vp CD (pv 4) (pv 1)) (IJ (pv 2) (pv 3) set_list)) (@je _ _ _ (jr (vp qH (pv 4) (pv 1))))) jv) (@jc _ _ _ _ _ (qz (i:=5) ku.nd rfl (Or.inl rfl) (vp qH (vp yS (pv 4) (vp CC jf (dD gR (pv 0) jf (λ_ _=>rfl)))) jf)) (@jc _ _ _ _ _ (qz (i:=5) ku.nd rfl (Or.inl rfl) (vp qH (vp QT (pv 5) jf) jf)) (@je _ _ _ (jr (vp qH (vp CD (vp qH (vp yS (vp CC (vp CD (pv 5) jf) jf) (pv 5)) jf) jf) (pv 1))))))))))),?_⟩;refine⟨_,rfl,To,_,0,.ref R,rfl,rfl,ai.of h1,rfl,?_⟩;refine⟨_,rfl,To,_,1,.int c,rfl,rfl,ai.of h1,rfl,_,_,rfl,rfl,?_⟩;refine⟨_,rfl,To,_,1,1,rfl,rfl,h1,rfl,?_⟩;have g1:(upd H To (.lst ([V.ref R,V.int c].set 1 (V.int (c+1))))) To=some (.lst [.ref R,.int (c+1)]):=ja;have g2:(upd H To (.lst ([V.ref R,V.int c].set 1 (V.int (c+1))))) R=some (.lst (row.map V.int)):=by rw[jd OX.symm];exact h2
 have kp:AV To R H (upd H To (.lst ([V.ref R,V.int c].set 1 (V.int (c+1))))):=λb o e n1 _=>by rw[jd n1];exact e
 generalize upd H To (.lst ([V.ref R,V.int c].set 1 (V.int (c+1))))=H1 at g1 g2 kp;have hl:(0:Int)<((row.map V.int).length:Int):=by rw[length_map];omega
 refine⟨_,rfl,To,_,1,.int (c+1),rfl,rfl,ai.of g1,rfl,_,rfl,R,_,rfl,.inl (ai.of g2),_,_,rfl,rfl,hl,?_⟩;rw[length_map]at hl⊢;have b0:0<=(c+1)%(row.length:Int):=Int.emod_nonneg _ (by omega);have b1:(c+1)%(row.length:Int)<(row.length:Int):=Int.emod_lt_of_pos _ hl;have b2:((c+1)%(row.length:Int)).toNat<row.length:=by omega
 refine⟨_,rfl,_,rfl,R,_,((c+1)%(row.length:Int)),_,rfl,rfl,ai.of g2,mS b0 (get_map b2),?_⟩;refine⟨_,rfl,_,_,rfl,rfl,_,rfl,?_⟩;refine cz (λh5=>?_) (λh5=>?_)
 .refine⟨_,rfl,_,rfl,_,_,rfl,rfl,⟨by omega,m2⟩,?_⟩;refine⟨_,rfl,_,rfl,R,_,((c+1)%(row.length:Int)),_,rfl,rfl,g2,vO b0 (by rw[length_map];exact b2),?_⟩;rw[CG];refine⟨_,rfl,_,rfl,_,_,rfl,rfl,(by show(0:Int)<m;omega),?_⟩;refine k _ _ (Int.emod_nonneg _ (by omega)) (Int.emod_lt_of_pos _ (by omega)) ⟨_,c+1,by rw[jd OX];exact g1,ja,by rw[length_set];exact h3⟩ λb o e n1 n2=>?_;rw[jd n2];exact kp b o e n1 n2
 .have big:∀z:Int,(z%4294967291).natAbs<2^64:=λz=>by
   have u1:=Int.emod_nonneg z (show(4294967291:Int)≠0 by decide);have u2:=Int.emod_lt_of_pos z (show(0:Int)<4294967291 by decide);omega
  refine⟨_,rfl,_,rfl,To,_,1,.int (c+1),rfl,rfl,ai.of g1,rfl,_,_,rfl,rfl,.inl ⟨by decide,by decide⟩,_,_,rfl,rfl,_,_,rfl,rfl,(by show(0:Int)<4294967291;decide),?_⟩;refine⟨_,rfl,_,_,rfl,rfl,⟨by decide,by decide,big _⟩,_,_,rfl,rfl,(by show(0:Int)<4294967279;decide),?_⟩;refine⟨_,rfl,_,_,rfl,rfl,⟨by decide,by decide⟩,_,_,rfl,rfl,.inr ⟨by decide,by decide⟩,_,rfl,_,_,rfl,rfl,_,_,rfl,rfl,(by show(0:Int)<4294967231;decide),_,_,rfl,rfl,⟨by decide,by decide⟩,_,rfl,_,_,rfl,rfl,(by show(0:Int)<m;omega),?_⟩;exact k _ _ (Int.emod_nonneg _ (by omega)) (Int.emod_lt_of_pos _ (by omega)) ⟨row,c+1,g1,g2,h3⟩ kp
theorem jtw (T:Txt K mg t):zi P w K mg base CX0 2 t.Ga t.Gb ["_law_town_here","_law_some"] j5e:=by
 refine T.M3.bY (N:=["_law_town_here","_law_some"]) λ_ A _ s H vs Q E hr h=>?_;obtain⟨To,R,S,xs,rfl,hT,hS,n1,n2,l0,l1,k⟩:=h;refine⟨_,(@je _ _ _ (jr (dD gR (pv 1) (jn (jtn T) hr.dn rfl T.YB T.M1.kp T.YC .nil jz (@xj _ _ _ _ _ (pv 0) (jm qb rfl T.fh boot_len (jb (pv 1) jg)) rfl rfl)) (λ_ _=>rfl)))),?_⟩;refine⟨_,rfl,_,rfl,_,rfl,S,xs,rfl,.inl (ai.of hS),To,R,_,rfl,hT,by omega,by omega,λd H' d0 d1 hT' kp=>?_⟩;have hd:d.toNat<xs.length:=by omega
 exact⟨S,xs,d,xs[d.toNat],rfl,rfl,ai.of (kp _ _ hS n1 n2),mS d0 (by simp[hd]),k d.toNat _ H' (by simp[hd]) hT' kp⟩
theorem j4e {C a0 a1 a2 a3 a4 a5 a6 a7 a8 a9 a10 a11 a12:Value}{b0 b1 b2 b3 b4 b5 b6 b7 b8 b9 eG OY mW:Bool}(h:kinds K C [a0,a1,a2,a3,a4,a5,a6,a7,a8,a9,a10,a11,a12]=[some b0,some b1,some b2,some b3,some b4,some b5,some b6,some b7,some b8,some b9,some eG,some OY,some mW]):W.kitOne K C a0=some b0/\W.kitOne K C a1=some b1/\W.kitOne K C a2=some b2/\W.kitOne K C a3=some b3/\W.kitOne K C a4=some b4/\W.kitOne K C a5=some b5/\W.kitOne K C a6=some b6/\W.kitOne K C a7=some b7/\
  W.kitOne K C a8=some b8/\W.kitOne K C a9=some b9/\W.kitOne K C a10=some eG/\W.kitOne K C a11=some OY/\W.kitOne K C a12=some mW:=by
 unfold kinds at h;simpa only[map_cons,map_nil,List.cons.injEq,and_true]using h
noncomputable def words:List V:=[.str "number",.str "order",.str "houses",.str "house",.str "purse",.str "letter",.str "now",.str "much",.str "paper",.str "cut",.str "text"]
noncomputable def jyb (K:W.Frag)(t:Ad):Sp:=λvs H Q _=>∃(ea C:Addr)(b0 b1 b2 b3 b4 b5 b6 b7 b8 b9 eG:Bool)(x:V),vs=[.ref ea]/\H ea=some (mI ea (.ref C))/\fM K C/\kinds K (.ref C) (asked t)=[some b0,some b1,some b2,some b3,some b4,some b5,some b6,some b7,some b8,some b9,some eG,some true,some true]/\[b0,b1,b2,b3,b4,b5,b6,b7,b8,b9,eG].count true=1/\
 words[[b0,b1,b2,b3,b4,b5,b6,b7,b8,b9,eG].idxOf true]?=some x/\∀H',qg H H'->Q x H'
set_option maxHeartbeats 0 in
theorem jqk (T:Txt K mg t) : zi P w K mg base CX0 1 t.Gd t.Ge ["_law_caught"] (jyb K t):=by
 refine T.M4.dQ yl λ_ A _ s H vs Q E hr h=>?_
 obtain ⟨ea,C,b0,b1,b2,b3,b4,b5,b6,b7,b8,b9,eG,x,rfl,he,hX,hk,hc,hw,k⟩:=h
 obtain ⟨k0,k1,k2,k3,k4,k5,k6,k7,k8,k9,k10,k11,k12⟩:=j4e hk
 refine ⟨_,(@jc _ _ _ _ _ (@qz _ _ 1 _ _ _ _ yl.nd rfl (Or.inl rfl) (@qk _ _ _ _ (@dG _ _ _ _ _ _ _ (jm zy rfl T.jq boot_isinstance (@xj _ _ _ _ _ (pv 0) (zd (v:=.ref t.Gp) rfl T.YZ rfl) rfl rfl)) (jm zy rfl T.jq boot_isinstance (@xj _ _ _ _ _ (pv 0) (zd (v:=.ref t.Gq) rfl T.Y0 rfl) rfl rfl)) (jm zy rfl T.jq boot_isinstance (@xj _ _ _ _ _ (pv 0) (zd (v:=.ref t.Gr) rfl T.Y2 rfl) rfl rfl)) rfl rfl rfl)) (by rfl) (by first | exact .inl rfl | exact .inr rfl))
  (@jc _ _ _ _ _ (qz (i:=1) yl.nd rfl (Or.inl rfl) (vp zA (pv 1) (@qk _ _ _ _ (@dG _ _ _ _ _ _ _ (jm zy rfl T.jq boot_isinstance (@xj _ _ _ _ _ (pv 0) (zd (v:=.ref t.ju) rfl T.AU rfl) rfl rfl)) (jm zy rfl T.jq boot_isinstance (@xj _ _ _ _ _ (pv 0) (zd (v:=.ref t.yf) rfl T.Nj rfl) rfl rfl)) (jm zy rfl T.jq boot_isinstance (@xj _ _ _ _ _ (pv 0) (zd (v:=.ref t.Gn) rfl T.YY rfl) rfl rfl)) rfl rfl rfl))))
  (@jc _ _ _ _ _ (qz (i:=1) yl.nd rfl (Or.inl rfl) (vp zA (pv 1) (@qk _ _ _ _ (@dG _ _ _ _ _ _ _ (jm zy rfl T.jq boot_isinstance (@xj _ _ _ _ _ (pv 0) (zd (v:=.ref t.vm) rfl T.GC rfl) rfl rfl)) (jm zy rfl T.jq boot_isinstance (@xj _ _ _ _ _ (pv 0) (zd (v:=.ref t.uz) rfl T.Nk rfl) rfl rfl)) (jm zy rfl T.jq boot_isinstance (@xj _ _ _ _ _ (pv 0) (zd (v:=.ref t.xl) rfl T.Nl rfl) rfl rfl)) rfl rfl rfl))))
  (@jc _ _ _ _ _ (qz (i:=1) yl.nd rfl (Or.inl rfl) (vp zA (pv 1) (@qk _ _ _ _ (@xj _ _ _ _ _ (jm zy rfl T.jq boot_isinstance (@xj _ _ _ _ _ (pv 0) (zd (v:=.ref t.gq) rfl T.GD rfl) rfl rfl)) (jm zy rfl T.jq boot_isinstance (@xj _ _ _ _ _ (pv 0) (zd (v:=.ref t.Gm) rfl T.YX rfl) rfl rfl)) rfl rfl))))
  (@jc _ _ _ _ _ (zo (PW.pt (cY (jy sP (iq PySem.F.plainAttrs_list PySem.F.slot_list_count PySem.F.type_list_count TX (pv 1) (jb cL jg)) jf (j7 _)) (cY (x8 (zk (jm zy rfl T.jq boot_isinstance (@xj _ _ _ _ _ (pv 0) (zd (v:=.ref t.zq) rfl T.Nm rfl) rfl rfl)))) (eJ (x8 (zk (jm zy rfl T.jq boot_isinstance (@xj _ _ _ _ _ (pv 0) (iS (v:=.ty "ValueError") rfl T.Zm WM rfl) rfl rfl)))))))) (@je _ _ _ (jr xh)) jv)
  (@jc _ _ _ _ _ (@qz _ _ 2 _ _ _ _ yl.nd rfl (Or.inl rfl) (@qk _ _ _ _ (@Wy _ _ _ _ _ _ _ _ _ _ _ _ _ _ _ _ _ _ _ _ _ _ _ xh xh xh xh xh xh xh xh xh xh xh rfl rfl rfl rfl rfl rfl rfl rfl rfl rfl rfl)) (by rfl) (by first | exact .inl rfl | exact .inr rfl))
  (@je _ _ _ (jr (dD gR (pv 2) (iq PySem.F.plainAttrs_list PySem.F.slot_list_index PySem.F.type_list_index TY (pv 1) (jb cL jg)) (λ_ _=>rfl)))))))))),?_⟩
 refine ⟨_,rfl,ea,C,_,_,b0,rfl,he,hX,rfl,k0,_,rfl,ea,C,_,_,b1,rfl,he,hX,rfl,k1,_,rfl,ea,C,_,_,b2,rfl,he,hX,rfl,k2,oV,λp1 h1=>?_⟩
 have s1:=jh (o:=.lst [.bl b0,.bl b1,.bl b2]) h1
 have Ht:=s1 _ _ he
 refine ⟨_,rfl,_,rfl,ea,C,_,_,b3,rfl,Ht,hX,rfl,k3,_,rfl,ea,C,_,_,b4,rfl,Ht,hX,rfl,k4,_,rfl,ea,C,_,_,b5,rfl,Ht,hX,rfl,k5,oV,λp2 h2=>?_⟩
 refine ⟨p1,p2,[.bl b0,.bl b1,.bl b2],[.bl b3,.bl b4,.bl b5],rfl,rfl,(by rw [jd (ji ja h2)]; exact ja),ja,Er,λp3 h3=>?_⟩
 have s3:=(s1.trans (jh (o:=.lst [.bl b3,.bl b4,.bl b5]) h2)).trans (jh (o:=.lst ([.bl b0,.bl b1,.bl b2] ++ [.bl b3,.bl b4,.bl b5])) h3)
 have g3:(upd (upd (upd H p1 (.lst [.bl b0,.bl b1,.bl b2])) p2 (.lst [.bl b3,.bl b4,.bl b5])) p3 (.lst ([.bl b0,.bl b1,.bl b2] ++ [.bl b3,.bl b4,.bl b5]))) p3 = some (.lst [.bl b0,.bl b1,.bl b2,.bl b3,.bl b4,.bl b5]):=ja
 generalize upd (upd (upd H p1 (.lst [.bl b0,.bl b1,.bl b2])) p2 (.lst [.bl b3,.bl b4,.bl b5])) p3 (.lst ([.bl b0,.bl b1,.bl b2] ++ [.bl b3,.bl b4,.bl b5])) = H3 at s3 g3
 have Hu:=s3 _ _ he
 refine ⟨_,rfl,_,rfl,ea,C,_,_,b6,rfl,Hu,hX,rfl,k6,_,rfl,ea,C,_,_,b7,rfl,Hu,hX,rfl,k7,_,rfl,ea,C,_,_,b8,rfl,Hu,hX,rfl,k8,oV,λp4 h4=>?_⟩
 refine ⟨p3,p4,[.bl b0,.bl b1,.bl b2,.bl b3,.bl b4,.bl b5],[.bl b6,.bl b7,.bl b8],rfl,rfl,(by rw [jd (ji g3 h4)]; exact g3),ja,Md,λp5 h5=>?_⟩
 have s5:=(s3.trans (jh (o:=.lst [.bl b6,.bl b7,.bl b8]) h4)).trans (jh (o:=.lst ([.bl b0,.bl b1,.bl b2,.bl b3,.bl b4,.bl b5] ++ [.bl b6,.bl b7,.bl b8])) h5)
 have g5:(upd (upd H3 p4 (.lst [.bl b6,.bl b7,.bl b8])) p5 (.lst ([.bl b0,.bl b1,.bl b2,.bl b3,.bl b4,.bl b5] ++ [.bl b6,.bl b7,.bl b8]))) p5 = some (.lst [.bl b0,.bl b1,.bl b2,.bl b3,.bl b4,.bl b5,.bl b6,.bl b7,.bl b8]):=ja
 generalize upd (upd H3 p4 (.lst [.bl b6,.bl b7,.bl b8])) p5 (.lst ([.bl b0,.bl b1,.bl b2,.bl b3,.bl b4,.bl b5] ++ [.bl b6,.bl b7,.bl b8])) = H5 at s5 g5
 have uH:=s5 _ _ he
 refine ⟨_,rfl,_,rfl,ea,C,_,_,b9,rfl,uH,hX,rfl,k9,_,rfl,ea,C,_,_,eG,rfl,uH,hX,rfl,k10,bc,λp6 h6=>?_⟩
 refine ⟨p5,p6,[.bl b0,.bl b1,.bl b2,.bl b3,.bl b4,.bl b5,.bl b6,.bl b7,.bl b8],[.bl b9,.bl eG],rfl,rfl,(by rw [jd (ji g5 h6)]; exact g5),ja,Me,λp7 h7=>?_⟩
 have s7:=(s5.trans (jh (o:=.lst [.bl b9,.bl eG]) h6)).trans (jh (o:=.lst ([.bl b0,.bl b1,.bl b2,.bl b3,.bl b4,.bl b5,.bl b6,.bl b7,.bl b8] ++ [.bl b9,.bl eG])) h7)
 have g7:(upd (upd H5 p6 (.lst [.bl b9,.bl eG])) p7 (.lst ([.bl b0,.bl b1,.bl b2,.bl b3,.bl b4,.bl b5,.bl b6,.bl b7,.bl b8] ++ [.bl b9,.bl eG]))) p7 = some (.lst ([b0,b1,b2,b3,b4,b5,b6,b7,b8,b9,eG].map V.bl)):=ja
 generalize upd (upd H5 p6 (.lst [.bl b9,.bl eG])) p7 (.lst ([.bl b0,.bl b1,.bl b2,.bl b3,.bl b4,.bl b5,.bl b6,.bl b7,.bl b8] ++ [.bl b9,.bl eG])) = H7 at s7 g7
 have OZ:=s7 _ _ he
 have wN:true ∈ [b0,b1,b2,b3,b4,b5,b6,b7,b8,b9,eG]:=List.count_pos_iff.mp (by rw [hc]; decide)
 generalize [b0,b1,b2,b3,b4,b5,b6,b7,b8,b9,eG] = bs at hc hw g7 wN
 refine ⟨_,rfl,.inl ⟨rfl,_,ai.of g7⟩,p7,bs,true,rfl,rfl,ai.of g7,rfl,_,rfl,?_⟩
 refine cz (λz=>?_) (λ_=>?_)
 .exfalso
  rw [hc] at z
  exact absurd z (by decide)
 refine ⟨_,rfl,ea,C,_,_,true,rfl,OZ,hX,rfl,k11,_,rfl,qq ?_⟩
 refine ⟨_,rfl,ea,C,_,_,true,rfl,OZ,hX,rfl,k12,_,rfl,qq ?_⟩
 refine ⟨Me,λp8 h8=>?_⟩
 have s8:=s7.trans (jh (o:=.lst words) h8)
 have g8:=(jh (o:=.lst words) h8) _ _ g7
 refine ⟨_,rfl,_,rfl,.inl ⟨rfl,_,ai.of g8⟩,p7,bs,true,rfl,rfl,ai.of g8,wN,?_⟩
 exact ⟨p8,words,_,x,rfl,rfl,ai.of ja,mS (by omega) (by rw [Int.toNat_natCast]; exact hw),k _ s8⟩
noncomputable def Tells (H:Hp)(Q:VK):oX->Prop
 | .eD v=>∀r H',H r=none->qg H H'->H' r=some (.tup [.str "house",v])->Q (.ref r) H'
 | .now=>∀H',qg H H'->Q (.str "now") H'
 | .pap=>∀H',qg H H'->Q (.str "paper") H'
 | .cut=>∀H',qg H H'->Q (.str "cut") H'
noncomputable def O0 (t:Ad)(H:Hp)(cls:Value)(dd:Option Addr)(a:oX):Prop:=(∃v d,a= .eD v/\cls= .ref t.ju/\dd=some d/\H d=some (.xd [("house",v)]))\/(a= .now/\cls= .ref t.vm)\/(a= .pap/\cls= .ref t.xl)\/(a= .cut/\cls= .ref t.gq)
theorem j0b {t:Ad}{H:Hp}{E:XK}{a:oX}(h:∀cls dd H',qg H H'->O0 t H' cls dd a->E cls dd H'):bZ t E H a:=by
 cases a with
 |eD v=>exact λd H' s hd=>h _ _ _ s (.inl ⟨v,d,rfl,rfl,rfl,hd⟩)
 |now=>exact λH' s=>h _ _ _ s (.inr (.inl ⟨rfl,rfl⟩))
 |pap=>exact λH' s=>h _ _ _ s (.inr (.inr (.inl ⟨rfl,rfl⟩)))
 |cut=>exact λH' s=>h _ _ _ s (.inr (.inr (.inr ⟨rfl,rfl⟩)))
noncomputable def qao (H:Hp)(W:WA)(Y:Wd)(ls:List Int)(en:Int)(ps:zc)(kd:Int)(v y:V)(a:oX):Prop:=(kd=2/\simple v=true/\mX Y v/\a= .eD v)\/(kd=3/\simple v=true/\(((∀i,v= .int i->i∉ls)/\a= .eD v)\/∃h,v= .int h/\h∈ls/\dq H Y.n W.aO y false/\a= .cut))\/(kd=4/\simple v=true/\((mX Y v/\a= .eD v)\/∃h B,v= .int h/\Y.keep h=some B/\((dq H Y.n W.aO y false/\a= .cut)\/∃p k,dq H Y.n W.aO y true/\y= .ref p/\cI H k p/\(((qf ps k).length<en/\a= .cut)\/(en<=(qf ps k).length/\B.xk.length=k.1.length/\B.xk.length<=1000/\behind (B.xk,B.held) k=false/\a= .now)))))\/(kd=5/\dq H Y.n W.aO y false/\a= .cut)
noncomputable def O4 (P:Program)(w:World)(t:Ad)(H:Hp)(kd:Int)(x v y:V)(a:oX):Prop:=((kd=0\/kd=1\/kd=6\/kd=7\/kd=8\/kd=9)/\iK t H x/\a= .pap)\/∃Z W Y ls C dC Bq dB S en xs ps,x= .ref C/\eF P w t H Z W Y ls C dC Bq dB S en xs ps/\qao H W Y ls en ps kd v y a
noncomputable def Lies (P:Program)(w:World)(t:Ad)(H:Hp)(kd:Int)(x v y:V)(Q:Hp->Prop):Prop:=kd=3/\∃Z W Y ls C dC Bq dB S en xs ps h a k,x= .ref C/\v= .int h/\y= .ref a/\eF P w t H Z W Y ls C dC Bq dB S en xs ps/\h∈ls/\dq H Y.n W.aO y true/\cI H k a/\xs.length<=1000/\(qf ps k).length<=1000/\h∉qf ps k/\∀af H' aW,eF P w t H' af W Y ls C dC Bq dB S en aW (kO ps k h)->Fr (λr=>r.1=9) Z H af H'->Q H'
theorem jvr (T:Txt K mg t):zi P w K mg base (bz P w) 7 t.Gf t.Gg ["_law_kind","_law_thing","_law_one","_law_two"] (λvs H Q E=>∃kd x v y,vs=[.int kd,x,v,y]/\((∃a,O4 P w t H kd x v y a/\bZ t E H a)\/Lies P w t H kd x v y λH'=>Q .aj H')):=by
 refine T.M5.fO (N:=["_law_kind","_law_thing","_law_one","_law_two"]) λ_ A _ s H vs Q E hr h=>?_;obtain⟨kd,x,v,y,rfl,hc⟩:=h;refine⟨_,(@jc _ _ _ _ _ (zo (jy fC (pv 0) jf (j7 _)) (@je _ _ _ (jr (sQ T.MQ (OS T) hr.dn rfl T.Nh T.MR .nil cB (jb (pv 1) jg)))) jv) (@jc _ _ _ _ _ (zo (jy fC (pv 0) jf (j7 _)) (@je _ _ _ (jr (jn (wI T) hr.dn rfl T.vK T.rK.kp T.vL .nil cB (@xj _ _ _ _ _ (pv 1) (pv 2) rfl rfl)))) jv) (@jc _ _ _ _ _ (zo (jy fC (pv 0) jf (j7 _)) (@je _ _ _ (jr (j6 (pv 1) T.jx T.MS (OV T) hr.dn T.MT .nil cB (jb (pv 2) jg)))) jv) (@jc _ _ _ _ _ (zo (jy fC (pv 0) jf (j7 _)) (@je _ _ _ (jr (j6 (pv 1) T.jx T.Yj (jq4 T) hr.dn T.Yk .nil cB (@xj _ _ _ _ _ (pv 2) (pv 3) rfl rfl)))) jv) (@jc _ _ _ _ _ (zo (jy fC (pv 0) jf (j7 _)) (@je _ _ _ (jr (j6 (pv 1) T.jx T.Yo (jpm T) hr.dn T.Yp .nil cB (@xj _ _ _ _ _ (pv 2) (pv 3) rfl rfl)))) jv) (@jc _ _ _ _ _ (zo (jy fC (pv 0) jf (j7 _)) (@je _ _ _ (jr (j6 (pv 1) T.jx T.xq (vk T) hr.dn T.yb .nil cB (jb (pv 3) jg)))) jv) (@jc _ _ _ _ _ (zo (jy fC (pv 0) jf (j7 _)) (@je _ _ _ (jr (jn (jpq T) hr.dn rfl T.Yr T.MW.kp T.Ys .nil cB (jb (pv 1) jg)))) jv) (@jc _ _ _ _ _ (zo (jy fC (pv 0) jf (j7 _)) (@je _ _ _ (jr (jn (jpv T) hr.dn rfl T.Yt T.MX.kp T.Yu .nil cB (jb (pv 1) jg)))) jv) (@je _ _ _ (jr (sH (jy fC (pv 0) jf (j7 _)) (jn (jpy T) hr.dn rfl T.Yv T.MY.kp T.Yw .nil cB (jb (pv 1) jg)) (jn (jp4 T) hr.dn rfl T.Yx T.MZ.kp T.Yy .nil cB (jb (pv 1) jg))))))))))))),?_⟩;rcases hc with⟨a,hR|⟨Z,W,Y,ls,C,dC,Bq,dB,S,en,xs,ps,rfl,R,hD⟩,g⟩|⟨rfl,Z,W,Y,ls,C,dC,Bq,dB,S,en,xs,ps,h,a,k,rfl,rfl,rfl,R,hl,hb,c,lx,lh,nh,q⟩
 .obtain⟨hk,n,rfl⟩:=hR;rcases hk with rfl|rfl|rfl|rfl|rfl|rfl
  .refine⟨_,rfl,rfl,_,rfl,yz ⟨_,rfl,λC dC hC hdC ne=>?_⟩⟩;have s1:qg H (upd (upd H dC (.own C)) C (.ins t.j5 dC [])):=(jh hdC).trans (jh (by rw[jd ne.symm];exact hC));exact⟨C,dC,x,rfl,ja,.inl ⟨n.same s1,g.same s1⟩⟩
  .exact⟨_,rfl,rfl,_,rfl,qq ⟨_,rfl,rfl,_,rfl,yz ⟨_,rfl,_,rfl,x,v,rfl,.inl ⟨n,g⟩⟩⟩⟩
  .exact⟨_,rfl,rfl,_,rfl,qq ⟨_,rfl,rfl,_,rfl,qq ⟨_,rfl,rfl,_,rfl,qq ⟨_,rfl,rfl,_,rfl,qq ⟨_,rfl,rfl,_,rfl,qq ⟨_,rfl,rfl,_,rfl,qq ⟨_,rfl,rfl,_,rfl,yz ⟨_,rfl,x,rfl,n,g⟩⟩⟩⟩⟩⟩⟩⟩
  .exact⟨_,rfl,rfl,_,rfl,qq ⟨_,rfl,rfl,_,rfl,qq ⟨_,rfl,rfl,_,rfl,qq ⟨_,rfl,rfl,_,rfl,qq ⟨_,rfl,rfl,_,rfl,qq ⟨_,rfl,rfl,_,rfl,qq ⟨_,rfl,rfl,_,rfl,qq ⟨_,rfl,rfl,_,rfl,yz ⟨_,rfl,x,rfl,n,g⟩⟩⟩⟩⟩⟩⟩⟩⟩
  .exact⟨_,rfl,rfl,_,rfl,qq ⟨_,rfl,rfl,_,rfl,qq ⟨_,rfl,rfl,_,rfl,qq ⟨_,rfl,rfl,_,rfl,qq ⟨_,rfl,rfl,_,rfl,qq ⟨_,rfl,rfl,_,rfl,qq ⟨_,rfl,rfl,_,rfl,qq ⟨_,rfl,rfl,_,rfl,qq ⟨_,rfl,rfl,_,rfl,yz ⟨_,rfl,x,rfl,n,g⟩⟩⟩⟩⟩⟩⟩⟩⟩⟩
  .exact⟨_,rfl,rfl,_,rfl,qq ⟨_,rfl,rfl,_,rfl,qq ⟨_,rfl,rfl,_,rfl,qq ⟨_,rfl,rfl,_,rfl,qq ⟨_,rfl,rfl,_,rfl,qq ⟨_,rfl,rfl,_,rfl,qq ⟨_,rfl,rfl,_,rfl,qq ⟨_,rfl,rfl,_,rfl,qq ⟨_,rfl,rfl,_,rfl,qq ⟨_,rfl,x,rfl,n,g⟩⟩⟩⟩⟩⟩⟩⟩⟩⟩
 .rcases hD with⟨rfl,sv,n,rfl⟩|⟨rfl,sv,hD⟩|⟨rfl,sv,hD⟩|⟨rfl,hb,rfl⟩
  .refine⟨_,rfl,rfl,_,rfl,qq ⟨_,rfl,rfl,_,rfl,qq ⟨_,rfl,rfl,_,rfl,yz ?_⟩⟩⟩;exact⟨_,rfl,C,dC,_,rfl,R.ct.ob.1,gJ _ _ (by decide+kernel) (by decide+kernel),_,rfl,Z,W,Y,ls,C,dC,Bq,dB,S,en,xs,ps,v,rfl,R,sv,.inl ⟨n,g⟩⟩
  .refine⟨_,rfl,rfl,_,rfl,qq ⟨_,rfl,rfl,_,rfl,qq ⟨_,rfl,rfl,_,rfl,qq ⟨_,rfl,rfl,_,rfl,yz ?_⟩⟩⟩⟩;refine⟨_,rfl,C,dC,_,rfl,R.ct.ob.1,gJ _ _ (by decide+kernel) (by decide+kernel),_,rfl,_,rfl,Z,W,Y,ls,C,dC,Bq,dB,S,en,xs,ps,v,y,rfl,R,sv,?_⟩;rcases hD with⟨n,rfl⟩|⟨h,rfl,hl,hb,rfl⟩
   .exact .inl ⟨n,g⟩
   .exact .inr ⟨h,false,rfl,hl,hb,.inl ⟨rfl,g⟩⟩
  .refine⟨_,rfl,rfl,_,rfl,qq ⟨_,rfl,rfl,_,rfl,qq ⟨_,rfl,rfl,_,rfl,qq ⟨_,rfl,rfl,_,rfl,qq ⟨_,rfl,rfl,_,rfl,yz ?_⟩⟩⟩⟩⟩;refine⟨_,rfl,C,dC,_,rfl,R.ct.ob.1,gJ _ _ (by decide+kernel) (by decide+kernel),_,rfl,_,rfl,Z,W,Y,ls,C,dC,Bq,dB,S,en,xs,ps,v,y,rfl,R,sv,?_⟩;rcases hD with⟨n,rfl⟩|⟨h,B,rfl,e,hD⟩
   .exact .inl ⟨n,g⟩
   rcases hD with⟨hb,rfl⟩|⟨p,k,hb,rfl,c,hD⟩
   .exact .inr ⟨h,B,false,rfl,e,hb,.inl ⟨rfl,g⟩⟩
   refine .inr ⟨h,B,true,rfl,e,hb,.inr ⟨p,k,rfl,rfl,c,?_⟩⟩;rcases hD with⟨z,rfl⟩|⟨z1,z2,z3,z4,rfl⟩
   .exact .inl ⟨z,g⟩
   .exact .inr ⟨z1,z2,z3,z4,g⟩
  .refine⟨_,rfl,rfl,_,rfl,qq ⟨_,rfl,rfl,_,rfl,qq ⟨_,rfl,rfl,_,rfl,qq ⟨_,rfl,rfl,_,rfl,qq ⟨_,rfl,rfl,_,rfl,qq ⟨_,rfl,rfl,_,rfl,yz ?_⟩⟩⟩⟩⟩⟩;exact⟨_,rfl,C,dC,_,rfl,R.ct.ob.1,gJ _ _ (by decide+kernel) (by decide+kernel),_,rfl,Z,W,Y,ls,C,dC,Bq,dB,S,en,xs,ps,y,false,rfl,R,hb,.inl ⟨rfl,g⟩⟩
 .refine⟨_,rfl,rfl,_,rfl,qq ⟨_,rfl,rfl,_,rfl,qq ⟨_,rfl,rfl,_,rfl,qq ⟨_,rfl,rfl,_,rfl,yz ?_⟩⟩⟩⟩;exact⟨_,rfl,C,dC,_,rfl,R.ct.ob.1,gJ _ _ (by decide+kernel) (by decide+kernel),_,rfl,_,rfl,Z,W,Y,ls,C,dC,Bq,dB,S,en,xs,ps,.int h,.ref a,rfl,R,rfl,.inr ⟨h,true,rfl,hl,hb,.inr ⟨a,k,rfl,rfl,c,lx,lh,nh,q⟩⟩⟩
theorem zm (T:Txt K mg t):zi P w K mg base CX0 8 t.Gh t.Gi ["_law_kind","_law_thing","_law_one","_law_two"] (λvs H Q _=>∃kd x v y,vs=[.int kd,x,v,y]/\((∃a,O4 P w t H kd x v y a/\Tells H Q a)\/Lies P w t H kd x v y λH'=>Q (.str "told") H')):=by
 refine T.zb.dQ xt λ_ A _ s H vs Q E hr h=>?_;obtain⟨kd,x,v,y,rfl,hc⟩:=h;refine⟨_,(@jc _ _ _ _ _ (qz (i:=4) xt.nd rfl (Or.inl rfl) ig) (@jc _ _ _ _ _ (qz (i:=5) xt.nd rfl (Or.inl rfl) ig) (@jc _ _ _ _ _ (VF (i:=6) rfl rfl rfl rfl T.AU T.Zi rfl T.Nm T.Zj xt.nd rfl rfl (λ_ _=>(@je _ _ _ (qc (Vz (jvr T) hr.dn rfl T.YH T.M5.kp T.YI .nil (@iA _ _ _ _ _ _ _ _ _ (pv 0) (pv 1) (pv 2) (pv 3) rfl rfl rfl rfl))))) (λ_=>(@jc _ _ _ _ _ (@qz _ _ 5 _ _ _ _ xt.nd rfl (Or.inl rfl) (@qp _ _ _ _ _ (@xj _ _ _ _ _ xh (px (K:=K) 6) rfl rfl)) (by rfl) (by first|exact .inl rfl|exact .inr rfl)) (@je _ _ _ (qz (i:=4) xt.nd rfl (Or.inl rfl) (pv 6))))) (λ_=>(@jc _ _ _ _ _ (qz (i:=5) xt.nd rfl (Or.inl rfl) ig) (@je _ _ _ (qz (i:=4) xt.nd rfl (Or.inl rfl) (pv 6)))))) (@je _ _ _ (jr (sH (jy Jl (pv 4) ig (j7 _)) xh (sH (jy Jl (pv 5) ig (j7 _)) (jn (jqk T) hr.dn rfl T.YF T.M4.kp T.YG .nil jz (jb (pv 4) jg)) (pv 5)))))))),?_⟩;rcases hc with⟨a,hR,k⟩|hL
 .refine⟨λ U' cls dd H'=>U'=[some (.int kd),some x,some v,some y,some .aj,some .aj,none]/\qg H H'/\O0 t H' cls dd a,?_,?_⟩
  .exact⟨_,rfl,_,rfl,_,rfl,_,rfl,kd,x,v,y,rfl,.inl ⟨a,hR,j0b λcls dd H' s' f=>⟨rfl,s',f⟩⟩⟩
  .rintro U' cls dd H' ea ⟨rfl,sm,hw⟩ gE
   have sx:∀{u:HO},qg H (upd H' ea u):=λ{u}=>sm.trans (jh gE);rcases hw with⟨v,d',rfl,rfl,rfl,hd⟩|⟨rfl,rfl⟩|⟨rfl,rfl⟩|⟨rfl,rfl⟩
   .refine⟨t.ju,rfl,.inl ⟨T.Y8,?_⟩⟩;have oR:=jh (o:=i9 ea (.ref t.ju) (some d')) gE _ _ hd;refine⟨_,rfl,ea,t.ju,t.y4,d',_,v,rfl,ja,oR,T.AQ,rfl,bc,λr hr=>?_⟩;have Hv:r≠ea:=(ji ja hr).symm;have ni:H' r=none:=by rw[jd Hv]at hr;exact hr
    refine⟨_,rfl,?_,?_⟩
    .rw[jd (Ne.symm Hv),ja]
    .refine⟨_,rfl,rfl,_,rfl,qq ⟨_,rfl,rfl,_,rfl,qq ⟨_,rfl,?_⟩⟩⟩;refine k r _ (sm.free ni) (λx u e=>?_) (by rw[jd Hv,ja]);have e':=sm _ _ e;rw[jd (ji e' gE),jd (ji e' ni),jd (ji e' gE)];exact e'
   .refine⟨t.vm,rfl,.inr ⟨T.Y6,T.Y7,?_⟩⟩;refine⟨_,rfl,ja,?_⟩;rw[Ci];refine⟨_,rfl,rfl,_,rfl,qq ⟨_,rfl,rfl,_,rfl,yz ?_⟩⟩;exact⟨_,rfl,ea,t.vm,false,false,false,false,false,false,true,false,false,false,false,.str "now",rfl,ja,T.Y4,T.Y5,by decide,rfl,λrP cv=>k _ (sx.trans cv)⟩
   .refine⟨t.xl,rfl,.inr ⟨T.Zc,T.Zd,?_⟩⟩;refine⟨_,rfl,ja,?_⟩;rw[Ci];refine⟨_,rfl,rfl,_,rfl,qq ⟨_,rfl,rfl,_,rfl,yz ?_⟩⟩;exact⟨_,rfl,ea,t.xl,false,false,false,false,false,false,false,false,true,false,false,.str "paper",rfl,ja,T.Za,T.Zb,by decide,rfl,λrP cv=>k _ (sx.trans cv)⟩
   .refine⟨t.gq,rfl,.inr ⟨T.Zg,T.Zh,?_⟩⟩;refine⟨_,rfl,ja,?_⟩;rw[Ci];refine⟨_,rfl,rfl,_,rfl,qq ⟨_,rfl,rfl,_,rfl,yz ?_⟩⟩;exact⟨_,rfl,ea,t.gq,false,false,false,false,false,false,false,false,false,true,false,.str "cut",rfl,ja,T.Ze,T.Zf,by decide,rfl,λrP cv=>k _ (sx.trans cv)⟩
 .refine⟨λ_ _ _ _=>False,?_,λ_ _ _ _ _ z=>z.elim⟩;refine⟨_,rfl,_,rfl,_,rfl,_,rfl,kd,x,v,y,rfl,.inr ?_⟩;obtain⟨rfl,Z,W,Y,ls,C,dC,Bq,dB,S,en,xs,ps,h,a,k,rfl,rfl,rfl,R,hl,hb,c,lx,lh,nh,q⟩:=hL;exact⟨rfl,Z,W,Y,ls,C,dC,Bq,dB,S,en,xs,ps,h,a,k,rfl,rfl,rfl,R,hl,hb,c,lx,lh,nh,λ af H' aW R' f=>⟨_,rfl,rfl,_,rfl,yz (q af H' aW R' f)⟩⟩
noncomputable def Bl (ts:List Int):Dt:=.tup (ts.map Dt.int)
noncomputable def sr (l:Bool×Int×O):Dt:=.tup [.str (if l.1=true then"order"else"paper"),.int l.2.1,Bl (bR l.2.2)]
theorem jx2 {α:Type}{K:W.Frag}{H:Hp}{F:α->Dt}{R:V->α->Prop}(h:∀x a,R x a->j9 K H (F a) x):∀{xs:List V}{as:List α},Paired R xs as->qu K H (as.map F) xs:=λ{xs as} q=>by
 induction q with
 |nil=>rw[map_nil,qu]
 |cons a t ih=>rw[map_cons,qu];exact⟨_,_,rfl,h _ _ a,ih⟩
theorem O5 {K:W.Frag}{H:Hp}:∀ns:List Int,qu K H (ns.map Dt.int) (ns.map V.int)
 |[]=>by rw[map_nil,map_nil,qu]
 |n::ns=>by rw[map_cons,map_cons,qu];exact⟨_,_,rfl,by rw[j9],O5 ns⟩
theorem j6h {K:W.Frag}{H:Hp}{a:Addr}{ts:List Int}(h:ax K H a (ts.map V.int)):j9 K H (Bl ts) (.ref a):=by unfold Bl;rw[j9];exact⟨a,_,rfl,h,O5 ts⟩
theorem cH.qbk {K:W.Frag}{H:Hp}{Z:av}{x:V}{l:Bool×Int×O}(h:cH H Z x l):j9 K H (sr l) x:=by obtain⟨a,q,rfl,n,h1,_,e,_,h2⟩:=h;cases e;unfold sr;rw[j9];refine⟨a,_,rfl,ax.of h1,?_⟩;rw[qu];refine⟨_,_,rfl,by rw[j9];rfl,?_⟩;rw[qu];refine⟨_,_,rfl,by rw[j9],?_⟩;rw[qu];exact⟨_,_,rfl,j6h (ts:=bR l.2.2) (ax.of h2),by rw[qu]⟩
theorem jzm {α:Type}(F:α->Dt)(ls:List α):aJ (.lst (ls.map F)) (.lst [])=decide (ls=[]):=by
 cases ls with
 |nil=>simp[aJ,bV]
 |cons l ls=>simp[aJ,bV]
theorem O6:∀ls:List (Bool×Int×O),cT (ls.map sr)<=10
 |[]=>by rw[map_nil];simp[cT]
 |l::ls=>by
  have:=O6 ls;rw[map_cons,cT];have q:bu (sr l)<=10:=by unfold sr Bl bR;simp[bu,cT]
  lia
noncomputable def su:V->Dt
 | .int i=>.int i
 | .bl b=>.bl b
 | .str z=>.str z
 |_=>.aj
theorem jwd {K:W.Frag}{H:Hp}{x:V}(h:simple x=true):j9 K H (su x) x:=by cases x<;>first|(show j9 K H (Dt.aj) V.aj;rw[j9])|(show j9 K H (Dt.int _) (V.int _);rw[j9])|(show j9 K H (Dt.bl _) (V.bl _);rw[j9])|(show j9 K H (Dt.str _) (V.str _);rw[j9])|cases h
theorem jx9 (x:V):aJ (su x) (su x)=true:=by cases x<;>simp[su,aJ]
noncomputable def hZ (z:Str)(v:V):Dt:=.tup [.str z,su v]
theorem sA {K:W.Frag}{H:Hp}{r:Addr}{z:Str}{v:V}(h:H r=some (.tup [.str z,v]))(s:simple v=true):j9 K H (hZ z v) (.ref r):=by unfold hZ;rw[j9];refine⟨r,_,rfl,ax.of h,?_⟩;rw[qu];refine⟨_,_,rfl,by rw[j9],?_⟩;rw[qu];exact⟨_,_,rfl,jwd s,by rw[qu]⟩
theorem Hw (z:Str)(v:V):aJ (hZ z v) (hZ z v)=true:=by unfold hZ;rw[aJ,bV,bV,jx9,bV];simp[aJ]
theorem Hx (z:Str)(v:V):bu (hZ z v)<=60:=by unfold hZ;cases v<;>simp[su,bu,cT]
theorem O7 {K:W.Frag}{H:Hp}:∀{ss:List Str},qu K H (ss.map Dt.str) (ss.map V.str)
 |[]=>by rw[map_nil,qu];rfl
 |s::ss=>by rw[map_cons,qu];exact⟨_,_,rfl,by rw[j9],O7⟩
theorem Bm {K:W.Frag}{H:Hp}{a:Addr}{ss:List Str}(h:H a=some (.lst (ss.map V.str))):j9 K H (.lst (ss.map Dt.str)) (.ref a):=by rw[j9];exact⟨a,_,rfl,ai.of h,O7⟩
theorem O8:∀ss:List Str,bV (ss.map Dt.str) (ss.map Dt.str)=true
 |[]=>by rw[map_nil,bV]
 |s::ss=>by rw[map_cons,bV,O8 ss];simp[aJ]
theorem O9 (ss:List Str):aJ (.lst (ss.map Dt.str)) (.lst (ss.map Dt.str))=true:=by rw[aJ];exact O8 ss
theorem Pa:∀ss:List Str,cT (ss.map Dt.str)=0
 |[]=>by rw[map_nil,cT]
 |s::ss=>by rw[map_cons,cT,Pa ss];simp[bu]
theorem Pb (ss:List Str):bu (.lst (ss.map Dt.str))<=60:=by rw[bu,Pa];decide
noncomputable def Hy (ys:List V):Int:=(ys.map λv=>match v with| .int i=>i|_=>0).sum
theorem jzd (ns:List Int):Hy (ns.map V.int)=ns.sum:=by unfold Hy;rw[List.map_map];congr 1;exact(List.map_congr_left λ_ _=>rfl).trans (List.map_id ns)
theorem nj {H:Hp}{p a b:Addr}{xs ys:List V}(hp:H p=some (.tup [.ref a,.ref b]))(ha:H a=some (.tup xs))(hb:H b=some (.tup ys))(l1:xs.length<=1000)(l2:ys.length<=1000)(s1:xs.all simple=true)(s2:ys.all simple=true)(hf:(iL 2 xs&&iL 2 ys&&decide (Hy ys=10))=false):dq H 2 10 (.ref p) false:=by refine .inr (.inr (.inr ⟨p,.ref a,.ref b,iL 2 xs,iL 2 ys,rfl,hp,.inr (.inr ⟨a,xs,rfl,ha,l1,λy hy=>all_eq_true.mp s1 y hy,rfl⟩),.inr (.inr ⟨b,ys,rfl,hb,l2,λy hy=>all_eq_true.mp s2 y hy,rfl⟩),λ_=>rfl,λh1 d ns e hd h2=>?_⟩));cases e;rw[hb]at hd;cases hd;rw[h1,h2,jzd]at hf;exact hf.symm
theorem j8e {H:Hp}{p a b:Addr}{xs ys:List V}(hp:H p=some (.tup [.ref a,.ref b]))(ha:H a=some (.tup xs))(hb:H b=some (.lst ys))(l1:xs.length<=1000)(s1:xs.all simple=true):dq H 2 10 (.ref p) false:=by refine .inr (.inr (.inr ⟨p,.ref a,.ref b,iL 2 xs,false,rfl,hp,.inr (.inr ⟨a,xs,rfl,ha,l1,λy hy=>all_eq_true.mp s1 y hy,rfl⟩),.inr (.inl ⟨b,ys,rfl,hb,rfl⟩),λ_=>rfl,λ_ _ _ _ _ h2=>by cases h2⟩))
noncomputable def ft (H0 H:Hp):Hp:=λb=>if H0 b=none then H b else none
theorem wO {H0 H:Hp}:qg (ft H0 H) H:=λb u e=>by
 unfold ft at e;split at e
 .exact e
 .cases e
theorem Bn {H0 H:Hp}{b:Addr}{u:HO}(h0:H0 b=none)(h:H b=some u):ft H0 H b=some u:=by unfold ft;rw[if_pos h0];exact h
theorem gi {H0 H H':Hp}(s:qg H H'):qg (ft H0 H) (ft H0 H'):=λb u e=>by
 unfold ft at e⊢;split at e
 .rename_i z;rw[if_pos z];exact s _ _ e
 .cases e
theorem Pd {F:Role->Prop}{Z af:av}{H0 H H':Hp}(k:aA Z H0)(f:Fr F Z H af H'):qg (ft H0 H) H':=λb u e=>by
 unfold ft at e;split at e
 .rename_i z;exact(dj f e (k.none z)).1
 .cases e
theorem pairAt {H0 H:Hp}{b1 b2 p:Addr}{u v w:HO}(s0:qg H0 H)(m1:H b1=none)(m2:upd H b1 u b2=none)(m3:upd (upd H b1 u) b2 v p=none):∃H',H'=upd (upd (upd H b1 u) b2 v) p w/\qg H H'/\ft H0 H' p=some w/\ft H0 H' b1=some u/\ft H0 H' b2=some v:=by have s1:=jh (o:=u) m1;have s2:=jh (o:=v) m2;have s3:=jh (o:=w) m3;exact⟨_,rfl,s1.trans (s2.trans s3),Bn ((s0.trans (s1.trans s2)).free m3) ja,Bn (s0.free m1) (s3 _ _ (s2 _ _ ja)),Bn ((s0.trans s1).free m2) (s3 _ _ ja)⟩
theorem oneAt {H0 H:Hp}{p:Addr}{w:HO}(s0:qg H0 H)(m:H p=none):∃H',H'=upd H p w/\qg H H'/\ft H0 H' p=some w:=⟨_,rfl,jh m,Bn (s0.free m) ja⟩
theorem j0v {H0 H:Hp}{b:Addr}{u:HO}(h:ft H0 H b=some u):H0 b=none:=by
 unfold ft at h;split at h
 .assumption
 .cases h
theorem aA.aH {Z:av}{H:Hp}{a:Addr}{r:Role}{u:HO}(k:aA Z H)(h:H a=some u)(n:mU u):aA (aH Z a r) H:=λb r' e=>by
 by_cases z:b=a
 .subst z;exact⟨u,h,n⟩
 .rw[qy z]at e;exact k b r' e
theorem Pe {H:Hp}{x dx:Addr}{C:Addr}(nx:H x=none)(wQ:H dx=none)(ne:dx≠x){Z:av}{r:Role}(kr:aA Z H):Fr (λ_=>False) Z H (aH Z x r) (upd (upd H dx (.own x)) x (.ins C dx []))/\aA (aH Z x r) (upd (upd H dx (.own x)) x (.ins C dx [])):=by
 have nx1:upd H dx (.own x) x=none:=by rw[jd ne.symm];exact nx
 exact⟨(Fr.same (jh wQ)).trans (Fr.cD nx1),(kr.same (jh wQ)).cD⟩
theorem j50 {K:W.Frag}{H:Hp}{Z:av}{id:Nat}{a:Addr}(h:∃o n,K.lookup a=some o/\o.cls= .type "tuple"/\o.data= .seq #[] n):pH K H Z id a []:=by obtain⟨o,n,h1,h2,h3⟩:=h;exact .inr ⟨rfl,o,#[],n,h1,h2,h3,by show 0<=sizeLine;decide,.nil⟩
structure dH (P:Program)(w:World)(t:Ad)(H:Hp)(Z:av)(W:WA)(Y:Wd)(C dC Bq dB S:Addr)(xs:P2)(ps:zc)(To R:Addr):Prop where
 rm:eF P w t H Z W Y [3] C dC Bq dB S 3 xs ps
 tn:iB To R H
 r1:Z To=some (7,.own 0)
 r2:Z R=some (7,.own 1)
section
variable {P:Program}{w:World}{t:Ad}{H H':Hp}{Z af:av}{W:WA}{Y:Wd}{C dC Bq dB S:Addr}{xs:P2}{ps:zc}{To R:Addr}
theorem dH.same (s:qg H H')(h:dH P w t H Z W Y C dC Bq dB S xs ps To R):dH P w t H' Z W Y C dC Bq dB S xs ps To R:=⟨h.rm.same s,h.tn.same s,h.r1,h.r2⟩
theorem dH.draw (hT:iB To R H')(k:AV To R H H')(h:dH P w t H Z W Y C dC Bq dB S xs ps To R):dH P w t H' Z W Y C dC Bq dB S xs ps To R/\Fr (λr=>r.1=7) Z H Z H':=by
 have f:Fr (λr=>r.1=7) Z H Z H':=λa u e n=>⟨k a u e (λz=>n _ (z ▸ h.r1) rfl) λz=>n _ (z ▸ h.r2) rfl,rfl⟩;have kr:aA Z H':=λa r e=>by
  obtain⟨row,c,t1,t2,_⟩:=hT;by_cases z:a=To
  .subst z;exact⟨_,t1,True.intro⟩
  by_cases y:a=R
  .subst y;exact⟨_,t2,True.intro⟩
  obtain⟨u,hu,nu⟩:=h.rm.kr a r e;exact⟨u,k a u hu z y,nu⟩
 exact⟨⟨⟨h.rm.wr.fr (λ_ z=>by cases z) f,dj f h.rm.ly.1 h.rm.ly.2,h.rm.ct.fr h.rm.kr f (λ_ z=>by cases z),kr⟩,hT,h.r1,h.r2⟩,f⟩
theorem dH.cut {aW:P2}{iN:zc}(h:dH P w t H Z W Y C dC Bq dB S xs ps To R)(rm:eF P w t H' af W Y [3] C dC Bq dB S 3 aW iN)(f:Fr (λr=>r.1=9) Z H af H'):dH P w t H' af W Y C dC Bq dB S aW iN To R:=by obtain⟨row,c,t1,t2,t3⟩:=h.tn;have a:=cj f t1 h.r1 (by intro z;cases z);have b:=cj f t2 h.r2 (by intro z;cases z);exact⟨rm,⟨row,c,a.1,b.1,t3⟩,a.2,b.2⟩
theorem dH.Pf {Y':Wd}(h:dH P w t H Z W Y C dC Bq dB S xs ps To R)(O:zw t H' af 1 W Y')(f:Fr (λr=>r.1=1) Z H af H')(kr:aA af H'):dH P w t H' af W Y' C dC Bq dB S xs ps To R:=by obtain⟨row,c,t1,t2,t3⟩:=h.tn;have a:=cj f t1 h.r1 (by intro z;cases z);have b:=cj f t2 h.r2 (by intro z;cases z);exact⟨⟨O,dj f h.rm.ly.1 h.rm.ly.2,h.rm.ct.fr h.rm.kr f (λ_ z=>by cases z),kr⟩,⟨row,c,a.1,b.1,t3⟩,a.2,b.2⟩
end
theorem wR {H H':Hp}{Z af:av}{F:Role->Prop}{k:Cut}{b:Addr}(f:Fr F Z H af H')(kr:aA Z H)(h:cI H k b):cI H' k b:=by obtain⟨c,d,h1,h2,h3⟩:=h;exact⟨c,d,(dj f h1 (pM kr h1)).1,(dj f h2 (pM kr h2)).1,(dj f h3 (pM kr h3)).1⟩
noncomputable def wA:Wd:=w0 4 1 [10,0] [] [3]
noncomputable def wB:Wd:=wA.asks ⟨0,0,1,4⟩ []
noncomputable def Hz (Y:Wd):Wd:=match Y.way with
 |[]=>Y
 |l::_=>match Y.keep l.2.1 with
  |none=>Y
  |some B=>Y.A5 0 l B
noncomputable def y8:Nat->Wd
 |0=>wB
 |n+1=>Hz (y8 n)
noncomputable abbrev Goes (Y:Wd)(l:Bool×Int×O)(B:Kp):Prop:=(Y.ks.map (·.1)).Nodup/\(B.held.length=Y.n/\B.xk.length=Y.n/\(∀o∈B.bN,cC Y.n o=true)/\(∀o∈B.wait,cC Y.n o=true)/\B.wait.Nodup)/\Y.n<=8/\cC Y.n l.2.2=true/\(B.fk.length<=900/\B.bN.length+B.cho.length<=900/\B.done.length+B.wait.length<=900)/\(Y.bd.length<=9/\(∀x∈Y.bd,x.2.length<=9)/\Y.way.length<=9/\Y.ks.length<=16)/\(B.take l.1 l.2.2).2.length<=9
noncomputable def HA (Y:Wd):Bool:=match Y.way with
 |[]=>false
 |l::_=>match Y.keep l.2.1 with
  |none=>false
  |some B=>decide (Goes Y l B)
theorem HB {Y:Wd}(h:HA Y=true):∃l ls B,Y.way=l::ls/\Y.keep l.2.1=some B/\Goes Y l B/\Hz Y=Y.A5 0 l B:=by
 unfold HA at h;split at h
 .cases h
 rename_i l ls e;split at h
 .cases h
 rename_i B e2;refine⟨l,ls,B,e,e2,of_decide_eq_true h,?_⟩;unfold Hz;rw[e];dsimp only;rw[e2]
theorem HD:∀i,i<6->HA (y8 i)=true:=by decide+kernel
theorem wU:(y8 6).way=[]/\((y8 6).keep 0).map (λ B=>(B.xk,B.held))=some ([1,0],[6,4])/\(y8 6).n=2:=by decide+kernel
theorem qau {j:Nat}{y:V}(h:([.int 4,.int (0-1),.bl true,.aj,.str "0",.int 3]:List V)[j]?=some y):simple y=true/\mX wA y:=by match j,h with
 |0,h=>cases h;exact⟨rfl,λi e=>by cases e;decide⟩
 |1,h=>cases h;exact⟨rfl,λi e=>by cases e;decide⟩
 |2,h=>cases h;exact⟨rfl,λi e=>by cases e⟩
 |3,h=>cases h;exact⟨rfl,λi e=>by cases e⟩
 |4,h=>cases h;exact⟨rfl,λi e=>by cases e⟩
 |5,h=>cases h;exact⟨rfl,λi e=>by cases e;decide⟩
 |n+6,h=>simp at h
theorem qa7 {j:Nat}{y:V}(h:([.int 4,.int 0,.bl true,.aj]:List V)[j]?=some y):simple y=true/\∀i,y= .int i->i∉[3]:=by match j,h with
 |0,h=>cases h;exact⟨rfl,λi e=>by cases e;decide⟩
 |1,h=>cases h;exact⟨rfl,λi e=>by cases e;decide⟩
 |2,h=>cases h;exact⟨rfl,λi e=>by cases e⟩
 |3,h=>cases h;exact⟨rfl,λi e=>by cases e⟩
 |n+4,h=>simp at h
noncomputable def cutD (k:Cut):Dt:=.tup [.tup (k.1.map Dt.int),.tup (k.2.map Dt.int)]
theorem pN {K:W.Frag}{H:Hp}:∀{ns:List Int},qu K H (ns.map Dt.int) (ns.map V.int)
 |[]=>by rw[map_nil,qu];rfl
 |n::ns=>by rw[map_cons,qu];exact⟨_,_,rfl,by rw[j9],pN⟩
theorem Pg {K:W.Frag}{H:Hp}{x:V}{k:Cut}(h:iM H x k):j9 K H (cutD k) x:=by
 obtain⟨b,rfl,c,d,h1,h2,h3⟩:=h;unfold cutD;rw[j9];refine⟨b,_,rfl,ax.of h1,?_⟩;rw[qu];refine⟨_,_,rfl,?_,?_⟩
 .rw[j9];exact⟨c,_,rfl,ax.of h2,pN⟩
 rw[qu];refine⟨_,_,rfl,?_,by rw[qu]⟩;rw[j9];exact⟨d,_,rfl,ax.of h3,pN⟩
theorem j9a:wA.Ok:=by refine⟨by decide,by decide,by decide,λc hc=>?_,by decide,by decide,by decide⟩;have e:wA.ks=[(0,pG [10,0]),(1,pG [10,0]),(2,pG [10,0])]:=rfl;rw[e]at hc;simp only[mem_cons,List.not_mem_nil,or_false]at hc;rcases hc with rfl|rfl|rfl<;>exact⟨rfl,rfl,(λ_ z=>by cases z),(λ_ z=>by cases z),.nil⟩
noncomputable def jyz (K:W.Frag):Sp:=λvs H Q _=>∃(a:Addr)(ns:List Int),vs=[.ref a]/\ai K H a (ns.map V.int)/\ns.length<=63/\∀H',Q (.bl true) H'
set_option maxHeartbeats 0 in
theorem j65 (T:Txt K mg t) : zi P w K mg base CX0 12 t.Gj t.Gk ["_law_script"] (jyz K):=by
 refine T.YJ.dQ (k:=11) hG λ_ A _ s H vs Q E hr h=>?_
 obtain ⟨a,ns,rfl,hS,hn,k⟩:=h
 refine ⟨_,(@jc _ _ _ _ _ (qz (i:=1) hG.nd rfl (Or.inl rfl) (jn (juv T) hr.dn rfl T.Yz T.M0.kp T.YA .nil jz (jb (pv 0) jg)))
  (@jc _ _ _ _ _ (qz (i:=2) hG.nd rfl (Or.inl rfl) (US T.XO (jmn T) hr.dn rfl T.Nb T.MJ.choose_spec.1 jz (jb jf jg) (jX jf (jX (@qk _ _ _ _ (@xj _ _ _ _ _ jf jf rfl rfl)) (jX (@qk _ _ _ _ (jb jf jg)) qK)))))
  (@jc _ _ _ _ _ (qz (i:=3) hG.nd rfl (Or.inr rfl) (sQ T.MQ (OS T) hr.dn rfl T.Nh T.MR .nil mL (jb (pv 2) jg)))
  (@jc _ _ _ _ _ (@jT _ _ _ _ _ _ _ _ PassesOwn.never rfl (@gN _ _ _ _ (@qk _ _ _ _ (@Mf _ _ _ _ _ _ _ _ _ _ _ ig jf (pv 3) (@qk _ _ _ _ (@xj _ _ _ _ _ jf jf rfl rfl)) xh rfl rfl rfl rfl rfl))) (qa (i:=4) hG.nd rfl (Or.inr rfl)) (@je _ _ _ (zo (jy (fK hr.units) (lM (N':=["_law_kind","_law_thing"]) (ix:=[none,some 4]) (wu (by kernel_rfl)) rfl (@gN _ _ _ _ (@qk _ _ _ _ (@Mg _ _ _ _ _ _ _ _ _ _ _ _ _ jf jf jf jf jf jf rfl rfl rfl rfl rfl rfl))) (λ_ _ _ _=>(qa (i:=0) WL rfl (Or.inl rfl) (.inr rfl))) (λ_ _ _ _=>oA) (λ_ _ _ _=>(jn (zm (P:=P) (w:=w) (base:=base) T) hr.dn rfl T.zu T.zb.kp T.zt .nil jz (@iA _ _ _ _ _ _ _ _ _ (pv 0) (pv 1) jf jf rfl rfl rfl rfl)))) (vp C0 (@qk _ _ _ _ (jb xh jg)) jf) (j7 _)) (@je _ _ _ (jr cL)) jv)) (by intro _; rfl))
  (@jc _ _ _ _ _ (@qz _ _ 5 _ _ _ _ hG.nd rfl (Or.inl rfl) (@qp _ _ _ _ _ (@xj _ _ _ _ _ (@qp _ _ _ _ _ (@xj _ _ _ _ _ jf jf rfl rfl)) (@qp _ _ _ _ _ (@xj _ _ _ _ _ jf jf rfl rfl)) rfl rfl)) (by rfl) (by first | exact .inl rfl | exact .inr rfl))
  (@jc _ _ _ _ _ (@qz _ _ 6 _ _ _ _ hG.nd rfl (Or.inl rfl) (@qk _ _ _ _ (@Wx _ _ _ _ _ _ _ _ _ _ _ _ _ _ _ _ _ _ _ ig jf (@qp _ _ _ _ _ jg) (RO RS (pv 5) RL (RM jf)) (@qk _ _ _ _ (@xj _ _ _ _ _ (@qp _ _ _ _ _ (@xj _ _ _ _ _ jf jf rfl rfl)) (@qp _ _ _ _ _ (@xj _ _ _ _ _ jf jf rfl rfl)) rfl rfl)) (@qp _ _ _ _ _ (@xj _ _ _ _ _ (@qp _ _ _ _ _ (@xj _ _ _ _ _ jf jf rfl rfl)) (@qp _ _ _ _ _ (@xj _ _ _ _ _ jf jf rfl rfl)) rfl rfl)) (@qp _ _ _ _ _ (@xj _ _ _ _ _ (@qp _ _ _ _ _ (@xj _ _ _ _ _ jf jf rfl rfl)) (@qk _ _ _ _ (@xj _ _ _ _ _ jf jf rfl rfl)) rfl rfl)) (@qp _ _ _ _ _ (@xj _ _ _ _ _ (@qp _ _ _ _ _ (jb jf jg)) (@qp _ _ _ _ _ (@xj _ _ _ _ _ jf jf rfl rfl)) rfl rfl)) (@qp _ _ _ _ _ (@xj _ _ _ _ _ (@qp _ _ _ _ _ (@xj _ _ _ _ _ jf jf rfl rfl)) (@qp _ _ _ _ _ (@xj _ _ _ _ _ jf (vp jU jf jf) rfl rfl)) rfl rfl)) rfl rfl rfl rfl rfl rfl rfl rfl rfl)) (by rfl) (by first | exact .inl rfl | exact .inr rfl))
  (@jc _ _ _ _ _ (qz (i:=6) hG.nd rfl (Or.inl rfl) (vp zA (pv 6) (@qk _ _ _ _ (@Mf _ _ _ _ _ _ _ _ _ _ _ (@qp _ _ _ _ _ (@xj _ _ _ _ _ (@qp _ _ _ _ _ (@xj _ _ _ _ _ jf cL rfl rfl)) (@qp _ _ _ _ _ (@xj _ _ _ _ _ jf jf rfl rfl)) rfl rfl)) (@qp _ _ _ _ _ (@xj _ _ _ _ _ (@qp _ _ _ _ _ (@xj _ _ _ _ _ jf (vp jU jf jf) rfl rfl)) (@qp _ _ _ _ _ (@xj _ _ _ _ _ jf jf rfl rfl)) rfl rfl)) (@qp _ _ _ _ _ (@xj _ _ _ _ _ (@qp _ _ _ _ _ (@dG _ _ _ _ _ _ _ jf jf jf rfl rfl rfl)) (@qp _ _ _ _ _ (@xj _ _ _ _ _ jf jf rfl rfl)) rfl rfl)) (@qp _ _ _ _ _ (@xj _ _ _ _ _ (@qp _ _ _ _ _ (@xj _ _ _ _ _ jf ig rfl rfl)) (@qp _ _ _ _ _ (@xj _ _ _ _ _ jf jf rfl rfl)) rfl rfl)) (@qp _ _ _ _ _ (@xj _ _ _ _ _ (@qp _ _ _ _ _ (@xj _ _ _ _ _ jf jf rfl rfl)) (@qp _ _ _ _ _ (@xj _ _ _ _ _ jf jf rfl rfl)) rfl rfl)) rfl rfl rfl rfl rfl))))
  (@jc _ _ _ _ _ (jT PassesOwn.never rfl (IZ rfl T.Nt (jb jf jg)) (qa (i:=7) hG.nd rfl (Or.inl rfl)) (@jc _ _ _ _ _ (qz (i:=8) hG.nd rfl (Or.inr rfl) (jn (jtw T) hr.dn rfl T.YD T.M3.kp T.YE .nil jz (@xj _ _ _ _ _ (pv 1) (pv 6) rfl rfl)))
  (@jc _ _ _ _ _ (@jT _ _ _ _ _ _ _ _ PassesOwn.never rfl (@gN _ _ _ _ (@qk _ _ _ _ (@Mg _ _ _ _ _ _ _ _ _ _ _ _ _ jf (vp jU jf jf) cL ig xh jf rfl rfl rfl rfl rfl rfl))) (qa (i:=9) hG.nd rfl (Or.inl rfl)) (@je _ _ _ (zo (PW.pt (cY (jy (fK hr.units) (jn (zm T) hr.dn rfl T.zu T.zb.kp T.zt .nil jz (@iA _ _ _ _ _ _ _ _ _ jf (pv 3) (pv 9) jf rfl rfl rfl rfl)) (@qp _ _ _ _ _ (@xj _ _ _ _ _ xh (pv 9) rfl rfl)) (j7 _)) (eJ (jy (fK hr.units) (jn (zm T) hr.dn rfl T.zu T.zb.kp T.zt .nil jz (@iA _ _ _ _ _ _ _ _ _ jf (pv 3) (pv 9) (pv 8) rfl rfl rfl rfl)) (@qp _ _ _ _ _ (@xj _ _ _ _ _ xh (pv 9) rfl rfl)) (j7 _))))) (@je _ _ _ (jr cL)) jv)) (by intro _; rfl))
  (@jc _ _ _ _ _ (@jT _ _ _ _ _ _ _ _ PassesOwn.never rfl (@gN _ _ _ _ (@qk _ _ _ _ (@iA _ _ _ _ _ _ _ _ _ jf jf cL ig rfl rfl rfl rfl))) (qa (i:=9) hG.nd rfl (Or.inl rfl)) (@je _ _ _ (zo (jy (fK hr.units) (jn (zm T) hr.dn rfl T.zu T.zb.kp T.zt .nil jz (@iA _ _ _ _ _ _ _ _ _ jf (pv 3) (pv 9) (pv 8) rfl rfl rfl rfl)) (@qp _ _ _ _ _ (@xj _ _ _ _ _ xh (pv 9) rfl rfl)) (j7 _)) (@je _ _ _ (jr cL)) jv)) (by intro _; rfl))
  (@je _ _ _ (zo (jy (fK hr.units) (lM (N':=["_law_kind","_law_cutting","_law_cut"]) (ix:=[none,some 3,some 8]) (wu (by kernel_rfl)) rfl (@gN _ _ _ _ (@qk _ _ _ _ (@dG _ _ _ _ _ _ _ jf jf jf rfl rfl rfl))) (λ_ _ _ _=>(qa (i:=0) WK rfl (Or.inl rfl) (.inr rfl))) (λ_ _ _ _=>oA) (λ_ _ _ _=>(jn (zm (P:=P) (w:=w) (base:=base) T) hr.dn rfl T.zu T.zb.kp T.zt .nil jz (@iA _ _ _ _ _ _ _ _ _ (pv 0) (pv 1) (sH (jy fC (pv 0) jf (j7 _)) jf jf) (pv 2) rfl rfl rfl rfl)))) (vp C0 (@qk _ _ _ _ (jb xh jg)) jf) (j7 _)) (@je _ _ _ (jr cL)) jv))))))
  (@jc _ _ _ _ _ (zo (PW.pt (cY (jy (fK hr.units) (jn (zm T) hr.dn rfl T.zu T.zb.kp T.zt .nil jz (@iA _ _ _ _ _ _ _ _ _ jf (pv 3) jf (pv 5) rfl rfl rfl rfl)) xh (j7 _)) (cY (jy (fK hr.units) (jW (pv 3) T.jx T.MU (OW T) hr.dn T.MV .nil jz) (@qk _ _ _ _ jg) (j7 _)) (eJ (jy (fK hr.units) (j6 (pv 3) T.jx T.xq (vk T) hr.dn T.yb .nil mL (jb (pv 5) jg)) (@qk _ _ _ _ jg) (j7 _)))))) (@je _ _ _ (jr cL)) jv)
  (@jc _ _ _ _ _ (@jT _ _ _ _ _ _ _ _ PassesOwn.never rfl (@gN _ _ _ _ (@qk _ _ _ _ (@xj _ _ _ _ _ jf jf rfl rfl))) (qa (i:=10) hG.nd rfl (Or.inl rfl)) (@je _ _ _ (qc (j6 (pv 3) T.jx T.MS (OV T) hr.dn T.MT .nil mL (jb (pv 10) jg)))) (by intro _; rfl))
  (@jc _ _ _ _ _ (zo (PW.pt (cY (jy (fK hr.units) (jn (zm T) hr.dn rfl T.zu T.zb.kp T.zt .nil jz (@iA _ _ _ _ _ _ _ _ _ jf (pv 3) jf (pv 5) rfl rfl rfl rfl)) xh (j7 _)) (cY (jy (fK hr.units) (jn (zm T) hr.dn rfl T.zu T.zb.kp T.zt .nil jz (@iA _ _ _ _ _ _ _ _ _ jf (pv 3) jf (pv 5) rfl rfl rfl rfl)) xh (j7 _)) (eJ (jy (fK hr.units) (jW (pv 3) T.jx T.MU (OW T) hr.dn T.MV .nil jz) (@qk _ _ _ _ (jb (pv 5) jg)) (j7 _)))))) (@je _ _ _ (jr cL)) jv)
  (@jc _ _ _ _ _ (qc (j6 (pv 2) T.jt T.X8 (jto T) hr.dn T.X9 .nil mL (@dG _ _ _ _ _ _ _ jf jf jf rfl rfl rfl)))
  (@jc _ _ _ _ _ (IT PassesOwn.never (jy (fK hr.units) (jW (pv 2) T.jt T.XR (jn7 T) hr.dn T.XS .nil jz) (@qk _ _ _ _ jg) (j7 _)) (@je _ _ _ (qc (j6 (pv 2) T.jt T.Yb (jsl T) hr.dn T.Yc .nil jz (jb jf jg)))))
  (@jc _ _ _ _ _ (zo (PW.pt (cY (jy (fK hr.units) (jn (zm T) hr.dn rfl T.zu T.zb.kp T.zt .nil jz (@iA _ _ _ _ _ _ _ _ _ jf (pv 3) jf (pv 5) rfl rfl rfl rfl)) xh (j7 _)) (cY (jy (fK hr.units) (j6 (pv 2) T.jt T.XW (jsd T) hr.dn T.XX .nil mL (jb jf jg)) (@qk _ _ _ _ (@xj _ _ _ _ _ jf jf rfl rfl)) (j7 _)) (eJ (jy Tc (jn (Ho T) hr.dn rfl T.Gz T.AR.kp T.GA .nil jz (@xj _ _ _ _ _ (pv 5) (jn (wI T) hr.dn rfl T.vK T.rK.kp T.vL .nil mL (@xj _ _ _ _ _ (pv 2) jf rfl rfl)) rfl rfl)) cL (j7 _)))))) (@je _ _ _ (jr cL)) jv)
  (@je _ _ _ (jr (ik (il Tb (jn (Ho T) hr.dn rfl T.Gz T.AR.kp T.GA .nil jz (@xj _ _ _ _ _ (jn (wI T) hr.dn rfl T.vK T.rK.kp T.vL .nil mL (@xj _ _ _ _ _ (pv 2) jf rfl rfl)) (pv 5) rfl rfl)) cL (j7 _)) (jQ (il (Ta hr.units) (j6 (pv 3) T.jx T.xq (vk T) hr.dn T.yb .nil mL (jb (pv 5) jg)) (@qk _ _ _ _ (@dG _ _ _ _ _ _ _ jf jf jf rfl rfl rfl)) (j7 _)))))))))))))))))))),?_⟩
 refine bI λN hN=>⟨_,rfl,a,ns,rfl,hS,λTo R H1 nT nR s1 hT=>?_⟩
 have Ph:To ≠ R:=hT.ne
 obtain ⟨Z0,Pj⟩ : ∃ Z0:av,Z0 = aH (aH (λ_=>none) R (7,.own 1)) To (7,.own 0):=⟨_,rfl⟩
 have k0:aA Z0 H1 /\ Z0 To = some (7,.own 0) /\ Z0 R = some (7,.own 1):=by
  obtain ⟨row,c,t1,t2,t3⟩:=hT
  rw [Pj]
  exact ⟨aA.aH (aA.aH (λ_ _ z=>by cases z) t2 True.intro) t1 True.intro,qr,by rw [qy Ph.symm,qr]⟩
 have wV:=T.MJ.choose_spec.2
 refine hN _ _ (bI λN hN=>⟨bc,λsa wF=>⟨kJ,λla HE=>λx dx nx wQ ne=>?_⟩⟩)
 have w1:=jh (o:=.lst [.int 10,.int 0]) wF
 have w2:=jh (o:=.lst [.int 3]) HE
 have Pk:=k0.1.none wF
 have Pl:=(k0.1.same w1).none HE
 obtain ⟨g1,Pm⟩:=Pe (C:=t.j3) (r:=(1,.x)) nx wQ ne ((k0.1.same w1).same w2)
 obtain ⟨Bf,wX⟩:=dj g1 (w2 _ _ (ja (H:=H1) (a:=sa) (o:=.lst [.int 10,.int 0]))) Pk
 obtain ⟨Ba,wY⟩:=dj g1 (ja (H:=upd H1 sa (.lst [.int 10,.int 0])) (a:=la) (o:=.lst [.int 3])) Pl
 refine ⟨aH Z0 x (1,.x),1,x,dx,4,1,sa,[10,0],la,_,[],[3],rfl,ja,qr,Pm,by decide,by decide,by decide,Bf,(by rw [wX]; intro r z; cases z),by decide,by decide,by decide,.inl ⟨Ba,by rw [wY]; intro r z; cases z⟩,by decide,by decide,by decide,j50 wV,.nil,(λ_ z=>by cases z),λ Z1 H2 W eW eT O2 HF f2 bO=>⟨rfl,?_⟩⟩
 have F2:Fr (allI 1) Z0 H1 Z1 H2:=(((Fr.same (w1.trans w2)).trans g1).mono λ_ z=>z.elim).trans f2
 subst eW
 refine hN _ _ (bI λN hN=>⟨_,rfl,λC dC nC Pn gM=>?_⟩)
 obtain ⟨g3,fT⟩:=Pe (C:=t.j5) (r:=(9,.x)) nC Pn gM bO
 have O3:=O2.fr (λ_ z=>z) g3
 refine ⟨C,dC,.ref W.x,rfl,ja,.inr ⟨aH Z1 C (9,.x),1,W,_,rfl,O3,fT,qr,by decide,λ Z4 H4 Bq dB S c4 f4 Po=>⟨rfl,?_⟩⟩⟩
 have L4:dH P w t H4 Z4 W wA C dC Bq dB S [] [] To R:=by
  have F4:Fr (λr=>r.1 = 9) Z1 H2 Z4 H4:=(g3.mono λ_ z=>z.elim).trans f4
  obtain ⟨row,c,t1,t2,t3⟩:=hT
  obtain ⟨a1,a2⟩:=cj F2 t1 k0.2.1 (by intro z; cases z)
  obtain ⟨a3,a4⟩:=cj F4 a1 a2 (by intro z; cases z)
  obtain ⟨b1,b2⟩:=cj F2 t2 k0.2.2 (by intro z; cases z)
  obtain ⟨b3,b4⟩:=cj F4 b1 b2 (by intro z; cases z)
  exact ⟨⟨O2.fr (λ_ z=>by cases z) F4,dj F4 HF.1 HF.2,c4,Po⟩,⟨row,c,a3,b3,t3⟩,a4,b4⟩
 clear c4 f4 Po O3 fT g3 O2 F2 f2 bO HF k0 hT Pj Pm g1 Bf Ba Pk Pl wX wY w1 w2 wF HE nx wQ ne nC Pn gM Ph s1 nT nR wV
 refine hN _ _ (bI λN hN=>⟨_,rfl,bc,λl1 n1=>⟨Mc,λl2 n2=>?_⟩⟩)
 have w1:=jh (o:=.lst [.int 10,.int 0]) n1
 have w2:=jh (o:=.lst [.aj,.int 5,.ref C,.ref l1,.str "world"]) n2
 have HG:=w2 _ _ (ja (H:=H4) (a:=l1) (o:=.lst [.int 10,.int 0]))
 have oh:=ja (H:=upd H4 l1 (.lst [.int 10,.int 0])) (a:=l2) (o:=.lst [.aj,.int 5,.ref C,.ref l1,.str "world"])
 have L5:=(L4.same w1).same w2
 generalize upd (upd H4 l1 (.lst [.int 10,.int 0])) l2 (.lst [.aj,.int 5,.ref C,.ref l1,.str "world"]) = H5 at HG oh L5 ⊢
 refine ⟨l2,rfl,⟨_,ai.of oh⟩,mw (K:=K) (a:=l2) (xs:=[.aj,.int 5,.ref C,.ref l1,.str "world"]) (λi U H'=>∃ v,U = [some (.ref a),some (.ref To),some (.ref W.x),some (.ref C),v,none,none,none,none,none,none] /\ qg H5 H') ⟨none,rfl,qg.refl _⟩ (λi U H' _ ⟨_,_,s5⟩=>ai.of (s5 _ _ oh)) ?_ ?_⟩
 .rintro j y U H6 ey ⟨v,rfl,s6⟩
  have ny:iK t H6 y:=by
   match j,ey with
   | 0,ey=>cases ey; exact .inl rfl
   | 1,ey=>cases ey; exact .inr (.inl ⟨5,rfl⟩)
   | 2,ey=>cases ey; exact .inr (.inr (.inr (.inr ⟨C,_,_,rfl,s6 _ _ L5.rm.ct.ob.1⟩)))
   | 3,ey=>cases ey; exact .inr (.inr (.inr (.inl ⟨l1,_,rfl,s6 _ _ HG⟩)))
   | 4,ey=>cases ey; exact .inr (.inr (.inl ⟨_,rfl⟩))
   | n + 5,ey=>simp at ey
  refine ⟨Er,λl3 n3=>⟨l3,rfl,⟨_,ai.of ja⟩,tH (K:=K) (a:=l3) (xs:=[.int 0,.int 1,.int 6,.int 7,.int 8,.int 9]) (λi ys U' H'=>(∃ v,U' = [v,some y]) /\ qg (upd H6 l3 (.lst [.int 0,.int 1,.int 6,.int 7,.int 8,.int 9])) H' /\ ys = List.replicate i (.str "paper")) ⟨⟨none,rfl⟩,qg.refl _,rfl⟩ ?_ ?_ ?_⟩⟩
  .rintro i ys U' H7 hi ⟨_,s7,rfl⟩
   exact ⟨ai.of (s7 _ _ ja),kK (by rw [length_replicate]; exact le_trans hi (by decide))⟩
  .rintro i x ys U' H7 hx ⟨⟨v',rfl⟩,s7,rfl⟩
   have s67:qg H6 H7:=(jh n3).trans s7
   dsimp only [jS,mH]
   rw [if_pos rfl]
   obtain ⟨z,rfl,hz⟩ : ∃ z,x = .int z /\ (z = 0 \/ z = 1 \/ z = 6 \/ z = 7 \/ z = 8 \/ z = 9):=by
    match i,hx with
    | 0,hx=>cases hx; exact ⟨_,rfl,.inl rfl⟩
    | 1,hx=>cases hx; exact ⟨_,rfl,.inr (.inl rfl)⟩
    | 2,hx=>cases hx; exact ⟨_,rfl,.inr (.inr (.inl rfl))⟩
    | 3,hx=>cases hx; exact ⟨_,rfl,.inr (.inr (.inr (.inl rfl)))⟩
    | 4,hx=>cases hx; exact ⟨_,rfl,.inr (.inr (.inr (.inr (.inl rfl))))⟩
    | 5,hx=>cases hx; exact ⟨_,rfl,.inr (.inr (.inr (.inr (.inr rfl))))⟩
    | n + 6,hx=>simp at hx
   refine ⟨_,rfl,_,rfl,z,y,.int 9,.int 0,rfl,.inl ⟨.pap,.inl ⟨hz,ny.same s67,rfl⟩,λH8 s8=>⟨⟨_,rfl⟩,s7.trans s8,?_⟩⟩⟩
   rw [List.replicate_succ']
  .rintro ys U' H7 ⟨_,s7,rfl⟩ p hp
   have t1:=jh (o:=.lst ((List.replicate 6 ("paper" : Str)).map V.str)) hp
   have uP:upd H7 p (.lst ((List.replicate 6 ("paper" : Str)).map V.str)) p = some (.lst ((List.replicate 6 ("paper" : Str)).map V.str)):=ja
   change qG _ _ _ _ (upd H7 p (.lst ((List.replicate 6 ("paper" : Str)).map V.str))) _
   refine ⟨kJ,λl4 n4=>⟨l4,6,[.str "paper"],rfl,rfl,ja,by decide,by decide,by show 6 <= sizeLine; decide,λl5 n5=>?_⟩⟩
   have t2:=jh (o:=.lst [.str "paper"]) n4
   have t3:=jh (o:=.lst ((List.replicate 6 ("paper" : Str)).map V.str)) n5
   refine ⟨.lst ((List.replicate 6 ("paper" : Str)).map Dt.str),.lst ((List.replicate 6 ("paper" : Str)).map Dt.str),Bm (t3 _ _ (t2 _ _ uP)),Bm ja,Pb _,_,rfl,?_⟩
   rw [O9]
   refine qq ⟨_,rfl,?_⟩
   exact s6.trans ((jh n3).trans (s7.trans (t1.trans (t2.trans t3))))
 rintro U H6 ⟨v,rfl,s6⟩
 have L6:=L5.same s6
 clear HG oh L5 L4 w1 w2 n1 n2 s6
 refine hN _ _ (bI λN hN=>?_)
 refine ⟨bc,λa1 m1=>⟨bc,λa2 m2=>⟨bc,λst m3=>?_⟩⟩⟩
 have w1:=jh (o:=.tup [.int 0,.int 0]) m1
 have w2:=jh (o:=.tup [.int 10,.int 0]) m2
 have w3:=jh (o:=.tup [.ref a1,.ref a2]) m3
 have c7:cI (upd (upd (upd H6 a1 (.tup [.int 0,.int 0])) a2 (.tup [.int 10,.int 0])) st (.tup [.ref a1,.ref a2])) ([0,0],[10,0]) st:=⟨a1,a2,ja,w3 _ _ (w2 _ _ ja),w3 _ _ ja⟩
 have L7:=L6.same (w1.trans (w2.trans w3))
 generalize upd (upd (upd H6 a1 (.tup [.int 0,.int 0])) a2 (.tup [.int 10,.int 0])) st (.tup [.ref a1,.ref a2]) = H7 at c7 L7 ⊢
 clear w1 w2 w3 L6 m1 m2 m3
 refine hN _ _ (bI λN hN=>?_)
 obtain ⟨Pp,yP,fY,wZ,xA⟩:=c7
 have t1:qg H7 H7:=qg.refl _
 refine ⟨dF,λq2 m=>?_⟩
 obtain ⟨G2,e,s2,g2⟩:=oneAt (w:=.tup []) t1 m
 have t2:=t1.trans s2
 rw [<- e]
 clear m e
 refine ⟨_,rfl,1,rfl,st,_,rfl,ax.of (s2 _ _ fY),(by show ¬ (HT.bj 2 0 none = 0 /\ HT.bj 2 2 (some 1) = 2); decide),λq3 m=>?_⟩
 obtain ⟨G3,e,s3,g3⟩:=oneAt (w:=.tup (sY [.ref Pp,.ref yP] none (some 1))) t2 m
 have t3:=t2.trans s3
 rw [<- e]
 clear m e
 refine ⟨bc,λb1 m1=>⟨bc,λb2 m2=>⟨bc,λq4 m3=>?_⟩⟩⟩
 obtain ⟨G4,e,s4,g4,g4a,g4b⟩:=pairAt (u:=.tup [.int 0,.int 0]) (v:=.tup [.int 10,.int 0]) (w:=.lst [.ref b1,.ref b2]) t3 m1 m2 m3
 have t4:=t3.trans s4
 rw [<- e]
 clear e m1 m2 m3
 refine ⟨bc,λb1 m1=>⟨bc,λb2 m2=>⟨bc,λq5 m3=>?_⟩⟩⟩
 obtain ⟨G5,e,s5,g5,Pq,Pr⟩:=pairAt (u:=.tup [.int 0,.int 0]) (v:=.tup [.int 11,.int 0]) (w:=.tup [.ref b1,.ref b2]) t4 m1 m2 m3
 have t5:=t4.trans s5
 rw [<- e]
 clear e m1 m2 m3
 refine ⟨bc,λb1 m1=>⟨bc,λb2 m2=>⟨bc,λq6 m3=>?_⟩⟩⟩
 obtain ⟨G6,e,s6,g6,Pt,Pu⟩:=pairAt (u:=.tup [.int 0,.int 0]) (v:=.lst [.int 10,.int 0]) (w:=.tup [.ref b1,.ref b2]) t5 m1 m2 m3
 have t6:=t5.trans s6
 rw [<- e]
 clear e m1 m2 m3
 refine ⟨kJ,λb1 m1=>⟨bc,λb2 m2=>⟨bc,λq7 m3=>?_⟩⟩⟩
 obtain ⟨G7,e,s7,g7,Pw,Px⟩:=pairAt (u:=.tup [.int 0]) (v:=.tup [.int 10,.int 0]) (w:=.tup [.ref b1,.ref b2]) t6 m1 m2 m3
 have t7:=t6.trans s7
 rw [<- e]
 clear e m1 m2 m3
 refine ⟨bc,λb1 m1=>⟨_,_,rfl,rfl,bc,λb2 m2=>⟨bc,λq8 m3=>?_⟩⟩⟩
 obtain ⟨G8,e,s8,g8,Py,Pz⟩:=pairAt (u:=.tup [.int 0,.int 0]) (v:=.tup [.int 11,.int (0 - 1)]) (w:=.tup [.ref b1,.ref b2]) t7 m1 m2 m3
 have t8:=t7.trans s8
 rw [<- e]
 clear e m1 m2 m3
 refine ⟨Md,λHH m=>?_⟩
 obtain ⟨G9,e,s9,g9⟩:=oneAt (w:=.lst [.aj,.int 5,.ref q2,.ref q3,.ref q4,.ref q5,.ref q6,.ref q7,.ref q8]) t8 m
 have t9:=t8.trans s9
 rw [<- e]
 clear m e
 refine hN _ _ (bI λN hN=>⟨_,rfl,?_⟩)
 refine ⟨bc,λb1 m1=>⟨bc,λb2 m2=>⟨bc,λxB m3=>?_⟩⟩⟩
 obtain ⟨OI,e,bL,pO,xC,xD⟩:=pairAt (u:=.tup [.int 0,.bl true]) (v:=.tup [.int 10,.int 0]) (w:=.tup [.ref b1,.ref b2]) t9 m1 m2 m3
 have oW:=t9.trans bL
 rw [<- e]
 clear e m1 m2 m3
 refine ⟨_,_,rfl,rfl,bc,λb1 m1=>⟨bc,λb2 m2=>⟨bc,λxE m3=>?_⟩⟩⟩
 obtain ⟨pJ,e,du,Bo,xF,xG⟩:=pairAt (u:=.tup [.int 0,.int (0 - 1)]) (v:=.tup [.int 10,.int 0]) (w:=.tup [.ref b1,.ref b2]) oW m1 m2 m3
 have Bp:=oW.trans du
 rw [<- e]
 clear e m1 m2 m3
 refine ⟨oV,λb1 m1=>⟨bc,λb2 m2=>⟨bc,λxH m3=>?_⟩⟩⟩
 obtain ⟨si,e,bD,sC,xI,xJ⟩:=pairAt (u:=.tup [.int 0,.int 0,.int 0]) (v:=.tup [.int 10,.int 0]) (w:=.tup [.ref b1,.ref b2]) Bp m1 m2 m3
 have Br:=Bp.trans bD
 rw [<- e]
 clear e m1 m2 m3
 refine ⟨bc,λb1 m1=>⟨bc,λb2 m2=>⟨bc,λxK m3=>?_⟩⟩⟩
 obtain ⟨OJ,e,cE,PB,xM,xN⟩:=pairAt (u:=.tup [.int 0,.aj]) (v:=.tup [.int 10,.int 0]) (w:=.tup [.ref b1,.ref b2]) Br m1 m2 m3
 have Bs:=Br.trans cE
 rw [<- e]
 clear e m1 m2 m3
 refine ⟨bc,λb1 m1=>⟨bc,λb2 m2=>⟨bc,λxO m3=>?_⟩⟩⟩
 obtain ⟨G14,e,bT,xP,xQ,xR⟩:=pairAt (u:=.tup [.int 0,.int 100001]) (v:=.tup [.int 10,.int 0]) (w:=.tup [.ref b1,.ref b2]) Bs m1 m2 m3
 have Bt:=Bs.trans bT
 rw [<- e]
 clear e m1 m2 m3
 refine ⟨Mc,λHI m=>?_⟩
 obtain ⟨G15,e,cU,PD⟩:=oneAt (w:=.lst [.ref xB,.ref xE,.ref xH,.ref xK,.ref xO]) Bt m
 have Bu:=Bt.trans cU
 rw [<- e]
 clear m e
 refine ⟨HH,HI,_,_,rfl,rfl,(bL.trans (du.trans (bD.trans (cE.trans (bT.trans cU))))) _ _ (wO _ _ g9),wO _ _ PD,Ww,λbd m=>?_⟩
 obtain ⟨sj,e,dZ,HJ⟩:=oneAt (w:=.lst ([.aj,.int 5,.ref q2,.ref q3,.ref q4,.ref q5,.ref q6,.ref q7,.ref q8] ++ [.ref xB,.ref xE,.ref xH,.ref xK,.ref xO])) Bu m
 have xS:=Bu.trans dZ
 rw [<- e]
 clear m e
 have xT : ∀ x ∈ ([.aj,.int 5,.ref q2,.ref q3,.ref q4,.ref q5,.ref q6,.ref q7,.ref q8,.ref xB,.ref xE,.ref xH,.ref xK,.ref xO] : List V),dq (ft H7 sj) 2 10 x false:=by
  intro x hx
  simp only [mem_cons,List.not_mem_nil,or_false] at hx
  rcases hx with rfl | rfl | rfl | rfl | rfl | rfl | rfl | rfl | rfl | rfl | rfl | rfl | rfl | rfl
  .exact .inl ⟨rfl,rfl⟩
  .exact .inl ⟨rfl,rfl⟩
  .exact .inr (.inr (.inl ⟨q2,_,rfl,gi (s3.trans (s4.trans (s5.trans (s6.trans (s7.trans (s8.trans (s9.trans (bL.trans (du.trans (bD.trans (cE.trans (bT.trans (cU.trans dZ))))))))))))) _ _ g2,by decide,rfl⟩))
  .exact .inr (.inr (.inl ⟨q3,_,rfl,gi (s4.trans (s5.trans (s6.trans (s7.trans (s8.trans (s9.trans (bL.trans (du.trans (bD.trans (cE.trans (bT.trans (cU.trans dZ)))))))))))) _ _ g3,(by show ¬ 1 = 2; decide),rfl⟩))
  .exact .inr (.inl ⟨q4,_,rfl,gi (s5.trans (s6.trans (s7.trans (s8.trans (s9.trans (bL.trans (du.trans (bD.trans (cE.trans (bT.trans (cU.trans dZ))))))))))) _ _ g4,rfl⟩)
  .exact (nj g5 Pq Pr (by decide) (by decide) (by decide) (by decide) (by decide)).same (gi (s6.trans (s7.trans (s8.trans (s9.trans (bL.trans (du.trans (bD.trans (cE.trans (bT.trans (cU.trans dZ)))))))))))
  .exact (j8e g6 Pt Pu (by decide) (by decide)).same (gi (s7.trans (s8.trans (s9.trans (bL.trans (du.trans (bD.trans (cE.trans (bT.trans (cU.trans dZ))))))))))
  .exact (nj g7 Pw Px (by decide) (by decide) (by decide) (by decide) (by decide)).same (gi (s8.trans (s9.trans (bL.trans (du.trans (bD.trans (cE.trans (bT.trans (cU.trans dZ)))))))))
  .exact (nj g8 Py Pz (by decide) (by decide) (by decide) (by decide) (by decide)).same (gi (s9.trans (bL.trans (du.trans (bD.trans (cE.trans (bT.trans (cU.trans dZ))))))))
  .exact (nj pO xC xD (by decide) (by decide) (by decide) (by decide) (by decide)).same (gi (du.trans (bD.trans (cE.trans (bT.trans (cU.trans dZ))))))
  .exact (nj Bo xF xG (by decide) (by decide) (by decide) (by decide) (by decide)).same (gi (bD.trans (cE.trans (bT.trans (cU.trans dZ)))))
  .exact (nj sC xI xJ (by decide) (by decide) (by decide) (by decide) (by decide)).same (gi (cE.trans (bT.trans (cU.trans dZ))))
  .exact (nj PB xM xN (by decide) (by decide) (by decide) (by decide) (by decide)).same (gi (bT.trans (cU.trans dZ)))
  .exact (nj xP xQ xR (by decide) (by decide) (by decide) (by decide) (by decide)).same (gi (cU.trans dZ))
 have L8:=L7.same xS
 have c8:cI sj ([0,0],[10,0]) st:=cI.same xS ⟨Pp,yP,fY,wZ,xA⟩
 clear s2 s3 s4 s5 s6 s7 s8 s9 bL du bD cE bT cU dZ g2 g3 g4 g5 g6 g7 g8 g9 pO Bo sC PB xP PD g4a g4b Pq Pr Pt Pu Pw Px Py Pz xC xD xF xG xI xJ xM xN xQ xR fY wZ xA t1 t2 t3 t4 t5 t6 t7 t8 t9 oW Bp Br Bs Bt Bu
 have k7:=L7.rm.kr
 refine hN _ _ (bI λN hN=>?_)
 have xU : Z4 bd = none:=k7.none (j0v HJ)
 refine ⟨6,rfl,by decide,by decide,QM (lo:=0) (n:=6) (λi U H'=>∃ v7 v8 v9,U = [some (.ref a),some (.ref To),some (.ref W.x),some (.ref C),v,some (.ref st),some (.ref bd),v7,v8,v9,none] /\ dH P w t H' Z4 W wA C dC Bq dB S [] [] To R /\ Fr (λr=>r.1 = 7) Z4 sj Z4 H') ⟨none,none,none,rfl,L8,Fr.refl⟩ ?_ ?_⟩
 .rintro i0 U H8 hi ⟨v7,v8,v9,rfl,L8,f8⟩
  have d8:=Pd k7 f8
  have PF:=d8 _ _ HJ
  refine bI λN hN=>⟨_,rfl,_,rfl,To,R,bd,_,rfl,L8.tn,PF,(λz=>by rw [z,L8.r1] at xU; cases xU),(λz=>by rw [z,L8.r2] at xU; cases xU),(by show 0 < 14; decide),(by show 14 <= 1000000; decide),λj x H9 ex PH PJ=>?_⟩
  obtain ⟨L9,f9⟩:=L8.draw PH PJ
  have cx:dq H9 2 10 x false:=(xT x (mem_of_getElem? ex)).same (Pd k7 (f8.trans f9))
  have F9:=f8.trans f9
  clear d8 PF L8 f8 f9 PH PJ
  refine hN _ _ (bI λN hN=>⟨_,_,rfl,rfl,Er,λl m=>?_⟩)
  obtain ⟨zR,e,bL,pO⟩:=oneAt (w:=.lst [.int 4,.int (0 - 1),.bl true,.aj,.str "0",.int 3]) (qg.refl H9) m
  rw [<- e]
  clear m e
  have hl:=wO _ _ pO
  refine ⟨l,rfl,⟨_,ai.of hl⟩,mw (K:=K) (a:=l) (xs:=[.int 4,.int (0 - 1),.bl true,.aj,.str "0",.int 3]) (λi U H'=>∃ v9,U = [some (.ref a),some (.ref To),some (.ref W.x),some (.ref C),v,some (.ref st),some (.ref bd),some (.int (0 + (i0:Nat))),some x,v9,none] /\ qg zR H') ⟨v9,rfl,qg.refl _⟩ (λi U H' _ ⟨_,_,s'⟩=>ai.of (s' _ _ hl)) ?_ ?_⟩
  .rintro j2 y U HK hy ⟨v9,rfl,du⟩
   obtain ⟨sy,nh⟩ : simple y = true /\ mX wA y:=qau hy
   have PL:=L9.rm.same (bL.trans du)
   have pP:=cx.same (bL.trans du)
   refine ⟨_,rfl,_,rfl,2,.ref C,y,.int 0,rfl,.inl ⟨.eD y,.inr ⟨Z4,W,wA,[3],C,dC,Bq,dB,S,3,[],[],rfl,PL,.inl ⟨rfl,sy,nh,rfl⟩⟩,λr1 Bv _ bD Bx=>?_⟩⟩
   refine ⟨_,rfl,bc,λr2 m=>?_⟩
   have w1:=jh (o:=.tup [.str "house",y]) m
   refine ⟨hZ "house" y,hZ "house" y,sA (w1 _ _ Bx) sy,sA ja sy,Hx _ _,_,rfl,?_⟩
   rw [Hw]
   refine qq ?_
   have cE:=bD.trans w1
   refine ⟨_,rfl,_,rfl,_,rfl,4,.ref C,y,x,rfl,.inl ⟨.eD y,.inr ⟨Z4,W,wA,[3],C,dC,Bq,dB,S,3,[],[],rfl,PL.same cE,.inr (.inr (.inl ⟨rfl,sy,.inl ⟨nh,rfl⟩⟩))⟩,λr3 lZ _ bT HL=>?_⟩⟩
   refine ⟨_,rfl,bc,λr4 m=>?_⟩
   have w2:=jh (o:=.tup [.str "house",y]) m
   refine ⟨hZ "house" y,hZ "house" y,sA (w2 _ _ HL) sy,sA ja sy,Hx _ _,_,rfl,?_⟩
   rw [Hw]
   exact qq ⟨_,rfl,du.trans (cE.trans (bT.trans w2))⟩
  rintro U HK ⟨v9,rfl,du⟩
  have ma:=L9.same (bL.trans du)
  have pP:=cx.same (bL.trans du)
  have PM:=F9.trans (Fr.same (bL.trans du))
  clear L9 cx F9 hl pO bL du
  refine hN _ _ (bI λN hN=>⟨Mb,λl m=>?_⟩)
  obtain ⟨Bv,e,bD,sC⟩:=oneAt (w:=.lst [.int 4,.int 0,.bl true,.aj]) (qg.refl HK) m
  rw [<- e]
  clear m e
  have hl:=wO _ _ sC
  refine ⟨l,rfl,⟨_,ai.of hl⟩,mw (K:=K) (a:=l) (xs:=[.int 4,.int 0,.bl true,.aj]) (λi U H'=>∃ v9,U = [some (.ref a),some (.ref To),some (.ref W.x),some (.ref C),v,some (.ref st),some (.ref bd),some (.int (0 + (i0:Nat))),some x,v9,none] /\ qg Bv H') ⟨v9,rfl,qg.refl _⟩ (λi U H' _ ⟨_,_,s'⟩=>ai.of (s' _ _ hl)) ?_ ?_⟩
  .rintro j2 y U By hy ⟨v9,rfl,cE⟩
   obtain ⟨sy,nh⟩ : simple y = true /\ ∀ i,y = .int i -> i ∉ [3]:=qa7 hy
   have R13:=ma.rm.same (bD.trans cE)
   refine ⟨_,rfl,_,rfl,_,rfl,3,.ref C,y,x,rfl,.inl ⟨.eD y,.inr ⟨Z4,W,wA,[3],C,dC,Bq,dB,S,3,[],[],rfl,R13,.inr (.inl ⟨rfl,sy,.inl ⟨nh,rfl⟩⟩)⟩,λr1 lZ _ bT HL=>?_⟩⟩
   refine ⟨_,rfl,bc,λr2 m=>?_⟩
   have w1:=jh (o:=.tup [.str "house",y]) m
   refine ⟨hZ "house" y,hZ "house" y,sA (w1 _ _ HL) sy,sA ja sy,Hx _ _,_,rfl,?_⟩
   rw [Hw]
   exact qq ⟨_,rfl,cE.trans (bT.trans w1)⟩
  rintro U By ⟨v9,rfl,cE⟩
  have pQ:=ma.same (bD.trans cE)
  have HM:=pP.same (bD.trans cE)
  have F13:=PM.trans (Fr.same (bD.trans cE))
  clear ma pP PM hl sC bD cE
  refine hN _ _ ?_
  refine ⟨oV,λl3 n3=>⟨l3,rfl,⟨_,ai.of ja⟩,tH (K:=K) (a:=l3) (xs:=[.int 3,.int 4,.int 5]) (λi ys U' H'=>(∃ v,U' = [v,some (.ref C),some x]) /\ qg (upd By l3 (.lst [.int 3,.int 4,.int 5])) H' /\ ys = List.replicate i (.str "cut")) ⟨⟨none,rfl⟩,qg.refl _,rfl⟩ ?_ ?_ ?_⟩⟩
  .rintro i ys U' lZ hi ⟨_,bT,rfl⟩
   exact ⟨ai.of (bT _ _ ja),kK (by rw [length_replicate]; exact le_trans hi (by decide))⟩
  .rintro i y ys U' lZ hx ⟨⟨v',rfl⟩,bT,rfl⟩
   have xV:=(jh (o:=.lst [.int 3,.int 4,.int 5]) n3).trans bT
   have HN:=pQ.rm.same xV
   have pR:dq lZ wA.n W.aO x false:=by rw [show W.aO = 10 from eT]; exact HM.same xV
   dsimp only [jS,mH]
   rw [if_pos rfl]
   match i,hx with
   | 0,hx=>
    cases hx
    refine ⟨_,rfl,_,rfl,_,rfl,rfl,_,rfl,yz ⟨_,rfl,3,.ref C,.int 3,x,rfl,.inl ⟨.cut,.inr ⟨Z4,W,wA,[3],C,dC,Bq,dB,S,3,[],[],rfl,HN,.inr (.inl ⟨rfl,rfl,.inr ⟨3,rfl,by decide,pR,rfl⟩⟩)⟩,λxW cU=>⟨⟨_,rfl⟩,bT.trans cU,rfl⟩⟩⟩⟩
   | 1,hx=>
    cases hx
    refine ⟨_,rfl,_,rfl,_,rfl,rfl,_,rfl,qq ⟨_,rfl,4,.ref C,.int 0,x,rfl,.inl ⟨.cut,.inr ⟨Z4,W,wA,[3],C,dC,Bq,dB,S,3,[],[],rfl,HN,.inr (.inr (.inl ⟨rfl,rfl,.inr ⟨0,_,rfl,rfl,.inl ⟨pR,rfl⟩⟩⟩))⟩,λxW cU=>⟨⟨_,rfl⟩,bT.trans cU,rfl⟩⟩⟩⟩
   | 2,hx=>
    cases hx
    refine ⟨_,rfl,_,rfl,_,rfl,rfl,_,rfl,qq ⟨_,rfl,5,.ref C,.int 0,x,rfl,.inl ⟨.cut,.inr ⟨Z4,W,wA,[3],C,dC,Bq,dB,S,3,[],[],rfl,HN,.inr (.inr (.inr ⟨rfl,pR,rfl⟩))⟩,λxW cU=>⟨⟨_,rfl⟩,bT.trans cU,rfl⟩⟩⟩⟩
   | n + 3,hx=>simp at hx
  .rintro ys U' lZ ⟨_,bT,rfl⟩ p hp
   have t1:=jh (o:=.lst ((List.replicate 3 ("cut" : Str)).map V.str)) hp
   have uP:upd lZ p (.lst ((List.replicate 3 ("cut" : Str)).map V.str)) p = some (.lst ((List.replicate 3 ("cut" : Str)).map V.str)):=ja
   change qG _ _ _ _ (upd lZ p (.lst ((List.replicate 3 ("cut" : Str)).map V.str))) _
   refine ⟨kJ,λl4 n4=>⟨l4,3,[.str "cut"],rfl,rfl,ja,by decide,by decide,by show 3 <= sizeLine; decide,λl5 n5=>?_⟩⟩
   have t2:=jh (o:=.lst [.str "cut"]) n4
   have t3:=jh (o:=.lst ((List.replicate 3 ("cut" : Str)).map V.str)) n5
   refine ⟨.lst ((List.replicate 3 ("cut" : Str)).map Dt.str),.lst ((List.replicate 3 ("cut" : Str)).map Dt.str),Bm (t3 _ _ (t2 _ _ uP)),Bm ja,Pb _,_,rfl,?_⟩
   rw [O9]
   have sx:=(jh (o:=.lst [.int 3,.int 4,.int 5]) n3).trans (bT.trans (t1.trans (t2.trans t3)))
   exact qq ⟨_,_,_,rfl,pQ.same sx,F13.trans (Fr.same sx)⟩
 rintro U H8 ⟨v7,v8,v9,rfl,L8,f8⟩
 have c8:=wR f8 (L7.rm.kr.same xS) c8
 clear f8 xT xU HJ k7 L7 xS
 have cst : ∀ {G:Hp},cI G ([0,0],[10,0]) st -> dq G wA.n W.aO (.ref st) true:=λ{G} c=>by
  obtain ⟨x1,x2,h1,h2,h3⟩:=c
  rw [show W.aO = 10 from eT]
  refine .inr (.inr (.inr ⟨st,.ref x1,.ref x2,true,true,rfl,h1,.inr (.inr ⟨x1,_,rfl,h2,by decide,by decide,by decide⟩),.inr (.inr ⟨x2,_,rfl,h3,by decide,by decide,by decide⟩),(λz=>by cases z),λ_ d ns e hd _=>?_⟩))
  cases e
  rw [h3] at hd
  have e2:([10,0] : List Int) = ns:=(List.map_inj_right λ_ _ z=>V.int.inj z).mp (HO.tup.inj (Option.some.inj hd))
  rw [<- e2]
  rfl
 refine hN _ _ (bI λN hN=>?_)
 refine ⟨_,rfl,_,rfl,4,.ref C,.int 0,.ref st,rfl,.inl ⟨.cut,.inr ⟨Z4,W,wA,[3],C,dC,Bq,dB,S,3,[],[],rfl,L8.rm,.inr (.inr (.inl ⟨rfl,rfl,.inr ⟨0,_,rfl,rfl,.inr ⟨st,([0,0],[10,0]),cst c8,rfl,c8,.inl ⟨by decide,rfl⟩⟩⟩⟩))⟩,λH9 s9=>?_⟩⟩
 refine ⟨.str "cut",.str "cut",by rw [j9],by rw [j9],by simp [bu],_,rfl,?_⟩
 rw [show aJ (.str "cut") (.str "cut") = true by simp [aJ]]
 refine qq ?_
 have L9:=L8.same s9
 have c9:=c8.same s9
 clear s9 L8 c8
 refine ⟨_,rfl,C,dC,_,rfl,L9.rm.ct.ob.1,gJ _ _ (by decide +kernel) (by decide +kernel),Z4,W,wA,[3],C,dC,Bq,dB,S,3,[],[],rfl,L9.rm,by decide,.nil,λzR r us jL jM bL ni pu pp _ _ _=>?_⟩
 cases pu
 cases pp.eq_nil
 refine ⟨dF,λr2 m=>?_⟩
 have w1:=jh (o:=.lst []) m
 refine ⟨.lst [],.lst [],(by rw [j9]; exact ⟨_,[],rfl,ai.of (w1 _ _ ni),by rw [qu]⟩),(by rw [j9]; exact ⟨_,[],rfl,ai.of ja,by rw [qu]⟩),by simp [bu,cT],_,rfl,?_⟩
 rw [show aJ (.lst []) (.lst []) = true by simp [aJ,bV]]
 refine qq ?_
 have ma:=L9.same (bL.trans w1)
 have c11:=c9.same (bL.trans w1)
 generalize upd zR r2 (.lst []) = HK at ma c11 ⊢
 clear bL w1 L9 c9 ni m
 refine ⟨_,rfl,C,dC,_,rfl,ma.rm.ct.ob.1,gJ _ _ (by decide +kernel) (by decide +kernel),_,rfl,Z4,W,wA,[3],C,dC,Bq,dB,S,3,[],[],.ref st,true,rfl,ma.rm,cst c11,.inr ⟨st,([0,0],[10,0]),rfl,rfl,c11,by decide,λBv r3 PN bD Bx PQ _=>?_⟩⟩
 cases PQ.eq_nil
 refine ⟨dF,λr4 m=>?_⟩
 have w1:=jh (o:=.lst []) m
 refine ⟨.lst [],.lst [],(by rw [j9]; exact ⟨_,[],rfl,ai.of (w1 _ _ Bx),by rw [qu]⟩),(by rw [j9]; exact ⟨_,[],rfl,ai.of ja,by rw [qu]⟩),by simp [bu,cT],_,rfl,?_⟩
 rw [show aJ (.lst []) (.lst []) = true by simp [aJ,bV]]
 have pQ:=ma.same (bD.trans w1)
 have c13:=c11.same (bD.trans w1)
 generalize upd Bv r4 (.lst []) = By at pQ c13 ⊢
 clear bD w1 ma c11 Bx m
 refine qq (hN _ _ (bI λN hN=>?_))
 refine ⟨bc,λl m=>?_⟩
 obtain ⟨lZ,e,bT,xP⟩:=oneAt (w:=.lst [.int 0,.int 1]) (qg.refl By) m
 rw [<- e]
 have rl : Z4 l = none:=pQ.rm.kr.none m
 clear m e
 have HP:=pQ.same bT
 have c14:=c13.same bT
 have hl:=wO _ _ xP
 clear pQ c13 bT xP
 refine ⟨l,rfl,⟨_,ai.of hl⟩,mw (K:=K) (a:=l) (xs:=[.int 0,.int 1]) (λi U H'=>∃ v10 Z xs,U = [some (.ref a),some (.ref To),some (.ref W.x),some (.ref C),v,some (.ref st),some (.ref bd),v7,v8,v9,v10] /\ dH P w t H' Z W wA C dC Bq dB S xs (if i = 0 then [] else [(([0,0],[10,0]),if i = 1 then [0] else [0,1])]) To R /\ Fr (λr=>r.1 = 9) Z4 lZ Z H') ⟨none,Z4,[],rfl,HP,Fr.refl⟩ (λi U H' _ ⟨_,_,_,_,_,f⟩=>ai.of (dj f hl rl).1) ?_ ?_⟩
 .rintro j y U xW hy ⟨v10,Z5,xs5,rfl,iO,fU⟩
  have lx:xs5.length <= 1000:=by
   rw [Paired.length iO.rm.ct.bd.hs]
   split <;> simp
  match j,hy with
  | 0,hy=>
   cases hy
   refine ⟨_,rfl,C,dC,_,rfl,iO.rm.ct.ob.1,gJ _ _ (by decide +kernel) (by decide +kernel),_,rfl,Z5,W,wA,[3],C,dC,Bq,dB,S,3,xs5,_,.int 0,rfl,iO.rm,rfl,.inr ⟨0,_,rfl,rfl,lx,by decide,by decide,λ Z6 PR jN p HQ md _=>⟨_,Z6,jN,rfl,iO.cut HQ md,fU.trans md⟩⟩⟩
  | 1,hy=>
   cases hy
   refine ⟨_,rfl,C,dC,_,rfl,iO.rm.ct.ob.1,gJ _ _ (by decide +kernel) (by decide +kernel),_,rfl,Z5,W,wA,[3],C,dC,Bq,dB,S,3,xs5,_,.int 1,rfl,iO.rm,rfl,.inr ⟨1,_,rfl,rfl,lx,by decide,by decide,λ Z6 PR jN p HQ md _=>⟨_,Z6,jN,rfl,iO.cut HQ md,fU.trans md⟩⟩⟩
  | n + 2,hy=>simp at hy
 rintro U xW ⟨v10,Z5,xs5,rfl,iO,fU⟩
 have c15:=wR fU HP.rm.kr c14
 change dH P w t xW Z5 W wA C dC Bq dB S xs5 [(([0,0],[10,0]),[0,1])] To R at iO
 clear fU c14 HP hl rl
 refine hN _ _ (bI λN hN=>?_)
 refine ⟨_,rfl,_,rfl,4,.ref C,.int 0,.ref st,rfl,.inl ⟨.cut,.inr ⟨Z5,W,wA,[3],C,dC,Bq,dB,S,3,xs5,_,rfl,iO.rm,.inr (.inr (.inl ⟨rfl,rfl,.inr ⟨0,_,rfl,rfl,.inr ⟨st,([0,0],[10,0]),cst c15,rfl,c15,.inl ⟨by decide,rfl⟩⟩⟩⟩))⟩,λPR dZ=>?_⟩⟩
 refine ⟨.str "cut",.str "cut",by rw [j9],by rw [j9],by simp [bu],_,rfl,?_⟩
 rw [show aJ (.str "cut") (.str "cut") = true by simp [aJ]]
 refine qq ?_
 have xX:=iO.same dZ
 have c16:=c15.same dZ
 have lx:xs5.length <= 1000:=by
  rw [Paired.length xX.rm.ct.bd.hs]
  decide
 clear dZ iO c15
 refine ⟨_,rfl,_,rfl,3,.ref C,.int 3,.ref st,rfl,.inr ⟨rfl,Z5,W,wA,[3],C,dC,Bq,dB,S,3,xs5,_,3,st,([0,0],[10,0]),rfl,rfl,rfl,xX.rm,by decide,cst c16,c16,lx,by decide,by decide,λ Z6 H17 jN PU hV=>?_⟩⟩
 refine ⟨.str "told",.str "told",by rw [j9],by rw [j9],by simp [bu],_,rfl,?_⟩
 rw [show aJ (.str "told") (.str "told") = true by simp [aJ]]
 refine qq ?_
 have xY:=xX.cut PU hV
 have c17:=wR hV xX.rm.kr c16
 change dH P w t H17 Z6 W wA C dC Bq dB S jN [(([0,0],[10,0]),[0,1,3])] To R at xY
 clear PU hV xX c16 lx
 refine ⟨_,rfl,C,dC,_,rfl,xY.rm.ct.ob.1,gJ _ _ (by decide +kernel) (by decide +kernel),Z6,W,wA,[3],C,dC,Bq,dB,S,3,jN,_,rfl,xY.rm,by decide,by decide,λPV r us jL jM Bz ni pu pp _ _ _=>?_⟩
 change Paired (iM PV) us [([0,0],[10,0])] at pu
 cases pu with
 | cons hu pu=>
 cases pu
 cases List.perm_singleton.mp pp
 refine ⟨_,rfl,kJ,λr2 m=>?_⟩
 have w1:=jh (o:=.lst [.ref st]) m
 have c19:=c17.same (Bz.trans w1)
 have pT:=xY.same (Bz.trans w1)
 refine ⟨.lst [cutD ([0,0],[10,0])],.lst [cutD ([0,0],[10,0])],(by rw [j9]; exact ⟨_,_,rfl,ai.of (w1 _ _ ni),by rw [qu]; exact ⟨_,_,rfl,Pg (hu.same w1),by rw [qu]⟩⟩),(by rw [j9]; exact ⟨_,_,rfl,ai.of ja,by rw [qu]; exact ⟨_,_,rfl,Pg ⟨_,rfl,c19⟩,by rw [qu]⟩⟩),by simp [bu,cT,cutD],_,rfl,?_⟩
 rw [show aJ (.lst [cutD ([0,0],[10,0])]) (.lst [cutD ([0,0],[10,0])]) = true by simp [aJ,bV,cutD]]
 generalize upd PV r2 (.lst [.ref st]) = H19 at pT c19 ⊢
 clear Bz w1 xY c17 ni m hu pp
 refine qq (hN _ _ (bI λN hN=>?_))
 refine ⟨_,rfl,W.x,W.dx,_,rfl,pT.rm.wr.ob.1,gG,Z6,1,W,wA,0,1,4,[],rfl,pT.rm.wr,pT.rm.kr,j9a,by decide,by decide,by decide,by decide,rfl,by decide,by decide,(λz=>by cases z),(λo z=>by cases z),λ_ M hM=>⟨λz=>?_,λ_ _ BA q PX nt xZ PY=>?_⟩⟩
 .exfalso
  have e:M = 10:=(Option.some.inj (hM.symm.trans (show _ = some (10:Int) by decide)))
  omega
 have HR:=pT.Pf PX nt xZ
 have c20:=wR nt pT.rm.kr c19
 change dH P w t BA Z6 W wB C dC Bq dB S jN _ To R at HR
 clear PX nt xZ pT c19 PY
 refine hN _ _ (bI λN hN=>?_)
 have PZ:=HR.rm.kr
 refine ⟨λm U H'=>∃ i Z,i <= 6 /\ m = 6 - i /\ U = [some (.ref a),some (.ref To),some (.ref W.x),some (.ref C),v,some (.ref st),some (.ref bd),v7,v8,v9,v10] /\ dH P w t H' Z W (y8 i) C dC Bq dB S jN [(([0,0],[10,0]),[0,1,3])] To R /\ Fr (λr=>r.1 = 1) Z6 BA Z H',⟨6,0,Z6,by decide,rfl,rfl,HR,Fr.refl⟩,?_⟩
 rintro m U BB ⟨i,Z7,i6,rfl,rfl,BC,pU⟩
 have lw:(y8 i).way.length <= 100000:=by
  by_cases z:i = 6
  .subst z
   rw [wU.1]
   decide
  .obtain ⟨_,_,_,_,_,g,_⟩:=HB (HD i (by omega))
   have:=g.2.2.2.2.2.1.2.2.1
   omega
 refine ⟨_,rfl,W.x,W.dx,_,rfl,BC.rm.wr.ob.1,gG,Z7,1,W,y8 i,rfl,BC.rm.wr,lw,λr xs nr px=>⟨dF,λe' ne'=>?_⟩⟩
 have s3:=jh (o:=.lst xs) nr
 have s4:=jh (o:=.lst []) ne'
 have nz:=(BC.same s3).same s4
 have A9:Paired (cH (upd (upd BB r (.lst xs)) e' (.lst [])) Z7) xs (y8 i).way:=Paired.aQ px λ_ _=>cH.fr (P:=λ_=>False) (Fr.same (s3.trans s4))
 have hd:j9 K (upd (upd BB r (.lst xs)) e' (.lst [])) (.lst ((y8 i).way.map sr)) (.ref r):=by
  rw [j9]
  exact ⟨r,xs,rfl,ai.of (s4 _ _ ja),jx2 (λx a h=>cH.qbk h) A9⟩
 have dl:=O6 (y8 i).way
 refine ⟨_,.lst [],hd,(by rw [j9]; exact ⟨_,[],rfl,ai.of ja,by rw [qu]⟩),by rw [bu]; omega,_,rfl,?_⟩
 rw [jzm]
 have kZ:Fr (λr=>r.1 = 1) Z6 BA Z7 (upd (upd BB r (.lst xs)) e' (.lst [])):=pU.trans (Fr.same (s3.trans s4))
 generalize upd (upd BB r (.lst xs)) e' (.lst []) = H22 at nz kZ ⊢
 clear A9 hd dl s3 s4 BC pU nr ne' px
 by_cases z:i = 6
 .subst z
  rw [decide_eq_true wU.1]
  refine qq (hN _ _ (bI λN hN=>?_))
  obtain ⟨B,ek,en,eh⟩ : ∃ B,(y8 6).keep 0 = some B /\ B.xk = [1,0] /\ B.held = [6,4]:=by
   have:=wU.2.1
   cases e:(y8 6).keep 0 with
   | none=>rw [e] at this; cases this
   | some B=>
    rw [e] at this
    have q:=Prod.mk.inj (Option.some.inj this)
    exact ⟨B,rfl,q.1,q.2⟩
  have c22:=wR kZ PZ c20
  have me:dq H22 (y8 6).n W.aO (.ref st) true:=by rw [wU.2.2]; exact cst c22
  have bh:behind (B.xk,B.held) ([0,0],[10,0]) = false:=by unfold behind; rw [en]; rfl
  refine ⟨_,rfl,_,rfl,4,.ref C,.int 0,.ref st,rfl,.inl ⟨.now,.inr ⟨Z7,W,y8 6,[3],C,dC,Bq,dB,S,3,jN,_,rfl,nz.rm,.inr (.inr (.inl ⟨rfl,rfl,.inr ⟨0,B,rfl,ek,.inr ⟨st,([0,0],[10,0]),me,rfl,c22,.inr ⟨by decide,by rw [en]; rfl,by rw [en]; decide,bh,rfl⟩⟩⟩⟩))⟩,λHS BD=>?_⟩⟩
  refine ⟨.str "now",.str "now",by rw [j9],by rw [j9],by simp [bu],_,rfl,?_⟩
  rw [show aJ (.str "now") (.str "now") = true by simp [aJ]]
  refine qq ?_
  have BE:=nz.same BD
  have c23:=c22.same BD
  clear BD nz c22 me kZ
  refine ⟨_,rfl,W.x,W.dx,_,rfl,BE.rm.wr.ob.1,gG,Z7,1,W,y8 6,0,B,rfl,BE.rm.wr,ek,λr1 P0=>⟨bc,λr2 P4=>?_⟩⟩
  have w1:=jh (o:=.lst (B.held.map V.int)) P0
  have w2:=jh (o:=.lst [.int 6,.int 4]) P4
  have h1:=w2 _ _ (ja (H:=HS) (a:=r1) (o:=.lst (B.held.map V.int)))
  rw [eh] at h1
  refine ⟨.lst [.int 6,.int 4],.lst [.int 6,.int 4],(by rw [j9]; exact ⟨_,_,rfl,ai.of (eh ▸ h1),pN (ns:=[6,4])⟩),(by rw [j9]; exact ⟨_,_,rfl,ai.of ja,pN (ns:=[6,4])⟩),by simp [bu,cT],_,rfl,?_⟩
  rw [show aJ (.lst [.int 6,.int 4]) (.lst [.int 6,.int 4]) = true by simp [aJ,bV]]
  have BF:=BE.same (w1.trans w2)
  have c25:=c23.same (w1.trans w2)
  generalize upd (upd HS r1 (.lst (B.held.map V.int))) r2 (.lst [.int 6,.int 4]) = H25 at BF c25 ⊢
  clear w1 w2 BE c23 h1 P0 P4
  refine qq ?_
  refine ⟨_,rfl,_,rfl,.ref W.x,.int 0,rfl,.inr ⟨Z7,1,W,y8 6,rfl,BF.rm.wr,rfl,.inr ⟨0,B,rfl,ek,λH26 p BG np c26=>?_⟩⟩⟩
  have P5:=BF.same BG
  have BH:=c25.same BG
  refine ⟨st,p,([0,0],[10,0]),(B.xk,B.held),rfl,BH,c26,(by rw [en]; rfl),(by decide),λH27 BI=>⟨_,_,rfl,rfl,_,rfl,?_⟩⟩
  rw [show ((List.zip ([0,0] : List Int) B.xk).all λx=>decide (x.1 <= x.2)) = true by rw [en]; rfl]
  have P6:=P5.same BI
  have HU:=BH.same BI
  clear BG BI BF c25 P5 BH c26 np
  refine qq (hN _ _ ?_)
  refine ⟨_,rfl,.ref W.x,.int 0,rfl,.inr ⟨Z7,1,W,y8 6,rfl,P6.rm.wr,rfl,.inr ⟨0,B,rfl,ek,λH28 p BJ np c28=>?_⟩⟩⟩
  refine ⟨_,rfl,p,st,(B.xk,B.held),([0,0],[10,0]),rfl,c28,HU.same BJ,(by rw [en]; rfl),(by rw [en]; show 2 <= 1000; decide),λH29 HV=>⟨_,_,rfl,rfl,_,rfl,?_⟩⟩
  rw [show ((List.zip B.xk ([0,0] : List Int)).all λx=>decide (x.1 <= x.2)) = false by rw [en]; rfl]
  have P7:=P6.same (BJ.trans HV)
  have HW:=HU.same (BJ.trans HV)
  have me:dq H29 (y8 6).n W.aO (.ref st) true:=by rw [wU.2.2]; exact cst HW
  refine yz ?_
  refine ⟨_,rfl,C,dC,_,rfl,P7.rm.ct.ob.1,gJ _ _ (by decide +kernel) (by decide +kernel),_,rfl,Z7,W,y8 6,[3],C,dC,Bq,dB,S,3,jN,_,.ref st,true,rfl,P7.rm,me,.inr ⟨st,([0,0],[10,0]),rfl,rfl,HW,by decide,λH30 r3 PN s30 h30 P8 P9=>?_⟩⟩
  have e3:PN = [0,1,3]:=by
   refine List.Perm.eq_of_pairwise (le:=λa b:Int=>a <= b) (λa b _ _ h1 h2=>Int.le_antisymm h1 h2) P9 (by decide) P8
  subst e3
  refine ⟨oV,λr4 m=>?_⟩
  have w1:=jh (o:=.lst [.int 0,.int 1,.int 3]) m
  refine ⟨.lst [.int 0,.int 1,.int 3],.lst [.int 0,.int 1,.int 3],(by rw [j9]; exact ⟨_,_,rfl,ai.of (w1 _ _ h30),pN (ns:=[0,1,3])⟩),(by rw [j9]; exact ⟨_,_,rfl,ai.of ja,pN (ns:=[0,1,3])⟩),by simp [bu,cT],?_⟩
  rw [show aJ (.lst [.int 0,.int 1,.int 3]) (.lst [.int 0,.int 1,.int 3]) = true by simp [aJ,bV]]
  exact k _
 rw [decide_eq_false (λy=>by obtain ⟨_,_,_,e,_⟩:=HB (HD i (by omega)); rw [e] at y; cases y)]
 obtain ⟨l,ls,B,e1,e2,g,e3⟩:=HB (HD i (by omega))
 refine yz ⟨λ U H'=>∃ Z,U = [some (.ref a),some (.ref To),some (.ref W.x),some (.ref C),v,some (.ref st),some (.ref bd),v7,v8,v9,v10] /\ dH P w t H' Z W (y8 (i + 1)) C dC Bq dB S jN [(([0,0],[10,0]),[0,1,3])] To R /\ Fr (λr=>r.1 = 1) Z6 BA Z H',λ U' H' ⟨Z,h1,h2,h3⟩=>⟨6 - (i + 1),by omega,i + 1,Z,by omega,rfl,h1,h2,h3⟩,?_⟩
 obtain ⟨g1,⟨k1,k2,k3,k4,k5⟩,g3,g4,⟨g5,g6,g7⟩,⟨g8,g9,pO,Bo⟩,sC⟩:=g
 refine ⟨_,rfl,W.x,W.dx,_,rfl,nz.rm.wr.ob.1,gG,Z7,1,W,y8 i,0,l,B,9,9,9,rfl,nz.rm.wr,nz.rm.kr,by rw [e1]; rfl,e2,g1,⟨k1,k2,k3,k4,k5⟩,g3,g4,⟨g5,g6,g7⟩,⟨g8,g9,pO,Bo⟩,by omega,by omega,by omega,λ Z8 HS x O23 nA HX _=>⟨Z8,rfl,?_,kZ.trans nA⟩⟩
 rw [show y8 (i + 1) = (y8 i).A5 0 l B from e3]
 exact nz.Pf O23 nA HX
end
noncomputable abbrev aN (K:W.Frag)(x:Str)(v:Option Value):Prop:=W.nsIn K mainGlobals x=some v
noncomputable abbrev aF (K:W.Frag)(a:Addr)(x:Str)(v:Option Value):Prop:=W.findIn K (.ref a) x=some v
noncomputable abbrev aL (K:W.Frag)(f:Addr)(n q:Str)(s:Stmt)(oc:Value)(od:Option Addr)(kV dc pm:Value)(an:Option Addr)(cd ct:Value)(sl:Array (Option Value)):Prop:=K.lookup f=some ⟨oc,od,.func (W.fnOf n q (qP s) (iu s) (jo s) .none kV dc pm an cd ct),sl⟩
noncomputable abbrev aC (K:W.Frag)(q:Value)(s:Str):Prop:=W.codeIn K q s=true
noncomputable abbrev aK (K:W.Frag)(f:Addr):Prop:=W.keepIn K (.ref f)=true
noncomputable abbrev aI (K:W.Frag)(f:Addr):Prop:=W.isFn K (.ref f)=true
noncomputable abbrev aR (K:W.Frag)(s:Str)(f:Addr):Prop:=aN K s (some (.ref f))
noncomputable abbrev aG (K:W.Frag)(c:Addr)(s:Str)(f:Addr):Prop:=aF K c s (some (.ref f))
noncomputable abbrev aM (K:W.Frag)(f:Addr)(n:Str)(s:Stmt)(oc:Value)(od:Option Addr)(kV dc pm:Value)(an:Option Addr)(cd ct:Value)(sl:Array (Option Value)):Prop:=aL K f n n s oc od kV dc pm an cd ct sl
set_option maxHeartbeats 4000000 in
set_option autoImplicit true in
set_option relaxedAutoImplicit true in
theorem all_mk {l:W.OpenLaw} {w:World} {K:W.Frag} {h:Heap} {mg:Str -> Option Value} {fa:Addr} (X:K.In h) (G:h.Ns mainGlobals mg) (hfa:mg "law" = some (.ref fa))
 {q2 q3 q4 q5 q6 q7:Value}
 (cm0:aR K "Keeper" cF)
 (cg0:W.plainGet K cF Str.empty = true) (ch0:W.hasDictIn K cF = true) (co0:W.plainOver K cF = true) (cs0:aF K cF "__setattr__" (some (.builtin "object.__setattr__")))
 (cn0_0:aF K cF "held" none)
 (cn0_1:aF K cF "next_numbers" none)
 (cn0_2:aF K cF "done" none)
 (cn0_3:aF K cF "heard" none)
 (cn0_4:aF K cF "unvoted" none)
 (cn0_5:aF K cF "choices" none)
 (cn0_6:aF K cF "waiting" none)
 (cm1:aR K "Board" gK)
 (cg1:W.plainGet K gK Str.empty = true) (ch1:W.hasDictIn K gK = true) (co1:W.plainOver K gK = true) (cs1:aF K gK "__setattr__" (some (.builtin "object.__setattr__")))
 (cn1_0:aF K gK "enough" none)
 (cn1_1:aF K gK "signers" none)
 (cm2:aR K "World" bX)
 (cg2:W.plainGet K bX Str.empty = true) (ch2:W.hasDictIn K bX = true) (co2:W.plainOver K bX = true) (cs2:aF K bX "__setattr__" (some (.builtin "object.__setattr__")))
 (ia2:aF K bX "__class__" (some (.builtin "object.__class__"))) (in2:W.specialIn K (.builtin "object.__class__") "__get__" = some (some (.builtin "getset_descriptor.__get__"))) (it2:W.takesIn K (.builtin "object.__class__") = some true) (im2:W.mroIn K bX (.type "object") = some true) (ik2:W.kitOne K (.ref bX) (.ref bX) = some true)
 (kn2:Ah K bX [.type "NoneType",.type "int",.type "list",.type "str",.ref dv])
 (cn2_0:aF K bX "purses" none)
 (cn2_1:aF K bX "total" none)
 (cn2_2:aF K bX "lying" none)
 (cn2_3:aF K bX "cheating" none)
 (cn2_4:aF K bX "keepers" none)
 (cn2_5:aF K bX "board" none)
 (cn2_6:aF K bX "asked" none)
 (cn2_7:aF K bX "on_way" none)
 (cm3:aR K "Book" eU)
 (cg3:W.plainGet K eU Str.empty = true) (ch3:W.hasDictIn K eU = true) (co3:W.plainOver K eU = true) (cs3:aF K eU "__setattr__" (some (.builtin "object.__setattr__")))
 (cn3_0:aF K eU "held" none)
 (cn3_1:aF K eU "next_numbers" none)
 (cn3_2:aF K eU "done" none)
 (cm4:aR K "Cutting" dv)
 (cg4:W.plainGet K dv Str.empty = true) (ch4:W.hasDictIn K dv = true) (co4:W.plainOver K dv = true) (cs4:aF K dv "__setattr__" (some (.builtin "object.__setattr__")))
 (ia4:aF K dv "__class__" (some (.builtin "object.__class__"))) (in4:W.specialIn K (.builtin "object.__class__") "__get__" = some (some (.builtin "getset_descriptor.__get__"))) (it4:W.takesIn K (.builtin "object.__class__") = some true) (im4:W.mroIn K dv (.type "object") = some true) (ik4:W.kitOne K (.ref dv) (.ref dv) = some true)
 (cn4_0:aF K dv "world" none)
 (cn4_1:aF K dv "board" none)
 (xm0:aR K "NoPurse" cV)
 (xm1:aR K "TooMuch" eV)
 (xm2:aR K "NotNow" eX)
 (xm3:aR K "NoHouse" cc)
 (xm4:aR K "BadPaper" eY)
 (xm5:aR K "BadCut" fb)
 (xm6:aR K "PurseError" gL)
 (xm7:aR K "BadText" pV)
 (xm8:aR K "NoLetter" pW)
 (xm9:aR K "BadNumber" pX)
 (xm10:aR K "BadOrder" fW)
 (xm11:aR K "BadHouses" fX)
 (a0:aR K "is_whole" f0)
 (l0:aM K f0 "is_whole" uX o0 r0 v0 d0 p0 s0 q0 t0 u0)
 (c0:aC K q0 "is_whole") (k0:aK K f0)
 (a1:aR K "is_between" f1)
 (l1:aM K f1 "is_between" uY o1 r1 v1 d1 p1 s1 q1 t1 u1)
 (c1:aC K q1 "is_between") (k1:aK K f1)
 (a2:aR K "is_order" f2)
 (l2:aM K f2 "is_order" Ai o2 r2 (.ref kd2) d2 p2 s2 q2 t2 u2)
 (c2:aC K q2 "is_order") (k2:aK K f2)
 (e2:W.nsIn K kd2 "purses" = some (some (.int 8 kt2)))
 (a3:aR K "place_of" f3)
 (l3:aM K f3 "place_of" Aj o3 r3 v3 d3 p3 s3 q3 t3 u3)
 (c3:aC K q3 "place_of") (k3:aK K f3)
 (a4:aR K "are_rising" f4)
 (l4:aM K f4 "are_rising" uZ o4 r4 v4 d4 p4 s4 q4 t4 u4)
 (c4:aC K q4 "are_rising") (k4:aK K f4)
 (a5:aR K "is_rising_row" f5)
 (l5:aM K f5 "is_rising_row" ur o5 r5 v5 d5 p5 s5 q5 t5 u5)
 (c5:aC K q5 "is_rising_row") (k5:aK K f5)
 (a6:aR K "is_house_count" f6)
 (l6:aM K f6 "is_house_count" gr o6 r6 v6 d6 p6 s6 q6 t6 u6)
 (c6:aC K q6 "is_house_count") (k6:aK K f6)
 (a7:aR K "is_few" f7)
 (l7:aM K f7 "is_few" Ak o7 r7 v7 d7 p7 s7 q7 t7 u7)
 (c7:aC K q7 "is_few") (k7:aK K f7)
 (a8:aR K "outnumber" f8)
 (l8:aM K f8 "outnumber" Et o8 r8 v8 d8 p8 s8 q8 t8 u8)
 (c8:aC K q8 "outnumber") (k8:aK K f8)
 (a9:aR K "enough_of" f9)
 (l9:aM K f9 "enough_of" Eu o9 r9 v9 d9 p9 s9 q9 t9 u9)
 (c9:aC K q9 "enough_of") (k9:aK K f9)
 (a10:aR K "are_sums" HY)
 (l10:aM K HY "are_sums" Al o10 r10 v10 d10 p10 bL xB oW u10)
 (c10:aC K xB "are_sums") (k10:aK K HY)
 (a11:aR K "are_first_sums" HZ)
 (l11:aM K HZ "are_first_sums" gp o11 r11 v11 d11 p11 du xE Bp u11)
 (c11:aC K xE "are_first_sums") (k11:aK K HZ)
 (a12:aG K cc "__init__" dY)
 (l12:aL K dY "__init__" "NoHouse.__init__" vc o12 r12 v12 d12 PQ bD xH Br u12)
 (c12:aC K xH "NoHouse.__init__") (k12:aK K dY)
 (xrn12:uE K cc dY = true) (xd12a:aF K cc "__setattr__" (some (.builtin "object.__setattr__"))) (xd12b:aF K cc "__getattribute__" (some (.builtin "BaseException.__getattribute__"))) (xd12c:aF K cc "__getattr__" none) (xd12d:aF K cc "house" none)
 (a13:aG K cV "__init__" BK)
 (l13:aL K BK "__init__" "NoPurse.__init__" y0 o13 r13 v13 d13 p13 cE xK Bs u13)
 (c13:aC K xK "NoPurse.__init__") (k13:aK K BK)
 (xrn13:uE K cV BK = true) (xd13a:aF K cV "__setattr__" (some (.builtin "object.__setattr__"))) (xd13b:aF K cV "__getattribute__" (some (.builtin "BaseException.__getattribute__"))) (xd13c:aF K cV "__getattr__" none) (xd13d:aF K cV "purse" none)
 (a14:aR K "check_houses" pL)
 (l14:aM K pL "check_houses" Ew o14 r14 v14 d14 p14 bT xO Bt u14)
 (c14:aC K xO "check_houses") (k14:aK K pL)
 (a15:aR K "check_purses" fU)
 (l15:aM K fU "check_purses" Ex o15 r15 v15 d15 p15 cU q15 Bu u15)
 (c15:aC K q15 "check_purses") (k15:aK K fU)
 (a16:aR K "check_world" md)
 (l16:aM K md "check_world" Am o16 r16 v16 d16 p16 dZ q16 xS u16)
 (c16:aC K q16 "check_world") (k16:aK K md)
 (a17:aG K gK "__init__" hV) (n17:aI K hV)
 (mk17:W.makesIn K gK = true) (mq17:aK K gK)
 (l17:aL K hV "__init__" "Board.__init__" gm o17 r17 v17 d17 p17 s17 q17 t17 u17)
 (c17:aC K q17 "Board.__init__") (k17:aK K hV)
 (a18:aG K gK "put" BL) (n18:aI K BL)
 (l18:aL K BL "put" "Board.put" vA o18 r18 v18 d18 p18 Bz q18 t18 u18)
 (c18:aC K q18 "Board.put") (k18:aK K BL)
 (a19:aG K gK "houses_for" BM) (n19:aI K BM)
 (l19:aL K BM "houses_for" "Board.houses_for" y3 o19 r19 v19 d19 p19 s19 q19 t19 u19)
 (c19:aC K q19 "Board.houses_for") (k19:aK K BM)
 (a20:aG K gK "is_carried" nt) (n20:aI K nt)
 (l20:aL K nt "is_carried" "Board.is_carried" xr o20 r20 v20 d20 p20 s20 q20 PZ PY)
 (c20:aC K q20 "Board.is_carried") (k20:aK K nt)
 (a21:aG K gK "carried" pU) (n21:aI K pU)
 (l21:aL K pU "carried" "Board.carried" uw o21 r21 v21 d21 p21 s21 q21 t21 u21)
 (c21:aC K q21 "Board.carried") (k21:aK K pU)
 (a22:aG K eU "__init__" kZ) (n22:aI K kZ)
 (mk22:W.makesIn K eU = true) (mq22:aK K eU)
 (l22:aL K kZ "__init__" "Book.__init__" uk o22 r22 v22 d22 p22 s22 q22 t22 u22)
 (c22:aC K q22 "Book.__init__") (k22:aK K kZ)
 (a23:aG K eU "is_past" nA) (n23:aI K nA)
 (l23:aL K nA "is_past" "Book.is_past" An o23 r23 v23 d23 p23 BD q23 t23 u23)
 (c23:aC K q23 "Book.is_past") (k23:aK K nA)
 (a24:aG K eU "is_due" yA) (n24:aI K yA)
 (l24:aL K yA "is_due" "Book.is_due" pq o24 r24 v24 d24 p24 s24 q24 t24 u24)
 (c24:aC K q24 "Book.is_due") (k24:aK K yA)
 (a25:aG K eU "settle" yB) (n25:aI K yB)
 (l25:aL K yB "settle" "Book.settle" vB o25 r25 v25 d25 p25 s25 q25 t25 u25)
 (c25:aC K q25 "Book.settle") (k25:aK K yB)
 (a26:aG K cF "__init__" BN) (n26:aI K BN)
 (mk26:W.makesIn K cF = true) (mq26:aK K cF)
 (l26:aL K BN "__init__" "Keeper.__init__" wa o26 r26 v26 BH p26 BG q26 t26 u26)
 (c26:aC K q26 "Keeper.__init__") (k26:aK K BN)
 (a27:aG K cF "stands" BO) (n27:aI K BO)
 (l27:aL K BO "stands" "Keeper.stands" ub o27 r27 v27 HU p27 BI q27 t27 u27)
 (c27:aC K q27 "Keeper.stands") (k27:aK K BO)
 (a28:aG K cF "left_of" BP) (n28:aI K BP)
 (l28:aL K BP "left_of" "Keeper.left_of" gj o28 r28 v28 d28 p28 BJ q28 t28 u28)
 (c28:aC K q28 "Keeper.left_of") (k28:aK K BP)
 (a29:aG K cF "give_votes" BQ) (n29:aI K BQ)
 (l29:aL K BQ "give_votes" "Keeper.give_votes" xc o29 r29 v29 HW p29 HV q29 t29 u29)
 (c29:aC K q29 "Keeper.give_votes") (k29:aK K BQ)
 (a30:aG K cF "first_due" BR) (n30:aI K BR)
 (l30:aL K BR "first_due" "Keeper.first_due" xn P9 r30 v30 d30 P8 s30 q30 t30 u30)
 (c30:aC K q30 "Keeper.first_due") (k30:aK K BR)
 (a31:aG K cF "go_on" BS) (n31:aI K BS)
 (l31:aL K BS "go_on" "Keeper.go_on" wz o31 r31 v31 d31 p31 s31 q31 t31 u31)
 (c31:aC K q31 "Keeper.go_on") (k31:aK K BS)
 (a32:aG K cF "hear" BU) (n32:aI K BU)
 (l32:aL K BU "hear" "Keeper.hear" Ao o32 r32 v32 d32 p32 s32 q32 t32 u32)
 (c32:aC K q32 "Keeper.hear") (k32:aK K BU)
 (a33:aG K cF "take_paper" BV) (n33:aI K BV)
 (l33:aL K BV "take_paper" "Keeper.take_paper" yr o33 r33 v33 d33 p33 s33 q33 t33 u33)
 (c33:aC K q33 "Keeper.take_paper") (k33:aK K BV)
 (a34:aG K bX "__init__" BW) (n34:aI K BW)
 (mk34:W.makesIn K bX = true) (mq34:aK K bX)
 (l34:aL K BW "__init__" "World.__init__" Ey o34 r34 (.ref yC) d34 p34 s34 q34 t34 u34)
 (c34:aC K q34 "World.__init__") (k34:aK K BW)
 (e34:W.nsIn K yC "liars" = some (some (.ref Ia))) (ef34:K.lookup Ia = some ⟨.type "tuple",td34,.seq #[] tn34,ts34⟩)
 (eg34:W.nsIn K yC "cheats" = some (some (.ref Ib))) (eh34:K.lookup Ib = some ⟨.type "tuple",ud34,.seq #[] un34,us34⟩)
 (a35:aG K bX "letters" BX) (n35:aI K BX)
 (l35:aL K BX "letters" "World.letters" um o35 r35 v35 d35 p35 s35 q35 t35 u35)
 (c35:aC K q35 "World.letters") (k35:aK K BX)
 (a36:aG K bX "keeper_of" BY) (n36:aI K BY)
 (l36:aL K BY "keeper_of" "World.keeper_of" vt o36 r36 v36 d36 p36 s36 q36 t36 u36)
 (c36:aC K q36 "World.keeper_of") (k36:aK K BY)
 (a37:aG K bX "sums" BZ) (n37:aI K BZ)
 (l37:aL K BZ "sums" "World.sums" Ap o37 r37 v37 d37 p37 s37 q37 t37 u37)
 (c37:aC K q37 "World.sums") (k37:aK K BZ)
 (a38:aG K bX "check_purse" B0) (n38:aI K B0)
 (l38:aL K B0 "check_purse" "World.check_purse" yn o38 r38 v38 d38 p38 s38 q38 t38 u38)
 (c38:aC K q38 "World.check_purse") (k38:aK K B0)
 (a39:aG K bX "check_asker" B4) (n39:aI K B4)
 (l39:aL K B4 "check_asker" "World.check_asker" yq o39 r39 v39 d39 p39 s39 q39 t39 u39)
 (c39:aC K q39 "World.check_asker") (k39:aK K B4)
 (a40:aG K bX "check_liar" B5) (n40:aI K B5)
 (l40:aL K B5 "check_liar" "World.check_liar" vb o40 r40 v40 d40 p40 s40 q40 t40 u40)
 (c40:aC K q40 "World.check_liar") (k40:aK K B5)
 (a41:aG K bX "write_to_all" B6) (n41:aI K B6)
 (l41:aL K B6 "write_to_all" "World.write_to_all" zj o41 r41 v41 El p41 s41 q41 t41 u41)
 (c41:aC K q41 "World.write_to_all") (k41:aK K B6)
 (a42:aG K bX "put_votes" B7) (n42:aI K B7)
 (l42:aL K B7 "put_votes" "World.put_votes" yi o42 r42 v42 Em p42 s42 q42 t42 u42)
 (c42:aC K q42 "World.put_votes") (k42:aK K B7)
 (a43:aG K bX "ask" B8) (n43:aI K B8)
 (l43:aL K B8 "ask" "World.ask" vC o43 r43 v43 d43 p43 s43 q43 t43 u43)
 (c43:aC K q43 "World.ask") (k43:aK K B8)
 (a44:aG K bX "come" B9) (n44:aI K B9)
 (l44:aL K B9 "come" "World.come" vD o44 r44 v44 d44 p44 s44 q44 t44 u44)
 (c44:aC K q44 "World.come") (k44:aK K B9)
 (a45:aR K "cut_of" Ic)
 (l45:aM K Ic "cut_of" Aq o45 r45 v45 d45 p45 s45 q45 t45 u45)
 (c45:aC K q45 "cut_of") (k45:aK K Ic)
 (a46:aR K "is_number_row" Ie)
 (l46:aM K Ie "is_number_row" pf o46 r46 v46 d46 p46 s46 q46 t46 u46)
 (c46:aC K q46 "is_number_row") (k46:aK K Ie)
 (a47:aR K "is_cut" Ig)
 (l47:aM K Ig "is_cut" Ar o47 r47 v47 d47 p47 s47 q47 t47 u47)
 (c47:aC K q47 "is_cut") (k47:aK K Ig)
 (a48:aR K "is_behind" Ih)
 (l48:aM K Ih "is_behind" As o48 r48 v48 d48 p48 s48 q48 t48 u48)
 (c48:aC K q48 "is_behind") (k48:aK K Ih)
 (a49:aG K dv "check_cut" Ca) (n49:aI K Ca)
 (l49:aL K Ca "check_cut" "Cutting.check_cut" yw o49 r49 v49 d49 p49 s49 q49 t49 u49)
 (c49:aC K q49 "Cutting.check_cut") (k49:aK K Ca)
 (a50:aG K dv "__init__" Cb) (n50:aI K Cb)
 (mk50:W.makesIn K dv = true) (mq50:aK K dv)
 (l50:aL K Cb "__init__" "Cutting.__init__" y9 o50 r50 v50 d50 p50 s50 q50 t50 u50)
 (c50:aC K q50 "Cutting.__init__") (k50:aK K Cb)
 (a51:aG K dv "sign" Cc) (n51:aI K Cc)
 (l51:aL K Cc "sign" "Cutting.sign" w4 o51 r51 v51 En p51 s51 q51 t51 u51)
 (c51:aC K q51 "Cutting.sign") (k51:aK K Cc)
 (a52:aG K dv "lie" Cd) (n52:aI K Cd)
 (l52:aL K Cd "lie" "Cutting.lie" Au o52 r52 v52 Eo p52 s52 q52 t52 u52)
 (c52:aC K q52 "Cutting.lie") (k52:aK K Cd)
 (a53:aG K dv "signers_of" Ce) (n53:aI K Ce)
 (l53:aL K Ce "signers_of" "Cutting.signers_of" ye o53 r53 v53 d53 p53 s53 q53 t53 u53)
 (c53:aC K q53 "Cutting.signers_of") (k53:aK K Ce)
 (a54:aG K dv "good" Cf) (n54:aI K Cf)
 (l54:aL K Cf "good" "Cutting.good" Av o54 r54 v54 d54 p54 s54 q54 t54 u54)
 (c54:aC K q54 "Cutting.good") (k54:aK K Cf)
 (a55:aG K dv "take" Cg) (n55:aI K Cg)
 (l55:aL K Cg "take" "Cutting.take" w9 o55 r55 v55 d55 p55 s55 q55 t55 u55)
 (c55:aC K q55 "Cutting.take") (k55:aK K Cg)
 (a56:aR K "false_owners" Ii)
 (l56:aM K Ii "false_owners" Aw o56 r56 v56 d56 p56 s56 q56 t56 u56)
 (c56:aC K q56 "false_owners") (k56:aK K Ii)
 (a57:aR K "false_houses" Ij)
 (l57:aM K Ij "false_houses" Ax o57 r57 v57 d57 p57 s57 q57 t57 u57)
 (c57:aC K q57 "false_houses") (k57:aK K Ij)
 (a58:aR K "stuck_purses" Ik)
 (l58:aM K Ik "stuck_purses" Ay o58 r58 v58 d58 p58 s58 q58 t58 u58)
 (c58:aC K q58 "stuck_purses") (k58:aK K Ik)
 (a59:aR K "lost_nothing" Il)
 (l59:aM K Il "lost_nothing" Az o59 r59 v59 d59 p59 s59 q59 t59 u59)
 (c59:aC K q59 "lost_nothing") (k59:aK K Il)
 (a60:aR K "_law_town" Im)
 (l60:aM K Im "_law_town" AA o60 r60 v60 d60 p60 s60 q60 t60 u60)
 (c60:aC K q60 "_law_town") (k60:aK K Im)
 (a61:aR K "_law_draw" Io)
 (l61:aM K Io "_law_draw" vE o61 r61 v61 d61 p61 s61 q61 t61 u61)
 (c61:aC K q61 "_law_draw") (k61:aK K Io)
 (a62:aR K "_law_pick" Ip)
 (l62:aM K Ip "_law_pick" AB o62 r62 v62 d62 p62 s62 q62 t62 u62)
 (c62:aC K q62 "_law_pick") (k62:aK K Ip)
 (a63:aR K "_law_refusal" Iq)
 (l63:aM K Iq "_law_refusal" gf o63 r63 v63 d63 p63 s63 q63 t63 u63)
 (c63:aC K q63 "_law_refusal") (k63:aK K Iq)
 (a64:aR K "_law_did" Ir)
 (l64:aM K Ir "_law_did" AD o64 r64 v64 d64 p64 s64 q64 t64 u64)
 (c64:aC K q64 "_law_did") (k64:aK K Ir)
 (a65:aR K "_law_asked" Iu)
 (l65:aM K Iu "_law_asked" vF o65 r65 v65 d65 p65 s65 q65 t65 u65)
 (c65:aC K q65 "_law_asked") (k65:aK K Iu)
 (a66:aR K "law" Iv)
 (l66:aM K Iv "law" vG o66 r66 v66 d66 p66 s66 q66 t66 u66)
 (c66:aC K q66 "law") (k66:aK K Iv)
 (ih0:aG K cF "is_due" yA)
 (ih1:aG K cF "is_past" nA)
 (ih2:aG K cF "settle" yB)
 (yp0:W.specialIn K (.ref eU) "__getattribute__" = some (some (.builtin "type.__getattribute__"))) (yr0:W.readsIn K eU (.type "type") = true) (yf0:W.findCls K (.ref eU) (.type "type") "__init__" = some (.val (.ref kZ)))
 (hgc0:aN K "MOST_MUCH" (some (.int 1000 gt0)))
 (hgc1:aN K "LAST_NUMBER" (some (.int 99 gt1)))
 (hgc2:aN K "PAPER_LETTER" (some (.str "paper" gt2)))
 (hgc3:aN K "ORDER_LETTER" (some (.str "order" gt3)))
 (hgc4:aN K "MOST_HOUSES" (some (.int 16 gt4)))
 (hgc5:aN K "MOST_FEW" (some (.int 5 gt5)))
 (hgc6:aN K "MOST_FIRST_SUM" (some (.int 1000 gt6)))
 (hgc7:aN K "LEAST_PURSES" (some (.int 2 gt7)))
 (hgc8:aN K "MOST_PURSES" (some (.int 8 gt8)))
 (hgc9:aN K "MOST_IN_CUT" (some (.int 100000 gt9)))
 (xg0:aF K cV "__getattribute__" (some (.builtin "BaseException.__getattribute__"))) (xh0:aF K cV "__getattr__" none) (xj0:aF K cV "__class__" (some (.builtin "object.__class__")))
 (xp0:W.mroIn K cV (.type "BaseException") = some true) (xo0:W.mroIn K cV (.type "object") = some true) (xs0:(W.clsIn K cV).isSome = true)
 (xk0:kinds K (.ref cV) [.ref pX,.ref fW,.ref fX,.ref cc,.ref cV,.ref pW,.ref eX,.ref eV,.ref eY,.ref fb,.ref pV,.ref gL,.type "ValueError"] = [some false,some false,some false,some false,some true,some false,some false,some false,some false,some false,some false,some true,some true])
 (xc0_0:W.kitCls K (.ref cV) (.ref cc) = some false)
 (xc0_1:W.kitCls K (.ref cV) (.ref gL) = some true)
 (xr1:W.excIn K eV oG "ValueError.__new__" = true)
 (xg1:aF K eV "__getattribute__" (some (.builtin "BaseException.__getattribute__"))) (xh1:aF K eV "__getattr__" none) (xj1:aF K eV "__class__" (some (.builtin "object.__class__")))
 (xp1:W.mroIn K eV (.type "BaseException") = some true) (xo1:W.mroIn K eV (.type "object") = some true) (xs1:(W.clsIn K eV).isSome = true)
 (xk1:kinds K (.ref eV) [.ref pX,.ref fW,.ref fX,.ref cc,.ref cV,.ref pW,.ref eX,.ref eV,.ref eY,.ref fb,.ref pV,.ref gL,.type "ValueError"] = [some false,some false,some false,some false,some false,some false,some false,some true,some false,some false,some false,some true,some true])
 (xc1_0:W.kitCls K (.ref eV) (.ref cc) = some false)
 (xc1_1:W.kitCls K (.ref eV) (.ref gL) = some true)
 (xr2:W.excIn K eX oG "ValueError.__new__" = true)
 (xg2:aF K eX "__getattribute__" (some (.builtin "BaseException.__getattribute__"))) (xh2:aF K eX "__getattr__" none) (xj2:aF K eX "__class__" (some (.builtin "object.__class__")))
 (xp2:W.mroIn K eX (.type "BaseException") = some true) (xo2:W.mroIn K eX (.type "object") = some true) (xs2:(W.clsIn K eX).isSome = true)
 (xk2:kinds K (.ref eX) [.ref pX,.ref fW,.ref fX,.ref cc,.ref cV,.ref pW,.ref eX,.ref eV,.ref eY,.ref fb,.ref pV,.ref gL,.type "ValueError"] = [some false,some false,some false,some false,some false,some false,some true,some false,some false,some false,some false,some true,some true])
 (xc2_0:W.kitCls K (.ref eX) (.ref cc) = some false)
 (xc2_1:W.kitCls K (.ref eX) (.ref gL) = some true)
 (xg3:aF K cc "__getattribute__" (some (.builtin "BaseException.__getattribute__"))) (xh3:aF K cc "__getattr__" none) (xj3:aF K cc "__class__" (some (.builtin "object.__class__")))
 (xp3:W.mroIn K cc (.type "BaseException") = some true) (xo3:W.mroIn K cc (.type "object") = some true) (xs3:(W.clsIn K cc).isSome = true)
 (xk3:kinds K (.ref cc) [.ref pX,.ref fW,.ref fX,.ref cc,.ref cV,.ref pW,.ref eX,.ref eV,.ref eY,.ref fb,.ref pV,.ref gL,.type "ValueError"] = [some false,some false,some false,some true,some false,some false,some false,some false,some false,some false,some false,some true,some true])
 (xc3_0:W.kitCls K (.ref cc) (.ref cc) = some true)
 (xc3_1:W.kitCls K (.ref cc) (.ref gL) = some true)
 (xr4:W.excIn K eY oG "ValueError.__new__" = true)
 (xg4:aF K eY "__getattribute__" (some (.builtin "BaseException.__getattribute__"))) (xh4:aF K eY "__getattr__" none) (xj4:aF K eY "__class__" (some (.builtin "object.__class__")))
 (xp4:W.mroIn K eY (.type "BaseException") = some true) (xo4:W.mroIn K eY (.type "object") = some true) (xs4:(W.clsIn K eY).isSome = true)
 (xk4:kinds K (.ref eY) [.ref pX,.ref fW,.ref fX,.ref cc,.ref cV,.ref pW,.ref eX,.ref eV,.ref eY,.ref fb,.ref pV,.ref gL,.type "ValueError"] = [some false,some false,some false,some false,some false,some false,some false,some false,some true,some false,some false,some true,some true])
 (xc4_0:W.kitCls K (.ref eY) (.ref cc) = some false)
 (xc4_1:W.kitCls K (.ref eY) (.ref gL) = some true)
 (xr5:W.excIn K fb oG "ValueError.__new__" = true)
 (xg5:aF K fb "__getattribute__" (some (.builtin "BaseException.__getattribute__"))) (xh5:aF K fb "__getattr__" none) (xj5:aF K fb "__class__" (some (.builtin "object.__class__")))
 (xp5:W.mroIn K fb (.type "BaseException") = some true) (xo5:W.mroIn K fb (.type "object") = some true) (xs5:(W.clsIn K fb).isSome = true)
 (xk5:kinds K (.ref fb) [.ref pX,.ref fW,.ref fX,.ref cc,.ref cV,.ref pW,.ref eX,.ref eV,.ref eY,.ref fb,.ref pV,.ref gL,.type "ValueError"] = [some false,some false,some false,some false,some false,some false,some false,some false,some false,some true,some false,some true,some true])
 (xc5_0:W.kitCls K (.ref fb) (.ref cc) = some false)
 (xc5_1:W.kitCls K (.ref fb) (.ref gL) = some true)
 (xb0:W.mroIn K cc (.type "BaseException") = some true)
 (xb1:W.mroIn K gL (.type "BaseException") = some true)
 (z0:aN K "isinstance" none)
 (z1:aN K "bool" none)
 (z2:aN K "int" none)
 (z3:aN K "len" none)
 (z4:aN K "tuple" none)
 (z5:aN K "list" none)
 (z6:aN K "sum" none)
 (z7:aN K "max" none)
 (z8:aN K "all" none)
 (z9:aN K "range" none)
 (z10:aN K "zip" none)
 (z11:aN K "sorted" none)
 (z12:aN K "ValueError" none) :
 ∃ fd:FuncData,(∀ (s:Shared) (v:Value),BindsTo s fd ⟨[v],[]⟩ [("_law_script",v)]) /\ ∀ base:Heap,K.In base -> base.Ns mainGlobals mg -> zi l.prog w K mg base CX0 12 fa fd ["_law_script"] (jyz K):=by
 have T:Txt K mg ⟨f0,_,f1,_,f2,_,f3,_,f4,_,f5,_,f6,_,f7,_,f8,_,f9,_,HY,_,HZ,_,dY,_,BK,_,pL,_,fU,_,md,_,hV,_,BL,_,BM,_,nt,_,pU,_,kZ,_,nA,_,yA,_,yB,_,BN,_,BO,_,BP,_,BQ,_,BR,_,BS,_,BU,_,BV,_,BW,_,BX,_,BY,_,BZ,_,B0,_,B4,_,B5,_,B6,_,B7,_,B8,_,B9,_,Ic,_,Ie,_,Ig,_,Ih,_,Ca,_,Cb,_,Cc,_,Cd,_,Ce,_,Cf,_,Cg,_,Ii,_,Ij,_,Ik,_,Il,_,Im,_,Io,_,Ip,_,Iq,_,Ir,_,Iu,_,Iv,_,cF,gK,bX,eU,dv,cV,eV,eX,cc,eY,fb,gL,pV,pW,pX,fW,fX⟩:=⟨jj (st:=uX) l0 c0 k0,
W.mg_of X G a0,
df (jj (st:=uX) l0 c0 k0),
jj (st:=uY) l1 c1 k1,
W.mg_of X G a1,
mO (jj (st:=uY) l1 c1 k1),
jj (st:=Ai) l2 c2 k2,
W.mg_of X G a2,
⟨_,Tj e2 rfl rfl rfl rfl rfl rfl rfl (by decide +kernel)⟩,
jj (st:=Aj) l3 c3 k3,
W.mg_of X G a3,
df (jj (st:=Aj) l3 c3 k3),
jj (st:=uZ) l4 c4 k4,
W.mg_of X G a4,
cg (jj (st:=uZ) l4 c4 k4),
jj (st:=ur) l5 c5 k5,
W.mg_of X G a5,
cg (jj (st:=ur) l5 c5 k5),
jj (st:=gr) l6 c6 k6,
W.mg_of X G a6,
df (jj (st:=gr) l6 c6 k6),
jj (st:=Ak) l7 c7 k7,
W.mg_of X G a7,
df (jj (st:=Ak) l7 c7 k7),
jj (st:=Et) l8 c8 k8,
W.mg_of X G a8,
Ed λ_ _ _=>.of_eq rfl,
jj (st:=Eu) l9 c9 k9,
W.mg_of X G a9,
Ed λ_ _ _=>.of_eq rfl,
jj (st:=Al) l10 c10 k10,
W.mg_of X G a10,
df (jj (st:=Al) l10 c10 k10),
jj (st:=gp) l11 c11 k11,
W.mg_of X G a11,
df (jj (st:=gp) l11 c11 k11),
jj (st:=vc) l12 c12 k12,
⟨xrn12,a12,xd12a,xd12b,xd12c,xd12d⟩,
cg (jj (st:=vc) l12 c12 k12),
jj (st:=y0) l13 c13 k13,
⟨xrn13,a13,xd13a,xd13b,xd13c,xd13d⟩,
cg (jj (st:=y0) l13 c13 k13),
jj (st:=Ew) l14 c14 k14,
W.mg_of X G a14,
Lz λ_ _ _ _=>.of_eq rfl,
jj (st:=Ex) l15 c15 k15,
W.mg_of X G a15,
Ed λ_ _ _=>.of_eq rfl,
jj (st:=Am) l16 c16 k16,
W.mg_of X G a16,
df (jj (st:=Am) l16 c16 k16),
jj (st:=gm) l17 c17 k17,
⟨a17,n17,k17⟩,
⟨mk17,a17,n17,mq17⟩,
cg (jj (st:=gm) l17 c17 k17),
jj (st:=vA) l18 c18 k18,
⟨a18,n18,k18⟩,
mO (jj (st:=vA) l18 c18 k18),
jj (st:=y3) l19 c19 k19,
⟨a19,n19,k19⟩,
cg (jj (st:=y3) l19 c19 k19),
jj (st:=xr) l20 c20 k20,
⟨a20,n20,k20⟩,
cg (jj (st:=xr) l20 c20 k20),
jj (st:=uw) l21 c21 k21,
⟨a21,n21,k21⟩,
df (jj (st:=uw) l21 c21 k21),
jj (st:=uk) l22 c22 k22,
⟨a22,n22,k22⟩,
⟨mk22,a22,n22,mq22⟩,
cg (jj (st:=uk) l22 c22 k22),
jj (st:=An) l23 c23 k23,
⟨a23,n23,k23⟩,
cg (jj (st:=An) l23 c23 k23),
jj (st:=pq) l24 c24 k24,
⟨a24,n24,k24⟩,
cg (jj (st:=pq) l24 c24 k24),
jj (st:=vB) l25 c25 k25,
⟨a25,n25,k25⟩,
cg (jj (st:=vB) l25 c25 k25),
jj (st:=wa) l26 c26 k26,
⟨a26,n26,k26⟩,
⟨mk26,a26,n26,mq26⟩,
cg (jj (st:=wa) l26 c26 k26),
jj (st:=ub) l27 c27 k27,
⟨a27,n27,k27⟩,
df (jj (st:=ub) l27 c27 k27),
jj (st:=gj) l28 c28 k28,
⟨a28,n28,k28⟩,
mO (jj (st:=gj) l28 c28 k28),
jj (st:=xc) l29 c29 k29,
⟨a29,n29,k29⟩,
df (jj (st:=xc) l29 c29 k29),
jj (st:=xn) l30 c30 k30,
⟨a30,n30,k30⟩,
df (jj (st:=xn) l30 c30 k30),
jj (st:=wz) l31 c31 k31,
⟨a31,n31,k31⟩,
df (jj (st:=wz) l31 c31 k31),
jj (st:=Ao) l32 c32 k32,
⟨a32,n32,k32⟩,
cg (jj (st:=Ao) l32 c32 k32),
jj (st:=yr) l33 c33 k33,
⟨a33,n33,k33⟩,
cg (jj (st:=yr) l33 c33 k33),
jj (st:=Ey) l34 c34 k34,
⟨a34,n34,k34⟩,
⟨mk34,a34,n34,mq34⟩,
⟨_,Wv rfl eg34 rfl rfl rfl rfl rfl rfl rfl (by decide +kernel),_,_,eh34,rfl,rfl⟩,
jj (st:=um) l35 c35 k35,
⟨a35,n35,k35⟩,
df (jj (st:=um) l35 c35 k35),
jj (st:=vt) l36 c36 k36,
⟨a36,n36,k36⟩,
cg (jj (st:=vt) l36 c36 k36),
jj (st:=Ap) l37 c37 k37,
⟨a37,n37,k37⟩,
cg (jj (st:=Ap) l37 c37 k37),
jj (st:=yn) l38 c38 k38,
⟨a38,n38,k38⟩,
cg (jj (st:=yn) l38 c38 k38),
jj (st:=yq) l39 c39 k39,
⟨a39,n39,k39⟩,
mO (jj (st:=yq) l39 c39 k39),
jj (st:=vb) l40 c40 k40,
⟨a40,n40,k40⟩,
cg (jj (st:=vb) l40 c40 k40),
jj (st:=zj) l41 c41 k41,
⟨a41,n41,k41⟩,
mO (jj (st:=zj) l41 c41 k41),
jj (st:=yi) l42 c42 k42,
⟨a42,n42,k42⟩,
mO (jj (st:=yi) l42 c42 k42),
jj (st:=vC) l43 c43 k43,
⟨a43,n43,k43⟩,
Ec (jj (st:=vC) l43 c43 k43),
jj (st:=vD) l44 c44 k44,
⟨a44,n44,k44⟩,
cg (jj (st:=vD) l44 c44 k44),
jj (st:=Aq) l45 c45 k45,
W.mg_of X G a45,
cg (jj (st:=Aq) l45 c45 k45),
jj (st:=pf) l46 c46 k46,
W.mg_of X G a46,
cg (jj (st:=pf) l46 c46 k46),
jj (st:=Ar) l47 c47 k47,
W.mg_of X G a47,
Lz λ_ _ _ _=>.of_eq rfl,
jj (st:=As) l48 c48 k48,
W.mg_of X G a48,
cg (jj (st:=As) l48 c48 k48),
jj (st:=yw) l49 c49 k49,
⟨a49,n49,k49⟩,
cg (jj (st:=yw) l49 c49 k49),
jj (st:=y9) l50 c50 k50,
⟨a50,n50,k50⟩,
⟨mk50,a50,n50,mq50⟩,
cg (jj (st:=y9) l50 c50 k50),
jj (st:=w4) l51 c51 k51,
⟨a51,n51,k51⟩,
cg (jj (st:=w4) l51 c51 k51),
jj (st:=Au) l52 c52 k52,
⟨a52,n52,k52⟩,
mO (jj (st:=Au) l52 c52 k52),
jj (st:=ye) l53 c53 k53,
⟨a53,n53,k53⟩,
cg (jj (st:=ye) l53 c53 k53),
jj (st:=Av) l54 c54 k54,
⟨a54,n54,k54⟩,
df (jj (st:=Av) l54 c54 k54),
jj (st:=w9) l55 c55 k55,
⟨a55,n55,k55⟩,
mO (jj (st:=w9) l55 c55 k55),
jj (st:=Aw) l56 c56 k56,
W.mg_of X G a56,
df (jj (st:=Aw) l56 c56 k56),
jj (st:=Ax) l57 c57 k57,
W.mg_of X G a57,
df (jj (st:=Ax) l57 c57 k57),
jj (st:=Ay) l58 c58 k58,
W.mg_of X G a58,
df (jj (st:=Ay) l58 c58 k58),
jj (st:=Az) l59 c59 k59,
W.mg_of X G a59,
df (jj (st:=Az) l59 c59 k59),
jj (st:=AA) l60 c60 k60,
W.mg_of X G a60,
df (jj (st:=AA) l60 c60 k60),
jj (st:=vE) l61 c61 k61,
W.mg_of X G a61,
cg (jj (st:=vE) l61 c61 k61),
jj (st:=AB) l62 c62 k62,
W.mg_of X G a62,
cg (jj (st:=AB) l62 c62 k62),
jj (st:=gf) l63 c63 k63,
W.mg_of X G a63,
df (jj (st:=gf) l63 c63 k63),
jj (st:=AD) l64 c64 k64,
W.mg_of X G a64,
Ec (jj (st:=AD) l64 c64 k64),
jj (st:=vF) l65 c65 k65,
W.mg_of X G a65,
Ec (jj (st:=vF) l65 c65 k65),
jj (st:=vG) l66 c66 k66,
W.mg_of X G a66,
df (jj (st:=vG) l66 c66 k66),
⟨_,W.mg_of X G hgc0⟩,
⟨_,W.mg_of X G hgc1⟩,
⟨_,W.mg_of X G hgc2⟩,
⟨_,W.mg_of X G hgc3⟩,
⟨_,W.mg_of X G hgc4⟩,
⟨_,W.mg_of X G hgc5⟩,
⟨_,W.mg_of X G hgc6⟩,
⟨_,W.mg_of X G hgc7⟩,
⟨_,W.mg_of X G hgc8⟩,
⟨_,W.mg_of X G hgc9⟩,
W.mg_of X G cm0,
⟨cg0,ch0,co0,cs0⟩,
cn0_0,
cn0_1,
cn0_2,
cn0_3,
cn0_4,
cn0_5,
cn0_6,
W.mg_of X G cm1,
⟨cg1,ch1,co1,cs1⟩,
cn1_0,
cn1_1,
W.mg_of X G cm2,
⟨cg2,ch2,co2,cs2⟩,
⟨ia2,in2,it2,im2,ik2⟩,
kn2,
cn2_0,
cn2_1,
cn2_2,
cn2_3,
cn2_4,
cn2_5,
cn2_6,
cn2_7,
W.mg_of X G cm3,
⟨cg3,ch3,co3,cs3⟩,
cn3_0,
cn3_1,
cn3_2,
W.mg_of X G cm4,
⟨cg4,ch4,co4,cs4⟩,
⟨ia4,in4,it4,im4,ik4⟩,
cn4_0,
cn4_1,
⟨ih0,n24,k24⟩,
⟨ih1,n23,k23⟩,
⟨ih2,n25,k25⟩,
⟨yp0,yr0,yf0,k22⟩,
W.mg_of X G xm0,
W.mg_of X G xm1,
W.mg_of X G xm2,
W.mg_of X G xm3,
W.mg_of X G xm4,
W.mg_of X G xm5,
W.mg_of X G xm6,
W.mg_of X G xm7,
W.mg_of X G xm8,
W.mg_of X G xm9,
W.mg_of X G xm10,
W.mg_of X G xm11,
⟨xg0,xh0,xj0,xp0,xo0,xs0⟩,
xk0,
xc0_0,
xc0_1,
xr1,
⟨xg1,xh1,xj1,xp1,xo1,xs1⟩,
xk1,
xc1_0,
xc1_1,
xr2,
⟨xg2,xh2,xj2,xp2,xo2,xs2⟩,
xk2,
xc2_0,
xc2_1,
⟨xg3,xh3,xj3,xp3,xo3,xs3⟩,
xk3,
xc3_0,
xc3_1,
xr4,
⟨xg4,xh4,xj4,xp4,xo4,xs4⟩,
xk4,
xc4_0,
xc4_1,
xr5,
⟨xg5,xh5,xj5,xp5,xo5,xs5⟩,
xk5,
xc5_0,
xc5_1,
xb0,
xb1,
W.mg_none_of X G z0,
W.mg_none_of X G z1,
W.mg_none_of X G z2,
W.mg_none_of X G z3,
W.mg_none_of X G z4,
W.mg_none_of X G z5,
W.mg_none_of X G z6,
W.mg_none_of X G z7,
W.mg_none_of X G z8,
W.mg_none_of X G z9,
W.mg_none_of X G z10,
W.mg_none_of X G z11,
W.mg_none_of X G z12⟩
 have e:=hfa.symm.trans T.YK
 cases e
 exact ⟨_,λs v=>.of_eq rfl,λbase _ _=>j65 T⟩
end M
namespace PySem.W.Fast
theorem t:True:=⟨⟩
noncomputable def tw8774496375156379612:=t
noncomputable def tw11904999975008096280:=t
noncomputable def tw7183510343749430172:=t
noncomputable def tw8481135703201518147:=t
noncomputable def tw7512049191297545373:=t
noncomputable def tw1953069496562529006:=t
noncomputable def tw3503941526005200835:=t
noncomputable def tw15760201376513123736:=t
noncomputable def tw15801622940138739451:=t
noncomputable def tw7678831624864797630:=t
noncomputable def tw11240750231747420174:=t
noncomputable def tw7319532890155308421:=t
noncomputable def tw3657604695724369667:=t
noncomputable def tw18133026849615475722:=t
noncomputable def tw5672205699685104799:=t
noncomputable def tw6719395035978459767:=t
noncomputable def tw984805090938324138:=t
noncomputable def tw12968256911689859208:=t
noncomputable def tw557785698631753895:=t
noncomputable def tw6571738948585335481:=t
noncomputable def tw11109188384187945692:=t
noncomputable def tw5362227079482676791:=t
noncomputable def tw9666471065961067090:=t
noncomputable def tw11604964962987008480:=t
noncomputable def tw1529776504579889741:=t
noncomputable def tw14357474024437828637:=t
noncomputable def tw240097106572127517:=t
noncomputable def tw1170112334047619883:=t
noncomputable def tw3805290160892276439:=t
noncomputable def tw13221681537164410547:=t
noncomputable def tw7742179895122545875:=t
noncomputable def tw7565331426610526565:=t
noncomputable def tw14218792303275182336:=t
noncomputable def tw10700325796968848375:=t
noncomputable def tw13832353557056098333:=t
noncomputable def tw7386056917012818939:=t
noncomputable def tw15031192770397282739:=t
noncomputable def tw4101393150636840055:=t
noncomputable def tw5940355773818842685:=t
noncomputable def tw17344876309345067403:=t
noncomputable def tw181697179382395729:=t
noncomputable def tw7245624077582081750:=t
noncomputable def tw14445198527494783669:=t
noncomputable def tw8976129395097954930:=t
noncomputable def tw7605723955647022148:=t
noncomputable def tw4341969001003642737:=t
noncomputable def tw14493172660443582948:=t
noncomputable def tw13543474279296466984:=t
noncomputable def tw9511837616938205934:=t
noncomputable def tw629822177980637905:=t
noncomputable def tw8154324344503187029:=t
noncomputable def tw17977574620499749722:=t
noncomputable def tw14880165238125535412:=t
noncomputable def tw12349340752831657361:=t
noncomputable def tw6914523790824133397:=t
noncomputable def tw583696761929515140:=t
noncomputable def tw6316858068800401988:=t
noncomputable def tw1549073127998731382:=t
noncomputable def tw14395716594546442652:=t
noncomputable def tw1180372405421633911:=t
noncomputable def tw6277105586245284557:=t
noncomputable def tw10076248340832188805:=t
noncomputable def tw3080696997720801222:=t
noncomputable def tw17976598058146389255:=t
noncomputable def tw7061289743742367599:=t
noncomputable def tw14923494603730217171:=t
noncomputable def tw1974804271770639030:=t
noncomputable def tw2516393472283899419:=t
noncomputable def tw15550433894922194929:=t
noncomputable def tw8051376404957166994:=t
noncomputable def tw12487865529799063704:=t
noncomputable def tw11780041831530444650:=t
noncomputable def tw8028585332354675130:=t
noncomputable def tw5204038793289043376:=t
noncomputable def tw15186845624563020911:=t
noncomputable def tw17052263013800539272:=t
noncomputable def tw5274888343689671014:=t
noncomputable def tw1678126943454126900:=t
noncomputable def tw11992747140306707272:=t
noncomputable def tw2950987846105383546:=t
noncomputable def tw689600840126512412:=t
noncomputable def tw7119164053074008575:=t
noncomputable def tw1542937046406947322:=t
noncomputable def tw4925155993617688651:=t
noncomputable def tw7446013896280273582:=t
noncomputable def tw5325681359469198116:=t
noncomputable def tw547076974701870179:=t
noncomputable def tw614564274608033685:=t
noncomputable def tw3430688352788242567:=t
noncomputable def tw18391539474608516639:=t
noncomputable def tw16822073309890728560:=t
noncomputable def tw4618475396453403770:=t
noncomputable def tw10186552806315174107:=t
noncomputable def tw17304877038496861441:=t
noncomputable def tw9627348346214966755:=t
noncomputable def tw16742815576739361298:=t
noncomputable def tw12246063480174427802:=t
noncomputable def tw8681436102703366899:=t
noncomputable def tw9796755332799715774:=t
noncomputable def tw6936363891798978224:=t
noncomputable def tw13318962995732796611:=t
noncomputable def tw10274636040970967369:=t
noncomputable def tw11989950170724000410:=t
noncomputable def tw13550520980845863539:=t
noncomputable def tw17295959385790101438:=t
noncomputable def tw1517445224797081193:=t
noncomputable def tw16684650961097650425:=t
noncomputable def tw11882612542175301816:=t
noncomputable def tw18197372009327695894:=t
noncomputable def tw13900298359476642241:=t
noncomputable def tw9168907490164227330:=t
noncomputable def tw4665046678088592508:=t
noncomputable def tw1755069879405808006:=t
noncomputable def tw12299766559293271460:=t
noncomputable def tw2100109464986330223:=t
noncomputable def tw2991076120200955159:=t
noncomputable def tw811326184692151972:=t
noncomputable def tw1764684656495778793:=t
noncomputable def tw13787262665926364073:=t
noncomputable def tw15313782585011542381:=t
noncomputable def tw14836078483313258064:=t
noncomputable def tw12017369905878749151:=t
noncomputable def tw5919960760190256296:=t
noncomputable def tw3850424110555936144:=t
noncomputable def tw7827575593309281211:=t
noncomputable def tw2714759840438034142:=t
noncomputable def tw5903958214378147252:=t
noncomputable def tw2113981842607053509:=t
noncomputable def tw10719232599433808201:=t
noncomputable def tw7173264235570304993:=t
noncomputable def tw12860925944588567745:=t
noncomputable def tw2655968158881942548:=t
noncomputable def tw5715279800453637580:=t
noncomputable def tw16245485351678049521:=t
noncomputable def tw1958448520589598345:=t
noncomputable def tw2221563004685760394:=t
noncomputable def tw15160840071964690879:=t
noncomputable def tw25332548334256794:=t
noncomputable def tw5801527880686402009:=t
noncomputable def tw17839033298955138497:=t
noncomputable def tw16403360001162086485:=t
noncomputable def tw16060869114126284739:=t
noncomputable def tw18427040364060026054:=t
noncomputable def tw15019714230996296923:=t
noncomputable def tw13633859948566607008:=t
noncomputable def tw3754990009415664031:=t
noncomputable def tw3747205810716976792:=t
noncomputable def tw11072465764215377461:=t
noncomputable def tw15773471198981138694:=t
noncomputable def tw18328581887056265000:=t
noncomputable def tw16590979585348133341:=t
noncomputable def tw2347095679186310752:=t
noncomputable def tw15664018392545097522:=t
noncomputable def tw11606307918626981781:=t
noncomputable def tw16758178486005205585:=t
noncomputable def tw573955765865631036:=t
noncomputable def tw6176679765205010038:=t
noncomputable def tw1470545327411724820:=t
noncomputable def tw3941019131677176248:=t
noncomputable def tw12271640462015735342:=t
noncomputable def tw13972195614646495645:=t
noncomputable def tw18066394005275505153:=t
noncomputable def tw1385363491304093410:=t
noncomputable def tw5519159536286953144:=t
noncomputable def tw14831090640194139648:=t
noncomputable def tw16330121753525754355:=t
noncomputable def tw1257345695610346605:=t
noncomputable def tw11377229470663264713:=t
noncomputable def tw379943201585980504:=t
noncomputable def tw8281438537629266205:=t
noncomputable def tw11189948624241319756:=t
noncomputable def tw2718645825787449063:=t
noncomputable def tw16049879593403059991:=t
noncomputable def tw1766842650936447754:=t
noncomputable def tw17263395330844558019:=t
noncomputable def tw6933957070780224122:=t
noncomputable def tw2375201157184104549:=t
noncomputable def tw2437848305152868690:=t
noncomputable def tw14551514940536076729:=t
noncomputable def tw146976111241186094:=t
noncomputable def tw11963187753282835687:=t
noncomputable def tw13906987127881052815:=t
noncomputable def tw7337792268324257608:=t
noncomputable def tw2650804363863966547:=t
noncomputable def tw9664725145069347699:=t
noncomputable def tw10935521434959563185:=t
noncomputable def tw10988808565558737360:=t
noncomputable def tw3865265412195638927:=t
noncomputable def tw13202760988784570782:=t
noncomputable def tw4550465193437987866:=t
noncomputable def tw2274550953559008304:=t
noncomputable def tw17728109737718961522:=t
noncomputable def tw3943624390696598510:=t
noncomputable def tw15583440472932436276:=t
noncomputable def tw17937664915110239189:=t
noncomputable def tw16831592752380597694:=t
noncomputable def tw5383100510094058717:=t
noncomputable def tw2963434460828240996:=t
noncomputable def tw10460982096489819413:=t
noncomputable def tw3959950543178312496:=t
noncomputable def tw12354861869015756810:=t
noncomputable def tw11832952890095678327:=t
noncomputable def tw6076377692746521812:=t
noncomputable def tw14349686672746191713:=t
noncomputable def tw2545314887964061865:=t
noncomputable def tw16658750619110266412:=t
noncomputable def tw268374783112340086:=t
noncomputable def tw11978782091188220798:=t
noncomputable def tw18144172159213629178:=t
noncomputable def tw183335526848777878:=t
noncomputable def tw7978408828110025054:=t
noncomputable def tw14188456935857230261:=t
noncomputable def tw1534144145385547175:=t
noncomputable def tw3131093835232931296:=t
noncomputable def tw1911112159926026360:=t
noncomputable def tw663084654791932129:=t
noncomputable def tw1239283685189167534:=t
noncomputable def tw2952737810423662624:=t
noncomputable def tw6914606299930424370:=t
noncomputable def tw14495773951088883390:=t
noncomputable def tw9414484400565965483:=t
noncomputable def tw4435517608967170860:=t
noncomputable def tw2064878260762122812:=t
noncomputable def tw17017706048114789392:=t
noncomputable def tw10430942804569782153:=t
noncomputable def tw5492889477737465949:=t
noncomputable def tw14884140037275215304:=t
noncomputable def tw10746729318630683485:=t
noncomputable def tw12679646928374611628:=t
noncomputable def tw15831246174994016971:=t
noncomputable def tw15451671934849194456:=t
noncomputable def tw841590732674856160:=t
noncomputable def tw4234654276844420354:=t
noncomputable def tw15025831888595369084:=t
noncomputable def tw12785556761049397123:=t
noncomputable def tw10140837535264698601:=t
noncomputable def tw1360990393389710143:=t
noncomputable def tw16750978994598024805:=t
noncomputable def tw13879863613492664285:=t
noncomputable def tw10469171098285440531:=t
noncomputable def tw4143433659398949681:=t
noncomputable def tw1760623676924956637:=t
noncomputable def tw7729188871813054724:=t
noncomputable def tw149342533298931701:=t
noncomputable def tw13283319222723170467:=t
noncomputable def tw1159774220781728592:=t
noncomputable def tw9863794372230413815:=t
noncomputable def tw13169468268804584417:=t
noncomputable def tw15997520651279097060:=t
noncomputable def tw3278563513231638591:=t
noncomputable def tw12868401244604706353:=t
noncomputable def tw9874596026319492782:=t
noncomputable def tw4247948557116190502:=t
noncomputable def tw5350900962761235886:=t
noncomputable def tw13302955450542128222:=t
noncomputable def tw17249923125783743665:=t
noncomputable def tw5259189830844809182:=t
noncomputable def tw16063108578550583413:=t
noncomputable def tw13420643862513595840:=t
noncomputable def tw1573469465120950490:=t
noncomputable def tw14190076480540405786:=t
noncomputable def tw124947246096270111:=t
noncomputable def tw17825155521263851740:=t
noncomputable def tw8797760152212527128:=t
noncomputable def tw14648293789907384010:=t
noncomputable def tw16298372467772925576:=t
noncomputable def tw8252916729242203742:=t
noncomputable def tw7864059590338501699:=t
noncomputable def tw3009380249158305993:=t
noncomputable def tw15203847284646618227:=t
noncomputable def tw12603033969554013007:=t
noncomputable def tw9395213010596817670:=t
noncomputable def tw7942453591150564877:=t
noncomputable def tw15762679989394789547:=t
noncomputable def tw9286608047696153860:=t
noncomputable def tw11380590556665443965:=t
noncomputable def tw12857148033722417689:=t
noncomputable def tw8975294320873409868:=t
noncomputable def tw18315746002734812707:=t
noncomputable def tw18392506154668254935:=t
noncomputable def tw10295114173293405463:=t
noncomputable def tw17692211319561390972:=t
noncomputable def tw2255321121781533486:=t
noncomputable def tw493886994532983964:=t
noncomputable def tw8054845817641541707:=t
noncomputable def tw16613957277827439523:=t
noncomputable def tw876110797629737744:=t
noncomputable def tw14746544420730616276:=t
noncomputable def tw8499640605092256279:=t
noncomputable def tw15752412270236884409:=t
noncomputable def tw7522233352277440384:=t
noncomputable def tw12815095897692575215:=t
noncomputable def tw14871391717267324772:=t
noncomputable def tw12242157440211266973:=t
noncomputable def tw6934377681445533142:=t
noncomputable def tw8230991855731753267:=t
noncomputable def tw102670596172490909:=t
noncomputable def tw17195892715950033303:=t
noncomputable def tw9315204478977375430:=t
noncomputable def tw9019786372258014454:=t
noncomputable def tw12214229029030196912:=t
noncomputable def tw5294992300796438980:=t
noncomputable def tw12676074419936746401:=t
noncomputable def tw17745957822597746735:=t
noncomputable def tw17727380482535038216:=t
noncomputable def tw3359558886935693582:=t
noncomputable def tw12854139500221514136:=t
noncomputable def tw11582334955883069223:=t
noncomputable def tw14252277484852402260:=t
noncomputable def tw7577633266002719267:=t
noncomputable def tw4707297218243263276:=t
noncomputable def tw4441600237513994880:=t
noncomputable def tw14557138201577489213:=t
noncomputable def tw4447245579659753349:=t
noncomputable def tw13975209264011280859:=t
noncomputable def tw18270241765315836954:=t
noncomputable def tw13908754852084620561:=t
noncomputable def tw9929594469129572967:=t
noncomputable def tw13283838532665088366:=t
noncomputable def tw12934463425398001695:=t
noncomputable def tw6017758943257848420:=t
noncomputable def tw6322048263665445336:=t
noncomputable def tw11417220710250645780:=t
noncomputable def tw14734354262185543077:=t
noncomputable def tw16692988582575884967:=t
noncomputable def tw17997389929397368456:=t
noncomputable def tw13099220301123744883:=t
noncomputable def tw13526810375078016245:=t
noncomputable def tw14557885361981656401:=t
noncomputable def tw2219019161729119956:=t
noncomputable def tw6209671043265247666:=t
noncomputable def tw945452550166513369:=t
noncomputable def tw12951666840003539579:=t
noncomputable def tw3615257078507633811:=t
noncomputable def tw7974718164811535410:=t
noncomputable def tw12315676768437232756:=t
noncomputable def tw9193934371223873942:=t
noncomputable def tw6644421263861721786:=t
noncomputable def tw17418940365201403268:=t
noncomputable def tw3638069248869671770:=t
noncomputable def tw3747187835390666345:=t
noncomputable def tw1585022327602378409:=t
noncomputable def tw51581568958649110:=t
noncomputable def tw4970257286298626588:=t
noncomputable def tw6920454327110178513:=t
noncomputable def tw16277516882706531962:=t
noncomputable def tw1358704841660966369:=t
noncomputable def tw4838093797349596837:=t
noncomputable def tw3018939613404952902:=t
noncomputable def tw3246333532726815515:=t
noncomputable def tw894755411307529177:=t
noncomputable def tw8011436949733289073:=t
noncomputable def tw2269921367655078872:=t
noncomputable def tw539247730648203767:=t
noncomputable def tw2882173055944495702:=t
noncomputable def tw1992592032863703850:=t
noncomputable def tw10182831769107559688:=t
noncomputable def tw10228738871321271615:=t
noncomputable def tw9204305991165713969:=t
noncomputable def tw3014707898343385989:=t
noncomputable def tw11840239352250818278:=t
noncomputable def tw10178884276572543352:=t
noncomputable def tw15804075752638812964:=t
noncomputable def tw12232634531044302564:=t
noncomputable def tw1887216994050289566:=t
noncomputable def tw18421544136475024099:=t
noncomputable def tw12977505246600916643:=t
noncomputable def tw4716204281229840654:=t
noncomputable def tw9645698179560266073:=t
noncomputable def tw8140862627727710878:=t
noncomputable def tw10739846611323171660:=t
noncomputable def tw9901431846715444204:=t
noncomputable def tw15814429537249130911:=t
noncomputable def tw4396329151213499120:=t
noncomputable def tw12727329060982437625:=t
noncomputable def tw13181349981945053779:=t
noncomputable def tw16146264239116312854:=t
noncomputable def tw18291228498693967490:=t
noncomputable def tw5321249978459095501:=t
noncomputable def tw3206733094527812519:=t
noncomputable def tw2215096516799005750:=t
noncomputable def tw10282176635892457507:=t
noncomputable def tw1884294290792318829:=t
noncomputable def tw5795644602327547426:=t
noncomputable def tw14379321519530234015:=t
noncomputable def tw9756581654158994350:=t
noncomputable def tw6135082182653762471:=t
noncomputable def tw13427413808579700453:=t
noncomputable def tw14225908012889632024:=t
noncomputable def tw4357264354909692029:=t
noncomputable def tw16290833362885836526:=t
noncomputable def tw18376043186257282736:=t
noncomputable def tw5752742543956150790:=t
noncomputable def tw6485986444915451675:=t
noncomputable def tw17652384765242239168:=t
noncomputable def tw3499155771936170443:=t
noncomputable def tw3424057067665563034:=t
noncomputable def tw15095463362960582198:=t
noncomputable def tw16548043008505901350:=t
noncomputable def tw9461860247956340851:=t
noncomputable def tw17329720103910444392:=t
noncomputable def tw11440173722998910954:=t
noncomputable def tw14138724065261585684:=t
noncomputable def tw15621280751531814355:=t
noncomputable def tw9454593493606863514:=t
noncomputable def tw12876178481709291570:=t
noncomputable def tw8624115911784142241:=t
noncomputable def tw5791647719062141106:=t
noncomputable def tw15144194618233877230:=t
noncomputable def tw14356892097779164986:=t
noncomputable def tw17194680621356150268:=t
noncomputable def tw17004662227281181973:=t
noncomputable def tw8495866069124445588:=t
noncomputable def tw968590426717366978:=t
noncomputable def tw1461069509762960171:=t
noncomputable def tw5537078361005055042:=t
noncomputable def tw12906775369463776451:=t
noncomputable def tw15196319775918753400:=t
noncomputable def tw5570191128152458884:=t
noncomputable def tw3219511681558521079:=t
noncomputable def tw15345161307448983599:=t
noncomputable def tw15270915096811502720:=t
noncomputable def tw16168027263336908327:=t
noncomputable def tw8632817899995263253:=t
noncomputable def tw17002438047408660783:=t
noncomputable def tw974810844258909270:=t
noncomputable def tw15505969012079913233:=t
noncomputable def tw7462318477333849238:=t
noncomputable def tw5155540397089783942:=t
noncomputable def tw15319180514188362140:=t
noncomputable def tw2234761684881555398:=t
noncomputable def tw13791396937492221028:=t
noncomputable def tw16425296016595017344:=t
noncomputable def tw5797348268903960630:=t
noncomputable def tw9356039615057992663:=t
noncomputable def tw11775250297014903083:=t
noncomputable def tw17338214884697710172:=t
noncomputable def tw13668819719183514153:=t
noncomputable def tw9034189626759272245:=t
noncomputable def tw70141952708046729:=t
noncomputable def tw6557618640211744735:=t
noncomputable def tw10667941896082591769:=t
noncomputable def tw9149717655612429336:=t
noncomputable def tw15091537009593364715:=t
noncomputable def tw15869153349306144789:=t
noncomputable def tw11661075537276091940:=t
noncomputable def tw9650119494300198388:=t
noncomputable def tw12979363645807992073:=t
noncomputable def tw3138070304199225184:=t
noncomputable def tw17599976641885626055:=t
noncomputable def tw15610587988512788868:=t
noncomputable def tw5875336548122589803:=t
noncomputable def tw3381109243433953646:=t
noncomputable def tw7859406582517008229:=t
noncomputable def tw14252108868825470297:=t
noncomputable def tw13351513166555740943:=t
noncomputable def tw2657088965161998864:=t
noncomputable def tw4477207835974025509:=t
noncomputable def tw8686562388722011666:=t
noncomputable def tw9348444749700236866:=t
noncomputable def tw16330480509960574734:=t
noncomputable def tw6553453661612220710:=t
noncomputable def tw11700968119831280108:=t
noncomputable def tw14913134867560019541:=t
noncomputable def tw84281682049541699:=t
noncomputable def tw6443885951473025943:=t
noncomputable def tw4306095802684612256:=t
noncomputable def tw1286913648709602318:=t
noncomputable def tw2382044362828832956:=t
noncomputable def tw1458879885001129538:=t
noncomputable def tw15242358841223505110:=t
noncomputable def tw287416183045389194:=t
noncomputable def tw7732208424166603802:=t
noncomputable def tw14753156139256610822:=t
noncomputable def tw3249880978133715534:=t
noncomputable def tw821469794896596308:=t
noncomputable def tw3248691010617186262:=t
noncomputable def tw12094693417142727868:=t
noncomputable def tw8066994732845286985:=t
noncomputable def tw15274006220581392347:=t
noncomputable def tw12939749074780051401:=t
noncomputable def tw15413645862258815961:=t
noncomputable def tw4133523105264756922:=t
noncomputable def tw7228218232522653068:=t
noncomputable def tw9738110568443229569:=t
noncomputable def tw12733645299257782277:=t
noncomputable def tw12848748770967031216:=t
noncomputable def tw3443254464257656005:=t
noncomputable def tw12095034883773959351:=t
noncomputable def tw13164034417888720622:=t
noncomputable def tw9626633227445680259:=t
noncomputable def tw6623125769054222209:=t
noncomputable def tw15446131008171323616:=t
noncomputable def tw11654997669215909678:=t
noncomputable def tw6748976867446176816:=t
noncomputable def tw10572386972019044221:=t
noncomputable def tw56937478180574576:=t
noncomputable def tw11832097617618340230:=t
noncomputable def tw2292207401393643194:=t
noncomputable def tw5499597566907159278:=t
noncomputable def tw16307116626655388259:=t
noncomputable def tw18256453445201164843:=t
noncomputable def tw10922880824143074987:=t
noncomputable def tw5116424840893648024:=t
noncomputable def tw1532127663572081295:=t
noncomputable def tw763175182760955340:=t
noncomputable def tw114463931098544677:=t
noncomputable def tw5411097159528432839:=t
noncomputable def tw11979065286015450621:=t
noncomputable def tw3378955049222118997:=t
noncomputable def tw10880067278060088316:=t
noncomputable def tw11901557277250716897:=t
noncomputable def tw9109539317286233727:=t
noncomputable def tw14429925939446412656:=t
noncomputable def tw16117855608328277937:=t
noncomputable def tw8236428460062925711:=t
noncomputable def tw8103508947839567334:=t
noncomputable def tw3098994023772141550:=t
noncomputable def tw5820385586329805022:=t
noncomputable def tw3888886106851256446:=t
noncomputable def tw1670309170633722526:=t
noncomputable def tw8154416348492941915:=t
noncomputable def tw14001776991959566731:=t
noncomputable def tw7472229347322985668:=t
noncomputable def tw6089092357099804304:=t
noncomputable def tw9435806198284099450:=t
noncomputable def tw15346166294479029129:=t
noncomputable def tw16768726128619474148:=t
noncomputable def tw9255073990090410108:=t
noncomputable def tw11319840286700777493:=t
noncomputable def tw5175018088227091300:=t
noncomputable def tw1601157329589780782:=t
noncomputable def tw3604279899220940919:=t
noncomputable def tw9122388839286727230:=t
noncomputable def tw14203696881484947994:=t
noncomputable def tw13767914318610541637:=t
noncomputable def tw17153846745719607919:=t
noncomputable def tw13530400422609034369:=t
noncomputable def tw1229806377117503875:=t
noncomputable def tw6834781622756461395:=t
noncomputable def tw6863470517116053242:=t
noncomputable def tw4870523560390911583:=t
noncomputable def tw282493627704443598:=t
noncomputable def tw822293313022046795:=t
noncomputable def tw15882478945280089873:=t
noncomputable def tw5575838303882241958:=t
noncomputable def tw12622125047012071815:=t
noncomputable def tw15556280565986110607:=t
noncomputable def tw4141071218331805902:=t
noncomputable def tw15819760069218541695:=t
noncomputable def tw17263151010523295017:=t
noncomputable def tw12990723791741622825:=t
noncomputable def tw5795812291290168178:=t
noncomputable def tw1254061891253010435:=t
noncomputable def tw3216761818418728269:=t
noncomputable def tw17244741160385580683:=t
noncomputable def tw2628636495668440313:=t
noncomputable def tw2974552705416139962:=t
noncomputable def tw10865123461517885546:=t
noncomputable def tw13478360484425103519:=t
noncomputable def tw1461382934210604794:=t
noncomputable def tw4087740820139494311:=t
noncomputable def tw7485393734430558181:=t
noncomputable def tw9295625940598011785:=t
noncomputable def tw14227041814397748031:=t
noncomputable def tw14260448681120680905:=t
noncomputable def tw3056249065976738911:=t
noncomputable def tw13142950986606673315:=t
noncomputable def tw14004631984373051121:=t
noncomputable def tw14181105461782643692:=t
noncomputable def tw614942249558892702:=t
noncomputable def tw11016488840372150898:=t
noncomputable def tw2484883952198280766:=t
noncomputable def tw16778468915864995635:=t
noncomputable def tw16561769117166334428:=t
noncomputable def tw11943207906423837964:=t
noncomputable def tw1062600475235911196:=t
noncomputable def tw16297244674869193880:=t
noncomputable def tw279255901143466424:=t
noncomputable def tw12150781210262740018:=t
noncomputable def tw14799612287167303799:=t
noncomputable def tw14045008516260275412:=t
noncomputable def tw12229479182522750385:=t
noncomputable def tw14818856343512326848:=t
noncomputable def tw3225619241754820572:=t
noncomputable def tw10139570950331378736:=t
noncomputable def tw4131579815135646880:=t
noncomputable def tw15718861741128432134:=t
noncomputable def tw5763580372887962793:=t
noncomputable def tw11820710787316116053:=t
noncomputable def tw6734250167159886957:=t
noncomputable def tw10260112349122211886:=t
noncomputable def tw15641729445895627537:=t
noncomputable def tw15463869290048132611:=t
noncomputable def tw17884092832605518090:=t
noncomputable def tw8929135398111817954:=t
noncomputable def tw3265108922723089081:=t
noncomputable def tw11792969141822544963:=t
noncomputable def tw2889189457235791289:=t
noncomputable def tw10925998327578419637:=t
noncomputable def tw7653042926190809791:=t
noncomputable def tw11866234459345412336:=t
noncomputable def tw9949332253034495598:=t
noncomputable def tw11768758876651556855:=t
noncomputable def tw2561266693559690720:=t
noncomputable def tw12834513335517614454:=t
noncomputable def tw10100657928550660305:=t
noncomputable def tw6505910654085523890:=t
noncomputable def tw12499869190478255172:=t
noncomputable def tw1628429424383251709:=t
noncomputable def tw422254961190029321:=t
noncomputable def tw526697108046078794:=t
noncomputable def tw12137165096961623967:=t
noncomputable def tw8984796191149805779:=t
noncomputable def tw10360906842007787310:=t
noncomputable def tw5086117402692228705:=t
noncomputable def tw12118151183145859101:=t
noncomputable def tw940729711571263119:=t
noncomputable def tw10401046450946516335:=t
noncomputable def tw8320170853376622029:=t
noncomputable def tw1645134374886574283:=t
noncomputable def tw12707959184411129884:=t
noncomputable def tw10292060569074885257:=t
noncomputable def tw11027352257151471438:=t
noncomputable def tw15852548096067278107:=t
noncomputable def tw3191698713159165177:=t
noncomputable def tw13640801363910494387:=t
noncomputable def tw10564443949355427945:=t
noncomputable def tw7955330144120746121:=t
noncomputable def tw14670028198634765568:=t
noncomputable def tw12367860181825059534:=t
noncomputable def tw75026170276670675:=t
noncomputable def tw17831589744055972283:=t
noncomputable def tw11041613837414362288:=t
noncomputable def tw4800828256902601452:=t
noncomputable def tw7225083004027409677:=t
noncomputable def tw7270926826762699917:=t
noncomputable def tw2229884378194885504:=t
noncomputable def tw791382224042537293:=t
noncomputable def tw14966834347943709647:=t
noncomputable def tw8753901553264693406:=t
noncomputable def tw2184926864712251397:=t
noncomputable def tw12123238311001105910:=t
noncomputable def tw2488206351455326824:=t
noncomputable def tw7530610329094060497:=t
noncomputable def tw14239524622604212057:=t
noncomputable def tw8289684323283232995:=t
noncomputable def tw12971759307128080849:=t
noncomputable def tw15345928030478264656:=t
noncomputable def tw10763297358080905285:=t
noncomputable def tw9536884542897988242:=t
noncomputable def tw1809667532345143137:=t
noncomputable def tw13054193600786980124:=t
noncomputable def tw17710500897931402675:=t
noncomputable def tw8199901563683935457:=t
noncomputable def tw6818173812676663932:=t
noncomputable def tw6325931409000526500:=t
noncomputable def tw14645571249089582539:=t
noncomputable def tw13778420992943555223:=t
noncomputable def tw17754306832256080638:=t
noncomputable def tw12725924033277696628:=t
noncomputable def tw3154346932442797049:=t
noncomputable def tw15346797974182920622:=t
noncomputable def tw1492512253232594684:=t
noncomputable def tw11902117563293247398:=t
noncomputable def tw11070381035110684304:=t
noncomputable def tw13517382045677106693:=t
noncomputable def tw1866284744624704116:=t
noncomputable def tw12946664840115251478:=t
noncomputable def tw668219600051973063:=t
noncomputable def tw11927602323021114727:=t
noncomputable def tw7715723325610327692:=t
noncomputable def tw858941206654438199:=t
noncomputable def tw4088009257413715951:=t
noncomputable def tw1231789651171429509:=t
noncomputable def tw14434712597494328705:=t
noncomputable def tw16691042580885159194:=t
noncomputable def tw17172280095832822940:=t
noncomputable def tw10459397508037928622:=t
noncomputable def tw8177239453975984689:=t
noncomputable def tw14777933849133130156:=t
noncomputable def tw18131550550809717591:=t
noncomputable def tw12520110128999130806:=t
noncomputable def tw15836305789748212705:=t
noncomputable def tw10855820383829374300:=t
noncomputable def tw6752450637250925651:=t
noncomputable def tw3386054288542827214:=t
noncomputable def tw11609436536279067708:=t
noncomputable def tw4987384121896426483:=t
noncomputable def tw7825880093320037507:=t
noncomputable def tw13401233596355465212:=t
noncomputable def tw13693950915153536592:=t
noncomputable def tw10565602678374990291:=t
noncomputable def tw9176866640922377747:=t
noncomputable def tw7391721412104608728:=t
noncomputable def tw9132198383870655183:=t
noncomputable def tw11358358396598830312:=t
noncomputable def tw7400489077258782351:=t
noncomputable def tw14648819023646495007:=t
noncomputable def tw5009042774868328711:=t
noncomputable def tw3949097971210307847:=t
noncomputable def tw4859491802479491951:=t
noncomputable def tw7010315277322237539:=t
noncomputable def tw12859077114829644968:=t
noncomputable def tw8559545346400775105:=t
noncomputable def tw7384945324905303763:=t
noncomputable def tw12972547014307028780:=t
noncomputable def tw3761747098648260050:=t
noncomputable def tw7483624652244646844:=t
noncomputable def tw12491805558856391630:=t
noncomputable def tw6465220422942506313:=t
noncomputable def tw2903111810896051577:=t
noncomputable def tw6332804874810390350:=t
noncomputable def tw17977296271801140124:=t
noncomputable def tw12719779246120787786:=t
noncomputable def tw14668299601877909920:=t
noncomputable def tw11000520723707049918:=t
noncomputable def tw12365599653901275680:=t
noncomputable def tw4419295864772992484:=t
noncomputable def tw15809394920387662210:=t
noncomputable def tw14504627497073561997:=t
noncomputable def tw5618068095206480799:=t
noncomputable def tw6765690347766825921:=t
noncomputable def tw12291248372052152914:=t
noncomputable def tw12050630516883035465:=t
noncomputable def tw4613998012227294653:=t
noncomputable def tw13932513094384131808:=t
noncomputable def tw7060726369076781582:=t
noncomputable def tw8400087948053699680:=t
noncomputable def tw2961271997240285941:=t
noncomputable def tw11727414665971088685:=t
noncomputable def tw11917059985527429034:=t
noncomputable def tw3917036430017627943:=t
noncomputable def tw17624615037439424357:=t
noncomputable def tw15195068354965134330:=t
noncomputable def tw2676157987762610527:=t
noncomputable def tw15350648758415617721:=t
noncomputable def tw13243123873733509549:=t
noncomputable def tw11871836488789852237:=t
noncomputable def tw15424612396775131530:=t
noncomputable def tw18181923967674207920:=t
noncomputable def tw6213053168760498937:=t
noncomputable def tw7321819636496154962:=t
noncomputable def tw8403319591847544423:=t
noncomputable def tw11008261881171543969:=t
noncomputable def tw1262472180807078415:=t
noncomputable def tw15631594777774356168:=t
noncomputable def tw4777206869767030891:=t
noncomputable def tw9634177916978074182:=t
noncomputable def tw14724211931280770517:=t
noncomputable def tw10945096255941238814:=t
noncomputable def tw6146759693005391837:=t
noncomputable def tw1591554005038213832:=t
noncomputable def tw12207264730863141008:=t
noncomputable def tw8824815647817271072:=t
noncomputable def tw13497216208893105324:=t
noncomputable def tw12447341851108987522:=t
noncomputable def tw6225980823869367342:=t
noncomputable def tw3671580558619628313:=t
noncomputable def tw14089718108994227464:=t
noncomputable def tw17040944278335483128:=t
noncomputable def tw1683262657918564238:=t
noncomputable def tw4196330483316798019:=t
noncomputable def tw4012906140095434909:=t
noncomputable def tw16699173492723881569:=t
noncomputable def tw931431959217691525:=t
noncomputable def tw7046340006615602504:=t
noncomputable def tw15480640662766912049:=t
noncomputable def tw12783581673032286185:=t
noncomputable def tw17871329117600674851:=t
noncomputable def tw18041888251478163076:=t
noncomputable def tw10164162655824274731:=t
noncomputable def tw14753688507655877772:=t
noncomputable def tw8679878256500893931:=t
noncomputable def tw12616010980584476034:=t
noncomputable def tw100118669567300770:=t
noncomputable def tw9382309596633443896:=t
noncomputable def tw4852610928823596243:=t
noncomputable def tw10954715998804283251:=t
noncomputable def tw17358412293665033306:=t
noncomputable def tw13134984750147211039:=t
noncomputable def tw2309435518754651525:=t
noncomputable def tw18331030016196954248:=t
noncomputable def tw3536012384395760073:=t
noncomputable def tw7561634364700620485:=t
noncomputable def tw1055894632271504958:=t
noncomputable def tw918472320826748024:=t
noncomputable def tw3964788659543900078:=t
noncomputable def tw5730205088194598271:=t
noncomputable def tw2168978524889488553:=t
noncomputable def tw17260856947023589224:=t
noncomputable def tw9729858687019674024:=t
noncomputable def tw2822946999645018473:=t
noncomputable def tw18140840498042799684:=t
noncomputable def tw17420423908861172442:=t
noncomputable def tw13627022955309725648:=t
noncomputable def tw6922991928913294000:=t
noncomputable def tw13215838172628585502:=t
noncomputable def tw7831825356443409506:=t
noncomputable def tw15885124664558046969:=t
noncomputable def tw14273289798978819241:=t
noncomputable def tw5910471276840850485:=t
noncomputable def tw6394563853334494414:=t
noncomputable def tw16955558379466397318:=t
noncomputable def tw8987452035986941234:=t
noncomputable def tw11893795482810744705:=t
noncomputable def tw10859455664679316958:=t
noncomputable def tw12273423823263031809:=t
noncomputable def tw15123679068047523867:=t
noncomputable def tw7628881994475445120:=t
noncomputable def tw6197924343043859018:=t
noncomputable def tw16838863442510859975:=t
noncomputable def tw14054301216085155238:=t
noncomputable def tw15417558992893031608:=t
noncomputable def tw9090468978862252923:=t
noncomputable def tw4133042253271950546:=t
noncomputable def tw7342532625388096438:=t
noncomputable def tw10890630052966846995:=t
noncomputable def tw2545469052618905232:=t
noncomputable def tw9796964872465824559:=t
noncomputable def tw14464328648519448146:=t
noncomputable def tw10719481554768715004:=t
noncomputable def tw310130924791349028:=t
noncomputable def tw18348628939576955940:=t
noncomputable def tw14989292702995265188:=t
noncomputable def tw16810837422150676547:=t
noncomputable def tw6093761579391723009:=t
noncomputable def tw7194369702657609187:=t
noncomputable def tw16404019271690977740:=t
noncomputable def tw5820814103043479314:=t
noncomputable def tw3990696259274672145:=t
noncomputable def tw5813293048778836163:=t
noncomputable def tw8782009895980758769:=t
noncomputable def tw4558258693988894851:=t
noncomputable def tw13508100899097363148:=t
noncomputable def tw618275733063440881:=t
noncomputable def tw14462024475437945603:=t
noncomputable def tw1219380383204602781:=t
noncomputable def tw11740974478601925682:=t
noncomputable def tw11550095708718274267:=t
noncomputable def tw4439526686617716413:=t
noncomputable def tw17973558295384482566:=t
noncomputable def tw3912346122436824515:=t
noncomputable def tw17228368282499720004:=t
noncomputable def tw10134963234844896270:=t
noncomputable def tw15086932772264024703:=t
noncomputable def tw2705984812623151014:=t
noncomputable def tw13653131824275492969:=t
noncomputable def tw12658105354497205248:=t
noncomputable def tw5502239342475433797:=t
noncomputable def tw15629386202001899339:=t
noncomputable def tw2442429229676133075:=t
noncomputable def tw6893132150240822971:=t
noncomputable def tw12962374156624750788:=t
noncomputable def tw17527939839173418309:=t
noncomputable def tw4235616659168785469:=t
noncomputable def tw2581755802423581182:=t
noncomputable def tw8162728272378415659:=t
noncomputable def tw5066780030445515726:=t
noncomputable def tw11026275993581599331:=t
noncomputable def tw235773094279747022:=t
noncomputable def tw65536428759623518:=t
noncomputable def tw10418956813310561581:=t
noncomputable def tw15888340423513405928:=t
noncomputable def tw2801390171765069437:=t
noncomputable def tw16641510549892486339:=t
noncomputable def tw13747134315093150020:=t
noncomputable def tw15770298328539179628:=t
noncomputable def tw3544934570805803969:=t
noncomputable def tw14153572663965620175:=t
noncomputable def tw12301363426823230027:=t
noncomputable def tw15811036602895946571:=t
noncomputable def tw13082589321323759308:=t
noncomputable def tw6255345284606981485:=t
noncomputable def tw16386225862002891559:=t
noncomputable def tw3545304095388296177:=t
noncomputable def tw10759701942349109:=t
noncomputable def tw10871165692333984189:=t
noncomputable def tw3603061602131498178:=t
noncomputable def tw1547505137421339697:=t
noncomputable def tw8430514518746219748:=t
noncomputable def tw17905771642642746467:=t
noncomputable def tw15644512323708992400:=t
noncomputable def tw3622269920169660409:=t
noncomputable def tw12370869505086321169:=t
noncomputable def tw9877406585559927014:=t
noncomputable def tw13176788438209235720:=t
noncomputable def tw1305622665470173664:=t
noncomputable def tw15033991905012195791:=t
noncomputable def tw6444551310158106497:=t
noncomputable def tw6267171192284079627:=t
noncomputable def tw15051229765979000017:=t
noncomputable def tw8966817986981641187:=t
noncomputable def tw13366843428885883056:=t
noncomputable def tw6081791007953436517:=t
noncomputable def tw10896476977377444405:=t
noncomputable def tw10593980180572908508:=t
noncomputable def tw10522482434410364127:=t
noncomputable def tw5153699909988497563:=t
noncomputable def tw1280976873751867040:=t
noncomputable def tw9369139846222227335:=t
noncomputable def tw12222055498179084340:=t
noncomputable def tw8978407738092084244:=t
noncomputable def tw1617983166810543777:=t
noncomputable def tw1281099194427111487:=t
noncomputable def tw6763029361781927536:=t
noncomputable def tw12575550343108102884:=t
noncomputable def tw327727854248370723:=t
noncomputable def tw18099304158123384924:=t
noncomputable def tw18164917144911101682:=t
noncomputable def tw2090225372129925913:=t
noncomputable def tw9599614556101514042:=t
noncomputable def tw10271299604429853448:=t
noncomputable def tw15824202763405132079:=t
noncomputable def tw6849062110664317552:=t
noncomputable def tw12554977623018824095:=t
noncomputable def tw7084684528005553447:=t
noncomputable def tw9912566932138230657:=t
noncomputable def tw5448802756322377616:=t
noncomputable def tw3638652958398688343:=t
noncomputable def tw16129797240179306493:=t
noncomputable def tw238127213839078609:=t
noncomputable def tw10733987105996390753:=t
noncomputable def tw5255988619855681056:=t
noncomputable def tw3508115128892931727:=t
noncomputable def tw11145135688363004909:=t
noncomputable def tw8467107009624774531:=t
noncomputable def tw6425425871952688022:=t
end PySem.W.Fast
open PySem PySem.W PyProof.Rows
set_option maxRecDepth 100000 in
set_option maxHeartbeats 0 in
theorem PySem.Challenge.cw_manypurses_k15_cuts_refused_holds : PySem.Challenge.rw_manypurses_k15_cuts_refused.Holds := by
  w_on; o_law; k_head; (case hw=>w_witness2)
  k_fill
  refine L2.j2n (l:=PySem.Challenge.rw_manypurses_k15_cuts_refused) (n:=63) (k:=12) (x := "_law_script") (CX:=L2.CX0) (sp:=M.jyz) rfl (by decide) rfl ⟨rfl,by decide,by decide⟩ (fun w h Y=>PySem.W.kIn_of Y) ?F ?S ?C
  case F=>
    intro w mg fa h KX G hmg
    refine' M.all_mk KX G hmg ..
    iterate 25 (show _ = _; k_is)
    iterate 2 (show _ = _; kernel_rfl)
    iterate 1 (show _ = _; k_is)
    iterate 2 (show _ = _; kernel_rfl)
    iterate 22 (show _ = _; k_is)
    iterate 2 (show _ = _; kernel_rfl)
    iterate 1 (show _ = _; k_is)
    iterate 1 (show _ = _; kernel_rfl)
    iterate 67 (show _ = _; k_is)
    iterate 1 (show _ = _; kernel_rfl)
    iterate 8 (show _ = _; k_is)
    iterate 1 (show _ = _; kernel_rfl)
    iterate 268 (show _ = _; k_is)
    iterate 3 (show _ = _; kernel_rfl)
    iterate 15 (show _ = _; k_is)
    iterate 5 (show _ = _; kernel_rfl)
    iterate 5 (show _ = _; k_is)
    iterate 5 (show _ = _; kernel_rfl)
    iterate 5 (show _ = _; k_is)
    iterate 4 (show _ = _; kernel_rfl)
    iterate 5 (show _ = _; k_is)
    iterate 5 (show _ = _; kernel_rfl)
    iterate 5 (show _ = _; k_is)
    iterate 5 (show _ = _; kernel_rfl)
    iterate 5 (show _ = _; k_is)
    iterate 4 (show _ = _; kernel_rfl)
    iterate 15 (show _ = _; k_is)
  case S=>exact fun K H a ns hl _ hS=>⟨a,ns,rfl,hS,hl,fun _=>rfl⟩
  case C=>exact fun _ _ _ _ z=>z
