import PyProof.Rows.All
import Wide.All
import OpenK.AllK
import Wide.FinOn
import Lean
import PyProof.EqAt
import PyProof.EqKinds
import PyProof.TupleCall
import PyProof.NeKinds
import PySem.Challenge.RW_manypurses_k07_whole_letters
open List (mem_filter mem_range filterMap_cons mem_cons_self mem_cons_of_mem mem_cons mem_append mem_append_left getElem?_set_self getElem?_set_ne mem_filterMap mem_append_right size_toArray length_cons map_cons length_map append_nil nodup_cons length_take getElem?_map mem_of_getElem? length_append length_replicate length_drop map_nil length_set any_cons replicate_succ flatten_cons foldl_cons find?_cons nodup_nil mem_map lookup_cons all_eq_true mem_singleton getElem?_eq_getElem length_range nodup_range getD_eq_getElem?_getD map_append mem_iff_getElem length_eraseIdx_le length_eq_one_iff map_set mem_map_of_mem nodup_append take_length length_erase_of_mem length_pos_of_mem length_filter_le filter_append map_map filter_nil)
open Nat (lt_of_lt_of_le lt_irrefl ne_of_lt le_trans le_of_lt le_refl zero_le lt_succ_self le_succ le_succ_of_le)
set_option Elab.async false
set_option genSizeOf false
set_option genInjectivity false
set_option linter.all false
set_option maxRecDepth 100000
noncomputable section
theorem aP (a:True:=by rfl)(b:True:=by decide)(c:True:=by intro _;rfl)(d:True:=by decide+kernel)(e:True:=by exact True.intro)(f:True:=by first|exact .inl rfl|exact .inr rfl|assumption)(g:True:=by intro vs H Q E h;repeat(first|(obtain⟨rfl,_⟩:=h;rfl)|(obtain⟨_,h⟩:=h)))(h:True:=by exact bY):True:=a
def aP1:=aP._auto_1
def aP2:=aP._auto_2
def aP3:=aP._auto_3
def aP4:=aP._auto_4
def aP5:=aP._auto_5
def aP6:=aP._auto_6
def aP7:=aP._auto_7
def aP8:=aP._auto_8
namespace L2
open PySem PySem.Spec PyProof.Rows
noncomputable abbrev Key:=Sum Int Str
noncomputable def mM:Key->Value->Bool
 | .inl k,v=>Value.isInt k v
 | .inr x,v=>Value.isStrOf x v
noncomputable def Ou (w:World):Key->Int
 | .inl k=>hashInt k
 | .inr x=>hashStr w x
theorem xm:∀{k:Key}{v:Value},mM k v=true->(∃i t,k=Sum.inl i/\v=Value.int i t)\/(∃x t,k=Sum.inr x/\v=Value.str x t)
 | .inl i,v,h=>by obtain⟨t,e⟩:=Value.isInt_shape (k:=i) (v:=v) h;exact .inl ⟨i,t,rfl,e⟩
 | .inr x,v,h=>by obtain⟨t,e⟩:=Value.isStrOf_shape (x:=x) (v:=v) h;exact .inr ⟨x,t,rfl,e⟩
theorem Ov (i:Int)(t:Tok):mM (.inl i) (.int i t)=true:=by simp[mM,Value.isInt]
theorem Ox (x:Str)(t:Tok):mM (.inr x) (.str x t)=true:=by simp[mM,Value.isStrOf]
theorem Oy (a b:Int):decide ((Sum.inl a:Key)=Sum.inl b)=(a==b):=by
 by_cases e:a=b
 .subst e;simp
 .have h:¬(Sum.inl a:Key)=Sum.inl b:=λq=>e (Sum.inl.inj q);rw[decide_eq_false h];exact(beq_eq_false_iff_ne.mpr e).symm
theorem Oz (a b:Str):decide ((Sum.inr a:Key)=Sum.inr b)=decide (a=b):=by
 by_cases e:a=b
 .subst e;simp
 .have h:¬(Sum.inr a:Key)=Sum.inr b:=λq=>e (Sum.inr.inj q);rw[decide_eq_false h,decide_eq_false e]
theorem OA (a:Int)(b:Str):decide ((Sum.inl a:Key)=Sum.inr b)=false:=decide_eq_false (λq=>nomatch q)
theorem OB (a:Str)(b:Int):decide ((Sum.inr a:Key)=Sum.inl b)=false:=decide_eq_false (λq=>nomatch q)
noncomputable def zf (prog:Program)(w:World):PySem.KeyKind prog w Key where
 is:=mM
 hash:=Ou w
 inj:=λv a b ha hb=>by
  rcases xm ha with⟨i,t,rfl,rfl⟩|⟨x,t,rfl,rfl⟩
  .rcases xm hb with⟨j,u,rfl,e⟩|⟨y,u,rfl,e⟩
   .injection e with e1 _;rw[e1]
   .exact nomatch e
  .rcases xm hb with⟨j,u,rfl,e⟩|⟨y,u,rfl,e⟩
   .exact nomatch e
   .injection e with e1 _;rw[e1]
 byValue:=λk v h=>by rcases xm h with⟨i,t,rfl,rfl⟩|⟨x,t,rfl,rfl⟩<;>rfl
 pyHash:=λhv h=>by
  rcases xm hv with⟨i,t,rfl,rfl⟩|⟨x,t,rfl,rfl⟩
  .exact wpAny_pyHash_int h
  .exact wpAny_pyHash_str h
 eqBool:=λhu hv h=>by
  rcases xm hu with⟨i,t,rfl,rfl⟩|⟨x,t,rfl,rfl⟩
  .rcases xm hv with⟨j,u,rfl,rfl⟩|⟨y,u,rfl,rfl⟩
   .rw[Oy]at h;exact wpAny_eqBool_int h
   .rw[OA]at h;exact SeqAt.EqAt.int_str i t y u _ _ _ _ h
  .rcases xm hv with⟨j,u,rfl,rfl⟩|⟨y,u,rfl,rfl⟩
   .rw[OB]at h;exact SeqAt.EqAt.str_int x t j u _ _ _ _ h
   .rw[Oz]at h;exact wpAny_eqBool_str h
 «strs»:=λk x t v h=>by
  rcases xm h with⟨i,u,rfl,e⟩|⟨y,u,rfl,e⟩
  .exact nomatch e
  .injection e with e1 _;subst e1;cases v<;>rfl
theorem OD (prog:Program)(w:World)(i:Int)(t:Tok):(zf prog w).is (.inl i) (.int i t)=true:=Ov i t
theorem OE (prog:Program)(w:World)(x:Str)(t:Tok):(zf prog w).is (.inr x) (.str x t)=true:=Ox x t
set_option genInjectivity true in
inductive V where
 | aq | bl (b:Bool) | int (i:Int) | str (x:Str) | eV (b:Array UInt8) | lJ (b:UInt64) | ref (a:Addr) | ty (n:String)
 deriving DecidableEq
noncomputable def RelV:V->Value->Prop
 | .aq,u=>u=Value.none
 | .bl b,u=>u=Value.bool b
 | .int i,u=>∃t,u=Value.int i t
 | .str x,u=>∃t,u=Value.str x t
 | .eV b,u=>∃t,u=Value.bytes b t
 | .lJ b,u=>∃t,u=Value.float b t
 | .ref a,u=>u=Value.ref a
 | .ty n,u=>u=Value.type n
noncomputable abbrev Vals:List V->List Value->Prop:=Paired RelV
theorem Vals.length {xs:List V}{us:List Value}(r:Vals xs us):xs.length=us.length:=Paired.length r
theorem Vals.get:∀{xs:List V}{us:List Value}{i:Nat}{x:V},Vals xs us->xs[i]?=some x->∃u,us[i]?=some u/\RelV x u
 |_,_,_,_,.nil,e=>by simp at e
 |_,_,0,_,.cons r _,e=>by simp at e;subst e;exact⟨_,rfl,r⟩
 |_,_,i+1,x,.cons _ t,e=>by obtain⟨u,h1,h2⟩:=Vals.get (i:=i) (x:=x) t (by simpa using e);exact⟨u,by simpa using h1,h2⟩
theorem Vals.set {x:V}{u:Value}(r:RelV x u):∀{xs:List V}{us:List Value}(i:Nat),Vals xs us->Vals (xs.set i x) (us.set i u)
 |_,_,_,.nil=>.nil
 |_,_,0,.cons _ t=>.cons r t
 |_,_,i+1,.cons q t=>.cons q (Vals.set r i t)
theorem Vals.append:∀{xs ys:List V}{us ws:List Value},Vals xs us->Vals ys ws->Vals (xs++ys) (us++ws)
 |_,_,_,_,.nil,s=>s
 |_,_,_,_,.cons r t,s=>.cons r (Vals.append t s)
theorem Vals.take:∀{xs:List V}{us:List Value}(n:Nat),Vals xs us->Vals (xs.take n) (us.take n)
 |_,_,0,_=>.nil
 |_,_,_+1,.nil=>.nil
 |_,_,n+1,.cons r t=>.cons r (Vals.take n t)
theorem Vals.drop:∀{xs:List V}{us:List Value}(n:Nat),Vals xs us->Vals (xs.drop n) (us.drop n)
 |_,_,0,r=>r
 |_,_,_+1,.nil=>.nil
 |_,_,n+1,.cons _ t=>Vals.drop n t
noncomputable def dI:Option V->Option Value->Prop
 |some v,some u=>RelV v u
 |none,none=>True
 |_,_=>False
noncomputable def KV {B:Type}:List (B×V)->List (B×Value)->Prop:=Paired λ(p:B×V)(q:B×Value)=>p.1=q.1/\RelV p.2 q.2
noncomputable def kV:Key->V
 | .inl i=>.int i
 | .inr x=>.str x
set_option genInjectivity true in
inductive HO where
  | lst (xs:List V)
  | tup (xs:List V)
  | dK (aa:List (Key × V)) | dT (aa:List (List Key × V))
  | set (S:Int -> Bool) (n:Nat)
  | ins (C dx:Addr) (fs:List (Str × V))
  | own (x:Addr)
  | xd (fs:List (Str × V))
  | met (f x:Addr)
  | vK (lo hi:Int)
  | aY (o:Obj) (u:HO)
  | lK (ps:Array Value)
  | ext (φ : Heap -> Prop)
noncomputable abbrev Hp:=Addr->Option HO
noncomputable def upd (H:Hp)(a:Addr)(o:HO):Hp:=λb=>if b=a then some o else H b
theorem ja {H:Hp}{a:Addr}{o:HO}:upd H a o a=some o:=by unfold upd;rw[if_pos rfl]
theorem jg {H:Hp}{a b:Addr}{o:HO}(h:b≠a):upd H a o b=H b:=by unfold upd;rw[if_neg h]
theorem Bg {H:Hp}{a:Addr}{o u:HO}:upd (upd H a o) a u=upd H a u:=by funext b;unfold upd;split<;>rfl
theorem iW {H:Hp}{a b:Addr}{o u:HO}(h:H a=some o)(h':H b=some u)(d:o≠u):a≠b:=by intro e;subst e;rw[h]at h';exact d (Option.some.inj h')
theorem jj {H:Hp}{a b:Addr}{o:HO}(h:H a=some o)(h':H b=none):a≠b:=by intro e;subst e;rw[h]at h';cases h'
section
variable (P:Program)(w:World)
noncomputable def wc (H:Hp)(h:Heap)(a:Addr):HO->Prop
 | .lst xs=>xs.length<=sizeLine/\∃(its:List Value)(n:Nat),Vals xs its/\h.get? a=some {cls:=.type "list",data:=.seq its.toArray n}
 | .tup xs=>xs.length<=sizeLine/\∃its:List Value,Vals xs its/\IsTup h a its.toArray
 | .dK aa=>aa.length<=sizeLine/\(a==sysModules)=false/\∃vs,KV aa vs/\h.DictOf (zf P w) a vs
 | .dT aa=>aa.length<=sizeLine/\(a==sysModules)=false/\∃xs:List (List Key×Addr×Value),Paired (λ(p:List Key×V)(q:List Key×Addr×Value)=>p.1=q.1/\H q.2.1=some (.tup (p.1.map kV))/\RelV p.2 q.2.2) aa xs/\∃o es ep,h.get? a=some o/\o.ExactDict/\o.data= .dict es ep/\es.toList=xs.map (entryOfKey (tupleKind (zf P w)))/\(xs.map (·.1)).Nodup
 | .set S n=>h.SetOf (intKind P w) a S n
 | .ins C dx fs=>H dx=some (.own a)/\fs.length<=1000/\dx≠a/\h.get? a=some (PySem.W.instObj C dx)/\∃mA,h.Ns1 dx mA/\(∀f,dI (fs.lookup f) (mA f))/\PySem.Within mA (fs.map (·.1))
 | .own _=>∃o,h.get? a=some o
 | .xd fs=>∃mA,h.Ns1 a mA/\∀f,dI (fs.lookup f) (mA f)
 | .vK lo hi=>∃t u v,h.get? a=some {cls:=.type "range",data:=.fields #[.int lo t,.int hi u,.int 1 v]}
 | .aY o u=>h.get? a=some o/\wc H h a u
 | .lK ps=>h.get? a=some {cls:=.none,data:=.fields ps}
 | .met f x=>h.get? a=some (PySem.W.methodObj (.ref f) (.ref x))
 | .ext φ=>φ h/\(∃o,h.get? a=some o)/\∀h1 h2:Heap,φ h1->(∀o,h1.get? a=some o->h2.get? a=some o)->φ h2
noncomputable def bI (H:Hp)(h:Heap):Prop:=∀a o,H a=some o->wc P w H h a o
end
section
variable {P:Program}{w:World}{H H':Hp}{h h':Heap}{a:Addr}{o:HO}
theorem wc.lt (x:wc P w H h a o):a<h.objs.size:=by
 cases o with
 |lst xs=>obtain⟨_,_,_,_,e⟩:=x;exact Heap.lt_size e
 |tup xs=>obtain⟨_,_,_,p⟩:=x;exact p.lt
 |dK aa=>obtain⟨_,_,_,_,o,_,_,e,_⟩:=x;exact Heap.lt_size e
 |dT aa=>obtain⟨_,_,_,_,o,_,_,e,_⟩:=x;exact Heap.lt_size e
 |set S n=>obtain⟨o,_,_,_,e,_⟩:=x;exact Heap.lt_size e
 |ins C dx fs=>obtain⟨_,_,_,e,_⟩:=x;exact Heap.lt_size e
 |own y=>obtain⟨_,e⟩:=x;exact Heap.lt_size e
 |xd fs=>obtain⟨_,⟨_,_,_,e,_⟩,_⟩:=x;exact Heap.lt_size e
 |vK lo hi=>obtain⟨_,_,_,e⟩:=x;exact Heap.lt_size e
 |aY ob u=>obtain⟨e,_⟩:=x;exact Heap.lt_size e
 |lK ps=>exact Heap.lt_size (show h.get? a=some _ from x)
 |met f y=>exact Heap.lt_size (show h.get? a=some _ from x)
 |ext φ=>obtain⟨_,⟨_,e⟩,_⟩:=x;exact Heap.lt_size e
theorem Paired.yf {α β:Type}{F G:α->β->Prop}:∀{mO:List α}{mP:List β},Paired F mO mP->(∀a b,F a b->G a b)->Paired G mO mP:=λ{mO mP} q f=>by
 induction q with
 |nil=>exact .nil
 |cons r t ih=>exact .cons (f _ _ r) ih
theorem wc.bZ (x:wc P w H h a o)(k:∀b u,(b=a\/H b=some (.own a))->h.get? b=some u->h'.get? b=some u)(ho:∀b,H b=some (.own a)->H' b=some (.own a))(ht:∀b xs,H b=some (.tup xs)->H' b=some (.tup xs)):wc P w H' h' a o:=by
 induction o with
 |lst xs=>obtain⟨z,its,n,r,e⟩:=x;exact⟨z,its,n,r,k _ _ (.inl rfl) e⟩
 |tup xs=>obtain⟨z,its,r,ob,e,c⟩:=x;exact⟨z,its,r,ob,k _ _ (.inl rfl) e,c⟩
 |dK aa=>obtain⟨z,y,vs,r,ob,es,ep,e,c⟩:=x;exact⟨z,y,vs,r,ob,es,ep,k _ _ (.inl rfl) e,c⟩
 |dT aa=>obtain⟨z,y,xs,r,ob,es,ep,e,c⟩:=x;exact⟨z,y,xs,Paired.yf r λp q z=>⟨z.1,ht _ _ z.2.1,z.2.2⟩,ob,es,ep,k _ _ (.inl rfl) e,c⟩
 |set S n=>obtain⟨ob,es,ep,t,e,c⟩:=x;exact⟨ob,es,ep,t,k _ _ (.inl rfl) e,c⟩
 |ins C dx fs=>obtain⟨d,z,ne,e,mA,⟨od,es,ep,e2,c⟩,r⟩:=x;exact⟨ho _ d,z,ne,k _ _ (.inl rfl) e,mA,⟨od,es,ep,k _ _ (.inr d) e2,c⟩,r⟩
 |own y=>obtain⟨ob,e⟩:=x;exact⟨ob,k _ _ (.inl rfl) e⟩
 |xd fs=>obtain⟨mA,⟨od,es,ep,e,c⟩,r⟩:=x;exact⟨mA,⟨od,es,ep,k _ _ (.inl rfl) e,c⟩,r⟩
 |vK lo hi=>obtain⟨t,u,v,e⟩:=x;exact⟨t,u,v,k _ _ (.inl rfl) e⟩
 |aY ob u ih=>obtain⟨e,q⟩:=x;exact⟨k _ _ (.inl rfl) e,ih q⟩
 |lK ps=>have e:h.get? a=some {cls:=.none,data:=.fields ps}:=x;show h'.get? a=some {cls:=.none,data:=.fields ps};exact k a _ (.inl rfl) e
 |met f y=>have e:h.get? a=some (PySem.W.methodObj (.ref f) (.ref y)):=x;show h'.get? a=some (PySem.W.methodObj (.ref f) (.ref y));exact k a _ (.inl rfl) e
 |ext φ=>obtain⟨p,⟨o,e⟩,st⟩:=x;exact⟨st _ _ p λo q=>k _ _ (.inl rfl) q,⟨o,k _ _ (.inl rfl) e⟩,st⟩
theorem bI.lt (x:bI P w H h)(e:H a=some o):a<h.objs.size:=(x a o e).lt
theorem bI.fresh (x:bI P w H h)(e:h.objs.size<=a):H a=none:=by
 cases q:H a with
 |none=>rfl
 |some u=>exact absurd (lt_of_lt_of_le (x.lt q) e) (lt_irrefl _)
theorem bI.kept (x:bI P w H h)(k:∀b u,h.get? b=some u->h'.get? b=some u):bI P w H h':=λa o e=>(x a o e).bZ (λb u _ q=>k b u q) (λ_ q=>q) λ_ _ q=>q
theorem bI.laid (x:bI P w H h)(k:∀b u,h.get? b=some u->h'.get? b=some u)(hp:h.objs.size<=a)(new:wc P w (upd H a o) h' a o):bI P w (upd H a o) h':=λb u e=>by
 have hn:=x.fresh hp;by_cases hb:b=a
 .subst hb;rw[ja]at e;cases e;exact new
 .rw[jg hb]at e;exact(x b u e).bZ (λc v _ q=>k c v q) (λc q=>by rw[jg (jj q hn)];exact q) λc xs q=>by rw[jg (jj q hn)];exact q
end
noncomputable def Rd (H:Hp)(a:Addr)(u:HO):Prop:=H a=some u\/∃o,H a=some (.aY o u)
theorem Rd.ok {P:Program}{w:World}{H:Hp}{h:Heap}{a:Addr}{u:HO}(r:Rd H a u)(x:bI P w H h):wc P w H h a u:=by
 rcases r with r|⟨o,r⟩
 .exact x a u r
 .obtain⟨_,q⟩:=x a _ r;exact q
noncomputable def hJ:Option HO->Prop
 |some (.lst _)=>True
 |some (.dK _)=>True
 |some (.dT _)=>True
 |some (.set _ _)=>True
 |some (.ins _ _ _)=>True
 |some (.ext _)=>True
 |_=>False
section
variable {P:Program}{w:World}{H:Hp}{h h':Heap}{x e:Addr}{o':HO}
theorem bI.write (ok:bI P w H h)(mu:hJ (H x))(he:e=x\/H e=some (.own x))(k:∀b u,b≠e->h.get? b=some u->h'.get? b=some u)(oH:∃u,h'.get? e=some u)(new:wc P w (upd H x o') h' x o'):bI P w (upd H x o') h':=λb u q=>by
 have qC:∀c y,H c=some (.own y)->c≠x:=λc y r z=>by subst z;rw[r]at mu;exact mu
 have Bh:∀c xs,H c=some (.tup xs)->c≠x:=λc xs r z=>by subst z;rw[r]at mu;exact mu
 by_cases hb:b=x
 .subst hb;rw[ja]at q;cases q;exact new
 .rw[jg hb]at q;by_cases iX:b=e
  .have q':H b=some (.own x):=by
    rcases he with z|z
    .exact absurd (iX.trans z) hb
    .rw[iX];exact z
   rw[q]at q';cases q';obtain⟨v,hv⟩:=oH;exact⟨v,by rw[iX];exact hv⟩
  .refine(ok b u q).bZ (λc v hc r=>k c v ?_ r) (λc r=>by rw[jg (qC c b r)];exact r) λc xs r=>by rw[jg (Bh c xs r)];exact r
   rcases hc with rfl|hc
   .exact iX
   .rintro rfl
    rcases he with z|z
    .exact qC c b hc z
    .rw[hc]at z;cases z;exact hb rfl
end
structure Un (fs ex:List Addr)(H H':Hp)(h h':Heap):Prop where
 keep:∀b o,h.get? b=some o->H b=none->b∉fs->b∉ex->h'.get? b=some o
 slot:∀b o,h.get? b=some o->H b=none->b∈fs->b∉ex->∃sl,h'.get? b=some {o with slots:=sl}
 free:∀b o,h.get? b=some o->H b=none->b∉ex->H' b=none
 there:∀b o,h.get? b=some o->b∉ex->∃o',h'.get? b=some o'
 dJ:∀b xs,H b=some (.tup xs)->H' b=some (.tup xs)
 dB:∀b o u,H b=some (.aY o u)->H' b=some (.aY o u)
 dW:∀b ps,H b=some (.lK ps)->∃more,H' b=some (.lK (ps++more))
section
variable {fs fs' ex vL:List Addr}{H H1 H2:Hp}{h h1 h2 h':Heap}{a x e:Addr}{o:HO}
theorem Un.any (u:Un fs ex H H1 h h1){b:Addr}{ob:Obj}(q:h.get? b=some ob)(n:H b=none)(hx:b∉ex):∃sl,h1.get? b=some {ob with slots:=sl}:=by
 by_cases hb:b∈fs
 .exact u.slot b ob q n hb hx
 .exact⟨ob.slots,u.keep b ob q n hb hx⟩
theorem Un.kept (k:∀b u,h.get? b=some u->h'.get? b=some u):Un fs ex H H h h':=⟨λb ob q _ _ _=>k b ob q,λb ob q _ _ _=>⟨ob.slots,k b ob q⟩,λ_ _ _ n _=>n,λb ob q _=>⟨ob,k b ob q⟩,λ_ _ q=>q,λ_ _ _ q=>q,λ_ ps q=>⟨#[],by rw[q];simp⟩⟩
theorem Un.refl:Un fs ex H H h h:=Un.kept λ_ _ q=>q
theorem Un.laid (k:∀b u,h.get? b=some u->h'.get? b=some u)(hp:h.objs.size<=a)(hn:H a=none):Un fs ex H (upd H a o) h h' where
 keep:=λb u q _ _ _=>k b u q
 slot:=λb u q _ _ _=>⟨u.slots,k b u q⟩
 free:=λb u q n _=>by rw[jg (ne_of_lt (lt_of_lt_of_le (Heap.lt_size q) hp))];exact n
 there:=λb u q _=>⟨u,k b u q⟩
 dJ:=λb xs q=>by rw[jg (jj q hn)];exact q
 dB:=λb u xs q=>by rw[jg (jj q hn)];exact q
 dW:=λb ps q=>⟨#[],by rw[jg (jj q hn),q];simp⟩
theorem Un.write (mu:hJ (H x))(he:e=x\/H e=some (.own x))(k:∀b u,b≠e->h.get? b=some u->h'.get? b=some u)(oH:∃u,h'.get? e=some u):Un fs ex H (upd H x o) h h':=by
 have hx:∀b,H b=none->b≠x:=λb n z=>by subst z;rw[n]at mu;exact mu
 have hb:∀b,H b=none->b≠e:=λb n z=>by
  subst z;rcases he with r|r
  .exact hx b n r
  .rw[n]at r;cases r
 have hm:∀b u,H b=some u->¬hJ (some u)->b≠x:=λb u q nm z=>by subst z;rw[q]at mu;exact nm mu
 refine⟨λb u q n _ _=>k b u (hb b n) q,λb u q n _ _=>⟨u.slots,k b u (hb b n) q⟩,λb u q n _=>by rw[jg (hx b n)];exact n,λb u q _=>?_,λb xs q=>by rw[jg (hm b _ q λz=>z)];exact q,λb u xs q=>by rw[jg (hm b _ q λz=>z)];exact q,λb ps q=>⟨#[],by rw[jg (hm b _ q λz=>z),q];simp⟩⟩;by_cases iX:b=e
 .subst iX;exact oH
 .exact⟨u,k b u iX q⟩
end
noncomputable def kB (h:Heap)(H:Hp):List Addr:=(List.range h.objs.size).filter λa=>(H a).isSome
noncomputable def kC (h:Heap)(H:Hp):Heap:=PySem.W.hideAll h (kB h H)
theorem OF (h:Heap)(H:Hp):(kC h H).objs.size=h.objs.size:=PySem.W.hideAll_size _ _
theorem OH {h:Heap}{H:Hp}{b:Addr}{o:Obj}(e:h.get? b=some o)(n:H b=none):(kC h H).get? b=some o:=PySem.W.hideAll_get _ e λhm=>by have q:(H b).isSome=true:=(mem_filter.mp hm).2;rw[n]at q;simp at q
theorem OI {h:Heap}{H:Hp}{b:Addr}{o:Obj}(e:(kC h H).get? b=some o):h.get? b=some o/\H b=none:=by
 have e':h.get? b=some o:=PySem.W.of_hideAll (kB h H) e;refine⟨e',?_⟩;cases q:H b with
 |none=>rfl
 |some x=>have hm:b∈kB h H:=mem_filter.mpr ⟨mem_range.mpr (Heap.lt_size e'),by simp[q]⟩;have z:(kC h H).get? b=none:=PySem.W.hideAll_none (kB h H) hm;rw[z]at e;cases e
structure Mod (K:PySem.W.Frag)(mg:Str->Option Value)(base:Heap):Prop where
 eK:K.In base
 glob:base.Ns mainGlobals mg
 blt:∃mb,base.Ns builtinsNs mb/\∀x:Str,x≠"__name__"->mb x=bootBuiltins x
 nolimit:base.NoLimit
structure Cx where
 prog:Program
 w:World
 K:PySem.W.Frag
 mg:Str->Option Value
 base:Heap
 A:Around
 N:List Str
 au:Shared
 bD:Hp
 env:Env
 outer:List Env
 stack:List Env
 ex:List Addr
 fn:Str->Bool
 calm:Bool
 pn:List (Addr×Obj)
 xe:Value->Shared->Prop
noncomputable def bp (l:List Env):List Addr:=l.filterMap (·.frame)
noncomputable abbrev Cx.fs (X:Cx):List Addr:=bp X.outer
noncomputable def qD (sc:Scope)(x:Str):Prop:=sc.names.lookup x=some .local\/sc.names.lookup x=some .cell\/sc.names.lookup x=some .free
noncomputable def Loc (sc:Scope)(x:Str):Prop:=sc.names.lookup x=some .local\/sc.names.lookup x=some .cell
noncomputable def Look (env:Env)(h:Heap)(m:Str->Option Value)(x:Str)(u:Value):Prop:=(env.kindOf x=some .local/\m x=some u)\/((env.kindOf x=some .cell\/env.kindOf x=some .free)/\∃c,env.cells.lookup x=some c/\h.IsCell c (some u))
structure Cx.Ok (X:Cx):Prop where
 mod:Mod X.K X.mg X.base
 kind:X.env.scope.kind= .function
 glob:X.env.globals=mainGlobals
 blt:X.env.builtins=builtinsNs
 above:X.au.heap.objs.size<=X.env.locals
 inj:∀x y c,X.env.cells.lookup x=some c->X.env.cells.lookup y=some c->x=y
 has:∀x,(X.env.kindOf x=some .cell\/X.env.kindOf x=some .free)->∃c,X.env.cells.lookup x=some c
 mQ:∀x c,X.fn x=true->X.env.cells.lookup x=some c->X.au.heap.objs.size<=c
 hd:X.calm=true->X.A.handled=none
 frames:X.A.frames=some X.stack
 cU:X.stack=X.outer\/(X.stack=X.env::X.outer/\X.env.frame=some X.env.locals)
 vM:∀b∈X.ex,b≠X.env.locals/\∀x c,X.env.cells.lookup x=some c->c≠b
 bs:∀b o,X.base.get? b=some o->X.au.heap.get? b=some o/\X.bD b=none
 iY:X.base.objs.size<=X.au.heap.objs.size
 mR:∀b o,X.base.get? b=some o->b∉X.ex
 oJ:∀b∈X.ex,b∉X.fs
 eL:X.au.heap.FunFrames X.base X.outer
 hU:∀b∈X.fs,X.bD b=none
structure Inv (X:Cx)(pins:List (Addr×Obj))(U:List (Option V))(H:Hp)(s:Shared):Prop where
 ok:X.Ok
 os:s.os=X.au.os
 bare:AllBare s.gens
 base:Un X.fs X.ex X.bD H X.au.heap s.heap
 loc:∃m,s.heap.Ns X.env.locals m/\∀(i:Nat)(x:Str)(v:V),X.N[i]?=some x->U[i]?=some (some v)->qD X.env.scope x->∃u,RelV v u/\Look X.env s.heap m x u
 cell:∀x c,X.env.cells.lookup x=some c->∃v,s.heap.IsCell c v
 free:H X.env.locals=none
 dC:∀x c,X.env.cells.lookup x=some c->H c=none
 pin:∀p∈X.pn++pins,s.heap.get? p.1=some p.2/\H p.1=none/\p.1≠X.env.locals/\p.1∉X.fs/\∀v,p.2.data≠.cell v
 ah:bI X.prog X.w H s.heap
 len:U.length=X.N.length
section
variable {X:Cx}{pins:List (Addr×Obj)}{U:List (Option V)}{H H':Hp}{s:Shared}{h':Heap}
theorem Cx.Ok.OJ (ok:X.Ok){b:Addr}{o:Obj}(e:X.base.get? b=some o):b∉X.fs:=λhb=>by have:=(ok.eL.mem hb).1;rw[e]at this;cases this
theorem Inv.bs (I:Inv X pins U H s):∀b o,X.base.get? b=some o->s.heap.get? b=some o/\H b=none:=λb o e=>⟨I.base.keep b o (I.ok.bs b o e).1 (I.ok.bs b o e).2 (I.ok.OJ e) (I.ok.mR b o e),I.base.free b o (I.ok.bs b o e).1 (I.ok.bs b o e).2 (I.ok.mR b o e)⟩
theorem Inv.bk (I:Inv X pins U H s):∀b o,X.base.get? b=some o->s.heap.get? b=some o:=λb o e=>(I.bs b o e).1
theorem Inv.mod (I:Inv X pins U H s):Mod X.K X.mg X.base:=I.ok.mod
theorem Inv.aT (I:Inv X pins U H s):X.K.In s.heap:=I.ok.mod.eK.keeps I.bk
theorem Inv.lt (I:Inv X pins U H s):X.env.locals<s.heap.objs.size:=let⟨_,hn,_⟩:=I.loc;hn.lt
theorem Inv.sz (I:Inv X pins U H s):X.au.heap.objs.size<=s.heap.objs.size:=le_trans I.ok.above (le_of_lt I.lt)
theorem Inv.HU (I:Inv X pins U H s){a:Addr}(h:s.heap.objs.size<=a):a∉X.fs:=λhb=>by obtain⟨_,o,ho,_⟩:=I.ok.eL.mem hb;exact absurd (lt_of_lt_of_le (Heap.lt_size ho) (le_trans I.sz h)) (lt_irrefl _)
theorem Inv.hV (I:Inv X pins U H s):∀x c,X.env.cells.lookup x=some c->c≠X.env.locals:=λx c e z=>by obtain⟨v,o,ho,hd⟩:=I.cell x c e;obtain⟨m,⟨o',es,ep,bL,cV,_⟩,_⟩:=I.loc;rw[z,bL]at ho;cases ho;rw[cV]at hd;cases hd
theorem Inv.eL (I:Inv X pins U H s):s.heap.FunFrames X.base X.outer:=by
 have all:∀(l:List Env),(∀b∈bp l,b∈X.fs)->X.au.heap.FunFrames X.base l->s.heap.FunFrames X.base l:=by
  intro l;induction l with
  |nil=>intro _ _;trivial
  |cons env r ih=>intro hs hl;obtain⟨hk,⟨L,o,hf,hn,ho,hd⟩,hr⟩:=hl;have hL:L∈X.fs:=hs L (by unfold bp;rw[filterMap_cons,hf];exact mem_cons_self);obtain⟨sl,e⟩:=I.base.slot L o ho (I.ok.hU L hL) hL λz=>I.ok.oJ L z hL;exact⟨hk,⟨L,_,hf,hn,e,hd⟩,ih (λb hb=>hs b (by unfold bp;rw[filterMap_cons,hf];exact mem_cons_of_mem _ hb)) hr⟩
 exact all X.outer (λ_ hb=>hb) I.ok.eL
theorem Inv.stack (I:Inv X pins U H s):s.heap.FunFrames X.base X.stack:=by
 rcases I.ok.cU with e|⟨e,hf⟩
 .rw[e];exact I.eL
 .rw[e];obtain⟨m,hn,_⟩:=I.loc;refine .cons (by rw[I.ok.kind];decide) hf hn ?_ I.eL;exact Heap.get?_none_of_le (le_trans I.ok.iY I.ok.above)
theorem Inv.mS (I:Inv X pins U H s):∀b∈bp X.stack,b∈X.env.locals::X.fs:=λb hb=>by
 rcases I.ok.cU with e|⟨e,hf⟩
 .rw[e]at hb;exact mem_cons_of_mem _ hb
 .rw[e]at hb;unfold bp at hb;rw[filterMap_cons,hf]at hb;exact hb
theorem Inv.vN (I:Inv X pins U H s):∀b∈bp X.stack,H b=none:=λb hb=>by
 rcases mem_cons.mp (I.mS b hb)with e|hb
 .rw[e];exact I.free
 .obtain⟨_,o,ho,_⟩:=I.ok.eL.mem hb;exact I.base.free b o ho (I.ok.hU b hb) λz=>I.ok.oJ b z hb
theorem Inv.step {g':Array GenState}{t':Nat}{d':Drawn}{ch:List Addr}(I:Inv X pins U H s)(iZ:∀b∈ch,(b∈X.ex\/X.au.heap.objs.size<=b)/\b≠X.env.locals/\(∀x c,X.env.cells.lookup x=some c->c≠b)/\∀p∈X.pn++pins,p.1≠b)(keep:∀b o,b≠X.env.locals->b∉X.fs->b∉ch->s.heap.get? b=some o->H b=none->h'.get? b=some o)(slot:∀b o,b≠X.env.locals->b∈X.fs->b∉ch->s.heap.get? b=some o->H b=none->∃sl,h'.get? b=some {o with slots:=sl})(free:∀b o,b∉ch->s.heap.get? b=some o->H b=none->H' b=none)(there:∀b o,b∉ch->s.heap.get? b=some o->∃o',h'.get? b=some o')(dJ:∀b xs,H b=some (.tup xs)->H' b=some (.tup xs))(dB:∀b o u,H b=some (.aY o u)->H' b=some (.aY o u))(dW:∀b ps,H b=some (.lK ps)->∃more,H' b=some (.lK (ps++more)))(ns:∀m,s.heap.Ns X.env.locals m->h'.Ns X.env.locals m)(ah:bI X.prog X.w H' h')(hg:AllBare g'):
  Inv X pins U H' {s with heap:=h',gens:=g',drawn:=d',toks:=t'}:=by
 have HV:∀b o,X.au.heap.get? b=some o->b≠X.env.locals:=λb o e=>ne_of_lt (lt_of_lt_of_le (Heap.lt_size e) I.ok.above);have vO:∀b o,X.au.heap.get? b=some o->b∉X.ex->b∉ch:=λb o e hx hb=>by
  rcases(iZ b hb).1 with z|z
  .exact hx z
  .exact absurd (lt_of_lt_of_le (Heap.lt_size e) z) (lt_irrefl _)
 have cellK:∀x c,X.env.cells.lookup x=some c->∀v,s.heap.IsCell c v->h'.IsCell c v:=λx c e v ⟨o,ho,hd⟩=>by
  have i0:c∉ch:=λz=>(iZ c z).2.2.1 x c e rfl;by_cases hc:c∈X.fs
  .obtain⟨sl,q⟩:=slot c o (I.hV x c e) hc i0 ho (I.dC x c e);exact⟨_,q,hd⟩
  .exact⟨o,keep c o (I.hV x c e) hc i0 ho (I.dC x c e),hd⟩
 refine⟨I.ok,I.os,hg,⟨λb o e n hb hx=>?_,λb o e n hb hx=>?_,λb o e n hx=>?_,λb o e hx=>?_,λb xs e=>dJ b xs (I.base.dJ b xs e),λb o xs e=>dB b o xs (I.base.dB b o xs e),λb ps e=>?_⟩,?_,λx c e=>?_,?_,λx c e=>?_,λp hp=>?_,ah,I.len⟩
 .exact keep b o (HV b o e) hb (vO b o e hx) (I.base.keep b o e n hb hx) (I.base.free b o e n hx)
 .obtain⟨sl,e1⟩:=I.base.slot b o e n hb hx;obtain⟨mT,e2⟩:=slot b _ (HV b o e) hb (vO b o e hx) e1 (I.base.free b o e n hx);exact⟨mT,e2⟩
 .obtain⟨o',e1⟩:=I.base.there b o e hx;exact free b o' (vO b o e hx) e1 (I.base.free b o e n hx)
 .obtain⟨o',e1⟩:=I.base.there b o e hx;exact there b o' (vO b o e hx) e1
 .obtain⟨m1,e1⟩:=I.base.dW b ps e;obtain⟨m2,e2⟩:=dW b _ e1;exact⟨m1++m2,by rw[e2,Array.append_assoc]⟩
 .obtain⟨m,hn,hl⟩:=I.loc;refine⟨m,ns m hn,λi x v e1 e2 e3=>?_⟩;obtain⟨u,r,l⟩:=hl i x v e1 e2 e3;refine⟨u,r,?_⟩;rcases l with l|⟨k,c,e,z⟩
  .exact .inl l
  .exact .inr ⟨k,c,e,cellK x c e _ z⟩
 .obtain⟨v,z⟩:=I.cell x c e;exact⟨v,cellK x c e v z⟩
 .obtain⟨m,⟨o,_,_,ho,_⟩,_⟩:=I.loc;exact free _ o (λz=>(iZ _ z).2.1 rfl) ho I.free
 .obtain⟨v,o,ho,hd⟩:=I.cell x c e;exact free c o (λz=>(iZ c z).2.2.1 x c e rfl) ho (I.dC x c e)
 .obtain⟨e,n,ne,nf,d⟩:=I.pin p hp;have i0:p.1∉ch:=λz=>(iZ p.1 z).2.2.2 p hp rfl;exact⟨keep p.1 p.2 ne nf i0 e n,free p.1 p.2 i0 e n,ne,nf,d⟩
theorem Inv.un {t':Nat}(I:Inv X pins U H s)(u:Un X.fs [] H H' s.heap h')(ah:bI X.prog X.w H' h'):Inv X pins U H' {s with heap:=h',toks:=t'}:=by
 obtain⟨m,⟨o,es,ep,ho,r⟩,_⟩:=id I.loc;obtain⟨sl,hL⟩:=u.any ho I.free (by simp);exact I.step (g':=s.gens) (d':=s.drawn) (ch:=[]) (λ_ z=>nomatch z) (λb o _ hb _ e n=>u.keep b o e n hb (by simp)) (λb o _ hb _ e n=>u.slot b o e n hb (by simp)) (λb o _ e n=>u.free b o e n (by simp)) (λb o _ e=>u.there b o e (by simp)) u.dJ u.dB u.dW (λm' hm=>by obtain⟨o',eN,eW,bL,r'⟩:=hm;rw[ho]at bL;cases bL;exact⟨_,eN,eW,hL,r'⟩) ah I.bare
theorem Inv.call {g':Array GenState}{t':Nat}{d':Drawn}{ch:List Addr}(I:Inv X pins U H s)(u:Un (bp X.stack) ch H H' s.heap h')(ah:bI X.prog X.w H' h')(hg:AllBare g')(iZ:∀b∈ch,(b∈X.ex\/X.au.heap.objs.size<=b)/\b≠X.env.locals/\(∀x c,X.env.cells.lookup x=some c->c≠b)/\∀p∈X.pn++pins,p.1≠b):
  Inv X pins U H' {s with heap:=h',gens:=g',drawn:=d',toks:=t'}:=by
 obtain⟨m,⟨o,es,ep,ho,r⟩,_⟩:=id I.loc;obtain⟨sl,hL⟩:=u.any ho I.free λz=>(iZ _ z).2.1 rfl;exact I.step (ch:=ch) iZ (λb o hL hb hc e n=>u.keep b o e n (λz=>(mem_cons.mp (I.mS b z)).elim hL hb) hc) (λb o _ _ hc e n=>u.any e n hc) (λb o hc e n=>u.free b o e n hc) (λb o hc e=>u.there b o e hc) u.dJ u.dB u.dW (λm' hm=>by obtain⟨o',eN,eW,bL,r'⟩:=hm;rw[ho]at bL;cases bL;exact⟨_,eN,eW,hL,r'⟩) ah hg
theorem Inv.turned {t':Nat}{it:Addr}(I:Inv X pins U H s)(k:∀b o,b≠it->s.heap.get? b=some o->h'.get? b=some o)(hn:H it=none)(hL:it≠X.env.locals)(h1:it∈X.ex\/X.au.heap.objs.size<=it)(h2:∀x c,X.env.cells.lookup x=some c->c≠it)(h3:∀p∈X.pn++pins,p.1≠it):Inv X pins U H {s with heap:=h',toks:=t'}:=by
 have HW:∀b u,H b=some u->b≠it:=λb u e z=>by rw[z,hn]at e;cases e
 refine I.step (g':=s.gens) (d':=s.drawn) (ch:=[it]) (λb hb=>?_) (λb o _ _ hc e _=>k b o (λz=>hc (by simp[z])) e) (λb o _ _ hc e _=>⟨o.slots,k b o (λz=>hc (by simp[z])) e⟩) (λ_ _ _ _ n=>n) (λb o hc e=>⟨o,k b o (λz=>hc (by simp[z])) e⟩) (λ_ _ e=>e) (λ_ _ _ e=>e) (λb ps e=>⟨#[],by rw[e];simp⟩) (λm hm=>?_) (λb u e=>?_) I.bare
 .have e:b=it:=by simpa using hb
  subst e;exact⟨h1,hL,h2,h3⟩
 .obtain⟨o,es,ep,ho,r⟩:=hm;exact⟨o,es,ep,k _ o (Ne.symm hL) ho,r⟩
 .refine(I.ah b u e).bZ (λc v hc q=>k c v ?_ q) (λ_ q=>q) λ_ _ q=>q;rcases hc with z|z
  .rw[z];exact HW b u e
  .exact HW c _ z
theorem Inv.tok (I:Inv X pins U H s)(t:Nat):Inv X pins U H {s with toks:=t}:=I.un (h':=s.heap) (t':=t) Un.refl I.ah
theorem Inv.kept {t':Nat}(I:Inv X pins U H s)(k:∀b u,s.heap.get? b=some u->h'.get? b=some u):Inv X pins U H {s with heap:=h',toks:=t'}:=I.un (Un.kept k) (I.ah.kept k)
theorem Inv.laid {a:Addr}{o:HO}{t':Nat}(I:Inv X pins U H s)(k:∀b u,s.heap.get? b=some u->h'.get? b=some u)(hp:s.heap.objs.size<=a)(new:wc X.prog X.w (upd H a o) h' a o):Inv X pins U (upd H a o) {s with heap:=h',toks:=t'}:=I.un (Un.laid k hp (I.ah.fresh hp)) (I.ah.laid k hp new)
theorem Inv.write {x e:Addr}{o:HO}{t':Nat}(I:Inv X pins U H s)(mu:hJ (H x))(he:e=x\/H e=some (.own x))(k:∀b u,b≠e->s.heap.get? b=some u->h'.get? b=some u)(oH:∃u,h'.get? e=some u)(new:wc X.prog X.w (upd H x o) h' x o):Inv X pins U (upd H x o) {s with heap:=h',toks:=t'}:=I.un (Un.write mu he k oH) (I.ah.write mu he k oH new)
theorem Inv.vP {bG:List (Addr×Obj)}(I:Inv X pins U H s)(h:∀p∈bG,s.heap.get? p.1=some p.2/\H p.1=none/\p.1≠X.env.locals/\p.1∉X.fs/\∀v,p.2.data≠.cell v):Inv X bG U H s:=⟨I.ok,I.os,I.bare,I.base,I.loc,I.cell,I.free,I.dC,λp hp=>(mem_append.mp hp).elim (λz=>I.pin p (mem_append_left _ z)) (h p),I.ah,I.len⟩
theorem Bj {N:List Str}(hN:N.Nodup){i j:Nat}{x:Str}(a:N[i]?=some x)(b:N[j]?=some x):i=j:=by obtain⟨h1,e1⟩:=List.getElem?_eq_some_iff.mp a;obtain⟨h2,e2⟩:=List.getElem?_eq_some_iff.mp b;exact(List.getElem_inj hN).mp (e1.trans e2.symm)
theorem HZ {M:Model}{A:Around}{E:Value->Shared->Prop}{i:Nat}{x:Str}{v:V}{u:Value}{Q:Unit->Shared->Prop}(I:Inv X pins U H s)(hN:X.N.Nodup)(hi:X.N[i]?=some x)(hx:Loc X.env.scope x)(r:RelV v u)(h:∀s',Inv X pins (U.set i (some v)) H s'->(∃a,Heap.SameBut a s.heap s'.heap/\(a=X.env.locals\/X.env.cells.lookup x=some a))->Q () s')(hf:autoParam (X.fn x=true\/X.env.scope.names.lookup x=some .local) aP6):wpAny M A (storeName X.env x u) Q E s:=by
 obtain⟨m,hn,hl⟩:=id I.loc;have Bk:(X.env.scope.kind== .class||(X.env.scope.kind== .module&&X.env.locals != X.env.globals))=false:=by rw[I.ok.kind];rfl
 have oK:i<U.length:=by rw[I.len];exact(List.getElem?_eq_some_iff.mp hi).1
 have hV:=I.hV;have tracked:∀{a:Addr}{h':Heap},(∃o,s.heap.get? a=some o/\H a=none)->Heap.SameBut a s.heap h'->bI X.prog X.w H h':=λ{a h'} ha hs b ob e=>by
  obtain⟨_,_,lM⟩:=ha;refine(I.ah b ob e).bZ (λc w' hc q=>(hs.2 c ?_).trans q) (λ_ q=>q) λ_ _ q=>q
  rintro rfl
  rcases hc with rfl|hc
  .rw[lM]at e;cases e
  .rw[lM]at hc;cases hc
 rcases hx with hk|hk
 .refine wpAny_storeName_local hk hn (λh' lN hs=>?_) Bk;obtain⟨oL,_,_,Ia,_⟩:=id hn;refine h _ ⟨I.ok,I.os,I.bare,⟨λb o e n hb hx=>?_,λb o e n hb hx=>?_,I.base.free,λb o e hx=>?_,I.base.dJ,I.base.dB,I.base.dW⟩,⟨_,lN,λj y v' e1 e2 e3=>?_⟩,λy c e=>?_,I.free,I.dC,λp hp=>?_,tracked ⟨oL,Ia,I.free⟩ hs,by simpa using I.len⟩ ⟨_,hs,.inl rfl⟩
  .exact(hs.2 b (ne_of_lt (lt_of_lt_of_le (Heap.lt_size e) I.ok.above))).trans (I.base.keep b o e n hb hx)
  .obtain⟨sl,e1⟩:=I.base.slot b o e n hb hx;exact⟨sl,(hs.2 b (ne_of_lt (lt_of_lt_of_le (Heap.lt_size e) I.ok.above))).trans e1⟩
  .obtain⟨o',e1⟩:=I.base.there b o e hx;exact⟨o',(hs.2 b (ne_of_lt (lt_of_lt_of_le (Heap.lt_size e) I.ok.above))).trans e1⟩
  .by_cases hj:j=i
   .subst hj;rw[hi]at e1;cases e1;rw[getElem?_set_self oK]at e2;cases e2;exact⟨u,r,.inl ⟨hk,by simp⟩⟩
   .rw[getElem?_set_ne (Ne.symm hj)]at e2;obtain⟨u',r',q⟩:=hl j y v' e1 e2 e3;refine⟨u',r',?_⟩;rcases q with⟨k,e⟩|⟨k,c,e,z⟩
    .refine .inl ⟨k,?_⟩;have:y≠x:=λe=>hj (Bj hN e1 (e ▸ hi));simp[this,e]
    .exact .inr ⟨k,c,e,z.sameBut hs (hV y c e)⟩
  .obtain⟨w',z⟩:=I.cell y c e;exact⟨w',z.sameBut hs (hV y c e)⟩
  .obtain⟨e,n,ne,nf,d⟩:=I.pin p hp;exact⟨(hs.2 p.1 ne).trans e,n,ne,nf,d⟩
 .have Bl:X.fn x=true:=by
   rcases hf with z|z
   .exact z
   .rw[z]at hk;cases hk
  obtain⟨c,hc⟩:=I.ok.has x (.inl hk);obtain⟨w',z⟩:=I.cell x c hc;refine wpAny_storeName_cell I.ok.kind hk hc z (λh' i3 hs=>?_);obtain⟨oc,vQ,Bm⟩:=id z;refine h {s with heap:=h'} ⟨I.ok,I.os,I.bare,⟨λb o e n hb hx=>?_,λb o e n hb hx=>?_,I.base.free,λb o e hx=>?_,I.base.dJ,I.base.dB,I.base.dW⟩,⟨m,hn.sameBut hs (Ne.symm (hV x c hc)),λj y v' e1 e2 e3=>?_⟩,λy c' e=>?_,I.free,I.dC,λp hp=>?_,tracked ⟨oc,vQ,I.dC x c hc⟩ hs,by simpa using I.len⟩ ⟨c,hs,.inr hc⟩
  .exact(hs.2 b (ne_of_lt (lt_of_lt_of_le (Heap.lt_size e) (I.ok.mQ x c Bl hc)))).trans (I.base.keep b o e n hb hx)
  .obtain⟨sl,e1⟩:=I.base.slot b o e n hb hx;exact⟨sl,(hs.2 b (ne_of_lt (lt_of_lt_of_le (Heap.lt_size e) (I.ok.mQ x c Bl hc)))).trans e1⟩
  .obtain⟨o',e1⟩:=I.base.there b o e hx;exact⟨o',(hs.2 b (ne_of_lt (lt_of_lt_of_le (Heap.lt_size e) (I.ok.mQ x c Bl hc)))).trans e1⟩
  .by_cases hj:j=i
   .subst hj;rw[hi]at e1;cases e1;rw[getElem?_set_self oK]at e2;cases e2;exact⟨u,r,.inr ⟨.inl hk,c,hc,i3⟩⟩
   .rw[getElem?_set_ne (Ne.symm hj)]at e2;obtain⟨u',r',q⟩:=hl j y v' e1 e2 e3;refine⟨u',r',?_⟩;rcases q with q|⟨k,c',e,z'⟩
    .exact .inl q
    .refine .inr ⟨k,c',e,z'.sameBut hs ?_⟩
     rintro rfl
     exact hj (Bj hN e1 (I.ok.inj _ _ _ e hc ▸ hi))
  .by_cases Ib:c'=c
   .subst Ib;exact⟨_,i3⟩
   .obtain⟨w2,z2⟩:=I.cell y c' e;exact⟨w2,z2.sameBut hs Ib⟩
  .obtain⟨e,n,ne,nf,d⟩:=I.pin p hp;refine⟨(hs.2 p.1 ?_).trans e,n,ne,nf,d⟩;intro q;rw[q,vQ]at e;have q':oc=p.2:=Option.some.inj e;exact d w' (by rw[<-q'];exact Bm)
theorem vR {M:Model}{A:Around}{E:Value->Shared->Prop}{i:Nat}{x:Str}{v:V}{u:Value}{Q:Unit->Shared->Prop}(I:Inv X pins U H s)(hN:X.N.Nodup)(hi:X.N[i]?=some x)(hx:Loc X.env.scope x)(r:RelV v u)(h:∀s',Inv X pins (U.set i (some v)) H s'->Q () s')(hf:autoParam (X.fn x=true\/X.env.scope.names.lookup x=some .local) aP6):wpAny M A (storeName X.env x u) Q E s:=
 HZ I hN hi hx r (λs' I' _=>h s' I') hf
theorem Inv.Bn {s':Shared}{ch:List Addr}(I:Inv X pins U H s)(ho:s'.os=s.os)(u:Un (bp X.stack) ch H H' s.heap s'.heap)(ah:bI X.prog X.w H' s'.heap)(hg:AllBare s'.gens)(iZ:∀b∈ch,(b∈X.ex\/X.au.heap.objs.size<=b)/\b≠X.env.locals/\(∀x c,X.env.cells.lookup x=some c->c≠b)/\∀p∈X.pn++pins,p.1≠b):Inv X pins U H' s':=by
 obtain⟨h',g',d',t',o'⟩:=s';have e:o'=s.os:=ho;subst e;exact I.call (g':=g') (t':=t') (d':=d') u ah hg iZ
end
noncomputable abbrev XK:=Value->Option Addr->Hp->Prop
noncomputable abbrev St:=List (Option V)
noncomputable abbrev VK:=V->Hp->Prop
noncomputable abbrev TE:=St->Hp->VK->Prop
noncomputable abbrev TT:=St->Hp->(Bool->Hp->Prop)->Prop
noncomputable abbrev TA:=St->Hp->(List V->Hp->Prop)->Prop
structure Ends where
 nx:St->Hp->Prop
 rt:VK
 bk:St->Hp->Prop:=λ_ _=>False
 ct:St->Hp->Prop:=λ_ _=>False
noncomputable abbrev TS:=Ends->St->Hp->Prop
noncomputable def EP (X:Cx)(pins:List (Addr×Obj))(U:St)(Q:VK)(u:Value)(s':Shared):Prop:=∃v H',Inv X pins U H' s'/\RelV v u/\Q v H'
noncomputable def TP (X:Cx)(pins:List (Addr×Obj))(U:St)(Q:Bool->Hp->Prop)(b:Bool)(s':Shared):Prop:=∃H',Inv X pins U H' s'/\Q b H'
noncomputable def AP (X:Cx)(pins:List (Addr×Obj))(U:St)(Q:List V->Hp->Prop)(us:List Value)(s':Shared):Prop:=∃vs H',Inv X pins U H' s'/\Vals vs us/\Q vs H'
noncomputable def SP (X:Cx)(pins:List (Addr×Obj))(D:Ends)(f:Flow)(s':Shared):Prop:=match f with
 | .next=>∃U' H',Inv X pins U' H' s'/\D.nx U' H'
 | .brk=>∃U' H',Inv X pins U' H' s'/\D.bk U' H'
 | .cont=>∃U' H',Inv X pins U' H' s'/\D.ct U' H'
 | .ret u=>∃v U' H',Inv X pins U' H' s'/\RelV v u/\D.rt v H'
noncomputable def PE (X:Cx)(e:Expr)(t:TE):Prop:=∀(pins:List (Addr×Obj))(s:Shared)(U:St)(H:Hp)(Q:VK),Inv X pins U H s->t U H Q->wpAny (model X.prog X.w) X.A (eval e X.env) (EP X pins U Q) X.xe s
noncomputable def PT (X:Cx)(e:Expr)(t:TT):Prop:=∀(pins:List (Addr×Obj))(s:Shared)(U:St)(H:Hp)(Q:Bool->Hp->Prop),Inv X pins U H s->t U H Q->wpAny (model X.prog X.w) X.A (isTrue e X.env (eval e X.env)) (TP X pins U Q) X.xe s
noncomputable def PW (X:Cx)(e:Expr)(t:TT):Prop:=∀(whole:Sem Value)(pins:List (Addr×Obj))(s:Shared)(U:St)(H:Hp)(Q:Bool->Hp->Prop),Inv X pins U H s->t U H Q->wpAny (model X.prog X.w) X.A (isTrue e X.env whole) (TP X pins U Q) X.xe s
theorem PW.pt {X:Cx}{e:Expr}{t:TT}(h:PW X e t):PT X e t:=h _
noncomputable def PA (X:Cx)(es:List Expr)(t:TA):Prop:=∀(pos:Pos)(pins:List (Addr×Obj))(s:Shared)(U:St)(H:Hp)(Q:List V->Hp->Prop),Inv X pins U H s->t U H Q->wpAny (model X.prog X.w) X.A (spliced (backTo pos (starEach es X.env))) (AP X pins U Q) X.xe s
noncomputable def PS (X:Cx)(st:Stmt)(t:TS):Prop:=∀(pins:List (Addr×Obj))(s:Shared)(U:St)(H:Hp)(D:Ends),Inv X pins U H s->t D U H->wpAny (model X.prog X.w) X.A (exec st X.env) (SP X pins D) X.xe s
noncomputable def cL (X:Cx)(st:List Stmt)(t:TS):Prop:=∀(pins:List (Addr×Obj))(s:Shared)(U:St)(H:Hp)(D:Ends),Inv X pins U H s->t D U H->wpAny (model X.prog X.w) X.A (execs st X.env) (SP X pins D) X.xe s
theorem ai {α:Type}{t:Sem α}{Q Q':α->Shared->Prop}{M:Model}{A:Around}{E:Value->Shared->Prop}{s:Shared}(h:wpAny M A t Q E s)(hQ:∀a s,Q a s->Q' a s):wpAny M A t Q' E s:=wpAny_mono h hQ λ_ _ x=>x
section
variable {X:Cx}
theorem bin {a b:Expr}{ta tb:TE}(ha:PE X a ta)(hb:PE X b tb){pins:List (Addr×Obj)}{s:Shared}{U:St}{H:Hp}{R:V->V->Hp->Prop}(I:Inv X pins U H s)(h:ta U H λx H1=>tb U H1 λy H2=>R x y H2){α:Type}{Q:α->Shared->Prop}{f:Value->Value->Sem α}(hf:∀v u s2 x y H2,Inv X pins U H2 s2->RelV x v->RelV y u->R x y H2->wpAny (model X.prog X.w) X.A (f v u) Q X.xe s2):
  wpAny (model X.prog X.w) X.A (eval a X.env) (λv aj=>wpAny (model X.prog X.w) X.A (eval b X.env) (λu ae=>wpAny (model X.prog X.w) X.A (f v u) Q X.xe ae) X.xe aj) X.xe s:=by
 refine ai (ha pins s U H _ I h) λv s1 zQ=>?_;obtain⟨x,H1,I1,r1,q1⟩:=zQ;refine ai (hb pins s1 U H1 _ I1 q1) λu s2 zQ=>?_;obtain⟨y,H2,I2,r2,q2⟩:=zQ;exact hf v u s2 x y H2 I2 r1 r2 q2
noncomputable def i4 (i:Nat):TE:=λU H Q=>∃v,U[i]?=some (some v)/\Q v H
noncomputable def tC (v:V):TE:=λ_ H Q=>Q v H
theorem OK {i:Nat}{x:Str}{pos:Pos}(hN:X.N[i]?=some x)(hv:qD X.env.scope x)(hd:autoParam ((x==("__debug__":Str))=false) aP2)(dX:autoParam ((x==("__classdict__":Str))=false) aP2):PE X (.Name x pos) (i4 i):=by
 intro pins s U H Q I h;obtain⟨v,e,h⟩:=h;obtain⟨m,hn,hl⟩:=I.loc;obtain⟨u,r,l⟩:=hl i x v hN e hv;have fin:EP X pins U Q u s:=⟨v,H,I,r,h⟩;rcases l with⟨hk,hm⟩|⟨hk,c,hc,dm⟩
 .exact wpAny_Name (wpAny_loadName_local I.ok.kind hk hn hm fin) hd
 .rcases hk with hk|hk
  .exact wpAny_Name (wpAny_loadName_cell I.ok.kind hk hc dm fin) hd
  .exact wpAny_Name (wpAny_loadName_free I.ok.kind hk hc dm fin dX) hd
theorem jh {i j pos}:PE X (.Constant (.int i) j pos) (tC (.int i)):=λ_ _ _ H _ I h=>wpAny_Constant_int ⟨.int i,H,I.tok _,⟨_,rfl⟩,h⟩
theorem fB {b j pos}:PE X (.Constant (.bool b) j pos) (tC (.bl b)):=λ_ _ _ H _ I h=>Constant_bool ⟨.bl b,H,I,rfl,h⟩
theorem qE {j pos}:PE X (.Constant .none j pos) (tC .aq):=λ_ _ _ H _ I h=>Constant_none ⟨.aq,H,I,rfl,h⟩
theorem wd {x j pos}:PE X (.Constant (.str x) j pos) (tC (.str x)):=λ_ _ _ H _ I h=>Calls.Constant_str ⟨.str x,H,I.tok _,⟨_,rfl⟩,h⟩
noncomputable def Gl (X:Cx)(x:Str):Prop:=X.env.kindOf x=some .globalImplicit
theorem lO {E:Value->Shared->Prop}{pins:List (Addr×Obj)}{s:Shared}{U:St}{H:Hp}{x:Str}{u:Value}{pos:Pos}{Q:Value->Shared->Prop}(I:Inv X pins U H s)(hg:Gl X x)(hm:X.mg x=some u)(h:Q u s)(hd:autoParam ((x==("__debug__":Str))=false) aP2):wpAny (model X.prog X.w) X.A (eval (.Name x pos) X.env) Q E s:=
 Calls.Name_function_global I.ok.kind hg (Calls.loadGlobal_global (by rw[I.ok.glob];exact I.mod.glob.keeps I.bk) hm h) hd
theorem vS {E:Value->Shared->Prop}{pins:List (Addr×Obj)}{s:Shared}{U:St}{H:Hp}{x:Str}{u:Value}{pos:Pos}{Q:Value->Shared->Prop}(I:Inv X pins U H s)(hg:Gl X x)(hm:X.mg x=none)(hv:bootBuiltins x=some u)(h:Q u s)(hn:autoParam (x≠"__name__") aP2)(hd:autoParam ((x==("__debug__":Str))=false) aP2):wpAny (model X.prog X.w) X.A (eval (.Name x pos) X.env) Q E s:=by
 obtain⟨mb,h1,h2⟩:=I.mod.blt;exact Calls.Name_function_global I.ok.kind hg (Calls.loadGlobal_builtin (by rw[I.ok.glob];exact I.mod.glob.keeps I.bk) hm (by rw[I.ok.blt];exact h1.keeps I.bk) ((h2 x hn).trans hv) h) hd
theorem zk {x:Str}{v:V}{u:Value}{pos:Pos}(hg:Gl X x)(hm:X.mg x=some u)(r:RelV v u)(hd:autoParam ((x==("__debug__":Str))=false) aP2):PE X (.Name x pos) (tC v):=λ_ _ _ H _ I h=>lO I hg hm ⟨v,H,I,r,h⟩ hd
theorem lP {x:Str}{v:V}{u:Value}{pos:Pos}(hg:Gl X x)(hm:X.mg x=none)(hv:bootBuiltins x=some u)(r:RelV v u)(hn:autoParam (x≠"__name__") aP2)(hd:autoParam ((x==("__debug__":Str))=false) aP2):PE X (.Name x pos) (tC v):=λ_ _ _ H _ I h=>vS I hg hm hv ⟨v,H,I,r,h⟩ hn hd
variable {a b:Expr}{ta tb:TE}{pos:Pos}
noncomputable def PC (X:Cx)(op:CmpOp)(a b:Expr)(t:TE):Prop:=∀(pins:List (Addr×Obj))(s:Shared)(U:St)(H:Hp)(Q:VK),Inv X pins U H s->t U H Q->wpAny (model X.prog X.w) X.A (eval a X.env) (λv aj=>wpAny (model X.prog X.w) X.A (eval b X.env) (λu ae=>wpAny (model X.prog X.w) X.A (compareOp op v u) (EP X pins U Q) X.xe ae) X.xe aj) X.xe s
noncomputable def tB (t:TE):TT:=λU H Q=>t U H λx H1=>∃c,x= .bl c/\Q c H1
theorem qF {op:CmpOp}{t:TE}(h:PC X op a b t)(h1:behindInMarks op b=false:=by first|exact qG _ (by decide) (by decide)|rfl):PT X (.Compare a [op] [b] pos) (tB t):=by intro pins s U H Q I hw;refine wpAny_isTrue_Compare1 (ai (h pins s U H _ I hw) λv s1 h1=>ai h1 λu s2 h2=>ai h2 λc s3 zQ=>?_) h1;obtain⟨x,H1,I1,r1,q1⟩:=zQ;obtain⟨d,rfl,q⟩:=q1;cases r1;exact wpAny_truthy_bool ⟨H1,I1,q⟩
theorem xc {e:Expr}{t:TE}(h:PE X e t)(he:autoParam (∀whole,isTrue e X.env whole=(do let v<-whole;standAt e.pos;holding [v] (truthy v))) aP3):PT X e (tB t):=by intro pins s U H Q I hw;refine isTrue_plain (ai (h pins s U H _ I hw) λv s1 zQ=>?_) (he _);obtain⟨x,H1,I1,r1,q1⟩:=zQ;obtain⟨d,rfl,q⟩:=q1;cases r1;exact wpAny_truthy_bool ⟨H1,I1,q⟩
variable {tA vT:TT}{rest:List Expr}
noncomputable def Ic (t u:TT):TT:=λU H Q=>t U H λc H1=>if c=true then u U H1 Q else Q false H1
noncomputable def OL (t u:TT):TT:=λU H Q=>t U H λc H1=>if c=true then Q true H1 else u U H1 Q
noncomputable def OM (t:TT):TT:=λU H Q=>t U H λc H1=>Q (!c) H1
theorem kD (ha:PT X a tA):PW X (.BoolOp .And [a] pos) tA:=by
 intro wh pins s U H Q I h;refine isTrue_and (ai (ha pins s U H Q I h) λc s1 e=>?_);cases c with
 |true=>exact isTrue_and_nil e
 |false=>exact e
theorem fR (ha:PT X a tA):PW X (.BoolOp .Or [a] pos) tA:=by
 intro wh pins s U H Q I h;refine isTrue_or (ai (ha pins s U H Q I h) λc s1 e=>?_);cases c with
 |false=>exact isTrue_or_nil e
 |true=>exact e
theorem hZ (ha:PT X a tA)(hb:PW X (.BoolOp .And (b::rest) pos) vT):PW X (.BoolOp .And (a::b::rest) pos) (Ic tA vT):=by
 intro wh pins s U H Q I h;refine isTrue_and (ai (ha pins s U H _ I h) λc s1 zQ=>?_);obtain⟨H1,I1,q1⟩:=zQ;cases c with
 |true=>exact hb wh pins s1 U H1 Q I1 q1
 |false=>exact⟨H1,I1,q1⟩
theorem eX (ha:PT X a tA)(hb:PW X (.BoolOp .Or (b::rest) pos) vT):PW X (.BoolOp .Or (a::b::rest) pos) (OL tA vT):=by
 intro wh pins s U H Q I h;refine isTrue_or (ai (ha pins s U H _ I h) λc s1 zQ=>?_);obtain⟨H1,I1,q1⟩:=zQ;cases c with
 |true=>exact⟨H1,I1,q1⟩
 |false=>exact hb wh pins s1 U H1 Q I1 q1
theorem yt (ha:PT X a tA):PT X (.UnaryOp .Not a pos) (OM tA):=by intro pins s U H Q I h;exact isTrue_not (ha pins s U H (λc H1=>Q (!c) H1) I h)
noncomputable def ON (ta tb:TE):TE:=λU H Q=>ta U H λx H1=>∃c,x= .bl c/\if c=true then tb U H1 Q else Q (.bl false) H1
noncomputable def OO (ta:TE):TE:=λU H Q=>ta U H λx H1=>∃c,x= .bl c/\Q (.bl (!c)) H1
theorem oM {op}{t:TE}(h:PE X a t):PE X (.BoolOp op [a] pos) t:=λpins s U H Q I hw=>BoolOp_one (h pins s U H Q I hw)
theorem mU (ha:PE X a ta)(hb:PE X (.BoolOp .And (b::rest) pos) tb):PE X (.BoolOp .And (a::b::rest) pos) (ON ta tb):=by
 intro pins s U H Q I h;refine BoolOp_and (ai (ha pins s U H _ I h) λv s1 zQ=>?_);obtain⟨x,H1,I1,r1,q1⟩:=zQ;obtain⟨c,rfl,q1⟩:=q1;cases r1;refine wpAny_truthy_bool ?_;cases c with
 |true=>exact hb pins s1 U H1 Q I1 q1
 |false=>exact⟨.bl false,H1,I1,rfl,q1⟩
theorem OP (ha:PE X a ta):PE X (.UnaryOp .Not a pos) (OO ta):=by intro pins s U H Q I h;refine UnaryOp_ (ai (ha pins s U H _ I h) λv s1 zQ=>?_);obtain⟨x,H1,I1,r1,q1⟩:=zQ;obtain⟨c,rfl,q1⟩:=q1;cases r1;exact not_of (wpAny_truthy_bool ⟨.bl (!c),H1,I1,rfl,q1⟩)
noncomputable def OQ (t:TT)(ta tb:TE):TE:=λU H Q=>t U H λc H1=>if c=true then ta U H1 Q else tb U H1 Q
theorem Ie {c:Expr}(hc:PT X c tA)(ha:PE X a ta)(hb:PE X b tb):PE X (.IfExp c a b pos) (OQ tA ta tb):=by
 intro pins s U H Q I h;refine wpAny_IfExp (ai (hc pins s U H _ I h) λd s1 zQ=>?_);obtain⟨H1,I1,q1⟩:=zQ;cases d with
 |true=>exact ha pins s1 U H1 Q I1 q1
 |false=>exact hb pins s1 U H1 Q I1 q1
end
noncomputable def af (K:PySem.W.Frag)(H:Hp)(a:Addr)(xs:List V):Prop:=Rd H a (.lst xs)\/∃(o:Obj)(its:Array Value)(n:Nat),K.lookup a=some o/\o.cls= .type "list"/\o.dict=none/\o.data= .seq its n/\its.size<=sizeLine/\Vals xs its.toList
noncomputable def ay (K:PySem.W.Frag)(H:Hp)(a:Addr)(xs:List V):Prop:=Rd H a (.tup xs)\/∃(o:Obj)(its:Array Value)(n:Nat),K.lookup a=some o/\o.cls= .type "tuple"/\o.data= .seq its n/\its.size<=sizeLine/\Vals xs its.toList
noncomputable def OR:Value->Option V
 | .none=>some .aq
 | .bool b=>some (.bl b)
 | .int i _=>some (.int i)
 | .str x _=>some (.str x)
 | .bytes b _=>some (.eV b)
 | .float b _=>some (.lJ b)
 | .ref a=>some (.ref a)
 | .type n=>some (.ty n)
 |_=>none
theorem RelV.abs {x:V}{u:Value}(r:RelV x u):OR u=some x:=by
 cases x with
 |aq=>cases r;rfl
 |bl _=>cases r;rfl
 |int _=>obtain⟨t,rfl⟩:=r;rfl
 |str _=>obtain⟨t,rfl⟩:=r;rfl
 |eV _=>obtain⟨t,rfl⟩:=r;rfl
 |lJ _=>obtain⟨t,rfl⟩:=r;rfl
 |ref _=>cases r;rfl
 |ty _=>cases r;rfl
theorem RelV.inj {x y:V}{u:Value}(r:RelV x u)(q:RelV y u):x=y:=Option.some.inj (r.abs.symm.trans q.abs)
theorem Vals.inj:∀{xs ys:List V}{us:List Value},Vals xs us->Vals ys us->xs=ys:=λ{xs ys us} p q=>by
 induction p generalizing ys with
 |nil=>cases q;rfl
 |cons r t ih=>
  cases q with
  |cons r' t'=>rw[r.inj r',ih t']
section
variable {X:Cx}{pins:List (Addr×Obj)}{U:St}{H:Hp}{s:Shared}{a:Addr}{xs ys:List V}
theorem af.of {K:PySem.W.Frag}(h:H a=some (.lst xs)):af K H a xs:=.inl (.inl h)
theorem ay.of {K:PySem.W.Frag}(h:H a=some (.tup xs)):ay K H a xs:=.inl (.inl h)
theorem Inv.list (I:Inv X pins U H s)(h:af X.K H a xs):∃its:List Value,Vals xs its/\PlainL s.heap a its.toArray/\xs.length<=sizeLine:=by
 rcases h with h|⟨o,its,n,hk,hc,hd,hs,hz,r⟩
 .obtain⟨z,its,n,r,e⟩:=h.ok I.ah;exact⟨its,r,⟨_,n,e,rfl,rfl,rfl⟩,z⟩
 .refine⟨its.toList,r,⟨o,n,I.aT a o hk,hc,hd,by simpa using hs⟩,?_⟩;have e:=r.length;simp only[Array.length_toList]at e;lia
theorem Inv.tuple (I:Inv X pins U H s)(h:ay X.K H a xs):∃its:List Value,Vals xs its/\IsTup s.heap a its.toArray/\xs.length<=sizeLine:=by
 rcases h with h|⟨o,its,n,hk,hc,hs,hz,r⟩
 .obtain⟨z,its,r,p⟩:=h.ok I.ah;exact⟨its,r,p,z⟩
 .refine⟨its.toList,r,⟨o,I.aT a o hk,hc,n,by simpa using hs⟩,?_⟩;have e:=r.length;simp only[Array.length_toList]at e;lia
theorem Inv.Ig (I:Inv X pins U H s)(h:af X.K H a xs)(h':af X.K H a ys):xs=ys:=by
 obtain⟨its,r,⟨o,n,e,_,_,d⟩,_⟩:=I.list h;obtain⟨its',r',⟨o',n',e',_,_,d'⟩,_⟩:=I.list h';rw[e]at e';cases e';rw[d]at d';injection d' with d1 _;have:its=its':=by simpa using congrArg Array.toList d1
 subst this;exact r.inj r'
theorem Inv.Bo (I:Inv X pins U H s)(h:ay X.K H a xs)(h':ay X.K H a ys):xs=ys:=by
 obtain⟨its,r,⟨o,e,_,n,d⟩,_⟩:=I.tuple h;obtain⟨its',r',⟨o',e',_,n',d'⟩,_⟩:=I.tuple h';rw[e]at e';cases e';rw[d]at d';injection d' with d1 _;have:its=its':=by simpa using congrArg Array.toList d1
 subst this;exact r.inj r'
end
noncomputable abbrev Cx.i5 (X:Cx)(E:Value->Shared->Prop):Cx:={X with xe:=E}
noncomputable abbrev Cx.oN (X:Cx):Cx:=X.i5 λ_ _=>False
theorem Cx.Ok.i5 {X:Cx}(ok:X.Ok)(E:Value->Shared->Prop):(X.i5 E).Ok:=⟨ok.mod,ok.kind,ok.glob,ok.blt,ok.above,ok.inj,ok.has,ok.mQ,ok.hd,ok.frames,ok.cU,ok.vM,ok.bs,ok.iY,ok.mR,ok.oJ,ok.eL,ok.hU⟩
theorem Cx.Ok.lQ {X:Cx}{E:Value->Shared->Prop}(ok:(X.i5 E).Ok):X.Ok:=⟨ok.mod,ok.kind,ok.glob,ok.blt,ok.above,ok.inj,ok.has,ok.mQ,ok.hd,ok.frames,ok.cU,ok.vM,ok.bs,ok.iY,ok.mR,ok.oJ,ok.eL,ok.hU⟩
section
variable {X:Cx}{pins:List (Addr×Obj)}{U:St}{H:Hp}{s:Shared}{E:Value->Shared->Prop}
theorem Inv.i5 (I:Inv X pins U H s)(E:Value->Shared->Prop):Inv (X.i5 E) pins U H s:=⟨I.ok.i5 E,I.os,I.bare,I.base,I.loc,I.cell,I.free,I.dC,I.pin,I.ah,I.len⟩
theorem Inv.lQ (I:Inv (X.i5 E) pins U H s):Inv X pins U H s:=⟨I.ok.lQ,I.os,I.bare,I.base,I.loc,I.cell,I.free,I.dC,I.pin,I.ah,I.len⟩
theorem SP.lQ {D:Ends}{f:Flow}{s':Shared}(h:SP (X.i5 E) pins D f s'):SP X pins D f s':=by
 cases f with
 |next=>obtain⟨U',H',I,q⟩:=h;exact⟨U',H',I.lQ,q⟩
 |brk=>obtain⟨U',H',I,q⟩:=h;exact⟨U',H',I.lQ,q⟩
 |cont=>obtain⟨U',H',I,q⟩:=h;exact⟨U',H',I.lQ,q⟩
 |ret u=>obtain⟨v,U',H',I,r,q⟩:=h;exact⟨v,U',H',I.lQ,r,q⟩
theorem cL.oN {st:List Stmt}{t:TS}(h:cL X.oN st t):cL X st t:=λpins s U H D I hw=>wpAny_mono (h pins s U H D (I.i5 _) hw) (λ_ _ q=>q.lQ) λ_ _ z=>False.elim z
end
section
variable {X:Cx}{st:Stmt}{rest:List Stmt}{t u:TS}{e:Expr}{te:TE}{pos:Pos}
noncomputable def Ih:TS:=λD U H=>D.nx U H
noncomputable def Ii (t u:TS):TS:=λD U H=>t {D with nx:=u D} U H
theorem j6:cL X [] Ih:=λ_ _ U H _ I h=>wpAny_execs_nil ⟨U,H,I,h⟩
theorem jb (h1:PS X st t)(h2:cL X rest u):cL X (st::rest) (Ii t u):=by
 intro pins s U H D I h;refine wpAny_execs_cons (ai (h1 pins s U H {D with nx:=u D} I h) λf s1 q=>?_);cases f with
 |next=>obtain⟨U',H',I',q⟩:=q;exact h2 pins s1 U' H' D I' q
 |ret v=>exact q
 |brk=>exact q
 |cont=>exact q
theorem jd (h1:PS X st t):cL X [st] t:=by
 intro pins s U H D I h;refine wpAny_execs_cons (ai (h1 pins s U H D I h) λf s1 q=>?_);cases f with
 |next=>exact wpAny_execs_nil q
 |ret v=>exact q
 |brk=>exact q
 |cont=>exact q
theorem Inv.quiet {pins:List (Addr×Obj)}{U:St}{H:Hp}{s:Shared}(I:Inv X pins U H s):interactive X.env=false:=by simp[interactive,I.ok.kind]
noncomputable def Ij (te:TE):TS:=λD U H=>te U H λ_ H1=>D.nx U H1
theorem qb (he:PE X e te)(hs:autoParam (swapsWith e none pos.line X.env=pure false) aP1):PS X (.Expr e pos) (Ij te):=by intro pins s U H D I h;exact wpAny_Expr_any (ai (he pins s U H _ I h) λv s1 ⟨x,H1,I1,r1,q1⟩=>⟨U,H1,I1,q1⟩) I.quiet hs
noncomputable def OS (te:TE):TS:=λD U H=>te U H D.rt
theorem j5 (he:PE X e te):PS X (.Return (some e) pos) (OS te):=by intro pins s U H D I h;exact wpAny_Return_some (ai (he pins s U H _ I h) λv s1 ⟨x,H1,I1,r1,q1⟩=>⟨x,U,H1,I1,r1,q1⟩)
noncomputable def Bp (c:TT)(t u:TS):TS:=λD U H=>c U H λb H1=>if b=true then t D U H1 else u D U H1
theorem zh {c:Expr}{a b:List Stmt}{tc:TT}(hc:PT X c tc)(ha:cL X a t)(hb:cL X b u):PS X (.If c a b pos) (Bp tc t u):=by
 intro pins s U H D I h;refine wpAny_If (ai (hc pins s U H _ I h) λd s1 zQ=>?_);obtain⟨H1,I1,q1⟩:=zQ;cases d with
 |true=>exact ha pins s1 U H1 D I1 q1
 |false=>exact hb pins s1 U H1 D I1 q1
noncomputable def Ik:TS:=λ_ _ _=>False
theorem OT:PS X st Ik:=λ_ _ _ _ _ _ h=>h.elim
theorem zg {OU:List Stmt}:cL X OU Ik:=λ_ _ _ _ _ _ h=>h.elim
end
noncomputable abbrev TG:=V->St->Hp->(St->Hp->Prop)->Prop
noncomputable abbrev mV:=List V->St->Hp->(St->Hp->Prop)->Prop
noncomputable def PG (X:Cx)(target:Expr)(t:TG):Prop:=∀(pins:List (Addr×Obj))(s:Shared)(U:St)(H:Hp)(v:V)(u:Value)(Q:St->Hp->Prop),Inv X pins U H s->RelV v u->t v U H Q->wpAny (model X.prog X.w) X.A (assign target X.env u) (λ_ s'=>∃U' H',Inv X pins U' H' s'/\Q U' H') X.xe s
noncomputable def vU (X:Cx)(ts:List Expr)(t:mV):Prop:=∀(pins:List (Addr×Obj))(s:Shared)(U:St)(H:Hp)(vs:List V)(us:List Value)(Q:St->Hp->Prop),Inv X pins U H s->Vals vs us->t vs U H Q->wpAny (model X.prog X.w) X.A (assignInOrder ((assignEach ts X.env).map (·.2)) us) (λ_ s'=>∃U' H',Inv X pins U' H' s'/\Q U' H') X.xe s
noncomputable abbrev qH:=V->V->V->Hp->(Hp->Prop)->Prop
noncomputable def Br (X:Cx)(t:qH):Prop:=∀(pins:List (Addr×Obj))(s:Shared)(U:St)(H:Hp)(o i v:V)(ov iv u:Value)(Q:Hp->Prop),Inv X pins U H s->RelV o ov->RelV i iv->RelV v u->t o i v H Q->wpAny (model X.prog X.w) X.A (setItem ov iv u) (λ_ s'=>∃H',Inv X pins U H' s'/\Q H') X.xe s
noncomputable abbrev vV:=V->V->Hp->VK->Prop
noncomputable def Bs (X:Cx)(op:Operator)(t:vV):Prop:=∀(pins:List (Addr×Obj))(s:Shared)(U:St)(H:Hp)(x y:V)(v u:Value)(Q:VK),Inv X pins U H s->RelV x v->RelV y u->t x y H Q->wpAny (model X.prog X.w) X.A (inplaceOp op v u) (EP X pins U Q) X.xe s
section
variable {X:Cx}{pos:Pos}
noncomputable def fC (i:Nat):TG:=λv U H Q=>Q (U.set i (some v)) H
theorem jw {i:Nat}{x:Str}(hN:X.N.Nodup)(hi:X.N[i]?=some x)(hx:Loc X.env.scope x)(hf:autoParam (X.fn x=true\/X.env.scope.names.lookup x=some .local) aP6):PG X (.Name x pos) (fC i):=by intro pins s U H v u Q I r h;exact wpAny_assign_Name (vR I hN hi hx r (λs' I'=>⟨_,H,I',h⟩) hf)
noncomputable def OV:mV:=λvs U H Q=>vs=[]/\Q U H
noncomputable def OW (t:TG)(u:mV):mV:=λvs U H Q=>∃v r,vs=v::r/\t v U H λU' H'=>u r U' H' Q
theorem lR:vU X [] OV:=by intro pins s U H vs us Q I r h;obtain⟨e,h⟩:=h;subst e;cases r;exact assignInOrder_nil ⟨U,H,I,h⟩
theorem j8 {e:Expr}{es:List Expr}{t:TG}{u:mV}(h1:PG X e t)(h2:vU X es u)(hs:autoParam ((assignEach (e::es) X.env).map (·.2)=assign e X.env::(assignEach es X.env).map (·.2)) aP1):vU X (e::es) (OW t u):=by
 intro pins s U H vs us Q I r h;obtain⟨v,vr,e1,h⟩:=h;subst e1;cases r with
 |cons r rr=>rw[hs];refine assignInOrder_cons (ai (h1 pins s U H _ _ _ I r h) λ_ s1 zQ=>?_);obtain⟨U1,H1,I1,q1⟩:=zQ;exact h2 pins s1 U1 H1 _ _ Q I1 rr q1
noncomputable def OX (K:PySem.W.Frag)(n:Nat)(t:mV):TG:=λv U H Q=>∃a xs,v= .ref a/\ay K H a xs/\xs.length=n/\t xs U H Q
theorem lS {es:List Expr}{k:Nat}{t:mV}{n:Nat}(hc:X.calm=true)(h:vU X es t)(hn:autoParam ((assignEach es X.env).length=n) aP1)(i6:autoParam ((assignEach es X.env).findIdx? (·.1)=none) aP1):PG X (.Tuple es k pos) (OX X.K n t):=by
 intro pins s U H v u Q I r hw;obtain⟨a,xs,e1,hq,hl,hw⟩:=hw;subst e1;cases r;obtain⟨its,rv,ht,hz⟩:=I.tuple hq;refine assign_Tuple_tuple (I.ok.hd hc) ht (by simp[hn,<-hl,rv.length]) i6 λh' hx=>?_;have I1:Inv X pins U H {s with heap:=h'}:=I.kept (t':=s.toks) λb o e=>hx b o (ne_of_lt (Heap.lt_size e)) e;exact h pins _ U H xs _ Q I1 (by simpa using rv) hw
noncomputable def OY (to ti:TE)(t:qH):TG:=λv U H Q=>to U H λo H1=>ti U H1 λi H2=>t o i v H2 λH3=>Q U H3
theorem kE {o i:Expr}{to ti:TE}{t:qH}(ho:PE X o to)(hi:PE X i ti)(hs:Br X t)(ha:autoParam (∀v,assign (.Subscript o i pos) X.env v=(do
   let ov<-holding [v] (eval o X.env);let iv<-holding [v,ov] (eval i X.env)
   standAt pos
   holding [v,ov,iv] (setItem ov iv v)
   release [v,ov,iv] [])) aP3):PG X (.Subscript o i pos) (OY to ti t):=by
 intro pins s U H v u Q I r h;rw[ha];refine wpAny_bind (wpAny_holding (ai (ho pins s U H _ I h) λov s1 zQ=>?_));obtain⟨x,H1,I1,r1,q1⟩:=zQ;refine wpAny_bind (wpAny_holding (ai (hi pins s1 U H1 _ I1 q1) λiv s2 zQ=>?_));obtain⟨y,H2,I2,r2,q2⟩:=zQ;refine wpAny_bind (wpAny_standAt (wpAny_bind (wpAny_holding (ai (hs pins s2 U H2 x y v ov iv u _ I2 r1 r2 r q2) λ_ s3 zQ=>?_))));obtain⟨H3,I3,q3⟩:=zQ;exact wpAny_release ⟨U,H3,I3,q3⟩
noncomputable def vW (te:TE)(g:TG):TS:=λD U H=>te U H λx H1=>g x U H1 D.nx
theorem dY {tg e:Expr}{te:TE}{g:TG}(he:PE X e te)(hg:PG X tg g)(hs:autoParam (swapsWithSole [tg] e pos.line X.env=pure false) aP1)(hw:autoParam (swappedStores [tg] e X.env=pure none) aP1)(h1:autoParam ((assignEach [tg] X.env).map (·.2)=[assign tg X.env]) aP1):PS X (.Assign [tg] e pos) (vW te g):=by
 intro pins s U H D I h;refine wpAny_Assign_stores (ai (he pins s U H _ I h) λv s1 zQ=>?_) hs hw;obtain⟨x,H1,I1,r1,q1⟩:=zQ;rw[h1];exact ai (hg pins s1 U H1 x v _ I1 r1 q1) λ_ s2 q=>q
theorem qa {i:Nat}{x:Str}{e:Expr}{te:TE}{pos':Pos}(hN:X.N.Nodup)(hi:X.N[i]?=some x)(hx:Loc X.env.scope x)(he:PE X e te)(hs:autoParam (swapsWith e (some (.Name x pos')) pos.line X.env=pure false) aP1)(hf:autoParam (X.fn x=true\/X.env.scope.names.lookup x=some .local) aP6):PS X (.Assign [.Name x pos'] e pos) (vW te (fC i)):=by
 intro pins s U H D I h;refine wpAny_Assign_Name (ai (he pins s U H _ I h) λv s1 zQ=>?_) hs;obtain⟨y,H1,I1,r1,q1⟩:=zQ;exact vR I1 hN hi hx r1 (λs2 I2=>⟨_,H1,I2,q1⟩) hf
noncomputable def OZ (to ti te:TE)(kF:V->V->Hp->VK->Prop)(vX:vV)(kG:qH):TS:=λD U H=>to U H λo H1=>ti U H1 λi H2=>kF o i H2 λx H3=>te U H3 λy H4=>vX x y H4 λz H5=>kG o i z H5 λH6=>D.nx U H6
noncomputable def Il (X:Cx)(t:V->V->Hp->VK->Prop):Prop:=∀(pins:List (Addr×Obj))(s:Shared)(U:St)(H:Hp)(o i:V)(ov iv:Value)(Q:VK),Inv X pins U H s->RelV o ov->RelV i iv->t o i H Q->wpAny (model X.prog X.w) X.A (getItem ov iv) (EP X pins U Q) X.xe s
theorem Bt {o i e:Expr}{to ti te:TE}{kF:V->V->Hp->VK->Prop}{vX:vV}{kG:qH}{op:Operator}{mW:Pos}(ho:PE X o to)(hi:PE X i ti)(hg:Il X kF)(he:PE X e te)(hp:Bs X op vX)(hs:Br X kG)(ha:∀ov iv new,augStore i ov iv new=(do holding [new,ov,iv] (setItem ov iv new);release [new,ov,iv] [];pure .next):=by intros;rfl):PS X (.AugAssign (.Subscript o i mW) op e pos) (OZ to ti te kF vX kG):=by
 intro pins s U H D I h;refine wpAny_AugAssign_SubscriptAny (ai (ho pins s U H _ I h) λov s1 zQ=>?_) ha;obtain⟨x1,H1,I1,r1,q1⟩:=zQ;refine ai (hi pins s1 U H1 _ I1 q1) λiv s2 zQ=>?_;obtain⟨x2,H2,I2,r2,q2⟩:=zQ;refine ai (hg pins s2 U H2 x1 x2 ov iv _ I2 r1 r2 q2) λold s3 zQ=>?_;obtain⟨x3,H3,I3,r3,q3⟩:=zQ;refine ai (he pins s3 U H3 _ I3 q3) λv s4 zQ=>?_;obtain⟨x4,H4,I4,r4,q4⟩:=zQ;refine ai (hp pins s4 U H4 x3 x4 old v _ I4 r3 r4 q4) λnew s5 zQ=>?_;obtain⟨x5,H5,I5,r5,q5⟩:=zQ;exact ai (hs pins s5 U H5 x1 x2 x5 ov iv new _ I5 r1 r2 r5 q5) λ_ s6 ⟨H6,I6,q6⟩=>⟨U,H6,I6,q6⟩
noncomputable def Im (f:Int->Int->Int):vV:=λx y H Q=>∃i j,x= .int i/\y= .int j/\Q (.int (f i j)) H
theorem Io:Bs X .Add (Im λi j=>i+j):=by intro pins s U H x y v u Q I r1 r2 h;obtain⟨i,j,e1,e2,q⟩:=h;subst e1;subst e2;obtain⟨t,rfl⟩:=r1;obtain⟨t',rfl⟩:=r2;exact iadd_int ⟨.int _,H,I.tok _,⟨_,rfl⟩,q⟩
theorem O0:Bs X .Sub (Im λi j=>i-j):=by intro pins s U H x y v u Q I r1 r2 h;obtain⟨i,j,e1,e2,q⟩:=h;subst e1;subst e2;obtain⟨t,rfl⟩:=r1;obtain⟨t',rfl⟩:=r2;exact isub_int ⟨.int _,H,I.tok _,⟨_,rfl⟩,q⟩
noncomputable def Ip (c:TT)(tb:TS):TS:=λD U H=>∃W:Nat->St->Hp->Prop,(∃m,W m U H)/\∀m U H,W m U H->c U H λb H1=>if b=true then ∃N:St->Hp->Prop,(∀U' H',N U' H'->∃m',m'<m/\W m' U' H')/\tb {D with nx:=N,ct:=N,bk:=D.nx} U H1 else D.nx U H1
theorem O9 {c:Expr}{body:List Stmt}{tc:TT}{tb:TS}(hp:PassesOwn (model X.prog X.w) X.A X.env X.xe)(hc:PT X c tc)(hb:cL X body tb):PS X (.While c body [] pos) (Ip tc tb):=by
 intro pins s U H D I h;obtain⟨W,⟨m0,w0⟩,turn⟩:=h;refine wpAny_While (codeAny_whileLoop (λn s'=>∃U' H',Inv X pins U' H' s'/\W n U' H') ?_ m0 ⟨U,H,I,w0⟩)
 rintro n s1 ⟨U1,H1,I1,w1⟩
 refine wpAny_passesOwn hp (ai (hc pins s1 U1 H1 _ I1 (turn n U1 H1 w1)) λb s2 zQ=>?_);obtain⟨H2,I2,q2⟩:=zQ;cases b with
 |true=>
  obtain⟨N,hN,q2⟩:=q2;rw[if_pos rfl];refine wpAny_passesOwn hp (ai (hb pins s2 U1 H2 _ I2 q2) λf s3 q3=>?_);cases f with
  |next=>obtain⟨ic,H3,I3,n3⟩:=q3;obtain⟨m',hm,w3⟩:=hN ic H3 n3;exact⟨m',hm,ic,H3,I3,w3⟩
  |cont=>obtain⟨ic,H3,I3,n3⟩:=q3;obtain⟨m',hm,w3⟩:=hN ic H3 n3;exact⟨m',hm,ic,H3,I3,w3⟩
  |brk=>exact q3
  |ret v=>exact q3
 |false=>rw[if_neg Bool.false_ne_true];exact wpAny_execs_nil ⟨U1,H2,I2,q2⟩
end
structure It where
 go:Nat->Hp->Prop
 fD:Nat->Hp->V->Hp->Prop
 stop:Nat->Hp->Prop
noncomputable def eO (X:Cx)(pins:List (Addr×Obj))(H:Hp)(b:Addr):Prop:=H b=none/\b≠X.env.locals/\b∉X.fs/\(b∈X.ex\/X.au.heap.objs.size<=b)/\(∀x c,X.env.cells.lookup x=some c->c≠b)/\∀p∈X.pn++pins,p.1≠b
theorem Inv.qI {X:Cx}{pins:List (Addr×Obj)}{U:St}{H H':Hp}{s:Shared}{b:Addr}(I:Inv X pins U H s)(hb:s.heap.objs.size<=b)(hn:H' b=none):eO X pins H' b:=by
 refine⟨hn,Nat.ne_of_gt (lt_of_lt_of_le I.lt hb),I.HU hb,.inr (le_trans I.sz hb),λx c e z=>?_,λp hp z=>?_⟩
 .obtain⟨v,q⟩:=I.cell x c e;exact absurd (lt_of_lt_of_le q.lt (by rw[z];exact hb)) (lt_irrefl _)
 .exact absurd (lt_of_lt_of_le (Heap.lt_size (I.pin p hp).1) (by rw[z];exact hb)) (lt_irrefl _)
structure Turn (P:Program)(w:World)(K:PySem.W.Frag)(tg:Expr)(J:It)(fp:List Addr)(it:Addr)(tn:Nat->Heap->Prop):Prop where
 mem:it∈fp
 obj:∀i h,tn i h->∀b∈fp,∃o,h.get? b=some o/\∀v,o.data≠.cell v
 keep:∀i h h',tn i h->(∀b∈fp,∀o,h.get? b=some o->h'.get? b=some o)->tn i h'
 item:∀(X:Cx),X.prog=P->X.w=w->X.K=K->X.calm=true->∀(i:Nat)(pins:List (Addr×Obj))(s:Shared)(U:St)(H:Hp)(E:Value->Shared->Prop),Inv X pins U H s->(∀b∈fp,eO X pins H b)->tn i s.heap->J.go i H->wpAny (model P w) X.A (pyNext (.ref it)) (λr s1=>∃u,r=some u/\wpAny (model P w) X.A (letOwnedTupleGo tg (.ref it) u) (λ_ s2=>∃x H',Inv X pins U H' s2/\RelV x u/\J.fD i H x H'/\tn (i+1) s2.heap/\∀b∈fp,H' b=none) E s1) E s
 done:∀(X:Cx),X.prog=P->X.w=w->X.K=K->X.calm=true->∀(i:Nat)(pins:List (Addr×Obj))(s:Shared)(U:St)(H:Hp)(E:Value->Shared->Prop),Inv X pins U H s->(∀b∈fp,eO X pins H b)->tn i s.heap->J.stop i H->wpAny (model P w) X.A (pyNext (.ref it)) (λr s1=>r=none/\Inv X pins U H s1) E s
 self:∀(A:Around)(i:Nat)(s:Shared)(Q:Value->Shared->Prop)(E:Value->Shared->Prop),tn i s.heap->Q (.ref it) s->wpAny (model P w) A (pyIter (.ref it)) Q E s
noncomputable abbrev TI:=St->Hp->(It->Hp->Prop)->Prop
noncomputable def Iq (X:Cx)(pins:List (Addr×Obj))(U:St)(tg:Expr)(R:It->Hp->Prop)(qJ:Value)(s2:Shared):Prop:=∃(it:Addr)(fp:List Addr)(tn:Nat->Heap->Prop)(J:It)(H':Hp),qJ= .ref it/\Inv X pins U H' s2/\Turn X.prog X.w X.K tg J fp it tn/\tn 0 s2.heap/\(∀b∈fp,eO X pins H' b)/\R J H'
noncomputable def PI (X:Cx)(tg iter:Expr)(wi:TI):Prop:=∀(pins:List (Addr×Obj))(s:Shared)(U:St)(H:Hp)(R:It->Hp->Prop),Inv X pins U H s->wi U H R->wpAny (model X.prog X.w) X.A (eval iter X.env) (λv s1=>wpAny (model X.prog X.w) X.A (pyIter v) (Iq X pins U tg R) X.xe s1) X.xe s
theorem qK {M:Model}{A:Around}{E:Value->Shared->Prop}{s:Shared}{tg:Expr}{it:Addr}{u:Value}{o:Obj}{n:String}{vs:Array Value}{Q:Unit->Shared->Prop}(ho:s.heap.get? it=some o)(hc:o.cls= .type n)(hd:o.data= .fields vs)(hn:["enumerate","zip","dict_itemiterator","dict_reverseitemiterator","odict_iterator","itertools.zip_longest","itertools.pairwise"].contains n=false)(hQ:Q () s):wpAny M A (letOwnedTupleGo tg (.ref it) u) Q E s:=by
  unfold letOwnedTupleGo;cases tg<;>first
    |exact wpAny_pure hQ
    |(cases u<;>first
        |exact wpAny_pure hQ
        | (refine wpAny_bind (wpAny_load ho ?_)
           rw[hc,hd];show wpAny M A (if(["enumerate","zip","dict_itemiterator","dict_reverseitemiterator","odict_iterator","itertools.zip_longest","itertools.pairwise"].contains n&&vs[0]?==some (rawInt _))=true then _ else _) Q E s;rw[if_neg (by intro h;rw[hn,Bool.false_and]at h;cases h)];exact wpAny_pure hQ))
noncomputable def lT (K:PySem.W.Frag)(a:Addr):It:=⟨λi H=>∃xs x,af K H a xs/\xs[i]?=some x,λi H x H'=>H'=H/\∀xs,af K H a xs->xs[i]?=some x,λi H=>∃xs,af K H a xs/\xs.length<=i⟩
noncomputable def qL (K:PySem.W.Frag)(a:Addr):It:=⟨λi H=>∃xs x,ay K H a xs/\xs[i]?=some x,λi H x H'=>H'=H/\∀xs,ay K H a xs->xs[i]?=some x,λi H=>∃xs,ay K H a xs/\xs.length<=i⟩
noncomputable def i7 (lo:Int)(n:Nat):It:=⟨λi _=>i<n,λi H x H'=>H'=H/\x= .int (lo+i),λi _=>n<=i⟩
theorem Pa {P:Program}{w:World}{K:PySem.W.Frag}{tg:Expr}(a it:Addr):Turn P w K tg (lT K a) [it] it (λi h=>h.IsListIter it a i) where
 mem:=by simp
 obj:=λi h st b hb=>by
  have e:b=it:=by simpa using hb
  subst e;obtain⟨o,e,c,d⟩:=st;exact⟨o,e,λv z=>by rw[d]at z;cases z⟩
 keep:=λi h h' st k=>st.at λo e=>k it (by simp) o e
 item:=by intro X hP hw hK hc i pins s U H E I hf st hg;subst hP hw hK;obtain⟨xs,x,hq,hx⟩:=hg;obtain⟨its,rv,p,hz⟩:=I.list hq;obtain⟨u,hu,ru⟩:=rv.get hx;obtain⟨f0,f1,f2,f3,f4,f5⟩:=hf it (by simp);refine wpAny_pyNext_list_item st p.isList (x:=u) (by simpa using hu) λh' cj sb=>?_;have I1:Inv X pins U H {s with heap:=h'}:=I.turned (t':=s.toks) (λb o hb e=>(sb.2 b hb).trans e) f0 f1 f3 f4 f5;obtain⟨o,e,c,d⟩:=id cj;exact⟨u,rfl,qK (s:={s with heap:=h'}) e c d (by decide) ⟨x,H,I1,ru,⟨rfl,λys hy=>by rw[I.Ig hy hq];exact hx⟩,cj,λb hb=>(hf b hb).1⟩⟩
 done:=by intro X hP hw hK hc i pins s U H E I hf st hg;subst hP hw hK;obtain⟨xs,hq,hx⟩:=hg;obtain⟨its,rv,p,hz⟩:=I.list hq;obtain⟨f0,f1,f2,f3,f4,f5⟩:=hf it (by simp);have hl:=rv.length;exact wpAny_pyNext_list_end (I.ok.hd hc) st p.isList (by simp;lia) λh' eb=>⟨rfl,I.turned (t':=s.toks) (λb o hb e=>eb b o hb e) f0 f1 f3 f4 f5⟩
 self:=λ_ _ _ _ _ st h=>wpAny_pyIter_listiter st h
theorem Pb {P:Program}{w:World}{K:PySem.W.Frag}{tg:Expr}(a it:Addr):Turn P w K tg (qL K a) [it] it (λi h=>h.IsTupleIter it a i) where
 mem:=by simp
 obj:=λi h st b hb=>by
  have e:b=it:=by simpa using hb
  subst e;obtain⟨o,e,c,d⟩:=st;exact⟨o,e,λv z=>by rw[d]at z;cases z⟩
 keep:=λi h h' st k=>st.at λo e=>k it (by simp) o e
 item:=by intro X hP hw hK hc i pins s U H E I hf st hg;subst hP hw hK;obtain⟨xs,x,hq,hx⟩:=hg;obtain⟨its,rv,p,hz⟩:=I.tuple hq;obtain⟨u,hu,ru⟩:=rv.get hx;obtain⟨f0,f1,f2,f3,f4,f5⟩:=hf it (by simp);refine wpAny_pyNext_tuple_item st (show s.heap.IsTuple a its.toArray from p) (x:=u) (by simpa using hu) λh' cj sb=>?_;have I1:Inv X pins U H {s with heap:=h'}:=I.turned (t':=s.toks) (λb o hb e=>(sb.2 b hb).trans e) f0 f1 f3 f4 f5;obtain⟨o,e,c,d⟩:=id cj;exact⟨u,rfl,qK (s:={s with heap:=h'}) e c d (by decide) ⟨x,H,I1,ru,⟨rfl,λys hy=>by rw[I.Bo hy hq];exact hx⟩,cj,λb hb=>(hf b hb).1⟩⟩
 done:=by intro X hP hw hK hc i pins s U H E I hf st hg;subst hP hw hK;obtain⟨xs,hq,hx⟩:=hg;obtain⟨its,rv,p,hz⟩:=I.tuple hq;obtain⟨f0,f1,f2,f3,f4,f5⟩:=hf it (by simp);have hl:=rv.length;exact wpAny_pyNext_tuple_end (I.ok.hd hc) st (show s.heap.IsTuple a its.toArray from p) (by simp;lia) λh' eb=>⟨rfl,I.turned (t':=s.toks) (λb o hb e=>eb b o hb e) f0 f1 f3 f4 f5⟩
 self:=λ_ _ _ _ _ st h=>wpAny_pyIter_tupleiter st h
theorem Pd {P:Program}{w:World}{K:PySem.W.Frag}{tg:Expr}(it:Addr)(lo:Int)(n:Nat):Turn P w K tg (i7 lo n) [it] it (λi h=>IsRangeIter h it (lo+(i:Nat)*1) ((n:Int)-(i:Nat)) 1) where
 mem:=by simp
 obj:=λi h st b hb=>by
  have e:b=it:=by simpa using hb
  subst e;exact⟨_,st,λv z=>by have z':Data.fields _=Data.cell v:=z;cases z'⟩
 keep:=λi h h' st k=>k it (by simp) _ st
 item:=by intro X hP hw hK hc i pins s U H E I hf st hg;subst hP hw hK;obtain⟨f0,f1,f2,f3,f4,f5⟩:=hf it (by simp);have W:=Walks.range (prog:=X.prog) (w:=X.w) (I.ok.hd hc) it lo 1 n;refine W.item i s _ _ hg st λv h' tk hv cj kk=>?_;obtain⟨t,rfl⟩:=hv;have I1:Inv X pins U H {s with heap:=h',toks:=tk}:=I.turned (λb o hb e=>kk b o (by simpa using hb) e) f0 f1 f3 f4 f5;refine⟨_,rfl,qK (s:={s with heap:=h',toks:=tk}) (n:="range_iterator") cj rfl rfl (by decide) ⟨.int (lo+i),H,I1,⟨t,?_⟩,⟨rfl,rfl⟩,cj,λb hb=>(hf b hb).1⟩⟩;rw[Int.mul_one]
 done:=by intro X hP hw hK hc i pins s U H E I hf st hg;subst hP hw hK;obtain⟨f0,f1,f2,f3,f4,f5⟩:=hf it (by simp);exact wpAny_pyNext_range_end (I.ok.hd hc) st (by have:n<=i:=hg;lia) λh' eb=>⟨rfl,I.turned (t':=s.toks) (λb o hb e=>eb b o hb e) f0 f1 f3 f4 f5⟩
 self:=λ_ _ _ _ _ st h=>wpAny_pyIter_rangeiter st h
section
variable {X:Cx}{tg:Expr}
noncomputable def Ir (K:PySem.W.Frag)(tl:TE):TI:=λU H R=>tl U H λx H1=>∃a,x= .ref a/\(∃xs,af K H1 a xs)/\R (lT K a) H1
noncomputable def Iu (K:PySem.W.Frag)(tl:TE):TI:=λU H R=>tl U H λx H1=>∃a,x= .ref a/\(∃xs,ay K H1 a xs)/\R (qL K a) H1
theorem fE {l:Expr}{tl:TE}(hl:PE X l tl):PI X tg l (Ir X.K tl):=by
 intro pins s U H R I h;refine ai (hl pins s U H _ I h) λv s1 zQ=>?_;obtain⟨x,H1,I1,r1,q1⟩:=zQ;obtain⟨a,e,⟨xs,hq⟩,q⟩:=q1;subst e;cases r1;obtain⟨its,rv,p,hz⟩:=I1.list hq;refine wpAny_pyIter_list p.isList ?_;refine⟨s1.heap.objs.size,[s1.heap.objs.size],_,_,H1,rfl,I1.kept (t':=s1.toks) λb o e=>Heap.get?_push_of_some _ e,Pa a _,⟨_,Heap.get?_push_size _ rfl,rfl,rfl⟩,λb hb=>?_,q⟩;have e:b=s1.heap.objs.size:=by simpa using hb
 subst e;exact I1.qI (le_refl _) (I1.ah.fresh (le_refl _))
theorem Pe {l:Expr}{tl:TE}(hl:PE X l tl):PI X tg l (Iu X.K tl):=by
 intro pins s U H R I h;refine ai (hl pins s U H _ I h) λv s1 zQ=>?_;obtain⟨x,H1,I1,r1,q1⟩:=zQ;obtain⟨a,e,⟨xs,hq⟩,q⟩:=q1;subst e;cases r1;obtain⟨its,rv,p,hz⟩:=I1.tuple hq;refine wpAny_pyIter_tuple (show s1.heap.IsTuple a its.toArray from p) ?_;refine⟨s1.heap.objs.size,[s1.heap.objs.size],_,_,H1,rfl,I1.kept (t':=s1.toks) λb o e=>Heap.get?_push_of_some _ e,Pb a _,⟨_,Heap.get?_push_size _ rfl,rfl,rfl⟩,λb hb=>?_,q⟩;have e:b=s1.heap.objs.size:=by simpa using hb
 subst e;exact I1.qI (le_refl _) (I1.ah.fresh (le_refl _))
theorem Pf {pins:List (Addr×Obj)}{U:St}{H:Hp}{s:Shared}{R:It->Hp->Prop}{E:Value->Shared->Prop}{lo hi:Int}{t u v:Tok}{tk:Nat}(I:Inv X pins U H s)(h1:-(2^62)<=lo)(h2:lo<2^62)(h3:-(2^62)<=hi)(h4:hi<2^62)(q:R (i7 lo (hi-lo).toNat) H):wpAny (model X.prog X.w) X.A (pyIter (.ref s.heap.objs.size)) (Iq X pins U tg R) E {s with heap:=s.heap.push {cls:=.type "range",data:=.fields #[.int lo t,.int hi u,.int 1 v]},toks:=tk}:=by
 refine wpAny_pyIter_range (IsRange.new ..) (small_one h1 h2 h3 h4) ?_;have I1:Inv X pins U H {s with heap:=s.heap.push {cls:=.type "range",data:=.fields #[.int lo t,.int hi u,.int 1 v]},toks:=tk}:=I.kept λb o e=>Heap.get?_push_of_some _ e;refine⟨(s.heap.push {cls:=.type "range",data:=.fields #[.int lo t,.int hi u,.int 1 v]}).objs.size,[(s.heap.push {cls:=.type "range",data:=.fields #[.int lo t,.int hi u,.int 1 v]}).objs.size],_,_,H,rfl,I1.kept (t':=tk) λb o e=>Heap.get?_push_of_some _ e,Pd _ lo (hi-lo).toNat,?_,λb hb=>?_,q⟩
 .have e1:lo+((0:Nat):Int)*1=lo:=by simp
  have e2:(((hi-lo).toNat:Nat):Int)-((0:Nat):Int)=Builtin.Range.rangeSize lo hi 1:=by rw[rangeSize_one];split<;>lia
  show IsRangeIter _ _ (lo+((0:Nat):Int)*1) ((((hi-lo).toNat:Nat):Int)-((0:Nat):Int)) 1;rw[e1,e2];exact Heap.get?_push_size _ rfl
 .have e:b=(s.heap.push {cls:=.type "range",data:=.fields #[.int lo t,.int hi u,.int 1 v]}).objs.size:=by simpa using hb
  subst e;exact I1.qI (le_refl _) (I1.ah.fresh (le_refl _))
noncomputable def Pg (ta:TA):TI:=λU H R=>ta U H λvs H1=>∃j:Int,vs=[.int j]/\-(2^62)<=j/\j<2^62/\R (i7 0 j.toNat) H1
theorem oO {a:Expr}{ta:TA}{p pos:Pos}(hg:Gl X "range")(hm:X.mg "range"=none)(ha:PA X [a] ta)(hs:autoParam (starEach [a] X.env=[(false,eval a X.env)]) aP1):PI X tg (.Call (.Name "range" p) [a] [] pos) (Pg ta):=by
 intro pins s U H R I h;refine Call_ (vS I hg hm boot_range (PyProof.Rows.callWith_type1 (ai (ha pos pins s U H _ I h) λus s1 zQ=>?_) hs rfl));obtain⟨vs,H1,I1,r1,q1⟩:=zQ;obtain⟨j,e,q1,q2,q⟩:=q1;subst e;cases r1 with
 |cons r rr=>cases rr;obtain⟨t,rfl⟩:=r;exact call_range_1 (Pf I1 (by lia) (by lia) q1 q2 (by simpa using q))
noncomputable def Ph (wi:TI)(g:TG)(tb:TS):TS:=λD U H=>wi U H λJ H1=>∃W:Nat->Nat->St->Hp->Prop,(∃m,W 0 m U H1)/\∀i m U H,W i m U H->(J.stop i H/\D.nx U H)\/(J.go i H/\∃N:St->Hp->Prop,(∀U' H',N U' H'->∃m',m'<m/\W (i+1) m' U' H')/\∀x H',J.fD i H x H'->g x U H' λU2 H2=>tb {D with nx:=N,ct:=N,bk:=D.nx} U2 H2)
noncomputable def kH (fp:List Addr)(h:Heap):List (Addr×Obj):=fp.filterMap λb=>(h.get? b).map λo=>(b,o)
theorem vY {fp:List Addr}{h:Heap}{b:Addr}{o:Obj}(hb:b∈fp)(e:h.get? b=some o):(b,o)∈kH fp h:=mem_filterMap.mpr ⟨b,hb,by rw[e];rfl⟩
theorem Iv {fp:List Addr}{h:Heap}{p:Addr×Obj}(hp:p∈kH fp h):p.1∈fp/\h.get? p.1=some p.2:=by
 obtain⟨b,hb,e⟩:=mem_filterMap.mp hp;cases q:h.get? b with
 |none=>rw[q]at e;cases e
 |some o=>rw[q]at e;have e':(b,o)=p:=Option.some.inj e;subst e';exact⟨hb,q⟩
theorem Inv.pinned {pins:List (Addr×Obj)}{U:St}{H:Hp}{s:Shared}{fp:List Addr}(I:Inv X pins U H s)(hf:∀b∈fp,eO X pins H b)(ho:∀b∈fp,∃o,s.heap.get? b=some o/\∀v,o.data≠.cell v):Inv X (pins++kH fp s.heap) U H s:=I.vP λp hp=>(mem_append.mp hp).elim (λz=>I.pin p (mem_append_right _ z)) λz=>by obtain⟨hb,e⟩:=Iv z;obtain⟨f0,f1,f2,_⟩:=hf p.1 hb;obtain⟨o,e',d⟩:=ho p.1 hb;rw[e]at e';cases e';exact⟨e,f0,f1,f2,d⟩
theorem Inv.qN {pins pl:List (Addr×Obj)}{U:St}{H:Hp}{s:Shared}(I:Inv X (pins++pl) U H s):Inv X pins U H s:=I.vP λp hp=>I.pin p (mem_append_right _ (mem_append_left _ hp))
theorem ie {iter:Expr}{body:List Stmt}{wi:TI}{g:TG}{tb:TS}{pos:Pos}(hp:PassesOwn (model X.prog X.w) X.A X.env X.xe)(hc:X.calm=true)(hi:PI X tg iter wi)(hg:PG X tg g)(hb:cL X body tb)(hs:autoParam (∀x,foldedSetIterable iter X.env x=pure x) aP3):PS X (.For tg iter body [] pos) (Ph wi g tb):=by
 intro pins s U H D I h;refine wpAny_For (ai (hi pins s U H _ I h) λv s1 h1=>ai h1 λqJ s2 h2=>?_) hs;obtain⟨it,fp,tn,J,H2,e,I2,T,Pj,f2,W,⟨m0,w0⟩,turn⟩:=h2;subst e;have mX:∀{H':Hp},(∀b∈fp,H' b=none)->∀b∈fp,eO X pins H' b:=λhn b hb=>⟨hn b hb,(f2 b hb).2⟩;refine codeAny_forLoop_any (λn s'=>∃i U' H',Inv X pins U' H' s'/\tn i s'.heap/\(∀b∈fp,H' b=none)/\W i n U' H') ?_ m0 ⟨0,U,H2,I2,Pj,λb hb=>(f2 b hb).1,w0⟩
 rintro n s3 ⟨i,ic,H3,I3,Iw,Iy,w3⟩
 rcases turn i n ic H3 w3 with⟨stop,qn⟩|⟨go,N,hN,step⟩
 .refine wpAny_passesOwn hp (ai (T.done X rfl rfl rfl hc i pins s3 ic H3 X.xe I3 (mX Iy) Iw stop) λr s4 ⟨hr,I4⟩=>?_);subst hr;exact wpAny_execs_nil ⟨ic,H3,I4,qn⟩
 .refine wpAny_passesOwn hp (ai (T.item X rfl rfl rfl hc i pins s3 ic H3 X.xe I3 (mX Iy) Iw go) λr s4 zQ=>?_);obtain⟨u,hr,h4⟩:=zQ;subst hr;refine wpAny_passesOwn hp (ai h4 λ_ s5 zQ=>?_);obtain⟨x,H5,I5,r5,y5,fS,qO⟩:=zQ;have qP:=I5.pinned (mX qO) (T.obj _ _ fS);refine wpAny_passesOwn hp (ai (hg _ s5 ic H5 x u _ qP r5 (step x H5 y5)) λ_ s6 zQ=>?_);obtain⟨U6,H6,I6,q6⟩:=zQ;refine wpAny_passesOwn hp (ai (hb _ s6 U6 H6 _ I6 q6) λf s7 q7=>?_);have again:∀{U7:St}{H7:Hp},Inv X (pins++kH fp s5.heap) U7 H7 s7->N U7 H7->∃m,m<n/\∃i U' H',Inv X pins U' H' s7/\tn i s7.heap/\(∀b∈fp,H' b=none)/\W i m U' H':=λ{U7 H7} I7 n7=>by
   obtain⟨m',hm,w7⟩:=hN U7 H7 n7;refine⟨m',hm,i+1,U7,H7,I7.qN,T.keep _ _ _ fS λb hb o e=>(I7.pin (b,o) (mem_append_right _ (mem_append_right _ (vY hb e)))).1,λb hb=>?_,w7⟩;obtain⟨o,e,d⟩:=T.obj _ _ fS b hb;exact(I7.pin (b,o) (mem_append_right _ (mem_append_right _ (vY hb e)))).2.1
  cases f with
  |next=>obtain⟨U7,H7,I7,n7⟩:=q7;exact again I7 n7
  |cont=>obtain⟨U7,H7,I7,n7⟩:=q7;exact again I7 n7
  |brk=>obtain⟨U7,H7,I7,q7⟩:=q7;exact⟨U7,H7,I7.qN,q7⟩
  |ret v=>obtain⟨x7,U7,H7,I7,r7,q7⟩:=q7;exact⟨x7,U7,H7,I7.qN,r7,q7⟩
end
theorem mY {K:PySem.W.Frag}{a:Addr}{xs:List V}{g:TG}{tb:TS}{D:Ends}{U:St}{H:Hp}(Pv:Nat->St->Hp->Prop)(h0:Pv 0 U H)(hl:∀i U H,i<=xs.length->Pv i U H->af K H a xs)(hs:∀i x U H,xs[i]?=some x->Pv i U H->g x U H λU2 H2=>tb {D with nx:=Pv (i+1),ct:=Pv (i+1),bk:=D.nx} U2 H2)(hd:∀U H,Pv xs.length U H->D.nx U H):∃W:Nat->Nat->St->Hp->Prop,(∃m,W 0 m U H)/\∀i m U H,W i m U H->((lT K a).stop i H/\D.nx U H)\/((lT K a).go i H/\∃N:St->Hp->Prop,(∀U' H',N U' H'->∃m',m'<m/\W (i+1) m' U' H')/\∀x H',(lT K a).fD i H x H'->g x U H' λU2 H2=>tb {D with nx:=N,ct:=N,bk:=D.nx} U2 H2):=by
 refine⟨λi m U H=>m=xs.length-i/\i<=xs.length/\Pv i U H,⟨xs.length,by simp,zero_le _,h0⟩,?_⟩
 rintro i m U H ⟨rfl,hi,p⟩
 have q:=hl i U H hi p;by_cases aQ:i<xs.length
 .refine .inr ⟨⟨xs,xs[i],q,by simp[aQ]⟩,Pv (i+1),λU' H' p'=>⟨xs.length-(i+1),by lia,rfl,aQ,p'⟩,λx H' y=>?_⟩;obtain⟨e,y⟩:=y;subst e;exact hs i x U _ (y xs q) p
 .have e:i=xs.length:=by lia
  subst e;exact .inl ⟨⟨xs,q,le_refl _⟩,hd U H p⟩
theorem Pk {K:PySem.W.Frag}{a:Addr}{xs:List V}{g:TG}{tb:TS}{D:Ends}{U:St}{H:Hp}(Pv:Nat->St->Hp->Prop)(h0:Pv 0 U H)(hl:∀i U H,i<=xs.length->Pv i U H->ay K H a xs)(hs:∀i x U H,xs[i]?=some x->Pv i U H->g x U H λU2 H2=>tb {D with nx:=Pv (i+1),ct:=Pv (i+1),bk:=D.nx} U2 H2)(hd:∀U H,Pv xs.length U H->D.nx U H):∃W:Nat->Nat->St->Hp->Prop,(∃m,W 0 m U H)/\∀i m U H,W i m U H->((qL K a).stop i H/\D.nx U H)\/((qL K a).go i H/\∃N:St->Hp->Prop,(∀U' H',N U' H'->∃m',m'<m/\W (i+1) m' U' H')/\∀x H',(qL K a).fD i H x H'->g x U H' λU2 H2=>tb {D with nx:=N,ct:=N,bk:=D.nx} U2 H2):=by
 refine⟨λi m U H=>m=xs.length-i/\i<=xs.length/\Pv i U H,⟨xs.length,by simp,zero_le _,h0⟩,?_⟩
 rintro i m U H ⟨rfl,hi,p⟩
 have q:=hl i U H hi p;by_cases aQ:i<xs.length
 .refine .inr ⟨⟨xs,xs[i],q,by simp[aQ]⟩,Pv (i+1),λU' H' p'=>⟨xs.length-(i+1),by lia,rfl,aQ,p'⟩,λx H' y=>?_⟩;obtain⟨e,y⟩:=y;subst e;exact hs i x U _ (y xs q) p
 .have e:i=xs.length:=by lia
  subst e;exact .inl ⟨⟨xs,q,le_refl _⟩,hd U H p⟩
theorem Bu {lo:Int}{n:Nat}{g:TG}{tb:TS}{D:Ends}{U:St}{H:Hp}(Pv:Nat->St->Hp->Prop)(h0:Pv 0 U H)(hs:∀i U H,i<n->Pv i U H->g (.int (lo+i)) U H λU2 H2=>tb {D with nx:=Pv (i+1),ct:=Pv (i+1),bk:=D.nx} U2 H2)(hd:∀U H,Pv n U H->D.nx U H):∃W:Nat->Nat->St->Hp->Prop,(∃m,W 0 m U H)/\∀i m U H,W i m U H->((i7 lo n).stop i H/\D.nx U H)\/((i7 lo n).go i H/\∃N:St->Hp->Prop,(∀U' H',N U' H'->∃m',m'<m/\W (i+1) m' U' H')/\∀x H',(i7 lo n).fD i H x H'->g x U H' λU2 H2=>tb {D with nx:=N,ct:=N,bk:=D.nx} U2 H2):=by
 refine⟨λi m U H=>m=n-i/\i<=n/\Pv i U H,⟨n,by simp,zero_le _,h0⟩,?_⟩
 rintro i m U H ⟨rfl,hi,p⟩
 by_cases aQ:i<n
 .refine .inr ⟨aQ,Pv (i+1),λU' H' p'=>⟨n-(i+1),by lia,rfl,aQ,p'⟩,λx H' y=>?_⟩;obtain⟨e,y⟩:=y;subst e y;exact hs i U _ aQ p
 .have e:i=n:=by lia
  subst e;exact .inl ⟨le_refl _,hd U H p⟩
theorem Pl {c:TT}{tb:TS}{D:Ends}{U:St}{H:Hp}(Pv:St->Hp->Prop)(μ:St->Hp->Nat)(h0:Pv U H)(hs:∀U H,Pv U H->c U H λb H1=>if b=true then tb {D with nx:=λU' H'=>Pv U' H'/\μ U' H'<μ U H,ct:=λU' H'=>Pv U' H'/\μ U' H'<μ U H,bk:=D.nx} U H1 else D.nx U H1)(mono:∀U H Q Q',(∀b H1,Q b H1->Q' b H1)->c U H Q->c U H Q'):Ip c tb D U H:=by
 refine⟨λm U H=>m=μ U H/\Pv U H,⟨_,rfl,h0⟩,?_⟩
 rintro m U H ⟨rfl,p⟩
 refine mono U H _ _ (λb H1 q=>?_) (hs U H p);cases b with
 |true=>exact⟨_,λU' H' ⟨p',l⟩=>⟨_,l,rfl,p'⟩,q⟩
 |false=>exact q
noncomputable abbrev R2:=V->V->Hp->VK->Prop
noncomputable def bJ (X:Cx)(f:Value->Value->Sem Value)(r:R2):Prop:=∀(pins:List (Addr×Obj))(s:Shared)(U:St)(H:Hp)(x y:V)(v u:Value)(Q:VK),Inv X pins U H s->RelV x v->RelV y u->r x y H Q->wpAny (model X.prog X.w) X.A (f v u) (EP X pins U Q) X.xe s
noncomputable def Bv (X:Cx)(f:Value->Sem Value)(r:V->Hp->VK->Prop):Prop:=∀(pins:List (Addr×Obj))(s:Shared)(U:St)(H:Hp)(x:V)(v:Value)(Q:VK),Inv X pins U H s->RelV x v->r x H Q->wpAny (model X.prog X.w) X.A (f v) (EP X pins U Q) X.xe s
noncomputable def fT (X:Cx)(f:Value)(r:List V->Hp->VK->Prop):Prop:=∀(pins:List (Addr×Obj))(s:Shared)(U:St)(H:Hp)(xs:List V)(us:List Value)(Q:VK),Inv X pins U H s->Vals xs us->r xs H Q->wpAny (model X.prog X.w) X.A (call f us) (EP X pins U Q) X.xe s
noncomputable def Pm (X:Cx)(r:V->Hp->(Bool->Hp->Prop)->Prop):Prop:=∀(pins:List (Addr×Obj))(s:Shared)(U:St)(H:Hp)(x:V)(v:Value)(Q:Bool->Hp->Prop),Inv X pins U H s->RelV x v->r x H Q->wpAny (model X.prog X.w) X.A (truthy v) (TP X pins U Q) X.xe s
noncomputable def gL (r:R2)(ta tb:TE):TE:=λU H Q=>ta U H λx H1=>tb U H1 λy H2=>r x y H2 Q
noncomputable def Pn (r:V->Hp->VK->Prop)(ta:TE):TE:=λU H Q=>ta U H λx H1=>r x H1 Q
noncomputable def rI (C:Int->Int->Prop)(g:Int->Int->V):R2:=λx y H Q=>∃i j,x= .int i/\y= .int j/\C i j/\Q (g i j) H
noncomputable def kI (g:Int->Int->V):R2:=λx y H Q=>∃i j,x= .int i/\y= .int j/\Q (g i j) H
noncomputable def rU (g:Int->V):V->Hp->VK->Prop:=λx H Q=>∃i,x= .int i/\Q (g i) H
section
variable {X:Cx}{a b c:Expr}{ta tb tc:TE}{pos:Pos}
theorem Bw (ha:PE X a ta)(hb:PE X b tb){pins:List (Addr×Obj)}{s:Shared}{U:St}{H:Hp}{R:V->V->Hp->Prop}(I:Inv X pins U H s)(h:ta U H λx H1=>tb U H1 λy H2=>R x y H2){Q:Value->Shared->Prop}{f:Value->Value->Sem Value}(hf:∀v u s2 x y H2,Inv X pins U H2 s2->RelV x v->RelV y u->R x y H2->wpAny (model X.prog X.w) X.A (f v u) Q X.xe s2):
  wpAny (model X.prog X.w) X.A (eval a X.env) (λv aj=>wpAny (model X.prog X.w) X.A (eval b X.env) (λu ae=>wpAny (model X.prog X.w) X.A (f v u) Q X.xe ae) X.xe aj) X.xe s:=by
 refine ai (ha pins s U H _ I h) λv s1 zQ=>?_;obtain⟨x,H1,I1,r1,q1⟩:=zQ;refine ai (hb pins s1 U H1 _ I1 q1) λu s2 zQ=>?_;obtain⟨y,H2,I2,r2,q2⟩:=zQ;exact hf v u s2 x y H2 I2 r1 r2 q2
theorem zt {op:Operator}{r:R2}(ho:bJ X (binaryOp op) r)(ha:PE X a ta)(hb:PE X b tb):PE X (.BinOp a op b pos) (gL r ta tb):=by intro pins s U H Q I h;exact wpAny_BinOp (Bw ha hb I h λv u s2 x y H2 I2 rx ry q=>ho pins s2 U H2 x y v u Q I2 rx ry q)
theorem Po {op:UnaryOp}{r:V->Hp->VK->Prop}(ho:Bv X (unaryOp op) r)(ha:PE X a ta):PE X (.UnaryOp op a pos) (Pn r ta):=by intro pins s U H Q I h;exact UnaryOp_ (ai (ha pins s U H _ I h) λv s1 ⟨x,H1,I1,r1,q1⟩=>ho pins s1 U H1 x v Q I1 r1 q1)
theorem vZ {f:Value->Value->Sem Value}{C:Int->Int->Prop}{g:Int->Int->Int}(rule:∀(i j:Int)(t u:Tok)(s:Shared)(Q:Value->Shared->Prop)(E:Value->Shared->Prop),C i j->Q (.int (g i j) s.toks) {s with toks:=s.toks+1}->wpAny (model X.prog X.w) X.A (f (.int i t) (.int j u)) Q E s):
  bJ X f (rI C λi j=>.int (g i j)):=by
 intro pins s U H x y v u Q I rx ry h;obtain⟨i,j,rfl,rfl,hc,q⟩:=h;obtain⟨t,rfl⟩:=rx;obtain⟨t',rfl⟩:=ry;exact rule i j t t' s _ _ hc ⟨.int (g i j),H,I.tok _,⟨_,rfl⟩,q⟩
theorem Iz {f:Value->Value->Sem Value}{g:Int->Int->Int}(rule:∀(i j:Int)(t u:Tok)(s:Shared)(Q:Value->Shared->Prop)(E:Value->Shared->Prop),Q (.int (g i j) s.toks) {s with toks:=s.toks+1}->wpAny (model X.prog X.w) X.A (f (.int i t) (.int j u)) Q E s):
  bJ X f (kI λi j=>.int (g i j)):=by
 intro pins s U H x y v u Q I rx ry h;obtain⟨i,j,rfl,rfl,q⟩:=h;obtain⟨t,rfl⟩:=rx;obtain⟨t',rfl⟩:=ry;exact rule i j t t' s _ _ ⟨.int (g i j),H,I.tok _,⟨_,rfl⟩,q⟩
theorem wA {f:Value->Value->Sem Value}{g:Int->Int->Bool}(rule:∀(i j:Int)(t u:Tok)(s:Shared)(Q:Value->Shared->Prop)(E:Value->Shared->Prop),Q (.bool (g i j)) s->wpAny (model X.prog X.w) X.A (f (.int i t) (.int j u)) Q E s):
  bJ X f (kI λi j=>.bl (g i j)):=by
 intro pins s U H x y v u Q I rx ry h;obtain⟨i,j,rfl,rfl,q⟩:=h;obtain⟨t,rfl⟩:=rx;obtain⟨t',rfl⟩:=ry;exact rule i j t t' s _ _ ⟨.bl (g i j),H,I,rfl,q⟩
noncomputable def Pp (i j:Int):Prop:=0<j/\j<1073741824
noncomputable def Pq (i j:Int):Prop:=0<=j/\j<=1000000/\i.natAbs<2^64
noncomputable def Bx (i j:Int):Prop:=(-(2^64)<i/\i<2^64)\/(-(2^64)<j/\j<2^64)
theorem Bx.ok {i j:Int}(h:Bx i j):IntMulOk i j:=by
 rcases h with⟨h1,h2⟩|⟨h1,h2⟩
 .exact .of_left (intBits_le_64 h1 h2)
 .exact .of_right (intBits_le_64 h1 h2)
theorem fF:bJ X (binaryOp .Add) (kI λi j=>.int (i+j)):=Iz λ_ _ _ _ _ _ _ q=>add_int q
theorem i8:bJ X (binaryOp .Sub) (kI λi j=>.int (i-j)):=Iz λ_ _ _ _ _ _ _ q=>sub_int q
theorem wB:bJ X (binaryOp .Mult) (rI Bx λi j=>.int (i*j)):=vZ λ_ _ _ _ _ _ _ hc q=>mul_int q hc.ok
theorem By:bJ X (binaryOp .FloorDiv) (rI Pp λi j=>.int (i / j)):=vZ λi j _ _ _ _ _ hc q=>by have h1:(0:Int)<j:=hc.1;have h2:j<1073741824:=hc.2;exact floordiv_int (by lia) (by rw[Int.fdiv_eq_ediv_of_nonneg i (by lia)];exact q) (.inl (PyProof.noPylong_small (by lia)))
theorem mZ:bJ X (binaryOp .Mod) (rI (λ_ j=>0<j) λi j=>.int (i%j)):=vZ λi j _ _ _ _ _ hc q=>by have h1:(0:Int)<j:=hc;exact mod_int' (by lia) (by rw[Int.fmod_eq_emod_of_nonneg i (by lia)];exact q)
theorem Pr:bJ X (binaryOp .Pow) (rI Pq λi j=>.int (i^j.toNat)):=vZ λ_ _ _ _ _ _ _ hc q=>pow_int_small hc.1 hc.2.1 hc.2.2 q
theorem Pu {f:Value->Sem Value}{g:Int->Int}(rule:∀(i:Int)(t:Tok)(s:Shared)(Q:Value->Shared->Prop)(E:Value->Shared->Prop),Q (.int (g i) s.toks) {s with toks:=s.toks+1}->wpAny (model X.prog X.w) X.A (f (.int i t)) Q E s):
  Bv X f (rU λi=>.int (g i)):=by
 intro pins s U H x v Q I rx h;obtain⟨i,rfl,q⟩:=h;obtain⟨t,rfl⟩:=rx;exact rule i t s _ _ ⟨.int (g i),H,I.tok _,⟨_,rfl⟩,q⟩
theorem Pw:Bv X (unaryOp .USub) (rU λi=>.int (-i)):=Pu λ_ _ _ _ _ q=>neg_int q
end
noncomputable def IA:V->V->Bool
 | .aq,.aq=>true| .aq,.int _=>true| .int _,.aq=>true| .aq,.bl _=>true| .bl _,.aq=>true| .aq,.str _=>true| .str _,.aq=>true
 | .int _,.int _=>true| .bl _,.bl _=>true| .str _,.str _=>true| .eV _,.eV _=>true
 | .int _,.str _=>true| .str _,.int _=>true| .bl _,.str _=>true| .str _,.bl _=>true
 |_,_=>false
noncomputable def Px:R2:=λx y H Q=>IA x y=true/\Q (.bl (decide (x=y))) H
noncomputable def Py:R2:=λx y H Q=>IA x y=true/\Q (.bl (!decide (x=y))) H
theorem IB {i j:Int}:decide (V.int i=V.int j)=(i==j):=by rw[Bool.eq_iff_iff];simp
theorem IC {i j:Bool}:decide (V.bl i=V.bl j)=(i==j):=by rw[Bool.eq_iff_iff];simp
theorem ID {i j:Str}:decide (V.str i=V.str j)=(i==j):=by rw[Bool.eq_iff_iff];simp
theorem IE {i j:Array UInt8}:decide (V.eV i=V.eV j)=(i.toList==j.toList):=by rw[Bool.eq_iff_iff];cases i;cases j;simp
section
variable {X:Cx}{a b c:Expr}{ta tb tc:TE}{pos:Pos}
theorem zv {pins:List (Addr×Obj)}{U:St}{H:Hp}{s:Shared}{Q:VK}{k k':Bool}(I:Inv X pins U H s)(q:Q (.bl k) H)(e:k=k'):EP X pins U Q (.bool k') s:=by subst e;exact⟨.bl k,H,I,rfl,q⟩
theorem fG:bJ X (compareOp .Eq) Px:=by
 intro pins s U H x y v u Q I rx ry h;obtain⟨hs,q⟩:=h;cases x with
 |aq=>
  cases rx;cases y with
  |aq=>cases ry;exact PySem.EqNone.eq_none_none (zv I q (by simp))
  |bl j=>cases ry;exact PySem.EqNone.eq_none_bool (zv I q (by simp))
  |int j=>obtain⟨t',rfl⟩:=ry;exact PySem.EqNone.eq_none_int (zv I q (by simp))
  |str j=>obtain⟨t',rfl⟩:=ry;exact PySem.EqNone.eq_none_str (zv I q (by simp))
  |_=>exact absurd (show false=true from hs) Bool.false_ne_true
 |bl i=>
  cases rx;cases y with
  |aq=>cases ry;exact PySem.EqNone.eq_bool_none (zv I q (by simp))
  |bl j=>cases ry;exact eq_bool (zv I q IC)
  |str j=>obtain⟨t',rfl⟩:=ry;exact PySem.EqMixed.eq_bool_str (zv I q (by simp))
  |_=>exact absurd (show false=true from hs) Bool.false_ne_true
 |int i=>
  obtain⟨t,rfl⟩:=rx;cases y with
  |aq=>cases ry;exact PySem.EqNone.eq_int_none (zv I q (by simp))
  |int j=>obtain⟨t',rfl⟩:=ry;exact eq_int (zv I q IB)
  |str j=>obtain⟨t',rfl⟩:=ry;exact PySem.EqMixed.eq_int_str (zv I q (by simp))
  |_=>exact absurd (show false=true from hs) Bool.false_ne_true
 |str i=>
  obtain⟨t,rfl⟩:=rx;cases y with
  |aq=>cases ry;exact PySem.EqNone.eq_str_none (zv I q (by simp))
  |bl j=>cases ry;exact PySem.EqMixed.eq_str_bool (zv I q (by simp))
  |int j=>obtain⟨t',rfl⟩:=ry;exact PySem.EqMixed.eq_str_int (zv I q (by simp))
  |str j=>obtain⟨t',rfl⟩:=ry;exact eq_str (zv I q ID)
  |_=>exact absurd (show false=true from hs) Bool.false_ne_true
 |eV i=>
  obtain⟨t,rfl⟩:=rx;cases y with
  |eV j=>obtain⟨t',rfl⟩:=ry;exact PySem.W.eq_bytes (zv I q IE)
  |_=>exact absurd (show false=true from hs) Bool.false_ne_true
 |_=>cases y<;>exact absurd (show false=true from hs) Bool.false_ne_true
theorem Bz:bJ X (compareOp .NotEq) Py:=by
 intro pins s U H x y v u Q I rx ry h;obtain⟨hs,q⟩:=h;cases x with
 |aq=>
  cases rx;cases y with
  |aq=>cases ry;exact PySem.EqNone.ne_none_none (zv I q (by simp))
  |bl j=>cases ry;exact PySem.EqNone.ne_none_bool (zv I q (by simp))
  |int j=>obtain⟨t',rfl⟩:=ry;exact PySem.EqNone.ne_none_int (zv I q (by simp))
  |str j=>obtain⟨t',rfl⟩:=ry;exact PySem.EqNone.ne_none_str (zv I q (by simp))
  |_=>exact absurd (show false=true from hs) Bool.false_ne_true
 |bl i=>
  cases rx;cases y with
  |aq=>cases ry;exact PySem.EqNone.ne_bool_none (zv I q (by simp))
  |bl j=>cases ry;exact ne_bool (zv I q (congrArg not IC))
  |str j=>obtain⟨t',rfl⟩:=ry;exact PySem.EqMixed.ne_bool_str (zv I q (by simp))
  |_=>exact absurd (show false=true from hs) Bool.false_ne_true
 |int i=>
  obtain⟨t,rfl⟩:=rx;cases y with
  |aq=>cases ry;exact PySem.EqNone.ne_int_none (zv I q (by simp))
  |int j=>obtain⟨t',rfl⟩:=ry;exact ne_int (zv I q (congrArg not IB))
  |str j=>obtain⟨t',rfl⟩:=ry;exact PySem.EqMixed.ne_int_str (zv I q (by simp))
  |_=>exact absurd (show false=true from hs) Bool.false_ne_true
 |str i=>
  obtain⟨t,rfl⟩:=rx;cases y with
  |aq=>cases ry;exact PySem.EqNone.ne_str_none (zv I q (by simp))
  |bl j=>cases ry;exact PySem.EqMixed.ne_str_bool (zv I q (by simp))
  |int j=>obtain⟨t',rfl⟩:=ry;exact PySem.EqMixed.ne_str_int (zv I q (by simp))
  |str j=>obtain⟨t',rfl⟩:=ry;exact ne_str (zv I q (congrArg not ID))
  |_=>exact absurd (show false=true from hs) Bool.false_ne_true
 |eV i=>
  obtain⟨t,rfl⟩:=rx;cases y with
  |eV j=>obtain⟨t',rfl⟩:=ry;exact PySem.W.ne_bytes (zv I q (congrArg not IE))
  |_=>exact absurd (show false=true from hs) Bool.false_ne_true
 |_=>cases y<;>exact absurd (show false=true from hs) Bool.false_ne_true
theorem wC:bJ X (compareOp .Lt) (kI λi j=>.bl (decide (i<j))):=wA λ_ _ _ _ _ _ _ q=>lt_int q
theorem oP:bJ X (compareOp .LtE) (kI λi j=>.bl (decide (i<=j))):=wA λ_ _ _ _ _ _ _ q=>le_int q
theorem qQ:bJ X (compareOp .Gt) (kI λi j=>.bl (decide (j<i))):=wA λ_ _ _ _ _ _ _ q=>gt_int q
theorem BA:bJ X (compareOp .GtE) (kI λi j=>.bl (decide (j<=i))):=wA λ_ _ _ _ _ _ _ q=>ge_int q
theorem Pz:bJ X (compareOp .Is) (λx y H Q=>y= .aq/\Q (.bl (decide (x= .aq))) H):=by
 intro pins s U H x y v u Q I rx ry h;obtain⟨rfl,q⟩:=h;cases ry;refine is_none_gen (zv I q ?_);cases x<;>first
  |(cases rx;rfl)
  |(obtain⟨t,rfl⟩:=rx;rfl)
theorem PB:bJ X (compareOp .IsNot) (λx y H Q=>y= .aq/\Q (.bl (!decide (x= .aq))) H):=by
 intro pins s U H x y v u Q I rx ry h;obtain⟨rfl,q⟩:=h;cases ry;refine isnot_none_gen (zv I q ?_);cases x<;>first
  |(cases rx;rfl)
  |(obtain⟨t,rfl⟩:=rx;rfl)
theorem qf (b:Expr){op:CmpOp}(h:autoParam (op≠.In) aP2)(h2:autoParam (op≠.NotIn) aP2):behindInMarks op b=false:=by
 have e:(op==CmpOp.In||op==CmpOp.NotIn)=false:=by cases op<;>first|rfl|exact absurd rfl h|exact absurd rfl h2
 cases b<;>first|rfl|(show(_&&_&&_)=false;rw[e,Bool.and_false];rfl)
theorem i9 {op:CmpOp}{r:R2}(ho:bJ X (compareOp op) r)(ha:PE X a ta)(hb:PE X b tb)(hm:behindInMarks op b=false):PE X (.Compare a [op] [b] pos) (gL r ta tb):=by intro pins s U H Q I h;exact wpAny_Compare1 (Bw ha hb I h λv u s2 x y H2 I2 rx ry q=>ho pins s2 U H2 x y v u Q I2 rx ry q) hm
noncomputable def BC (t:TE):TT:=λU H Q=>t U H λx H'=>∃k,x= .bl k/\Q k H'
theorem jx {op:CmpOp}{r:R2}(ho:bJ X (compareOp op) r)(ha:PE X a ta)(hb:PE X b tb)(hm:behindInMarks op b=false):PT X (.Compare a [op] [b] pos) (BC (gL r ta tb)):=by
 intro pins s U H Q I h;refine wpAny_isTrue_Compare1 (ai (ha pins s U H _ I h) λv s1 ⟨x,H1,I1,r1,q1⟩=>ai (hb pins s1 U H1 _ I1 q1) λu s2 ⟨y,H2,I2,r2,q2⟩=>ai (ho pins s2 U H2 x y v u _ I2 r1 r2 q2) λc s3 zQ=>?_) hm;obtain⟨z,H3,I3,r3,k,e,q3⟩:=zQ;subst e;cases r3;exact wpAny_truthy_bool ⟨H3,I3,q3⟩
noncomputable def PD (r r':R2)(ta tb tc:TE):TE:=λU H Q=>ta U H λx H1=>tb U H1 λy H2=>r x y H2 λz H3=>∃k,z= .bl k/\(if k=true then tc U H3 λw' H4=>r' y w' H4 Q else Q (.bl false) H3)
theorem PF {op BD:CmpOp}{r r':R2}(ho:bJ X (compareOp op) r)(bL:bJ X (compareOp BD) r')(ha:PE X a ta)(hb:PE X b tb)(hc:PE X c tc)(hm:lastMarks [op,BD] [b,c]=false:=by with_unfolding_all rfl):PE X (.Compare a [op,BD] [b,c] pos) (PD r r' ta tb tc):=by
 intro pins s U H Q I h;refine Compare_chain (ai (ha pins s U H _ I h) λv s1 ⟨x,H1,I1,r1,q1⟩=>chain_link (ai (hb pins s1 U H1 _ I1 q1) λu s2 ⟨y,H2,I2,r2,q2⟩=>ai (ho pins s2 U H2 x y v u _ I2 r1 r2 q2) λd s3 zQ=>?_)) hm;obtain⟨z,H3,I3,r3,k,e,q3⟩:=zQ;subst e;cases r3;refine wpAny_truthy_bool ?_;cases k with
 |false=>exact ite_ff ⟨.bl false,H3,I3,rfl,q3⟩
 |true=>exact ite_tt (chain_last (ai (hc pins s3 U H3 _ I3 q3) λw' s4 ⟨z',H4,I4,r4,q4⟩=>bL pins s4 U H4 y z' u w' Q I4 r2 r4 q4))
noncomputable def IF (K:PySem.W.Frag)(x:V)(H:Hp)(k:Bool):Prop:=match x with
 | .aq=>k=false
 | .bl b=>k=b
 | .int i=>k=(i != 0)
 | .str y=>y.length<=sizeLine/\k=((y.length:Int) != 0)
 | .eV y=>y.size<=sizeLine/\k=((y.size:Int) != 0)
 | .ref p=>(∃xs,af K H p xs/\k=!xs.isEmpty)\/(∃xs,ay K H p xs/\k=!xs.isEmpty)\/∃aa,H p=some (.dK aa)/\k=!aa.isEmpty
 |_=>False
theorem PH {B:Type}{aa:List (B×V)}{vs:List (B×Value)}(r:KV aa vs):(!vs.isEmpty)=!aa.isEmpty:=by cases r<;>rfl
theorem IG {xs:List V}{its:List Value}(r:Vals xs its):(!its.toArray.isEmpty)=!xs.isEmpty:=by cases r<;>simp
theorem lU:(sizeLine:Nat)<2^63:=by rw[sizeLine_eq];decide
theorem PJ:Pm X (λx H Q=>∃k,IF X.K x H k/\Q k H):=by
 intro pins s U H x v Q I rx h;obtain⟨k,e,q⟩:=h;have hl:=lU;have hs:sizeLine=16777216:=sizeLine_eq;cases x with
 |aq=>cases rx;have e':k=false:=e;subst e';exact truthy_none ⟨H,I,q⟩
 |bl b=>cases rx;have e':k=b:=e;subst e';exact wpAny_truthy_bool ⟨H,I,q⟩
 |int i=>obtain⟨t,rfl⟩:=rx;have e':k=(i != 0):=e;subst e';exact PySem.P.truthy_int ⟨H,I,q⟩
 |str y=>obtain⟨t,rfl⟩:=rx;obtain⟨hy,e'⟩:y.length<=sizeLine/\k=((y.length:Int) != 0):=e;subst e';exact PySem.P.truthy_str (by lia) ⟨H,I.tok _,q⟩
 |eV y=>obtain⟨t,rfl⟩:=rx;obtain⟨hy,e'⟩:y.size<=sizeLine/\k=((y.size:Int) != 0):=e;subst e';exact PySem.W.truthy_bytes (by lia) ⟨H,I.tok _,q⟩
 |ref p=>
  cases rx;have e':(∃xs,af X.K H p xs/\k=!xs.isEmpty)\/(∃xs,ay X.K H p xs/\k=!xs.isEmpty)\/∃aa,H p=some (.dK aa)/\k=!aa.isEmpty:=e;rcases e' with⟨xs,hx,e'⟩|⟨xs,hx,e'⟩|⟨aa,hx,e'⟩
  .subst e';obtain⟨its,r,pl,hz⟩:=I.list hx;have hlen:=r.length;exact wpAny_truthy_list pl.isList (by simp only[size_toArray];lia) ⟨H,I.tok _,by rw[IG r];exact q⟩
  .subst e';obtain⟨its,r,pl,hz⟩:=I.tuple hx;have hlen:=r.length;exact truthy_tuple pl (by simp only[size_toArray];lia) ⟨H,I.tok _,by rw[IG r];exact q⟩
  .subst e';obtain⟨hz,hS,vs,r,m⟩:aa.length<=sizeLine/\(p==sysModules)=false/\∃vs,KV aa vs/\s.heap.DictOf (zf X.prog X.w) p vs:=I.ah p _ hx;have hlen:aa.length=vs.length:=Paired.length r;exact wpAny_truthy_dict hS m (by lia) ⟨H,I.tok _,by rw[PH r];exact q⟩
 |_=>exact(show False from e).elim
theorem PL (ha:PE X a ta)(he:∀whole,isTrue a X.env whole=(do let v<-whole;standAt a.pos;holding [v] (truthy v))):PT X a (λU H Q=>ta U H λx H'=>∃k,IF X.K x H' k/\Q k H'):=by
 intro pins s U H Q I h;exact isTrue_plain (ai (ha pins s U H _ I h) λv s1 ⟨x,H1,I1,r1,q1⟩=>PJ pins s1 U H1 x v Q I1 r1 q1) (he _)
theorem vals1 {x:V}{us:List Value}(r:Vals [x] us):∃u,us=[u]/\RelV x u:=by
 cases r with
 |cons r1 r2=>cases r2;exact⟨_,rfl,r1⟩
theorem vals2 {x y:V}{us:List Value}(r:Vals [x,y] us):∃u w',us=[u,w']/\RelV x u/\RelV y w':=by
 cases r with
 |cons r1 r2=>
  cases r2 with
  |cons r3 r4=>cases r4;exact⟨_,_,rfl,r1,r3⟩
end
structure ni (h:Heap)(x dx C:Addr)(mA:Str->Option Value):Prop where
 obj:h.get? x=some (PySem.W.instObj C dx)
 ns:h.Ns1 dx mA
 ne:dx≠x
theorem PM {h:Heap}{dx:Addr}{mA:Str->Option Value}(n:h.Ns1 dx mA):∃od,h.get? dx=some od/\∀name,PySem.W.lookIn name od=some (mA name):=by
 obtain⟨o,es,ep,ho,hd,hk,_,hm⟩:=n;refine⟨o,ho,λname=>?_⟩;have e:=hm name;unfold nsFind findBy at e;rw[<-Array.find?_toList]at e;unfold PySem.W.lookIn;rw[hd];dsimp only;split
 .rename_i y q;rw[q]at e;exact congrArg some e
 .rename_i q;rw[q]at e;have a:es.toList.any (·.refKey)=false:=by
   rw[List.any_eq_false];intro y hy;obtain⟨z,t,dD⟩:=hk y (Array.mem_toList_iff.mp hy);simp[DictEntry.refKey,dD]
  have a':¬es.toList.any (·.refKey)=true:=by rw[a];exact Bool.false_ne_true
  rw[if_neg a'];exact congrArg some e
theorem ni.look {h:Heap}{x dx C:Addr}{mA:Str->Option Value}(I:ni h x dx C mA):∃od,PySem.W.InstAt h x (PySem.W.instObj C dx) C (some od)/\∀name,PySem.W.lookIn name od=some (mA name):=
 let⟨od,ho,hl⟩:=PM I.ns
 ⟨od,⟨I.obj,rfl,rfl,ho⟩,hl⟩
section
variable {prog:Program}{w:World}{A:Around}{E:Value->Shared->Prop}{s:Shared}{K:PySem.W.Frag}{x dx C f:Addr}{mA:Str->Option Value}{name:Str}{v:Value}
theorem get_map {expr:Bool}{Q:Value->Shared->Prop}(X:K.In s.heap)(I:ni s.heap x dx C mA)(hg:PySem.W.plainGet K C name=true)(hh:PySem.W.hasDictIn K C=true)(ha:PySem.W.findIn K (.ref C) name=some none)(hv:mA name=some v)(PN:PySem.W.handedIn v=true)(h:Q v {s with toks:=s.toks+1}):
  wpAny (model prog w) A (getAttr (.ref x) name expr) Q E s:=by
 obtain⟨od,J,hl⟩:=I.look;exact PySem.W.get_value X J (PySem.W.plainGet_of hg).1 (PySem.W.findObj_own hh ha rfl (by rw[hl,hv])) PN h
theorem PQ {pl:Sem Bool}{Q:Value×List Value->Shared->Prop}(X:K.In s.heap)(I:ni s.heap x dx C mA)(hg:PySem.W.plainGet K C name=true)(hf:PySem.W.findIn K (.ref C) name=some (some (.ref f)))(ht:PySem.W.isFn K (.ref f)=true)(hv:mA name=none)(h:Q (.ref f,[.ref x]) s):
  wpAny (model prog w) A (getMethod (.ref x) name pl) Q E s:=by
 obtain⟨od,J,hl⟩:=I.look;exact PySem.W.method_fn X J (PySem.W.plainGet_of hg).1 (PySem.W.plainGet_of hg).2 hf (beq_iff_eq.mp ht) (by show(PySem.W.lookIn name od).map (·.isSome)=some false;rw[hl,hv];rfl) h
theorem BE {ns:List Str}{Q:Unit->Shared->Prop}(X:K.In s.heap)(I:ni s.heap x dx C mA)(hs:PySem.W.findIn K (.ref C) "__setattr__"=some (some (.builtin "object.__setattr__")))(hp:PySem.W.plainOver K C=true)(ht:PySem.W.takerIn K C name=some none)(hh:PySem.W.hasDictIn K C=true)(hw:PySem.Within mA ns)(hsz:ns.length<=sizeLine)(h:∀h',ni h' x dx C (λy=>if y=name then some v else mA y)->Heap.SameBut dx s.heap h'->Q () {s with heap:=h',toks:=s.toks+2}):
  wpAny (model prog w) A (setAttr (.ref x) name v) Q E s:=by
 obtain⟨od,J,hl⟩:=I.look;refine PySem.W.set_plain X J hs (PySem.W.osa_open (s:={s with toks:=s.toks+1}) (r:=none) X J hp ht λb=>?_);obtain⟨cd,hc,cV⟩:=PySem.W.any_some hh;have hx:s.heap.get? x=some ⟨.ref C,some dx,.plain,#[]⟩:=I.obj;refine wpAny_bind (wpAny_pure (wpAny_bind (wpAny_bind (wpAny_loadPart hx (wpAny_bind (PySem.W.Looks.here (s:={s with toks:=s.toks+1}) (PySem.W.looks_clsIn X hc) ?_))))));rw[cV];refine wpAny_pure (a:=some dx) (wpAny_bind (wpAny_pure (wpAny_bind ?_)));refine wpAny_nsSet1 (s:={s with toks:=s.toks+1}) I.ns λh' kJ qR=>?_;obtain⟨oD,PR,PU,BF,BG,ig⟩:=kJ.count (PySem.Within.cons name v hw);refine wpAny_bind (wpAny_lookBehind BF (by rw[BG];exact pastItsLine_dict (le_trans ig (by rw[length_cons];lia))) ?_);exact wpAny_pure (h _ ⟨(qR.2 _ (Ne.symm I.ne)).trans I.obj,kJ,I.ne⟩ qR)
theorem IH {R:Result->Shared->Prop}{vs:List Value}{kw:List (Str×Value)}(X:K.In s.heap)(hm:PySem.W.makesIn K C=true)(hi:PySem.W.findIn K (.ref C) "__init__"=some (some (.ref f)))(hf:PySem.W.typeIn K (.ref f)=some (.type "function"))(h:codeAny (model prog w) (A.under (.builtin "type.__call__" ⟨.ref C::vs,kw⟩)) (.call (.ref f) ⟨.ref (s.heap.objs.size+1)::vs,kw⟩) (PySem.W.InitBack (s.heap.objs.size+1) R) {s with heap:=(s.heap.push PySem.W.emptyDict).push (PySem.W.instObj C s.heap.objs.size)}):
  codeAny (model prog w) A (.call (.ref C) ⟨vs,kw⟩) R s:=by
 obtain⟨hh,g,d,t,os⟩:=s;exact PySem.W.make_core (PySem.W.makes_of X hm) (PySem.W.looks_findIn X hi) (λself=>PySem.W.bind_fn X self hf) (.inl rfl) h
end
noncomputable def kq (f:Str)(v:V):List (Str×V)->List (Str×V)
 |[]=>[(f,v)]
 |(g,x)::r=>if g=f then(g,v)::r else(g,x)::kq f v r
theorem jk (f g:Str)(v:V):∀fs:List (Str×V),(kq f v fs).lookup g=if g=f then some v else fs.lookup g
 |[]=>by
  show List.lookup g [(f,v)]=_;by_cases h:g=f
  .have hb:(g==f)=true:=beq_iff_eq.mpr h;simp only[List.lookup,hb,if_pos h]
  .have hb:(g==f)=false:=beq_eq_false_iff_ne.mpr h;simp only[List.lookup,hb,if_neg h]
 | (k,x)::r=>by
  have ih:=jk f g v r;rw[show kq f v ((k,x)::r)=(if k=f then(k,v)::r else(k,x)::kq f v r)from rfl];by_cases hk:k=f
  .rw[if_pos hk];by_cases h:g=k
   .have hb:(g==k)=true:=beq_iff_eq.mpr h;simp only[List.lookup,hb,if_pos (h.trans hk)]
   .have hb:(g==k)=false:=beq_eq_false_iff_ne.mpr h;simp only[List.lookup,hb,if_neg (λe:g=f=>h (e.trans hk.symm))]
  .rw[if_neg hk];by_cases h:g=k
   .have hb:(g==k)=true:=beq_iff_eq.mpr h;simp only[List.lookup,hb,if_neg (λe:g=f=>hk (h.symm.trans e))]
   .have hb:(g==k)=false:=beq_eq_false_iff_ne.mpr h;simp only[List.lookup,hb];exact ih
theorem BH (f:Str)(v:V):∀fs:List (Str×V),f∈(kq f v fs).map (·.1)/\∀g,g∈fs.map (·.1)->g∈(kq f v fs).map (·.1)
 |[]=>⟨by simp[kq],λg h=>by simp at h⟩
 | (k,x)::r=>by
  obtain⟨i1,i2⟩:=BH f v r;rw[show kq f v ((k,x)::r)=(if k=f then(k,v)::r else(k,x)::kq f v r)from rfl];by_cases hk:k=f
  .rw[if_pos hk];subst hk;exact⟨by simp,λg h=>by simpa using h⟩
  .rw[if_neg hk];refine⟨?_,λg h=>?_⟩
   .rw[map_cons];exact mem_cons_of_mem _ i1
   .rw[map_cons]at h⊢;rcases mem_cons.mp h with e|e
    .exact mem_cons.mpr (.inl e)
    .exact mem_cons_of_mem _ (i2 g e)
theorem II (f:Str)(v:V):∀fs:List (Str×V),(kq f v fs).length<=fs.length+1
 |[]=>by simp[kq]
 |(k,x)::r=>by
  have ih:=II f v r;rw[show kq f v ((k,x)::r)=(if k=f then(k,v)::r else(k,x)::kq f v r)from rfl];by_cases hk:k=f
  .rw[if_pos hk,length_cons,length_cons];lia
  .rw[if_neg hk,length_cons,length_cons];lia
theorem dI.some_of {v:V}{o:Option Value}(r:dI (some v) o):∃u,o=some u/\RelV v u:=by
 cases o with
 |none=>exact(show False from r).elim
 |some u=>exact⟨u,rfl,r⟩
theorem dI.none_of {o:Option Value}(r:dI none o):o=none:=by
 cases o with
 |none=>rfl
 |some u=>exact(show False from r).elim
theorem PV {v:V}{u:Value}(r:RelV v u):PySem.W.handedIn u=true:=by
 cases v with
 |aq=>cases(show u=Value.none from r);rfl
 |bl b=>cases(show u=Value.bool b from r);rfl
 |int i=>obtain⟨t,e⟩:=(show ∃t,u=Value.int i t from r);cases e;rfl
 |str x=>obtain⟨t,e⟩:=(show ∃t,u=Value.str x t from r);cases e;rfl
 |eV b=>obtain⟨t,e⟩:=(show ∃t,u=Value.bytes b t from r);cases e;rfl
 |lJ b=>obtain⟨t,e⟩:=(show ∃t,u=Value.float b t from r);cases e;rfl
 |ref a=>cases(show u=Value.ref a from r);rfl
 |ty n=>cases(show u=Value.type n from r);rfl
section
variable {P:Program}{w:World}{H H':Hp}{h h':Heap}{a C dx:Addr}{fs fs':List (Str×V)}
theorem wD (ah:bI P w H h)(e:H a=some (.ins C dx fs)):∃mA,ni h a dx C mA/\(∀f,dI (fs.lookup f) (mA f))/\PySem.Within mA (fs.map (·.1))/\fs.length<=1000/\H dx=some (.own a):=by obtain⟨d,z,ne,ob,mA,n,r,q⟩:=(show wc P w H h a (.ins C dx fs)from ah a _ e);exact⟨mA,⟨ob,n,ne⟩,r,q,z,d⟩
end
structure eP (K:PySem.W.Frag)(C:Addr):Prop where
 pg:PySem.W.plainGet K C Str.empty=true
 hd:PySem.W.hasDictIn K C=true
 po:PySem.W.plainOver K C=true
 sa:PySem.W.findIn K (.ref C) "__setattr__"=some (some (.builtin "object.__setattr__"))
theorem eP.get {K:PySem.W.Frag}{C:Addr}(c:eP K C)(f:Str):PySem.W.plainGet K C f=true:=c.pg
noncomputable def yi (K:PySem.W.Frag)(C:Addr)(f:Str):Prop:=PySem.W.findIn K (.ref C) f=some none
theorem yi.PX {K:PySem.W.Frag}{C:Addr}{f:Str}(n:yi K C f):PySem.W.takerIn K C f=some none:=by unfold PySem.W.takerIn;rw[show PySem.W.findIn K (.ref C) f=some none from n];rfl
structure Meth (K:PySem.W.Frag)(C:Addr)(m:Str)(f:Addr):Prop where
 at_:PySem.W.findIn K (.ref C) m=some (some (.ref f))
 fn:PySem.W.isFn K (.ref f)=true
 kp:PySem.W.keepIn K (.ref f)=true
section
variable {X:Cx}{pins:List (Addr×Obj)}{U:St}{H:Hp}{s:Shared}{a C dx:Addr}{fs:List (Str×V)}{f:Str}{v:V}{A:Around}{E:Value->Shared->Prop}
theorem PY {b:Bool}{Q:Value->Shared->Prop}(I:Inv X pins U H s)(e:H a=some (.ins C dx fs))(c:eP X.K C)(n:yi X.K C f)(l:fs.lookup f=some v)(h:∀u s',Inv X pins U H s'->RelV v u->Q u s'):wpAny (model X.prog X.w) A (getAttr (.ref a) f b) Q E s:=by
 obtain⟨mA,O,r,_,_,_⟩:=wD I.ah e;obtain⟨u,hu,ru⟩:=dI.some_of (v:=v) (o:=mA f) (by rw[<-l];exact r f);exact get_map I.aT O (c.get f) c.hd n hu (PV ru) (h u _ (I.tok _) ru)
theorem wF {m:Str}{g:Addr}{pl:Sem Bool}{Q:Value×List Value->Shared->Prop}(I:Inv X pins U H s)(e:H a=some (.ins C dx fs))(c:eP X.K C)(k:Meth X.K C m g)(l:fs.lookup m=none)(h:Q (.ref g,[.ref a]) s):wpAny (model X.prog X.w) A (getMethod (.ref a) m pl) Q E s:=by
 obtain⟨mA,O,r,_,_,_⟩:=wD I.ah e;have hn:mA m=none:=dI.none_of (by rw[<-l];exact r m);exact PQ I.aT O (c.get m) k.at_ k.fn hn h
theorem PZ {y:V}{u:Value}{Q:Unit->Shared->Prop}(I:Inv X pins U H s)(e:H a=some (.ins C dx fs))(c:eP X.K C)(n:yi X.K C f)(hl:fs.length<1000)(ry:RelV y u)(h:∀s',Inv X pins U (upd H a (.ins C dx (kq f y fs))) s'->Q () s'):wpAny (model X.prog X.w) A (setAttr (.ref a) f u) Q E s:=by
 obtain⟨mA,O,r,wi,_,ho⟩:=wD I.ah e;have hz:(fs.map (·.1)).length<=sizeLine:=by rw[length_map,sizeLine_eq];lia
 refine BE I.aT O c.sa c.po n.PX c.hd wi hz λh' O' sb=>h _ ?_;have hd:∃o,h'.get? dx=some o:=let⟨o,_,_,e',_⟩:=O'.ns;⟨o,e'⟩;refine I.write (x:=a) (e:=dx) (by rw[e];exact True.intro) (.inr ho) (λb q hb z=>(sb.2 b hb).trans z) hd ?_;refine⟨by rw[jg O.ne];exact ho,?_,O.ne,O'.obj,_,O'.ns,λg=>?_,λg hg=>?_⟩
 .have:=II f y fs;lia
 .show dI ((kq f y fs).lookup g) (if g=f then some u else mA g);rw[jk];by_cases q:g=f
  .rw[if_pos q,if_pos q];exact ry
  .rw[if_neg q,if_neg q];exact r g
 .by_cases q:g=f
  .rw[q];exact(BH f y fs).1
  .refine(BH f y fs).2 g (wi g λz=>hg ?_);show(if g=f then some u else mA g)=none;rw[if_neg q];exact z
theorem Inv.made (I:Inv X pins U H s):Inv X pins U (upd (upd H s.heap.objs.size (.own (s.heap.objs.size+1))) (s.heap.objs.size+1) (.ins C s.heap.objs.size [])) {s with heap:=(s.heap.push PySem.W.emptyDict).push (PySem.W.instObj C s.heap.objs.size)}:=by
 have e1:(s.heap.push PySem.W.emptyDict).get? s.heap.objs.size=some PySem.W.emptyDict:=Heap.get?_push_size s.heap rfl;have e2:((s.heap.push PySem.W.emptyDict).push (PySem.W.instObj C s.heap.objs.size)).get? (s.heap.objs.size+1)=some (PySem.W.instObj C s.heap.objs.size):=by have:=Heap.get?_push_size (s.heap.push PySem.W.emptyDict) (o:=PySem.W.instObj C s.heap.objs.size) rfl;rwa[Heap.size_push]at this
 have e3:(s.heap.push PySem.W.emptyDict).Ns s.heap.objs.size (λ_=>none):=⟨PySem.W.emptyDict,#[],_,e1,rfl,(λe he=>absurd he (by simp)),λ_=>rfl⟩;have I1:=I.laid (a:=s.heap.objs.size) (o:=.own (s.heap.objs.size+1)) (h':=s.heap.push PySem.W.emptyDict) (t':=s.toks) (λb u q=>Heap.get?_push_of_some _ q) (le_refl _) ⟨_,e1⟩;refine I1.laid (a:=s.heap.objs.size+1) (o:=.ins C s.heap.objs.size []) (t':=s.toks) (λb u q=>Heap.get?_push_of_some _ q) (Nat.le_of_eq (Heap.size_push _ _)) ?_;have ne:s.heap.objs.size≠s.heap.objs.size+1:=ne_of_lt (lt_succ_self _);refine⟨by rw[jg ne,ja],zero_le _,ne,e2,λ_=>none,(Heap.Ns1.of_empty e3).at λo q=>Heap.get?_push_of_some _ q,λ_=>True.intro,λy hy=>absurd rfl hy⟩
theorem P0 {prog:Program}{w:World}{env:Env}{e:Expr}{f:Str}{pos:Pos}{s:Shared}{Q:Value->Shared->Prop}(hb:attributeBase e f env (eval e env)=eval e env)(h:wpAny (model prog w) A (eval e env) (λo aj=>wpAny (model prog w) A (getAttr o f true) Q E aj) E s):wpAny (model prog w) A (eval (.Attribute e f pos) env) Q E s:=
 Attribute_any_ h (by rw[arm_eval_Attribute,hb])
end
noncomputable def P2 (K:PySem.W.Frag)(ta:TE)(f:Str):TE:=λU H Q=>ta U H λx H1=>∃a C dx fs v,x= .ref a/\H1 a=some (.ins C dx fs)/\eP K C/\yi K C f/\fs.lookup f=some v/\Q v H1
noncomputable def P4 (K:PySem.W.Frag)(ta tv:TE)(f:Str):TS:=λD U H=>tv U H λy H1=>ta U H1 λx H2=>∃a C dx fs,x= .ref a/\H2 a=some (.ins C dx fs)/\eP K C/\yi K C f/\fs.length<1000/\D.nx U (upd H2 a (.ins C dx (kq f y fs)))
section
variable {X:Cx}{o e value:Expr}{f:Str}{pos pos' mW:Pos}{ta tv:TE}
theorem qd (he:PE X e ta)(hb:attributeBase e f X.env (eval e X.env)=eval e X.env):PE X (.Attribute e f pos) (P2 X.K ta f):=by intro pins s U H Q I h;refine P0 hb (ai (he pins s U H _ I h) λu s1 zQ=>?_);obtain⟨x,H1,I1,rx,a,C,dx,fs,v,ex,ea,c,n,l,q⟩:=zQ;subst ex;obtain rfl:u=Value.ref a:=rx;exact PY I1 ea c n l λu' s2 I2 ru=>⟨v,H1,I2,ru,q⟩
theorem dM (ha:PE X o ta)(hv:PE X value tv)(hs:swapsWith value (some (.Attribute o f pos')) pos.line X.env=pure false):PS X (.Assign [.Attribute o f pos'] value pos) (P4 X.K ta tv f):=by intro pins s U H D I h;refine plainObj_wpAny_Assign_Attribute (ai (hv pins s U H _ I h) λu s1 ⟨y,H1,I1,ry,q⟩=>ai (ha pins s1 U H1 _ I1 q) λov s2 zQ=>?_) hs;obtain⟨x,H2,I2,rx,a,C,dx,fs,ex,ea,c,n,l,q2⟩:=zQ;subst ex;obtain rfl:ov=Value.ref a:=rx;exact PZ I2 ea c n l ry λs3 I3=>⟨U,_,I3,q2⟩
theorem j2z {pl:Sem Bool}{m:Str}{apos:Pos}{args:List Expr}{pins:List (Addr×Obj)}{s:Shared}{U:St}{H:Hp}{Q:Value->Shared->Prop}{te:TE}(he:PE X e te)(I:Inv X pins U H s)(h:te U H λx H1=>∃a C dx fs g,x= .ref a/\H1 a=some (.ins C dx fs)/\eP X.K C/\Meth X.K C m g/\fs.lookup m=none/\∀s1,Inv X pins U H1 s1->wpAny (model X.prog X.w) X.A (callWith pos (.ref g) [.ref a] (backTo pos (starEach args X.env)) (backToKw pos (keywordEach [] X.env))) Q X.xe s1)(ht:eval (.Call (.Attribute e m apos) args [] pos) X.env=(do
   let ov<-eval e X.env
   standAt apos.atName
   let(f,first)<-holding [ov] (getMethod ov m pl)
   callWith pos f first (backTo pos (starEach args X.env)) (backToKw pos (keywordEach [] X.env)))) :
  wpAny (model X.prog X.w) X.A (eval (.Call (.Attribute e m apos) args [] pos) X.env) Q X.xe s:=by
 refine PySem.W.methodCall_KW (pl:=pl) (ai (he pins s U H _ I h) λu s1 zQ=>?_) ht;obtain⟨x,H1,I1,rx,a,C,dx,fs,g,ex,ea,c,k,l,q⟩:=zQ;subst ex;obtain rfl:u=Value.ref a:=rx;exact wF I1 ea c k l (q s1 I1)
end
section
variable {X:Cx}{pins:List (Addr×Obj)}{U:St}{H:Hp}{s:Shared}{A:Around}{E:Value->Shared->Prop}{Q:Value->Shared->Prop}{c:Value}{b:Bool}
inductive fU (K:PySem.W.Frag)(H:Hp):V->Value->Prop where
 |aq:fU K H .aq (.type "NoneType")
 |bl (x:Bool):fU K H (.bl x) (.type "bool")
 |int (i:Int):fU K H (.int i) (.type "int")
 |str (x:Str):fU K H (.str x) (.type "str")
 |lJ (x:UInt64):fU K H (.lJ x) (.type "float")
 |lst {a:Addr} {xs:List V} (e:H a=some (.lst xs)):fU K H (.ref a) (.type "list")
 |aY {a:Addr} {o:Obj} {xs:List V} (e:H a=some (.aY o (.lst xs))):fU K H (.ref a) (.type "list")
 |tup {a:Addr} {xs:List V} (e:H a=some (.tup xs)):fU K H (.ref a) (.type "tuple")
 |dK {a:Addr} {aa:List (Key×V)} (e:H a=some (.dK aa)):fU K H (.ref a) (.type "dict")
 |dT {a:Addr} {aa:List (List Key×V)} (e:H a=some (.dT aa)):fU K H (.ref a) (.type "dict")
 |ins {a C dx:Addr} {fs:List (Str×V)} (e:H a=some (.ins C dx fs)) (cl:eP K C) (ha:PySem.W.findIn K (.ref C) "__class__"=some (some (.builtin "object.__class__"))) (hn:PySem.W.specialIn K (.builtin "object.__class__") "__get__"=some (some (.builtin "getset_descriptor.__get__"))) (IJ:PySem.W.takesIn K (.builtin "object.__class__")=some true) (hm:PySem.W.mroIn K C (.type "object")=some true):fU K H (.ref a) (.ref C)
theorem P5 {x:V}{u t:Value}(I:Inv X pins U H s)(rx:RelV x u)(ty:fU X.K H x t)(e:PySem.W.kitOne X.K t c=some b)(h:∀tk,Q (.bool b) {s with toks:=tk}):wpAny (model X.prog X.w) A (call (.builtin "isinstance") [u,c]) Q E s:=by
 cases ty with
 |aq=>cases(show u=Value.none from rx);exact PySem.W.kia_one PySem.W.kitx_none I.aT True.intro e (λz=>nomatch z) h
 |bl y=>cases(show u=Value.bool y from rx);exact PySem.W.kia_one PySem.W.kitx_bool I.aT True.intro e (λz=>nomatch z) h
 |int i=>obtain⟨t,q⟩:=(show ∃t,u=Value.int i t from rx);cases q;exact PySem.W.kia_one PySem.W.kitx_int I.aT True.intro e (λz=>nomatch z) h
 |str y=>obtain⟨t,q⟩:=(show ∃t,u=Value.str y t from rx);cases q;exact PySem.W.kia_one PySem.W.kitx_str I.aT True.intro e (λz=>nomatch z) h
 |lJ y=>obtain⟨t,q⟩:=(show ∃t,u=Value.float y t from rx);cases q;exact PySem.W.kia_one PySem.W.kitx_float I.aT True.intro e (λz=>nomatch z) h
 |@lst a xs ea=>cases(show u=Value.ref a from rx);obtain⟨_,_,n,_,h1⟩:=(show wc X.prog X.w H s.heap a (.lst xs)from I.ah a _ ea);exact PySem.W.kia_one PySem.W.kitx_list I.aT ⟨_,h1,rfl⟩ e (λz=>nomatch z) h
 |@aY a ob xs ea=>cases(show u=Value.ref a from rx);obtain⟨_,_,_,n,_,h1⟩:=(show wc X.prog X.w H s.heap a (.aY ob (.lst xs))from I.ah a _ ea);exact PySem.W.kia_one PySem.W.kitx_list I.aT ⟨_,h1,rfl⟩ e (λz=>nomatch z) h
 |@tup a xs ea=>cases(show u=Value.ref a from rx);obtain⟨_,_,_,p⟩:=(show wc X.prog X.w H s.heap a (.tup xs)from I.ah a _ ea);obtain⟨o,h1,h2,_⟩:=p;exact PySem.W.kia_one PySem.W.kitx_tuple I.aT ⟨o,h1,h2⟩ e (λz=>nomatch z) h
 |@dK a aa ea=>cases(show u=Value.ref a from rx);obtain⟨_,_,vs,_,p⟩:=(show wc X.prog X.w H s.heap a (.dK aa)from I.ah a _ ea);obtain⟨o,es,ep,h1,h2,_⟩:=p;exact PySem.W.kia_one PySem.W.kitx_dict I.aT ⟨o,h1,h2.1⟩ e (λz=>nomatch z) h
 |@dT a aa ea=>cases(show u=Value.ref a from rx);obtain⟨_,_,xs,_,o,es,ep,h1,h2,_⟩:=(show wc X.prog X.w H s.heap a (.dT aa)from I.ah a _ ea);exact PySem.W.kia_one PySem.W.kitx_dict I.aT ⟨o,h1,h2.1⟩ e (λz=>nomatch z) h
 |@ins a C dx fs ea cl ha hn IJ hm=>cases(show u=Value.ref a from rx);obtain⟨mA,O,_⟩:=wD I.ah ea;obtain⟨od,J,_⟩:=O.look;exact PySem.W.kia_one (PySem.W.kitx_own (cl.get _) cl.hd ha hn IJ hm) I.aT J e (λz=>nomatch z) h
end
structure aZ (k:Nat)(A:Around):Prop where
 hd:A.handled=none
 dp:A.depth+3*k+5<recursionLimit
 un:A.units+16*k+200<cLine
theorem aZ.mono {j k:Nat}{A:Around}(r:aZ k A)(h:j<=k):aZ j A:=⟨r.hd,by have:=r.dp;lia,by have:=r.un;lia⟩
theorem aZ.dn {j k:Nat}{A:Around}(r:aZ k A)(h:autoParam (j<=k) aP2):aZ j A:=r.mono h
theorem aZ.deeper {k:Nat}{A:Around}(r:aZ (k+1) A)(env:Env):aZ k (A.deeper env):=⟨r.hd,by have:=r.dp;show A.depth+1+3*k+5<_;lia,by have:=r.un;show A.units+3+16*k+200<_;lia⟩
theorem P6 {A:Around}{C:Addr}{us:List Value}{kw:List (Str×Value)}:(A.under (.builtin "type.__call__" ⟨.ref C::us,kw⟩)).depth=A.depth+1:=by first|rfl|simp[Around.under,Code.weight,Code.isCreation,Code.isGuard,Code.isCaller,Code.frames,Code.isFrame,guardIds]
theorem P7 {A:Around}{C:Addr}{us:List Value}{kw:List (Str×Value)}:(A.under (.builtin "type.__call__" ⟨.ref C::us,kw⟩)).units=A.units+1:=by first|rfl|simp[Around.under,Code.cUnits,Code.frames,Code.isFrame]
theorem aZ.make {k:Nat}{A:Around}(r:aZ (k+1) A)(C:Addr)(us:List Value)(kw:List (Str×Value)):aZ k (A.under (.builtin "type.__call__" ⟨.ref C::us,kw⟩)):=⟨r.hd,by have:=r.dp;rw[P6];lia,by have:=r.un;rw[P7];lia⟩
theorem aZ.depth {k:Nat}{A:Around}(r:aZ k A):A.depth<recursionLimit:=by have:=r.dp;lia
theorem aZ.units {k:Nat}{A:Around}(r:aZ k A):A.units+64<cLine:=by have:=r.un;lia
noncomputable def gM:TA:=λ_ H Q=>Q [] H
noncomputable def xp (ta:TE)(tr:TA):TA:=λU H Q=>ta U H λx H1=>tr U H1 λxs H2=>Q (x::xs) H2
section
variable {X:Cx}{e:Expr}{es:List Expr}{te:TE}{t:TA}{pos:Pos}
theorem jf:PA X [] gM:=λ_ _ _ _ H Q I h=>Calls.spliced_nil ⟨[],H,I,.nil,h⟩
theorem P8 (ha:PE X e te)(hr:PA X es t)(hs:autoParam (starEach (e::es) X.env=(false,eval e X.env)::starEach es X.env) aP1):PA X (e::es) (xp te t):=by intro pos pins s U H Q I h;rw[hs];show wpAny _ _ (spliced ((false,eval e X.env)::backTo pos (starEach es X.env))) _ _ s;refine Calls.spliced_cons (ai (ha pins s U H _ I h) λu s1 zQ=>?_);obtain⟨x,H1,I1,r1,q1⟩:=zQ;exact ai (hr pos pins s1 U H1 _ I1 q1) λus s2 ⟨xs,H2,I2,r2,q2⟩=>⟨x::xs,H2,I2,.cons r1 r2,q2⟩
noncomputable def P9 (t:TA):TE:=λU H Q=>t U H λxs H1=>xs.length<=sizeLine/\∀p,H1 p=none->Q (.ref p) (upd H1 p (.tup xs))
noncomputable def Qa (t:TA):TE:=λU H Q=>t U H λxs H1=>xs.length<=sizeLine/\∀p,H1 p=none->Q (.ref p) (upd H1 p (.lst xs))
theorem fW {x1}(h:PA X es t):PE X (.Tuple es x1 pos) (P9 t):=by intro pins s U H Q I hq;refine wpAny_Tuple_spliced (ai (h pos pins s U H _ I hq) λus s1 ⟨xs,H1,I1,r,z,q⟩=>⟨by rw[<-r.length];exact z,?_⟩);have hf:H1 s1.heap.objs.size=none:=I1.ah.fresh (le_refl _);refine⟨.ref s1.heap.objs.size,upd H1 s1.heap.objs.size (.tup xs),I1.laid (t':=s1.toks) (λb u e=>Heap.get?_push_of_some _ e) (le_refl _) ?_,rfl,q _ hf⟩;exact⟨z,us,r,⟨_,Heap.get?_push_size _ rfl,rfl,_,rfl⟩⟩
theorem qq (h:PA X es t):PE X (.List es pos) (Qa t):=by intro pins s U H Q I hq;refine wpAny_List_spliced (ai (h pos pins s U H _ I hq) λus s1 ⟨xs,H1,I1,r,z,q⟩=>⟨by rw[<-r.length];exact z,?_⟩);have hf:H1 s1.heap.objs.size=none:=I1.ah.fresh (le_refl _);refine⟨.ref s1.heap.objs.size,upd H1 s1.heap.objs.size (.lst xs),I1.laid (t':=s1.toks) (λb u e=>Heap.get?_push_of_some _ e) (le_refl _) ?_,rfl,q _ hf⟩;exact⟨z,us,0,r,Heap.get?_push_size _ rfl⟩
end
noncomputable abbrev Sp:=List V->Hp->VK->XK->Prop
noncomputable abbrev eQ:=List Env->Hp->Shared->XK->Value->Shared->Prop
structure nj (P:Program)(w:World)(K:PySem.W.Frag)(mg:Str->Option Value)(base:Heap)(A:Around)(outer:List Env)(s:Shared)(H:Hp):Prop where
 frames:A.frames=some outer
 mod:Mod K mg base
 bs:∀b o,base.get? b=some o->s.heap.get? b=some o/\H b=none
 iY:base.objs.size<=s.heap.objs.size
 eL:s.heap.FunFrames base outer
 hU:∀b∈bp outer,H b=none
 ah:bI P w H s.heap
 bare:AllBare s.gens
noncomputable def CE (outer:List Env)(P:Program)(w:World)(H:Hp)(s:Shared)(Q:VK)(u:Value)(s':Shared):Prop:=∃v H',s'.os=s.os/\AllBare s'.gens/\Un (bp outer) [] H H' s.heap s'.heap/\bI P w H' s'.heap/\RelV v u/\Q v H'
noncomputable def CR (CX:eQ)(outer:List Env)(P:Program)(w:World)(H:Hp)(s:Shared)(Q:VK)(E:XK)(r:Result)(s':Shared):Prop:=match r with
 | .ok (.ret u)=>CE outer P w H s Q u s'
 | .ok _=>False
 | .error e=>CX outer H s E e s'
structure xl (P:Program)(w:World)(K:PySem.W.Frag)(mg:Str->Option Value)(base:Heap)(CX:eQ)(k:Nat)(f:Addr)(fd:FuncData)(ps:List Str)(sp:Sp):Prop where
 len:∀vs H Q E,sp vs H Q E->vs.length=ps.length
 run:∀(A:Around)(outer:List Env)(s:Shared)(H:Hp)(args:Args)(us:List Value)(vs:List V)(Q:VK)(E:XK),aZ k A->nj P w K mg base A outer s H->BindsTo s fd args (ps.zip us)->Vals vs us->sp vs H Q E->codeAny (model P w) A (.call (.ref f) args) (CR CX outer P w H s Q E) s
theorem nj.make {P:Program}{w:World}{K:PySem.W.Frag}{mg:Str->Option Value}{base:Heap}{A:Around}{outer:List Env}{s:Shared}{H:Hp}(e:nj P w K mg base A outer s H)(C:Addr)(us:List Value)(kw:List (Str×Value)):nj P w K mg base (A.under (.builtin "type.__call__" ⟨.ref C::us,kw⟩)) outer s H:=⟨by first|exact e.frames|(simpa[Around.under,Code.envs,Code.isFrame,pushEnvs]using e.frames),e.mod,e.bs,e.iY,e.eL,e.hU,e.ah,e.bare⟩
section
variable {X:Cx}{pins:List (Addr×Obj)}{U:St}{H:Hp}{s s':Shared}
theorem Inv.oQ (I:Inv X pins U H s):nj X.prog X.w X.K X.mg X.base X.A X.stack s H:=⟨I.ok.frames,I.ok.mod,I.bs,le_trans I.ok.iY I.sz,I.stack,I.vN,I.ah,I.bare⟩
theorem Inv.after {Q:VK}{u:Value}(I:Inv X pins U H s)(h:CE X.stack X.prog X.w H s Q u s'):EP X pins U Q u s':=by obtain⟨v,H',os,bare,un,ah,r,q⟩:=h;obtain⟨hh,g,d,t,Qb⟩:=s';obtain rfl:Qb=s.os:=os;exact⟨v,H',I.call (h':=hh) (g':=g) (d':=d) (t':=t) (ch:=[]) un ah bare (λb z=>absurd z (by simp)),r,q⟩
end
noncomputable def BI (sp:Sp)(bB:List V)(E:XK)(t:TA):TE:=λU H Q=>t U H λvs H1=>sp (vs++bB) H1 Q E
noncomputable def IK (C:Addr)(m:Str)(sp:Sp)(bB:List V)(E:XK)(ta:TE)(t:TA):TE:=λU H Q=>ta U H λx H1=>∃a dx fs,x= .ref a/\H1 a=some (.ins C dx fs)/\fs.lookup m=none/\t U H1 λvs H2=>sp (x::(vs++bB)) H2 Q E
noncomputable def Qc (C:Addr)(sp:Sp)(bB:List V)(E:XK)(t:TA):TE:=λU H Q=>t U H λvs H1=>∀x dx,H1 x=none->H1 dx=none->dx≠x->sp (.ref x::(vs++bB)) (upd (upd H1 dx (.own x)) x (.ins C dx [])) (λv H2=>v= .aq/\Q (.ref x) H2) E
noncomputable def Binds (K:PySem.W.Frag)(fd:FuncData)(ps:List Str)(ds:List Value):Prop:=∀(s:Shared)(us:List Value),K.In s.heap->(us++ds).length=ps.length->BindsTo s fd ⟨us,[]⟩ (ps.zip (us++ds))
theorem Binds.all {K:PySem.W.Frag}{fd:FuncData}{ps:List Str}(h:∀us:List Value,us.length=ps.length->bindArgs fd ⟨us,[]⟩=pure (ps.zip us)):Binds K fd ps []:=λs us _ hl=>by rw[append_nil]at hl⊢;exact .of_eq (h us hl)
noncomputable def Passes (CX:eQ)(X:Cx)(E:XK):Prop:=∀(pins:List (Addr×Obj))(U:St)(H:Hp)(s:Shared)(e:Value)(s':Shared),Inv X pins U H s->CX X.stack H s E e s'->X.xe e s'
section
variable {X:Cx}{CX:eQ}{k:Nat}{f C:Addr}{fd:FuncData}{ps:List Str}{sp:Sp}{bB:List V}{ds:List Value}{E:XK}{x m:Str}{p pos apos:Pos}{e o:Expr}{es:List Expr}{ta:TE}{t:TA}
theorem wG {pins:List (Addr×Obj)}{U:St}{H:Hp}{s:Shared}{Q:VK}{us:List Value}{vs:List V}(F:xl X.prog X.w X.K X.mg X.base CX k f fd ps sp)(hr:aZ k X.A)(hb:Binds X.K fd ps ds)(hd:Vals bB ds)(hx:Passes CX X E)(I:Inv X pins U H s)(r:Vals vs us)(h:sp (vs++bB) H Q E):wpAny (model X.prog X.w) X.A (call (.ref f) us) (EP X pins U Q) X.xe s:=by
 have r2:Vals (vs++bB) (us++ds):=r.append hd;have hl:(us++ds).length=ps.length:=by rw[<-r2.length];exact F.len _ _ _ _ h
 refine wpAny_call (codeAny_mono (F.run X.A X.stack s H ⟨us,[]⟩ (us++ds) (vs++bB) Q E hr I.oQ (hb s us I.aT hl) r2 h) λr s' hq=>?_);cases r with
 |error e=>exact hx pins U H s e s' I hq
 |ok fl=>
  cases fl with
  |ret u=>exact I.after hq
  |next=>exact False.elim hq
  |brk=>exact False.elim hq
  |cont=>exact False.elim hq
theorem jr (F:xl X.prog X.w X.K X.mg X.base CX k f fd ps sp)(hr:aZ k X.A)(hg:Gl X x)(hm:X.mg x=some (.ref f))(hk:PySem.W.keepIn X.K (.ref f)=true)(hb:Binds X.K fd ps ds)(hd:Vals bB ds)(hx:Passes CX X E)(ha:PA X (e::es) t)(cE:autoParam ((x==("__debug__":Str))=false) aP2)(he:autoParam (starEach (e::es) X.env=(false,eval e X.env)::starEach es X.env) aP1)(cp:autoParam ((backTo pos (starEach es X.env)).any (·.1)=false) aP1):
  PE X (.Call (.Name x p) (e::es) [] pos) (BI sp bB E t):=by
 intro pins s U H Q I h;refine wpAny_Call_Name_kw (lO I hg hm ?_ cE);refine PySem.W.callWith_K (h₀:=X.base) I.ok.mod.eK hk (ai (ha pos pins s U H _ I h) λus s1 ⟨vs,H1,I1,r,q⟩=>⟨I1.aT,?_⟩) he cp;exact wG F hr hb hd hx I1 r q
theorem qc {pl:Sem Bool}(he:PE X o ta)(c:eP X.K C)(hm:Meth X.K C m f)(F:xl X.prog X.w X.K X.mg X.base CX k f fd ps sp)(hr:aZ k X.A)(hb:Binds X.K fd ps ds)(hd:Vals bB ds)(hx:Passes CX X E)(ha:PA X (e::es) t)(i6:autoParam (starEach (e::es) X.env=(false,eval e X.env)::starEach es X.env) aP1)(cp:autoParam ((backTo pos (starEach es X.env)).any (·.1)=false) aP1)(ht:autoParam (eval (.Call (.Attribute o m apos) (e::es) [] pos) X.env=(do
   let ov<-eval o X.env
   standAt apos.atName
   let(f,first)<-holding [ov] (getMethod ov m pl)
   callWith pos f first (backTo pos (starEach (e :: es) X.env)) (backToKw pos (keywordEach [] X.env)))) aP1) :
  PE X (.Call (.Attribute o m apos) (e::es) [] pos) (IK C m sp bB E ta t):=by
 intro pins s U H Q I h;refine PySem.W.methodCall_KW (pl:=pl) (ai (he pins s U H _ I h) λu s1 zQ=>?_) ht;obtain⟨x,H1,I1,rx,a,dx,fs,ex,ea,l,q⟩:=zQ;subst ex;obtain rfl:u=Value.ref a:=rx;refine wF I1 ea c hm l ?_;refine PySem.W.callWith_K (first:=[.ref a]) (h₀:=X.base) I.ok.mod.eK hm.kp (ai (ha pos pins s1 U H1 _ I1 q) λus s2 ⟨vs,H2,I2,r,q2⟩=>⟨I2.aT,?_⟩) i6 cp;exact wG (us:=.ref a::us) (vs:=.ref a::vs) F hr hb hd hx I2 (.cons rfl r) q2
theorem nt {pl:Sem Bool}(he:PE X o ta)(c:eP X.K C)(hm:Meth X.K C m f)(F:xl X.prog X.w X.K X.mg X.base CX k f fd ps sp)(hr:aZ k X.A)(hb:Binds X.K fd ps ds)(hd:Vals bB ds)(hx:Passes CX X E)(ht:autoParam (eval (.Call (.Attribute o m apos) [] [] pos) X.env=(do
   let ov<-eval o X.env
   standAt apos.atName
   let(f,first)<-holding [ov] (getMethod ov m pl)
   callWith pos f first (backTo pos (starEach [] X.env)) (backToKw pos (keywordEach [] X.env)))) aP1) :
  PE X (.Call (.Attribute o m apos) [] [] pos) (IK C m sp bB E ta gM):=by
 intro pins s U H Q I h;refine PySem.W.methodCall_KW (pl:=pl) (ai (he pins s U H _ I h) λu s1 zQ=>?_) ht;obtain⟨x,H1,I1,rx,a,dx,fs,ex,ea,l,q⟩:=zQ;subst ex;obtain rfl:u=Value.ref a:=rx;refine wF I1 ea c hm l ?_;exact PySem.W.callWith_K0 (first:=[.ref a]) I1.aT hm.kp (wG (us:=[.ref a]) (vs:=[.ref a]) F hr hb hd hx I1 (.cons rfl .nil) q)
structure Mk (K:PySem.W.Frag)(C f:Addr):Prop where
 makes:PySem.W.makesIn K C=true
 init:PySem.W.findIn K (.ref C) "__init__"=some (some (.ref f))
 fn:PySem.W.isFn K (.ref f)=true
 kp:PySem.W.keepIn K (.ref C)=true
theorem Qd {pins:List (Addr×Obj)}{U:St}{H:Hp}{s:Shared}{Q:VK}{us:List Value}{vs:List V}(M:Mk X.K C f)(F:xl X.prog X.w X.K X.mg X.base CX k f fd ps sp)(hr:aZ (k+1) X.A)(hb:Binds X.K fd ps ds)(hd:Vals bB ds)(hx:Passes CX X E)(I:Inv X pins U H s)(r:Vals vs us)(h:∀x dx,H x=none->H dx=none->dx≠x->sp (.ref x::(vs++bB)) (upd (upd H dx (.own x)) x (.ins C dx [])) (λv H2=>v= .aq/\Q (.ref x) H2) E):
  wpAny (model X.prog X.w) X.A (call (.ref C) us) (EP X pins U Q) X.xe s:=by
 have hq:=h (s.heap.objs.size+1) s.heap.objs.size (I.ah.fresh (le_succ _)) (I.ah.fresh (le_refl _)) (ne_of_lt (lt_succ_self _));have I2:=Inv.made (C:=C) I;have r2:Vals (V.ref (s.heap.objs.size+1)::(vs++bB)) (Value.ref (s.heap.objs.size+1)::(us++ds)):=.cons rfl (r.append hd);have hl:(Value.ref (s.heap.objs.size+1)::us++ds).length=ps.length:=by have e:=r2.length;rw[F.len _ _ _ _ hq]at e;exact e.symm
 refine wpAny_call (IH (f:=f) I.aT M.makes M.init (beq_iff_eq.mp M.fn) (codeAny_mono (F.run _ X.stack _ _ ⟨Value.ref (s.heap.objs.size+1)::us,[]⟩ (Value.ref (s.heap.objs.size+1)::(us++ds)) _ _ E (hr.make C us []) (I2.oQ.make C us []) (hb _ (Value.ref (s.heap.objs.size+1)::us) I2.aT hl) r2 hq) λr s' dE=>?_));cases r with
 |error e=>exact hx pins U _ _ e s' I2 dE
 |ok fl=>
  cases fl with
  |ret u=>obtain⟨v,H',I3,rv,ev,q3⟩:=I2.after dE;subst ev;exact⟨rv,⟨V.ref (s.heap.objs.size+1),H',I3,rfl,q3⟩⟩
  |next=>exact False.elim dE
  |brk=>exact False.elim dE
  |cont=>exact False.elim dE
theorem IL (M:Mk X.K C f)(F:xl X.prog X.w X.K X.mg X.base CX k f fd ps sp)(hr:aZ (k+1) X.A)(hg:Gl X x)(hm:X.mg x=some (.ref C))(hb:Binds X.K fd ps ds)(hd:Vals bB ds)(hx:Passes CX X E)(ha:PA X (e::es) t)(cE:autoParam ((x==("__debug__":Str))=false) aP2)(he:autoParam (starEach (e::es) X.env=(false,eval e X.env)::starEach es X.env) aP1)(cp:autoParam ((backTo pos (starEach es X.env)).any (·.1)=false) aP1):
  PE X (.Call (.Name x p) (e::es) [] pos) (Qc C sp bB E t):=by
 intro pins s U H Q I h;refine wpAny_Call_Name_kw (lO I hg hm ?_ cE);refine PySem.W.callWith_K (h₀:=X.base) I.ok.mod.eK M.kp (ai (ha pos pins s U H _ I h) λus s1 ⟨vs,H1,I1,r,q⟩=>⟨I1.aT,?_⟩) he cp;exact Qd M F hr hb hd hx I1 r q
end
noncomputable def PK (X:Cx)(eR:List Keyword)(t:TA):Prop:=∀(pos:Pos)(pins:List (Addr×Obj))(s:Shared)(U:St)(H:Hp)(Q:List V->Hp->Prop),Inv X pins U H s->t U H Q->wpAny (model X.prog X.w) X.A (evalAll ((backToKw pos (keywordEach eR X.env)).map (·.2))) (AP X pins U Q) X.xe s
section
variable {X:Cx}{CX:eQ}{k:Nat}{f C:Addr}{fd:FuncData}{ps ks:List Str}{sp:Sp}{E:XK}{x m:Str}{p pos apos BJ:Pos}{e o:Expr}{es:List Expr}{eR:List Keyword}{te ta:TE}{t tk:TA}{nm:Option Str}
theorem oR:PK X [] gM:=λ_ _ _ _ H Q I h=>wpAny_evalAll_nil ⟨[],H,I,.nil,h⟩
theorem jA (ha:PE X e te)(hr:PK X eR t):PK X (⟨nm,e,BJ⟩::eR) (xp te t):=by intro pos pins s U H Q I h;show wpAny _ _ (evalAll ((do let v<-eval e X.env;standAt pos;pure v)::(backToKw pos (keywordEach eR X.env)).map (·.2))) _ _ s;refine wpAny_evalAll_cons (wpAny_bind (ai (ha pins s U H _ I h) λu s1 ⟨x,H1,I1,r1,q1⟩=>wpAny_bind (wpAny_standAt (wpAny_pure ?_))));exact ai (hr pos pins s1 U H1 _ I1 q1) λus s2 ⟨xs,H2,I2,r2,q2⟩=>⟨x::xs,H2,I2,.cons r1 r2,q2⟩
structure gN (K:PySem.W.Frag)(fd:FuncData)(ps ks:List Str)(g:List Value->List Value->List Value)(gV:List V->List V->List V):Prop where
 to:∀(s:Shared)(us ws:List Value),K.In s.heap->(g us ws).length=ps.length->BindsTo s fd ⟨us,ks.zip ws⟩ (ps.zip (g us ws))
 rel:∀{vs:List V}{us:List Value}{zs:List V}{ws:List Value},Vals vs us->Vals zs ws->Vals (gV vs zs) (g us ws)
noncomputable def Qe (sp:Sp)(gV:List V->List V->List V)(E:XK)(t tk:TA):TE:=λU H Q=>t U H λvs H1=>tk U H1 λzs H2=>sp (gV vs zs) H2 Q E
variable {g:List Value->List Value->List Value}{gV:List V->List V->List V}
theorem Qf {pins:List (Addr×Obj)}{U:St}{H:Hp}{s:Shared}{Q:VK}{us ws:List Value}{vs zs:List V}(F:xl X.prog X.w X.K X.mg X.base CX k f fd ps sp)(hr:aZ k X.A)(hb:gN X.K fd ps ks g gV)(hx:Passes CX X E)(I:Inv X pins U H s)(r:Vals vs us)(rz:Vals zs ws)(h:sp (gV vs zs) H Q E):wpAny (model X.prog X.w) X.A (call (.ref f) us (ks.zip ws)) (EP X pins U Q) X.xe s:=by
 have r2:=hb.rel r rz;have hl:(g us ws).length=ps.length:=by rw[<-r2.length];exact F.len _ _ _ _ h
 refine wpAny_call (codeAny_mono (F.run X.A X.stack s H ⟨us,ks.zip ws⟩ (g us ws) (gV vs zs) Q E hr I.oQ (hb.to s us ws I.aT hl) r2 h) λr s' hq=>?_);cases r with
 |error e=>exact hx pins U H s e s' I hq
 |ok fl=>
  cases fl with
  |ret u=>exact I.after hq
  |next=>exact False.elim hq
  |brk=>exact False.elim hq
  |cont=>exact False.elim hq
theorem qS (F:xl X.prog X.w X.K X.mg X.base CX k f fd ps sp)(hr:aZ k X.A)(hg:Gl X x)(hm:X.mg x=some (.ref f))(hk:PySem.W.keepIn X.K (.ref f)=true)(hb:gN X.K fd ps ks g gV)(hx:Passes CX X E)(ha:PA X (e::es) t)(qT:PK X eR tk)(ik:autoParam ((backToKw pos (keywordEach eR X.env)).all (·.1.isSome)=true) aP1)(BK:autoParam ((backToKw pos (keywordEach eR X.env)).filterMap (·.1)=ks) aP1)(cE:autoParam ((x==("__debug__":Str))=false) aP2)(he:autoParam (starEach (e::es) X.env=(false,eval e X.env)::starEach es X.env) aP1)(cp:autoParam (((backTo pos (starEach (e::es) X.env)).any (·.1)||(backToKw pos (keywordEach eR X.env)).any (·.1.isNone))=false) aP1):
  PE X (.Call (.Name x p) (e::es) eR pos) (Qe sp gV E t tk):=by
 intro pins s U H Q I h;refine wpAny_Call_Name_kw (lO I hg hm ?_ cE);refine PySem.W.callWith_KW (h₀:=X.base) I.ok.mod.eK hk ik (ai (ha pos pins s U H _ I h) λus s1 zQ=>?_) cp he;obtain⟨vs,H1,I1,r,q⟩:=zQ;refine ai (qT pos pins s1 U H1 _ I1 q) λws s2 ⟨zs,H2,I2,rz,q2⟩=>⟨I2.aT,?_⟩;rw[BK];exact Qf F hr hb hx I2 r rz q2
end
structure qg (N P:List Str)(sc:Scope):Prop where
 kind:sc.kind= .function
 co:sc.isCoroutine=false
 gen:sc.isGenerator=false
 nd:N.Nodup
 pre:N.take P.length=P
 par:∀x∈P,sc.names.lookup x=some .local\/sc.names.lookup x=some .cell
 Qg:∀y∈sc.names,y.2≠.free
theorem bY {N P:List Str}{sc:Scope}(a:autoParam (sc.kind= .function) aP1)(b:autoParam (sc.isCoroutine=false) aP1)(c:autoParam (sc.isGenerator=false) aP1)(d:autoParam (N.Nodup) aP4)(e:autoParam (N.take P.length=P) aP1)(f:autoParam (∀x∈P,sc.names.lookup x=some .local\/sc.names.lookup x=some .cell) aP4)(g:autoParam (∀y∈sc.names,y.2≠.free) aP4):qg N P sc:=⟨a,b,c,d,e,f,g⟩
theorem IM {kindOf:Str->Option NameKind}{x:Str}:∀{binds:List (Str×Value)}{m:Str->Option Value},(∀v,(x,v)∉binds)->bindL kindOf binds m x=m x
 |[],_,_=>rfl
 | (n,v)::r,m,h=>by
  unfold bindL;rw[IM λw hw=>h w (mem_cons_of_mem _ hw)];split
  .have:x≠n:=by rintro rfl;exact h v mem_cons_self
   simp[this]
  .rfl
theorem IP {kindOf:Str->Option NameKind}{x:Str}:∀{binds:List (Str×Value)}{m:Str->Option Value},(∀v,(x,v)∉binds)->bindC kindOf binds m x=m x
 |[],_,_=>rfl
 | (n,v)::r,m,h=>by
  unfold bindC;rw[IP λw hw=>h w (mem_cons_of_mem _ hw)];split
  .rfl
  .have:x≠n:=by rintro rfl;exact h v mem_cons_self
   simp[this]
theorem IQ {kindOf:Str->Option NameKind}{x:Str}{v:Value}:∀{P:List Str}{vs:List Value}{i:Nat}{m:Str->Option Value},P.Nodup->P[i]?=some x->vs[i]?=some v->kindOf x=some .local->bindL kindOf (P.zip vs) m x=some v
 |[],_,_,_,_,h,_,_=>by simp at h
 |_::_,[],_,_,_,_,h,_=>by simp at h
 |p::P,w::vs,0,m,nd,h1,h2,hk=>by simp at h1 h2;subst h1;subst h2;show bindL kindOf ((p,w)::P.zip vs) m p=_;unfold bindL;rw[IM λv hv=>(nodup_cons.mp nd).1 (List.of_mem_zip hv).1,if_pos hk];simp
 |p::P,w::vs,i+1,m,nd,h1,h2,hk=>by show bindL kindOf ((p,w)::P.zip vs) m x=_;unfold bindL;exact IQ (i:=i) (nodup_cons.mp nd).2 (by simpa using h1) (by simpa using h2) hk
theorem IT {kindOf:Str->Option NameKind}{x:Str}{v:Value}:∀{P:List Str}{vs:List Value}{i:Nat}{m:Str->Option Value},P.Nodup->P[i]?=some x->vs[i]?=some v->kindOf x≠some .local->bindC kindOf (P.zip vs) m x=some v
 |[],_,_,_,_,h,_,_=>by simp at h
 |_::_,[],_,_,_,_,h,_=>by simp at h
 |p::P,w::vs,0,m,nd,h1,h2,hk=>by simp at h1 h2;subst h1;subst h2;show bindC kindOf ((p,w)::P.zip vs) m p=_;unfold bindC;rw[IP λv hv=>(nodup_cons.mp nd).1 (List.of_mem_zip hv).1,if_neg hk];simp
 |p::P,w::vs,i+1,m,nd,h1,h2,hk=>by show bindC kindOf ((p,w)::P.zip vs) m x=_;unfold bindC;exact IT (i:=i) (nodup_cons.mp nd).2 (by simpa using h1) (by simpa using h2) hk
noncomputable def start (N:List Str)(vs:List V):St:=vs.map some++List.replicate (N.length-vs.length) none
noncomputable def cW (CX:eQ)(P:Program)(w:World)(K:PySem.W.Frag)(mg:Str->Option Value)(base:Heap)(N:List Str)(qual:Str)(scope:Scope)(f:Addr)(cd:Value)(A:Around)(outer:List Env)(s:Shared)(H:Hp)(E:XK):Cx where
 prog:=P
 w:=w
 K:=K
 mg:=mg
 base:=base
 A:=A.deeper (envOfC qual scope s.heap.objs.size f cd)
 N:=N
 au:=s
 bD:=H
 env:=envOfC qual scope s.heap.objs.size f cd
 outer:=outer
 stack:=envOfC qual scope s.heap.objs.size f cd::outer
 ex:=[]
 calm:=true
 fn:=λ_=>true
 pn:=[]
 xe:=λe s'=>wpAny (model P w) (A.deeper (envOfC qual scope s.heap.objs.size f cd)) (leaving (envOfC qual scope s.heap.objs.size f cd) e) (λ_ bQ=>CX outer H s E e bQ) (λe' bQ=>CX outer H s E e' bQ) s'
theorem IU {sc:Scope}{n:Nat}{x:Str}(h:sc.names.lookup x=some .cell):∃c,(cellsFrom n sc.names []).lookup x=some c:=by have q:=PySem.W.cellsFrom_some sc.names n [] (.inl h);exact Option.isSome_iff_exists.mp q
theorem Qh {CX:eQ}{P:Program}{w:World}{K:PySem.W.Frag}{mg:Str->Option Value}{base:Heap}{N ps:List Str}{qual:Str}{scope:Scope}{f:Addr}{cd:Value}{A:Around}{outer:List Env}{s s1:Shared}{H:Hp}{E:XK}{us:List Value}{vs:List V}(S:qg N ps scope)(hd:A.handled=none)(e0:nj P w K mg base A outer s H)(hl:vs.length=ps.length)(r:Vals vs us)(x:InCallC s s.heap.objs.size (bindL (envOfC qual scope s.heap.objs.size f cd).kindOf (ps.zip us) λ_=>none) (cellsFrom (s.heap.objs.size+1) scope.names []) (bindC (envOfC qual scope s.heap.objs.size f cd).kindOf (ps.zip us) λ_=>none) s1):
  Inv (cW CX P w K mg base N qual scope f cd A outer s H E) [] (start N vs) H s1:=by
 have cp:ps.length<=N.length:=by have:=congrArg List.length S.pre;rw[length_take]at this;lia
 obtain⟨h1,tk,rfl,hk⟩:=x.done;have qU:∀b:Addr,b∉(cW CX P w K mg base N qual scope f cd A outer s H E).ex:=λb z=>absurd (show b∈([]:List Addr)from z) (by simp);refine⟨⟨e0.mod,S.kind,rfl,rfl,le_refl _,λy z c h1 h2=>?_,λy hy=>?_,λy c _ h=>?_,λ_=>hd,Around.frames_deeper e0.frames,.inr ⟨rfl,rfl⟩,λb z=>absurd z (qU b),e0.bs,e0.iY,λb _ _=>qU b,λb z=>absurd z (qU b),e0.eL,e0.hU⟩,rfl,e0.bare,Un.kept hk,⟨_,x.toInCall.ns,λi y v h1 h2 h3=>?_⟩,λy c h=>⟨_,x.cell y c h⟩,e0.ah.fresh (le_refl _),λy c h=>?_,λp hp=>absurd (show p∈([]:List (Addr×Obj))from hp) (by simp),e0.ah.kept hk,?_⟩
 .exact name_of_addr x.apart (PySem.mem_of_lookup h1) (PySem.mem_of_lookup h2)
 .have hy:scope.names.lookup y=some .cell\/scope.names.lookup y=some .free:=hy;rcases hy with hy|hy
  .exact IU hy
  .exact absurd rfl (S.Qg _ (PySem.mem_of_lookup hy))
 .exact le_of_lt (x.above y c (PySem.mem_of_lookup h))
 .have hi:i<vs.length:=by
   unfold start at h2;by_cases hi:i<vs.length
   .exact hi
   .rw[List.getElem?_append_right (by simpa using hi)]at h2;rw[List.getElem?_replicate]at h2;split at h2<;>cases h2
  have ha:vs[i]?=some v:=by
   unfold start at h2;rw[List.getElem?_append_left (by simpa using hi),getElem?_map]at h2;cases e:vs[i]? with
   |none=>rw[e]at h2;cases h2
   |some a=>rw[e]at h2;cases h2;rfl
  obtain⟨u,hu,rv⟩:=r.get ha;have hp:ps[i]?=some y:=by rw[<-S.pre,List.getElem?_take_of_lt (by lia)];exact h1
  have IV:ps.Nodup:=by rw[<-S.pre];exact S.nd.sublist (List.take_sublist _ _)
  refine⟨u,rv,?_⟩;rcases S.par y (mem_of_getElem? hp)with k|k
  .exact .inl ⟨k,IQ IV hp hu k⟩
  .obtain⟨c,e⟩:=IU (n:=s.heap.objs.size+1) k;refine .inr ⟨.inl k,c,e,?_⟩;have q:=x.cell y c e;rw[IT IV hp hu (by show scope.names.lookup y≠_;rw[k];decide)]at q;exact q
 .exact e0.ah.fresh (le_of_lt (x.above y c (PySem.mem_of_lookup h)))
 .unfold start;show _=N.length;rw[length_append,length_map,length_replicate];lia
theorem IW {CX:eQ}{P:Program}{w:World}{K:PySem.W.Frag}{mg:Str->Option Value}{base:Heap}{k:Nat}{f:Addr}{name qual:Str}{params:Arguments}{body:List Stmt}{scope:Scope}{dV kV doc pm aH ct oc:Value}{an od:Option Addr}{jB:Array (Option Value)}{N ps:List Str}{sp:Sp}(lk:K.lookup f=some ⟨oc,od,.func (PySem.W.fnOf name qual params body scope dV kV doc pm an aH ct),jB⟩)(dX:PySem.W.codeIn K aH qual=true)(S:qg N ps scope)(len:∀vs H Q E,sp vs H Q E->vs.length=ps.length)(bf:∀(A:Around)(outer:List Env)(s:Shared)(H:Hp)(vs:List V)(Q:VK)(E:XK),aZ k (A.deeper (envOfC qual scope s.heap.objs.size f aH))->sp vs H Q E->∃t,cL (cW CX P w K mg base N qual scope f aH A outer s H E) body t/\t {nx:=λ_ H'=>Q .aq H',rt:=Q} (start N vs) H):
  xl P w K mg base CX (k+1) f (PySem.W.fnOf name qual params body scope dV kV doc pm an aH ct) ps sp:=by
 refine⟨len,λA outer s H args us vs Q E hr e0 hb r gO=>?_⟩;have hl:=len _ _ _ _ gO;have KX:K.In s.heap:=e0.mod.eK.keeps λb o e=>(e0.bs b o e).1;have lim:s.heap.NoLimit:=e0.mod.nolimit.keeps λb o e=>(e0.bs b o e).1;have qV:∀y∈ps.zip us,scope.names.lookup y.1=some .local\/(scope.names.lookup y.1=some .cell/\((cellsFrom (s.heap.objs.size+1) scope.names []).lookup y.1).isSome=true):=λ⟨n,v⟩ hy=>by
  rcases S.par n (List.of_mem_zip hy).1 with q|q
  .exact .inl q
  .exact .inr ⟨q,PySem.W.cellsFrom_some _ _ _ (.inl q)⟩
 refine codeAny_call_function hr.depth (KX _ _ lk) rfl S.co S.gen rfl (PySem.W.codeRec_of KX dX) (hb _ _ _ _ ?_);refine wpAny_newFunctionEnv_cells S.kind qV λenv he s1 x=>?_;subst he;refine⟨lim.keeps x.toInCall.keep,codeAny_func ?_⟩;obtain⟨t,ht,hq⟩:=bf A outer s H vs Q E (hr.deeper _) gO;have I:Inv (cW CX P w K mg base N qual scope f aH A outer s H E) [] (start N vs) H s1:=Qh S hr.hd e0 hl r x;refine wpAny_mono (ht [] s1 (start N vs) H _ I hq) (λfl s' hs=>?_) λe s' hs=>hs;have fin:∀{U':St}{H':Hp}{v:V}{u:Value},Inv (cW CX P w K mg base N qual scope f aH A outer s H E) [] U' H' s'->RelV v u->Q v H'->CE outer P w H s Q u s':=λ{U' H' v u} J rv q=>⟨v,H',J.os,J.bare,J.base,J.ah,rv,q⟩;cases fl with
 |ret u=>obtain⟨v,U',H',J,rv,q⟩:=hs;exact fin J rv q
 |next=>obtain⟨U',H',J,q⟩:=hs;exact fin (v:=V.aq) (u:=Value.none) J rfl q
 |brk=>obtain⟨_,_,_,q⟩:=hs;exact False.elim q
 |cont=>obtain⟨_,_,_,q⟩:=hs;exact False.elim q
section
variable {X:Cx}{x:Str}{p pos:Pos}{e:Expr}{es:List Expr}{t:TA}{id T:String}{r:List V->Hp->VK->Prop}
noncomputable def IY (r:List V->Hp->VK->Prop)(t:TA):TE:=λU H Q=>t U H λvs H1=>r vs H1 Q
theorem jn (hc:fT X (.builtin id) r)(hg:Gl X x)(hm:X.mg x=none)(hv:bootBuiltins x=some (.builtin id))(ha:PA X (e::es) t)(hn:autoParam (x≠"__name__") aP2)(cE:autoParam ((x==("__debug__":Str))=false) aP2)(he:autoParam (starEach (e::es) X.env=(false,eval e X.env)::starEach es X.env) aP1)(cp:autoParam ((backTo pos (starEach es X.env)).any (·.1)=false) aP1):PE X (.Call (.Name x p) (e::es) [] pos) (IY r t):=by
 intro pins s U H Q I h;refine wpAny_Call_Name_kw (vS I hg hm hv ?_ hn cE);exact PyProof.Rows.callWith_builtin1 (ai (ha pos pins s U H _ I h) λus s1 ⟨vs,H1,I1,r1,q1⟩=>hc pins s1 U H1 vs us Q I1 r1 q1) he cp
theorem lV (hc:fT X (.type T) r)(hg:Gl X x)(hm:X.mg x=none)(hv:bootBuiltins x=some (.type T))(ha:PA X (e::es) t)(hn:autoParam (x≠"__name__") aP2)(cE:autoParam ((x==("__debug__":Str))=false) aP2)(he:autoParam (starEach (e::es) X.env=(false,eval e X.env)::starEach es X.env) aP1)(cp:autoParam ((backTo pos (starEach es X.env)).any (·.1)=false) aP1):PE X (.Call (.Name x p) (e::es) [] pos) (IY r t):=by
 intro pins s U H Q I h;refine wpAny_Call_Name_kw (vS I hg hm hv ?_ hn cE);exact PyProof.Rows.callWith_type1 (ai (ha pos pins s U H _ I h) λus s1 ⟨vs,H1,I1,r1,q1⟩=>hc pins s1 U H1 vs us Q I1 r1 q1) he cp
end
end L2
namespace HT
open PySem PyProof.Rows
noncomputable def lexLt:List Int->List Int->Bool
 |[],[]=>false
 |[],_::_=>true
 |_::_,[]=>false
 |x::xs,y::ys=>if x=y then lexLt xs ys else decide (x<y)
theorem wH (x y:Int)(xs ys:List Int):lexLt (x::xs) (y::ys)=if x=y then lexLt xs ys else decide (x<y):=rfl
section
variable {prog:Program}{w:World}{A:Around}{E:Value->Shared->Prop}{s:Shared}
noncomputable def aD (n d:Nat):Option Int->Nat
 |none=>d
 |some v=>if v<0 then(v+(n:Int)).toNat else min v.toNat n
theorem IZ (n d:Nat):aD n d none=d:=rfl
theorem Ja (n d k:Nat):aD n d (some (k:Int))=min k n:=by show(if(k:Int)<0 then((k:Int)+(n:Int)).toNat else min (k:Int).toNat n)=min k n;rw[if_neg (by lia),Int.toNat_natCast]
theorem Qi (n d:Nat)(hd:d<=n)(o:Option Int):aD n d o<=n:=by
 cases o with
 |none=>exact hd
 |some v=>
  show(if v<0 then(v+(n:Int)).toNat else min v.toNat n)<=n;by_cases hv:v<0
  .rw[if_pos hv];lia
  .rw[if_neg hv];exact Nat.min_le_right _ _
theorem Jb (v:Int)(n d:Nat):(if v<0 then max (v+(n:Int)) 0 else min v (n:Int))=((aD n d (some v):Nat):Int):=by
 show(if v<0 then max (v+(n:Int)) 0 else min v (n:Int))=(((if v<0 then(v+(n:Int)).toNat else min v.toNat n):Nat):Int);by_cases hv:v<0
 .simp only[if_pos hv];lia
 .simp only[if_neg hv];lia
theorem Qj (lo hi:Option Int)(n:Nat):Builtin.Slice.sliceAdjust lo hi 1 (n:Int)=(((aD n 0 lo:Nat):Int),((aD n n hi:Nat):Int)):=by
 have h1:¬((1:Int)<0):=by lia
 unfold Builtin.Slice.sliceAdjust;simp only[h1,if_false];refine Prod.ext ?_ ?_
 .cases lo with
  |none=>rfl
  |some v=>exact Jb v n 0
 .cases hi with
  |none=>rfl
  |some v=>exact Jb v n n
theorem Qk (i j:Nat):Builtin.Slice.slicePlaces (i:Int) (j:Int) 1=j-i:=by
 unfold Builtin.Slice.slicePlaces;have h1:(1:Int)>0:=by lia
 simp only[h1,if_true,Int.ediv_one];split<;>lia
theorem Jc {v:Value}{o:Option Int}{Q:Option Int->Shared->Prop}(p:IsPart v o)(h:Q o s):wpAny (model prog w) A (Builtin.Slice.slicePartIndex v) Q E s:=by
 cases p with
 |none=>exact slicePart_none h
 |int i t=>exact slicePart_int h
theorem Ql {sl:Addr}{vl vu:Value}{lo hi:Option Int}{n:Nat}{Q:Int×Int×Nat->Shared->Prop}(hs:s.heap.IsSliceOf sl vl vu .none)(pl:IsPart vl lo)(pu:IsPart vu hi)(h:Q (((aD n 0 lo:Nat):Int),1,aD n n hi-aD n 0 lo) s):wpAny (model prog w) A (Builtin.Slice.sliceApplied (.ref sl) (pure (n:Int))) Q E s:=by
 obtain⟨os,oS,Jd,wI⟩:=id hs;unfold Builtin.Slice.sliceApplied Builtin.Slice.sliceFields;refine wpAny_bind (wpAny_bind (wpAny_field oS wI (x:=vl) rfl (wpAny_bind (wpAny_field oS wI (x:=vu) rfl (wpAny_bind (wpAny_field oS wI (x:=.none) rfl (wpAny_pure ?_)))))));refine wpAny_bind (slicePart_none ?_);show wpAny _ _ (if((1:Int)==0)=true then _ else _) _ _ s;rw[if_neg (by decide)];refine wpAny_bind (Jc pl (wpAny_bind (Jc pu (wpAny_bind (wpAny_pure ?_)))));show wpAny _ _ (match Builtin.Slice.sliceAdjust lo hi 1 (n:Int)with|(lo,hi)=>pure (lo,(1:Int),Builtin.Slice.slicePlaces lo hi 1)) _ _ s;rw[Qj lo hi n];show wpAny _ _ (pure (((aD n 0 lo:Nat):Int),(1:Int),Builtin.Slice.slicePlaces ((aD n 0 lo:Nat):Int) ((aD n n hi:Nat):Int) 1)) _ _ s;rw[Qk];exact wpAny_pure h
theorem Qm (xs:Array Value)(i k:Nat):((List.range k).filterMap λ(m:Nat)=>xs[((i:Int)+(m:Int)*1).toNat]?).toArray=((xs.toList.drop i).take k).toArray:=by
 have e:(λ(m:Nat)=>xs[((i:Int)+(m:Int)*1).toNat]?)=λm=>xs[i+m]?:=by
  funext m;have:((i:Int)+(m:Int)*1).toNat=i+m:=by lia
  rw[this]
 rw[e];have:=pick_run xs i k;rw[List.filterMap_map]at this;have e2:((λx=>xs[x]?)∘λx=>i+x)=λm=>xs[i+m]?:=rfl;rw[e2]at this;rw[this]
theorem Qn {t sl:Addr}{items:Array Value}{vl vu:Value}{lo hi:Option Int}{Q:Value->Shared->Prop}(ht:IsTup s.heap t items)(hs:s.heap.IsSliceOf sl vl vu .none)(pl:IsPart vl lo)(pu:IsPart vu hi)(hw:¬(aD items.size 0 lo=0/\aD items.size items.size hi=items.size))(h:Q (.ref s.heap.objs.size) {s with heap:=s.heap.push {cls:=.type "tuple",data:=.seq ((items.toList.drop (aD items.size 0 lo)).take (aD items.size items.size hi-aD items.size 0 lo)).toArray}})(hsz:items.size<=sizeLine):wpAny (model prog w) A (getItem (.ref t) (.ref sl)) Q E s:=by
 have fH:sizeOk (.seq ((items.toList.drop (aD items.size 0 lo)).take (aD items.size items.size hi-aD items.size 0 lo)).toArray):=by show((items.toList.drop (aD items.size 0 lo)).take (aD items.size items.size hi-aD items.size 0 lo)).toArray.size<=sizeLine;rw[size_toArray,length_take,length_drop,Array.length_toList];lia
 have hj:aD items.size items.size hi<=items.size:=Qi _ _ (le_refl _) hi;obtain⟨os,oS,Jd,wI⟩:=id hs;have Qo:s.TypeIs (.ref sl) "slice":=⟨os,oS,Jd⟩;unfold getItem;try with_reducible refine wpAny_holding ?_
 first|refine wpAny_bind (wpAny_pure ?_)|skip
 refine wpAny_bind (wpAny_sequenceKey ht.typeIs (by decide) ?_);refine wpAny_bind (wpAny_callSpecial?_slot (name:=Str.ofString "__getitem__") ht.typeIs PyProof.Rows.slot_tuple_getitem (wpAny_call_entry PyProof.Rows.slot_tuple_getitem ht.typeIs entry_tuple_getitem ?_ (args_tuple_getitem _ _)));show wpAny _ _ (Builtin.Tuple.tupleItemsOf (.ref t) >>= _) _ _ s;refine wpAny_bind (tupleItemsOf_ ht ?_);refine wpAny_bind (wpAny_typeOf Qo ?_);rw[if_pos (by decide)];refine wpAny_bind (Ql hs pl pu ?_);have kK:¬((((aD items.size 0 lo:Nat):Int)==0&&(1:Int)==1&&(aD items.size items.size hi-aD items.size 0 lo)==items.size)=true):=by
  intro q;rw[Bool.and_eq_true,Bool.and_eq_true]at q;have q1:((aD items.size 0 lo:Nat):Int)=0:=eq_of_beq q.1.1;have q2:aD items.size items.size hi-aD items.size 0 lo=items.size:=eq_of_beq q.2;exact hw ⟨by lia,by lia⟩
 show wpAny _ _ (if(((aD items.size 0 lo:Nat):Int)==0&&(1:Int)==1&&(aD items.size items.size hi-aD items.size 0 lo)==items.size)=true then _ else _) _ _ s;rw[if_neg kK,Qm];first
  |exact wpAny_bind (m:=Builtin.Tuple.tupleExact _) (wpAny_newObj_type (wpAny_pure ⟨_,rfl,wpAny_pure h⟩) fH)
  |exact wpAny_bind (m:=Builtin.Tuple.tupleExact _) (wpAny_newObj_type (wpAny_bind (wpAny_pure (wpAny_pure ⟨_,rfl,wpAny_pure h⟩))) fH)
  |exact wpAny_bind (wpAny_bind (m:=Builtin.Tuple.tupleExact _) (wpAny_newObj_type (wpAny_pure (wpAny_pure ⟨_,rfl,wpAny_pure h⟩)) fH))
  |exact wpAny_bind (wpAny_bind (m:=Builtin.Tuple.tupleExact _) (wpAny_newObj_type (wpAny_pure ⟨_,rfl,wpAny_pure h⟩) fH))
end
end HT
namespace L2
open PySem PySem.Spec PyProof.Rows
noncomputable abbrev TO:=St->Hp->(Option Int->Hp->Prop)->Prop
noncomputable def PO (X:Cx)(e:Option Expr)(t:TO):Prop:=∀(pins:List (Addr×Obj))(s:Shared)(U:St)(H:Hp)(Q:Option Int->Hp->Prop),Inv X pins U H s->t U H Q->wpAny (model X.prog X.w) X.A (evalPart e X.env) (λu s'=>∃o H',Inv X pins U H' s'/\IsPart u o/\Q o H') X.xe s
noncomputable def Qp:TO:=λ_ H Q=>Q none H
noncomputable def Qq (t:TE):TO:=λU H Q=>t U H λx H1=>∃i,x= .int i/\Q (some i) H1
theorem intsAre_of {ns:List Int}:∀{us:List Value},Vals (ns.map V.int) us->IntsAre us ns:=by
 induction ns with
 |nil=>intro us r;rw[map_nil]at r;cases r;exact .nil
 |cons n ns ih=>
  intro us r;rw[map_cons]at r;cases r with
  |cons r1 r2=>obtain⟨t,e⟩:=r1;subst e;exact .cons n t (ih r2)
section
variable {X:Cx}{e:Expr}{te:TE}{lo hi:Option Expr}{tl th:TO}{pos p2:Pos}
theorem BL:PO X none Qp:=by intro pins s U H Q I h;rw[evalPart_none];exact wpAny_pure ⟨none,H,I,.none,h⟩
theorem BM (h:PE X e te):PO X (some e) (Qq te):=by intro pins s U H Q I hw;rw[evalPart_some];refine ai (h pins s U H _ I hw) λu s1 zQ=>?_;obtain⟨x,H1,I1,r1,q1⟩:=zQ;obtain⟨i,rfl,q⟩:=q1;obtain⟨t,rfl⟩:=r1;exact⟨some i,H1,I1,.int i t,q⟩
noncomputable def BN (X:Cx)(r:V->Option Int->Option Int->Hp->VK->Prop):Prop:=∀(pins:List (Addr×Obj))(s:Shared)(U:St)(H:Hp)(x:V)(v vl vu:Value)(lo hi:Option Int)(sl:Addr)(Q:VK),Inv X pins U H s->RelV x v->s.heap.IsSliceOf sl vl vu .none->IsPart vl lo->IsPart vu hi->r x lo hi H Q->∃T id,typeLookup (.type T) "__getitem__"=pure (some (.builtin id))/\s.TypeIs v T/\wpAny (model X.prog X.w) X.A (getItem v (.ref sl)) (EP X pins U Q) X.xe s
noncomputable def Qr (r:V->Option Int->Option Int->Hp->VK->Prop)(te:TE)(tl th:TO):TE:=λU H Q=>te U H λx H1=>tl U H1 λl H2=>th U H2 λu H3=>r x l u H3 Q
theorem BO {r:V->Option Int->Option Int->Hp->VK->Prop}(hr:BN X r)(he:PE X e te)(hl:PO X lo tl)(hu:PO X hi th):PE X (.Subscript e (.Slice lo hi none p2) pos) (Qr r te tl th):=by intro pins s U H Q I h;refine Subscript_ (ai (he pins s U H _ I h) λv s1 zQ=>?_);obtain⟨x,H1,I1,r1,q1⟩:=zQ;refine wpAny_Slice (ai (hl pins s1 U H1 _ I1 q1) λvl s2 ⟨l,H2,I2,pl,q2⟩=>ai (hu pins s2 U H2 _ I2 q2) λvu s3 zQ=>?_);obtain⟨u,H3,I3,pu,q3⟩:=zQ;rw[evalPart_none];refine wpAny_pure ?_;have I4:Inv X pins U H3 {s3 with heap:=s3.heap.push {cls:=.type "slice",data:=.fields #[vl,vu,.none]}}:=I3.kept (t':=s3.toks) λb ob q=>Heap.get?_push_of_some _ q;obtain⟨T,id,hT,ht,hg⟩:=hr pins {s3 with heap:=s3.heap.push {cls:=.type "slice",data:=.fields #[vl,vu,.none]}} U H3 x v vl vu l u s3.heap.objs.size Q I4 r1 (Heap.IsSliceOf.new ..) pl pu q3;show wpAny (model X.prog X.w) X.A (subscriptTail e (.Slice lo hi none p2) v (.ref s3.heap.objs.size)) (EP X pins U Q) X.xe {s3 with heap:=s3.heap.push {cls:=.type "slice",data:=.fields #[vl,vu,.none]}};exact tail_any (ops:=[.ref s3.heap.objs.size,v]) ht hT hg (by with_unfolding_all rfl)
noncomputable def jC (xs:List V)(lo hi:Option Int):List V:=(xs.drop (HT.aD xs.length 0 lo)).take (HT.aD xs.length xs.length hi-HT.aD xs.length 0 lo)
theorem Je (xs:List V)(lo hi:Option Int):(jC xs lo hi).length<=xs.length:=by unfold jC;rw[length_take,length_drop];lia
noncomputable def Qs (K:PySem.W.Frag):V->Option Int->Option Int->Hp->VK->Prop:=λx lo hi H Q=>∃a xs,x= .ref a/\ay K H a xs/\¬(HT.aD xs.length 0 lo=0/\HT.aD xs.length xs.length hi=xs.length)/\∀p,H p=none->Q (.ref p) (upd H p (.tup (jC xs lo hi)))
theorem Qt:BN X (Qs X.K):=by
 intro pins s U H x v vl vu lo hi sl Q I rx hs pl pu h;obtain⟨a,xs,rfl,hx,hw,q⟩:=h;cases rx;obtain⟨its,r,ht,hz⟩:=I.tuple hx;have hlen:its.toArray.size=xs.length:=by rw[size_toArray];exact r.length.symm
 refine⟨"tuple",_,PyProof.Rows.slot_tuple_getitem.lookup,ht.typeIs,?_⟩;refine HT.Qn ht hs pl pu (by rw[hlen];exact hw) ?_ (by rw[hlen];exact hz);rw[hlen];refine⟨.ref s.heap.objs.size,_,I.laid (t':=s.toks) (o:=.tup (jC xs lo hi)) (λb ob q=>Heap.get?_push_of_some _ q) (le_refl _) ?_,rfl,q _ (I.ah.fresh (le_refl _))⟩;exact⟨le_trans (Je xs lo hi) hz,_,(r.drop (HT.aD xs.length 0 lo)).take (HT.aD xs.length xs.length hi-HT.aD xs.length 0 lo),IsTup.new _ _⟩
end
noncomputable def lW (n:Nat)(i:Int):Option Nat:=if 0<=i then(if i<n then some i.toNat else none)else if-(n:Int)<=i then some (i+n).toNat else none
noncomputable def il {α:Type}(xs:List α)(i:Int):Option α:=(lW xs.length i).bind λj=>xs[j]?
theorem Jf {n:Nat}{i:Int}{j:Nat}(h:lW n i=some j):seqIndex? i n=some j/\j<n/\-(n:Int)<=i/\i<n:=by
 unfold lW at h;by_cases h0:0<=i
 .rw[if_pos h0]at h;by_cases h1:i<n
  .rw[if_pos h1]at h;have e:i.toNat=j:=Option.some.inj h;exact⟨by rw[seqIndex_of h0 h1,e],by lia,by lia,h1⟩
  .rw[if_neg h1]at h;cases h
 .rw[if_neg h0]at h;by_cases h1:-(n:Int)<=i
  .rw[if_pos h1]at h;have e:(i+n).toNat=j:=Option.some.inj h;exact⟨by rw[seqIndex_neg (by lia) h1,e],by lia,h1,by lia⟩
  .rw[if_neg h1]at h;cases h
theorem Jg {α:Type}{xs:List α}{i:Int}{v:α}(h:il xs i=some v):∃j,seqIndex? i xs.length=some j/\xs[j]?=some v/\j<xs.length/\-(xs.length:Int)<=i/\i<xs.length:=by
 unfold il at h;cases e:lW xs.length i with
 |none=>rw[e]at h;cases h
 |some j=>rw[e]at h;obtain⟨h1,h2,h3,h4⟩:=Jf e;exact⟨j,h1,h,h2,h3,h4⟩
noncomputable def Qu (b:Expr):Prop:=∀o i,subscripted b false o i=operate [o,i] (getItem o i)
noncomputable def qW (X:Cx)(r:R2):Prop:=∀(value slice:Expr)(pins:List (Addr×Obj))(s:Shared)(U:St)(H:Hp)(x y:V)(v u:Value)(Q:VK),Inv X pins U H s->RelV x v->RelV y u->r x y H Q->subscripted slice false v u=operate [v,u] (getItem v u)->wpAny (model X.prog X.w) X.A (subscriptTail value slice v u) (EP X pins U Q) X.xe s
noncomputable def qX (X:Cx)(id:String)(r:V->List V->Hp->VK->Prop):Prop:=∀(pins:List (Addr×Obj))(s:Shared)(U:St)(H:Hp)(x:V)(xs:List V)(v:Value)(us:List Value)(Q:VK),Inv X pins U H s->RelV x v->Vals xs us->r x xs H Q->wpAny (model X.prog X.w) X.A (call (.builtin id) (v::us)) (EP X pins U Q) X.xe s
section
variable {X:Cx}{a b:Expr}{ta tb:TE}{pos:Pos}
theorem j7 {r:R2}(hr:qW X r)(ha:PE X a ta)(hb:PE X b tb)(hs:Qu b):PE X (.Subscript a b pos) (gL r ta tb):=by intro pins s U H Q I h;exact Subscript_ (Bw ha hb I h λv u s2 x y H2 I2 rx ry q=>hr a b pins s2 U H2 x y v u Q I2 rx ry q (hs _ _))
noncomputable def oT (K:PySem.W.Frag):R2:=λx y H Q=>∃p xs i v,x= .ref p/\y= .int i/\af K H p xs/\il xs i=some v/\Q v H
noncomputable def wJ (K:PySem.W.Frag):R2:=λx y H Q=>∃p xs i v,x= .ref p/\y= .int i/\ay K H p xs/\il xs i=some v/\Q v H
theorem jo:qW X (oT X.K):=by
 intro value slice pins s U H x y v u Q I rx ry h hs;obtain⟨p,xs,i,z,rfl,rfl,hq,he,q⟩:=h;cases rx;obtain⟨t,rfl⟩:=ry;obtain⟨its,r,pl,hz⟩:=I.list hq;obtain⟨j,h1,h2,h3,h4,h5⟩:=Jg he;obtain⟨w,ew,cz⟩:=r.get h2;have hl:=r.length;have hn:=lU;have fin:EP X pins U Q w s:=⟨z,H,I,cz,q⟩;by_cases h0:0<=i
 .have hj:i.toNat=j:=by
   rw[seqIndex_of h0 h5]at h1;exact Option.some.inj h1
  exact item_listR pl.isList h0 (by lia) (by rw[hj];simpa using ew) fin hs
 .have hj:(i+(its.toArray.size:Int)).toNat=j:=by
   rw[seqIndex_neg (by lia) h4]at h1;rw[size_toArray,<-hl];exact Option.some.inj h1
  exact subscriptTail_builtinR (x:=w) pl.isList.typeIs slot_list_getitem.lookup (wpAny_getItem_list_neg (Q:=λr s'=>r=w/\EP X pins U Q r s') pl.isList (by lia) (by rw[size_toArray]<;>lia) (by lia) (by rw[hj];simpa using ew) ⟨rfl,fin⟩) hs
theorem fb:qW X (wJ X.K):=by
 intro value slice pins s U H x y v u Q I rx ry h hs;obtain⟨p,xs,i,z,rfl,rfl,hq,he,q⟩:=h;cases rx;obtain⟨t,rfl⟩:=ry;obtain⟨its,r,pl,hz⟩:=I.tuple hq;obtain⟨j,h1,h2,h3,h4,h5⟩:=Jg he;obtain⟨w,ew,cz⟩:=r.get h2;have hl:=r.length;have hn:=lU;have fin:EP X pins U Q w s:=⟨z,H,I,cz,q⟩;exact subscriptTail_builtinR (x:=w) pl.typeIs slot_tuple_getitem.lookup (getItem_tuple (j:=j) (Q:=λr s'=>r=w/\EP X pins U Q r s') pl (by lia) (by lia) (by rw[size_toArray,<-hl];exact h1) (by simpa using ew) ⟨rfl,fin⟩) hs
theorem Qv (its:List Value)(n j:Nat)(u:Value):Obj.mapSeq (·.setIfInBounds j u) {cls:=.type "list",data:=.seq its.toArray n}={cls:=.type "list",data:=.seq (its.set j u).toArray n}:=by simp[Obj.mapSeq]
theorem Inv.lst {pins:List (Addr×Obj)}{U:St}{H:Hp}{s:Shared}{p:Addr}{xs:List V}(I:Inv X pins U H s)(h:H p=some (.lst xs)):∃(its:List Value)(n:Nat),Vals xs its/\s.heap.get? p=some {cls:=.type "list",data:=.seq its.toArray n}/\xs.length<=sizeLine:=by
 obtain⟨z,its,n,r,e⟩:=I.ah p _ h;exact⟨its,n,r,e,z⟩
theorem Inv.Qw {pins:List (Addr×Obj)}{U:St}{H:Hp}{s:Shared}{p:Addr}{xs ys:List V}{its its':List Value}{n n':Nat}{f:Obj->Obj}(I:Inv X pins U H s)(h:H p=some (.lst xs))(ho:s.heap.get? p=some {cls:=.type "list",data:=.seq its.toArray n})(hf:f {cls:=.type "list",data:=.seq its.toArray n}={cls:=.type "list",data:=.seq its'.toArray n'})(r:Vals ys its')(hz:ys.length<=sizeLine)(t:Nat):
  Inv X pins U (upd H p (.lst ys)) {s with heap:=s.heap.update p f,toks:=t}:=by
 have e:(s.heap.update p f).get? p=some {cls:=.type "list",data:=.seq its'.toArray n'}:=by rw[Heap.get?_update_self f ho (by rw[hf]<;>rfl),hf]
 refine I.write (x:=p) (e:=p) (by rw[h];trivial) (.inl rfl) (λb u hb q=>(Heap.get?_update_other _ _ (Ne.symm hb)).trans q) ⟨_,e⟩ ?_;exact⟨hz,its',n',r,e⟩
noncomputable def Qx:V->V->V->Hp->(Hp->Prop)->Prop:=λo i v H Q=>∃p xs k j,o= .ref p/\i= .int k/\H p=some (.lst xs)/\lW xs.length k=some j/\Q (upd H p (.lst (xs.set j v)))
theorem set_list:Br X Qx:=by
 intro pins s U H o i v ov iv u Q I ro ri rv h;obtain⟨p,xs,k,j,rfl,rfl,hp,hj,q⟩:=h;cases ro;obtain⟨t,rfl⟩:=ri;obtain⟨its,n,r,ho,hz⟩:=I.lst hp;obtain⟨h1,h2,h3,h4⟩:=Jf hj;have hl:=r.length;have hn:=lU;have I':Inv X pins U (upd H p (.lst (xs.set j v))) {s with heap:=s.heap.update p (Obj.mapSeq (·.setIfInBounds j u))}:=I.Qw hp ho (Qv its n j u) (r.set rv j) (by rw[length_set];exact hz) s.toks;by_cases h0:0<=k
 .have hk:k.toNat=j:=by
   rw[seqIndex_of h0 h4]at h1;exact Option.some.inj h1
  exact PySem.W.ki_setAt ho h0 (by lia) (by rw[size_toArray,<-hl];exact h4) (by rw[hk];exact⟨_,I',q⟩)
 .have hk:(k+(its.toArray.size:Int)).toNat=j:=by
   rw[seqIndex_neg (by lia) h3]at h1;rw[size_toArray,<-hl];exact Option.some.inj h1
  exact PySem.W.ki_setBack ho (by lia) (by rw[size_toArray,<-hl];exact h3) (by lia) (by rw[hk];exact⟨_,I',q⟩)
theorem Qy (lo hi:Option Int)(n:Nat):(sliceBounds lo hi none n).1=((HT.aD n 0 lo:Nat):Int)/\(sliceBounds lo hi none n).2.1=((HT.aD n n hi:Nat):Int)/\(sliceBounds lo hi none n).2.2=1:=by
 refine⟨?_,?_,rfl⟩
 .cases lo with
  |none=>simp[sliceBounds,HT.aD]
  |some i=>
   simp only[sliceBounds,HT.aD,Option.getD_none,show(1:Int)>0 by decide,if_true];by_cases h:i<0
   .simp only[h,if_true]<;>lia
   .simp only[h,if_false]<;>lia
 .cases hi with
  |none=>simp[sliceBounds,HT.aD]
  |some i=>
   simp only[sliceBounds,HT.aD,Option.getD_none,show(1:Int)>0 by decide,if_true];by_cases h:i<0
   .simp only[h,if_true]<;>lia
   .simp only[h,if_false]<;>lia
theorem Qz (its:List Value)(lo hi:Option Int):slicePick its.toArray lo hi none=((its.drop (HT.aD its.length 0 lo)).take (HT.aD its.length its.length hi-HT.aD its.length 0 lo)).toArray:=by obtain⟨h1,h2,h3⟩:=Qy lo hi its.toArray.size;unfold slicePick;rw[h1,h2,h3];simp only[sliceRange_one,pick_run,size_toArray]<;>rfl
noncomputable def QA (K:PySem.W.Frag):V->Option Int->Option Int->Hp->VK->Prop:=λx lo hi H Q=>∃a xs,x= .ref a/\af K H a xs/\∀p,H p=none->Q (.ref p) (upd H p (.lst (jC xs lo hi)))
theorem Jh:BN X (QA X.K):=by intro pins s U H x v vl vu lo hi sl Q I rx hs pl pu h;obtain⟨a,xs,rfl,hx,q⟩:=h;cases rx;obtain⟨its,r,ht,hz⟩:=I.list hx;have hlen:=r.length;refine⟨"list",_,slot_list_getitem.lookup,ht.isList.typeIs,?_⟩;refine wpAny_getItem_list_slice ht.isList hs pl pu .none (by simp) ?_ (by rw[size_toArray]<;>lia);rw[Qz,<-hlen];refine⟨.ref s.heap.objs.size,_,I.laid (t':=s.toks) (o:=.lst (jC xs lo hi)) (λb ob q=>Heap.get?_push_of_some _ q) (le_refl _) ?_,rfl,q _ (I.ah.fresh (le_refl _))⟩;exact⟨le_trans (Je xs lo hi) hz,_,0,(r.drop (HT.aD xs.length 0 lo)).take (HT.aD xs.length xs.length hi-HT.aD xs.length 0 lo),Heap.get?_push_size _ rfl⟩
noncomputable def kM:V->Bool
 | .aq=>true
 | .bl _=>true
 | .int _=>true
 | .str _=>true
 |_=>false
noncomputable def lX:V->V->Bool
 | .aq,.aq=>true
 | .bl a,.bl b=>a==b
 | .bl a,.int b=>(if a then 1 else 0)==b
 | .int a,.bl b=>a==(if b then 1 else 0)
 | .int a,.int b=>a==b
 | .str a,.str b=>a==b
 |_,_=>false
theorem QB {A:Around}{s:Shared}{y x:V}{u v:Value}(ry:RelV y u)(rx:RelV x v)(fy:kM y=true)(fx:kM x=true):SeqAt.EqAt A s u v (lX y x):=by
 cases y with
 |aq=>
  cases ry;cases x with
  |aq=>cases rx;exact SeqAt.EqAt.same _
  |bl b=>cases rx;exact SeqAt.EqAt.none_bool b
  |int b=>obtain⟨t,rfl⟩:=rx;exact SeqAt.EqAt.none_int b t
  |str b=>obtain⟨t,rfl⟩:=rx;exact SeqAt.EqAt.none_str b t
  |_=>exact absurd (show false=true from fx) Bool.false_ne_true
 |bl a=>
  cases ry;cases x with
  |aq=>cases rx;exact SeqAt.EqAt.bool_none a
  |bl b=>cases rx;exact SeqAt.EqAt.bool_bool a b
  |int b=>obtain⟨t,rfl⟩:=rx;exact SeqAt.EqAt.bool_int a b t
  |str b=>obtain⟨t,rfl⟩:=rx;exact SeqAt.EqAt.bool_str a b t
  |_=>exact absurd (show false=true from fx) Bool.false_ne_true
 |int a=>
  obtain⟨t',rfl⟩:=ry;cases x with
  |aq=>cases rx;exact SeqAt.EqAt.int_none a t'
  |bl b=>cases rx;exact SeqAt.EqAt.int_bool a t' b
  |int b=>obtain⟨t,rfl⟩:=rx;exact SeqAt.EqAt.int_int a t' b t
  |str b=>obtain⟨t,rfl⟩:=rx;exact SeqAt.EqAt.int_str a t' b t
  |_=>exact absurd (show false=true from fx) Bool.false_ne_true
 |str a=>
  obtain⟨t',rfl⟩:=ry;cases x with
  |aq=>cases rx;exact SeqAt.EqAt.str_none a t'
  |bl b=>cases rx;exact SeqAt.EqAt.str_bool a t' b
  |int b=>obtain⟨t,rfl⟩:=rx;exact SeqAt.EqAt.str_int a t' b t
  |str b=>obtain⟨t,rfl⟩:=rx;exact SeqAt.EqAt.str_str a t' b t
  |_=>exact absurd (show false=true from fx) Bool.false_ne_true
 |_=>exact absurd (show false=true from fy) Bool.false_ne_true
noncomputable def fc (x:V)(u:Value):Bool:=match u with
 | .none=>lX .aq x
 | .bool b=>lX (.bl b) x
 | .int i _=>lX (.int i) x
 | .str z _=>lX (.str z) x
 |_=>false
theorem Ji {x y:V}{u:Value}(r:RelV y u)(f:kM y=true):fc x u=lX y x:=by
 cases y with
 |aq=>cases r;rfl
 |bl b=>cases r;rfl
 |int i=>obtain⟨t,rfl⟩:=r;rfl
 |str z=>obtain⟨t,rfl⟩:=r;rfl
 |_=>exact absurd (show false=true from f) Bool.false_ne_true
theorem qY {x:V}:∀{xs:List V}{us:List Value},Vals xs us->xs.all kM=true->us.any (fc x)=xs.any λy=>lX y x
 |_,_,.nil,_=>rfl
 |y::xs,u::us,.cons r t,f=>by rw[List.all_cons,Bool.and_eq_true]at f;rw[any_cons,any_cons,Ji r f.1,qY t f.2]
theorem qZ {A:Around}{s:Shared}{x:V}{v:Value}(rx:RelV x v)(fx:kM x=true):∀{xs:List V}{us:List Value},Vals xs us->xs.all kM=true->∀u∈us,SeqAt.EqAt A s u v (fc x u)
 |_,_,.nil,_=>λu hu=>by cases hu
 |y::xs,u::us,.cons r t,f=>λu' hu=>by
  rw[List.all_cons,Bool.and_eq_true]at f;rcases mem_cons.mp hu with rfl|hu
  .rw[Ji r f.1];exact QB r rx f.1 fx
  .exact qZ rx fx t f.2 u' hu
noncomputable def wK (x:V)(xs:List V):Bool:=xs.any λy=>lX y x
noncomputable def BP (K:PySem.W.Frag)(neg:Bool):R2:=λx y H Q=>∃p xs,y= .ref p/\(af K H p xs\/ay K H p xs)/\kM x=true/\xs.all kM=true/\Q (.bl (if neg then !wK x xs else wK x xs)) H
theorem wL:bJ X (compareOp .In) (BP X.K false):=by
 intro pins s U H x y v u Q I rx ry h;obtain⟨p,xs,rfl,hq,fx,fs,q⟩:=h;cases ry;rcases hq with hq|hq
 .obtain⟨its,r,pl,hz⟩:=I.list hq;refine SeqAt.in_listAt (fc x) pl.isList (λw hw=>qZ rx fx r fs w (by simpa using hw)) ⟨.bl _,H,I,rfl,?_⟩;rw[show its.toArray.any (fc x)=its.any (fc x)by simp,qY r fs];exact q
 .obtain⟨its,r,pl,hz⟩:=I.tuple hq;refine SeqAt.in_tupleAt (fc x) pl (λw hw=>qZ rx fx r fs w (by simpa using hw)) ⟨.bl _,H,I,rfl,?_⟩;rw[show its.toArray.any (fc x)=its.any (fc x)by simp,qY r fs];exact q
theorem rh:bJ X (compareOp .NotIn) (BP X.K true):=by
 intro pins s U H x y v u Q I rx ry h;obtain⟨p,xs,rfl,hq,fx,fs,q⟩:=h;cases ry;rcases hq with hq|hq
 .obtain⟨its,r,pl,hz⟩:=I.list hq;refine SeqAt.notIn_listAt (fc x) pl.isList (λw hw=>qZ rx fx r fs w (by simpa using hw)) ⟨.bl _,H,I,rfl,?_⟩;rw[show its.toArray.any (fc x)=its.any (fc x)by simp,qY r fs];exact q
 .obtain⟨its,r,pl,hz⟩:=I.tuple hq;refine SeqAt.notIn_tupleAt (fc x) pl (λw hw=>qZ rx fx r fs w (by simpa using hw)) ⟨.bl _,H,I,rfl,?_⟩;rw[show its.toArray.any (fc x)=its.any (fc x)by simp,qY r fs];exact q
theorem jt:fT X (.builtin "len") (λxs H Q=>∃p ys,xs=[.ref p]/\(af X.K H p ys\/ay X.K H p ys)/\Q (.int ys.length) H):=by
 intro pins s U H xs us Q I r h;obtain⟨p,ys,rfl,hq,q⟩:=h;obtain⟨u,rfl,rx⟩:=vals1 r;cases rx;have hn:=lU;rcases hq with hq|hq
 .obtain⟨its,r',pl,hz⟩:=I.list hq;have hlen:=r'.length;exact Calls.call_len_list pl.isList (by simp only[size_toArray]<;>lia) ⟨.int ys.length,H,I.tok _,⟨s.toks+1,by rw[size_toArray,hlen]⟩,q⟩
 .obtain⟨its,r',pl,hz⟩:=I.tuple hq;have hlen:=r'.length;exact len_tuple pl (by simp only[size_toArray]<;>lia) ⟨.int ys.length,H,I.tok _,⟨s.toks+1,by rw[size_toArray,hlen]⟩,q⟩
theorem yh:fT X (.type "list") (λxs H Q=>∃p ys,xs=[.ref p]/\(af X.K H p ys\/ay X.K H p ys)/\∀l,H l=none->Q (.ref l) (upd H l (.lst ys))):=by
 intro pins s U H xs us Q I r h;obtain⟨p,ys,rfl,hq,q⟩:=h;obtain⟨u,rfl,rx⟩:=vals1 r;cases rx;have fin:∀(its:List Value),Vals ys its->ys.length<=sizeLine->∀(h':Heap)(c':Nat),(∀b o',s.heap.get? b=some o'->h'.get? b=some o')->h'.get? s.heap.objs.size=some {cls:=.type "list",dict:=none,data:=.seq its.toArray c',slots:=#[]}->EP X pins U Q (.ref s.heap.objs.size) {s with heap:=h'}:=λits r' hz h' c' kp e=>⟨.ref s.heap.objs.size,_,I.laid (t':=s.toks) kp (le_refl _) (show wc X.prog X.w _ h' _ (.lst ys)from⟨hz,its,c',r',e⟩),rfl,q _ (I.ah.fresh (le_refl _))⟩;rcases hq with hq|hq
 .obtain⟨its,r',pl,hz⟩:=I.list hq;have hlen:=r'.length;obtain⟨o,ho,hc,n,hd⟩:=pl.isList;exact call_list_seq p (.inl rfl) ho hc hd (λh' c' kp e=>fin its r' hz h' c' kp e) (by simp only[size_toArray]<;>lia)
 .obtain⟨its,r',pl,hz⟩:=I.tuple hq;have hlen:=r'.length;obtain⟨o,ho,hc,n,hd⟩:=pl;exact call_list_seq p (.inr rfl) ho hc hd (λh' c' kp e=>fin its r' hz h' c' kp e) (by simp only[size_toArray]<;>lia)
noncomputable def BQ (K:PySem.W.Frag)(T:String)(x:V)(H:Hp):Prop:=match x with
 | .str _=>T="str"
 | .int _=>T="int"
 | .ref p=>(T="list"/\∃xs,af K H p xs)\/(T="tuple"/\∃o,K.lookup p=some o/\o.cls= .type "tuple"/\o.dict=none)\/(T="dict"/\((∃aa,H p=some (.dK aa))\/∃aa,H p=some (.dT aa)))\/(T="set"/\∃S n,H p=some (.set S n))
 |_=>False
theorem Jj {pins:List (Addr×Obj)}{U:St}{H:Hp}{s:Shared}{T:String}{x:V}{v:Value}(I:Inv X pins U H s)(r:RelV x v)(ty:BQ X.K T x H):s.TypeIs v T/\∀a,v= .ref a->∃ob,s.heap.get? a=some ob/\ob.dict=none:=by
 cases x with
 |str z=>obtain⟨t,rfl⟩:=r;cases(show T="str"from ty);exact⟨typeIs_str s z t,λ_ e=>nomatch e⟩
 |int i=>obtain⟨t,rfl⟩:=r;cases(show T="int"from ty);exact⟨typeIs_int s i t,λ_ e=>nomatch e⟩
 | ref p=>
  cases r;rcases ty with⟨rfl,xs,hq⟩|⟨rfl,o,hk,hc,hd⟩|⟨rfl,hk⟩|⟨rfl,S,n,hk⟩
  .obtain⟨its,_,pl,_⟩:=I.list hq;refine⟨pl.isList.typeIs,λa e=>?_⟩;cases e;obtain⟨o,n,e,c,hd,_⟩:=pl;exact⟨o,e,hd⟩
  .refine⟨⟨o,I.aT p o hk,hc⟩,λa e=>?_⟩;cases e;exact⟨o,I.aT _ o hk,hd⟩
  .have z:∃o,s.heap.get? p=some o/\o.ExactDict:=by
    rcases hk with⟨aa,hk⟩|⟨aa,hk⟩
    .obtain⟨_,_,_,_,o,_,_,e,ex,_⟩:=I.ah p _ hk;exact⟨o,e,ex⟩
    .obtain⟨_,_,_,_,o,_,_,e,ex,_⟩:=I.ah p _ hk;exact⟨o,e,ex⟩
   obtain⟨o,e,ex⟩:=z;refine⟨⟨o,e,ex.1⟩,λa e2=>?_⟩;cases e2;exact⟨o,e,ex.2.1⟩
  .obtain⟨o,_,_,_,e,ex,_⟩:=I.ah p _ hk;refine⟨⟨o,e,ex.1⟩,λa e2=>?_⟩;cases e2;exact⟨o,e,ex.2.1⟩
 |_=>exact False.elim ty
noncomputable def QC (K:PySem.W.Frag)(T:String)(r:V->List V->Hp->VK->Prop)(to:TE):TE:=λU H Q=>to U H λx H1=>BQ K T x H1/\r x [] H1 Q
noncomputable def Jk (K:PySem.W.Frag)(T:String)(r:V->List V->Hp->VK->Prop)(to:TE)(t:TA):TE:=λU H Q=>to U H λx H1=>BQ K T x H1/\t U H1 λxs H2=>r x xs H2 Q
variable {o e:Expr}{es:List Expr}{to:TE}{t:TA}{name:Str}{apos av:Pos}{T id:String}{r:V->List V->Hp->VK->Prop}
theorem QD (pa:PlainAttrs T)(slot:Slot T name id)(BR:typeOf (.builtin id)=pure (.type "method_descriptor"))(hm:qX X id r)(ho:PE X o to)(dZ:autoParam (attributeBase o name X.env (eval o X.env)=eval o X.env) aP1)(ip:autoParam ((apos.endLine==av.line)=true) aP1):PE X (.Call (.Attribute o name apos) [] [] av) (QC X.K T r to):=by
 intro pins s U H Q I h;refine wpAny_Call_method0_late dZ ip (ai (ho pins s U H _ I h) λv s1 zQ=>?_);obtain⟨x,H1,I1,r1,ty,q1⟩:=zQ;obtain⟨h1,h2⟩:=Jj I1 r1 ty;exact⟨T,id,pa,slot,BR,h1,h2,Calls.callWith_builtin rfl (PySem.evalArgs_none (hm pins s1 U H1 x [] v [] Q I1 r1 .nil q1))⟩
theorem dq (pa:PlainAttrs T)(slot:Slot T name id)(BR:typeOf (.builtin id)=pure (.type "method_descriptor"))(hm:qX X id r)(ho:PE X o to)(ha:PA X (e::es) t)(dZ:autoParam (attributeBase o name X.env (eval o X.env)=eval o X.env) aP1)(BS:autoParam (((backTo av (starEach (e::es) X.env)).all (λx=>!x.1)&&(backToKw av (keywordEach [] X.env)).all (λx=>x.1.isSome)&&decide ((e::es).length+([]:List Keyword).length+(if([]:List Keyword).isEmpty then 0 else 1)<30))=true) aP1)(ip:autoParam ((apos.endLine==av.line)=true) aP1)(hs:autoParam (starEach (e::es) X.env=(false,eval e X.env)::starEach es X.env) aP1)(ny:autoParam ((backTo av (starEach es X.env)).any (·.1)=false) aP1):
  PE X (.Call (.Attribute o name apos) (e::es) [] av) (Jk X.K T r to t):=by
 intro pins s U H Q I h;refine wpAny_Call_method_late dZ BS ip rfl (ai (ho pins s U H _ I h) λv s1 zQ=>?_);obtain⟨x,H1,I1,r1,ty,q1⟩:=zQ;obtain⟨h1,h2⟩:=Jj I1 r1 ty;refine⟨T,id,pa,slot,BR,h1,h2,?_⟩;have hA:=ha av pins s1 U H1 _ I1 q1;rw[hs]at hA⊢;refine Calls.callWith_builtin (by show(false||(backTo av (starEach es X.env)).any (·.1))=false;rw[ny]<;>rfl) (Calls.evalArgs_plain ?_);exact ai hA λus s2 ⟨vs,H2,I2,r2,q2⟩=>hm pins s2 U H2 x vs v us Q I2 r1 r2 q2
end
noncomputable def BU (X:Cx)(id:String)(r:V->List V->Hp->VK->Prop):Prop:=∀(pins:List (Addr×Obj))(s:Shared)(U:St)(H:Hp)(x:V)(xs:List V)(v:Value)(us:List Value)(Q:VK),Inv X pins U H s->RelV x v->Vals xs us->r x xs H Q->wpAny (model X.prog X.w) X.A (call (.builtin id) (v::us)) (EP X pins U Q) X.xe s
theorem Vals.one:∀{x:V}{us:List Value},Vals [x] us->∃u,us=[u]/\RelV x u:=λ{x us} p=>by
 cases p with
 |cons r t=>cases t;exact⟨_,rfl,r⟩
theorem Vals.eraseIdx:∀{xs:List V}{us:List Value}(i:Nat),Vals xs us->Vals (xs.eraseIdx i) (us.eraseIdx i)
 |_,_,_,.nil=>.nil
 |_,_,0,.cons _ t=>t
 |_,_,i+1,.cons r t=>.cons r (Vals.eraseIdx i t)
theorem Vals.rep {xs:List V}{us:List Value}(h:Vals xs us):∀k:Nat,Vals (List.replicate k xs).flatten (List.replicate k us).flatten
 |0=>.nil
 |k+1=>by rw[replicate_succ,replicate_succ,flatten_cons,flatten_cons];exact Vals.append h (Vals.rep h k)
theorem Jl {α:Type}:∀(l:List α)(i:Nat),(l.eraseIdx i).length<=l.length
 |[],_=>le_refl _
 |_::_,0=>le_succ _
 |_::r,i+1=>Nat.succ_le_succ (Jl r i)
theorem foldl_rep (its:List Value):∀(k:Nat)(acc:List Value),List.foldl (λx1 x2=>x1++x2) acc.toArray (List.replicate k its.toArray)=(acc++(List.replicate k its).flatten).toArray
 |0,acc=>by simp
 |k+1,acc=>by
  have e:acc.toArray++its.toArray=(acc++its).toArray:=by simp
  have e2:(acc++its)++(List.replicate k its).flatten=acc++(List.replicate (k+1) its).flatten:=by rw[replicate_succ,flatten_cons,List.append_assoc]
  rw[<-e2,<-foldl_rep its k (acc++its),<-e,replicate_succ,foldl_cons]
section
variable {X:Cx}{pins:List (Addr×Obj)}{U:St}{H:Hp}{s:Shared}{l b:Addr}{xs ys zs:List V}
theorem Inv.BV {its its':List Value}{n:Nat}{f:Array Value->Array Value}{t':Nat}(I:Inv X pins U H s)(hH:H l=some (.lst xs))(e:s.heap.get? l=some {cls:=.type "list",data:=.seq its.toArray n})(hf:f its.toArray=its'.toArray)(hv:Vals ys its')(hz:ys.length<=sizeLine):
  Inv X pins U (upd H l (.lst ys)) {s with heap:=s.heap.update l (Obj.mapSeq f),toks:=t'}:=by
 have q:=PySem.IsL.update e f;rw[hf]at q;refine I.write (x:=l) (e:=l) (by rw[hH];exact trivial) (.inl rfl) (λb' u hb hu=>(Heap.get?_update_other s.heap (Obj.mapSeq f) (Ne.symm hb)).trans hu) ⟨_,q⟩ ?_;exact⟨hz,its',_,hv,q⟩
theorem Inv.Jm {its:List Value}{t':Nat}(I:Inv X pins U H s)(hv:Vals ys its)(hz:ys.length<=sizeLine):Inv X pins U (upd H s.heap.objs.size (.lst ys)) {s with heap:=s.heap.push {cls:=.type "list",data:=.seq its.toArray},toks:=t'}:=
 I.laid (λ_ _ q=>Heap.get?_push_of_some _ q) (le_refl _) ⟨hz,its,0,hv,Heap.get?_push_size _ rfl⟩
theorem Inv.fresh (I:Inv X pins U H s):H s.heap.objs.size=none:=I.ah.fresh (le_refl _)
theorem Inv.oU (I:Inv X pins U H s)(hH:H l=some (.lst xs)):xs.length<=sizeLine/\∃(its:List Value)(n:Nat),Vals xs its/\xs.length=its.length/\s.heap.get? l=some {cls:=.type "list",data:=.seq its.toArray n}:=by obtain⟨z,its,n,r,e⟩:=I.ah l _ hH;exact⟨z,its,n,r,r.length,e⟩
theorem QE {n:Nat}(h:n<=sizeLine):Builtin.List.listTooLong n=false:=by unfold Builtin.List.listTooLong;exact decide_eq_false (by lia)
end
section
variable {X:Cx}
noncomputable def Jn:V->List V->Hp->VK->Prop:=λx vs H Q=>∃l xs y,x= .ref l/\vs=[y]/\H l=some (.lst xs)/\xs.length<sizeLine/\Q .aq (upd H l (.lst (xs++[y])))
theorem xf:BU X "list.append" Jn:=by intro pins s U H x vs v us Q I rx rv h;obtain⟨l,xs,y,rfl,rfl,hH,hz,q⟩:=h;cases rx;obtain⟨u,rfl,ru⟩:=rv.one;obtain⟨z,its,n,r,hl,e⟩:=I.oU hH;refine call_meets F.slot_list_append ⟨_,e,rfl⟩ F.entry_list_append (F.args_list_append_2 _ _) (PySem.list_append l its.toArray n u (by rw[size_toArray];lia)) ⟨e,?_⟩;refine⟨.aq,_,I.BV (its':=its++[u]) hH e (by simp) (r.append (.cons ru .nil)) ?_,rfl,q⟩;rw[length_append,List.length_singleton];lia
noncomputable def QG:V->List V->Hp->VK->Prop:=λx vs H Q=>∃l xs i k y,x= .ref l/\vs=[.int i]/\H l=some (.lst xs)/\-(2^63)<=i/\i<2^63/\seqIndex? i xs.length=some k/\xs[k]?=some y/\Q y (upd H l (.lst (xs.eraseIdx k)))
theorem QH:BU X "list.pop" QG:=by
 intro pins s U H x vs v us Q I rx rv h;obtain⟨l,xs,i,k,y,rfl,rfl,hH,h1,h2,hk,hy,q⟩:=h;cases rx;obtain⟨u,rfl,ru⟩:=rv.one;obtain⟨t,rfl⟩:=ru;obtain⟨z,its,n,r,hl,e⟩:=I.oU hH;obtain⟨w,hw,cz⟩:=r.get hy;refine call_meets F.slot_list_pop ⟨_,e,rfl⟩ F.entry_list_pop (F.args_list_pop_2 _ _) (MeetsSeq.list_pop_at l its.toArray n i t k w (fitsIndex_both h1 h2) (by rw[size_toArray,<-hl];exact hk) (by rw[<-Array.getElem?_toList];exact hw) (by rw[size_toArray];lia)) ⟨e,?_⟩;refine⟨y,_,I.BV (its':=its.eraseIdx k) hH e ?_ (r.eraseIdx k) ?_,cz,q⟩
 .show its.toArray.eraseIdxIfInBounds k=(its.eraseIdx k).toArray;rw[List.eraseIdxIfInBounds_toArray]
 .have:=Jl xs k;lia
noncomputable def QI:R2:=λx y H Q=>∃l b xs zs,x= .ref l/\y= .ref b/\H l=some (.lst xs)/\H b=some (.lst zs)/\xs.length+zs.length<=sizeLine/\∀p,H p=none->Q (.ref p) (upd H p (.lst (xs++zs)))
theorem lY:bJ X (binaryOp .Add) QI:=by
 intro pins s U H x y v u Q I rx ry h;obtain⟨l,b,xs,zs,rfl,rfl,hH,hB,hz,q⟩:=h;cases rx;cases ry;obtain⟨z,its,n,r,hl,e⟩:=I.oU hH;obtain⟨z2,rj,n2,r2,Jo,e2⟩:=I.oU hB;refine PySem.P.add_list e e2 ?_ (by rw[size_toArray,size_toArray];lia);have ea:its.toArray++rj.toArray=(its++rj).toArray:=by simp
 rw[ea];exact⟨.ref _,_,I.Jm (t':=s.toks) (r.append r2) (by rw[length_append];lia),rfl,q _ I.fresh⟩
noncomputable def QJ:R2:=λx y H Q=>∃l k xs,x= .ref l/\y= .int k/\H l=some (.lst xs)/\-(2^63)<=k/\k<2^63/\xs.length*k.toNat<=sizeLine/\∀p,H p=none->Q (.ref p) (upd H p (.lst (List.replicate k.toNat xs).flatten))
theorem len_rep {α:Type}(xs:List α)(k:Nat):(List.replicate k xs).flatten.length=k*xs.length:=by
 induction k with
 |zero=>simp
 |succ k ih=>rw[replicate_succ,flatten_cons,length_append,ih,Nat.succ_mul,Nat.add_comm]
theorem Jq:bJ X (binaryOp .Mult) QJ:=by
 intro pins s U H x y v u Q I rx ry h;obtain⟨l,k,xs,rfl,rfl,hH,h1,h2,hz,q⟩:=h;cases rx;obtain⟨t,rfl⟩:=ry;obtain⟨z,its,n,r,hl,e⟩:=I.oU hH;have hlen:its.toArray.size*k.toNat<=sizeLine:=by rw[size_toArray,<-hl];exact hz
 have BW:¬its.toArray.size*k.toNat>(2^63-1) / 8:=by
  have:(sizeLine:Nat)<=(2^63-1) / 8:=by decide
  lia
 have BX:¬(!Builtin.List.listFitsIndex k)=true:=by rw[fitsIndex_both h1 h2];exact Bool.false_ne_true
 have rl:¬Builtin.List.listTooLong (its.toArray.size*k.toNat)=true:=by rw[QE hlen];exact Bool.false_ne_true
 have nA:List.foldl (λx1 x2=>x1++x2) #[] (List.replicate (if its.toArray.isEmpty=true then 0 else k.toNat) its.toArray)=(List.replicate k.toNat its).flatten.toArray:=by
  have f0:∀m:Nat,List.foldl (λx1 x2=>x1++x2) #[] (List.replicate m its.toArray)=(List.replicate m its).flatten.toArray:=λm=>by have:=foldl_rep its m [];rw[List.nil_append]at this;exact this
  rw[f0];cases its with
  |nil=>simp
  |cons a r'=>rw[if_neg (by simp)]
 refine wpAny_binaryOp_repeat_ref (T:="list") (U:="int") (by decide) ⟨_,e,rfl⟩ (λs'=>typeIs_int s' k t) noFill_list_mul F.fills_int_mul F.slot_int_rmul repeat_list F.slot_int_index.lookup (call_meets F.slot_int_rmul (typeIs_int s k t) F.entry_int_rmul (F.args_int_rmul_2 _ _) (int___rmul___int_list k t l its.toArray n) ⟨e,rfl,⟨_,e,rfl⟩,call_meets F.slot_list_mul ⟨_,e,rfl⟩ F.entry_list_mul (F.args_list_mul_2 _ _) (AutoListH.list___mul___list_int_3 l its.toArray n k t BX BW rl) ⟨e,?_⟩⟩);rw[nA];exact⟨.ref _,_,I.Jm (t':=s.toks) (r.rep k.toNat) (by rw[len_rep,Nat.mul_comm];exact hz),rfl,q _ I.fresh⟩
end
end L2
namespace Jr
open PySem PySem.W PySem.Calls PyProof.Rows
theorem QK {P:Params}{h:Heap}:∀(ns:List Int)(vs:List Value),WellAll P h vs (ns.map WData.int)->IntsAre vs ns:=by
 intro ns;induction ns with
 |nil=>intro vs w;rw[map_nil]at w;cases w;exact .nil
 |cons n ns ih=>
  intro vs w;rw[map_cons]at w;cases w with
  |cons a b=>cases a;exact .cons _ _ (ih _ b)
theorem QL {l:OpenLaw}{n:Nat}(hn:l.most=some n){P:Params}{h:Heap}{args:List WData}{vals:List Value}(kN:l.row.toRowW.claim.pre args=true)(BY:WellAll P h vals args):∃a vs ns,vals=[Value.ref a]/\args=[WData.list (ns.map WData.int)]/\h.get? a=some {cls:=.type "list",data:=.seq vs.toArray}/\IntsAre vs ns/\ns.length<=n:=by
 have QM:WShape.hasAll [] args [.list .int]=true:=(pre_splitW kN).1;have hc:l.pre.holds [] {args:=args}=true:=(pre_splitW kN).2;obtain⟨d,r,rfl,h1,h2⟩:=hasAllW_cons QM;obtain rfl:=hasAllW_nil h2;obtain⟨xs,rfl,h3⟩:=hasW_list h1;obtain⟨ns,rfl⟩:=items_int h3;have hlen:ns.length<=n:=by
  unfold OpenLaw.pre at hc;have h4:(WTm.not (.lt (.lit (.int (n:Int))) (.len (.arg 0)))).holds [] {args:=[.list (ns.map .int)]}=true:=by have h4:=(holds_andW hc).1;rw[hn]at h4;exact h4
  have h5:=condW_of h4 (w_not (w_lt w_lit (w_len_list (w_arg rfl))));rw[length_map]at h5;refine Nat.le_of_not_lt λq=>?_;have q':(n:Int)<((ns.length:Nat):Int):=by lia
  first
   |(rw[decide_eq_true q']at h5;exact absurd h5 (by decide))
   |(simp at h5;lia)
 cases BY with
 |cons w1 w2=>
  cases w2;cases w1 with
  |list ho ik=>exact⟨_,_,ns,rfl,rfl,ho,QK ns _ ik,hlen⟩
theorem QN (l:OpenLaw)(args:List WData):l.row.toRowW.claim.post args (.bool true) args=true:=postW_of (r:=l.row.toRowW) (X:=(true==true)) (show WShape.has [] (.bool true) .bool=true by first|rfl|decide|simp[WShape.has,WShape.arms,WShape.armsAll]) (show(WTm.eq .res (.lit (.bool true))).value [] {args:=args,res:=some (.bool true),after:=args}=some (.bool (true==true))from w_eq_bool (w_res rfl) w_lit) rfl
theorem QO {l:OpenLaw}{n:Nat}{q:Program}{loose:List Str}{XP:(Str->Option Value)->Heap->Prop}{YP:World->Heap->Prop}{d:DefRec}(hn:l.most=some n)(rn:d.params.defaults=[])(call:∀(w:World)(au aj:Shared)(mg mb:Str->Option Value)(fa:Addr)(o:Obj)(pm cd doc:Value)(a:Addr)(vs:List Value)(ns:List Int),Ground q loose [] XP w au mg mb aj.heap->YP w aj.heap->
   aj.heap.get? fa=some o->o.data= .func (docDef d.name d.params d.body d.scope pm cd doc)->aj.heap.CodeRec cd d.name->mg d.name=some (.ref fa)->
   aj.heap.get? a=some {cls:=.type "list",data:=.seq vs.toArray}->IntsAre vs ns->ns.length<=n->aj.gens=#[]->
   codeAny (model l.prog w) callerA (.call (.ref fa) ⟨[.ref a],[]⟩) (λr s'=>r= .ok (.ret (.bool true))/\OldK aj.heap s'.heap/\s'.os=aj.os/\AllBare s'.gens) aj):
  WalkO q loose XP YP l.row.toRowW d [] (λf vs=>PySem.call f vs):=by
 intro w au aj mg mb G Yq fa o pm cd doc dV kV ho hd dX hD hmg hg args vals as kN QP hrd BY hlo;obtain rfl:dV= .none:=Dflts.none hD rn;obtain rfl:kV= .none:=Dflts.noKw hD;obtain⟨a,vs,ns,rfl,rfl,nB,hints,hlen⟩:=QL hn kN BY;refine enter_call (codeAny_mono (call w au aj mg mb fa o pm cd doc a vs ns G Yq ho (fd_plain hd) dX hmg nB hints hlen hg) λr s' hq=>?_);obtain⟨rfl,h2,h3,h4⟩:=hq;exact⟨.inl ⟨.bool true,.bool true,[],rfl,λ_=>rfl,.bool true,QN l _,λ_=>⟨List.Pairwise.nil,λ_ hm=>(nomatch hm)⟩⟩,h2,h3,h4⟩
end Jr
namespace L2
open PySem PySem.Spec PyProof.Rows
theorem Jt:∀{vs:List Value}{ns:List Int},IntsAre vs ns->Vals (ns.map V.int) vs
 |_,_,.nil=>.nil
 |_,_,.cons n t h=>.cons ⟨t,rfl⟩ (Jt h)
noncomputable def wM (H:Hp):Prop:=∀b,H b=none\/∃o xs,H b=some (.aY o (.lst xs))
theorem QQ {P:Program}{w:World}{K:PySem.W.Frag}{mg mb:Str->Option Value}{CX:eQ}{k:Nat}{fa a:Addr}{fd:FuncData}{x:Str}{sp:Sp}{aj:Shared}{vs:List Value}{ns:List Int}(KX:K.In aj.heap)(oV:aj.heap.Ns mainGlobals mg)(hb:aj.heap.Ns builtinsNs mb)(QR:∀x:Str,x≠"__name__"->mb x=bootBuiltins x)(BZ:aj.heap.NoLimit)(hg:aj.gens=#[])(ha:aj.heap.get? a=some {cls:=.type "list",data:=.seq vs.toArray})(hi:IntsAre vs ns)(hl:ns.length<=sizeLine)(hr:aZ k callerA)(F:∀base:Heap,K.In base->base.Ns mainGlobals mg->xl P w K mg base CX k fa fd [x] sp)(rq:∀(s:Shared)(u:Value),BindsTo s fd ⟨[u],[]⟩ [(x,u)])(gO:∀H:Hp,wM H->af K H a (ns.map V.int)->sp [.ref a] H (λv _=>v= .bl true) λ_ _ _=>False)(rA:∀H e s',CX [] H aj (λ_ _ _=>False) e s'->False):
  codeAny (model P w) callerA (.call (.ref fa) ⟨[.ref a],[]⟩) (λr s'=>r= .ok (.ret (.bool true))/\OldK aj.heap s'.heap/\s'.os=aj.os/\AllBare s'.gens) aj:=by
 have rv:=Jt hi;have B0:=hi.length;have core:∀H:Hp,wM H->af K H a (ns.map V.int)->bI P w H aj.heap->(∀b,H b≠none->b=a)->(H a≠none->K.lookup a=none)->codeAny (model P w) callerA (.call (.ref fa) ⟨[.ref a],[]⟩) (λr s'=>r= .ok (.ret (.bool true))/\OldK aj.heap s'.heap/\s'.os=aj.os/\AllBare s'.gens) aj:=by
  intro H hO hS ah hA hK;have fJ:∀{b:Addr}{o:Obj},aj.heap.get? b=some o->H b=none->(kC aj.heap H).get? b=some o:=λe n=>OH e n;have qU:∀{b:Addr}{o:Obj}{es:Array DictEntry}{ep:Nat},aj.heap.get? b=some o->o.data= .dict es ep->H b=none:=λ{b o es ep} e d=>by
   cases q:H b with
   |none=>rfl
   |some u=>have e':b=a:=hA b (by rw[q];simp);subst e';rw[ha]at e;cases e;have d':Data.seq vs.toArray _=Data.dict es ep:=d;cases d'
  have wN:∀{b:Addr}{m:Str->Option Value},aj.heap.Ns b m->(kC aj.heap H).Ns b m:=λ{b m} ⟨o,es,ep,e,d,r⟩=>⟨o,es,ep,fJ e (qU e d),d,r⟩;have Ju:K.In (kC aj.heap H):=λb o e=>fJ (KX b o e) (by
   cases q:H b with
   |none=>rfl
   |some u=>have e':b=a:=hA b (by rw[q];simp);subst e';rw[hK (by rw[q];simp)]at e;cases e)
  have hM:Mod K mg (kC aj.heap H):=⟨Ju,wN oV,⟨mb,wN hb,QR⟩,let⟨mc,h1,h2⟩:=BZ;⟨mc,wN h1,h2⟩⟩;have e0:nj P w K mg (kC aj.heap H) callerA [] aj H:=⟨rfl,hM,λb o e=>OI e,Nat.le_of_eq (OF _ _),trivial,λb hb=>absurd (show b∈([]:List Addr)from hb) (by simp),ah,.of_eq hg⟩;refine codeAny_mono ((F _ Ju (wN oV)).run callerA [] aj H ⟨[.ref a],[]⟩ [.ref a] [.ref a] _ _ hr e0 (rq aj (.ref a)) (.cons rfl .nil) (gO H hO hS)) λr s' h=>?_;cases r with
  |error e=>exact(rA H e s' h).elim
  | ok fl=>
   cases fl with
   |next=>exact False.elim h
   |brk=>exact False.elim h
   |cont=>exact False.elim h
   | ret u=>
    obtain⟨v,H',os,bare,un,Ca,r',q⟩:=h;have q':v= .bl true:=q;subst q';obtain rfl:u=Value.bool true:=r';refine⟨rfl,OldK.of_keep λb o e=>?_,os,bare⟩;cases q:H b with
    |none=>exact un.keep b o e q (by intro z;exact absurd (show b∈([]:List Addr)from z) (by simp)) (by simp)
    |some u=>
     rcases hO b with z|⟨ob,xs,z⟩
     .rw[q]at z;cases z
     .have z2:=un.dB b ob _ z;obtain⟨e1,_⟩:=ah b _ z;obtain⟨e2,_⟩:=Ca b _ z2;rw[e]at e1;cases e1;exact e2
 cases hk:K.lookup a with
 |some o=>have e:=KX a o hk;rw[ha]at e;cases e;refine core (λ_=>none) (λ_=>.inl rfl) (.inr ⟨_,vs.toArray,_,hk,rfl,rfl,rfl,by rw[size_toArray,B0];exact hl,by simpa using rv⟩) (λb u z=>by have z':(none:Option HO)=some u:=z;cases z') (λb z=>absurd rfl z) λz=>absurd rfl z
 | none=>
  refine core (λb=>if b=a then some (.aY {cls:=.type "list",data:=.seq vs.toArray} (.lst (ns.map V.int)))else none) (λb=>?_) (.inl (.inr ⟨{cls:=.type "list",data:=.seq vs.toArray},if_pos rfl⟩)) (λb u z=>?_) (λb z=>?_) λ_=>hk
  .by_cases hb:b=a
   .exact .inr ⟨_,_,if_pos hb⟩
   .exact .inl (if_neg hb)
  .by_cases hb:b=a
   .have z':=(if_pos hb).symm.trans z;cases z';subst hb;exact⟨ha,by rw[length_map];exact hl,vs,_,rv,ha⟩
   .have z':=(if_neg hb).symm.trans z;cases z'
  .by_cases hb:b=a
   .exact hb
   .exact absurd (if_neg hb) z
theorem QS {l:PySem.W.OpenLaw}{n k:Nat}{q:Program}{loose:List Str}{XP:(Str->Option Value)->Heap->Prop}{YP:World->Heap->Prop}{d:DefRec}{K:Params->PySem.W.Frag}{CX:World->eQ}{sp:World->Sp}{x:Str}(hn:l.most=some n)(kJ:n<=sizeLine)(rn:d.params.defaults=[])(hr:aZ k callerA)(hY:∀(w:World)(h:Heap),YP w h->(K w.params).In h)(F:∀(w:World)(mg:Str->Option Value)(fa:Addr)(h:Heap),(K w.params).In h->h.Ns mainGlobals mg->mg d.name=some (.ref fa)->∃fd:FuncData,(∀(s:Shared)(u:Value),BindsTo s fd ⟨[u],[]⟩ [(x,u)])/\∀base:Heap,(K w.params).In base->base.Ns mainGlobals mg->xl l.prog w (K w.params) mg base (CX w) k fa fd [x] (sp w))(gO:∀(w:World)(H:Hp)(a:Addr)(ns:List Int),ns.length<=n->wM H->af (K w.params) H a (ns.map V.int)->sp w [.ref a] H (λv _=>v= .bl true) λ_ _ _=>False)(rA:∀(w:World)(H:Hp)(s:Shared)(e:Value)(s':Shared),CX w [] H s (λ_ _ _=>False) e s'->False):
  PySem.W.WalkO q loose XP YP l.row.toRowW d [] (λf vs=>PySem.call f vs):=by
 refine Jr.QO hn rn λw au aj mg mb fa o pm cd doc a vs ns G Yq ho hd dX hmg nB hints hlen hg=>?_;have KX:=hY w _ Yq;obtain⟨fd,hb,hF⟩:=F w mg fa _ KX G.T.g hmg;exact QQ KX G.T.g G.T.b G.T.builtins G.T.nolimit hg nB hints (le_trans hlen kJ) hr hF hb (λH hO hS=>gO w H a ns hlen hO hS) λH e s'=>rA w H aj e s'
theorem jz1 {l:PySem.W.OpenLaw}{n k:Nat}{q:Program}{loose:List Str}{XP:(Str->Option Value)->Heap->Prop}{YP:World->Heap->Prop}{d:DefRec}{K:Params->PySem.W.Frag}{CX:eQ}{sp:PySem.W.Frag->Sp}{x:Str}(hn:l.most=some n)(kJ:n<=sizeLine)(rn:d.params.defaults=[])(hr:aZ k callerA)(hY:∀(w:World)(h:Heap),YP w h->(K w.params).In h)(F:∀(w:World)(mg:Str->Option Value)(fa:Addr)(h:Heap),(K w.params).In h->h.Ns mainGlobals mg->mg d.name=some (.ref fa)->∃fd:FuncData,(∀(s:Shared)(u:Value),BindsTo s fd ⟨[u],[]⟩ [(x,u)])/\∀base:Heap,(K w.params).In base->base.Ns mainGlobals mg->xl l.prog w (K w.params) mg base CX k fa fd [x] (sp (K w.params)))(gO:∀(K:PySem.W.Frag)(H:Hp)(a:Addr)(ns:List Int),ns.length<=n->wM H->af K H a (ns.map V.int)->sp K [.ref a] H (λv _=>v= .bl true) λ_ _ _=>False)(rA:∀(H:Hp)(s:Shared)(e:Value)(s':Shared),CX [] H s (λ_ _ _=>False) e s'->False):
  PySem.W.WalkO q loose XP YP l.row.toRowW d [] (λf vs=>PySem.call f vs):=
 QS (K:=K) (CX:=λ_=>CX) (sp:=λw=>sp (K w.params)) hn kJ rn hr hY F (λw H a ns h1 h2 h3=>gO (K w.params) H a ns h1 h2 h3) λ_ H s e s'=>rA H s e s'
noncomputable def inClass (s:Stmt)(j:Nat):Stmt:=match s with
 | .ClassDef _ _ _ body _ _ _ _ _ _ _=>body.getD j (.Pass ⟨0,0,0,0⟩)
 |_=>.Pass ⟨0,0,0,0⟩
noncomputable def oW (s:Stmt):Arguments:=match s with
 | .FunctionDef _ a _ _ _ _ _ _ _ _=>a
 |_=>{posonlyargs:=[],args:=[],vararg:=none,kwonlyargs:=[],kw_defaults:=[],kwarg:=none,defaults:=[]}
noncomputable def gP (s:Stmt):List Stmt:=match s with
 | .FunctionDef _ _ b _ _ _ _ _ _ _=>b
 |_=>[]
noncomputable def jq (s:Stmt):Scope:=match s with
 | .FunctionDef _ _ _ _ _ _ sc _ _ _=>sc
 |_=>{kind:=.function,names:=[],isGenerator:=false,isCoroutine:=false}
noncomputable abbrev CX0:eQ:=λ_ _ _ _ _ _=>False
noncomputable abbrev E0:XK:=λ_ _ _=>False
theorem ju {X:Cx}:Passes CX0 X E0:=λ_ _ _ _ _ _ _ h=>h.elim
structure ax (K:PySem.W.Frag)(x qual:Str)(st:Stmt)(f:Addr)(fd:FuncData):Prop where
 ex:∃(oc:Value)(od:Option Addr)(kV doc pm:Value)(an:Option Addr)(aH ct:Value)(jB:Array (Option Value)),fd=PySem.W.fnOf x qual (oW st) (gP st) (jq st) .none kV doc pm an aH ct/\K.lookup f=some ⟨oc,od,.func fd,jB⟩/\PySem.W.codeIn K aH qual=true
 kp:PySem.W.keepIn K (.ref f)=true
section
variable {P:Program}{w:World}{K:PySem.W.Frag}{mg:Str->Option Value}{base:Heap}
theorem ax.ok {x qual:Str}{st:Stmt}{f:Addr}{fd:FuncData}{N ps:List Str}{k:Nat}{sp:Sp}(F:ax K x qual st f fd)(S:qg N ps (jq st))(len:∀vs H Q E,sp vs H Q E->vs.length=ps.length)(bf:∀(aH:Value)(A:Around)(outer:List Env)(s:Shared)(H:Hp)(vs:List V)(Q:VK)(E:XK),aZ k (A.deeper (envOfC qual (jq st) s.heap.objs.size f aH))->sp vs H Q E->∃t,cL (cW CX0 P w K mg base N qual (jq st) f aH A outer s H E).oN (gP st) t/\t {nx:=λ_ H'=>Q .aq H',rt:=Q} (start N vs) H):xl P w K mg base CX0 (k+1) f fd ps sp:=by
 obtain⟨oc,od,kV,doc,pm,an,aH,ct,jB,rfl,lk,dX⟩:=F.ex;refine IW lk dX S len λA outer s H vs Q E hr gO=>?_;obtain⟨t,h,q⟩:=bf aH A outer s H vs Q E hr gO;exact⟨t,h.oN,q⟩
theorem ax.cA {x qual:Str}{st:Stmt}{f:Addr}{fd:FuncData}{N ps:List Str}{k:Nat}{sp:Sp}(F:ax K x qual st f fd)(S:qg N ps (jq st))(bf:∀(aH:Value)(A:Around)(outer:List Env)(s:Shared)(H:Hp)(vs:List V)(Q:VK)(E:XK),aZ k (A.deeper (envOfC qual (jq st) s.heap.objs.size f aH))->sp vs H Q E->∃t,cL (cW CX0 P w K mg base N qual (jq st) f aH A outer s H E).oN (gP st) t/\t {nx:=λ_ H'=>Q .aq H',rt:=Q} (start N vs) H)(len:autoParam (∀vs H Q E,sp vs H Q E->vs.length=ps.length) aP7):xl P w K mg base CX0 (k+1) f fd ps sp:=F.ok S len bf
theorem ax.bj {x qual:Str}{st:Stmt}{f:Addr}{fd:FuncData}{N ps:List Str}{k:Nat}{sp:Sp}(F:ax K x qual st f fd)(bf:∀(aH:Value)(A:Around)(outer:List Env)(s:Shared)(H:Hp)(vs:List V)(Q:VK)(E:XK),aZ k (A.deeper (envOfC qual (jq st) s.heap.objs.size f aH))->sp vs H Q E->∃t,cL (cW CX0 P w K mg base N qual (jq st) f aH A outer s H E).oN (gP st) t/\t {nx:=λ_ H'=>Q .aq H',rt:=Q} (start N vs) H)(S:autoParam (qg N ps (jq st)) aP8)(len:autoParam (∀vs H Q E,sp vs H Q E->vs.length=ps.length) aP7):xl P w K mg base CX0 (k+1) f fd ps sp:=F.ok S len bf
theorem ax.binds {x qual:Str}{st:Stmt}{f:Addr}{fd:FuncData}{ps:List Str}(F:ax K x qual st f fd)(h:∀(kV doc pm:Value)(an:Option Addr)(aH ct:Value)(us:List Value),us.length=ps.length->bindArgs (PySem.W.fnOf x qual (oW st) (gP st) (jq st) .none kV doc pm an aH ct) ⟨us,[]⟩=pure (ps.zip us)):Binds K fd ps []:=by
 obtain⟨oc,od,kV,doc,pm,an,aH,ct,jB,rfl,lk,dX⟩:=F.ex;exact .all (h kV doc pm an aH ct)
theorem ji {x qual:Str}{st:Stmt}{f:Addr}{oc:Value}{od an:Option Addr}{jB:Array (Option Value)}{kV doc pm aH ct:Value}(l:K.lookup f=some ⟨oc,od,.func (PySem.W.fnOf x qual (oW st) (gP st) (jq st) .none kV doc pm an aH ct),jB⟩)(c:PySem.W.codeIn K aH qual=true)(k:PySem.W.keepIn K (.ref f)=true):ax K x qual st f (PySem.W.fnOf x qual (oW st) (gP st) (jq st) .none kV doc pm an aH ct):=⟨⟨oc,od,kV,doc,pm,an,aH,ct,jB,rfl,l,c⟩,k⟩
end
theorem cM {A:Around}{k:Nat}(hr:aZ k A):A.units+1<cLine:=Nat.lt_of_le_of_lt (Nat.add_le_add_left (by decide:1<=64) _) hr.units
theorem qi {n:Nat}(h:n<=1000):n<sizeLine:=Nat.lt_of_le_of_lt h (by decide)
section
variable {X:Cx}
theorem pv (i:Nat){x:Str}{pos:Pos}(hN:autoParam (X.N[i]?=some x) aP1)(hv:qD X.env.scope x:=by first|exact Or.inl rfl|exact Or.inr (Or.inl rfl)|exact Or.inr (Or.inr rfl))(hd:autoParam ((x==("__debug__":Str))=false) aP2)(dX:autoParam ((x==("__classdict__":Str))=false) aP2):PE X (.Name x pos) (i4 i):=OK hN hv hd dX
end
theorem we {A Bq:Prop}(h:Bq):if false=true then A else Bq:=by rw[if_neg Bool.false_ne_true];exact h
theorem br {A Bq:Prop}(h:A):if true=true then A else Bq:=by rw[if_pos rfl];exact h
theorem bH {c A Bq:Prop}[Decidable c](h1:c->A)(h2:¬c->Bq):if c then A else Bq:=by
 by_cases h:c
 .rw[if_pos h];exact h1 h
 .rw[if_neg h];exact h2 h
noncomputable def xr (H H':Hp):Prop:=∀b o,H b=some o->H' b=some o
theorem xr.refl (H:Hp):xr H H:=λ_ _ h=>h
theorem xr.trans {H H1 H2:Hp}(a:xr H H1)(b:xr H1 H2):xr H H2:=λc o h=>b c o (a c o h)
theorem xr.free {H H':Hp}(e:xr H H'){l:Addr}(h:H' l=Option.none):H l=Option.none:=by
 cases q:H l with
 |none=>rfl
 |some o=>rw[e l o q]at h;cases h
theorem xr.seq {K:PySem.W.Frag}{H H':Hp}{a:Addr}{xs:List V}(e:xr H H')(h:af K H a xs):af K H' a xs:=by
 rcases h with(h|⟨o,h⟩)|h
 .exact .inl (.inl (e _ _ h))
 .exact .inl (.inr ⟨o,e _ _ h⟩)
 .exact .inr h
section
variable {B:Type}[DecidableEq B]
noncomputable def aO (aa:List (B×V))(k:B):Option V:=(aa.find? λkv=>decide (kv.1=k)).map (·.2)
noncomputable def putK (aa:List (B×V))(k:B)(v:V):List (B×V):=if(aa.any λkv=>decide (kv.1=k))=true then aa.map (λkv=>if kv.1=k then(kv.1,v)else kv)else aa++[(k,v)]
theorem vy {p:B×V}{r:List (B×V)}{k:B}(e:p.1=k):aO (p::r) k=some p.2:=by simp[aO,find?_cons,e]
theorem y7 {p:B×V}{r:List (B×V)}{k:B}(e:¬p.1=k):aO (p::r) k=aO r k:=by simp[aO,find?_cons,e]
theorem wO (k:B):∀aa:List (B×V),(aa.any λkv=>decide (kv.1=k))=(aO aa k).isSome
 |[]=>rfl
 |p::r=>by
  rw[any_cons];by_cases e:p.1=k
  .simp only[vy e,decide_eq_true e,Bool.true_or,Option.isSome_some]
  .rw[y7 e,decide_eq_false e,Bool.false_or];exact wO k r
theorem rB (aa:List (B×V))(k:B)(v:V):(putK aa k v).length<=aa.length+1:=by
 unfold putK;split
 .rw[length_map];lia
 .rw[length_append,length_cons,List.length_nil];lia
theorem oX {aa:List (B×V)}{k:B}(v:V)(h:aO aa k=none):putK aa k v=aa++[(k,v)]:=by unfold putK;rw[wO,h];exact if_neg (by decide)
theorem dI.rC {o:Option V}{u:Option Value}(r:dI o u):o.isSome=u.isSome:=by
 cases o with
 |none=>cases u with
  |none=>rfl
  |some _=>exact(show False from r).elim
 |some _=>cases u with
  |none=>exact(show False from r).elim
  |some _=>rfl
theorem dI.getD {o:Option V}{u:Option Value}{d:V}{d':Value}(r:dI o u)(rd:RelV d d'):RelV (o.getD d) (u.getD d'):=by
 cases o with
 |none=>cases u with
  |none=>exact rd
  |some _=>exact(show False from r).elim
 |some _=>cases u with
  |none=>exact(show False from r).elim
  |some _=>exact r
theorem KV.val {aa:List (B×V)}{vs:List (B×Value)}(r:KV aa vs)(k:B):dI (aO aa k) (valueAt vs k):=by
 unfold KV at r;induction r with
 |nil=>exact True.intro
 | @cons p q ps qs h t ih=>
  obtain⟨h1,h2⟩:=h;by_cases e:p.1=k
  .have e':q.1=k:=h1.symm.trans e;have b:valueAt (q::qs) k=some q.2:=by simp[valueAt,find?_cons,e']
   rw[vy e,b];exact h2
  .have e':¬q.1=k:=λz=>e (h1.trans z);have b:valueAt (q::qs) k=valueAt qs k:=by simp[valueAt,find?_cons,e']
   rw[y7 e,b];exact ih
theorem KV.any {aa:List (B×V)}{vs:List (B×Value)}(r:KV aa vs)(k:B):(aa.any λkv=>decide (kv.1=k))=vs.any λkv=>decide (kv.1=k):=by
 unfold KV at r;induction r with
 |nil=>rfl
 |cons h t ih=>rw[any_cons,any_cons,ih,h.1]
theorem KV.Cb {aa:List (B×V)}{vs:List (B×Value)}(r:KV aa vs)(k:B){y:V}{u:Value}(ry:RelV y u):KV (aa.map λkv=>if kv.1=k then(kv.1,y)else kv) (vs.map λkv=>if kv.1=k then(kv.1,u)else kv):=by
 unfold KV at r⊢;induction r with
 |nil=>exact .nil
 |@cons p q ps qs h t ih=>
  rw[map_cons,map_cons];refine .cons ?_ ih;obtain⟨h1,h2⟩:=h;by_cases e:p.1=k
  .rw[if_pos e,if_pos (h1.symm.trans e)];exact⟨h1,ry⟩
  .rw[if_neg e,if_neg (λz=>e (h1.trans z))];exact⟨h1,h2⟩
theorem KV.put {aa:List (B×V)}{vs:List (B×Value)}(r:KV aa vs)(k:B){y:V}{u:Value}(ry:RelV y u):KV (putK aa k y) (stored vs k u):=by
 unfold putK stored;rw[r.any k];by_cases e:(vs.any λkv=>decide (kv.1=k))=true
 .rw[if_pos e,if_pos e];exact r.Cb k ry
 .rw[if_neg e,if_neg e];exact Paired.snoc r ⟨rfl,ry⟩
theorem KV.length {aa:List (B×V)}{vs:List (B×Value)}(r:KV aa vs):aa.length=vs.length:=Paired.length r
end
theorem lZ {P:Program}{w:World}{k:Key}{u:Value}(r:RelV (kV k) u):(zf P w).is k u=true:=by
 cases k with
 |inl i=>obtain⟨t,e⟩:=(show ∃t,u=Value.int i t from r);subst e;exact OD P w i t
 |inr x=>obtain⟨t,e⟩:=(show ∃t,u=Value.str x t from r);subst e;exact OE P w x t
theorem Jv {P:Program}{w:World}:∀{ks:List Key}{us:List Value},Vals (ks.map kV) us->ItemsAre (zf P w) ks us
 |[],_,r=>by rw[map_nil]at r;cases r;exact .nil
 |k::ks,_,r=>by
  rw[map_cons]at r;cases r with
  |cons h t=>exact .cons (lZ h) (Jv t)
noncomputable abbrev KT (H:Hp):List (List Key×V)->List (List Key×Addr×Value)->Prop:=Paired λp q=>p.1=q.1/\H q.2.1=some (.tup (p.1.map kV))/\RelV p.2 q.2.2
theorem KT.val {H:Hp}{aa:List (List Key×V)}{xs:List (List Key×Addr×Value)}(r:KT H aa xs)(k:List Key):dI (aO aa k) ((atKey xs k).map (·.2)):=by
 induction r with
 |nil=>exact True.intro
 | @cons p q ps qs h t ih=>
  obtain⟨h1,_,h2⟩:=h;by_cases e:p.1=k
  .have e':q.1=k:=h1.symm.trans e;have b:atKey (q::qs) k=some q.2:=by simp[atKey,find?_cons,e']
   rw[vy e,b];exact h2
  .have e':¬q.1=k:=λz=>e (h1.trans z);have b:atKey (q::qs) k=atKey qs k:=by simp[atKey,find?_cons,e']
   rw[y7 e,b];exact ih
theorem KT.Cb {H:Hp}{aa:List (List Key×V)}{xs:List (List Key×Addr×Value)}(r:KT H aa xs)(k:List Key){y:V}{u:Value}(ry:RelV y u):KT H (aa.map λkv=>if kv.1=k then(kv.1,y)else kv) (xs.map (putAt k u)):=by
 induction r with
 |nil=>exact .nil
 |@cons p q ps qs h t ih=>
  rw[map_cons,map_cons];refine .cons ?_ ih;obtain⟨h1,h2,h3⟩:=h;unfold putAt;by_cases e:p.1=k
  .rw[if_pos e,if_pos (h1.symm.trans e)];exact⟨h1,h2,ry⟩
  .rw[if_neg e,if_neg (λz=>e (h1.trans z))];exact⟨h1,h2,h3⟩
theorem KT.put {H:Hp}{aa:List (List Key×V)}{xs:List (List Key×Addr×Value)}(r:KT H aa xs)(k:List Key){b:Addr}{y:V}{u:Value}(hb:H b=some (.tup (k.map kV)))(ry:RelV y u):KT H (putK aa k y) (storedH xs k b u):=by
 have e:(aa.any λkv=>decide (kv.1=k))=(atKey xs k).isSome:=by rw[wO,(r.val k).rC,Option.isSome_map]
 unfold putK storedH;rw[e];by_cases q:(atKey xs k).isSome=true
 .rw[if_pos q,if_pos q];exact r.Cb k ry
 .rw[if_neg q,if_neg q];exact Paired.snoc r ⟨rfl,hb,ry⟩
theorem KT.keeps {H H':Hp}{aa:List (List Key×V)}{xs:List (List Key×Addr×Value)}(r:KT H aa xs)(ht:∀b ys,H b=some (.tup ys)->H' b=some (.tup ys)):KT H' aa xs:=Paired.yf r λ_ _ z=>⟨z.1,ht _ _ z.2.1,z.2.2⟩
section
variable {P:Program}{w:World}{H:Hp}{h:Heap}{a:Addr}
theorem Jw {u:HO}(ok:bI P w H h)(e:Rd H a u):wc P w H h a u:=e.ok ok
theorem ma {aa:List (Key×V)}(ok:bI P w H h)(e:Rd H a (.dK aa)):aa.length<=sizeLine/\(a==sysModules)=false/\∃vs,KV aa vs/\h.DictOf (zf P w) a vs:=show wc P w H h a (.dK aa)from Jw ok e
theorem Jx {aa:List (Key×V)}(ok:bI P w H h)(e:H a=some (.dK aa)):aa.length<=sizeLine/\(a==sysModules)=false/\∃vs,KV aa vs/\h.DictOf (zf P w) a vs:=ma ok (.inl e)
theorem kO {ks:List Key}(ok:bI P w H h)(e:H a=some (.tup (ks.map kV))):(tupleKind (zf P w)).is h ks a:=by obtain⟨_,its,r,o,h1,h2,n,h3⟩:=(show wc P w H h a (.tup (ks.map kV))from ok a _ e);exact⟨o,its.toArray,n,h1,h2,h3,by simpa using Jv r⟩
theorem md {aa:List (List Key×V)}(ok:bI P w H h)(e:Rd H a (.dT aa)):aa.length<=sizeLine/\(a==sysModules)=false/\∃xs,KT H aa xs/\h.DictOfH (tupleKind (zf P w)) a xs:=by
 obtain⟨z,y,xs,r,o,es,ep,h1,h2,h3,h4,h5⟩:=(show wc P w H h a (.dT aa)from Jw ok e);refine⟨z,y,xs,r,o,es,ep,h1,h2,h3,h4,λx hx=>?_,h5⟩;have all:∀{l:List (List Key×V)}{m:List (List Key×Addr×Value)},KT H l m->∀x∈m,(tupleKind (zf P w)).is h x.1 x.2.1:=by
  intro l m q;induction q with
  |nil=>intro x hx;exact nomatch hx
  |@cons p q ps qs hq t ih=>
   intro x hx;rcases mem_cons.mp hx with e|hx
   .subst e;exact kO ok (by rw[<-hq.1];exact hq.2.1)
   .exact ih x hx
 exact all r x hx
theorem Cc {aa:List (List Key×V)}(ok:bI P w H h)(e:H a=some (.dT aa)):aa.length<=sizeLine/\(a==sysModules)=false/\∃xs,KT H aa xs/\h.DictOfH (tupleKind (zf P w)) a xs:=md ok (.inl e)
end
noncomputable def iq (H:Hp)(a:Addr)(y:V)(r:Option V):Prop:=(∃aa k,Rd H a (.dK aa)/\y=kV k/\r=aO aa k)\/∃aa k b,Rd H a (.dT aa)/\y= .ref b/\H b=some (.tup (k.map kV))/\r=aO aa k
noncomputable def fe (H:Hp)(a:Addr)(y v:V)(H':Hp):Prop:=(∃aa k,H a=some (.dK aa)/\y=kV k/\aa.length<sizeLine/\H'=upd H a (.dK (putK aa k v)))\/∃aa k b,H a=some (.dT aa)/\y= .ref b/\H b=some (.tup (k.map kV))/\aa.length<sizeLine/\H'=upd H a (.dT (putK aa k v))
theorem fe.k {H:Hp}{a:Addr}{aa:List (Key×V)}{k:Key}{v:V}(e:H a=some (.dK aa))(hl:aa.length<sizeLine):fe H a (kV k) v (upd H a (.dK (putK aa k v))):=.inl ⟨aa,k,e,rfl,hl,rfl⟩
theorem fe.t {H:Hp}{a b:Addr}{aa:List (List Key×V)}{k:List Key}{v:V}(e:H a=some (.dT aa))(eb:H b=some (.tup (k.map kV)))(hl:aa.length<sizeLine):fe H a (.ref b) v (upd H a (.dT (putK aa k v))):=.inr ⟨aa,k,b,e,rfl,eb,hl,rfl⟩
section
variable {X:Cx}{pins:List (Addr×Obj)}{U:St}{H:Hp}{s:Shared}{a:Addr}{y v:V}{u r:Value}{o:Option V}{A:Around}{E:Value->Shared->Prop}
theorem Inv.big (I:Inv X pins U H s):sysModules<s.heap.objs.size:=by have h:mainGlobals<s.heap.objs.size:=(I.mod.glob.keeps I.bk).lt;exact Nat.lt_trans (by decide) h
theorem QT {Q:Value->Shared->Prop}(hu:A.units+1<cLine)(I:Inv X pins U H s)(g:iq H a y (some v))(ry:RelV y u)(h:∀w' s',Inv X pins U H s'->RelV v w'->Q w' s'):wpAny (model X.prog X.w) A (getItem (.ref a) u) Q E s:=by
 rcases g with⟨aa,k,e,ey,l⟩|⟨aa,k,b,e,ey,eb,l⟩
 .subst ey;obtain⟨z,hd,vs,rel,dd⟩:=ma I.ah e;obtain⟨w',hw,cz⟩:=dI.some_of (v:=v) (o:=valueAt vs k) (by rw[l];exact rel.val k);exact wpAny_getItem_of (lZ ry) dd.mapOf hw (h w' _ (I.tok _) cz)
 .subst ey;cases(show u=Value.ref b from ry);obtain⟨z,hd,xs,rel,dd⟩:=md I.ah e;obtain⟨w',hw,cz⟩:=dI.some_of (v:=v) (o:=(atKey xs k).map (·.2)) (by rw[l];exact rel.val k);obtain⟨p,hp,QU⟩:=Option.map_eq_some_iff.mp hw;refine wpAny_getItem_heap (tupleKind_room_in1 hu) (kO I.ah eb) dd hp ?_;rw[QU];exact h w' _ (I.tok _) cz
theorem QV {Q:Value->Shared->Prop}(hu:A.units+1<cLine)(I:Inv X pins U H s)(g:iq H a y o)(ry:RelV y u)(h:∀s',Inv X pins U H s'->Q (.bool o.isSome) s'):wpAny (model X.prog X.w) A (compareOp .In u (.ref a)) Q E s:=by
 rcases g with⟨aa,k,e,ey,l⟩|⟨aa,k,b,e,ey,eb,l⟩
 .subst ey;obtain⟨z,hd,vs,rel,dd⟩:=ma I.ah e;refine wpAny_in_of (lZ ry) hd dd.mapOf ?_;rw[<-(rel.val k).rC,<-l];exact h _ (I.tok _)
 .subst ey;cases(show u=Value.ref b from ry);obtain⟨z,hd,xs,rel,dd⟩:=md I.ah e;refine wpAny_in_heap (tupleKind_room_in1 hu) (kO I.ah eb) hd dd ?_;have q:=(rel.val k).rC;rw[Option.isSome_map]at q;rw[<-q,<-l];exact h _ (I.tok _)
theorem QW {Q:Value->Shared->Prop}(hu:A.units+1<cLine)(I:Inv X pins U H s)(g:iq H a y o)(ry:RelV y u)(h:∀s',Inv X pins U H s'->Q (.bool (!o.isSome)) s'):wpAny (model X.prog X.w) A (compareOp .NotIn u (.ref a)) Q E s:=by
 rcases g with⟨aa,k,e,ey,l⟩|⟨aa,k,b,e,ey,eb,l⟩
 .subst ey;obtain⟨z,hd,vs,rel,dd⟩:=ma I.ah e;refine wpAny_notIn_of (lZ ry) hd dd.mapOf ?_;rw[<-(rel.val k).rC,<-l];exact h _ (I.tok _)
 .subst ey;cases(show u=Value.ref b from ry);obtain⟨z,hd,xs,rel,dd⟩:=md I.ah e;refine wpAny_notIn_heap (tupleKind_room_in1 hu) (kO I.ah eb) hd dd ?_;have q:=(rel.val k).rC;rw[Option.isSome_map]at q;rw[<-q,<-l];exact h _ (I.tok _)
theorem rE {h':Heap}{t':Nat}{ob:HO}(I:Inv X pins U H s)(mu:hJ (H a))(hs:Heap.SameBut a s.heap h')(he:∃q,h'.get? a=some q)(new:wc X.prog X.w (upd H a ob) h' a ob):Inv X pins U (upd H a ob) {s with heap:=h',toks:=t'}:=
 I.write (x:=a) (e:=a) mu (.inl rfl) (λb q hb z=>(hs.2 b hb).trans z) he new
theorem Jy {P:Program}{w:World}{H':Hp}{h':Heap}{aa:List (Key×V)}{vs:List (Key×Value)}(z:aa.length<=sizeLine)(hd:(a==sysModules)=false)(rel:KV aa vs)(dd:h'.DictOf (zf P w) a vs):wc P w H' h' a (.dK aa):=⟨z,hd,vs,rel,dd⟩
theorem QX {H':Hp}{Q:Unit->Shared->Prop}(hu:A.units+1<cLine)(I:Inv X pins U H s)(g:fe H a y v H')(ry:RelV y u)(rv:RelV v r)(h:∀s',Inv X pins U H' s'->Q () s'):wpAny (model X.prog X.w) A (setItem (.ref a) u r) Q E s:=by
 rcases g with⟨aa,k,e,ey,l,eH⟩|⟨aa,k,b,e,ey,eb,l,eH⟩
 .subst ey eH;obtain⟨z,hd,vs,rel,dd⟩:=Jx I.ah e;have hz:vs.length<=sizeLine:=by rw[<-rel.length];exact z
  have hl:(putK aa k v).length<=sizeLine:=by have:=rB aa k v;lia
  refine wpAny_setItem_pairs (hsz:=hz) (lZ ry) dd λh' ir hs=>h _ ?_;have he:∃q,h'.get? a=some q:=let⟨q,_,_,hq,_⟩:=ir;⟨q,hq⟩;exact rE I (by rw[e];exact True.intro) hs he (Jy hl hd (rel.put k rv) ir)
 .subst ey eH;cases(show u=Value.ref b from ry);obtain⟨z,hd,xs,rel,dd⟩:=Cc I.ah e;have hz:xs.length<=sizeLine:=by rw[<-Paired.length rel];exact z
  have hl:(putK aa k v).length<=sizeLine:=by have:=rB aa k v;lia
  refine wpAny_setItem_heap (hsz:=hz) (tupleKind_room_in1 hu) (kO I.ah eb) dd λh' ir hs=>h _ ?_;obtain⟨q,es,ep,hq,h2,h3,h4,_,h5⟩:=ir;refine rE I (by rw[e];exact True.intro) hs ⟨q,hq⟩ ⟨hl,hd,_,(rel.put k eb rv).keeps λc ys ec=>?_,q,es,ep,hq,h2,h3,h4,h5⟩;rw[jg (iW ec e (λz=>nomatch z))];exact ec
end
noncomputable def Jz (i:Expr):Prop:=∀ov iv,subscripted i false ov iv=operate [ov,iv] (getItem ov iv)
theorem QY {prog:Program}{w:World}{A:Around}{E:Value->Shared->Prop}{s:Shared}{env:Env}{value slice:Expr}{pos:Pos}{T id:String}{Q:Value->Shared->Prop}(hl:typeLookup (.type T) "__getitem__"=pure (some (.builtin id)))(hs:Jz slice)(h:wpAny (model prog w) A (eval value env) (λo aj=>wpAny (model prog w) A (eval slice env) (λi ae=>ae.TypeIs o T/\wpAny (model prog w) A (getItem o i) Q E ae) E aj) E s):
  wpAny (model prog w) A (eval (.Subscript value slice pos) env) Q E s:=by
 refine Subscript_ (wpAny_mono h (λo aj h₁=>wpAny_mono h₁ (λi ae bV=>?_) λ_ _ x=>x) λ_ _ x=>x);obtain⟨hT,bV⟩:=bV;unfold subscriptTail;refine wpAny_bind ?_;rw[getitemInPython_of_ne hT.not_modules];refine wpAny_bind (wpAny_specialOf hT hl ?_);have fin:wpAny (model prog w) A (subscripted slice false o i) (λr aU=>wpAny (model prog w) A (letTemporaryGo value o r >>= λ_=>pure r) Q E aU) E ae:=by rw[hs o i];exact wpAny_operating (wpAny_mono bV (λr aU fg=>wpAny_bind (wpAny_letTemporaryGo (wpAny_pure fg))) λ_ _ x=>x)
 first
  |exact wpAny_pure (wpAny_bind fin)
  |exact wpAny_bind (wpAny_pure (wpAny_bind fin))
  |exact wpAny_bind fin
theorem QZ {X:Cx}{pins:List (Addr×Obj)}{U:St}{H:Hp}{s:Shared}{a:Addr}{y:V}{o:Option V}(I:Inv X pins U H s)(g:iq H a y o):s.TypeIs (.ref a) "dict":=by
 rcases g with⟨aa,k,e,_,_⟩|⟨aa,k,b,e,_,_,_⟩
 .obtain⟨_,_,vs,_,dd⟩:=ma I.ah e;exact dd.typeIs
 .obtain⟨_,_,xs,_,dd⟩:=md I.ah e;exact dd.typeIs
noncomputable def Q0 (td ty:TE):TE:=λU H Q=>td U H λx H1=>ty U H1 λy H2=>∃a v,x= .ref a/\iq H2 a y (some v)/\Q v H2
noncomputable def Q1 (ty td:TE):TE:=λU H Q=>ty U H λy H1=>td U H1 λx H2=>∃a o,x= .ref a/\iq H2 a y o/\Q (.bl o.isSome) H2
noncomputable def Q2 (ty td:TE):TE:=λU H Q=>ty U H λy H1=>td U H1 λx H2=>∃a o,x= .ref a/\iq H2 a y o/\Q (.bl (!o.isSome)) H2
noncomputable def Q3 (td ty tv:TE):TS:=λD U H=>tv U H λv H1=>td U H1 λx H2=>ty U H2 λy H3=>∃a H4,x= .ref a/\fe H3 a y v H4/\D.nx U H4
section
variable {X:Cx}{o i e value:Expr}{pos pos' mW:Pos}{td ty tv:TE}
theorem wQ (hu:X.A.units+1<cLine)(ho:PE X o td)(hi:PE X i ty)(hs:Jz i):PE X (.Subscript o i pos) (Q0 td ty):=by intro pins s U H Q I h;refine QY PySem.F.slot_dict_getitem.lookup hs (ai (ho pins s U H _ I h) λu s1 ⟨x,H1,I1,rx,q1⟩=>ai (hi pins s1 U H1 _ I1 q1) λiv s2 zQ=>?_);obtain⟨y,H2,I2,ry,a,v,ex,g,q2⟩:=zQ;subst ex;obtain rfl:u=Value.ref a:=rx;exact⟨QZ I2 g,QT hu I2 g ry λw' s3 I3 cz=>⟨v,H2,I3,cz,q2⟩⟩
theorem Q4 (hu:X.A.units+1<cLine)(hi:PE X i ty)(ho:PE X o td):PC X .In i o (Q1 ty td):=by intro pins s U H Q I h;refine ai (hi pins s U H _ I h) λiv s1 ⟨y,H1,I1,ry,q1⟩=>ai (ho pins s1 U H1 _ I1 q1) λu s2 zQ=>?_;obtain⟨x,H2,I2,rx,a,ov,ex,g,q2⟩:=zQ;subst ex;obtain rfl:u=Value.ref a:=rx;exact QV hu I2 g ry λs3 I3=>⟨.bl ov.isSome,H2,I3,rfl,q2⟩
theorem wR (hu:X.A.units+1<cLine)(hi:PE X i ty)(ho:PE X o td):PC X .NotIn i o (Q2 ty td):=by intro pins s U H Q I h;refine ai (hi pins s U H _ I h) λiv s1 ⟨y,H1,I1,ry,q1⟩=>ai (ho pins s1 U H1 _ I1 q1) λu s2 zQ=>?_;obtain⟨x,H2,I2,rx,a,ov,ex,g,q2⟩:=zQ;subst ex;obtain rfl:u=Value.ref a:=rx;exact QW hu I2 g ry λs3 I3=>⟨.bl (!ov.isSome),H2,I3,rfl,q2⟩
theorem rF (hu:X.A.units+1<cLine)(ho:PE X o td)(hi:PE X i ty)(hv:PE X value tv)(hs:swapsWith value (some (.Subscript o i pos')) pos.line X.env=pure false):PS X (.Assign [.Subscript o i pos'] value pos) (Q3 td ty tv):=by
 intro pins s U H D I h;refine wpAny_Assign_Subscript (ai (hv pins s U H _ I h) λr s1 ⟨v,H1,I1,rv,q1⟩=>ai (ho pins s1 U H1 _ I1 q1) λu s2 ⟨x,H2,I2,rx,q2⟩=>ai (hi pins s2 U H2 _ I2 q2) λiv s3 zQ=>?_) hs;obtain⟨y,H3,I3,ry,a,H4,ex,g,q3⟩:=zQ;subst ex;obtain rfl:u=Value.ref a:=rx;exact QX hu I3 g ry rv λs4 I4=>⟨U,H4,I4,q3⟩
end
theorem JA {P:Program}{w:World}{H:Hp}(h:Heap)(hb:sysModules<h.objs.size):wc P w H (h.push {cls:=.type "dict",data:=.dict #[]}) h.objs.size (.dK []):=⟨zero_le _,beq_eq_false_iff_ne.mpr (Ne.symm (ne_of_lt hb)),[],.nil,Heap.DictOf.new h⟩
theorem JB {P:Program}{w:World}{H:Hp}(h:Heap)(hb:sysModules<h.objs.size):wc P w H (h.push {cls:=.type "dict",data:=.dict #[]}) h.objs.size (.dT []):=⟨zero_le _,beq_eq_false_iff_ne.mpr (Ne.symm (ne_of_lt hb)),[],.nil,_,#[],0,Heap.get?_push_size _ rfl,⟨rfl,rfl,rfl⟩,rfl,rfl,nodup_nil⟩
noncomputable def Q5:TE:=λ_ H Q=>∀p,H p=none->Q (.ref p) (upd H p (.dK []))
noncomputable def Q6:TE:=λ_ H Q=>∀p,H p=none->Q (.ref p) (upd H p (.dT []))
section
variable {X:Cx}{pos:Pos}
theorem Q7:PE X (.Dict [] [] pos) Q5:=λpins s U H Q I h=>wpAny_Dict_empty ⟨.ref s.heap.objs.size,_,I.laid (a:=s.heap.objs.size) (o:=.dK []) (t':=s.toks) (λ_ _ q=>Heap.get?_push_of_some _ q) (le_refl _) (JA s.heap I.big),rfl,h _ (I.ah.fresh (le_refl _))⟩
theorem rG:PE X (.Dict [] [] pos) Q6:=λpins s U H Q I h=>wpAny_Dict_empty ⟨.ref s.heap.objs.size,_,I.laid (a:=s.heap.objs.size) (o:=.dT []) (t':=s.toks) (λ_ _ q=>Heap.get?_push_of_some _ q) (le_refl _) (JB s.heap I.big),rfl,h _ (I.ah.fresh (le_refl _))⟩
end
structure M1 (X:Cx)(o:Expr)(m:Str)(apos:Pos)(e:Expr)(av:Pos):Prop where
 base:attributeBase o m X.env (eval o X.env)=eval o X.env
 few:((backTo av (starEach [e] X.env)).all (λx=>!x.1)&&(backToKw av (keywordEach [] X.env)).all (λx=>x.1.isSome)&&decide (([e]:List Expr).length+([]:List Keyword).length+(if([]:List Keyword).isEmpty then 0 else 1)<30))=true
 line:(apos.endLine==av.line)=true
 trees:backTo av (starEach [e] X.env)=[(false,eval e X.env)]
structure M2 (X:Cx)(o:Expr)(m:Str)(apos:Pos)(e f:Expr)(av:Pos):Prop where
 base:attributeBase o m X.env (eval o X.env)=eval o X.env
 few:((backTo av (starEach [e,f] X.env)).all (λx=>!x.1)&&(backToKw av (keywordEach [] X.env)).all (λx=>x.1.isSome)&&decide (([e,f]:List Expr).length+([]:List Keyword).length+(if([]:List Keyword).isEmpty then 0 else 1)<30))=true
 line:(apos.endLine==av.line)=true
 trees:backTo av (starEach [e,f] X.env)=[(false,eval e X.env),(false,eval f X.env)]
noncomputable def wU (H:Hp)(a:Addr):Prop:=(∃aa,Rd H a (.dK aa))\/∃aa,Rd H a (.dT aa)
theorem Cd {X:Cx}{pins:List (Addr×Obj)}{U:St}{H:Hp}{s:Shared}{a:Addr}(I:Inv X pins U H s)(d:wU H a):s.TypeIs (.ref a) "dict"/\(∀b,Value.ref a= .ref b->∃ob,s.heap.get? b=some ob/\ob.dict=none)/\(a==sysModules)=false:=by
 rcases d with⟨aa,e⟩|⟨aa,e⟩
 .obtain⟨_,hd,vs,_,dd⟩:=ma I.ah e;refine⟨dd.typeIs,λb q=>?_,hd⟩;cases q;obtain⟨ob,_,_,h1,h2,_⟩:=dd;exact⟨ob,h1,h2.2.1⟩
 .obtain⟨_,hd,xs,_,dd⟩:=md I.ah e;refine⟨dd.typeIs,λb q=>?_,hd⟩;cases q;obtain⟨ob,_,_,h1,h2,_⟩:=dd;exact⟨ob,h1,h2.2.1⟩
section
variable {X:Cx}{pins:List (Addr×Obj)}{U:St}{H:Hp}{s:Shared}{a:Addr}{y d:V}{u r:Value}{o:Option V}{A:Around}{E:Value->Shared->Prop}
theorem Q8 {Q:Value->Shared->Prop}(hu:A.units+1<cLine)(I:Inv X pins U H s)(g:iq H a y o)(ry:RelV y u)(h:∀w' s',Inv X pins U H s'->RelV (o.getD .aq) w'->Q w' s'):wpAny (model X.prog X.w) A (call (.builtin "dict.get") [.ref a,u]) Q E s:=by
 rcases g with⟨aa,k,e,ey,l⟩|⟨aa,k,b,e,ey,eb,l⟩
 .subst ey;obtain⟨z,hd,vs,rel,dd⟩:=ma I.ah e;refine call_meetsIn PySem.F.slot_dict_get dd.typeIs PySem.F.entry_dict_get (PySem.F.args_dict_get_2 _ _) (meets_dict_get (zf X.prog X.w) a (lZ ry) hd) ⟨_,dd.mapOf,h _ _ (I.tok _) ?_⟩;rw[l];exact(rel.val k).getD rfl
 .subst ey;cases(show u=Value.ref b from ry);obtain⟨z,hd,xs,rel,dd⟩:=md I.ah e;refine call_meetsIn PySem.F.slot_dict_get dd.typeIs PySem.F.entry_dict_get (PySem.F.args_dict_get_2 _ _) (meetsH_dict_get (tupleKind (zf X.prog X.w)) a b hd) ⟨tupleKind_room_in1 hu,k,xs,kO I.ah eb,dd,h _ _ (I.tok _) ?_⟩;rw[l];exact(rel.val k).getD rfl
theorem Q9 {Q:Value->Shared->Prop}(hu:A.units+1<cLine)(I:Inv X pins U H s)(g:iq H a y o)(ry:RelV y u)(rd:RelV d r)(h:∀w' s',Inv X pins U H s'->RelV (o.getD d) w'->Q w' s'):wpAny (model X.prog X.w) A (call (.builtin "dict.get") [.ref a,u,r]) Q E s:=by
 rcases g with⟨aa,k,e,ey,l⟩|⟨aa,k,b,e,ey,eb,l⟩
 .subst ey;obtain⟨z,hd,vs,rel,dd⟩:=ma I.ah e;refine call_meetsIn PySem.F.slot_dict_get dd.typeIs PySem.F.entry_dict_get (PySem.F.args_dict_get_3 _ _ _) (meets_dict_get_default (zf X.prog X.w) a (lZ ry) hd r) ⟨_,dd.mapOf,h _ _ (I.tok _) ?_⟩;rw[l];exact(rel.val k).getD rd
 .subst ey;cases(show u=Value.ref b from ry);obtain⟨z,hd,xs,rel,dd⟩:=md I.ah e;refine call_meetsIn PySem.F.slot_dict_get dd.typeIs PySem.F.entry_dict_get (PySem.F.args_dict_get_3 _ _ _) (meetsH_dict_get_default (tupleKind (zf X.prog X.w)) a b hd r) ⟨tupleKind_room_in1 hu,k,xs,kO I.ah eb,dd,h _ _ (I.tok _) ?_⟩;rw[l];exact(rel.val k).getD rd
end
noncomputable def Ra (td ty:TE):TE:=λU H Q=>td U H λx H1=>∃a,x= .ref a/\wU H1 a/\ty U H1 λy H2=>∃o,iq H2 a y o/\Q (o.getD .aq) H2
noncomputable def Rb (td ty tx:TE):TE:=λU H Q=>td U H λx H1=>∃a,x= .ref a/\wU H1 a/\ty U H1 λy H2=>tx U H2 λz H3=>∃o,iq H3 a y o/\Q (o.getD z) H3
section
variable {X:Cx}{o e f:Expr}{apos av:Pos}{td ty tx:TE}
theorem JC (hu:X.A.units+1<cLine)(ho:PE X o td)(he:PE X e ty)(m:M1 X o "get" apos e av):PE X (.Call (.Attribute o "get" apos) [e] [] av) (Ra td ty):=by intro pins s U H Q I h;refine wpAny_Call_method m.base m.few m.line PySem.F.plainAttrs_dict PySem.F.slot_dict_get PySem.F.type_dict_get (ai (ho pins s U H _ I h) λu s1 zQ=>?_);obtain⟨x,H1,I1,rx,a,ex,d,q1⟩:=zQ;subst ex;obtain rfl:u=Value.ref a:=rx;obtain⟨t1,t2,_⟩:=Cd I1 d;refine⟨t1,t2,?_⟩;rw[m.trees];refine Calls.callWith_builtin rfl (Calls.evalArgs_plain (Calls.spliced_cons (ai (he pins s1 U H1 _ I1 q1) λiv s2 ⟨y,H2,I2,ry,ov,g,q2⟩=>Calls.spliced_nil ?_)));exact Q8 hu I2 g ry λw' s3 I3 cz=>⟨_,H2,I3,cz,q2⟩
theorem wV (hu:X.A.units+1<cLine)(ho:PE X o td)(he:PE X e ty)(hf:PE X f tx)(m:M2 X o "get" apos e f av):PE X (.Call (.Attribute o "get" apos) [e,f] [] av) (Rb td ty tx):=by
 intro pins s U H Q I h;refine wpAny_Call_method m.base m.few m.line PySem.F.plainAttrs_dict PySem.F.slot_dict_get PySem.F.type_dict_get (ai (ho pins s U H _ I h) λu s1 zQ=>?_);obtain⟨x,H1,I1,rx,a,ex,d,q1⟩:=zQ;subst ex;obtain rfl:u=Value.ref a:=rx;obtain⟨t1,t2,_⟩:=Cd I1 d;refine⟨t1,t2,?_⟩;rw[m.trees];refine Calls.callWith_builtin rfl (Calls.evalArgs_plain (Calls.spliced_cons (ai (he pins s1 U H1 _ I1 q1) λiv s2 ⟨y,H2,I2,ry,q2⟩=>Calls.spliced_cons (ai (hf pins s2 U H2 _ I2 q2) λfv s3 ⟨z,H3,I3,rz,ov,g,q3⟩=>Calls.spliced_nil ?_))));exact Q9 hu I3 g ry rz λw' s4 I4 cz=>⟨_,H3,I4,cz,q3⟩
end
section
variable {B:Type}[DecidableEq B]
theorem Rc {aa:List (B×V)}{k:B}{v:V}(h:aO aa k=some v):k∈aa.map (·.1):=by
 have q:(aa.any λkv=>decide (kv.1=k))=true:=by rw[wO,h];all_goals rfl
 obtain⟨p,hp,e⟩:=List.any_eq_true.mp q;exact mem_map.mpr ⟨p,hp,of_decide_eq_true e⟩
end
noncomputable def fX (scope:Scope)(env:Env):List (Str×Addr):=(scope.names.filterMap λp=>if p.2=NameKind.free then(env.cells.lookup p.1).map λc=>(p.1,c)else none).reverse
theorem Ce {α:Type}{x:Str}{c:α}:∀{l:List (Str×α)},l.lookup x=some c->(x,c)∈l
 |[],h=>by simp at h
 |(y,d)::r,h=>by
  rw[lookup_cons]at h;cases e:x==y with
  |true=>rw[e]at h;have h':d=c:=Option.some.inj h;rw[h',eq_of_beq e];exact mem_cons_self
  |false=>rw[e]at h;exact mem_cons_of_mem _ (Ce h)
theorem JD {α:Type}{x:Str}{c:α}:∀{l:List (Str×α)},(x,c)∈l->∃d,l.lookup x=some d
 |[],h=>by simp at h
 | (y,d)::r,h=>by
  rw[lookup_cons];cases e:x==y with
  |true=>exact⟨d,rfl⟩
  |false=>
   rcases mem_cons.mp h with z|z
   .have z1:x=y:=congrArg Prod.fst z;rw[z1,beq_self_eq_true]at e;cases e
   .exact JD z
theorem JE {scope:Scope}{env:Env}{x:Str}{c:Addr}:(x,c)∈fX scope env↔(x,NameKind.free)∈scope.names/\env.cells.lookup x=some c:=by
 unfold fX;rw[List.mem_reverse,mem_filterMap];constructor
 .rintro⟨⟨y,k⟩,hm,e⟩
  by_cases hk:k=NameKind.free
  .subst hk;rw[if_pos rfl]at e;cases q:env.cells.lookup y with
   |none=>rw[q]at e;cases e
   |some d=>rw[q]at e;have e':(y,d)=(x,c):=Option.some.inj e;cases e';exact⟨hm,q⟩
  .rw[if_neg hk]at e;cases e
 .rintro⟨hm,q⟩
  exact⟨(x,NameKind.free),hm,by rw[if_pos rfl];rw[q];rfl⟩
theorem iw {scope:Scope}{env:Env}{x:Str}{c:Addr}(h:(fX scope env).lookup x=some c):env.cells.lookup x=some c:=(JE.mp (Ce h)).2
theorem Cf {scope:Scope}{env:Env}{x:Str}{c:Addr}(hm:(x,NameKind.free)∈scope.names)(h:env.cells.lookup x=some c):(fX scope env).lookup x=some c:=by obtain⟨d,e⟩:=JD (JE.mpr ⟨hm,h⟩);rw[e,<-h];exact(iw e).symm
theorem Cg {env:Env}:∀(names:List (Str×NameKind))(cs:List (Str×Addr)),(∀p∈names,p.2= .free->∃c,env.cells.lookup p.1=some c)->(forIn names cs λ(x:Str×NameKind)(cs:List (Str×Addr))=>(match x with
   |(name,kind)=>if(kind== .free)=true then(do let a<-cellOf env name;pure (ForInStep.yield ((name,a)::cs)))else pure (ForInStep.yield cs):Sem (ForInStep (List (Str×Addr)))))
   =pure ((names.filterMap λp=>if p.2=NameKind.free then(env.cells.lookup p.1).map λc=>(p.1,c)else none).reverse++cs)
 |[],cs,_=>rfl
 | (n,k)::r,cs,h=>by
  rw[List.forIn_cons];have hr:∀p∈r,p.2= .free->∃c,env.cells.lookup p.1=some c:=λp hp=>h p (mem_cons_of_mem _ hp);by_cases hk:k=NameKind.free
  .subst hk;obtain⟨c,hc⟩:=h (n,.free) mem_cons_self rfl;have e1:cellOf env n=pure c:=by unfold cellOf;rw[show env.cells.lookup n=some c from hc]
   show((do let a<-cellOf env n;pure (ForInStep.yield ((n,a)::cs)):Sem (ForInStep (List (Str×Addr)))) >>= _)=_;rw[e1];simp only[pure_bind];rw[Cg r ((n,c)::cs) hr,filterMap_cons,if_pos rfl,show env.cells.lookup n=some c from hc];simp
  .have hb:(k==NameKind.free)=false:=by simpa using hk
   show((if(k==NameKind.free)=true then(do let a<-cellOf env n;pure (ForInStep.yield ((n,a)::cs)))else pure (ForInStep.yield cs):Sem (ForInStep (List (Str×Addr)))) >>= _)=_;rw[hb,if_neg Bool.false_ne_true];simp only[pure_bind];rw[Cg r cs hr,filterMap_cons,if_neg hk]
theorem Rf {scope:Scope}{env:Env}(h:∀p∈scope.names,p.2= .free->∃c,env.cells.lookup p.1=some c):closureFor scope env=pure (fX scope env):=by have e:=Cg scope.names [] h;rw[append_nil]at e;unfold closureFor fX;simp only[bind_pure];exact e
theorem wz {env:Env}{x:Str}:∀{names:List (Str×NameKind)}{k:NameKind},(names.map λ(n,k)=>if(k==NameKind.free&&env.scope.kind== .function&&env.kindOf n==some .cell)then(n,NameKind.cell)else(n,k)).lookup x=some k->∃k',(x,k')∈names/\(k'=k\/(k'= .free/\k= .cell))
 |[],_,h=>by simp at h
 | (n,j)::r,k,h=>by
  by_cases hc:(j==NameKind.free&&env.scope.kind== .function&&env.kindOf n==some .cell)=true
  .rw[map_cons]at h;have h':List.lookup x ((if(j==NameKind.free&&env.scope.kind== .function&&env.kindOf n==some .cell)=true then(n,NameKind.cell)else(n,j))::_)=some k:=h;rw[if_pos hc,lookup_cons]at h';cases e:x==n with
   |true=>
    rw[e]at h';have h2:NameKind.cell=k:=Option.some.inj h';have hj:j=NameKind.free:=by have:=hc;rw[Bool.and_eq_true,Bool.and_eq_true]at this;exact eq_of_beq this.1.1
    exact⟨j,by rw[eq_of_beq e];exact mem_cons_self,.inr ⟨hj,h2.symm⟩⟩
   |false=>rw[e]at h';obtain⟨k',hm,q⟩:=wz h';exact⟨k',mem_cons_of_mem _ hm,q⟩
  .rw[map_cons]at h;have h':List.lookup x ((if(j==NameKind.free&&env.scope.kind== .function&&env.kindOf n==some .cell)=true then(n,NameKind.cell)else(n,j))::_)=some k:=h;rw[if_neg hc,lookup_cons]at h';cases e:x==n with
   |true=>rw[e]at h';exact⟨j,by rw[eq_of_beq e];exact mem_cons_self,.inl (Option.some.inj h')⟩
   |false=>rw[e]at h';obtain⟨k',hm,q⟩:=wz h';exact⟨k',mem_cons_of_mem _ hm,q⟩
noncomputable def JF (N:List Str)(sc scope:Scope)(N':List Str)(ix:List (Option Nat)):Bool:=scope.kind== .function&&scope.names.all (λy=>y.2 != .cell)&&scope.names.all (λy=>y.2 != .local||scope.names.lookup y.1==some .local)&&
 scope.names.all (λy=>y.2 != .free||sc.names.lookup y.1==some .cell||sc.names.lookup y.1==some .free)&&
 decide (ix.length=N'.length)&&decide N'.Nodup&&(N'.zip ix).all λp=>match p.2 with
  |none=>scope.names.all λy=>y.1 != p.1||y.2== .local
  |some k=>N[k]?==some p.1&&scope.names.lookup p.1==some .free&&scope.names.all λy=>y.1 != p.1||y.2== .free
structure jD (N:List Str)(sc scope:Scope)(N':List Str)(ix:List (Option Nat)):Prop where
 kind:scope.kind= .function
 Ci:∀y∈scope.names,y.2≠.cell
 names:∀y∈scope.names,y.2= .local->scope.names.lookup y.1=some .local
 frees:∀y∈scope.names,y.2= .free->sc.names.lookup y.1=some .cell\/sc.names.lookup y.1=some .free
 len:ix.length=N'.length
 nd:N'.Nodup
 own:∀(i:Nat)(x:Str),N'[i]?=some x->ix[i]?=some none->∀y∈scope.names,y.1=x->y.2= .local
 out:∀(i:Nat)(x:Str)(k:Nat),N'[i]?=some x->ix[i]?=some (some k)->N[k]?=some x/\(x,NameKind.free)∈scope.names/\∀y∈scope.names,y.1=x->y.2= .free
theorem y8 {N:List Str}{sc scope:Scope}{N':List Str}{ix:List (Option Nat)}(h:JF N sc scope N' ix=true):jD N sc scope N' ix:=by
 unfold JF at h;simp only[Bool.and_eq_true,all_eq_true,Bool.or_eq_true,bne_iff_ne,beq_iff_eq,decide_eq_true_eq,ne_eq]at h;obtain⟨⟨⟨⟨⟨⟨h1,h2⟩,h3⟩,h4⟩,h5⟩,h6⟩,h7⟩:=h;have me:∀{i:Nat}{x:Str}{o:Option Nat},N'[i]?=some x->ix[i]?=some o->(x,o)∈N'.zip ix:=λ{i x o} a b=>by refine mem_of_getElem? (i:=i) ?_;rw[List.getElem?_zip_eq_some];exact⟨a,b⟩
 refine⟨h1,λy hy=>h2 y hy,λy hy e=>?_,λy hy e=>?_,h5,h6,λi x a b y hy e=>?_,λi x k a b=>?_⟩
 .rcases h3 y hy with z|z
  .exact absurd e z
  .exact z
 .rcases h4 y hy with(z|z)|z
  .exact absurd e z
  .exact .inl z
  .exact .inr z
 .have q:=h7 _ (me a b);simp only[all_eq_true,Bool.or_eq_true,bne_iff_ne,beq_iff_eq,ne_eq]at q;rcases q y hy with z|z
  .exact absurd e z
  .exact z
 .have q:=h7 _ (me a b);simp only[Bool.and_eq_true,all_eq_true,Bool.or_eq_true,bne_iff_ne,beq_iff_eq,ne_eq]at q;obtain⟨⟨q1,q2⟩,q3⟩:=q;refine⟨q1,Ce q2,λy hy e=>?_⟩;rcases q3 y hy with z|z
  .exact absurd e z
  .exact z
noncomputable def gQ (ix:List (Option Nat))(U:St):St:=ix.map λo=>match o with
 |some k=>(U[k]?).join
 |none=>none
noncomputable def aX (X:Cx)(scope:Scope)(N':List Str)(C:Addr)(fp:List Addr)(ae:Shared)(ag:Hp):Cx:={X with N:=N',au:=ae,bD:=ag,env:=compEnvC scope (fX scope X.env) C X.env,outer:=X.stack,stack:=X.stack,ex:=fp,fn:=λ_=>false,pn:=[],xe:=λ_ _=>False}
noncomputable abbrev ef (its:List Value)(n:Nat):Obj:={cls:=.type "list",data:=.seq its.toArray n}
section
variable {X:Cx}{scope:Scope}{N':List Str}{ix:List (Option Nat)}{C:Addr}{fp:List Addr}{ae:Shared}{ag:Hp}{pins:List (Addr×Obj)}{U:St}
theorem Rg (I:Inv X pins U ag ae){x:Str}{c:Addr}(h:(fX scope X.env).lookup x=some c):c<ae.heap.objs.size:=by obtain⟨v,q⟩:=I.cell x c (iw h);exact q.lt
theorem JG (I:Inv X pins U ag ae)(co:jD X.N X.env.scope scope N' ix)(hC:@LE.le Nat _ ae.heap.objs.size C)(hf:∀b∈fp,eO X pins ag b)(aQ:∀b∈fp,b<ae.heap.objs.size):(aX X scope N' C fp ae ag).Ok where
 mod:=I.ok.mod
 kind:=co.kind
 glob:=I.ok.glob
 blt:=I.ok.blt
 above:=hC
 inj:=λx y c e1 e2=>I.ok.inj x y c (iw e1) (iw e2)
 has:=λx h=>by
  have h1:∃k,(relabel scope X.env).names.lookup x=some k/\(k= .cell\/k= .free):=by
   rcases h with h|h
   .exact⟨_,h,.inl rfl⟩
   .exact⟨_,h,.inr rfl⟩
  obtain⟨k,h1,h2⟩:=h1;obtain⟨k',hm,q⟩:=wz h1;have hk:k'= .free:=by
   rcases q with q|⟨q,_⟩
   .rcases h2 with z|z
    .exact absurd (q.trans z) (co.Ci _ hm)
    .exact q.trans z
   .exact q
  rw[hk]at hm;obtain⟨c,hc⟩:=I.ok.has x (co.frees _ hm rfl);exact⟨c,Cf hm hc⟩
 mQ:=λx c h=>by have h':false=true:=h;cases h'
 hd:=I.ok.hd
 frames:=I.ok.frames
 cU:=.inl rfl
 vM:=λb hb=>⟨ne_of_lt (lt_of_lt_of_le (aQ b hb) hC),λx c e=>(hf b hb).2.2.2.2.1 x c (iw e)⟩
 bs:=I.bs
 iY:=le_trans I.ok.iY I.sz
 mR:=λb o e hb=>by
  rcases(hf b hb).2.2.2.1 with z|z
  .exact I.ok.mR b o e z
  .exact absurd (lt_of_lt_of_le (Heap.lt_size (I.ok.bs b o e).1) z) (lt_irrefl _)
 oJ:=λb hb z=>by
  rcases mem_cons.mp (I.mS b z)with e|e
  .exact(hf b hb).2.1 e
  .exact(hf b hb).2.2.1 e
 eL:=I.stack
 hU:=I.vN
theorem Rh (I:Inv X pins U ag ae){b:Addr}(h:ae.heap.objs.size<=b):b∉bp X.stack:=λz=>by
 rcases mem_cons.mp (I.mS b z)with e|e
 .rw[e]at h;exact absurd (lt_of_lt_of_le I.lt h) (lt_irrefl _)
 .exact I.HU h e
theorem Ri (I:Inv X pins U ag ae)(co:jD X.N X.env.scope scope N' ix){D:Addr}{h₁:Heap}{t':Nat}(hD:@Eq Nat D ae.heap.objs.size)(hC:@Eq Nat C (ae.heap.objs.size+1))(hf:∀b∈fp,eO X pins ag b)(aQ:∀b∈fp,b<ae.heap.objs.size)(old:∀b o,ae.heap.get? b=some o->h₁.get? b=some o)(kP:h₁.get? D=some (ef [] 0)){m:Str->Option Value}(oV:h₁.Ns C m):
  Inv (aX X scope N' C fp ae ag) [(D,ef [] 0)] (gQ ix U) ag {ae with heap:=h₁,toks:=t'} where
 ok:=JG I co (by lia) hf aQ
 os:=rfl
 bare:=I.bare
 base:=Un.kept old
 loc :=by
  refine⟨m,oV,λi x v e1 e2 e3=>?_⟩;unfold gQ at e2;rw[getElem?_map]at e2;cases q:ix[i]? with
  |none=>rw[q]at e2;cases e2
  | some o=>
   rw[q]at e2;cases o with
   |none=>cases e2
   | some k=>
    have fK:(U[k]?).join=some v:=Option.some.inj e2;have nC:U[k]?=some (some v):=by
     cases z:U[k]? with
     |none=>rw[z]at fK;cases fK
     |some o=>rw[z]at fK;exact congrArg some fK
    obtain⟨o1,o2,o3⟩:=co.out i x k e1 q;have hk:X.env.kindOf x=some .cell\/X.env.kindOf x=some .free:=co.frees _ o2 rfl;have Rj:qD X.env.scope x:=.inr hk;obtain⟨m0,_,hl⟩:=I.loc;obtain⟨u,r,l⟩:=hl k x v o1 nC Rj;refine⟨u,r,?_⟩;rcases l with⟨l,_⟩|⟨_,c,ec,dm⟩
    .rcases hk with z|z
     .rw[z]at l;cases l
     .rw[z]at l;cases l
    .refine .inr ⟨?_,c,Cf o2 ec,?_⟩
     .rcases e3 with z|z|z
      .obtain⟨k',hm,q⟩:=wz z;rcases q with q|⟨_,q⟩
       .have:=o3 _ hm rfl;rw[show k'=NameKind.local from q]at this;cases this
       .cases q
      .exact .inl z
      .exact .inr z
     .obtain⟨o,ho,hd⟩:=dm;exact⟨o,old _ _ ho,hd⟩
 cell:=λx c e=>by obtain⟨v,o,ho,hd⟩:=I.cell x c (iw e);exact⟨v,o,old _ _ ho,hd⟩
 free:=I.ah.fresh (by show@LE.le Nat _ ae.heap.objs.size C;lia)
 dC:=λx c e=>I.dC x c (iw e)
 pin:=λp hp=>by
  have e:p=(D,ef [] 0):=by simpa[aX]using hp
  subst e;refine⟨kP,I.ah.fresh (by show@LE.le Nat _ ae.heap.objs.size D;lia),by show¬@Eq Nat D C;lia,Rh I (by show@LE.le Nat _ ae.heap.objs.size D;lia),λv z=>?_⟩;have z':Data.seq _ _=Data.cell v:=z;cases z'
 ah:=I.ah.kept old
 len:=by unfold gQ;rw[length_map];exact co.len
theorem Rk (I:Inv X pins U ag ae){D:Addr}(hD:@Eq Nat D ae.heap.objs.size)(hf:∀b∈fp,eO X pins ag b){ys:List V}{its:List Value}{n:Nat}{U':St}{H':Hp}{s':Shared}(I':Inv (aX X scope N' C fp ae ag) [(D,ef its n)] U' H' s')(hv:Vals ys its)(hz:ys.length<=sizeLine):Inv X pins U (upd H' D (.lst ys)) s':=by
 obtain⟨dp,dn,_,_,_⟩:=I'.pin (D,ef its n) (by simp);have Rl:s'.heap.get? D=some (ef its n):=dp;have JH:H' D=none:=dn;have u:=I'.base;have ne:∀b o,ae.heap.get? b=some o->b≠D:=λb o e z=>by have h1:@LT.lt Nat _ b ae.heap.objs.size:=Heap.lt_size e;have h2:@Eq Nat b D:=z;lia
 have mf:∀b o,ag b=some o->b≠D:=λb o e z=>by have h1:@LT.lt Nat _ b ae.heap.objs.size:=I.ah.lt e;have h2:@Eq Nat b D:=z;lia
 refine I.Bn (ch:=fp) I'.os ⟨u.keep,u.slot,λb o e q hb=>?_,u.there,λb xs q=>?_,λb o xs q=>?_,λb ps q=>?_⟩ (λb o e=>?_) I'.bare λb hb=>?_
 .rw[jg (ne b o e)];exact u.free b o e q hb
 .rw[jg (mf b _ q)];exact u.dJ b xs q
 .rw[jg (mf b _ q)];exact u.dB b o xs q
 .rw[jg (mf b _ q)];exact u.dW b ps q
 .by_cases hb:b=D
  .subst hb;rw[ja]at e;cases e;exact⟨hz,its,n,hv,Rl⟩
  .rw[jg hb]at e;exact(I'.ah b o e).bZ (λc v _ q=>q) (λc q=>by rw[jg (jj q JH)];exact q) λc xs q=>by rw[jg (jj q JH)];exact q
 .obtain⟨_,f1,_,f3,f4,f5⟩:=hf b hb;exact⟨f3,f1,f4,f5⟩
end
noncomputable abbrev dN:Value->Shared->Prop:=λ_ _=>False
section
variable {prog:Program}{w:World}{A:Around}{R:Result->Shared->Prop}{s:Shared}
theorem Rm {elt target iter:Expr}{ifs:List Expr}{scope:Scope}{pos:Pos}{it acc:Value}{env:Env}(I:Nat->Shared->Prop)(turn:∀n s,I n s->wpAny (model prog w) A (pyNext it) (λr aj=>match r with
   |none=>R (.ok .next) aj
   |some v=>wpAny (model prog w) A (letOwnedTupleGo target it v) (λ_ aj=>wpAny (model prog w) A (assign target env v) (λ_ ae=>wpAny (model prog w) A (forIn ifs true λc r=>if r=true then do let ok<-isTrue c env (eval c env);pure (ForInStep.yield ok)else pure (ForInStep.yield r)) (λok aU=>if ok=true then wpAny (model prog w) A (eval elt env) (λx dF=>wpAny (model prog w) A (call (.builtin "list.append") [acc,x]) (λ_ iy=>∃m,m<n/\I m iy) dN dF) dN aU
      else ∃m,m<n/\I m aU) dN ae) dN aj) dN aj) dN s)(n:Nat)(h:I n s):codeAny (model prog w) A (.compLoop (.ListComp elt [⟨target,iter,ifs,0⟩] scope pos) 0 it acc env) R s:=by
 refine codeAny_loop rfl I (λn s hI=>?_) n h;show wpAny _ A ((compTurn (.ListComp elt [⟨target,iter,ifs,0⟩] scope pos) 0 it acc env).onRaise (λx=>do noteFrame x env;theTreesLotGoes x)) _ _ s;refine wpAny_noted ?_;rw[compTurn_list];refine wpAny_bind (wpAny_standAt (wpAny_bind (wpAny_mono (turn n s hI) (λr aj h₁=>?_) λ_ _ h'=>h'.elim)));cases r with
 |none=>exact wpAny_pure h₁
 |some v=>
  refine wpAny_bind (wpAny_mono h₁ (λ_ aj h₁=>?_) λ_ _ h'=>h'.elim);refine wpAny_bind (wpAny_mono h₁ (λ_ ae bV=>wpAny_bind (wpAny_mono bV (λok aU fg=>?_) λ_ _ h'=>h'.elim)) λ_ _ h'=>h'.elim);cases ok with
  |false=>exact wpAny_pure ⟨rfl,fg⟩
  |true=>exact wpAny_bind (wpAny_bind (wpAny_mono fg (λx dF cF=>wpAny_bind (wpAny_mono cF (λ_ iy bh=>wpAny_pure (wpAny_pure ⟨rfl,bh⟩)) λ_ _ h'=>h'.elim)) λ_ _ h'=>h'.elim))
end
noncomputable def nE (X:Cx)(ifs:List Expr)(t:TT):Prop:=∀(pins:List (Addr×Obj))(s:Shared)(U:St)(H:Hp)(Q:Bool->Hp->Prop),Inv X pins U H s->t U H Q->wpAny (model X.prog X.w) X.A (forIn ifs true λc r=>if r=true then do let ok<-isTrue c X.env (eval c X.env);pure (ForInStep.yield ok)else pure (ForInStep.yield r)) (TP X pins U Q) X.xe s
noncomputable def rH:TT:=λ_ H Q=>Q true H
theorem oY {X:Cx}:nE X [] rH:=λ_ _ _ H _ I h=>wpAny_tests_nil ⟨H,I,h⟩
theorem rJ {X:Cx}{c:Expr}{t:TT}(h:PT X c t):nE X [c] t:=λpins s U H Q I q=>wpAny_tests_one (h pins s U H Q I q)
noncomputable def wX (Q:VK)(ys:List V)(H:Hp):Prop:=∀p,H p=none->Q (.ref p) (upd H p (.lst ys))
noncomputable def JI (ix:List (Option Nat))(wi:TI)(g:TG)(ti:TT)(te:TE):TE:=λU H Q=>wi U H λJ H1=>∃W:Nat->Nat->List V->St->Hp->Prop,(∃m,W 0 m [] (gQ ix U) H1)/\∀i m ys U H,W i m ys U H->ys.length<=sizeLine/\((J.stop i H/\wX Q ys H)\/(J.go i H/\∃N:List V->St->Hp->Prop,(∀cX U' H',N cX U' H'->∃m',m'<m/\W (i+1) m' cX U' H')/\∀x H',J.fD i H x H'->g x U H' λU2 H2=>ti U2 H2 λb H3=>if b=true then te U2 H3 λy H4=>N (ys++[y]) U2 H4 else N ys U2 H3))
structure rK (X:Cx)(pins:List (Addr×Obj))(H:Hp)(s:Shared)(C:Addr):Prop where
 ns:∃m,s.heap.Ns C m
 fr:H C=none
 nl:C≠X.env.locals
 ab:X.au.heap.objs.size<=C
 nc:∀x c,X.env.cells.lookup x=some c->c≠C
 np:∀p∈X.pn++pins,p.1≠C
section
variable {X:Cx}
theorem JJ {scope:Scope}{N':List Str}{ix:List (Option Nat)}{pins:List (Addr×Obj)}{U:St}{tg iter elt:Expr}{ifs:List Expr}{pos:Pos}{g:TG}{ti:TT}{te:TE}{E:Value->Shared->Prop}(co:jD X.N X.env.scope scope N' ix)(hc:X.calm=true)(hg:∀C fp ae ag,PG (aX X scope N' C fp ae ag) tg g)(hi:∀C fp ae ag,nE (aX X scope N' C fp ae ag) ifs ti)(he:∀C fp ae ag,PE (aX X scope N' C fp ae ag) elt te){ag:Hp}{ae:Shared}{J:It}{fp:List Addr}{it:Addr}{tn:Nat->Heap->Prop}{QF:List V->Hp->Prop}(I:Inv X pins U ag ae)(T:Turn X.prog X.w X.K tg J fp it tn)(st:tn 0 ae.heap)(hf:∀b∈fp,eO X pins ag b){W:Nat->Nat->List V->St->Hp->Prop}(w0:∃m,W 0 m [] (gQ ix U) ag)(hW:∀i m ys U H,W i m ys U H->ys.length<=sizeLine/\((J.stop i H/\QF ys H)\/(J.go i H/\∃N:List V->St->Hp->Prop,(∀cX U' H',N cX U' H'->∃m',m'<m/\W (i+1) m' cX U' H')/\∀x H',J.fD i H x H'->g x U H' λU2 H2=>ti U2 H2 λb H3=>if b=true then te U2 H3 λy H4=>N (ys++[y]) U2 H4 else N ys U2 H3))){RR:Value->Addr->Result->Shared->Prop}(Cj:∀D C ys H' s',Inv X pins U (upd H' D (.lst ys)) s'->H' D=none->QF ys H'->rK X pins (upd H' D (.lst ys)) s' C->RR (.ref D) C (.ok .next) s'):
  wpAny (model X.prog X.w) X.A (newList []) (λacc aU=>wpAny (model X.prog X.w) X.A (newFunctionEnv scope X.env.globals (fX scope X.env) [] X.env.qual none .none (some X.env)) (λiz dF=>codeAny (model X.prog X.w) X.A (.compStart (.ListComp elt [⟨tg,iter,ifs,0⟩] scope pos) 0 (.ref it) acc {iz with scope:=relabel scope X.env}) (RR acc iz.locals) dF) E aU) E ae:=by
 have aQ:∀b∈fp,@LT.lt Nat _ b ae.heap.objs.size:=λb hb=>by obtain⟨o,e,_⟩:=T.obj _ _ st b hb;exact Heap.lt_size e
 refine wpAny_newObj_type (wpAny_newFunctionEnv co.Ci (by intro y hy;simp at hy) (λh₁ bK bu=>?_) co.kind);dsimp only at bK bu⊢;generalize oZ:ae.heap.push {cls:=.type "list",dict:=none,data:=.seq ([]:List Value).toArray}=H2 at bK bu⊢;have hC:@Eq Nat H2.objs.size (ae.heap.objs.size+1):=by rw[<-oZ,Heap.size_push]
 have below:∀b:Nat,b<ae.heap.objs.size->¬@Eq Nat b H2.objs.size:=λb hb=>by lia
 have wY:¬@Eq Nat ae.heap.objs.size H2.objs.size:=by lia
 have old:∀b o,ae.heap.get? b=some o->h₁.get? b=some o:=λb o e=>bu.extBut b o (below b (Heap.lt_size e)) (Heap.get?_push_of_some _ (oZ ▸ Heap.get?_push_of_some _ e));have kP:h₁.get? ae.heap.objs.size=some (ef [] 0):=bu.extBut _ _ wY (Heap.get?_push_of_some _ (oZ ▸ Heap.get?_push_size _ rfl));have eA:tn 0 h₁:=T.keep _ _ _ st λb _ o e=>old b o e;generalize Ck:H2.objs.size=C at bK bu hC below wY⊢;generalize JK:ae.heap.objs.size=D at kP wY⊢;have loop:∀aU:Shared,aU={ae with heap:=h₁,toks:=ae.toks+([]:List (Str×Value)).length}->codeAny (model X.prog X.w) X.A (.compLoop (.ListComp elt [⟨tg,iter,ifs,0⟩] scope pos) 0 (.ref it) (.ref D) (compEnvC scope (fX scope X.env) C X.env)) (RR (.ref D) C) aU:=by
  rintro aU rfl
  obtain⟨m0,w0⟩:=w0;have I3:Inv (aX X scope N' C fp ae ag) [(D,ef [] 0)] (gQ ix U) ag {ae with heap:=h₁,toks:=ae.toks+([]:List (Str×Value)).length}:=Ri I co JK.symm hC hf aQ old kP bK;refine Rm (λk s'=>∃i ys its n U' H',Inv (aX X scope N' C fp ae ag) [(D,ef its n)] U' H' s'/\Vals ys its/\tn i s'.heap/\(∀b∈fp,H' b=none)/\W i k ys U' H') ?_ m0 ⟨0,[],[],0,_,_,I3,.nil,eA,λb hb=>(hf b hb).1,w0⟩
  rintro k s' ⟨i,ys,its,n,U',H',I',hv,cj,nF,w'⟩
  have fh:∀{H':Hp}{o:Obj},(∀b∈fp,H' b=none)->∀b∈fp,eO (aX X scope N' C fp ae ag) [(D,o)] H' b:=λ{H' o} hn b hb=>by
   refine⟨hn b hb,below b (aQ b hb),λz=>?_,.inl hb,λx c e=>(hf b hb).2.2.2.2.1 x c (iw e),λp hp z=>?_⟩
   .rcases mem_cons.mp (I.mS b z)with e|e
    .exact(hf b hb).2.1 e
    .exact(hf b hb).2.2.1 e
   .have e:p=(D,o):=by simpa[aX]using hp
    subst e;have z':@Eq Nat D b:=z;have z2:=aQ b hb;lia
  obtain⟨hz,Rn⟩:=hW i k ys U' H' w';rcases Rn with⟨stop,q⟩|⟨go,N,hN,step⟩
  .refine ai (T.done (aX X scope N' C fp ae ag) rfl rfl rfl hc i _ s' U' H' dN I' (fh nF) cj stop) λr s4 ⟨hr,I4⟩=>?_;subst hr;obtain⟨_,dn,_⟩:=I4.pin (D,ef its n) (by simp);have cf:H' C=none:=I4.free;refine Cj D C ys H' s4 (Rk I JK.symm hf I4 hv hz) dn q ⟨?_,by rw[jg (Ne.symm wY)];exact cf,?_,?_,λx c e=>?_,λp hp=>?_⟩
   .obtain⟨m,hn,_⟩:=I4.loc;exact⟨m,hn⟩
   .have z:@LT.lt Nat _ X.env.locals ae.heap.objs.size:=I.lt;show¬@Eq Nat C X.env.locals;lia
   .have z:@LE.le Nat _ X.au.heap.objs.size ae.heap.objs.size:=I.sz;show@LE.le Nat _ X.au.heap.objs.size C;lia
   .obtain⟨v,z⟩:=I.cell x c e;have z2:@LT.lt Nat _ c ae.heap.objs.size:=z.lt;show¬@Eq Nat c C;lia
   .have z2:@LT.lt Nat _ p.1 ae.heap.objs.size:=Heap.lt_size (I.pin p hp).1;show¬@Eq Nat p.1 C;lia
  .refine ai (T.item (aX X scope N' C fp ae ag) rfl rfl rfl hc i _ s' U' H' dN I' (fh nF) cj go) λr s4 zQ=>?_;obtain⟨u,hr,h4⟩:=zQ;subst hr;refine ai h4 λ_ s5 zQ=>?_;obtain⟨x,H5,I5,r5,y5,fS,qO⟩:=zQ;have qP:=I5.pinned (fh qO) (T.obj _ _ fS);refine ai (hg C fp ae ag _ s5 U' H5 x u _ qP r5 (step x H5 y5)) λ_ s6 zQ=>?_;obtain⟨U6,H6,I6,q6⟩:=zQ;refine ai (hi C fp ae ag _ s6 U6 H6 _ I6 q6) λok s7 zQ=>?_;obtain⟨H7,I7,q7⟩:=zQ;have fj:∀{U8:St}{H8:Hp}{s8:Shared},Inv (aX X scope N' C fp ae ag) ([(D,ef its n)]++kH fp s5.heap) U8 H8 s8->∀b∈fp,∀o,s5.heap.get? b=some o->s8.heap.get? b=some o/\H8 b=none:=λ{U8 H8 s8} I8 b hb o e=>by
    have z:=I8.pin (b,o) (mem_append_right _ (mem_append_right _ (vY hb e)));exact⟨z.1,z.2.1⟩
   cases ok with
   |false=>
    have fk:N ys U6 H7:=by have fk:=q7;rw[if_neg Bool.false_ne_true]at fk;exact fk
    obtain⟨m',hm,w7⟩:=hN _ _ _ fk;refine⟨m',hm,i+1,ys,its,n,U6,H7,I7.qN,hv,T.keep _ _ _ fS λb hb o e=>(fj I7 b hb o e).1,λb hb=>?_,w7⟩;obtain⟨o,e,_⟩:=T.obj _ _ fS b hb;exact(fj I7 b hb o e).2
   | true=>
    have fk:te U6 H7 λy H4=>N (ys++[y]) U6 H4:=by have fk:=q7;rw[if_pos rfl]at fk;exact fk
    show wpAny _ _ _ _ _ _;refine ai (he C fp ae ag _ s7 U6 H7 _ I7 fk) λyv s8 zQ=>?_;obtain⟨y,H8,I8,r8,q8⟩:=zQ;obtain⟨m',hm,w8⟩:=hN _ _ _ q8;obtain⟨z1,z2,z3,z4,z5⟩:=I8.pin (D,ef its n) (by simp);have zD:s8.heap.get? D=some (ef its n):=z1;have Ro:=hv.length;refine append_at (hsz:=by rw[size_toArray];lia) zD λh9 JL Rp=>?_;have Rq:Inv (aX X scope N' C fp ae ag) (kH fp s5.heap) U6 H8 s8:=I8.vP λp hp=>I8.pin p (mem_append_right _ (mem_append_right _ hp));have I9:Inv (aX X scope N' C fp ae ag) (kH fp s5.heap) U6 H8 {s8 with heap:=h9}:=Rq.turned (it:=D) (t':=s8.toks) (λb o hb e=>(JL.2 b hb).trans e) z2 z3 (.inr (by show ae.heap.objs.size<=D;lia)) (λx c e=>by have z:@LT.lt Nat _ c ae.heap.objs.size:=Rg (scope:=scope) I e;show¬@Eq Nat c D;lia) (λp hp=>by
      have kQ:p∈kH fp s5.heap:=by simpa[aX]using hp
      have z:=aQ _ (Iv kQ).1;show¬@Eq Nat p.1 D;lia);have Cm:h9.get? D=some (ef (its++[yv]) (n+1)):=by
     rw[Rp];simp[ef]
    have fM:Inv (aX X scope N' C fp ae ag) [(D,ef (its++[yv]) (n+1))] U6 H8 {s8 with heap:=h9}:=I9.vP λp hp=>by
     have e:p=(D,ef (its++[yv]) (n+1)):=by simpa using hp
     subst e;refine⟨Cm,z2,z3,z4,λv z=>?_⟩;have z':Data.seq _ _=Data.cell v:=z;cases z'
    refine⟨m',hm,i+1,ys++[y],its++[yv],n+1,U6,H8,fM,hv.append (.cons r8 .nil),T.keep _ _ _ fS λb hb o e=>?_,λb hb=>?_,w8⟩
    .have Rr:b≠D:=by
      have z:=aQ b hb;show¬@Eq Nat b D;lia
     exact(JL.2 b Rr).trans (fj I8 b hb o e).1
    .obtain⟨o,e,_⟩:=T.obj _ _ fS b hb;exact(fj I8 b hb o e).2
 exact codeAny_compStart_list (loop _ rfl) (T.self _ 0 _ _ _ eA (loop _ rfl))
theorem rK.go {pins:List (Addr×Obj)}{U:St}{H:Hp}{s:Shared}{C:Addr}{h':Heap}(G:rK X pins H s C)(I:Inv X pins U H s)(hs:Heap.SameBut C s.heap h'):Inv X pins U H {s with heap:=h'}:=I.turned (it:=C) (t':=s.toks) (λb o hb e=>(hs.2 b hb).trans e) G.fr G.nl (.inr G.ab) G.nc G.np
variable {scope:Scope}{N':List Str}{ix:List (Option Nat)}{tg iter elt:Expr}{ifs:List Expr}{pos:Pos}{wi:TI}{g:TG}{ti:TT}{te:TE}
theorem Cn (co:jD X.N X.env.scope scope N' ix){pins:List (Addr×Obj)}{U:St}{H:Hp}{s:Shared}(I:Inv X pins U H s):closureFor scope X.env=pure (fX scope X.env):=Rf λp hp e=>I.ok.has p.1 (co.frees p hp e)
theorem nG (co:jD X.N X.env.scope scope N' ix)(hc:X.calm=true)(hit:PI X tg iter wi)(hg:∀C fp ae ag,PG (aX X scope N' C fp ae ag) tg g)(hi:∀C fp ae ag,nE (aX X scope N' C fp ae ag) ifs ti)(he:∀C fp ae ag,PE (aX X scope N' C fp ae ag) elt te)(hs:autoParam (∀x,foldedSetIterable iter X.env x=pure x) aP3):
  PE X (.ListComp elt [⟨tg,iter,ifs,0⟩] scope pos) (JI ix wi g ti te):=by
 intro pins s U H Q I h;rw[eval_ListComp];refine wpAny_comprehension_free (use:=none) rfl hs (Cn co I) co.kind co.names (ai (hit pins s U H _ I h) λxv aj h₁=>ai h₁ λqJ ae bV=>?_);obtain⟨it,fp,tn,J,ag,e,eB,T,st,hf,W,w0,hW⟩:=bV;subst e;refine JJ co hc hg hi he eB T st hf w0 hW (RR:=λacc C=>compPost (model X.prog X.w) X.A X.xe none (EP X pins U Q) acc C) λD C ys H' s' I' dn q G=>?_;obtain⟨m,hn⟩:=G.ns;exact⟨m,hn,λh' nH=>⟨.ref D,_,G.go I' nH,rfl,q D dn⟩⟩
theorem Co {i:Nat}{y:Str}{py rM:Pos}(hN:X.N.Nodup)(Rt:X.N[i]?=some y)(hy:X.env.scope.names.lookup y=some .local)(co:jD X.N X.env.scope scope N' ix)(hc:X.calm=true)(hit:PI X tg iter wi)(hg:∀C fp ae ag,PG (aX X scope N' C fp ae ag) tg g)(hi:∀C fp ae ag,nE (aX X scope N' C fp ae ag) ifs ti)(he:∀C fp ae ag,PE (aX X scope N' C fp ae ag) elt te)(hs:autoParam (∀x,foldedSetIterable iter X.env x=pure x) aP3)(Ru:autoParam (swapsWith (.ListComp elt [⟨tg,iter,ifs,0⟩] scope pos) (some (.Name y py)) rM.line X.env=pure true) aP1):
  PS X (.Assign [.Name y py] (.ListComp elt [⟨tg,iter,ifs,0⟩] scope pos) rM) (vW (JI ix wi g ti te) (fC i)):=by
 intro pins s U H D I h;rw[exec_Assign_Name_used _ _ _ _ Ru];refine wpAny_bind (wpAny_standAt (wpAny_bind ?_));show wpAny _ X.A (do let _<-comprehension (.ListComp elt [⟨tg,iter,ifs,0⟩] scope pos) scope X.env _ (newList []) false (eval iter X.env) (some (assign (.Name y py) X.env))) _ _ s;refine wpAny_bind (wpAny_mono (wpAny_comprehension_free (use:=some (assign (.Name y py) X.env)) (Q:=λ_ s'=>SP X pins D .next s') rfl hs (Cn co I) co.kind co.names (ai (hit pins s U H _ I h) λxv aj h₁=>ai h₁ λqJ ae bV=>?_)) (λ_ s' hq=>wpAny_pure (wpAny_pure hq)) λ_ _ e=>e);obtain⟨it,fp,tn,J,ag,e,eB,T,st,hf,W,w0,hW⟩:=bV;subst e;refine JJ co hc hg hi he eB T st hf w0 hW (RR:=λacc C=>compPost (model X.prog X.w) X.A X.xe (some (assign (.Name y py) X.env)) (λ_ s'=>SP X pins D .next s') acc C) λDa C ys H' s' I' dn q G=>?_;show wpAny _ _ (assign (.Name y py) X.env (.ref Da)) _ _ s';refine wpAny_assign_Name (HZ (v:=.ref Da) I' hN Rt (.inl hy) rfl (λbQ Rv zQ=>?_) (.inr hy));obtain⟨a,sb,ha⟩:=zQ;have Rw:C≠a:=by
  rcases ha with z|z
  .rw[z];exact G.nl
  .exact Ne.symm (G.nc _ _ z)
 obtain⟨m,hn⟩:=G.ns;have kJ:=hn.sameBut sb Rw;have G2:rK X pins (upd H' Da (.lst ys)) bQ C:=⟨⟨m,kJ⟩,G.fr,G.nl,G.ab,G.nc,G.np⟩;exact⟨m,kJ,λh' nH=>⟨_,_,G2.go Rv nH,q Da dn⟩⟩
end
theorem nI {K:PySem.W.Frag}{a:Addr}{xs:List V}{g:TG}{ti:TT}{te:TE}{U0:St}{H0:Hp}{Q:VK}(Pv:Nat->List V->St->Hp->Prop)(h0:Pv 0 [] U0 H0)(hl:∀i ys U H,i<=xs.length->Pv i ys U H->af K H a xs/\ys.length<=sizeLine)(hs:∀i x ys U H,xs[i]?=some x->Pv i ys U H->g x U H λU2 H2=>ti U2 H2 λb H3=>if b=true then te U2 H3 λy H4=>Pv (i+1) (ys++[y]) U2 H4 else Pv (i+1) ys U2 H3)(hd:∀ys U H,Pv xs.length ys U H->∀p,H p=none->Q (.ref p) (upd H p (.lst ys))):∃W:Nat->Nat->List V->St->Hp->Prop,(∃m,W 0 m [] U0 H0)/\∀i m ys U H,W i m ys U H->ys.length<=sizeLine/\(((lT K a).stop i H/\wX Q ys H)\/((lT K a).go i H/\∃N:List V->St->Hp->Prop,(∀cX U' H',N cX U' H'->∃m',m'<m/\W (i+1) m' cX U' H')/\∀x H',(lT K a).fD i H x H'->g x U H' λU2 H2=>ti U2 H2 λb H3=>if b=true then te U2 H3 λy H4=>N (ys++[y]) U2 H4 else N ys U2 H3)):=by
 refine⟨λi m ys U H=>m=xs.length-i/\i<=xs.length/\Pv i ys U H,⟨xs.length,by simp,zero_le _,h0⟩,?_⟩
 rintro i m ys U H ⟨rfl,hi,p⟩
 obtain⟨q,hz⟩:=hl i ys U H hi p;refine⟨hz,?_⟩;by_cases aQ:i<xs.length
 .refine .inr ⟨⟨xs,xs[i],q,by simp[aQ]⟩,Pv (i+1),λcX U' H' p'=>⟨xs.length-(i+1),by lia,rfl,aQ,p'⟩,λx H' y=>?_⟩;obtain⟨e,y⟩:=y;subst e;exact hs i x ys U _ (y xs q) p
 .have e:i=xs.length:=by lia
  subst e;exact .inl ⟨⟨xs,q,le_refl _⟩,hd ys U H p⟩
theorem JM {lo:Int}{n:Nat}{g:TG}{ti:TT}{te:TE}{U0:St}{H0:Hp}{Q:VK}(Pv:Nat->List V->St->Hp->Prop)(h0:Pv 0 [] U0 H0)(hl:∀i ys U H,i<=n->Pv i ys U H->ys.length<=sizeLine)(hs:∀i ys U H,i<n->Pv i ys U H->g (.int (lo+i)) U H λU2 H2=>ti U2 H2 λb H3=>if b=true then te U2 H3 λy H4=>Pv (i+1) (ys++[y]) U2 H4 else Pv (i+1) ys U2 H3)(hd:∀ys U H,Pv n ys U H->∀p,H p=none->Q (.ref p) (upd H p (.lst ys))):∃W:Nat->Nat->List V->St->Hp->Prop,(∃m,W 0 m [] U0 H0)/\∀i m ys U H,W i m ys U H->ys.length<=sizeLine/\(((i7 lo n).stop i H/\wX Q ys H)\/((i7 lo n).go i H/\∃N:List V->St->Hp->Prop,(∀cX U' H',N cX U' H'->∃m',m'<m/\W (i+1) m' cX U' H')/\∀x H',(i7 lo n).fD i H x H'->g x U H' λU2 H2=>ti U2 H2 λb H3=>if b=true then te U2 H3 λy H4=>N (ys++[y]) U2 H4 else N ys U2 H3)):=by
 refine⟨λi m ys U H=>m=n-i/\i<=n/\Pv i ys U H,⟨n,by simp,zero_le _,h0⟩,?_⟩
 rintro i m ys U H ⟨rfl,hi,p⟩
 refine⟨hl i ys U H hi p,?_⟩;by_cases aQ:i<n
 .refine .inr ⟨aQ,Pv (i+1),λcX U' H' p'=>⟨n-(i+1),by lia,rfl,aQ,p'⟩,λx H' y=>?_⟩;obtain⟨e,y⟩:=y;subst e y;exact hs i ys U _ aQ p
 .have e:i=n:=by lia
  subst e;exact .inl ⟨le_refl _,hd ys U H p⟩
section
variable {X:Cx}
theorem rN:fT X (.builtin "isinstance") (λxs H Q=>∃x t T b,xs=[x,.ty T]/\fU X.K H x t/\PySem.W.kitOne X.K t (.type T)=some b/\Q (.bl b) H):=by intro pins s U H xs us Q I r h;obtain⟨x,t,T,b,rfl,ty,e,q⟩:=h;obtain⟨u,w,rfl,r1,r2⟩:=vals2 r;obtain rfl:w=Value.type T:=r2;exact P5 I r1 ty e λtk=>⟨.bl b,H,I.tok tk,rfl,q⟩
theorem Rx {A:Around}{s:Shared}{p:Addr}{its:List Value}(hh:A.handled=none)(hl:s.heap.IsList p its.toArray):∃(fp:List Addr),(∀b∈fp,b<s.heap.objs.size+1)/\Walks X.prog X.w A s.heap.objs.size fp [s.heap.objs.size] its.toArray.size (λi v=>its.toArray[i]?=some v) (λi h=>h.IsListIter s.heap.objs.size p i/\h.IsList p its.toArray)/\((s.heap.push {cls:=.type "list_iterator",data:=.fields #[.ref p,.int 0 0]}).IsListIter s.heap.objs.size p 0/\(s.heap.push {cls:=.type "list_iterator",data:=.fields #[.ref p,.int 0 0]}).IsList p its.toArray):=by
 have aQ:p<s.heap.objs.size:=by obtain⟨_,e,_⟩:=hl;exact Heap.lt_size e
 refine⟨[s.heap.objs.size,p],λb hb=>?_,Walks.list (A:=A) hh _ p (ne_of_lt aQ) its.toArray,⟨_,Heap.get?_push_size _ rfl,rfl,rfl⟩,hl.push _⟩;rcases mem_cons.mp hb with e|e
 .rw[e];exact lt_succ_self _
 .rw[mem_singleton.mp e];exact Nat.lt_succ_of_lt aQ
theorem Ry {s:Shared}{h':Heap}{o:Obj}(hk:∀b x,b∉[s.heap.objs.size]->(s.heap.push o).get? b=some x->h'.get? b=some x):∀b x,s.heap.get? b=some x->h'.get? b=some x:=λb x e=>hk b x (λhm=>by rw[mem_singleton.mp hm]at e;exact lt_irrefl _ (Heap.lt_size e)) (Heap.get?_push_of_some _ e)
theorem wZ:∀{bs:List Bool}{us:List Value},Vals (bs.map V.bl) us->us=bs.map Value.bool
 |[],us,h=>by rw[map_nil]at h;cases h;rfl
 |b::bs,us,h=>by
  rw[map_cons]at h;cases h with
  |cons r1 r2=>cases r1;rw[wZ r2,map_cons]
theorem Rz {A:Around}(bs:List Bool)(d:Bool):∀(i:Nat)(v:Value)(s':Shared)(Q':Bool->Shared->Prop)(E':Value->Shared->Prop),(bs.map Value.bool).toArray[i]?=some v->Q' ((bs[i]?).getD d) s'->wpAny (model X.prog X.w) A (truthy v) Q' E' s':=λi v s' Q' E' hP hQ=>by
  have e:(bs.map Value.bool)[i]?=some v:=by simpa using hP
  rw[getElem?_map]at e;cases q:bs[i]? with
  |none=>rw[q]at e;cases e
  |some b=>rw[q]at e hQ;have e':Value.bool b=v:=Option.some.inj e;subst e';exact wpAny_truthy_bool hQ
theorem RA (hc:X.calm=true):fT X (.builtin "all") (λxs H Q=>∃(p:Addr)(bs:List Bool),xs=[.ref p]/\af X.K H p (bs.map V.bl)/\Q (.bl (bs.all id)) H):=by
 intro pins s U H xs us Q I r h;obtain⟨p,bs,rfl,hq,q⟩:=h;obtain⟨u,rfl,rx⟩:=vals1 r;cases rx;obtain⟨its,r',pl,hz⟩:=I.list hq;have ei:=wZ r';subst ei;obtain⟨fp,hfp,W,st⟩:=Rx (X:=X) (A:=X.A.in1) (s:=s) (I.ok.hd hc) pl.isList;refine call_all_walk (wpAny_pyIter_list pl.isList ⟨_,fp,_,_,_,_,λi=>(bs[i]?).getD true,rfl,W,st,Rz bs true,λh' tk hk=>?_⟩);have e:((List.range (bs.map Value.bool).toArray.size).all λi=>(bs[i]?).getD true)=bs.all id:=by rw[size_toArray,length_map];exact LSm.range_all bs
 rw[e];exact⟨.bl (bs.all id),H,I.kept (t':=tk) (Ry hk),rfl,q⟩
theorem JN (hc:X.calm=true):fT X (.builtin "sum") (λxs H Q=>∃(p:Addr)(ns:List Int),xs=[.ref p]/\af X.K H p (ns.map V.int)/\Q (.int ns.sum) H):=by
 intro pins s U H xs us Q I r h;obtain⟨p,ns,rfl,hq,q⟩:=h;obtain⟨u,rfl,rx⟩:=vals1 r;cases rx;obtain⟨its,r',pl,hz⟩:=I.list hq;have hi:=intsAre_of r';obtain⟨ms,hx⟩:=hi.allInts.items;have RB:s.heap.IsList p (intItems ms):=hx ▸ pl.isList;refine sum_intListG (I.ok.hd hc) RB λh' tk t' hk=>?_;have e1:ns=ms.toList.map (·.1):=by rw[<-nums_intItems,<-hx];exact(show numsOf its.toArray.toList=ns from hi.numsOf).symm
 have e2:preSum (numAt ms) ms.size=ns.sum:=by rw[preSum_eq,List.take_of_length_le (by simp),e1]
 rw[e2];exact⟨.int ns.sum,H,I.kept (t':=tk) hk,⟨t',rfl⟩,q⟩
end
inductive Dt where
 |aq|bl (b:Bool)|int (i:Int)|str (x:Str)|tup (ds:List Dt)|lst (ds:List Dt)
mutual
def qp (K:PySem.W.Frag) (H:Hp):Dt->V->Prop
 | .aq,v=>v= .aq
 | .bl b,v=>v= .bl b
 | .int i,v=>v= .int i
 | .str x,v=>v= .str x
 | .tup ds,v=>∃a xs,v= .ref a/\ay K H a xs/\yj K H ds xs
 | .lst ds,v=>∃a xs,v= .ref a/\af K H a xs/\yj K H ds xs
def yj (K:PySem.W.Frag) (H:Hp):List Dt->List V->Prop
 |[],xs=>xs=[]
 |d::ds,xs=>∃x r,xs=x::r/\qp K H d x/\yj K H ds r
end
mutual
def bo:Dt->Dt->Bool
 | .aq,.aq=>true
 | .bl a,.bl b=>a==b
 | .bl a,.int b=>(if a then 1 else 0)==b
 | .int a,.bl b=>a==(if b then 1 else 0)
 | .int a,.int b=>a==b
 | .str a,.str b=>a==b
 | .tup as,.tup bs=>cG as bs
 | .lst as,.lst bs=>cG as bs
 |_,_=>false
def cG:List Dt->List Dt->Bool
 |[],[]=>true
 |a::as,b::bs=>bo a b&&cG as bs
 |_,_=>false
end
mutual
def bE:Dt->Nat
 | .tup ds=>dv ds+1
 | .lst ds=>dv ds+1
 |_=>0
def dv:List Dt->Nat
 |[]=>0
 |d::ds=>max (bE d) (dv ds)
end
noncomputable def jE (ds es:List Dt)(j:Nat):Bool:=match ds[j]?,es[j]? with
 |some a,some b=>bo a b
 |_,_=>true
theorem pA:∀(ds es:List Dt),((List.range (min ds.length es.length)).all (jE ds es)&&(ds.length==es.length))=cG ds es
 |[],[]=>by simp[cG]
 |[],e::es=>by simp[cG]
 |d::ds,[]=>by simp[cG]
 |d::ds,e::es=>by
  have ih:=pA ds es;have e1:min (d::ds).length (e::es).length=min ds.length es.length+1:=by simp only[length_cons];lia
  have e2:((d::ds).length==(e::es).length)=(ds.length==es.length):=by simp
  have e3:(jE (d::ds) (e::es)∘Nat.succ)=jE ds es:=by funext j;simp[jE,Function.comp]
  have e4:jE (d::ds) (e::es) 0=bo d e:=by simp[jE]
  rw[e1,e2,List.range_succ_eq_map,List.all_cons,List.all_map,e3,e4,Bool.and_assoc,ih,cG]
theorem yj.length {K:PySem.W.Frag}{H:Hp}:∀{ds:List Dt}{xs:List V},yj K H ds xs->ds.length=xs.length
 |[],xs,h=>by rw[yj]at h;rw[h];rfl
 |d::ds,xs,h=>by rw[yj]at h;obtain⟨x,r,rfl,_,h2⟩:=h;rw[length_cons,length_cons,yj.length h2]
theorem yj.get {K:PySem.W.Frag}{H:Hp}:∀{ds:List Dt}{xs:List V}{j:Nat}{x:V},yj K H ds xs->xs[j]?=some x->∃d,ds[j]?=some d/\qp K H d x
 |[],xs,j,x,h,e=>by rw[yj]at h;subst h;simp at e
 | d::ds,xs,j,x,h,e=>by
  rw[yj]at h;obtain⟨y,r,rfl,h1,h2⟩:=h;cases j with
  |zero=>
   have e':y=x:=by simpa using e
   subst e';exact⟨d,by simp,h1⟩
  |succ j=>obtain⟨d',q1,q2⟩:=yj.get (j:=j) h2 (by simpa using e);exact⟨d',by simpa using q1,q2⟩
theorem JO:∀{ds:List Dt}{j:Nat}{d:Dt},ds[j]?=some d->bE d<=dv ds
 |[],j,d,e=>by simp at e
 | c::ds,j,d,e=>by
  rw[dv];cases j with
  |zero=>
   have e':c=d:=by simpa using e
   subst e';exact Nat.le_max_left _ _
  |succ j=>exact le_trans (JO (j:=j) (by simpa using e)) (Nat.le_max_right _ _)
section
variable {X:Cx}{pins:List (Addr×Obj)}{U:St}{H:Hp}{s:Shared}
theorem JP (I:Inv X pins U H s){a:Addr}{xs ys:List V}(h:af X.K H a xs)(h':ay X.K H a ys):False:=by obtain⟨_,_,p,_⟩:=I.list h;obtain⟨_,_,q,_⟩:=I.tuple h';obtain⟨o,e,c,_⟩:=p.isList;obtain⟨o',e',c',_⟩:=q;rw[e]at e';cases e';rw[c]at c';exact absurd c' (by decide)
mutual
theorem Cp (I:Inv X pins U H s):∀(d e:Dt)(x:V),qp X.K H d x->qp X.K H e x->bo d e=true
 | .aq,e,x,h,k=>by rw[qp]at h;subst h;cases e<;>rw[qp]at k<;>first|(obtain⟨_,_,z,_⟩:=k;cases z)|rfl|cases k
 | .bl b,e,x,h,k=>by rw[qp]at h;subst h;cases e<;>rw[qp]at k<;>first|(obtain⟨_,_,z,_⟩:=k;cases z)|(cases k;simp[bo];done)|cases k
 | .int b,e,x,h,k=>by rw[qp]at h;subst h;cases e<;>rw[qp]at k<;>first|(obtain⟨_,_,z,_⟩:=k;cases z)|(cases k;simp[bo];done)|cases k
 | .str b,e,x,h,k=>by rw[qp]at h;subst h;cases e<;>rw[qp]at k<;>first|(obtain⟨_,_,z,_⟩:=k;cases z)|(cases k;simp[bo];done)|cases k
 | .tup ds,e,x,h,k=>by
  rw[qp]at h;obtain⟨a,xs,rfl,h1,h2⟩:=h;cases e with
  |tup es=>rw[qp]at k;obtain⟨b,ys,z,k1,k2⟩:=k;cases z;have e:=I.Bo k1 h1;subst e;rw[bo];exact Cq I ds es _ h2 k2
  |lst es=>rw[qp]at k;obtain⟨b,ys,z,k1,k2⟩:=k;cases z;exact(JP I k1 h1).elim
  |aq=>rw[qp]at k;cases k
  |bl b=>rw[qp]at k;cases k
  |int b=>rw[qp]at k;cases k
  |str b=>rw[qp]at k;cases k
 | .lst ds,e,x,h,k=>by
  rw[qp]at h;obtain⟨a,xs,rfl,h1,h2⟩:=h;cases e with
  |lst es=>rw[qp]at k;obtain⟨b,ys,z,k1,k2⟩:=k;cases z;have e:=I.Ig k1 h1;subst e;rw[bo];exact Cq I ds es _ h2 k2
  |tup es=>rw[qp]at k;obtain⟨b,ys,z,k1,k2⟩:=k;cases z;exact(JP I h1 k1).elim
  |aq=>rw[qp]at k;cases k
  |bl b=>rw[qp]at k;cases k
  |int b=>rw[qp]at k;cases k
  |str b=>rw[qp]at k;cases k
theorem Cq (I:Inv X pins U H s):∀(ds es:List Dt)(xs:List V),yj X.K H ds xs->yj X.K H es xs->cG ds es=true
 |[],es,xs,h,k=>by
  rw[yj]at h;subst h;cases es with
  |nil=>rw[cG]
  |cons e es=>rw[yj]at k;obtain⟨_,_,z,_⟩:=k;cases z
 |d::ds,es,xs,h,k=>by
  rw[yj]at h;obtain⟨x,r,rfl,h1,h2⟩:=h;cases es with
  |nil=>rw[yj]at k;cases k
  |cons e es=>rw[yj]at k;obtain⟨y,r',z,k1,k2⟩:=k;cases z;rw[cG,Cp I d e _ h1 k1,Cq I ds es _ h2 k2];rfl
end
theorem items_eqAt {A:Around}{ds es:List Dt}{xs ys:List V}{is js:List Value}(hd:yj X.K H ds xs)(he:yj X.K H es ys)(vi:Vals xs is)(vj:Vals ys js)(rec:∀d e x y u v,d∈ds->bE d<=dv ds->qp X.K H d x->qp X.K H e y->RelV x u->RelV y v->SeqAt.EqAt A s u v (bo d e)):∀j (h1:j<is.toArray.size)(h2:j<js.toArray.size),SeqAt.EqAt A s is.toArray[j] js.toArray[j] (jE ds es j):=λj h1 h2=>by
 have mh:j<is.length:=by simpa using h1
 have mi:j<js.length:=by simpa using h2
 have lx:j<xs.length:=by rw[vi.length];exact mh
 have ly:j<ys.length:=by rw[vj.length];exact mi
 obtain⟨u,eu,ru⟩:=vi.get (i:=j) (x:=xs[j]) (by simp[lx]);obtain⟨v,ev,rv⟩:=vj.get (i:=j) (x:=ys[j]) (by simp[ly]);obtain⟨d,ed,kd⟩:=hd.get (j:=j) (x:=xs[j]) (by simp[lx]);obtain⟨e,ee,ke⟩:=he.get (j:=j) (x:=ys[j]) (by simp[ly]);have e1:is.toArray[j]=u:=by rw[getElem?_eq_getElem mh]at eu;simpa using eu
 have e2:js.toArray[j]=v:=by rw[getElem?_eq_getElem mi]at ev;simpa using ev
 have e3:jE ds es j=bo d e:=by simp[jE,ed,ee]
 rw[e1,e2,e3];exact rec d e _ _ u v (mem_of_getElem? ed) (JO ed) kd ke ru rv
theorem pB {ds es:List Dt}{xs ys:List V}{is js:List Value}(hd:yj X.K H ds xs)(he:yj X.K H es ys)(vi:Vals xs is)(vj:Vals ys js):ds.length=is.toArray.size/\es.length=js.toArray.size:=by rw[hd.length,he.length,vi.length,vj.length];simp
theorem Cr {ds es:List Dt}(h:ds.length=es.length):(List.range ds.length).all (jE ds es)=cG ds es:=by have q:=pA ds es;rw[<-h,Nat.min_self,beq_self_eq_true,Bool.and_true]at q;exact q
theorem Cs {ds es:List Dt}(h:ds.length≠es.length):cG ds es=false:=by have q:=pA ds es;rw[show(ds.length==es.length)=false from by simpa using h,Bool.and_false]at q;exact q.symm
theorem rO (I:Inv X pins U H s):∀(n:Nat)(d e:Dt)(x y:V)(u v:Value)(A:Around),bE d<=n->A.units+n<cLine->qp X.K H d x->qp X.K H e y->RelV x u->RelV y v->SeqAt.EqAt A s u v (bo d e):=by
 intro n;induction n with
 | zero=>
  intro d e x y u v A hn hu hd he ru rv;have aA:A.units<cLine:=by lia
  cases d with
  |tup ds=>rw[bE]at hn;lia
  |lst ds=>rw[bE]at hn;lia
  |aq=>
   rw[qp]at hd;subst hd;cases ru;cases e<;>rw[qp]at he;case aq=>subst he;cases rv;exact SeqAt.EqAt.same _
   case bl b=>subst he;cases rv;exact SeqAt.EqAt.none_bool b
   case int b=>subst he;obtain⟨t,rfl⟩:=rv;exact SeqAt.EqAt.none_int b t
   case str b=>subst he;obtain⟨t,rfl⟩:=rv;exact SeqAt.EqAt.none_str b t
   case tup es=>obtain⟨b,ys,rfl,k1,k2⟩:=he;cases rv;obtain⟨js,vj,pj,_⟩:=I.tuple k1;exact SeqAt.EqAt.none_tuple pj aA
   case lst es=>obtain⟨b,ys,rfl,k1,k2⟩:=he;cases rv;obtain⟨js,vj,pj,_⟩:=I.list k1;exact SeqAt.EqAt.none_list pj.isList aA
  |bl a=>
   rw[qp]at hd;subst hd;cases ru;cases e<;>rw[qp]at he;case aq=>subst he;cases rv;exact SeqAt.EqAt.bool_none a
   case bl b=>subst he;cases rv;exact SeqAt.EqAt.bool_bool a b
   case int b=>subst he;obtain⟨t,rfl⟩:=rv;exact SeqAt.EqAt.bool_int a b t
   case str b=>subst he;obtain⟨t,rfl⟩:=rv;exact SeqAt.EqAt.bool_str a b t
   case tup es=>obtain⟨b,ys,rfl,k1,k2⟩:=he;cases rv;obtain⟨js,vj,pj,_⟩:=I.tuple k1;exact SeqAt.EqAt.bool_tuple a pj aA
   case lst es=>obtain⟨b,ys,rfl,k1,k2⟩:=he;cases rv;obtain⟨js,vj,pj,_⟩:=I.list k1;exact SeqAt.EqAt.bool_list a pj.isList aA
  |int a=>
   rw[qp]at hd;subst hd;obtain⟨t0,rfl⟩:=ru;cases e<;>rw[qp]at he;case aq=>subst he;cases rv;exact SeqAt.EqAt.int_none a t0
   case bl b=>subst he;cases rv;exact SeqAt.EqAt.int_bool a t0 b
   case int b=>subst he;obtain⟨t,rfl⟩:=rv;exact SeqAt.EqAt.int_int a t0 b t
   case str b=>subst he;obtain⟨t,rfl⟩:=rv;exact SeqAt.EqAt.int_str a t0 b t
   case tup es=>obtain⟨b,ys,rfl,k1,k2⟩:=he;cases rv;obtain⟨js,vj,pj,_⟩:=I.tuple k1;exact SeqAt.EqAt.int_tuple a t0 pj aA
   case lst es=>obtain⟨b,ys,rfl,k1,k2⟩:=he;cases rv;obtain⟨js,vj,pj,_⟩:=I.list k1;exact SeqAt.EqAt.int_list a t0 pj.isList aA
  |str a=>
   rw[qp]at hd;subst hd;obtain⟨t0,rfl⟩:=ru;cases e<;>rw[qp]at he;case aq=>subst he;cases rv;exact SeqAt.EqAt.str_none a t0
   case bl b=>subst he;cases rv;exact SeqAt.EqAt.str_bool a t0 b
   case int b=>subst he;obtain⟨t,rfl⟩:=rv;exact SeqAt.EqAt.str_int a t0 b t
   case str b=>subst he;obtain⟨t,rfl⟩:=rv;exact SeqAt.EqAt.str_str a t0 b t
   case tup es=>obtain⟨b,ys,rfl,k1,k2⟩:=he;cases rv;obtain⟨js,vj,pj,_⟩:=I.tuple k1;exact SeqAt.EqAt.str_tuple a t0 pj aA
   case lst es=>obtain⟨b,ys,rfl,k1,k2⟩:=he;cases rv;obtain⟨js,vj,pj,_⟩:=I.list k1;exact SeqAt.EqAt.str_list a t0 pj.isList aA
 | succ n ih=>
  intro d e x y u v A hn hu hd he ru rv;have aA:A.units<cLine:=by lia
  have jF:A.in1.units+n<cLine:=by rw[units_in1];lia
  cases d with
  | tup ds=>
   rw[bE]at hn;have pC:=hd;rw[qp]at hd;obtain⟨a,xs,rfl,k1,k2⟩:=hd;cases ru;obtain⟨is,vi,pi,_⟩:=I.tuple k1;cases e with
   |tup es=>
    have Ct:=he;rw[qp]at he;obtain⟨b,ys,rfl,l1,l2⟩:=he;cases rv;obtain⟨js,vj,pj,_⟩:=I.tuple l1;by_cases dy:a=b
    .subst dy;rw[Cp I _ _ _ pC Ct];exact SeqAt.EqAt.same _
    .have q:=SeqAt.RcAt.tuples (A:=A) pi pj aA (items_eqAt k2 l2 vi vj λd e x y u v _ iA=>ih d e x y u v A.in1 (by lia) jF);obtain⟨z1,z2⟩:=pB k2 l2 vi vj;rw[<-z1,<-z2,pA]at q;rw[bo];exact SeqAt.EqAt.of_refs dy q
   |lst es=>rw[qp]at he;obtain⟨b,ys,rfl,l1,l2⟩:=he;cases rv;obtain⟨js,vj,pj,_⟩:=I.list l1;exact SeqAt.EqAt.tuple_list pi pj.isList aA
   |aq=>rw[qp]at he;subst he;cases rv;exact SeqAt.EqAt.tuple_none pi aA
   |bl b=>rw[qp]at he;subst he;cases rv;exact SeqAt.EqAt.tuple_bool b pi aA
   |int b=>rw[qp]at he;subst he;obtain⟨t,rfl⟩:=rv;exact SeqAt.EqAt.tuple_int b t pi aA
   |str b=>rw[qp]at he;subst he;obtain⟨t,rfl⟩:=rv;exact SeqAt.EqAt.tuple_str b t pi aA
  | lst ds=>
   rw[bE]at hn;have pC:=hd;rw[qp]at hd;obtain⟨a,xs,rfl,k1,k2⟩:=hd;cases ru;obtain⟨is,vi,pi,_⟩:=I.list k1;cases e with
   | lst es=>
    have Ct:=he;rw[qp]at he;obtain⟨b,ys,rfl,l1,l2⟩:=he;cases rv;obtain⟨js,vj,pj,_⟩:=I.list l1;obtain⟨z1,z2⟩:=pB k2 l2 vi vj;by_cases dy:a=b
    .subst dy;rw[Cp I _ _ _ pC Ct];exact SeqAt.EqAt.same _
    .rw[bo];by_cases hsz:ds.length=es.length
     .have q:=SeqAt.RcAt.lists (A:=A) pi.isList pj.isList (by lia) aA (items_eqAt k2 l2 vi vj λd e x y u v _ iA=>ih d e x y u v A.in1 (by lia) jF);rw[<-z1,Cr hsz]at q;exact SeqAt.EqAt.of_refs dy q
     .rw[Cs hsz];exact SeqAt.EqAt.of_refs dy (SeqAt.RcAt.lists_lengths pi.isList pj.isList (by rw[<-z1,<-z2];simpa using hsz) aA)
   |tup es=>rw[qp]at he;obtain⟨b,ys,rfl,l1,l2⟩:=he;cases rv;obtain⟨js,vj,pj,_⟩:=I.tuple l1;exact SeqAt.EqAt.list_tuple pi.isList pj aA
   |aq=>rw[qp]at he;subst he;cases rv;exact SeqAt.EqAt.list_none pi.isList aA
   |bl b=>rw[qp]at he;subst he;cases rv;exact SeqAt.EqAt.list_bool b pi.isList aA
   |int b=>rw[qp]at he;subst he;obtain⟨t,rfl⟩:=rv;exact SeqAt.EqAt.list_int b t pi.isList aA
   |str b=>rw[qp]at he;subst he;obtain⟨t,rfl⟩:=rv;exact SeqAt.EqAt.list_str b t pi.isList aA
  |aq=>exact ih _ _ _ _ _ _ _ (zero_le n) (by lia) hd he ru rv
  |bl b=>exact ih _ _ _ _ _ _ _ (zero_le n) (by lia) hd he ru rv
  |int b=>exact ih _ _ _ _ _ _ _ (zero_le n) (by lia) hd he ru rv
  |str b=>exact ih _ _ _ _ _ _ _ (zero_le n) (by lia) hd he ru rv
theorem RC (I:Inv X pins U H s){n:Nat}{d e:Dt}{x y:V}{u v:Value}{A:Around}(hn:bE d<=n)(hu:A.units+n<cLine)(hd:qp X.K H d x)(he:qp X.K H e y)(ru:RelV x u)(rv:RelV y v):SeqAt.RcAt A s u v (bo d e):=by
 have aA:A.units<cLine:=by lia
 cases d with
 |aq=>
  rw[qp]at hd;subst hd;cases ru;cases e<;>rw[qp]at he;case aq=>subst he;cases rv;exact SeqAt.RcAt.none_none
  case bl b=>subst he;cases rv;exact SeqAt.RcAt.none_bool b
  case int b=>subst he;obtain⟨t,rfl⟩:=rv;exact SeqAt.RcAt.none_int b t
  case str b=>subst he;obtain⟨t,rfl⟩:=rv;exact SeqAt.RcAt.none_str b t
  case tup es=>obtain⟨b,ys,rfl,k1,k2⟩:=he;cases rv;obtain⟨js,vj,pj,_⟩:=I.tuple k1;exact SeqAt.RcAt.none_tuple pj aA
  case lst es=>obtain⟨b,ys,rfl,k1,k2⟩:=he;cases rv;obtain⟨js,vj,pj,_⟩:=I.list k1;exact SeqAt.RcAt.none_list pj.isList aA
 |bl a=>
  rw[qp]at hd;subst hd;cases ru;cases e<;>rw[qp]at he;case aq=>subst he;cases rv;exact SeqAt.RcAt.bool_none a
  case bl b=>subst he;cases rv;exact SeqAt.RcAt.bool_bool a b
  case int b=>subst he;obtain⟨t,rfl⟩:=rv;exact SeqAt.RcAt.bool_int a b t
  case str b=>subst he;obtain⟨t,rfl⟩:=rv;exact SeqAt.RcAt.bool_str a b t
  case tup es=>obtain⟨b,ys,rfl,k1,k2⟩:=he;cases rv;obtain⟨js,vj,pj,_⟩:=I.tuple k1;exact SeqAt.RcAt.bool_tuple a pj aA
  case lst es=>obtain⟨b,ys,rfl,k1,k2⟩:=he;cases rv;obtain⟨js,vj,pj,_⟩:=I.list k1;exact SeqAt.RcAt.bool_list a pj.isList aA
 |int a=>
  rw[qp]at hd;subst hd;obtain⟨t0,rfl⟩:=ru;cases e<;>rw[qp]at he;case aq=>subst he;cases rv;exact SeqAt.RcAt.int_none a t0
  case bl b=>subst he;cases rv;exact SeqAt.RcAt.int_bool a t0 b
  case int b=>subst he;obtain⟨t,rfl⟩:=rv;exact SeqAt.RcAt.int_int a t0 b t
  case str b=>subst he;obtain⟨t,rfl⟩:=rv;exact SeqAt.RcAt.int_str a t0 b t
  case tup es=>obtain⟨b,ys,rfl,k1,k2⟩:=he;cases rv;obtain⟨js,vj,pj,_⟩:=I.tuple k1;exact SeqAt.RcAt.int_tuple a t0 pj aA
  case lst es=>obtain⟨b,ys,rfl,k1,k2⟩:=he;cases rv;obtain⟨js,vj,pj,_⟩:=I.list k1;exact SeqAt.RcAt.int_list a t0 pj.isList aA
 |str a=>
  rw[qp]at hd;subst hd;obtain⟨t0,rfl⟩:=ru;cases e<;>rw[qp]at he;case aq=>subst he;cases rv;exact SeqAt.RcAt.str_none a t0
  case bl b=>subst he;cases rv;exact SeqAt.RcAt.str_bool a t0 b
  case int b=>subst he;obtain⟨t,rfl⟩:=rv;exact SeqAt.RcAt.str_int a t0 b t
  case str b=>subst he;obtain⟨t,rfl⟩:=rv;exact SeqAt.RcAt.str_str a t0 b t
  case tup es=>obtain⟨b,ys,rfl,k1,k2⟩:=he;cases rv;obtain⟨js,vj,pj,_⟩:=I.tuple k1;exact SeqAt.RcAt.str_tuple a t0 pj aA
  case lst es=>obtain⟨b,ys,rfl,k1,k2⟩:=he;cases rv;obtain⟨js,vj,pj,_⟩:=I.list k1;exact SeqAt.RcAt.str_list a t0 pj.isList aA
 |tup ds=>
  rw[bE]at hn;have jF:A.in1.units+(n-1)<cLine:=by rw[units_in1];lia
  rw[qp]at hd;obtain⟨a,xs,rfl,k1,k2⟩:=hd;cases ru;obtain⟨is,vi,pi,_⟩:=I.tuple k1;cases e with
  |tup es=>rw[qp]at he;obtain⟨b,ys,rfl,l1,l2⟩:=he;cases rv;obtain⟨js,vj,pj,_⟩:=I.tuple l1;have q:=SeqAt.RcAt.tuples (A:=A) pi pj aA (items_eqAt k2 l2 vi vj λd e x y u v _ iA=>rO I (n-1) d e x y u v A.in1 (by lia) jF);obtain⟨z1,z2⟩:=pB k2 l2 vi vj;rw[<-z1,<-z2,pA]at q;rw[bo];exact q
  |lst es=>rw[qp]at he;obtain⟨b,ys,rfl,l1,l2⟩:=he;cases rv;obtain⟨js,vj,pj,_⟩:=I.list l1;exact SeqAt.RcAt.tuple_list pi pj.isList aA
  |aq=>rw[qp]at he;subst he;cases rv;exact SeqAt.RcAt.tuple_none pi aA
  |bl b=>rw[qp]at he;subst he;cases rv;exact SeqAt.RcAt.tuple_bool b pi aA
  |int b=>rw[qp]at he;subst he;obtain⟨t,rfl⟩:=rv;exact SeqAt.RcAt.tuple_int b t pi aA
  |str b=>rw[qp]at he;subst he;obtain⟨t,rfl⟩:=rv;exact SeqAt.RcAt.tuple_str b t pi aA
 | lst ds=>
  rw[bE]at hn;have jF:A.in1.units+(n-1)<cLine:=by rw[units_in1];lia
  rw[qp]at hd;obtain⟨a,xs,rfl,k1,k2⟩:=hd;cases ru;obtain⟨is,vi,pi,_⟩:=I.list k1;cases e with
  |lst es=>
   rw[qp]at he;obtain⟨b,ys,rfl,l1,l2⟩:=he;cases rv;obtain⟨js,vj,pj,_⟩:=I.list l1;obtain⟨z1,z2⟩:=pB k2 l2 vi vj;rw[bo];by_cases hsz:ds.length=es.length
   .have q:=SeqAt.RcAt.lists (A:=A) pi.isList pj.isList (by lia) aA (items_eqAt k2 l2 vi vj λd e x y u v _ iA=>rO I (n-1) d e x y u v A.in1 (by lia) jF);rw[<-z1,Cr hsz]at q;exact q
   .rw[Cs hsz];exact SeqAt.RcAt.lists_lengths pi.isList pj.isList (by rw[<-z1,<-z2];simpa using hsz) aA
  |tup es=>rw[qp]at he;obtain⟨b,ys,rfl,l1,l2⟩:=he;cases rv;obtain⟨js,vj,pj,_⟩:=I.tuple l1;exact SeqAt.RcAt.list_tuple pi.isList pj aA
  |aq=>rw[qp]at he;subst he;cases rv;exact SeqAt.RcAt.list_none pi.isList aA
  |bl b=>rw[qp]at he;subst he;cases rv;exact SeqAt.RcAt.list_bool b pi.isList aA
  |int b=>rw[qp]at he;subst he;obtain⟨t,rfl⟩:=rv;exact SeqAt.RcAt.list_int b t pi.isList aA
  |str b=>rw[qp]at he;subst he;obtain⟨t,rfl⟩:=rv;exact SeqAt.RcAt.list_str b t pi.isList aA
theorem RD (I:Inv X pins U H s){n:Nat}{d e:Dt}{x y:V}{u v:Value}{A:Around}(hn:bE d<=n)(hu:A.units+n<cLine)(hd:qp X.K H d x)(he:qp X.K H e y)(ru:RelV x u)(rv:RelV y v):SeqAt.RcNeAt A s u v (!(bo d e)):=by
 have aA:A.units<cLine:=by lia
 cases d with
 |aq=>
  rw[qp]at hd;subst hd;cases ru;cases e<;>rw[qp]at he;case aq=>subst he;cases rv;exact SeqAt.RcNeAt.none_none
  case bl b=>subst he;cases rv;exact SeqAt.RcNeAt.none_bool b
  case int b=>subst he;obtain⟨t,rfl⟩:=rv;exact SeqAt.RcNeAt.none_int b t
  case str b=>subst he;obtain⟨t,rfl⟩:=rv;exact SeqAt.RcNeAt.none_str b t
  case tup es=>obtain⟨b,ys,rfl,k1,k2⟩:=he;cases rv;obtain⟨js,vj,pj,_⟩:=I.tuple k1;exact SeqAt.RcNeAt.none_tuple pj aA
  case lst es=>obtain⟨b,ys,rfl,k1,k2⟩:=he;cases rv;obtain⟨js,vj,pj,_⟩:=I.list k1;exact SeqAt.RcNeAt.none_list pj.isList aA
 |bl a=>
  rw[qp]at hd;subst hd;cases ru;cases e<;>rw[qp]at he;case aq=>subst he;cases rv;exact SeqAt.RcNeAt.bool_none a
  case bl b=>subst he;cases rv;exact SeqAt.RcNeAt.bool_bool a b
  case int b=>subst he;obtain⟨t,rfl⟩:=rv;exact SeqAt.RcNeAt.bool_int a b t
  case str b=>subst he;obtain⟨t,rfl⟩:=rv;exact SeqAt.RcNeAt.bool_str a b t
  case tup es=>obtain⟨b,ys,rfl,k1,k2⟩:=he;cases rv;obtain⟨js,vj,pj,_⟩:=I.tuple k1;exact SeqAt.RcNeAt.bool_tuple a pj aA
  case lst es=>obtain⟨b,ys,rfl,k1,k2⟩:=he;cases rv;obtain⟨js,vj,pj,_⟩:=I.list k1;exact SeqAt.RcNeAt.bool_list a pj.isList aA
 |int a=>
  rw[qp]at hd;subst hd;obtain⟨t0,rfl⟩:=ru;cases e<;>rw[qp]at he;case aq=>subst he;cases rv;exact SeqAt.RcNeAt.int_none a t0
  case bl b=>subst he;cases rv;exact SeqAt.RcNeAt.int_bool a t0 b
  case int b=>subst he;obtain⟨t,rfl⟩:=rv;exact SeqAt.RcNeAt.int_int a t0 b t
  case str b=>subst he;obtain⟨t,rfl⟩:=rv;exact SeqAt.RcNeAt.int_str a t0 b t
  case tup es=>obtain⟨b,ys,rfl,k1,k2⟩:=he;cases rv;obtain⟨js,vj,pj,_⟩:=I.tuple k1;exact SeqAt.RcNeAt.int_tuple a t0 pj aA
  case lst es=>obtain⟨b,ys,rfl,k1,k2⟩:=he;cases rv;obtain⟨js,vj,pj,_⟩:=I.list k1;exact SeqAt.RcNeAt.int_list a t0 pj.isList aA
 |str a=>
  rw[qp]at hd;subst hd;obtain⟨t0,rfl⟩:=ru;cases e<;>rw[qp]at he;case aq=>subst he;cases rv;exact SeqAt.RcNeAt.str_none a t0
  case bl b=>subst he;cases rv;exact SeqAt.RcNeAt.str_bool a t0 b
  case int b=>subst he;obtain⟨t,rfl⟩:=rv;exact SeqAt.RcNeAt.str_int a t0 b t
  case str b=>subst he;obtain⟨t,rfl⟩:=rv;exact SeqAt.RcNeAt.str_str a t0 b t
  case tup es=>obtain⟨b,ys,rfl,k1,k2⟩:=he;cases rv;obtain⟨js,vj,pj,_⟩:=I.tuple k1;exact SeqAt.RcNeAt.str_tuple a t0 pj aA
  case lst es=>obtain⟨b,ys,rfl,k1,k2⟩:=he;cases rv;obtain⟨js,vj,pj,_⟩:=I.list k1;exact SeqAt.RcNeAt.str_list a t0 pj.isList aA
 |tup ds=>
  rw[bE]at hn;have jF:A.in1.units+(n-1)<cLine:=by rw[units_in1];lia
  rw[qp]at hd;obtain⟨a,xs,rfl,k1,k2⟩:=hd;cases ru;obtain⟨is,vi,pi,_⟩:=I.tuple k1;cases e with
  |tup es=>rw[qp]at he;obtain⟨b,ys,rfl,l1,l2⟩:=he;cases rv;obtain⟨js,vj,pj,_⟩:=I.tuple l1;have q:=SeqAt.RcNeAt.tuples (A:=A) pi pj aA (items_eqAt k2 l2 vi vj λd e x y u v _ iA=>rO I (n-1) d e x y u v A.in1 (by lia) jF);obtain⟨z1,z2⟩:=pB k2 l2 vi vj;rw[<-z1,<-z2,pA]at q;rw[bo];exact q
  |lst es=>rw[qp]at he;obtain⟨b,ys,rfl,l1,l2⟩:=he;cases rv;obtain⟨js,vj,pj,_⟩:=I.list l1;exact SeqAt.RcNeAt.tuple_list pi pj.isList aA
  |aq=>rw[qp]at he;subst he;cases rv;exact SeqAt.RcNeAt.tuple_none pi aA
  |bl b=>rw[qp]at he;subst he;cases rv;exact SeqAt.RcNeAt.tuple_bool b pi aA
  |int b=>rw[qp]at he;subst he;obtain⟨t,rfl⟩:=rv;exact SeqAt.RcNeAt.tuple_int b t pi aA
  |str b=>rw[qp]at he;subst he;obtain⟨t,rfl⟩:=rv;exact SeqAt.RcNeAt.tuple_str b t pi aA
 | lst ds=>
  rw[bE]at hn;have jF:A.in1.units+(n-1)<cLine:=by rw[units_in1];lia
  rw[qp]at hd;obtain⟨a,xs,rfl,k1,k2⟩:=hd;cases ru;obtain⟨is,vi,pi,_⟩:=I.list k1;cases e with
  |lst es=>
   rw[qp]at he;obtain⟨b,ys,rfl,l1,l2⟩:=he;cases rv;obtain⟨js,vj,pj,_⟩:=I.list l1;obtain⟨z1,z2⟩:=pB k2 l2 vi vj;rw[bo];by_cases hsz:ds.length=es.length
   .have q:=SeqAt.RcNeAt.lists (A:=A) pi.isList pj.isList (by lia) aA (items_eqAt k2 l2 vi vj λd e x y u v _ iA=>rO I (n-1) d e x y u v A.in1 (by lia) jF);rw[<-z1,Cr hsz]at q;exact q
   .rw[Cs hsz];exact SeqAt.RcNeAt.lists_lengths pi.isList pj.isList (by rw[<-z1,<-z2];simpa using hsz) aA
  |tup es=>rw[qp]at he;obtain⟨b,ys,rfl,l1,l2⟩:=he;cases rv;obtain⟨js,vj,pj,_⟩:=I.tuple l1;exact SeqAt.RcNeAt.list_tuple pi.isList pj aA
  |aq=>rw[qp]at he;subst he;cases rv;exact SeqAt.RcNeAt.list_none pi.isList aA
  |bl b=>rw[qp]at he;subst he;cases rv;exact SeqAt.RcNeAt.list_bool b pi.isList aA
  |int b=>rw[qp]at he;subst he;obtain⟨t,rfl⟩:=rv;exact SeqAt.RcNeAt.list_int b t pi.isList aA
  |str b=>rw[qp]at he;subst he;obtain⟨t,rfl⟩:=rv;exact SeqAt.RcNeAt.list_str b t pi.isList aA
end
noncomputable def RE (K:PySem.W.Frag):R2:=λx y H Q=>∃d e,qp K H d x/\qp K H e y/\bE d<=60/\Q (.bl (bo d e)) H
noncomputable def RF (K:PySem.W.Frag):R2:=λx y H Q=>∃d e,qp K H d x/\qp K H e y/\bE d<=60/\Q (.bl (!bo d e)) H
section
variable {X:Cx}
theorem RG (hu:X.A.units+64<cLine):bJ X (compareOp .Eq) (RE X.K):=by intro pins s U H x y v u Q I rx ry h;obtain⟨d,e,hd,he,hn,q⟩:=h;exact RC I hn (by lia) hd he rx ry _ _ _ _ ⟨.bl _,H,I,rfl,q⟩
theorem jG (hu:X.A.units+64<cLine):bJ X (compareOp .NotEq) (RF X.K):=by intro pins s U H x y v u Q I rx ry h;obtain⟨d,e,hd,he,hn,q⟩:=h;exact RD I hn (by lia) hd he rx ry _ _ _ _ ⟨.bl _,H,I,rfl,q⟩
end
theorem Cu (K:PySem.W.Frag)(H:Hp):∀ns:List Int,yj K H (ns.map Dt.int) (ns.map V.int)
 |[]=>by rw[map_nil,map_nil,yj]
 |n::ns=>by rw[map_cons,map_cons,yj];exact⟨_,_,rfl,by rw[qp],Cu K H ns⟩
theorem nJ {K:PySem.W.Frag}{H:Hp}{a:Addr}{ns:List Int}(h:af K H a (ns.map V.int)):qp K H (.lst (ns.map Dt.int)) (.ref a):=by rw[qp];exact⟨a,_,rfl,h,Cu K H ns⟩
theorem JQ {K:PySem.W.Frag}{H:Hp}{a:Addr}{ns:List Int}(h:ay K H a (ns.map V.int)):qp K H (.tup (ns.map Dt.int)) (.ref a):=by rw[qp];exact⟨a,_,rfl,h,Cu K H ns⟩
theorem Cv:∀ns:List Int,dv (ns.map Dt.int)=0
 |[]=>by rw[map_nil,dv]
 |n::ns=>by show max (bE (Dt.int n)) (dv (ns.map Dt.int))=0;rw[Cv ns];rfl
theorem Cw:∀ms ns:List Int,cG (ms.map Dt.int) (ns.map Dt.int)=decide (ms=ns)
 |[],[]=>by simp[cG]
 |[],n::ns=>by simp[cG]
 |m::ms,[]=>by simp[cG]
 |m::ms,n::ns=>by
  rw[map_cons,map_cons,cG,Cw ms ns,bo];by_cases h:m=n
  .subst h;simp
  .simp[h]
theorem RH (ms ns:List Int):bo (.lst (ms.map Dt.int)) (.lst (ns.map Dt.int))=decide (ms=ns):=by rw[bo,Cw]
theorem RI (ms ns:List Int):bo (.tup (ms.map Dt.int)) (.tup (ns.map Dt.int))=decide (ms=ns):=by rw[bo,Cw]
theorem xA (ns:List Int):bE (.lst (ns.map Dt.int))<=60:=by rw[bE,Cv];decide
theorem JR (ns:List Int):bE (.tup (ns.map Dt.int))<=60:=by rw[bE,Cv];decide
section
variable {X:Cx}
noncomputable def RJ (K:PySem.W.Frag):R2:=λx y H Q=>∃p xs i v,x= .ref p/\y= .int i/\af K H p xs/\0<=i/\xs[i.toNat]?=some v/\Q v H
theorem Cy:Il X (RJ X.K):=by intro pins s U H o i ov iv Q I ro ri h;obtain⟨p,xs,k,z,rfl,rfl,hq,h0,he,q⟩:=h;cases ro;obtain⟨t,rfl⟩:=ri;obtain⟨its,r,pl,hz⟩:=I.list hq;obtain⟨w,ew,cz⟩:=r.get he;have hl:=r.length;have hn:=lU;have hk:k.toNat<its.length:=(List.getElem?_eq_some_iff.mp ew).1;exact wpAny_getItem_list pl.isList h0 (by lia) (by simpa using ew) ⟨z,H,I,cz,q⟩
end
noncomputable def gR {α:Type}:List α->List α->List α
 |[u0],[w0]=>[u0,w0]
 |_,_=>[]
theorem RK {vs:List V}{us:List Value}{zs:List V}{ws:List Value}(r1:Vals vs us)(r2:Vals zs ws):Vals (gR vs zs) (gR us ws):=by
 cases r1 with
 |nil=>exact .nil
 | cons a ra=>
  cases ra with
  | nil=>
   cases r2 with
   |nil=>exact .nil
   |cons b rb=>
    cases rb with
    |nil=>exact .cons a (.cons b .nil)
    |cons _ _=>exact .nil
  |cons _ _=>exact .nil
theorem RL {K:PySem.W.Frag}{fd:FuncData}{p k:Str}{kd:Addr}{v:Value}(e:PySem.W.nsIn K kd k=some (some v))(hp:fd.params.posonlyargs=[])(ha:fd.params.args.map (·.arg)=[p])(hv:fd.params.vararg=none)(hk:fd.params.kwonlyargs.map (·.arg)=[k])(qT:fd.params.kwarg=none)(hd:fd.defaults= .none)(RM:fd.kwdefaults= .ref kd)(JS:(k==p)=false):Binds K fd [p,k] [v]:=by
 intro s us KX hl;obtain⟨u,rfl⟩:∃u,us=[u]:=by match us,hl with
  |[u],_=>exact⟨u,rfl⟩
  |_::_::_,hl=>simp at hl
 intro Mo A E Q hq;have L:=PySem.W.looks_nsIn (M:=Mo) KX e;unfold bindArgs;have hz:seqItems? Value.none=pure none:=rfl;simp only[hp,ha,hv,hk,qT,hd,RM,hz,map_nil,List.nil_append,length_cons,List.length_nil,List.zip_cons_cons,List.zip_nil_right,pure_bind,Option.getD_none,List.forIn_nil];simp[lookup_cons,JS];refine wpAny_bind (L A _ E s (λ_ _ h=>h) ?_);simp[lookup_cons,JS];exact wpAny_pure hq
theorem wc.there {P:Program}{w:World}{H:Hp}{h:Heap}{a:Addr}{o:HO}(x:wc P w H h a o):∃ob,h.get? a=some ob:=by
 cases o with
 |lst xs=>obtain⟨_,_,_,_,e⟩:=x;exact⟨_,e⟩
 |tup xs=>obtain⟨_,_,_,p⟩:=x;obtain⟨o,e,_⟩:=p;exact⟨_,e⟩
 |dK aa=>obtain⟨_,_,_,_,o,_,_,e,_⟩:=x;exact⟨_,e⟩
 |dT aa=>obtain⟨_,_,_,_,o,_,_,e,_⟩:=x;exact⟨_,e⟩
 |set S n=>obtain⟨o,_,_,_,e,_⟩:=x;exact⟨_,e⟩
 |ins C dx fs=>obtain⟨_,_,_,e,_⟩:=x;exact⟨_,e⟩
 |own y=>obtain⟨_,e⟩:=x;exact⟨_,e⟩
 |xd fs=>obtain⟨_,⟨_,_,_,e,_⟩,_⟩:=x;exact⟨_,e⟩
 |vK lo hi=>obtain⟨_,_,_,e⟩:=x;exact⟨_,e⟩
 |aY ob u=>obtain⟨e,_⟩:=x;exact⟨_,e⟩
 |lK ps=>exact⟨_,(show h.get? a=some _ from x)⟩
 |met f y=>exact⟨_,(show h.get? a=some _ from x)⟩
 |ext φ=>obtain⟨_,⟨_,e⟩,_⟩:=x;exact⟨_,e⟩
structure pD (P:Program)(w:World)(l:List Env)(H H':Hp)(s s':Shared)(ea:Addr)(cls:Value):Prop where
 os:s'.os=s.os
 bare:AllBare s'.gens
 un:Un (bp l) [] H H' s.heap s'.heap
 ah:bI P w H' s'.heap
 JT:∃(Bq:Heap)(t:Addr),Heap.FlyingW Bq l ea cls (.ref t) s'.heap/\(∀b o o',s.heap.get? b=some o->s'.heap.get? b=some o'->b∉bp l->Bq.get? b=some o')/\(∀b u o',H' b=some u->s'.heap.get? b=some o'->Bq.get? b=some o')
 new:s.heap.get? ea=none
section
variable {X:Cx}{pins:List (Addr×Obj)}{U:St}{H H':Hp}{s s':Shared}{ea:Addr}{cls:Value}
theorem Inv.jH (I:Inv X pins U H s){b:Addr}{o:Obj}(e:X.au.heap.get? b=some o)(hb:b∉X.fs):b∉bp X.stack:=λz=>by
 rcases mem_cons.mp (I.mS b z)with q|q
 .have h1:@LT.lt Nat _ b X.au.heap.objs.size:=Heap.lt_size e;have h2:@LE.le Nat _ X.au.heap.objs.size X.env.locals:=I.ok.above;have h3:@Eq Nat b X.env.locals:=q;lia
 .exact hb q
theorem Inv.RN (I:Inv X pins U H s){b:Addr}(hb:b∈X.fs):b∈bp X.stack:=by
 rcases I.ok.cU with e|⟨e,hf⟩
 .rw[e];exact hb
 .rw[e];unfold bp;rw[filterMap_cons,hf];exact mem_cons_of_mem _ hb
theorem RO (I:Inv X pins U H s)(hex:X.ex=[])(F:pD X.prog X.w X.stack H H' s s' ea cls){h':Heap}{Bq:Heap}{t:Addr}(hf:Heap.FlyingW Bq X.outer ea cls (.ref t) h')(hu:s'.heap.UpToSlots h')(k1:∀b o o',s.heap.get? b=some o->s'.heap.get? b=some o'->b∉bp X.stack->Bq.get? b=some o')(k2:∀b u o',H' b=some u->s'.heap.get? b=some o'->Bq.get? b=some o'):
  pD X.prog X.w X.outer X.bD H' X.au {s' with heap:=h'} ea cls:=by
 have base:=I.base;rw[hex]at base;have cx:∀b:Addr,b∉([]:List Addr):=λb=>by simp
 have lift:∀b o,X.au.heap.get? b=some o->b∉X.fs->∃o1 o2,s.heap.get? b=some o1/\s'.heap.get? b=some o2/\h'.get? b=some o2:=λb o e hb=>by obtain⟨o1,e1⟩:=base.there b o e (cx b);obtain⟨o2,e2⟩:=F.un.there b o1 e1 (cx b);exact⟨o1,o2,e1,e2,hf.1 _ _ (k1 b o1 o2 e1 e2 (I.jH e hb))⟩
 have slots:∀b o,X.au.heap.get? b=some o->X.bD b=none->b∈X.fs->∃sl,h'.get? b=some {o with slots:=sl}:=λb o e n hb=>by obtain⟨sl,e1⟩:=base.slot b o e n hb (cx b);obtain⟨RP,e2⟩:=F.un.slot b _ e1 (base.free b o e n (cx b)) (I.RN hb) (cx b);obtain⟨_,o3,e3,nf⟩:=I.ok.eL.mem hb;rw[e]at e3;cases e3;obtain⟨rP,e4⟩:=hu b _ e2 nf;exact⟨rP,e4⟩
 refine⟨F.os.trans I.os,F.bare,⟨λb o e n hb _=>?_,λb o e n hb _=>slots b o e n hb,λb o e n _=>?_,λb o e _=>?_,λb xs q=>F.un.dJ b xs (base.dJ b xs q),λb o xs q=>F.un.dB b o xs (base.dB b o xs q),λb ps q=>?_⟩,λb u e=>?_,⟨Bq,t,hf,λb o o' e e' hb=>?_,λb u o' q e'=>?_⟩,?_⟩
 .have e1:=base.keep b o e n hb (cx b);have e2:=F.un.keep b o e1 (base.free b o e n (cx b)) (I.jH e hb) (cx b);exact hf.1 _ _ (k1 b o o e1 e2 (I.jH e hb))
 .obtain⟨o1,e1⟩:=base.there b o e (cx b);exact F.un.free b o1 e1 (base.free b o e n (cx b)) (cx b)
 .by_cases hb:b∈X.fs
  .obtain⟨sl,q⟩:=slots b o e (I.ok.hU b hb) hb;exact⟨_,q⟩
  .obtain⟨_,o2,_,_,q⟩:=lift b o e hb;exact⟨o2,q⟩
 .obtain⟨m1,e1⟩:=base.dW b ps q;obtain⟨m2,e2⟩:=F.un.dW b _ e1;exact⟨m1++m2,by rw[e2,Array.append_assoc]⟩
 .refine(F.ah b u e).bZ (λc v hc q=>?_) (λ_ q=>q) λ_ _ q=>q;rcases hc with z|z
  .subst z;exact hf.1 _ _ (k2 _ _ _ e q)
  .exact hf.1 _ _ (k2 _ _ _ z q)
 .by_cases Cz:b∈X.fs
  .exact absurd Cz hb
  .obtain⟨o1,o2,e1,e2,q⟩:=lift b o e Cz;have q':h'.get? b=some o':=e';rw[q]at q';cases q';exact k1 b o1 _ e1 e2 (I.jH e Cz)
 .obtain⟨o2,e2⟩:=(F.ah b u q).there;have z:=k2 b u o2 q e2;have q':h'.get? b=some o':=e';rw[hf.1 _ _ z]at q';cases q';exact z
 .cases q:X.au.heap.get? ea with
  |none=>rfl
  |some o=>obtain⟨o1,e1⟩:=base.there ea o q (cx ea);rw[F.new]at e1;cases e1
end
noncomputable def rQ:List Value:=[.type "ValueError",.type "Exception",.type "BaseException",.type "object"]
noncomputable def xB (K:PySem.W.Frag)(C:Addr):Prop:=PySem.W.excIn K C rQ "ValueError.__new__"=true
theorem RQ {K:PySem.W.Frag}{h:Heap}{C:Addr}{nK:List Value}{newId:String}(X:K.In h)(q:PySem.W.excIn K C nK newId=true):∃bm N nm qn bs hdct sn sub ab col dd k0 k1 k2 k3 k5 mN,h.get? C=some (excClassObj nm qn C N bs bm hdct sn sub ab col dd k0 k1 k2 k3 k5 newId)/\h.Ns N mN/\mN "__init__"=none/\OwnTail h nK bm:=by
 unfold PySem.W.excIn at q;split at q
 .rename_i dd cd sl ho;split at q
  .rename_i C' bm k0 k1 k2 k3 n k5 hm hs;simp only[Bool.and_eq_true,beq_iff_eq,Bool.not_eq_true']at q;obtain⟨⟨⟨⟨⟨rfl,rfl⟩,iB⟩,ht⟩,ah⟩,xC⟩:=q;obtain⟨nm,bs,mro,ns,qn,hd,sn,sub,ab,col,del⟩:=cd;dsimp only at hm iB ah xC;subst hm iB;have CA:sl=#[k0,k1,k2,k3,some (.builtin n),k5]:=by
    obtain⟨l⟩:=sl;simp only at hs;rw[hs]
   subst CA;exact⟨bm,ns,nm,qn,bs,hd,sn,sub,ab,col,dd,k0,k1,k2,k3,k5,_,X _ _ ho,.of_isNs (PySem.W.isNs_of_in X ah),PySem.W.nsMap_none_of_in X ah xC,PySem.W.tail_of_in X ht⟩
  .cases q
 .cases q
theorem RS {K:PySem.W.Frag}{M:Model}{h:Heap}{ea C Pc:Addr}{oe:Obj}{b:Bool}(X:K.In h)(he:h.get? ea=some oe)(hc:oe.cls= .ref C)(m:PySem.W.kitCls K (.ref C) (.ref Pc)=some b)(hb:PySem.W.mroIn K Pc (.type "BaseException")=some true):PySem.W.Looks M h (excMatches (.ref ea) (.ref Pc)) b:=by
 obtain⟨L1,L2,L3⟩:=PySem.W.kit_cls (M:=M) X m;have L4:=PySem.W.looks_mroIn (M:=M) X hb;have L5:PySem.W.Looks M h (typeOf (.ref ea)) (.ref C):=hc ▸ (PySem.W.Looks.ld he).andThen .now;have f:=tc_notTuple;intro A Q E s k q;unfold excMatches isInstance isExcClass;simp only[bind_assoc];refine wpAny_bind (L1 A _ E s k ?_);rw[f];simp only[pure_bind,Bool.false_eq_true,if_false,List.forIn_cons,List.forIn_nil,bind_assoc];refine wpAny_bind (L2 A _ E s k ?_);simp only[if_true];refine wpAny_bind (L4 A _ E s k ?_);simp only[Bool.not_true,Bool.false_eq_true,if_false,pure_bind];refine wpAny_bind (L5 A _ E s k ?_);refine wpAny_bind (L3 A _ E s k ?_);cases b
 .exact wpAny_pure q
 .exact wpAny_pure q
noncomputable def JU (W:Hp->Prop)(t:TA):TS:=λ_ U H=>t U H λvs H1=>vs.length<=sizeLine/\W H1
section
variable {X:Cx}
theorem RT {x:Str}{C:Addr}{e:Expr}{es:List Expr}{t:TA}{np av pos:Pos}{W:Hp->Prop}(hc:X.calm=true)(hg:Gl X x)(hm:X.mg x=some (.ref C))(hC:xB X.K C)(ha:PA X (e::es) t)(CB:∀{pins:List (Addr×Obj)}{U:St}{H:Hp}{s:Shared}{ea:Addr}{vs:List Value}{h1:Heap},Inv X pins U H s->Heap.MadeExcOf s.heap h1 ea (.ref C) vs->W H->X.xe (.ref ea) {s with heap:=h1})(cE:autoParam ((x==("__debug__":Str))=false) aP2)(he:autoParam (starEach (e::es) X.env=(false,eval e X.env)::starEach es X.env) aP1)(cp:autoParam ((backTo av (starEach es X.env)).any (·.1)=false) aP1):
  PS X (.Raise (some (.Call (.Name x np) (e::es) [] av)) none pos) (JU W t):=by
 intro pins s U H D I h;obtain⟨bm,N,nm,qn,bs,hdct,sn,sub,ab,col,dd,k0,k1,k2,k3,k5,mN,hC,hN,xC,T⟩:=RQ I.mod.eK hC;have FB:=F.excBase_ValueError;refine wpAny_Raise_call_subT (C:=C) (nm:=nm) (q:=qn) (N:=N) (bs:=bs) (bm:=bm) (hdct:=hdct) (sn:=sn) (sub:=sub) (ab:=ab) (col:=col) (dd:=dd) (k0:=k0) (k1:=k1) (k2:=k2) (k3:=k3) (k5:=k5) FB (mN:=mN) (T.hasType FB.hasBase) (I.ok.hd hc) (by rw[he];show(false||(backTo av (starEach es X.env)).any (·.1))=false;rw[cp];rfl) xC (lO I hg hm ⟨rfl,?_⟩ cE);have hA:=ha av pins s U H _ I h;rw[he]at hA⊢;exact Calls.evalArgs_plain (ai hA λus s2 ⟨vs,H2,I2,r2,hz,q2⟩=>⟨rfl,by rw[<-r2.length];exact hz,I2.bk _ _ hC,hN.keeps I2.bk,T.keeps I2.bk,λh' e hm=>CB I2 hm q2⟩)
end
noncomputable def pE (X:Cx)(ea:Addr):Cx:={X with A:=X.A.mark (some (.ref ea)),calm:=false,xe:=λ_ _=>False}
noncomputable def mj (ea:Addr)(cls:Value):HO:=.ext λh=>∃o vs,h.get? ea=some o/\o.cls=cls/\o.data= .fields vs
section
variable {X:Cx}{pins pn:List (Addr×Obj)}{U:St}{H H':Hp}{s s':Shared}
theorem Inv.jI {X Yq:Cx}(I:Inv X pins U H s)(ok:Yq.Ok)(hs:Yq.au=X.au)(hH:Yq.bD=X.bD)(he:Yq.env=X.env)(ho:Yq.outer=X.outer)(hx:Yq.ex=X.ex)(hN:Yq.N=X.N)(hp:Yq.prog=X.prog)(hw:Yq.w=X.w){bG:List (Addr×Obj)}(CC:∀p∈Yq.pn++bG,p∈X.pn++pins):Inv Yq bG U H s:=by
 obtain⟨prog,w,K,mg,base,A,N,au,bD,env,outer,stack,ex,fn,calm,RU,xe⟩:=X;obtain⟨rR,w',K',RV,rT,A',N',rW,rX,CD,nM,nN,vL,RW,rY,RX,RY⟩:=Yq;dsimp only at hs hH he ho hx hN hp hw;subst hs hH he ho hx hN hp hw;exact⟨ok,I.os,I.bare,I.base,I.loc,I.cell,I.free,I.dC,λp hp=>I.pin p (CC p hp),I.ah,I.len⟩
theorem Cx.Ok.jI {X Yq:Cx}(ok:X.Ok)(hm:Yq.K=X.K/\Yq.mg=X.mg/\Yq.base=X.base)(he:Yq.env=X.env)(hs:Yq.au=X.au)(hH:Yq.bD=X.bD)(ho:Yq.outer=X.outer)(i6:Yq.stack=X.stack)(hx:Yq.ex=X.ex)(hf:Yq.fn=X.fn)(hd:Yq.calm=true->Yq.A.handled=none)(rZ:Yq.A.frames=some Yq.stack):Yq.Ok:=by
 obtain⟨prog,w,K,mg,base,A,N,au,bD,env,outer,stack,ex,fn,calm,RU,xe⟩:=X;obtain⟨rR,w',K',RV,rT,A',N',rW,rX,CD,nM,nN,vL,RW,rY,RX,RY⟩:=Yq;obtain⟨xD,JV,JW⟩:=hm;dsimp only at xD JV JW he hs hH ho i6 hx hf;subst xD JV JW he hs hH ho i6 hx hf;exact⟨ok.mod,ok.kind,ok.glob,ok.blt,ok.above,ok.inj,ok.has,ok.mQ,hd,rZ,ok.cU,ok.vM,ok.bs,ok.iY,ok.mR,ok.oJ,ok.eL,ok.hU⟩
theorem Inv.JX {bG:List (Addr×Obj)}(I:Inv {X with pn:=pn} bG U H s)(h:∀p∈X.pn++pins,p∈pn):Inv X pins U H s:=I.jI (Yq:=X) (I.ok.jI (Yq:=X) ⟨rfl,rfl,rfl⟩ rfl rfl rfl rfl rfl rfl rfl I.ok.hd I.ok.frames) rfl rfl rfl rfl rfl rfl rfl rfl λp hp=>mem_append_left _ (h p hp)
theorem Inv.RZ {ea:Addr}(I:Inv X pins U H s):Inv (pE X ea) pins U H s:=I.jI (Yq:=pE X ea) (I.ok.jI (Yq:=pE X ea) ⟨rfl,rfl,rfl⟩ rfl rfl rfl rfl rfl rfl rfl (λz=>by have z':false=true:=z;cases z') I.ok.frames) rfl rfl rfl rfl rfl rfl rfl rfl λ_ hp=>hp
theorem Inv.xE {ea:Addr}(ok:X.Ok)(I:Inv (pE X ea) pins U H s):Inv X pins U H s:=I.jI (Yq:=X) ok rfl rfl rfl rfl rfl rfl rfl rfl λ_ hp=>hp
theorem Sa {CX:eQ}{k:Nat}{f:Addr}{fd:FuncData}{ps:List Str}{sp:Sp}{bB:List V}{ds:List Value}{E:XK}{Q:VK}{us:List Value}{vs:List V}(F:xl X.prog X.w X.K X.mg X.base CX k f fd ps sp)(hr:aZ k X.A)(hb:Binds X.K fd ps ds)(hd:Vals bB ds)(I:Inv X pins U H s)(hx:∀e s',CX X.stack H s E e s'->X.xe e s')(r:Vals vs us)(h:sp (vs++bB) H Q E):wpAny (model X.prog X.w) X.A (call (.ref f) us) (EP X pins U Q) X.xe s:=by
 have r2:Vals (vs++bB) (us++ds):=r.append hd;have hl:(us++ds).length=ps.length:=by rw[<-r2.length];exact F.len _ _ _ _ h
 refine wpAny_call (codeAny_mono (F.run X.A X.stack s H ⟨us,[]⟩ (us++ds) (vs++bB) Q E hr I.oQ (hb s us I.aT hl) r2 h) λr s' hq=>?_);cases r with
 |error e=>exact hx e s' hq
 |ok fl=>
  cases fl with
  |ret u=>exact I.after hq
  |next=>exact False.elim hq
  |brk=>exact False.elim hq
  |cont=>exact False.elim hq
theorem JY {ea:Addr}{cls:Value}(I:Inv X pins U H s)(F:pD X.prog X.w X.stack H H' s s' ea cls){h':Heap}{Bq:Heap}{t:Addr}(hf:Heap.FlyingW Bq X.stack ea cls (.ref t) h')(hu:s'.heap.UpToSlots h')(k1:∀b o o',s.heap.get? b=some o->s'.heap.get? b=some o'->b∉bp X.stack->Bq.get? b=some o')(k2:∀b u o',H' b=some u->s'.heap.get? b=some o'->Bq.get? b=some o'):
  Inv X pins U H' {s' with heap:=h'}:=by
 have cx:∀b:Addr,b∉([]:List Addr):=λb=>by simp
 have slots:∀b o,s.heap.get? b=some o->H b=none->b∈bp X.stack->∃sl,h'.get? b=some {o with slots:=sl}:=λb o e n hb=>by obtain⟨RP,e2⟩:=F.un.slot b _ e n hb (cx b);obtain⟨_,o3,e3,nf⟩:=I.stack.mem hb;rw[e]at e3;cases e3;obtain⟨rP,e4⟩:=hu b _ e2 nf;exact⟨rP,e4⟩
 refine I.Bn (ch:=[]) F.os ⟨λb o e n hb _=>?_,λb o e n hb _=>slots b o e n hb,λb o e n _=>F.un.free b o e n (cx b),λb o e _=>?_,F.un.dJ,F.un.dB,F.un.dW⟩ (λb u e=>?_) F.bare λb z=>absurd z (cx b)
 .have e2:=F.un.keep b o e n hb (cx b);exact hf.1 _ _ (k1 b o o e e2 hb)
 .by_cases hb:b∈bp X.stack
  .obtain⟨sl,q⟩:=slots b o e (I.vN b hb) hb;exact⟨_,q⟩
  .obtain⟨o2,e2⟩:=F.un.there b o e (cx b);exact⟨o2,hf.1 _ _ (k1 b o o2 e e2 hb)⟩
 .refine(F.ah b u e).bZ (λc v hc q=>?_) (λ_ q=>q) λ_ _ q=>q;rcases hc with z|z
  .subst z;exact hf.1 _ _ (k2 _ _ _ e q)
  .exact hf.1 _ _ (k2 _ _ _ z q)
theorem Inv.CF {a:Addr}{o:HO}(I:Inv X pins U H s)(hex:X.ex=[])(hn:H a=none)(h0:X.au.heap.get? a=none)(hL:a≠X.env.locals)(hc:∀x c,X.env.cells.lookup x=some c->c≠a)(hp:∀p∈X.pn++pins,p.1≠a)(new:wc X.prog X.w (upd H a o) s.heap a o):Inv X pins U (upd H a o) s:=by
 have fY:∀b ob,X.au.heap.get? b=some ob->b≠a:=λb ob e z=>by rw[z,h0]at e;cases e
 refine⟨I.ok,I.os,I.bare,⟨I.base.keep,I.base.slot,λb ob e n hx=>?_,I.base.there,λb xs q=>?_,λb ob u q=>?_,λb ps q=>?_⟩,I.loc,I.cell,?_,λx c e=>?_,λp JZ=>?_,λb u e=>?_,I.len⟩
 .rw[jg (fY b ob e)];exact I.base.free b ob e n hx
 .rw[jg (jj (I.base.dJ b xs q) hn)];exact I.base.dJ b xs q
 .rw[jg (jj (I.base.dB b ob u q) hn)];exact I.base.dB b ob u q
 .obtain⟨more,z⟩:=I.base.dW b ps q;exact⟨more,by rw[jg (jj z hn)];exact z⟩
 .rw[jg (Ne.symm hL)];exact I.free
 .rw[jg (hc x c e)];exact I.dC x c e
 .obtain⟨q1,q2,q3⟩:=I.pin p JZ;exact⟨q1,by rw[jg (hp p JZ)];exact q2,q3⟩
 .by_cases hb:b=a
  .subst hb;rw[ja]at e;cases e;exact new
  .rw[jg hb]at e;exact(I.ah b u e).bZ (λ_ _ _ q=>q) (λc q=>by rw[jg (jj q hn)];exact q) λc xs q=>by rw[jg (jj q hn)];exact q
theorem Inv.unset {i:Nat}{n:Str}(I:Inv X pins U H s)(hN:X.N.Nodup)(hi:X.N[i]?=some n){m:Str->Option Value}(hm:s.heap.Ns X.env.locals m)(hl:∀(i:Nat)(x:Str)(v:V),X.N[i]?=some x->U[i]?=some (some v)->qD X.env.scope x->∃u,RelV v u/\Look X.env s.heap m x u){h':Heap}{u:Option Value}(lN:h'.Ns X.env.locals (λx=>if x=n then u else m x))(hs:Heap.SameBut X.env.locals s.heap h'):Inv X pins (U.set i none) H {s with heap:=h'}:=by
 obtain⟨oL,_,_,Ia,_⟩:=id hm;have oK:i<U.length:=by rw[I.len];exact(List.getElem?_eq_some_iff.mp hi).1
 have hV:=I.hV;refine⟨I.ok,I.os,I.bare,⟨λb o e n hb hx=>?_,λb o e n hb hx=>?_,I.base.free,λb o e hx=>?_,I.base.dJ,I.base.dB,I.base.dW⟩,⟨_,lN,λj y v' e1 e2 e3=>?_⟩,λy c e=>?_,I.free,I.dC,λp hp=>?_,λb ob e=>?_,by simpa using I.len⟩
 .exact(hs.2 b (ne_of_lt (lt_of_lt_of_le (Heap.lt_size e) I.ok.above))).trans (I.base.keep b o e n hb hx)
 .obtain⟨sl,e1⟩:=I.base.slot b o e n hb hx;exact⟨sl,(hs.2 b (ne_of_lt (lt_of_lt_of_le (Heap.lt_size e) I.ok.above))).trans e1⟩
 .obtain⟨o',e1⟩:=I.base.there b o e hx;exact⟨o',(hs.2 b (ne_of_lt (lt_of_lt_of_le (Heap.lt_size e) I.ok.above))).trans e1⟩
 .by_cases hj:j=i
  .subst hj;rw[getElem?_set_self oK]at e2;cases e2
  .rw[getElem?_set_ne (Ne.symm hj)]at e2;obtain⟨u',r',q⟩:=hl j y v' e1 e2 e3;refine⟨u',r',?_⟩;rcases q with⟨k,e⟩|⟨k,c,e,z⟩
   .refine .inl ⟨k,?_⟩;have:y≠n:=λe=>hj (Bj hN e1 (e ▸ hi));simp[this,e]
   .exact .inr ⟨k,c,e,z.sameBut hs (hV y c e)⟩
 .obtain⟨w',z⟩:=I.cell y c e;exact⟨w',z.sameBut hs (hV y c e)⟩
 .obtain⟨e,n,ne,nf,d⟩:=I.pin p hp;exact⟨(hs.2 p.1 ne).trans e,n,ne,nf,d⟩
 .refine(I.ah b ob e).bZ (λc w' hc q=>(hs.2 c ?_).trans q) (λ_ q=>q) λ_ _ q=>q;have fr:=I.free
  rintro rfl
  rcases hc with rfl|hc
  .rw[fr]at e;cases e
  .rw[fr]at hc;cases hc
end
structure gS (K:PySem.W.Frag)(C:Addr):Prop where
 ga:PySem.W.findIn K (.ref C) "__getattribute__"=some (some (.builtin "BaseException.__getattribute__"))
 gn:PySem.W.findIn K (.ref C) "__getattr__"=some none
 cl:PySem.W.findIn K (.ref C) "__class__"=some (some (.builtin "object.__class__"))
 be:PySem.W.mroIn K C (.type "BaseException")=some true
 ob:PySem.W.mroIn K C (.type "object")=some true
 is:(PySem.W.clsIn K C).isSome=true
section
variable {prog:Program}{w:World}{A:Around}{E:Value->Shared->Prop}{K:PySem.W.Frag}{h:Heap}{g:Array GenState}{d:Drawn}{t:Nat}{os:OsState}{a C:Addr}{o:Obj}
theorem Sb {M:Model}(hx:h.get? a=some o)(hc:o.cls= .ref C):PySem.W.Looks M h (typeOf (.ref a)) (.ref C):=hc ▸ (PySem.W.Looks.ld hx).andThen .now
theorem Se {R:Result->Shared->Prop}{tp:Value}(X:K.In h)(I:gS K C)(hx:h.get? a=some o)(hc:o.cls= .ref C)(hq:R (.ok (.ret (.ref C))) ⟨h,g,d,t,os⟩):codeAny (model prog w) A (.call (.builtin "getset_descriptor.__get__") ⟨[.builtin "object.__class__",.ref a,tp],[]⟩) R ⟨h,g,d,t,os⟩:=by
 have L1:=PySem.W.looks_mroIn (M:=model prog w) X I.ob;have xF:(⟨h,g,d,t,os⟩:Shared).TypeIs (.builtin "object.__class__") "getset_descriptor":=F.typeOf_object_class;refine codeAny_call_builtin F.slot_gs_get.plain F.entry_gs_get (F.slot_gs_get.check _ _ _ _ _ _ _ _ xF (F.args_gs_get _ _ _) ?_);have ow:=F.owner_object_class;repeat(any_goals (first|assumption|(with_reducible refine wpAny_loadPart_at hx ?_;rw[hc])|(rw[ow];with_reducible refine L1.at ?_)|(with_reducible refine L1.at ?_)|wp_step))
 refine⟨Code.quiet_builtin _ (by decide+kernel),codeAny_builtin F.entry_object_class ?_⟩;repeat(any_goals (first|assumption|(with_reducible refine wpAny_loadPart_at hx ?_;rw[hc])|wp_step))
theorem Sf {tk:Tok}{Q:Fin->Shared->Prop}(X:K.In h)(I:gS K C)(hx:h.get? a=some o)(hc:o.cls= .ref C)(hq:Q (.done (.ret (.ref C))) ⟨h,g,d,t,os⟩):wpAny (model prog w) A (Builtin.«object.__getattribute__» ⟨[.ref a,.str "__class__" tk],[]⟩) Q E ⟨h,g,d,t,os⟩:=by
 have xF:(⟨h,g,d,t,os⟩:Shared).TypeIs (.builtin "object.__class__") "getset_descriptor":=F.typeOf_object_class;have f5:=F.typeOf_object_class;have f6:=F.slot_gs_get.lookup;have f7:=F.slot_gs_set.lookup;have L1:=PySem.W.looks_findIn (M:=model prog w) X I.cl;repeat(any_goals (first|assumption|(with_reducible refine wpAny_loadPart_at hx ?_;rw[hc])|(with_reducible refine L1.at ?_)|wp_step))
 refine Se X I hx hc ?_;repeat(any_goals (first|assumption|wp_step))
theorem Sg {M:Model}{eC:Value}{Q:Unit->Shared->Prop}(X:K.In h)(I:gS K C)(hx:h.get? a=some o)(hc:o.cls= .ref C)(hq:Q () ⟨h,g,d,t,os⟩):wpAny M A (checkBuiltinCall "BaseException.__getattribute__" ⟨[.ref a,eC],[]⟩) Q E ⟨h,g,d,t,os⟩:=by
 have hk:builtinKind "BaseException.__getattribute__"=some .slot:=by decide+kernel
 have nO:splitId "BaseException.__getattribute__"=some ("BaseException","__getattribute__"):=by decide+kernel
 have L1:=PySem.W.looks_mroIn (M:=M) X I.be;have ha:=F.args_bexc_ga (.ref a) eC;simp only[checkBuiltinCall,hk,nO];refine wpAny_bind ?_
 .unfold isInstance;repeat(first|(with_reducible refine wpAny_loadPart_at hx ?_;rw[hc])|(with_reducible refine L1.at ?_)|wp_step)
  exact hq
theorem Sh {tk:Tok}{R:Result->Shared->Prop}(X:K.In h)(I:gS K C)(hx:h.get? a=some o)(hc:o.cls= .ref C)(hq:R (.ok (.ret (.ref C))) ⟨h,g,d,t,os⟩):codeAny (model prog w) A (.call (.builtin "BaseException.__getattribute__") ⟨[.ref a,.str "__class__" tk],[]⟩) R ⟨h,g,d,t,os⟩:=
 codeAny_call_builtin F.attr_ValueError.ga.plain F.entry_bexc_ga (Sg X I hx hc (Sf X I hx hc hq))
theorem Si {tk:Tok}{Q:Value->Shared->Prop}(X:K.In h)(I:gS K C)(hx:h.get? a=some o)(hc:o.cls= .ref C)(hq:Q (.ref C) ⟨h,g,d,t,os⟩):wpAny (model prog w) A (getAttrBy (.ref a) (.str "__class__" tk) false) Q E ⟨h,g,d,t,os⟩:=by
 have f3:=F.attr_ValueError.ga.bind (.ref a);have L1:=PySem.W.looks_findIn (M:=model prog w) X I.ga;have L2:=PySem.W.looks_findIn (M:=model prog w) X I.gn;have xG:(Value.builtin "BaseException.__getattribute__"==Value.builtin "object.__getattribute__")=false:=by decide+kernel
 have mn:(onTheHeap (Value.ref C)&&Value.builtin "BaseException.__getattribute__"==Value.builtin "object.__getattribute__")=false:=by rw[xG];rfl
 repeat(any_goals (first|assumption|(with_reducible refine wpAny_loadPart_at hx ?_;rw[hc])|(with_reducible refine L1.at ?_)|(with_reducible refine L2.at ?_)|wp_step))
 refine Sh X I hx hc ?_;repeat(any_goals (first|assumption|wp_step))
theorem Sj {Q:Option Value->Shared->Prop}(X:K.In h)(I:gS K C)(hx:h.get? a=some o)(hc:o.cls= .ref C)(hq:Q (some (.ref C)) ⟨h,g,d,t+1,os⟩):wpAny (model prog w) A (getAttr? (.ref a) "__class__") Q E ⟨h,g,d,t,os⟩:=by unfold getAttr? getAttrBy?;repeat(any_goals (first|assumption|with_reducible apply Si X I hx hc|wp_step))
end
theorem Sk {K:PySem.W.Frag}{ea C:Addr}(I:gS K C):PySem.W.KitX K (.ref ea) (.ref C) (λh=>∃o vs,h.get? ea=some o/\o.cls= .ref C/\o.data= .fields vs) where
 ty:=λ_ _ _ ⟨o,_,h1,h2,_⟩=>Sb h1 h2
 it:=λ_ _ X _=>by
  have ig:=I.is;unfold PySem.W.clsIn at ig;split at ig
  .rename_i c' d' Sl mT ho;intro A' Q' E' s' k q;unfold isType loadHead;exact wpAny_bind (wpAny_loadPart (k _ _ (X _ _ ho)) (wpAny_pure q))
  .cases ig
 ne:=λh tp dd its n sl X Sm=>by
  refine Bool.eq_false_iff.mpr λq=>?_;have e:C=tp:=Value.ref.inj (beq_iff_eq.mp q);subst e;have ig:=I.is;unfold PySem.W.clsIn at ig;split at ig
  .rename_i c' d' Sl mT ho;have z:=(X _ _ ho).symm.trans Sm;cases z
  .cases ig
 ca:=λ{_ _ _ _ _ s} X ⟨o,_,h1,h2,_⟩ k=>by obtain⟨hh,g,d,t,os⟩:=s;exact Sj X I h1 h2 k
section
variable {X:Cx}
theorem zw:fT X (.builtin "isinstance") (λxs H Q=>∃ea C y c b,xs=[.ref ea,y]/\H ea=some (mj ea (.ref C))/\gS X.K C/\RelV y c/\PySem.W.kitOne X.K (.ref C) c=some b/\Q (.bl b) H):=by
 intro pins s U H xs us Q I r h;obtain⟨ea,C,y,c,b,rfl,hH,hX,ry,hk,q⟩:=h;obtain⟨u,w,rfl,r1,r2⟩:=vals2 r;obtain rfl:u=Value.ref ea:=r1;have hw:w=c:=by
  cases y with
  |ref z=>exact(show w=Value.ref z from r2).trans (show c=Value.ref z from ry).symm
  |ty z=>exact(show w=Value.type z from r2).trans (show c=Value.type z from ry).symm
  |aq=>exact(show w=Value.none from r2).trans (show c=Value.none from ry).symm
  |bl z=>exact(show w=Value.bool z from r2).trans (show c=Value.bool z from ry).symm
  |int z=>exfalso;obtain⟨_,rfl⟩:=ry;unfold PySem.W.kitOne PySem.W.kitCls at hk;simp at hk
  |str z=>exfalso;obtain⟨_,rfl⟩:=ry;unfold PySem.W.kitOne PySem.W.kitCls at hk;simp at hk
  |eV z=>exfalso;obtain⟨_,rfl⟩:=ry;unfold PySem.W.kitOne PySem.W.kitCls at hk;simp at hk
  |lJ z=>exfalso;obtain⟨_,rfl⟩:=ry;unfold PySem.W.kitOne PySem.W.kitCls at hk;simp at hk
 subst hw;obtain⟨p,_,_⟩:=(show wc X.prog X.w H s.heap ea (mj ea (.ref C))from I.ah ea _ hH);exact PySem.W.kia_one (Sk hX) I.aT p hk (λz=>nomatch z) λtk=>⟨.bl b,H,I.tok tk,rfl,q⟩
end
theorem J2 {A:Around}{s:Shared}(k:Bool)(bs:List Bool):∀y,y∈(bs.map Value.bool).toArray->SeqAt.EqAt A s y (.bool k) (isBoolOf k y):=λy hy=>by
 have Sn:y∈bs.map Value.bool:=by simpa using hy
 obtain⟨b,_,rfl⟩:=mem_map.mp Sn;exact SeqAt.EqAt.bool_bool b k
theorem J3 (k:Bool):∀bs:List Bool,(bs.map Value.bool).countP (isBoolOf k)=bs.count k
 |[]=>rfl
 |b::bs=>by rw[map_cons,List.countP_cons,List.count_cons,J3 k bs];rfl
noncomputable def So (K:PySem.W.Frag):V->List V->Hp->VK->Prop:=λx vs H Q=>∃(l:Addr)(bs:List Bool)(k:Bool),x= .ref l/\vs=[.bl k]/\af K H l (bs.map V.bl)/\Q (.int (bs.count k)) H
noncomputable def Sq (K:PySem.W.Frag):V->List V->Hp->VK->Prop:=λx vs H Q=>∃(l:Addr)(bs:List Bool)(k:Bool),x= .ref l/\vs=[.bl k]/\af K H l (bs.map V.bl)/\k∈bs/\Q (.int (bs.idxOf k)) H
section
variable {X:Cx}
theorem Sr:qX X "list.count" (So X.K):=by intro pins s U H x vs v us Q I rx rv h;obtain⟨l,bs,k,rfl,rfl,hH,q⟩:=h;cases rx;obtain⟨u,rfl,ru⟩:=rv.one;obtain rfl:u=Value.bool k:=ru;obtain⟨its,r,pl,hz⟩:=I.list hH;have e:=wZ r;subst e;obtain⟨⟨cls,dd,data,sl⟩,ho,hc,n,hd⟩:=pl.isList;simp only at hc hd;subst hc hd;refine call_meets PySem.F.slot_list_count ⟨_,ho,rfl⟩ PySem.F.entry_list_count (PySem.F.args_list_count_2 _ _) (SeqAt.list_countAt l _ n dd sl (.bool k) (isBoolOf k)) ⟨ho,λy hy=>J2 k bs y hy,?_⟩;rw[show(bs.map Value.bool).toArray.toList=bs.map Value.bool from rfl,J3 k bs];exact⟨.int (bs.count k),H,I.tok _,⟨_,rfl⟩,q⟩
theorem Ss:qX X "list.index" (Sq X.K):=by
 intro pins s U H x vs v us Q I rx rv h;obtain⟨l,bs,k,rfl,rfl,hH,hk,q⟩:=h;cases rx;obtain⟨u,rfl,ru⟩:=rv.one;obtain rfl:u=Value.bool k:=ru;obtain⟨its,r,pl,hz⟩:=I.list hH;have e:=wZ r;subst e;obtain⟨⟨cls,dd,data,sl⟩,ho,hc,n,hd⟩:=pl.isList;simp only at hc hd;subst hc hd;have hj:bs.idxOf k<bs.length:=List.idxOf_lt_length_iff.mpr hk;have J4:bs.length<=sizeLine:=by rw[length_map]at hz;exact hz
 have hs:(sizeLine:Int)<2^63-1:=by decide
 refine call_meets PySem.F.slot_list_index ⟨_,ho,rfl⟩ PySem.F.entry_list_index (PySem.F.args_list_index_2 _ _) (SeqAt.list_indexAt l _ n dd sl (.bool k) (isBoolOf k) (bs.idxOf k) (by simpa using hj) (by lia) ?_ ?_) ⟨ho,λy hy=>J2 k bs y hy,?_⟩
 .have e:(bs.map Value.bool).toArray[bs.idxOf k]'(by simpa using hj)=Value.bool (bs[bs.idxOf k]):=by simp
  rw[e];show(bs[bs.idxOf k]==k)=true;simpa using List.getElem_idxOf hj
 .intro j J6 aQ;have hjl:j<bs.length:=by simpa using J6
  have e:(bs.map Value.bool).toArray[j]'J6=Value.bool (bs[j]):=by simp
  rw[e];show(bs[j]==k)=false;exact Bool.eq_false_iff.mpr λz=>by simpa[z]using List.not_of_lt_findIdx (p:=(·==k)) (xs:=bs) (i:=j) aQ
 .exact⟨.int (bs.idxOf k),H,I.tok _,⟨_,rfl⟩,q⟩
end
end L2
namespace L2
open PySem
noncomputable def kinds (K:PySem.W.Frag)(C:Value)(Ds:List Value):List (Option Bool):=Ds.map (PySem.W.kitOne K C)
end L2
namespace L2
open PySem PySem.Spec PyProof.Rows
noncomputable def isStar:Expr->Bool
 | .Starred _ _=>true
 |_=>false
theorem Su {e:Expr}{es:List Expr}{env:Env}(h:isStar e=false):starEach (e::es) env=(false,eval e env)::starEach es env:=by cases e<;>first|rfl|cases h
section
variable {X:Cx}{e:Expr}{es:List Expr}{te:TE}{t:TA}
theorem jc (ha:PE X e te)(hr:PA X es t)(h:autoParam (isStar e=false) aP1):PA X (e::es) (xp te t):=P8 ha hr (Su h)
end
noncomputable def pF {α:Type}:List α->List α->List α
 |[u0],[w0,w1]=>[u0,w0,w1]
 |_,_=>[]
theorem Sv {vs:List V}{us:List Value}{zs:List V}{ws:List Value}(r1:Vals vs us)(r2:Vals zs ws):Vals (pF vs zs) (pF us ws):=by rcases r1 with _|⟨a,_|⟨_,_⟩⟩<;>rcases r2 with _|⟨b,_|⟨c,_|⟨_,_⟩⟩⟩;all_goals first|exact .nil|exact .cons a (.cons b (.cons c .nil))
section
variable {X:Cx}{pins:List (Addr×Obj)}{U:St}{H:Hp}{s:Shared}{a:Addr}{o:Obj}{u:HO}
theorem Inv.freeze (I:Inv X pins U H s)(hm:hJ (some u))(ha:H a=some u)(ho:s.heap.get? a=some o):Inv X pins U (upd H a (.aY o u)) s:=by
 have new:wc X.prog X.w (upd H a (.aY o u)) s.heap a (.aY o u):=by
  refine⟨ho,(I.ah a u ha).bZ (λ_ _ _ q=>q) (λc q=>?_) λc xs q=>?_⟩
  .have hc:c≠a:=λz=>by
    subst z;rw[ha]at q;cases q;exact hm
   rw[jg hc];exact q
  .have hc:c≠a:=λz=>by
    subst z;rw[ha]at q;cases q;exact hm
   rw[jg hc];exact q
 exact I.write (t':=s.toks) (x:=a) (e:=a) (o:=.aY o u) (h':=s.heap) (by rw[ha];exact hm) (.inl rfl) (λb v _ q=>q) ⟨o,ho⟩ new
theorem Inv.CG (I:Inv X pins U H s)(ha:H a=some (.aY o u))(h0:∀o' u',X.bD a≠some (.aY o' u'))(hm:hJ (some u)):Inv X pins U (upd H a u) s:=by
 have ne:∀{b:Addr}{v:HO},H b=some v->(∀o' u',v≠.aY o' u')->b≠a:=λ{b v} e h z=>by subst z;rw[ha]at e;exact h _ _ (Option.some.inj e).symm
 have xH:∀{b:Addr},H b=none->b≠a:=λ{b} e z=>by subst z;rw[ha]at e;cases e
 refine⟨I.ok,I.os,I.bare,⟨I.base.keep,I.base.slot,λb ob e n hx=>?_,I.base.there,λb xs q=>?_,λb ob v q=>?_,λb ps q=>?_⟩,I.loc,I.cell,?_,λx c e=>?_,λp hp=>?_,λb v e=>?_,I.len⟩
 .have q:=I.base.free b ob e n hx;rw[jg (xH q)];exact q
 .have q':=I.base.dJ b xs q;rw[jg (ne q' λ_ _ z=>nomatch z)];exact q'
 .have hb:b≠a:=λz=>by
   subst z;exact h0 _ _ q
  rw[jg hb];exact I.base.dB b ob v q
 .obtain⟨more,z⟩:=I.base.dW b ps q;exact⟨more,by rw[jg (ne z λ_ _ z=>nomatch z)];exact z⟩
 .rw[jg (xH I.free)];exact I.free
 .rw[jg (xH (I.dC x c e))];exact I.dC x c e
 .obtain⟨q1,q2,q3⟩:=I.pin p hp;exact⟨q1,by rw[jg (xH q2)];exact q2,q3⟩
 .have own:∀(c y:Addr),H c=some (.own y)->upd H a u c=some (.own y):=λc y q=>by
   rw[jg (ne q λ_ _ z=>nomatch z)];exact q
  have tup:∀(c:Addr)(xs:List V),H c=some (.tup xs)->upd H a u c=some (.tup xs):=λc xs q=>by rw[jg (ne q λ_ _ z=>nomatch z)];exact q
  by_cases hb:b=a
  .subst hb;rw[ja]at e;cases e;obtain⟨_,q⟩:=I.ah _ _ ha;exact q.bZ (λ_ _ _ q=>q) (λc q=>own c _ q) tup
  .rw[jg hb]at e;exact(I.ah b v e).bZ (λ_ _ _ q=>q) (λc q=>own c _ q) tup
noncomputable def Sy (H0:Hp)(t:TS):TS:=λD U H=>
 let un:(Hp->Prop)->Hp->Prop:=λQ H'=>∃a o u,H' a=some (.aY o u)/\(∀o' u',H0 a≠some (.aY o' u'))/\hJ (some u)/\Q (upd H' a u)
 t {nx:=λU' H'=>un (D.nx U') H',rt:=λv H'=>un (D.rt v) H',bk:=D.bk,ct:=D.ct} U H
theorem SA {st:Stmt}{t:TS}(h:PS X st t):PS X st (Sy X.bD t):=by
 intro pins s U H D I q;refine ai (h pins s U H _ I q) λf s1 q1=>?_;cases f with
 |next=>obtain⟨U1,H1,I1,a,o,u,ha,h0,hm,q⟩:=q1;exact⟨U1,_,I1.CG ha h0 hm,q⟩
 |ret v=>obtain⟨x,U1,H1,I1,r,a,o,u,ha,h0,hm,q⟩:=q1;exact⟨x,U1,_,I1.CG ha h0 hm,r,q⟩
 |brk=>exact q1
 |cont=>exact q1
noncomputable def SD (H0:Hp)(t:TE):TE:=λU H Q=>t U H λv H'=>∃a o u,H' a=some (.aY o u)/\(∀o' u',H0 a≠some (.aY o' u'))/\hJ (some u)/\Q v (upd H' a u)
theorem SE {e:Expr}{t:TE}(h:PE X e t):PE X e (SD X.bD t):=by intro pins s U H Q I q;refine ai (h pins s U H _ I q) λv s1 zQ=>?_;obtain⟨x,H1,I1,r,a,o,u,ha,h0,hm,q⟩:=zQ;exact⟨x,_,I1.CG ha h0 hm,r,q⟩
end
theorem SG {k:Key}{v:Value}(h:mM k v=true):RelV (kV k) v:=by
 rcases xm h with⟨i,t,rfl,rfl⟩|⟨x,t,rfl,rfl⟩
 .exact⟨t,rfl⟩
 .exact⟨t,rfl⟩
noncomputable def se (a:Addr)(o:Obj)(aa:List (Key×V)):It where
 go:=λi H=>i<aa.length/\H a=some (.aY o (.dK aa))
 fD:=λi H x H'=>H'=H/\∃kv,aa[i]?=some kv/\x=kV kv.1
 stop:=λi H=>aa.length<=i/\H a=some (.aY o (.dK aa))
theorem J7 {aa:List (Key×V)}{vs:List (Key×Value)}:∀{i:Nat}{kv:Key×V},KV aa vs->aa[i]?=some kv->∃v,vs[i]?=some (kv.1,v)/\RelV kv.2 v:=by
 intro i kv r;unfold KV at r;induction r generalizing i with
 |nil=>intro e;simp at e
 |@cons p q ps qs h t ih=>
  intro e;cases i with
  |zero=>have e':=Option.some.inj e;subst e';exact⟨q.2,by rw[h.1];rfl,h.2⟩
  |succ i=>exact ih e
theorem SH {P:Program}{w:World}{K:PySem.W.Frag}{tg:Expr}(a it:Addr)(o:Obj)(aa:List (Key×V))(es:Array DictEntry)(ep:Nat)(hd:o.data= .dict es ep):Turn P w K tg (se a o aa) [it] it (λi h=>h.IsKeyIter it a i aa.length ep) where
 mem:=by simp
 obj:=λi h st b hb=>by
  have e:b=it:=by simpa using hb
  subst e;obtain⟨o,e,c,d⟩:=st;exact⟨o,e,λv z=>by rw[d]at z;cases z⟩
 keep:=λi h h' st k=>st.at λo e=>k it (by simp) o e
 item:=by
  intro X hP hw hK hc i pins s U H E I hf st hg;subst hP hw hK;obtain⟨hi,hq⟩:=hg;obtain⟨ho,hz,hs,vs,r,o',eN,eW,bL,fZ,cV,r1,r2,r3⟩:=I.ah a _ hq;have eo:o'=o:=Option.some.inj (bL.symm.trans ho);subst eo;have ee:eW=ep:=by rw[hd]at cV;cases cV;rfl
  subst ee;have hlen:aa.length=vs.length:=Paired.length r;have hm:s.heap.DictAt (zf X.prog X.w) a vs eW:=⟨o',eN,ho,fZ,cV,r1,r2,r3⟩;obtain⟨kv,kR⟩:∃kv,aa[i]?=some kv:=⟨aa[i],by simp[hi]⟩;obtain⟨v,ev,rv⟩:=J7 r kR;obtain⟨f0,f1,f2,f3,f4,f5⟩:=hf it (by simp);rw[hlen]at st;refine wpAny_pyNext_dict_item st hm ev λkey h' hk cj sb=>?_;have I1:Inv X pins U H {s with heap:=h'}:=I.turned (t':=s.toks) (λb o hb e=>(sb.2 b hb).trans e) f0 f1 f3 f4 f5;rw[<-hlen]at cj;obtain⟨oi,ei,ci,di⟩:=id cj;exact⟨key,rfl,qK (s:={s with heap:=h'}) ei ci di (by decide) ⟨kV kv.1,H,I1,SG hk,⟨rfl,kv,kR,rfl⟩,cj,λb hb=>(hf b hb).1⟩⟩
 done:=by
  intro X hP hw hK hc i pins s U H E I hf st hg;subst hP hw hK;obtain⟨hi,hq⟩:=hg;obtain⟨ho,hz,hs,vs,r,o',eN,eW,bL,fZ,cV,r1,r2,r3⟩:=I.ah a _ hq;have eo:o'=o:=Option.some.inj (bL.symm.trans ho);subst eo;have ee:eW=ep:=by rw[hd]at cV;cases cV;rfl
  subst ee;have hlen:aa.length=vs.length:=Paired.length r;have hm:s.heap.DictAt (zf X.prog X.w) a vs eW:=⟨o',eN,ho,fZ,cV,r1,r2,r3⟩;obtain⟨f0,f1,f2,f3,f4,f5⟩:=hf it (by simp);rw[hlen]at st;exact wpAny_pyNext_dict_end (I.ok.hd hc) st hm (List.getElem?_eq_none_iff.mpr (by lia)) λh' eb=>⟨rfl,I.turned (t':=s.toks) (λb o hb e=>eb b o hb e) f0 f1 f3 f4 f5⟩
 self:=λ_ _ _ _ _ st h=>wpAny_pyIter_keyiter st h
noncomputable def SI (tl:TE):TI:=λU H R=>tl U H λx H1=>∃a aa,x= .ref a/\H1 a=some (.dK aa)/\∀o,R (se a o aa) (upd H1 a (.aY o (.dK aa)))
theorem SJ {X:Cx}{tg l:Expr}{tl:TE}(hl:PE X l tl):PI X tg l (SI tl):=by
 intro pins s U H R I h;refine ai (hl pins s U H _ I h) λv s1 zQ=>?_;obtain⟨x,H1,I1,r1,q1⟩:=zQ;obtain⟨a,aa,e,hq,q⟩:=q1;subst e;cases r1;obtain⟨hz,hs,vs,r,o,es,ep,ho,hx,hd,r1,r2,r3⟩:=I1.ah a _ hq;have hlen:aa.length=vs.length:=Paired.length r;have hm:s1.heap.DictAt (zf X.prog X.w) a vs ep:=⟨o,es,ho,hx,hd,r1,r2,r3⟩;refine wpAny_pyIter_dict hs hm ?_;have I2:=I1.freeze (show hJ (some (HO.dK aa))from True.intro) hq ho;have hn:upd H1 a (.aY o (.dK aa)) s1.heap.objs.size=none:=I2.ah.fresh (le_refl _);refine⟨s1.heap.objs.size,[s1.heap.objs.size],_,_,_,rfl,I2.kept (t':=s1.toks) λb o e=>Heap.get?_push_of_some _ e,SH a _ o aa es ep hd,?_,λb hb=>?_,q o⟩
 .rw[hlen];exact⟨_,Heap.get?_push_size _ rfl,rfl,rfl⟩
 .have e:b=s1.heap.objs.size:=by simpa using hb
  subst e;exact I2.qI (le_refl _) hn
noncomputable def jJ (v d:Addr):HO:=.ext λh=>h.IsValuesView v d
noncomputable def sf (a:Addr)(o:Obj)(aa:List (Key×V)):It where
 go:=λi H=>i<aa.length/\H a=some (.aY o (.dK aa))
 fD:=λi H x H'=>H'=H/\∃kv,aa[i]?=some kv/\x=kv.2
 stop:=λi H=>aa.length<=i/\H a=some (.aY o (.dK aa))
section
variable {X:Cx}
theorem SK:qX X "dict.values" (λx xs H Q=>∃d aa,x= .ref d/\xs=[]/\H d=some (.dK aa)/\∀p,H p=none->Q (.ref p) (upd H p (jJ p d))):=by intro pins s U H x xs v us Q I rx rs h;obtain⟨d,aa,rfl,rfl,hq,q⟩:=h;cases rx;cases rs;obtain⟨hz,hs,vs,r,hd⟩:=I.ah d _ hq;refine call_meetsIn PySem.F.slot_dict_values hd.typeIs PySem.F.entry_dict_values (PySem.F.args_dict_values_1 _) (meets_dict_values (zf X.prog X.w) d hs) ⟨⟨vs,hd⟩,?_⟩;refine⟨.ref s.heap.objs.size,_,I.laid (t':=s.toks) (o:=jJ s.heap.objs.size d) (λb ob q=>Heap.get?_push_of_some _ q) (le_refl _) ?_,rfl,q _ I.fresh⟩;refine⟨⟨_,Heap.get?_push_size _ rfl,rfl,rfl⟩,⟨_,Heap.get?_push_size _ rfl⟩,λh1 h2 p k=>?_⟩;obtain⟨o,e,c,d⟩:=p;exact⟨o,k o e,c,d⟩
end
theorem SM {P:Program}{w:World}{K:PySem.W.Frag}{tg:Expr}(a it:Addr)(o:Obj)(aa:List (Key×V))(es:Array DictEntry)(ep:Nat)(hd:o.data= .dict es ep):Turn P w K tg (sf a o aa) [it] it (λi h=>h.IsValIter it a i aa.length ep) where
 mem:=by simp
 obj:=λi h st b hb=>by
  have e:b=it:=by simpa using hb
  subst e;obtain⟨o,e,c,d⟩:=st;exact⟨o,e,λv z=>by rw[d]at z;cases z⟩
 keep:=λi h h' st k=>st.at λo e=>k it (by simp) o e
 item:=by
  intro X hP hw hK hc i pins s U H E I hf st hg;subst hP hw hK;obtain⟨hi,hq⟩:=hg;obtain⟨ho,hz,hs,vs,r,o',eN,eW,bL,fZ,cV,r1,r2,r3⟩:=I.ah a _ hq;have eo:o'=o:=Option.some.inj (bL.symm.trans ho);subst eo;have ee:eW=ep:=by rw[hd]at cV;cases cV;rfl
  subst ee;have hlen:aa.length=vs.length:=Paired.length r;have hm:s.heap.DictAt (zf X.prog X.w) a vs eW:=⟨o',eN,ho,fZ,cV,r1,r2,r3⟩;obtain⟨kv,kR⟩:∃kv,aa[i]?=some kv:=⟨aa[i],by simp[hi]⟩;obtain⟨v,ev,rv⟩:=J7 r kR;obtain⟨f0,f1,f2,f3,f4,f5⟩:=hf it (by simp);rw[hlen]at st;refine wpAny_pyNext_values_item st hm ev λh' cj sb=>?_;have I1:Inv X pins U H {s with heap:=h'}:=I.turned (t':=s.toks) (λb o hb e=>(sb.2 b hb).trans e) f0 f1 f3 f4 f5;rw[<-hlen]at cj;obtain⟨oi,ei,ci,di⟩:=id cj;exact⟨v,rfl,qK (s:={s with heap:=h'}) ei ci di (by decide) ⟨kv.2,H,I1,rv,⟨rfl,kv,kR,rfl⟩,cj,λb hb=>(hf b hb).1⟩⟩
 done:=by
  intro X hP hw hK hc i pins s U H E I hf st hg;subst hP hw hK;obtain⟨hi,hq⟩:=hg;obtain⟨ho,hz,hs,vs,r,o',eN,eW,bL,fZ,cV,r1,r2,r3⟩:=I.ah a _ hq;have eo:o'=o:=Option.some.inj (bL.symm.trans ho);subst eo;have ee:eW=ep:=by rw[hd]at cV;cases cV;rfl
  subst ee;have hlen:aa.length=vs.length:=Paired.length r;have hm:s.heap.DictAt (zf X.prog X.w) a vs eW:=⟨o',eN,ho,fZ,cV,r1,r2,r3⟩;obtain⟨f0,f1,f2,f3,f4,f5⟩:=hf it (by simp);rw[hlen]at st;exact wpAny_pyNext_values_end (I.ok.hd hc) st hm (List.getElem?_eq_none_iff.mpr (by lia)) λh' eb=>⟨rfl,I.turned (t':=s.toks) (λb o hb e=>eb b o hb e) f0 f1 f3 f4 f5⟩
 self:=λ_ _ _ _ _ st h=>wpAny_pyIter_valiter st h
noncomputable def SN (tl:TE):TI:=λU H R=>tl U H λx H1=>∃v a aa,x= .ref v/\H1 v=some (jJ v a)/\H1 a=some (.dK aa)/\∀o,R (sf a o aa) (upd H1 a (.aY o (.dK aa)))
theorem SO {X:Cx}{tg l:Expr}{tl:TE}(hl:PE X l tl):PI X tg l (SN tl):=by
 intro pins s U H R I h;refine ai (hl pins s U H _ I h) λv s1 zQ=>?_;obtain⟨x,H1,I1,r1,q1⟩:=zQ;obtain⟨v,a,aa,e,hv,hq,q⟩:=q1;subst e;cases r1;obtain⟨hz,hs,vs,r,o,es,ep,ho,hx,hd,r1,r2,r3⟩:=I1.ah a _ hq;have hlen:aa.length=vs.length:=Paired.length r;have hm:s1.heap.DictAt (zf X.prog X.w) a vs ep:=⟨o,es,ho,hx,hd,r1,r2,r3⟩;obtain⟨SQ,_,_⟩:=(show wc X.prog X.w H1 s1.heap v (jJ v a)from I1.ah v _ hv);refine wpAny_pyIter_values SQ hm ?_;have I2:=I1.freeze (show hJ (some (HO.dK aa))from True.intro) hq ho;have hn:upd H1 a (.aY o (.dK aa)) s1.heap.objs.size=none:=I2.ah.fresh (le_refl _);refine⟨s1.heap.objs.size,[s1.heap.objs.size],_,_,_,rfl,I2.kept (t':=s1.toks) λb o e=>Heap.get?_push_of_some _ e,SM a _ o aa es ep hd,?_,λb hb=>?_,q o⟩
 .rw[hlen];exact⟨_,Heap.get?_push_size _ rfl,rfl,rfl⟩
 .have e:b=s1.heap.objs.size:=by simpa using hb
  subst e;exact I2.qI (le_refl _) hn
end L2
namespace cq
open PySem PyProof.Rows PySem.W
noncomputable def Wp (f:Nat->Nat->Bool)(n:Nat){α:Type}:KasT α->(α->Prop)->Prop
 | .ret a,R=>R a
 | .ask i j k,R=>i<n/\j<n/\i≠j/\Wp f n (k (f i j)) R
theorem Wp.mono {f:Nat->Nat->Bool}{n:Nat}{α:Type}{R R':α->Prop}(h:∀a,R a->R' a):∀{t:KasT α},Wp f n t R->Wp f n t R'
 | .ret a,q=>h a q
 | .ask _ _ _,⟨a,b,c,q⟩=>⟨a,b,c,Wp.mono h q⟩
theorem Wp.bind {f:Nat->Nat->Bool}{n:Nat}{α β:Type}{g:α->KasT β}{R:β->Prop}:∀{t:KasT α},Wp f n t (λa=>Wp f n (g a) R)->Wp f n (t.bind g) R
 | .ret _,q=>q
 | .ask _ _ _,⟨a,b,c,q⟩=>⟨a,b,c,Wp.bind q⟩
structure jK (f:Nat->Nat->Bool)(n:Nat):Prop where
 bM:∀i j,i<n->j<n->i≠j->f i j=false->f j i=true
 SR:∀i j,i<n->j<n->f i j=true->f j i=false
 tr:∀i j k,i<n->j<n->k<n->f i j=true->f j k=true->f i k=true
noncomputable def P (n:Nat)(p:Array Nat):Prop:=p.toList.Perm (List.range n)
section
variable {n:Nat}{p:Array Nat}
theorem P.size (h:P n p):p.size=n:=by have:=h.length_eq;rw[length_range]at this;simpa using this
theorem getD_eq {k:Nat}(h:k<p.size):p.getD k 0=p[k]:=by simp[Array.getD,h]
theorem P.lt (h:P n p){k:Nat}(hk:k<n):p.getD k 0<n:=by have hs:=h.size;rw[getD_eq (by lia)];exact mem_range.mp (h.mem_iff.mp (by simp))
theorem P.inj (h:P n p){a b:Nat}(ha:a<n)(hb:b<n)(e:p.getD a 0=p.getD b 0):a=b:=by have hs:=h.size;rw[getD_eq (by lia),getD_eq (by lia)]at e;have nd:p.toList.Nodup:=h.nodup_iff.mpr nodup_range;exact(List.getElem_inj (h₀:=by simp;lia) (h₁:=by simp;lia) nd).mp (by simpa using e)
noncomputable def Up (f:Nat->Nat->Bool)(p:Array Nat)(m:Nat):Prop:=∀a b,a<b->b<m->f (p.getD a 0) (p.getD b 0)=true
noncomputable def Down (f:Nat->Nat->Bool)(p:Array Nat)(m:Nat):Prop:=∀a b,a<b->b<m->f (p.getD b 0) (p.getD a 0)=true
variable {f:Nat->Nat->Bool}
theorem Up.more (T:jK f n)(hp:P n p){m:Nat}(h1:1<=m)(hm:m<n)(u:Up f p m)(h:f (p.getD (m-1) 0) (p.getD m 0)=true):Up f p (m+1):=by
 intro a b ab bm;by_cases e:b=m
 .subst e;by_cases e2:a=b-1
  .subst e2;exact h
  .exact T.tr _ _ _ (hp.lt (by lia)) (hp.lt (by lia)) (hp.lt hm) (u a (b-1) (by lia) (by lia)) h
 .exact u a b ab (by lia)
theorem Down.more (T:jK f n)(hp:P n p){m:Nat}(h1:1<=m)(hm:m<n)(u:Down f p m)(h:f (p.getD m 0) (p.getD (m-1) 0)=true):Down f p (m+1):=by
 intro a b ab bm;by_cases e:b=m
 .subst e;by_cases e2:a=b-1
  .subst e2;exact h
  .exact T.tr _ _ _ (hp.lt hm) (hp.lt (by lia)) (hp.lt (by lia)) h (u a (b-1) (by lia) (by lia))
 .exact u a b ab (by lia)
theorem asc (T:jK f n)(hp:P n p):∀(c m:Nat),1<=m->m+c<=n->Up f p m->Wp f n (kas_asc p c m) λr=>m<=r/\r<=m+c/\Up f p r/\(r<m+c->f (p.getD r 0) (p.getD (r-1) 0)=true)
 |0,m,_,_,u=>⟨le_refl _,le_refl _,u,λh=>absurd h (by lia)⟩
 |c+1,m,h1,hm,u=>by
  refine⟨hp.lt (by lia),hp.lt (by lia),λe=>?_,?_⟩
  .have:=hp.inj (by lia) (by lia) e;lia
  cases h:f (p.getD m 0) (p.getD (m-1) 0)with
  |true=>exact⟨le_refl _,by lia,u,λ_=>h⟩
  |false=>have u':=u.more T hp h1 (by lia) (T.bM _ _ (hp.lt (by lia)) (hp.lt (by lia)) (λe=>by have:=hp.inj (by lia) (by lia) e;lia) h);show Wp f n (kas_asc p c (m+1)) _;refine(asc T hp c (m+1) (by lia) (by lia) u').mono λr q=>?_;exact⟨by lia,by lia,q.2.2.1,λz=>q.2.2.2 (by lia)⟩
theorem desc (T:jK f n)(hp:P n p):∀(c m:Nat),2<=m->m+c<=n->Down f p m->Wp f n (kas_desc c p m 0) λr=>r.1=p/\r.2.2=0/\m<=r.2.1/\r.2.1<=m+c/\Down f p r.2.1
 |0,m,_,_,u=>⟨rfl,rfl,le_refl _,le_refl _,u⟩
 | c+1,m,h1,hm,u=>by
  refine⟨hp.lt (by lia),hp.lt (by lia),λe=>?_,?_⟩
  .have:=hp.inj (by lia) (by lia) e;lia
  cases h:f (p.getD m 0) (p.getD (m-1) 0)with
  |true=>show Wp f n (kas_desc c p (m+1) 0) _;refine(desc T hp c (m+1) (by lia) (by lia) (u.more T hp (by lia) (by lia) h)).mono λr q=>?_;exact⟨q.1,q.2.1,by lia,by lia,q.2.2.2.2⟩
  |false=>
   have h':=T.bM _ _ (hp.lt (by lia)) (hp.lt (by lia)) (λe=>by have:=hp.inj (by lia) (by lia) e;lia) h;refine⟨hp.lt (by lia),hp.lt (by lia),λe=>?_,?_⟩
   .have:=hp.inj (by lia) (by lia) e;lia
   rw[h'];exact⟨rfl,rfl,le_refl _,Nat.le_add_right _ _,u⟩
theorem sh {q:Array Nat}{a b:Nat}(e:q[a]?=p[b]?):q.getD a 0=p.getD b 0:=by rw[Array.getD_eq_getD_getElem?,Array.getD_eq_getD_getElem?,e]
theorem J8 (hp:P n p){m:Nat}(hm:m<=n)(k:Nat):(kas_rev p 0 m).getD k 0=if k<m then p.getD (m-1-k) 0 else p.getD k 0:=by
 have h:=getElem?_mirror_all (xs:=p) (i:=0) (j:=m) (by rw[hp.size];exact hm) k;by_cases hk:k<m
 .rw[if_pos hk];rw[if_pos ⟨zero_le _,hk⟩]at h;refine sh (h.trans ?_);congr 1;lia
 .rw[if_neg hk];rw[if_neg (by lia)]at h;exact sh h
theorem J9 (hp:P n p)(m:Nat):P n (kas_rev p 0 m):=(Array.perm_iff_toList_perm.mp (mirror_perm p 0 m _)).trans hp
theorem SS (hp:P n p){m:Nat}(hm:m<=n)(d:Down f p m):Up f (kas_rev p 0 m) m:=by intro a b ab bm;rw[J8 hp hm,J8 hp hm,if_pos (by lia),if_pos bm];exact d _ _ (by lia) (by lia)
theorem tail3 (T:jK f n)(hp:P n p){m:Nat}(h1:1<=m)(hm:m<=n)(d:Down f p m):Wp f n (kas_tail3 m n p) λr=>1<=r.1/\r.1<=n/\P n r.2/\Up f r.2 r.1:=by refine Wp.bind ((asc T (J9 hp m) (n-m) m h1 (by lia) (SS hp hm d)).mono λr q=>?_);exact⟨by lia,by lia,J9 hp m,q.2.2.1⟩
theorem count (T:jK f n)(hp:P n p)(h1:1<=n):Wp f n (kas_count n p) λr=>1<=r.1/\r.1<=n/\P n r.2/\Up f r.2 r.1:=by
 refine Wp.bind ((asc T hp (n-1) 1 (le_refl _) (by lia) (λa b ab hb=>absurd hb (by lia))).mono λm q=>?_);obtain⟨q1,q2,q3,q4⟩:=q;by_cases e:m=n
 .rw[if_pos (by simp[e])];exact⟨q1,by lia,hp,q3⟩
 .rw[if_neg (by simp[e])];by_cases e2:m>1
  .rw[if_pos e2];refine⟨hp.lt (by lia),hp.lt (by lia),λz=>?_,?_⟩
   .have:=hp.inj (by lia) (by lia) z;lia
   rw[q3 0 (m-1) (by lia) (by lia)];exact⟨q1,by lia,hp,q3⟩
  .rw[if_neg e2];have e3:m=1:=by lia
   subst e3;have h:=q4 (by lia);have d2:Down f p 2:=λa b ab hb=>by
    have ea:a=0:=by lia
    have eb:b=1:=by lia
    subst ea eb;exact h
   refine Wp.bind ((desc T hp (n-2) 2 (le_refl _) (by lia) d2).mono λr q=>?_);obtain⟨r1,r2,r3,r4,r5⟩:=q;rw[if_neg (by lia),r1];exact tail3 T hp (by lia) (by lia) r5
theorem place (T:jK f n)(hp:P n p){k:Nat}(hk:k<n)(u:Up f p k):∀(c l r:Nat),l<=r->r<=k->r-l<=c->(∀i,i<l->f (p.getD i 0) (p.getD k 0)=true)->(∀i,r<=i->i<k->f (p.getD k 0) (p.getD i 0)=true)->Wp f n (kas_place p k c l r) λq=>q<=k/\(∀i,i<q->f (p.getD i 0) (p.getD k 0)=true)/\(∀i,q<=i->i<k->f (p.getD k 0) (p.getD i 0)=true)
 |0,l,r,h1,h2,h3,h4,h5=>⟨by lia,h4,λi a b=>h5 i (by lia) b⟩
 | c+1,l,r,h1,h2,h3,h4,h5=>by
  show Wp f n (if l>=r then .ret l else _) _;by_cases e:l>=r
  .rw[if_pos e];exact⟨by lia,h4,λi a b=>h5 i (by lia) b⟩
  .rw[if_neg e];refine⟨hp.lt hk,hp.lt (by lia),λz=>?_,?_⟩
   .have:=hp.inj hk (by lia) z;lia
   cases h:f (p.getD k 0) (p.getD ((l+r) / 2) 0)with
   |true=>
    show Wp f n (kas_place p k c l ((l+r) / 2)) _;refine place T hp hk u c l _ (by lia) (by lia) (by lia) h4 λi a b=>?_;by_cases ei:i=(l+r) / 2
    .rw[ei];exact h
    .exact T.tr _ _ _ (hp.lt hk) (hp.lt (by lia)) (hp.lt (by lia)) h (u _ _ (by lia) b)
   |false=>
    have h':=T.bM _ _ (hp.lt hk) (hp.lt (by lia)) (λz=>by have:=hp.inj hk (by lia) z;lia) h;show Wp f n (kas_place p k c ((l+r) / 2+1) r) _;refine place T hp hk u c _ r (by lia) h2 (by lia) (λi a=>?_) h5;by_cases ei:i=(l+r) / 2
    .rw[ei];exact h'
    .exact T.tr _ _ _ (hp.lt (by lia)) (hp.lt (by lia)) (hp.lt hk) (u _ _ (by lia) (by lia)) h'
theorem Ka (hp:P n p){k l:Nat}(hk:k<n)(hl:l<=k)(i:Nat):(bubble p k (k-l)).getD i 0=if i=l then p.getD k 0 else if l<i/\i<=k then p.getD (i-1) 0 else p.getD i 0:=by
 have h:=getElem?_bubble (xs:=p) (src:=k) (by rw[hp.size];exact hk) (k-l) (by lia) i;rw[show k-(k-l)=l by lia]at h;by_cases e:i=l
 .rw[if_pos e]at h⊢;exact sh h
 .rw[if_neg e]at h⊢;by_cases e2:l<i/\i<=k
  .rw[if_pos e2]at h⊢;exact sh h
  .rw[if_neg e2]at h⊢;exact sh h
theorem SU (hp:P n p){k l:Nat}(hk:k<n)(hl:l<=k)(u:Up f p k)(h1:∀i,i<l->f (p.getD i 0) (p.getD k 0)=true)(h2:∀i,l<=i->i<k->f (p.getD k 0) (p.getD i 0)=true):Up f (bubble p k (k-l)) (k+1):=by
 intro a b ab bm;rw[Ka hp hk hl,Ka hp hk hl];by_cases ea:a=l
 .rw[if_pos ea,if_neg (by lia),if_pos ⟨by lia,by lia⟩];exact h2 _ (by lia) (by lia)
 .rw[if_neg ea];by_cases eb:b=l
  .rw[if_neg (by lia),if_pos eb];exact h1 _ (by lia)
  .rw[if_neg eb];by_cases e1:l<a/\a<=k
   .rw[if_pos e1,if_pos ⟨by lia,by lia⟩];exact u _ _ (by lia) (by lia)
   .rw[if_neg e1];by_cases e2:l<b/\b<=k
    .rw[if_pos e2];exact u _ _ (by lia) (by lia)
    .rw[if_neg e2];exact u _ _ ab (by lia)
theorem SV (hp:P n p)(k d:Nat):P n (bubble p k d):=(Array.perm_iff_toList_perm.mp (bubble_perm p k d)).trans hp
end
theorem bin {f:Nat->Nat->Bool}{n:Nat}(T:jK f n):∀(c:Nat)(p:Array Nat)(k:Nat),P n p->k+c<=n->Up f p k->Wp f n (kas_bin c p k) λr=>P n r/\Up f r (k+c)
 |0,p,k,hp,_,u=>⟨hp,u⟩
 |c+1,p,k,hp,hk,u=>by refine Wp.bind ((place T hp (k:=k) (by lia) u k 0 k (zero_le _) (le_refl _) (by lia) (λi h=>absurd h (by lia)) (λi a b=>absurd b (by lia))).mono λl q=>?_);refine(bin T c _ (k+1) (SV hp k _) (by lia) (SU hp (by lia) q.1 u q.2.1 q.2.2)).mono λr q=>?_;rw[show k+1+c=k+(c+1)by lia]at q;exact q
theorem SW (n:Nat):P n (List.toArray (List.range n)):=by unfold P;rw[List.toList_toArray]
theorem sort {f:Nat->Nat->Bool}{n:Nat}(T:jK f n)(h1:1<=n):Wp f n (kas_sort n) λr=>P n r/\Up f r n:=by
 refine Wp.bind ((count T (SW n) h1).mono λr q=>?_);obtain⟨q1,q2,q3,q4⟩:=q;by_cases e:r.1<n
 .rw[if_pos e];refine(bin T _ _ _ q3 (by lia) (by rw[show max r.1 1=r.1 by lia];exact q4)).mono λz q=>?_;rw[show max r.1 1+(n-max r.1 1)=n by lia]at q;exact q
 .rw[if_neg e];exact⟨q3,by rw[show n=r.1 by lia];exact q4⟩
end cq
namespace L2
open PySem PySem.Spec PyProof.Rows PySem.W
section
variable {prog:Program}{w:World}{A:Around}{E:Value->Shared->Prop}{s:Shared}
theorem Kb {Q:Bool->Shared->Prop}:∀{vs us:List Value}{ns ms:List Int}(i:Nat),IntsAre vs ns->IntsAre us ms->Q (HT.lexLt ns ms) s->KatLex prog w A true (decide (ns.length<ms.length)) Q (vs.zip us) i s
 |[],[],[],[],_,_,_,q=>kat_nil (by simpa[HT.lexLt]using q)
 |[],_::_,[],_::_,_,_,_,q=>kat_nil (by simpa[HT.lexLt]using q)
 |_::_,[],_::_,[],_,_,_,q=>kat_nil (by simpa[HT.lexLt]using q)
 | _::vs,_::us,n::ns,m::ms,i,.cons _ t hv,.cons _ t' hu,q=>by
  rw[HT.wH]at q;refine kat_cons (wpAny_eqBool_int (kat_go (λe=>?_) λe=>?_))
  .have e':n=m:=by simpa using e
   rw[if_pos e']at q;refine kat_yes ?_;show KatLex prog w A true _ Q (vs.zip us) (i+1) s;have h:=Kb (i+1) hv hu q;rw[show decide ((n::ns).length<(m::ms).length)=decide (ns.length<ms.length)by simp];exact h
  .have e':¬n=m:=by simpa using e
   rw[if_neg e']at q;refine kat_no ?_;cases i with
   |zero=>exact oneLt_int q
   |succ i=>exact kat_one _ _ (PyProof.Rows.lt_int q)
theorem SX {a:Addr}{vs:List Value}{n:Nat}{R:PySem.Fin->Shared->Prop}{Good:Array Nat->Prop}(ho:s.heap.get? a=some (seqObj "list" vs.toArray n))(mq:vs.length<64)(ask:2<=vs.length->∀s':Shared,(∀b o,b≠a->s.heap.get? b=some o->s'.heap.get? b=some o)->wpAny (model prog w) A (keyKind' vs.toArray) (λ B s1=>s1=s'/\(kas_sort vs.length).kasWp (kas_ask prog w A B vs) (λp s2=>s2=s'/\Good p) s') (λ_ _=>False) s')(one:vs.length<2->R (.done (.ret .none)) {s with heap:=sortedHeap s.heap a vs vs.toArray})(more:∀p:Array Nat,p.size=vs.length->Good p->R (.done (.ret .none)) {s with heap:=sortedHeap s.heap a vs (List.toArray (p.toList.map λi=>vs.getD i Value.none))}):
  wpAny (model prog w) A (Builtin.«list.sort» ⟨[.ref a],[]⟩) R E s:=by
 have big:(64:Nat)<=sizeLine:=by decide
 obtain⟨e1,CH⟩:∃e1,(s.heap.update a (Obj.mapSeq λ_=>#[])).get? a=some (seqObj "list" #[] e1):=⟨_,get?_update_seq ho (λ_=>#[])⟩;have la:a<(s.heap.update a (Obj.mapSeq λ_=>(#[]:Array Value))).objs.size:=Heap.lt_size CH;have xI:=Heap.get?_push_of_some (seqObj "list" #[] 0) (Heap.get?_push_of_some (seqObj "tuple" vs.toArray 0) CH);have old:∀b o,b≠a->s.heap.get? b=some o->(((s.heap.update a (Obj.mapSeq λ_=>#[])).push (seqObj "tuple" vs.toArray 0)).push (seqObj "list" #[] 0)).get? b=some o:=λb o hb e=>Heap.get?_push_of_some _ (Heap.get?_push_of_some _ ((Heap.get?_update_ne _ _ _ _ hb).trans e));rw[list_sort_plain];refine wpAny_bind (listItems_at ho rfl (wpAny_bind (listUpdate_at ho rfl (wpAny_bind (seqEpoch_at CH rfl (wpAny_bind (wpAny_newTuple (wpAny_bind (wpAny_newList (wpAny_holding ?_) (zero_le _))) (by show vs.length<=_;lia))))) (by show vs.toArray.size<=_;simp;lia) (zero_le _))));by_cases h2:vs.length<2
 .have mi:vs.toArray.size<2:=by simpa using h2
  have e:((vs.toArray.zip vs.toArray).map λx:Value×Value=>x.2)=vs.toArray:=by apply Array.toList_inj.mp;simp;exact List.map_snd_zip (le_refl _)
  dsimp only;rw[if_pos mi,if_pos mi];refine wpAny_bind (wpAny_pure ?_);rw[StateT.run_pure];refine wpAny_bind (wpAny_pure (wpAny_bind (seqEpoch_at xI rfl (wpAny_bind (listUpdate_at xI rfl ?_ (zero_le _) ?_)))))
  .simp only[bne_self_eq_false,Bool.false_eq_true,if_false];have q:=one h2;rw[<-e]at q;exact wpAny_pure q
  .show((vs.toArray.zip vs.toArray).map λx:Value×Value=>x.2).size<=_;rw[e];simp;lia
 .have mi:¬vs.toArray.size<2:=by simpa using h2
  dsimp only;rw[if_neg mi,if_neg mi];refine wpAny_bind (wpAny_mono (ask (by lia) _ old) (λ B s1 hk=>?_) λ_ _ z=>z.elim);obtain⟨rfl,hk⟩:=hk;refine wpAny_bind (wpAny_mono (kat_run (ks:=vs) (vs:=vs) (Q:=λcj s2=>∃p:Array Nat,p.size=vs.length/\arrOf cj=p.map (kas_item (vs.toArray.zip vs.toArray))/\failedOf cj=none/\s2=_/\Good p) rfl (by lia) mq (λp cj s2 a1 a2 a3 a4=>⟨p,a1,a2,a3,a4⟩) hk) ?_ λ_ _ z=>z)
  rintro⟨⟨⟩,st⟩ s2 ⟨p,hp,SY,hf,rfl,good⟩
  have e:=kat_snds (ks:=vs) (vs:=vs) rfl SY;dsimp only;rw[e];refine wpAny_bind (seqEpoch_at xI rfl (wpAny_bind (listUpdate_at xI rfl ?_ (zero_le _) ?_)))
  .rw[hf];simp only[bne_self_eq_false,Bool.false_eq_true,if_false];exact wpAny_pure (more p hp good)
  .rw[size_toArray,length_map,Array.length_toList,hp];lia
theorem Ta {l:Addr}{vs:List Value}{Q:Value->Shared->Prop}{Good:Array Nat->Prop}(hl:s.heap.IsList l vs.toArray)(mq:vs.length<64)(ask:2<=vs.length->∀s':Shared,(∀b o,s.heap.get? b=some o->s'.heap.get? b=some o)->wpAny (model prog w) A.in1.in1 (keyKind' vs.toArray) (λ B s1=>s1=s'/\(kas_sort vs.length).kasWp (kas_ask prog w A.in1.in1 B vs) (λp s2=>s2=s'/\Good p) s') (λ_ _=>False) s')(one:vs.length<2->Q (.ref (s.heap.objs.size+1)) {s with heap:=sortedAll s.heap vs vs.toArray})(more:∀p:Array Nat,p.size=vs.length->Good p->Q (.ref (s.heap.objs.size+1)) {s with heap:=sortedAll s.heap vs (List.toArray (p.toList.map λi=>vs.getD i Value.none))}):
  wpAny (model prog w) A (call (.builtin "sorted") [.ref l]) Q E s:=by
 have big:(64:Nat)<=sizeLine:=by decide
 have sz:((s.heap.push (seqObj "list" #[] 0)).update s.heap.objs.size (Obj.mapSeq (·++vs.toArray))).objs.size=s.heap.objs.size+1:=(Heap.size_update ..).trans (size_push' ..);have Kc:(((s.heap.push (seqObj "list" #[] 0)).update s.heap.objs.size (Obj.mapSeq (·++vs.toArray))).push (seqObj "list" vs.toArray 0)).get? (s.heap.objs.size+1)=some (seqObj "list" vs.toArray 0):=sz ▸ Heap.get?_push_size _ rfl;have old:∀b o,s.heap.get? b=some o->(((s.heap.push (seqObj "list" #[] 0)).update s.heap.objs.size (Obj.mapSeq (·++vs.toArray))).push (seqObj "list" vs.toArray 0)).get? b=some o:=λb o e=>Heap.get?_push_of_some _ ((Heap.get?_update_ne _ _ _ _ (ne_of_lt (Heap.lt_size e))).trans (Heap.get?_push_of_some _ e));have body:=SX (prog:=prog) (w:=w) (A:=A.in1.in1) (E:=E) (a:=s.heap.objs.size+1) (Good:=Good) (R:=λf s'=>f= .done (.ret .none)/\Q (.ref (s.heap.objs.size+1)) s') (s:={s with heap:=((s.heap.push (seqObj "list" #[] 0)).update s.heap.objs.size (Obj.mapSeq (·++vs.toArray))).push (seqObj "list" vs.toArray 0)}) Kc mq (λh2 s' k=>ask h2 s' λb o e=>k b o (ne_of_lt (Nat.lt_succ_of_lt (Heap.lt_size e))) (old b o e)) (λh=>⟨rfl,one h⟩) (λp hp g=>⟨rfl,more p hp g⟩);refine Calls.call_function_entry kind_sorted plain_sorted entry_sorted (args_sorted1 _) ?_;show wpAny (model prog w) A.in1 (do checkCount "sorted" 1 1 _;_) _ _ s;refine wpAny_bind (m:=checkCount "sorted" 1 1 _) (wpAny_pure (wpAny_bind (collect_list hl (wpAny_bind (wpAny_newList ?_ (by lia))) (by lia))));show wpAny (model prog w) A.in1 _ _ E {s with heap:=((s.heap.push (seqObj "list" #[] 0)).update s.heap.objs.size (Obj.mapSeq (·++vs.toArray))).push (seqObj "list" vs.toArray 0)};rw[sz];exact wpAny_bind (wpAny_holding (wpAny_call_entry slot_list_sort ⟨_,Kc,rfl⟩ entry_list_sort (wpAny_mono body (λf s' z=>⟨_,z.1,wpAny_pure ⟨_,rfl,z.2⟩⟩) λ_ _ z=>z) (args_list_sort _)))
end
theorem CI:∀{a b:List Int},HT.lexLt a b=true->HT.lexLt b a=false
 |[],[],h=>by cases h
 |[],_::_,_=>rfl
 |_::_,[],h=>by cases h
 |x::a,y::b,h=>by
  rw[HT.wH]at h⊢;by_cases e:x=y
  .rw[if_pos e]at h;rw[if_pos e.symm];exact CI h
  .rw[if_neg e]at h;rw[if_neg (λz=>e z.symm)];have:=of_decide_eq_true h;exact decide_eq_false (by lia)
theorem Kd:∀{a b:List Int},a≠b->HT.lexLt a b=false->HT.lexLt b a=true
 |[],[],h,_=>absurd rfl h
 |[],_::_,_,h=>by cases h
 |_::_,[],_,_=>rfl
 |x::a,y::b,h,h'=>by
  rw[HT.wH]at h'⊢;by_cases e:x=y
  .subst e;rw[if_pos rfl]at h'⊢;exact Kd (λz=>h (by rw[z])) h'
  .rw[if_neg e]at h';rw[if_neg (λz=>e z.symm)];have:=of_decide_eq_false h';exact decide_eq_true (by lia)
theorem Ke:∀{a b c:List Int},HT.lexLt a b=true->HT.lexLt b c=true->HT.lexLt a c=true
 |[],[],_,h,_=>by cases h
 |[],_::_,[],_,h=>by cases h
 |[],_::_,_::_,_,_=>rfl
 |_::_,[],_,h,_=>by cases h
 |_::_,_::_,[],_,h=>by cases h
 | x::a,y::b,z::c,h,h'=>by
  rw[HT.wH]at h h'⊢;by_cases e:x=y
  .subst e;rw[if_pos rfl]at h;by_cases e2:x=z
   .rw[if_pos e2]at h'⊢;exact Ke h h'
   .rw[if_neg e2]at h'⊢;exact h'
  .rw[if_neg e]at h;have h1:=of_decide_eq_true h;by_cases e2:y=z
   .subst e2;rw[if_neg e];exact h
   .rw[if_neg e2]at h';have h2:=of_decide_eq_true h';rw[if_neg (by lia)];exact decide_eq_true (by lia)
theorem wp_ask {f:Nat->Nat->Bool}{n:Nat}{s:Shared}{cmp:Nat->Nat->(Bool->Shared->Prop)->Shared->Prop}{α:Type}{R:α->Prop}(hc:∀i j C,i<n->j<n->C (f i j) s->cmp i j C s):∀{t:KasT α},cq.Wp f n t R->t.kasWp cmp (λp s2=>s2=s/\R p) s
 | .ret _,h=>⟨rfl,h⟩
 | .ask i j _,⟨a,b,_,h⟩=>hc i j _ a b (wp_ask hc h)
theorem range_getD {α:Type}(d:α)(l:List α):(List.range l.length).map (λi=>l.getD i d)=l:=by
 apply List.ext_getElem
 .simp
 .intro i h1 h2;simp[h2]
section
variable {X:Cx}{pins:List (Addr×Obj)}{U:St}{H:Hp}{s:Shared}
theorem xJ {α β:Type}{F:α->β->Prop}{d:α}{e:β}:∀{xs:List α}{ys:List β}{i:Nat},Paired F xs ys->i<xs.length->F (xs.getD i d) (ys.getD i e)
 |_,_,_,.nil,h=>absurd h (Nat.not_lt_zero _)
 |_,_,0,.cons h _,_=>h
 |_,_,i+1,.cons _ r,h=>xJ (i:=i) r (by simpa using h)
theorem CJ {α β:Type}{F:α->β->Prop}{d:α}{e:β}{xs:List α}{ys:List β}(h:Paired F xs ys):∀{l:List Nat},(∀i∈l,i<xs.length)->Paired F (l.map λi=>xs.getD i d) (l.map λi=>ys.getD i e)
 |[],_=>.nil
 |i::l,q=>.cons (xJ h (q i (by simp))) (CJ h λj hj=>q j (by simp[hj]))
noncomputable def jL (K:PySem.W.Frag)(H:Hp)(vs:List V)(ts:List (List Int)):Prop:=Paired (λv t=>∃a,v= .ref a/\ay K H a (t.map V.int)) vs ts
theorem Tb:∀{h:Heap}{its:List Value}{ts:List (List Int)},Paired (λu t=>∃a xs,u=Value.ref a/\IsTup h a xs/\IntsAre xs.toList t) its ts->(∀t∈ts,t≠[])->∃fs,KatTups h its fs/\fs.length=its.length/\∀v∈fs,∃i k,v=Value.int i k:=λ{h its ts} q ne=>by
 induction q with
 |nil=>exact⟨[],KatTups.nil,rfl,λ_ z=>by cases z⟩
 | @cons _ t _ ts a r ih=>
  obtain⟨a,xs,e,⟨o,ho,hc,n,hd⟩,hi⟩:=a;subst e;obtain⟨fs,k,l,q⟩:=ih λz hz=>ne z (by simp[hz]);obtain⟨x,hx⟩:∃x r,xs.toList=x::r:=by
   cases si:xs.toList with
   |nil=>rw[si]at hi;cases hi;exact absurd rfl (ne [] (by simp))
   |cons x r=>exact⟨x,r,rfl⟩
  obtain⟨rr,hx⟩:=hx;have h0:xs[0]?=some x:=by rw[<-Array.getElem?_toList,hx];rfl
  rw[hx]at hi;refine⟨x::fs,KatTups.cons ho hc hd h0 k,by simp[l],λv hv=>?_⟩;rcases mem_cons.mp hv with rfl|hv
  .cases hi with|cons i k _=>exact⟨i,k,rfl⟩
  .exact q v hv
theorem Tc {α β γ:Type}{F:α->β->Prop}{G:α->γ->Prop}{L:β->γ->Prop}(h:∀v u t,F v u->G v t->L u t):∀{vs:List α}{us:List β}{ts:List γ},Paired F vs us->Paired G vs ts->Paired L us ts:=λ{vs us ts} p q=>by
 induction p generalizing ts with
 |nil=>cases q;exact .nil
 |cons a r ih=>
  cases q with
  |cons b s=>exact .cons (h _ _ _ a b) (ih s)
theorem Td {ts:List (List Int)}(nd:ts.Nodup):cq.jK (λi j=>HT.lexLt (ts.getD i []) (ts.getD j [])) ts.length where
 bM:=λi j hi hj ne h=>Kd (λe=>ne (by rw[getD_eq_getElem?_getD,getD_eq_getElem?_getD,getElem?_eq_getElem hi,getElem?_eq_getElem hj]at e;exact(List.getElem_inj nd).mp e)) h
 SR:=λ_ _ _ _ h=>CI h
 tr:=λ_ _ _ _ _ _ h1 h2=>Ke h1 h2
theorem CK:∀{vs:List Value}{ns:List Int},IntsAre vs ns->vs.length=ns.length
 |_,_,.nil=>rfl
 |_,_,.cons _ _ r=>by rw[length_cons,length_cons,CK r]
theorem Te:fT X (.builtin "sorted") (λxs H Q=>∃(p:Addr)(vs:List V)(ts:List (List Int)),xs=[.ref p]/\af X.K H p vs/\jL X.K H vs ts/\vs.length<64/\ts.Nodup/\(∀t∈ts,t≠[])/\∀(q:Addr)(bN:List V)(cH:List (List Int))(ix:List Nat),H q=none->ix.Perm (List.range vs.length)->bN=ix.map (λi=>vs.getD i .aq)->cH=ix.map (λi=>ts.getD i [])->bN.Perm vs->cH.Perm ts->jL X.K H bN cH->cH.Pairwise (λa b=>HT.lexLt a b=true)->Q (.ref q) (upd H q (.lst bN))):=by
 intro pins s U H xs us Q I r h;obtain⟨p,vs,ts,rfl,hq,ht,mq,nd,ne,q⟩:=h;obtain⟨u,rfl,rx⟩:=vals1 r;cases rx;obtain⟨its,r',pl,hz⟩:=I.list hq;have l1:vs.length=its.length:=r'.length;have l2:vs.length=ts.length:=Paired.length ht;have hn:H (s.heap.objs.size+1)=none:=I.ah.fresh (le_succ _);have end_:∀(out:List Value)(bN:List V)(cH:List (List Int))(ix:List Nat),ix.Perm (List.range vs.length)->bN=ix.map (λi=>vs.getD i .aq)->cH=ix.map (λi=>ts.getD i [])->Vals bN out->bN.Perm vs->cH.Perm ts->jL X.K H bN cH->cH.Pairwise (λa b=>HT.lexLt a b=true)->EP X pins U Q (.ref (s.heap.objs.size+1)) {s with heap:=sortedAll s.heap its out.toArray}:=λout bN cH ix b1 b2 b3 a1 a2 a3 a4 a5=>by
  obtain⟨e,he⟩:=sortedAll_at s.heap its out.toArray;refine⟨.ref (s.heap.objs.size+1),_,I.laid (a:=s.heap.objs.size+1) (o:=.lst bN) (t':=s.toks) (λb o z=>sortedAll_old z) (le_succ _) ⟨?_,out,e,a1,he⟩,rfl,q _ bN cH ix hn b1 b2 b3 a2 a3 a4 a5⟩;rw[a2.length_eq];exact hz
 have tt:Paired (λu t=>∃a xs,u=Value.ref a/\IsTup s.heap a xs/\IntsAre xs.toList t) its ts:=Tc (λv u t hv hu=>by obtain⟨a,rfl,ha⟩:=hu;cases hv;obtain⟨ys,ry,hy,_⟩:=I.tuple ha;exact⟨a,ys.toArray,rfl,hy,intsAre_of ry⟩) r' ht;refine Ta pl.isList (by lia) (Good:=λp=>cq.P its.length p/\cq.Up (λi j=>HT.lexLt (ts.getD i []) (ts.getD j [])) p its.length) (λh2 s' k=>?_) (λh=>?_) (λp hp g=>?_)
 .have CL:Paired (λu t=>∃a xs,u=Value.ref a/\IsTup s'.heap a xs/\IntsAre xs.toList t) its ts:=Paired.yf tt λu t ⟨a,xs,e,⟨o,ho,hr⟩,hi⟩=>⟨a,xs,e,⟨o,k a o ho,hr⟩,hi⟩;obtain⟨fs,kt,lf,hf⟩:=Tb CL ne;refine kat_kind (T:=Value.type "int") kt (by lia) (λv hv=>?_) rfl ⟨rfl,?_⟩
  .obtain⟨i,t,rfl⟩:=hf v hv;exact .now
  have hs:=cq.sort (Td nd) (by lia);rw[<-l2,l1]at hs;refine wp_ask (λi j C hi hj c=>?_) hs;obtain⟨a,xs,ea,⟨o,ho,hc,n,hd⟩,ia⟩:=xJ (d:=Value.none) (e:=[]) CL hi;obtain⟨b,ys,eb,⟨o',bL,i3,n',cV⟩,ib⟩:=xJ (d:=Value.none) (e:=[]) CL hj;unfold kas_ask;rw[ea,eb];have q:=Kb (prog:=X.prog) (w:=X.w) (A:=X.A.in1.in1) 0 ia ib c;rw[<-CK ia,<-CK ib]at q;refine kat_lt ho hd bL cV ?_;rw[show(Value.type "int" != Value.type "tuple")=true from rfl];simpa using q
 .refine end_ its vs ts (List.range vs.length) (List.Perm.refl _) (range_getD ..).symm (by rw[l2];exact(range_getD ..).symm) r' (List.Perm.refl _) (List.Perm.refl _) ht ?_
  match ts,l2 with
  |[],_=>exact .nil
  |[_],_=>exact List.pairwise_singleton _ _
  |_::_::_,e=>exact absurd e (by simp;lia)
 .obtain⟨g1,g2⟩:=g;have hm:∀i∈p.toList,i<vs.length:=λi hi=>by
   rw[l1];exact mem_range.mp (g1.mem_iff.mp hi)
  refine end_ _ (p.toList.map λi=>vs.getD i .aq) (p.toList.map λi=>ts.getD i []) p.toList (by rw[l1];exact g1) rfl rfl (CJ r' hm) ?_ ?_ (CJ ht hm) ?_
  .refine(g1.map _).trans ?_;rw[<-l1,range_getD]
  .refine(g1.map _).trans ?_;rw[<-l1,l2,range_getD]
  .rw[List.pairwise_map,List.pairwise_iff_getElem];intro i j hi hj ij;have Tf:j<its.length:=by rw[Array.length_toList,hp]at hj;exact hj
   have:=g2 i j ij Tf;rw[cq.getD_eq (by rw[hp];lia),cq.getD_eq (by rw[hp];lia)]at this;simpa using this
theorem Kf:fT X (.builtin "sorted") (λxs H Q=>∃(p:Addr)(vs:List V)(ts:List (List Int)),xs=[.ref p]/\af X.K H p vs/\jL X.K H vs ts/\vs.length<64/\ts.Nodup/\(∀t∈ts,t≠[])/\∀(q:Addr)(bN:List V)(cH:List (List Int)),H q=none->bN.Perm vs->cH.Perm ts->jL X.K H bN cH->cH.Pairwise (λa b=>HT.lexLt a b=true)->Q (.ref q) (upd H q (.lst bN))):=by
 intro pins s U H xs us Q I r h;obtain⟨p,vs,ts,e,h1,h2,h3,h4,h5,q⟩:=h;exact Te pins s U H xs us Q I r ⟨p,vs,ts,e,h1,h2,h3,h4,h5,λq' bN cH ix a _ _ _ b c d f=>q q' bN cH a b c d f⟩
end
end L2
namespace L2
open PySem PySem.Spec PyProof.Rows
noncomputable def jM (K:PySem.W.Frag)(H:Hp)(x:V)(ns:List Int):Prop:=∃a,x= .ref a/\ay K H a (ns.map V.int)
noncomputable def gA (K:PySem.W.Frag)(H:Hp)(n:List Int)(u:Value):Bool:=@decide (∃a,u= .ref a/\ay K H a (n.map V.int)) (Classical.propDecidable _)
theorem Tg {ns ms:List Int}(h:ns.map V.int=ms.map V.int):ns=ms:=by
 induction ns generalizing ms with
 |nil=>cases ms with
  |nil=>rfl
  |cons _ _=>cases h
 |cons n ns ih=>cases ms with
  |nil=>cases h
  |cons m ms=>rw[map_cons,map_cons]at h;injection h with h1 h2;injection h1 with h1;rw[h1,ih h2]
section
variable {X:Cx}{pins:List (Addr×Obj)}{U:St}{H:Hp}{s:Shared}
theorem CM (I:Inv X pins U H s){x:V}{u:Value}{ns n:List Int}(h:jM X.K H x ns)(r:RelV x u):gA X.K H n u=decide (ns=n):=by
 obtain⟨a,rfl,ha⟩:=h;cases r;unfold gA;by_cases e:ns=n
 .subst e;rw[decide_eq_true rfl];exact@decide_eq_true _ (Classical.propDecidable _) ⟨a,rfl,ha⟩
 .rw[decide_eq_false e];refine@decide_eq_false _ (Classical.propDecidable _) λzQ=>?_;obtain⟨b,z,hb⟩:=zQ;cases z;exact e (Tg (I.Bo ha hb))
theorem CN (I:Inv X pins U H s){A:Around}(hu:A.units+60<cLine){x:V}{v:Value}{n:List Int}(hx:jM X.K H x n)(rx:RelV x v):∀{xs:List V}{us:List Value}{bR:List (List Int)},Vals xs us->Paired (jM X.K H) xs bR->∀u∈us,SeqAt.EqAt A s u v (gA X.K H n u):=λ{xs us bR} p q=>by
 induction p generalizing bR with
 |nil=>exact λu hu=>by cases hu
 | @cons y w xs us r t ih=>
  cases q with
  |@cons _ m _ bR h hs=>
   intro u hm;rcases mem_cons.mp hm with rfl|hm
   .rw[CM I h r];obtain⟨a,rfl,ha⟩:=h;obtain⟨b,rfl,hb⟩:=hx;have q:=rO I 60 (.tup (m.map Dt.int)) (.tup (n.map Dt.int)) (.ref a) (.ref b) u v A (JR _) hu (JQ ha) (JQ hb) r rx;rw[RI]at q;exact q
   .exact ih hs u hm
theorem Kg (I:Inv X pins U H s){n:List Int}:∀{xs:List V}{us:List Value}{bR:List (List Int)},Vals xs us->Paired (jM X.K H) xs bR->us.any (gA X.K H n)=decide (n∈bR):=λ{xs us bR} p q=>by
 induction p generalizing bR with
 |nil=>cases q;simp
 | @cons y w xs us r t ih=>
  cases q with
  |@cons _ m _ bR h hs=>
   rw[any_cons,CM I h r,ih hs];by_cases e:m=n
   .subst e;simp
   .have e':¬n=m:=λz=>e z.symm;simp[e,e']
noncomputable def CO (K:PySem.W.Frag)(neg:Bool):R2:=λx y H Q=>∃p xs n bR,y= .ref p/\af K H p xs/\jM K H x n/\Paired (jM K H) xs bR/\Q (.bl (if neg then !decide (n∈bR)else decide (n∈bR))) H
end
section
variable {X:Cx}
theorem Th (hu:X.A.units+64<cLine):bJ X (compareOp .In) (CO X.K false):=by
 intro pins s U H x y v u Q I rx ry h;obtain⟨p,xs,n,bR,rfl,hq,hx,hs,q⟩:=h;cases ry;obtain⟨its,r,pl,hz⟩:=I.list hq;refine SeqAt.in_listAt (gA X.K H n) pl.isList (λw hw=>CN I ?_ hx rx r hs w (by simpa using hw)) ⟨.bl _,H,I,rfl,?_⟩
 .first|(have e:X.A.in1.units=X.A.units+1:=rfl;lia)|(have e:X.A.in1.units=X.A.units:=rfl;lia)|(have e:=Around.units_in1 X.A;lia)
 .rw[show its.toArray.any (gA X.K H n)=its.any (gA X.K H n)by simp,Kg I r hs];exact q
theorem CP (hu:X.A.units+64<cLine):bJ X (compareOp .NotIn) (CO X.K true):=by
 intro pins s U H x y v u Q I rx ry h;obtain⟨p,xs,n,bR,rfl,hq,hx,hs,q⟩:=h;cases ry;obtain⟨its,r,pl,hz⟩:=I.list hq;refine SeqAt.notIn_listAt (gA X.K H n) pl.isList (λw hw=>CN I ?_ hx rx r hs w (by simpa using hw)) ⟨.bl _,H,I,rfl,?_⟩
 .first|(have e:X.A.in1.units=X.A.units+1:=rfl;lia)|(have e:X.A.in1.units=X.A.units:=rfl;lia)|(have e:=Around.units_in1 X.A;lia)
 .rw[show its.toArray.any (gA X.K H n)=its.any (gA X.K H n)by simp,Kg I r hs];exact q
end
section
variable {X:Cx}{scope:Scope}{N':List Str}{ix:List (Option Nat)}{C:Addr}{fp:List Addr}{ae:Shared}{ag:Hp}{pins:List (Addr×Obj)}{U:St}
theorem Ti (I:Inv X pins U ag ae)(hf:∀b∈fp,eO X pins ag b){ps:List (Addr×Obj)}{U':St}{H':Hp}{s':Shared}(I':Inv (aX X scope N' C fp ae ag) ps U' H' s'):Inv X pins U H' s':=I.Bn (ch:=fp) I'.os I'.base I'.ah I'.bare λb hb=>by obtain⟨_,f1,_,f3,f4,f5⟩:=hf b hb;exact⟨f3,f1,f4,f5⟩
end
section
variable {X:Cx}{pins:List (Addr×Obj)}{U:St}{H:Hp}{s:Shared}{a:Addr}{y v:V}{u r:Value}{A:Around}{E:Value->Shared->Prop}
theorem Tj {H':Hp}{Q:Unit->Shared->Prop}(hu:A.units<cLine)(I:Inv X pins U H s)(g:fe H a y v H')(ry:RelV y u)(rv:RelV v r)(h:∀s',Inv X pins U H' s'->Q () s'):wpAny (model X.prog X.w) A (dictSet a u r) Q E s:=by
 rcases g with⟨aa,k,e,ey,l,eH⟩|⟨aa,k,b,e,ey,eb,l,eH⟩
 .subst ey eH;obtain⟨z,hd,vs,rel,dd⟩:=Jx I.ah e;have hz:vs.length<=sizeLine:=by rw[<-rel.length];exact z
  have hl:(putK aa k v).length<=sizeLine:=by have:=rB aa k v;lia
  refine wpAny_dictSet_pairs (hsz:=hz) (lZ ry) dd λh' ir hs=>h _ ?_;have he:∃q,h'.get? a=some q:=let⟨q,_,_,hq,_⟩:=ir;⟨q,hq⟩;exact rE I (by rw[e];exact True.intro) hs he (Jy hl hd (rel.put k rv) ir)
 .subst ey eH;cases(show u=Value.ref b from ry);obtain⟨z,hd,xs,rel,dd⟩:=Cc I.ah e;have hz:xs.length<=sizeLine:=by rw[<-Paired.length rel];exact z
  have hl:(putK aa k v).length<=sizeLine:=by have:=rB aa k v;lia
  refine wpAny_dictSet_heap (hsz:=hz) (knd:=tupleKind (zf X.prog X.w)) hu (kO I.ah eb) dd λh' ir hs=>h _ ?_;obtain⟨q,es,ep,hq,h2,h3,h4,_,h5⟩:=ir;refine rE I (by rw[e];exact True.intro) hs ⟨q,hq⟩ ⟨hl,hd,_,(rel.put k eb rv).keeps λc ys ec=>?_,q,es,ep,hq,h2,h3,h4,h5⟩;rw[jg (iW ec e (λz=>nomatch z))];exact ec
end
section
variable {prog:Program}{w:World}{A:Around}{R:Result->Shared->Prop}{s:Shared}
theorem Tn {kx vx target iter:Expr}{ifs:List Expr}{scope:Scope}{pos:Pos}{it:Value}{D:Addr}{env:Env}(I:Nat->Shared->Prop)(turn:∀n s,I n s->wpAny (model prog w) A (pyNext it) (λr aj=>match r with
   |none=>R (.ok .next) aj
   |some v=>wpAny (model prog w) A (letOwnedTupleGo target it v) (λ_ aj=>wpAny (model prog w) A (assign target env v) (λ_ ae=>wpAny (model prog w) A (forIn ifs true λc r=>if r=true then do let ok<-isTrue c env (eval c env);pure (ForInStep.yield ok)else pure (ForInStep.yield r)) (λok aU=>if ok=true then wpAny (model prog w) A (eval kx env) (λkv dF=>wpAny (model prog w) A (eval vx env) (λvv iy=>wpAny (model prog w) A (dictSet D kv vv) (λ_ sj=>∃m,m<n/\I m sj) dN iy) dN dF) dN aU
      else ∃m,m<n/\I m aU) dN ae) dN aj) dN aj) dN s)(n:Nat)(h:I n s):codeAny (model prog w) A (.compLoop (.DictComp kx vx [⟨target,iter,ifs,0⟩] scope pos) 0 it (.ref D) env) R s:=by
 refine codeAny_loop rfl I (λn s hI=>?_) n h;have no:∀{α:Type}{t:Sem α}{Q:α->Shared->Prop}{E:Value->Shared->Prop}{s:Shared},wpAny (model prog w) A t Q dN s->wpAny (model prog w) A t Q E s:=λh=>wpAny_mono h (λ_ _ q=>q) λ_ _ z=>z.elim;show wpAny _ A ((compTurn (.DictComp kx vx [⟨target,iter,ifs,0⟩] scope pos) 0 it (.ref D) env).onRaise (λx=>do noteFrame x env;theTreesLotGoes x)) _ _ s;rw[compTurn_dict];refine wpAny_noted (wpAny_bind (wpAny_standAt (wpAny_bind (no (ai (turn n s hI) λr aj h₁=>?_)))));cases r with
 |none=>exact wpAny_pure h₁
 |some v=>
  refine wpAny_bind (no (ai h₁ λ_ aj h₁=>wpAny_bind (no (ai h₁ λ_ ae bV=>wpAny_bind (no (ai bV λok aU fg=>?_))))));cases ok with
  |false=>exact wpAny_pure ⟨rfl,fg⟩
  |true=>refine wpAny_bind (wpAny_bind (no (ai fg λkv dF cF=>wpAny_bind (wpAny_holding (no (ai cF λvv iy bh=>?_))))));exact wpAny_bind (wpAny_standAt (wpAny_holding (no (ai bh λ_ sj cI=>wpAny_pure ⟨rfl,cI⟩))))
end
section
variable {X:Cx}{scope:Scope}{N':List Str}{ix:List (Option Nat)}{C:Addr}{fp:List Addr}{ae:Shared}{ag:Hp}{pins:List (Addr×Obj)}{U:St}
theorem Tp (I:Inv X pins U ag ae)(co:jD X.N X.env.scope scope N' ix){h₁:Heap}{t':Nat}(hC:@Eq Nat C ae.heap.objs.size)(hf:∀b∈fp,eO X pins ag b)(aQ:∀b∈fp,b<ae.heap.objs.size)(old:∀b o,ae.heap.get? b=some o->h₁.get? b=some o){m:Str->Option Value}(oV:h₁.Ns C m):
  Inv (aX X scope N' C fp ae ag) [] (gQ ix U) ag {ae with heap:=h₁,toks:=t'} where
 ok:=JG I co (by lia) hf aQ
 os:=rfl
 bare:=I.bare
 base:=Un.kept old
 loc :=by
  refine⟨m,oV,λi x v e1 e2 e3=>?_⟩;unfold gQ at e2;rw[getElem?_map]at e2;cases q:ix[i]? with
  |none=>rw[q]at e2;cases e2
  | some o=>
   rw[q]at e2;cases o with
   |none=>cases e2
   | some k=>
    have fK:(U[k]?).join=some v:=Option.some.inj e2;have nC:U[k]?=some (some v):=by
     cases z:U[k]? with
     |none=>rw[z]at fK;cases fK
     |some o=>rw[z]at fK;exact congrArg some fK
    obtain⟨o1,o2,o3⟩:=co.out i x k e1 q;have hk:X.env.kindOf x=some .cell\/X.env.kindOf x=some .free:=co.frees _ o2 rfl;obtain⟨m0,_,hl⟩:=I.loc;obtain⟨u,r,l⟩:=hl k x v o1 nC (.inr hk);refine⟨u,r,?_⟩;rcases l with⟨l,_⟩|⟨_,c,ec,dm⟩
    .rcases hk with z|z
     .rw[z]at l;cases l
     .rw[z]at l;cases l
    .refine .inr ⟨?_,c,Cf o2 ec,?_⟩
     .rcases e3 with z|z|z
      .obtain⟨k',hm,q⟩:=wz z;rcases q with q|⟨_,q⟩
       .have:=o3 _ hm rfl;rw[show k'=NameKind.local from q]at this;cases this
       .cases q
      .exact .inl z
      .exact .inr z
     .obtain⟨o,ho,hd⟩:=dm;exact⟨o,old _ _ ho,hd⟩
 cell:=λx c e=>by obtain⟨v,o,ho,hd⟩:=I.cell x c (iw e);exact⟨v,o,old _ _ ho,hd⟩
 free:=I.ah.fresh (by show@LE.le Nat _ ae.heap.objs.size C;lia)
 dC:=λx c e=>I.dC x c (iw e)
 pin:=λp hp=>by
  have kQ:p∈([]:List (Addr×Obj)):=by simpa[aX]using hp
  cases kQ
 ah:=I.ah.kept old
 len:=by unfold gQ;rw[length_map];exact co.len
end
noncomputable def CQ (J:It)(g:TG)(ti:TT)(tk tv:TE)(D:Addr)(QF:Hp->Prop)(W:Nat->Nat->St->Hp->Prop):Prop:=∀i m U H,W i m U H->(J.stop i H/\QF H)\/(J.go i H/\∃N:St->Hp->Prop,(∀U' H',N U' H'->∃m',m'<m/\W (i+1) m' U' H')/\∀x H',J.fD i H x H'->g x U H' λU2 H2=>ti U2 H2 λb H3=>if b=true then tk U2 H3 λy H4=>tv U2 H4 λz H5=>∃H6,fe H5 D y z H6/\N U2 H6 else N U2 H3)
noncomputable def Tq (new:HO)(ix:List (Option Nat))(wi:TI)(g:TG)(ti:TT)(tk tv:TE):TE:=λU H Q=>wi U H λJ H1=>∀D,H1 D=none->∃W:Nat->Nat->St->Hp->Prop,(∃m,W 0 m (gQ ix U) (upd H1 D new))/\CQ J g ti tk tv D (λH=>Q (.ref D) H) W
section
variable {X:Cx}
theorem Tr {scope:Scope}{N':List Str}{ix:List (Option Nat)}{pins:List (Addr×Obj)}{U:St}{tg iter kx vx:Expr}{ifs:List Expr}{pos:Pos}{g:TG}{ti:TT}{tk tv:TE}{E:Value->Shared->Prop}{D:Addr}(co:jD X.N X.env.scope scope N' ix)(hc:X.calm=true)(hu:X.A.units<cLine)(hg:∀C fp ae ag,PG (aX X scope N' C fp ae ag) tg g)(hi:∀C fp ae ag,nE (aX X scope N' C fp ae ag) ifs ti)(hk:∀C fp ae ag,PE (aX X scope N' C fp ae ag) kx tk)(hv:∀C fp ae ag,PE (aX X scope N' C fp ae ag) vx tv){ag:Hp}{ae:Shared}{J:It}{fp:List Addr}{it:Addr}{tn:Nat->Heap->Prop}{QF:Hp->Prop}{W:Nat->Nat->St->Hp->Prop}(I:Inv X pins U ag ae)(T:Turn X.prog X.w X.K tg J fp it tn)(st:tn 0 ae.heap)(hf:∀b∈fp,eO X pins ag b)(w0:∃m,W 0 m (gQ ix U) ag)(hW:CQ J g ti tk tv D QF W){RR:Addr->Result->Shared->Prop}(Cj:∀C H' s',Inv X pins U H' s'->QF H'->rK X pins H' s' C->RR C (.ok .next) s'):
  wpAny (model X.prog X.w) X.A (newFunctionEnv scope X.env.globals (fX scope X.env) [] X.env.qual none .none (some X.env)) (λiz dF=>codeAny (model X.prog X.w) X.A (.compStart (.DictComp kx vx [⟨tg,iter,ifs,0⟩] scope pos) 0 (.ref it) (.ref D) {iz with scope:=relabel scope X.env}) (RR iz.locals) dF) E ae:=by
 have aQ:∀b∈fp,@LT.lt Nat _ b ae.heap.objs.size:=λb hb=>by obtain⟨o,e,_⟩:=T.obj _ _ st b hb;exact Heap.lt_size e
 refine wpAny_newFunctionEnv co.Ci (by intro y hy;simp at hy) (λh₁ bK bu=>?_) co.kind;have below:∀b:Nat,b<ae.heap.objs.size->¬@Eq Nat b ae.heap.objs.size:=λb hb=>by lia
 have old:∀b o,ae.heap.get? b=some o->h₁.get? b=some o:=λb o e=>bu.extBut b o (below b (Heap.lt_size e)) (Heap.get?_push_of_some _ e);have eA:tn 0 h₁:=T.keep _ _ _ st λb _ o e=>old b o e;generalize Ck:ae.heap.objs.size=C at bK bu below⊢;have loop:∀aU:Shared,aU={ae with heap:=h₁,toks:=ae.toks+([]:List (Str×Value)).length}->codeAny (model X.prog X.w) X.A (.compLoop (.DictComp kx vx [⟨tg,iter,ifs,0⟩] scope pos) 0 (.ref it) (.ref D) (compEnvC scope (fX scope X.env) C X.env)) (RR C) aU:=by
  rintro aU rfl
  obtain⟨m0,w0⟩:=w0;have I3:Inv (aX X scope N' C fp ae ag) [] (gQ ix U) ag {ae with heap:=h₁,toks:=ae.toks+([]:List (Str×Value)).length}:=Tp I co Ck.symm hf aQ old bK;refine Tn (λk s'=>∃i U' H',Inv (aX X scope N' C fp ae ag) [] U' H' s'/\tn i s'.heap/\(∀b∈fp,H' b=none)/\W i k U' H') ?_ m0 ⟨0,_,_,I3,eA,λb hb=>(hf b hb).1,w0⟩
  rintro k s' ⟨i,U',H',I',cj,nF,w'⟩
  have fh:∀{H':Hp},(∀b∈fp,H' b=none)->∀b∈fp,eO (aX X scope N' C fp ae ag) [] H' b:=λ{H'} hn b hb=>by
   refine⟨hn b hb,below b (Ck ▸ aQ b hb),λz=>?_,.inl hb,λx c e=>(hf b hb).2.2.2.2.1 x c (iw e),λp hp=>?_⟩
   .rcases mem_cons.mp (I.mS b z)with e|e
    .exact(hf b hb).2.1 e
    .exact(hf b hb).2.2.1 e
   .have kQ:p∈([]:List (Addr×Obj)):=by simpa[aX]using hp
    cases kQ
  rcases hW i k U' H' w' with⟨stop,q⟩|⟨go,N,hN,step⟩
  .refine ai (T.done (aX X scope N' C fp ae ag) rfl rfl rfl hc i _ s' U' H' dN I' (fh nF) cj stop) λr s4 ⟨hr,I4⟩=>?_;subst hr;have cf:H' C=none:=I4.free;refine Cj C H' s4 (Ti I hf I4) q ⟨?_,cf,?_,?_,λx c e=>?_,λp hp=>?_⟩
   .obtain⟨m,hn,_⟩:=I4.loc;exact⟨m,hn⟩
   .have z:@LT.lt Nat _ X.env.locals ae.heap.objs.size:=I.lt;show¬@Eq Nat C X.env.locals;lia
   .have z:@LE.le Nat _ X.au.heap.objs.size ae.heap.objs.size:=I.sz;show@LE.le Nat _ X.au.heap.objs.size C;lia
   .obtain⟨v,z⟩:=I.cell x c e;have z2:@LT.lt Nat _ c ae.heap.objs.size:=z.lt;show¬@Eq Nat c C;lia
   .have z2:@LT.lt Nat _ p.1 ae.heap.objs.size:=Heap.lt_size (I.pin p hp).1;show¬@Eq Nat p.1 C;lia
  .refine ai (T.item (aX X scope N' C fp ae ag) rfl rfl rfl hc i _ s' U' H' dN I' (fh nF) cj go) λr s4 zQ=>?_;obtain⟨u,hr,h4⟩:=zQ;subst hr;refine ai h4 λ_ s5 zQ=>?_;obtain⟨x,H5,I5,r5,y5,fS,qO⟩:=zQ;have qP:=I5.pinned (fh qO) (T.obj _ _ fS);refine ai (hg C fp ae ag _ s5 U' H5 x u _ qP r5 (step x H5 y5)) λ_ s6 zQ=>?_;obtain⟨U6,H6,I6,q6⟩:=zQ;refine ai (hi C fp ae ag _ s6 U6 H6 _ I6 q6) λok s7 zQ=>?_;obtain⟨H7,I7,q7⟩:=zQ;have back:∀{U8:St}{H8:Hp}{s8:Shared},Inv (aX X scope N' C fp ae ag) ([]++kH fp s5.heap) U8 H8 s8->N U8 H8->∃m',m'<k/\∃i U' H',Inv (aX X scope N' C fp ae ag) [] U' H' s8/\tn i s8.heap/\(∀b∈fp,H' b=none)/\W i m' U' H':=λ{U8 H8 s8} I8 n8=>by
    obtain⟨m',hm,w8⟩:=hN _ _ n8;have fj:∀b∈fp,∀o,s5.heap.get? b=some o->s8.heap.get? b=some o/\H8 b=none:=λb hb o e=>by have z:=I8.pin (b,o) (mem_append_right _ (mem_append_right _ (vY hb e)));exact⟨z.1,z.2.1⟩
    refine⟨m',hm,i+1,U8,H8,I8.qN,T.keep _ _ _ fS λb hb o e=>(fj b hb o e).1,λb hb=>?_,w8⟩;obtain⟨o,e,_⟩:=T.obj _ _ fS b hb;exact(fj b hb o e).2
   cases ok with
   |false=>have fk:=q7;rw[if_neg Bool.false_ne_true]at fk;exact back I7 fk
   |true=>have fk:=q7;rw[if_pos rfl]at fk;show wpAny _ _ _ _ _ _;refine ai (hk C fp ae ag _ s7 U6 H7 _ I7 fk) λkv s8 zQ=>?_;obtain⟨y,H8,I8,r8,q8⟩:=zQ;refine ai (hv C fp ae ag _ s8 U6 H8 _ I8 q8) λvv s9 zQ=>?_;obtain⟨z,H9,I9,r9,Ts,dp,q9⟩:=zQ;exact Tj (X:=aX X scope N' C fp ae ag) (A:=X.A) hu I9 dp r8 r9 λdO fM=>back fM q9
 exact codeAny_compStart_dict (loop _ rfl) (T.self _ 0 _ _ _ eA (loop _ rfl))
variable {scope:Scope}{N':List Str}{ix:List (Option Nat)}{tg iter kx vx:Expr}{ifs:List Expr}{pos:Pos}{wi:TI}{g:TG}{ti:TT}{tk tv:TE}
theorem Tt (new:HO)(nA:new= .dK []\/new= .dT [])(hu:X.A.units+1<cLine)(co:jD X.N X.env.scope scope N' ix)(hc:X.calm=true)(hit:PI X tg iter wi)(hg:∀C fp ae ag,PG (aX X scope N' C fp ae ag) tg g)(hi:∀C fp ae ag,nE (aX X scope N' C fp ae ag) ifs ti)(hk:∀C fp ae ag,PE (aX X scope N' C fp ae ag) kx tk)(hv:∀C fp ae ag,PE (aX X scope N' C fp ae ag) vx tv)(hs:autoParam (∀x,foldedSetIterable iter X.env x=pure x) aP3):
  PE X (.DictComp kx vx [⟨tg,iter,ifs,0⟩] scope pos) (Tq new ix wi g ti tk tv):=by
 intro pins s U H Q I h;show wpAny _ _ (comprehension (.DictComp kx vx [⟨tg,iter,ifs,0⟩] scope pos) scope X.env _ newDict false (eval iter X.env)) _ _ s;refine wpAny_comprehension_free (use:=none) rfl hs (Cn co I) co.kind co.names (ai (hit pins s U H _ I h) λxv aj h₁=>ai h₁ λqJ ae bV=>?_);obtain⟨it,fp,tn,J,ag,e,eB,T,st,hf,hq⟩:=bV;subst e;refine wpAny_newObj_type ?_;have hn:ag ae.heap.objs.size=none:=eB.ah.fresh (le_refl _);have Tu:wc X.prog X.w (upd ag ae.heap.objs.size new) (ae.heap.push {cls:=.type "dict",dict:=none,data:=.dict #[]}) ae.heap.objs.size new:=by
  rcases nA with z|z
  .rw[z];exact JA ae.heap eB.big
  .rw[z];exact JB ae.heap eB.big
 have CS:Inv X pins U (upd ag ae.heap.objs.size new) {ae with heap:=ae.heap.push {cls:=.type "dict",dict:=none,data:=.dict #[]}}:=eB.laid (a:=ae.heap.objs.size) (o:=new) (t':=ae.toks) (λ_ _ q=>Heap.get?_push_of_some _ q) (le_refl _) Tu;obtain⟨W,w0,hW⟩:=hq ae.heap.objs.size hn;have nP:∀b∈fp,eO X pins (upd ag ae.heap.objs.size new) b:=λb hb=>by obtain⟨f0,f⟩:=hf b hb;obtain⟨o,e,_⟩:=T.obj _ _ st b hb;exact⟨by rw[jg (ne_of_lt (Heap.lt_size e))];exact f0,f⟩
 refine Tr co hc (Nat.lt_of_succ_lt hu) hg hi hk hv CS T (T.keep _ _ _ st λb _ o e=>Heap.get?_push_of_some _ e) nP w0 hW (RR:=λC=>compPost (model X.prog X.w) X.A X.xe none (EP X pins U Q) (.ref ae.heap.objs.size) C) λC H' s' I' q G=>?_;obtain⟨m,hn⟩:=G.ns;exact⟨m,hn,λh' nH=>⟨.ref ae.heap.objs.size,_,G.go I' nH,rfl,q⟩⟩
end
theorem Kh (bt:Nat->Nat->Bool):∀k,argBest bt k<=k
 |0=>le_refl _
 |k+1=>by have:=Kh bt k;unfold argBest;split<;>lia
theorem Ki:∀{vs:List Value}{ns:List Int},IntsAre vs ns->Vals (ns.map V.int) vs
 |_,_,.nil=>.nil
 |_,_,.cons n t r=>.cons ⟨t,rfl⟩ (Ki r)
section
variable {X:Cx}
theorem Kj:fT X (.builtin "sorted") (λxs H Q=>∃(p:Addr)(ns:List Int),xs=[.ref p]/\af X.K H p (ns.map V.int)/\ns.length<64/\∀(q:Addr)(pG:List Int),H q=none->pG.Perm ns->pG.Pairwise (·<=·)->Q (.ref q) (upd H q (.lst (pG.map V.int)))):=by
 intro pins s U H xs us Q I r h;obtain⟨p,ns,rfl,hq,mq,q⟩:=h;obtain⟨u,rfl,rx⟩:=vals1 r;cases rx;obtain⟨its,r',pl,hz⟩:=I.list hq;have hlen:ns.length=its.length:=by have:=r'.length;rw[length_map]at this;exact this
 refine sorted_ints pl.isList (intsAre_of r') (by lia) λout pG a1 a2 a3=>?_;obtain⟨e,he⟩:=sortedAll_at s.heap its out;have hn:H (s.heap.objs.size+1)=none:=I.ah.fresh (le_succ _);refine⟨.ref (s.heap.objs.size+1),_,I.laid (a:=s.heap.objs.size+1) (o:=.lst (pG.map V.int)) (t':=s.toks) (λb o z=>sortedAll_old z) (le_succ _) ⟨?_,out.toList,e,Ki a1,he⟩,rfl,q _ pG hn a2 a3⟩;rw[length_map,a2.length_eq];exact le_trans (le_of_lt mq) (by rw[sizeLine_eq];lia)
end
section
variable {X:Cx}{K:PySem.W.Frag}
theorem xK (hK:X.K=K):qW X (oT K):=by subst hK;exact jo
theorem so (hK:X.K=K):qW X (wJ K):=by subst hK;exact fb
end
end L2
namespace PySem
section
variable {prog:Program}{w:World}{K:Type}[DecidableEq K]{knd:HeapKind prog w K}{A:Around}{E:Value->Shared->Prop}{s:Shared}
theorem Tv {h:Heap}{d a:Addr}{xs:List (K×Addr×Value)}{k:K}{v:Value}{o:Obj}{es:Array DictEntry}{ep:Nat}(ho:h.get? d=some o)(hc:o.ExactDict)(hd:o.data= .dict es ep)(he:es.toList=xs.map (entryOfKey knd))(xM:∀x∈xs,knd.is h x.1 x.2.1)(hn:(xs.map (·.1)).Nodup)(dD:knd.is h k a)(CT:k∉xs.map (·.1)):(h.update d (Obj.mapDictKeys (·.push ⟨knd.hash k,.ref a,v⟩))).DictOfH knd d (xs++[(k,a,v)]):=by
 refine⟨_,_,ep+1,Heap.get?_update_self _ ho (Obj.isFreed_of_dict (Obj.data_mapDictKeys hd _)),hc.mapDictKeys _,Obj.data_mapDictKeys hd _,by simp[he,entryOfKey],λx hx=>?_,?_⟩
 .have old:knd.is h x.1 x.2.1:=(mem_append.mp hx).elim (xM x) λz=>by
   rw[mem_singleton.mp z];exact dD
  exact knd.keeps old ho hd (Heap.SameBut.update ..)
 .have p:((xs++[(k,a,v)]).map (·.1)).Perm (k::xs.map (·.1)):=by
   rw[map_append];exact List.perm_append_comm
  exact p.nodup_iff.mpr (nodup_cons.mpr ⟨CT,hn⟩)
theorem Tx {d a:Addr}{xs:List (K×Addr×Value)}{k:K}{dflt:Value}{Q:Value->Shared->Prop}(hu:knd.room A)(dD:knd.is s.heap k a)(hm:s.heap.DictOfH knd d xs)(hsz:xs.length<=sizeLine)(h1:∀p,atKey xs k=some p->Q p.2 {s with toks:=s.toks+knd.draws k})(h2:atKey xs k=none->∀h',h'.DictOfH knd d (xs++[(k,a,dflt)])->Heap.SameBut d s.heap h'->Q dflt {s with heap:=h',toks:=s.toks+knd.draws k}):
  wpAny (model prog w) A (dictSetDefault d (.ref a) dflt) Q E s:=by
 obtain⟨o,es,ep,ho,hc,hd,he,xM,hn⟩:=hm;have sz:es.size=xs.length:=by have:=congrArg List.length he;simpa using this
 unfold dictSetDefault;refine wpAny_holding (wpAny_bind (knd.pyHash hu dD (wpAny_bind (wpAny_dictFind_heap (s:={s with toks:=s.toks+knd.draws k}) hu dD ho hd he xM hn (λkK=>?_) (λj p hj=>?_)))))
 .refine wpAny_bind (wpAny_rule (wpAny_bind (wpAny_updateDictKeys (hz:=by lia) (s:={s with toks:=s.toks+knd.draws k}) ho hd (wpAny_pure (h2 (atKey_none_of_get kK) _ (Tv ho hc hd he xM hn dD (not_mem_keys_of_get kK)) (Heap.SameBut.update ..))))))
 .refine wpAny_bind (wpAny_dictEntries (s:={s with toks:=s.toks+knd.draws k}) ho hd ?_);rw[entry_at he j,hj];exact wpAny_bind (wpAny_rule (wpAny_pure (h1 _ (atKey_of_get hn hj))))
theorem Tz (knd:HeapKind prog w K)(d a:Addr)(hd:(d==sysModules)=false)(dflt:Value):MeetsIn prog w (Builtin.«dict.setdefault» ⟨[.ref d,.ref a,dflt],[]⟩) (λA R s=>knd.room A.in1/\∃k xs,knd.is s.heap k a/\s.heap.DictOfH knd d xs/\xs.length<=sizeLine/\(∀p,atKey xs k=some p->R (.ok (.ret p.2)) {s with toks:=s.toks+knd.draws k})/\(atKey xs k=none->∀h',h'.DictOfH knd d (xs++[(k,a,dflt)])->Heap.SameBut d s.heap h'->R (.ok (.ret dflt)) {s with heap:=h',toks:=s.toks+knd.draws k})):=
 .of_wp λA R s ⟨hu,k,xs,dD,hm,hz,h1,h2⟩=>by have run:=Tx (prog:=prog) (w:=w) (E:=λe s'=>R (.error e) s') (Q:=λv s'=>R (.ok (.ret v)) s') hu dD hm hz h1 h2;unfold Builtin.«dict.setdefault» Builtin.Dict.keyAndDefault;refine wpAny_bind (wpAny_bind (wpAny_notOrdered_dict hm.typeIs ?_));show wpAny _ _ (pure (d,Value.ref a,some dflt)) _ _ s;refine wpAny_pure ?_;show wpAny _ _ (if(d==sysModules)=true then _ else(dictSetDefault d (.ref a) dflt >>= _)) _ _ s;rw[if_neg (by rw[hd];exact Bool.false_ne_true)];exact wpAny_bind (wpAny_mono run (λv s' q=>wpAny_pure ⟨v,rfl,q⟩) λ_ _ z=>z)
end
end PySem
namespace L2
open PySem PySem.Spec PyProof.Rows
noncomputable def TB (td ty tx:TE):TE:=λU H Q=>td U H λx H1=>∃a,x= .ref a/\wU H1 a/\ty U H1 λy H2=>tx U H2 λz H3=>∃aa k b,H3 a=some (.dT aa)/\y= .ref b/\H3 b=some (.tup (k.map kV))/\aa.length<sizeLine/\(∀v,aO aa k=some v->Q v H3)/\(aO aa k=none->Q z (upd H3 a (.dT (putK aa k z))))
section
variable {X:Cx}{o e f:Expr}{apos av:Pos}{td ty tx:TE}
theorem TC (hu:X.A.units+1<cLine)(ho:PE X o td)(he:PE X e ty)(hf:PE X f tx)(m:M2 X o "setdefault" apos e f av):PE X (.Call (.Attribute o "setdefault" apos) [e,f] [] av) (TB td ty tx):=by
 intro pins s U H Q I h;refine wpAny_Call_method m.base m.few m.line PySem.F.plainAttrs_dict PySem.F.slot_dict_setdefault PySem.F.type_dict_setdefault (ai (ho pins s U H _ I h) λu s1 zQ=>?_);obtain⟨x,H1,I1,rx,a,ex,d,q1⟩:=zQ;subst ex;obtain rfl:u=Value.ref a:=rx;obtain⟨t1,t2,_⟩:=Cd I1 d;refine⟨t1,t2,?_⟩;rw[m.trees];refine Calls.callWith_builtin rfl (Calls.evalArgs_plain (Calls.spliced_cons (ai (he pins s1 U H1 _ I1 q1) λiv s2 ⟨y,H2,I2,ry,q2⟩=>Calls.spliced_cons (ai (hf pins s2 U H2 _ I2 q2) λfv s3 ⟨z,H3,I3,rz,aa,k,b,ea,ey,eb,hl,g1,g2⟩=>Calls.spliced_nil ?_))));subst ey;cases(show iv=Value.ref b from ry);obtain⟨hz,hd,xs,rel,dd⟩:=Cc I3.ah ea;have J4:xs.length<=sizeLine:=by rw[<-Paired.length rel];exact hz
 refine call_meetsIn PySem.F.slot_dict_setdefault dd.typeIs PySem.F.entry_dict_setdefault (PySem.F.args_dict_setdefault_3 _ _ _) (Tz (tupleKind (zf X.prog X.w)) a b hd fv) ⟨tupleKind_room_in1 hu,k,xs,kO I3.ah eb,dd,J4,λp hp=>?_,λhn h' ir hs=>?_⟩
 .have rv:=rel.val k;rw[hp]at rv;cases hv:aO aa k with
  |none=>rw[hv]at rv;cases rv
  |some v=>rw[hv]at rv;exact⟨v,H3,I3.tok _,rv,g1 v hv⟩
 .have rv:=rel.val k;rw[hn]at rv;have hv:aO aa k=none:=by
   cases hv:aO aa k with
   |none=>rfl
   |some v=>rw[hv]at rv;cases rv
  have Jo:(putK aa k z).length<=sizeLine:=by have:=rB aa k z;lia
  have sr:=rel.put k eb rz;rw[storedH_new hn]at sr;obtain⟨q,es,ep,hq,h2,h3,h4,_,h5⟩:=ir;refine⟨z,_,rE (ob:=.dT (putK aa k z)) I3 (by rw[ea];exact True.intro) hs ⟨q,hq⟩ ⟨Jo,hd,_,sr.keeps λc ys ec=>?_,q,es,ep,hq,h2,h3,h4,h5⟩,rz,g2 hv⟩;rw[jg (iW ec ea (λz=>nomatch z))];exact ec
end
theorem zi {α β:Type}{F:α->β->Prop}:∀{xs:List α}{ys:List β}{i:Nat}{x:α},Paired F xs ys->xs[i]?=some x->∃y,ys[i]?=some y/\F x y:=λ{xs ys i x} q e=>by
 induction q generalizing i with
 |nil=>simp at e
 |cons h _ ih=>
  cases i with
  |zero=>cases Option.some.inj e;exact⟨_,rfl,h⟩
  |succ i=>exact ih (i:=i) e
section
variable {X:Cx}
theorem TF:fT X (.builtin "isinstance") (λxs H Q=>∃x q,xs=[.ref x,.ref q]/\H q=some (.tup [.ty "list",.ty "tuple"])/\((∃ys,af X.K H x ys)\/∃ys,ay X.K H x ys)/\Q (.bl true) H):=by
 intro pins s U H xs us Q I r h;obtain⟨x,q,rfl,hq,hx,k⟩:=h;obtain⟨u,w,rfl,r1,r2⟩:=vals2 r;cases r1;cases r2;obtain⟨ts,rt,ht,_⟩:=I.tuple (ay.of hq);obtain⟨a,b,rfl,ra,rb⟩:=vals2 rt;obtain rfl:a=Value.type "list":=ra;obtain rfl:b=Value.type "tuple":=rb;obtain⟨⟨c,dd,dt,sl⟩,ho,hc,n,hd⟩:=ht;simp only at hc hd;subst hc hd;have fin:∀tk,EP X pins U Q (.bool true) {s with toks:=tk}:=λtk=>⟨.bl true,H,I.tok tk,rfl,k⟩;rcases hx with⟨ys,hy⟩|⟨ys,hy⟩
 .obtain⟨its,_,pl,_⟩:=I.list hy;obtain⟨o,CU,su,_⟩:=pl.isList;exact PySem.W.kia_tup (its:=[.type "list",.type "tuple"]) PySem.W.kitx_list I.aT ⟨o,CU,su⟩ ho rfl (λz=>nomatch z) fin
 .obtain⟨its,_,⟨o,CU,su,_⟩,_⟩:=I.tuple hy;exact PySem.W.kia_tup (its:=[.type "list",.type "tuple"]) PySem.W.kitx_tuple I.aT ⟨o,CU,su⟩ ho rfl (λz=>nomatch z) fin
noncomputable def Kk (a b:TI):TI:=λU H R=>a U H R\/b U H R
theorem TH {tg l:Expr}{a b:TI}(h1:PI X tg l a)(h2:PI X tg l b):PI X tg l (Kk a b):=by
 intro pins s U H R I h;rcases h with h|h
 .exact h1 pins s U H R I h
 .exact h2 pins s U H R I h
theorem TJ {tg l:Expr}{tl:TE}(hl:PE X l tl):PI X tg l (Kk (Ir X.K tl) (Iu X.K tl)):=TH (fE hl) (Pe hl)
end
section
variable {X:Cx}{CX:eQ}{k:Nat}{C f:Addr}{fd:FuncData}{ps ks:List Str}{sp:Sp}{E:XK}{g:List Value->List Value->List Value}{gV:List V->List V->List V}{x:Str}{p pos:Pos}{e:Expr}{es:List Expr}{eR:List Keyword}{t tk:TA}
theorem TK {pins:List (Addr×Obj)}{U:St}{H:Hp}{s:Shared}{Q:VK}{us ws:List Value}{vs zs:List V}(M:Mk X.K C f)(F:xl X.prog X.w X.K X.mg X.base CX k f fd ps sp)(hr:aZ (k+1) X.A)(hb:gN X.K fd ps ks g gV)(hx:Passes CX X E)(I:Inv X pins U H s)(r:Vals vs us)(rz:Vals zs ws)(h:∀x dx,H x=none->H dx=none->dx≠x->sp (gV (.ref x::vs) zs) (upd (upd H dx (.own x)) x (.ins C dx [])) (λv H2=>v= .aq/\Q (.ref x) H2) E):
  wpAny (model X.prog X.w) X.A (call (.ref C) us (ks.zip ws)) (EP X pins U Q) X.xe s:=by
 have hq:=h (s.heap.objs.size+1) s.heap.objs.size (I.ah.fresh (le_succ _)) (I.ah.fresh (le_refl _)) (ne_of_lt (lt_succ_self _));have I2:=Inv.made (C:=C) I;have r2:=hb.rel (Paired.cons (show RelV (V.ref (s.heap.objs.size+1)) (Value.ref (s.heap.objs.size+1))from rfl) r) rz;have hl:(g (Value.ref (s.heap.objs.size+1)::us) ws).length=ps.length:=by rw[<-Paired.length r2];exact F.len _ _ _ _ hq
 refine wpAny_call (IH (f:=f) I.aT M.makes M.init (beq_iff_eq.mp M.fn) (codeAny_mono (F.run _ X.stack _ _ ⟨Value.ref (s.heap.objs.size+1)::us,ks.zip ws⟩ _ _ _ E (hr.make C us (ks.zip ws)) (I2.oQ.make C us (ks.zip ws)) (hb.to _ _ _ I2.aT hl) r2 hq) λr s' dE=>?_));cases r with
 |error e=>exact hx pins U _ _ e s' I2 dE
 |ok fl=>
  cases fl with
  |ret u=>obtain⟨v,H',I3,rv,ev,q3⟩:=I2.after dE;subst ev;exact⟨rv,⟨V.ref (s.heap.objs.size+1),H',I3,rfl,q3⟩⟩
  |next=>exact False.elim dE
  |brk=>exact False.elim dE
  |cont=>exact False.elim dE
noncomputable def TL (C:Addr)(sp:Sp)(gV:List V->List V->List V)(E:XK)(t tk:TA):TE:=λU H Q=>t U H λvs H1=>tk U H1 λzs H2=>∀x dx,H2 x=none->H2 dx=none->dx≠x->sp (gV (.ref x::vs) zs) (upd (upd H2 dx (.own x)) x (.ins C dx [])) (λv H3=>v= .aq/\Q (.ref x) H3) E
theorem TM (M:Mk X.K C f)(F:xl X.prog X.w X.K X.mg X.base CX k f fd ps sp)(hr:aZ (k+1) X.A)(hg:Gl X x)(hm:X.mg x=some (.ref C))(hb:gN X.K fd ps ks g gV)(hx:Passes CX X E)(ha:PA X (e::es) t)(qT:PK X eR tk)(ik:autoParam ((backToKw pos (keywordEach eR X.env)).all (·.1.isSome)=true) aP1)(BK:autoParam ((backToKw pos (keywordEach eR X.env)).filterMap (·.1)=ks) aP1)(cE:autoParam ((x==("__debug__":Str))=false) aP2)(he:autoParam (starEach (e::es) X.env=(false,eval e X.env)::starEach es X.env) aP1)(cp:autoParam (((backTo pos (starEach (e::es) X.env)).any (·.1)||(backToKw pos (keywordEach eR X.env)).any (·.1.isNone))=false) aP1):
  PE X (.Call (.Name x p) (e::es) eR pos) (TL C sp gV E t tk):=by
 intro pins s U H Q I h;refine wpAny_Call_Name_kw (lO I hg hm ?_ cE);refine PySem.W.callWith_KW (h₀:=X.base) I.ok.mod.eK M.kp ik (ai (ha pos pins s U H _ I h) λus s1 zQ=>?_) cp he;obtain⟨vs,H1,I1,r,q⟩:=zQ;refine ai (qT pos pins s1 U H1 _ I1 q) λws s2 ⟨zs,H2,I2,rz,q2⟩=>⟨I2.aT,?_⟩;rw[BK];exact TK M F hr hb hx I2 r rz q2
end
section
variable {X:Cx}{K:PySem.W.Frag}
theorem Kl (hK:X.K=K):bJ X (compareOp .NotIn) (BP K true):=by subst hK;exact rh
end
noncomputable def DK {α:Type}:Sem α->Prop
 | .pure _=>True
 | .raise _=>True
 | .unsupported _=>True
 | .finish _=>True
 | .rule _ k=>DK (k ())
 | .at _ k=>DK (k ())
 | .load _ _ k=>∀o,DK (k o)
 | .update _ _ f k=>(∀o:Obj,(f o).dict=o.dict/\(o.isFreed=false->(f o).isFreed=false))/\DK (k ())
 | .loadIfAlive _ k=>∀o,DK (k o)
 | .point _ k=>DK (k ())
 | .register _ _=>True
 | .alloc _ k=>∀a,DK (k a)
 | .fresh k=>∀t,DK (k t)
 | .ask k=>∀x,DK (k x)
 | .handled _ k=>∀x,DK (k x)
 | .stack k=>∀x,DK (k x)
 |_=>False
theorem TN {α β:Type}{f:α->Sem β}(hf:∀a,DK (f a))(m:Sem α)(h:DK m):DK (m.bind f):=by
 induction m with
 |pure a=>exact hf a
 |raise _=>exact True.intro
 |unsupported _=>exact True.intro
 |finish _=>exact True.intro
 |rule _ k ih=>exact ih () h
 |«at» _ k ih=>exact ih () h
 |load _ _ k ih=>exact λo=>ih o (h o)
 |update _ _ _ k ih=>exact⟨h.1,ih () h.2⟩
 |loadIfAlive _ k ih=>exact λo=>ih o (h o)
 |point _ k ih=>exact ih () h
 |register _ _ _=>exact True.intro
 |alloc _ k ih=>exact λa=>ih a (h a)
 |fresh k ih=>exact λa=>ih a (h a)
 |ask k ih=>exact λa=>ih a (h a)
 |handled _ k ih=>exact λa=>ih a (h a)
 |stack k ih=>exact λa=>ih a (h a)
 |choose _ _ _ _=>exact False.elim h
 |os _ _ _ _=>exact False.elim h
 |call _ _ _ _ _ _=>exact False.elim h
 |newGen _ _ _=>exact False.elim h
 |genState _ _ _=>exact False.elim h
 |resume _ _ _ _ _=>exact False.elim h
 |yield _ _ _ _ _=>exact False.elim h
 |fork _ _ _=>exact False.elim h
 |thread _ _=>exact False.elim h
 |await _ _ _ _ _ _=>exact False.elim h
theorem zo {α β:Type}{m:Sem α}{f:α->Sem β}(hm:DK m)(hf:∀a,DK (f a)):DK (m >>= f):=TN hf m hm
theorem CV {a:Addr}:DK (load a):=λ_=>True.intro
theorem TQ {o:Obj}:DK (alloc o):=λ_=>True.intro
theorem CW:DK stack:=λ_=>True.intro
theorem Km {a:Addr}{f:Obj->Obj}(h:∀o:Obj,(f o).dict=o.dict/\(o.isFreed=false->(f o).isFreed=false)):DK (update a f):=⟨h,True.intro⟩
noncomputable def KD (h h':Heap):Prop:=∀b o,h.get? b=some o->∃o',h'.get? b=some o'/\o'.dict=o.dict
theorem KD.refl (h:Heap):KD h h:=λ_ o e=>⟨o,e,rfl⟩
theorem KD.trans {a b c:Heap}(x:KD a b)(y:KD b c):KD a c:=λi o e=>by obtain⟨o1,e1,d1⟩:=x i o e;obtain⟨o2,e2,d2⟩:=y i o1 e1;exact⟨o2,e2,d2.trans d1⟩
theorem KD.push (h:Heap)(o:Obj):KD h (h.push o):=λ_ o' e=>⟨o',Heap.get?_push_of_some o e,rfl⟩
theorem KD.update {h:Heap}{a:Addr}{f:Obj->Obj}(hf:∀o:Obj,(f o).dict=o.dict/\(o.isFreed=false->(f o).isFreed=false)):KD h (h.update a f):=λb o e=>by
 by_cases z:a=b
 .subst z;exact⟨f o,Heap.get?_update_self f e ((hf o).2 (Heap.get?_some_iff.mp e).2),(hf o).1⟩
 .exact⟨o,by rw[Heap.get?_update_other h f z];exact e,rfl⟩
theorem TR {α:Type}{M:Model}{Γ:PySem.Ctx}{Q:α->Pos->Shared->Prop}{E:Value->Pos->Shared->Prop}(t:Sem α)(p:Pos)(s:Shared)(d:DK t)(h:Sem.wp M Γ t Q E p s):Sem.wp M Γ t (λa p' s'=>Q a p' s'/\KD s.heap s'.heap) (λe p' s'=>E e p' s'/\KD s.heap s'.heap) p s:=by
 induction t generalizing p s with
 |pure a=>rw[Sem.wp]at h⊢;exact⟨h,KD.refl _⟩
 |raise _=>rw[Sem.wp]at h⊢;exact⟨h,KD.refl _⟩
 |unsupported _=>rw[Sem.wp]at h;exact h.elim
 |finish _=>rw[Sem.wp]at h;exact h.elim
 |rule _ k ih=>rw[Sem.wp]at h⊢;exact ih () p s d h
 |«at» p' k ih=>rw[Sem.wp]at h⊢;exact ih () p' s d h
 |load a x k ih=>rw[Sem.wp]at h⊢;obtain⟨o,e,h⟩:=h;exact⟨o,e,ih o p s (d o) h⟩
 |update a x f k ih=>rw[Sem.wp]at h⊢;obtain⟨e,h⟩:=h;exact⟨e,Sem.wp_mono M Γ (k ()) (λ_ _ s' q=>⟨q.1,(KD.update d.1).trans q.2⟩) (λ_ _ s' q=>⟨q.1,(KD.update d.1).trans q.2⟩) p _ (ih () p _ d.2 h)⟩
 |loadIfAlive a k ih=>rw[Sem.wp]at h⊢;exact ih _ p s (d _) h
 |point _ k ih=>rw[Sem.wp]at h⊢;exact ih () p s d h
 |register _ _ _=>rw[Sem.wp]at h;exact h.elim
 |alloc o k ih=>rw[Sem.wp]at h⊢;exact Sem.wp_mono M Γ (k s.heap.objs.size) (λ_ _ s' q=>⟨q.1,(KD.push _ o).trans q.2⟩) (λ_ _ s' q=>⟨q.1,(KD.push _ o).trans q.2⟩) p _ (ih _ p _ (d _) h)
 |fresh k ih=>rw[Sem.wp]at h⊢;exact ih _ p _ (d _) h
 |ask k ih=>rw[Sem.wp]at h⊢;exact ih _ p s (d _) h
 |handled own k ih=>rw[Sem.wp]at h⊢;exact ih _ p s (d _) h
 |stack k ih=>rw[Sem.wp]at h⊢;exact ih _ p s (d _) h
 |choose _ _ _ _=>exact False.elim d
 |os _ _ _ _=>exact False.elim d
 |call _ _ _ _ _ _=>exact False.elim d
 |newGen _ _ _=>exact False.elim d
 |genState _ _ _=>exact False.elim d
 |resume _ _ _ _ _=>exact False.elim d
 |yield _ _ _ _ _=>exact False.elim d
 |fork _ _ _=>exact False.elim d
 |thread _ _=>exact False.elim d
 |await _ _ _ _ _ _=>exact False.elim d
theorem sy {α:Type}{M:Model}{A:Around}{t:Sem α}{Q:α->Shared->Prop}{E:Value->Shared->Prop}{s:Shared}(d:DK t)(h:wpAny M A t Q E s):wpAny M A t (λa s'=>Q a s'/\KD s.heap s'.heap) (λe s'=>E e s'/\KD s.heap s'.heap) s:=λΓ p TU=>TR t p s d (h Γ p TU)
theorem TV {v:Value}:DK (fieldsOf v):=by
 unfold fieldsOf;split
 .refine zo CV λo=>?_;split<;>exact True.intro
 .exact True.intro
theorem xN {v:Value}{i:Nat}:DK (field v i):=by unfold field;refine zo TV λvs=>?_;split<;>exact True.intro
theorem TX (f:Array Value->Array Value)(o:Obj):(Obj.mapFields f o).dict=o.dict/\(o.isFreed=false->(Obj.mapFields f o).isFreed=false):=by obtain⟨c,d,dt,sl⟩:=o;cases dt<;>exact⟨rfl,λh=>h⟩
theorem CY {v x:Value}{i:Nat}:DK (setField v i x):=by
 unfold setField;split
 .unfold updateField;refine zo CV λo=>?_;split
  .split
   .exact Km (TX _)
   .exact True.intro
  .exact True.intro
 .exact True.intro
theorem CZ {e:Value}{f:Option Addr}:DK (setFlight e f):=by
 unfold setFlight;refine zo xN λtb=>?_;split
 .exact CY
 .exact True.intro
theorem Kn:∀l:List Env,DK (readyFrames l)
 |[]=>True.intro
 | env::outer=>by
  unfold readyFrames;split
  .refine zo CV λo=>?_;split
   .exact True.intro
   .refine zo ?_ λim=>zo ?_ λback=>zo (Km λo=>⟨rfl,λh=>?_⟩) λ_=>Kn outer
    .unfold behindIsImport;split
     .exact True.intro
     .split
      .exact True.intro
      .exact zo xN λ_=>True.intro
    .unfold keptBack;split
     .split
      .exact True.intro
      .refine zo ?_ λ_=>True.intro;unfold underTheClaimsCaller;exact zo CW λ_=>True.intro
     .exact True.intro
    .obtain⟨c,d,dt,sl⟩:=o;cases dt<;>exact h
  .exact True.intro
theorem TY {env:Env}:DK (PySem.frameOf env):=by
 unfold PySem.frameOf;refine zo (zo CW λ_=>True.intro) λes=>zo ?_ λr=>?_
 .cases es.dropWhile (·.frame != env.frame)with
  |nil=>exact True.intro
  |cons e r=>unfold frameObject;exact zo (Kn _) λ_=>True.intro
 .split<;>exact True.intro
theorem TZ {ty:String}{vs:List Value}:DK (newFields ty vs):=by
 unfold newFields newObj;dsimp only;have rest:DK (newObjAsIs (Value.type ty) (Data.fields vs.toArray)):=by unfold newObjAsIs;exact zo TQ λ_=>True.intro
 split
 .exact zo True.intro λ_=>rest
 .exact rest
theorem T1 {f:Addr}{b:Bool}:DK (entryPlaceOf f b):=by unfold entryPlaceOf;refine zo CW λT3=>?_;split<;>exact True.intro
theorem Ko {e:Value}{env:Env}:DK (noteFrame e env):=by
 unfold noteFrame;split
 .have rest:∀{head:Value}{f:Addr},DK (do setField e 1 (<-EntryCells.newEntry head (<-PySem.frameOf env) .none (rawInt f) .none (<-entryPlaceOf f (head != .none)))):=λ{head f}=>zo TY λa=>zo T1 λpl=>zo TZ λb=>CY;refine zo xN λhead=>?_;split
  .refine zo xN λx=>?_;split
   .exact True.intro
   .exact zo CY λ_=>rest
  .exact rest
 .exact True.intro
theorem Kq {env:Env}{e:Value}:DK (leaving env e):=zo Ko λ_=>CZ
end L2
namespace PySem
section
variable {prog:Program}{w:World}{A:Around}{E:Value->Shared->Prop}{h:Heap}{g:Array GenState}{d:Drawn}{t:Nat}{os:OsState}
variable {nm q:Str}{C N:Addr}{bs bm nK:List Value}{hdct:Bool}{sn:List Str}{sub:List Value}{ab:Bool}{col:Option Bool}{dd:Option Addr}{k0 k1 k2 k3 k5:Option Value}{Bq newId iC:String}
theorem T4 (F:ExcBaseFacts Bq newId iC nK)(T:OwnTail h nK bm){rest:List Value}{fI:Addr}{oI:Obj}{Q:Fin->Shared->Prop}(hC:h.get? C=some (excClassObj nm q C N bs bm hdct sn sub ab col dd k0 k1 k2 k3 k5 newId))(L:PySem.W.Looks (model prog w) h (typeLookup (.ref C) "__init__") (some (.ref fI)))(C0:h.get? fI=some oI)(C1:oI.cls= .type "function")(iD:rest.length<=sizeLine)(hq:∀h' e,Heap.MadeExcOf h h' e (.ref C) rest->wpAny (model prog w) A (call (.ref fI) (.ref e::rest)) (λr s'=>r= .none/\Q (.done (.ret (.ref e))) s') E ⟨h',g,d,t,os⟩):
  wpAny (model prog w) A (Builtin.«type.__call__» ⟨.ref C::rest,[]⟩) Q E ⟨h,g,d,t,os⟩:=by
 repeat(first|with_reducible refine wpAny_loadPart_at hC ?_|with_reducible refine wpAny_madeBy_exc hC ?_|wp_step)
 refine codeAny_call_builtin_code (Code.quiet_builtin _ F.quiet) (wpAny_check_new_subT F T hC (codeAny_exc_new_subT F T hC ?_ iD));show wpAny _ _ _ _ _ _;have hk:∀b o,h.get? b=some o->((h.push {cls:=.type "tuple",data:=.seq rest.toArray}).push {cls:=.ref C,data:=.fields #[.ref h.objs.size,.none,.none,.none,.bool false,.none]}).get? b=some o:=λb o e=>Heap.get?_push_of_some _ (Heap.get?_push_of_some _ e);have sA:((h.push {cls:=.type "tuple",data:=.seq rest.toArray}).push {cls:=.ref C,data:=.fields #[.ref h.objs.size,.none,.none,.none,.bool false,.none]}).get? (h.objs.size+1)=some {cls:=.ref C,data:=.fields #[.ref h.objs.size,.none,.none,.none,.bool false,.none]}:=by heap_get
 have hm:Heap.MadeExcOf h ((h.push {cls:=.type "tuple",data:=.seq rest.toArray}).push {cls:=.ref C,data:=.fields #[.ref h.objs.size,.none,.none,.none,.bool false,.none]}) (h.objs.size+1) (.ref C) rest:=⟨hk,Heap.get?_none_of_le (le_succ _),h.objs.size,sA,Heap.get?_none_of_le (le_refl _),Heap.get?_push_of_some _ (Heap.get?_push_at rfl rfl)⟩;have dE:=hq _ _ hm;have T5:=hk _ _ hC;have C2:=hk _ _ C0;have T6:(Value.ref C::bm).contains (.ref C)=true:=by simp
 unfold isInstance;repeat(first|with_reducible refine wpAny_loadPart_at sA ?_|(with_reducible refine wpAny_isSubtype_exc T5 ?_;rw[T6])|wp_step)
 show wpAny _ _ (typeLookup (.ref C) _) _ _ _;refine L _ _ _ _ hk (wpAny_holding (wpAny_bind ?_));unfold bindSpecial;refine wpAny_bind (wpAny_typeOf (T:="function") ⟨_,C2,C1⟩ ?_);rw[if_pos (by decide)];refine wpAny_pure (wpAny_bind (wpAny_mono dE (λr s' hr=>?_) λ_ _ x=>x));obtain⟨rfl,hQ⟩:=hr;wp_walk;exact hQ
theorem T7 (F:ExcBaseFacts Bq newId iC nK)(T:OwnTail h nK bm){rest:List Value}{fI:Addr}{oI:Obj}{Q:Value->Shared->Prop}(hC:h.get? C=some (excClassObj nm q C N bs bm hdct sn sub ab col dd k0 k1 k2 k3 k5 newId))(L:PySem.W.Looks (model prog w) h (typeLookup (.ref C) "__init__") (some (.ref fI)))(C0:h.get? fI=some oI)(C1:oI.cls= .type "function")(iD:rest.length<=sizeLine)(hq:∀h' e,Heap.MadeExcOf h h' e (.ref C) rest->wpAny (model prog w) (A.under (.builtin "type.__call__" ⟨.ref C::rest,[]⟩)) (call (.ref fI) (.ref e::rest)) (λr s'=>r= .none/\Q (.ref e) s') E ⟨h',g,d,t,os⟩):
  wpAny (model prog w) A (call (.ref C) rest) Q E ⟨h,g,d,t,os⟩:=by
 have f1:=tc_lookup;have f2:=tc_bind (.ref C);have hT:(⟨h,g,d,t,os⟩:Shared).TypeIs (.ref C) "type":=⟨_,hC,rfl⟩;refine wpAny_call (codeAny_of_tree ?_);show wpAny _ _ (callAny (.ref C) _) _ _ _;repeat(any_goals (first|assumption|with_reducible refine wpAny_loadPart_at hC ?_|wp_step))
 refine⟨rfl,?_⟩;exact codeAny_call_builtin_at (Code.quiet_builtin _ (by decide+kernel)) entry_typeCall (wpAny_check_type_call_sub hC (T4 F T hC L C0 C1 iD λh' e hm=>hq h' e hm))
theorem T8 {s:Shared}{env:Env}{x:Sem Value}{Q:Flow->Shared->Prop}(dZ:bm.contains (.type "BaseException")=true)(hh:A.handled=none)(hx:wpAny (model prog w) A x (λv s1=>∃e oe t,v= .ref e/\s1.heap.get? C=some (excClassObj nm q C N bs bm hdct sn sub ab col dd k0 k1 k2 k3 k5 newId)/\s1.heap.get? e=some oe/\oe.cls= .ref C/\oe.data= .fields #[.ref t,.none,.none,.none,.bool false,.none]/\E (.ref e) s1) E s):
  wpAny (model prog w) A (raiseStmt env (some x) none) Q E s:=by
 have C3:(Value.ref C::bm).contains (.type "BaseException")=true:=by rw[List.contains_cons,dZ,Bool.or_true]
 unfold raiseStmt;refine wpAny_bind (wpAny_mono hx (λv s1 q1=>?_) λ_ _ z=>z);obtain⟨e,oe,t,rfl,hC,he,hc,hd,hE⟩:=q1;obtain⟨hp,g,dr,tk,os⟩:=s1;obtain⟨c0,di,da,sl⟩:=oe;dsimp only at hc hd;subst hc hd;repeat(first|with_reducible refine wpAny_loadPart_at he ?_|with_reducible refine wpAny_loadPart_at hC ?_|(with_reducible refine wpAny_isSubtype_exc hC ?_;rw[C3])|wp_step)
 exact wpAny_raiseNew_none hh hE
end
end PySem
namespace PySem
open Builtin Builtin.ObjectAttr
noncomputable abbrev xO:List Value:=[.type "ValueError",.type "Exception",.type "BaseException",.type "object"]
section
variable {prog:Program}{w:World}{A:Around}{E:Value->Shared->Prop}{h:Heap}{g:Array GenState}{d:Drawn}{t:Nat}{os:OsState}
variable {nm q:Str}{C N x:Addr}{bs bm:List Value}{hdct:Bool}{sn:List Str}{sub:List Value}{ab:Bool}{col:Option Bool}{dd:Option Addr}{k0 k1 k2 k3 k5:Option Value}{newId:String}{name:Str}{v:Value}{o:Obj}
theorem Kr {M:Model}{α:Type}{p:Sem α}{r:α}{Q:α->Shared->Prop}(L:PySem.W.Looks M h p r)(hq:Q r ⟨h,g,d,t,os⟩):wpAny M A p Q E ⟨h,g,d,t,os⟩:=L _ _ _ _ (λ_ _ e=>e) hq
theorem T9 {self:Value}(T:OwnTail h xO bm):refuseLoop self "__setattr__" bm=pure ():=by
 induction T with
 |base=>exact F.store_ValueError.passes self
 |own _ _ _ _ ih=>rw[refuseLoop_ref];exact ih
theorem Ua {tk:Tok}{Q:Fin->Shared->Prop}(T:OwnTail h xO bm)(hC:h.get? C=some (excClassObj nm q C N bs bm true sn sub ab col dd k0 k1 k2 k3 k5 newId))(Ln:PySem.W.Looks (model prog w) h (typeLookup (.ref C) name) none)(hx:h.get? x=some o)(hc:o.cls= .ref C)(C4:∀c,o.data≠.cls c)(C5:o.dict=none)(hq:∀h' kS dx,h.get? dx=none->dx≠x->h'.get? x=some {o with dict:=some dx}->h'.Ns1 dx (λy=>if y=name then some v else none)->(∀b ob,b≠x->h.get? b=some ob->h'.get? b=some ob)->Q (.done (.ret .none)) ⟨h',g,d,kS,os⟩):
  wpAny (model prog w) A (Builtin.«object.__setattr__» ⟨[.ref x,.str name tk,v],[]⟩) Q E ⟨h,g,d,t,os⟩:=by
 have sC:=T9 (self:=.ref x) T;unfold Builtin.«object.__setattr__»;repeat(first|rw[refuse_eq]|(rw[refuseLoop_ref,sC])|(with_reducible refine wpAny_loadPart_at hx ?_;rw[hc])|with_reducible refine wpAny_mroOf_exc hC ?_|with_reducible refine Kr Ln ?_|wp_step)
 rw[C5,if_neg (by simp[typeHasDict])];split
 .rename_i dX;cases dX
 split
 .rename_i c dX;exact absurd dX (C4 c)
 have mn:(h.push {cls:=.type "dict",data:=.dict #[]}).get? x=some o:=Heap.get?_push_of_some _ hx;have si:x≠h.objs.size:=ne_of_lt (Heap.lt_size hx);refine wpAny_bind (wpAny_alloc' (wpAny_bind (wpAny_update' mn (wpAny_pure ?_))));have Ub:((h.push {cls:=.type "dict",data:=.dict #[]}).update x λo=>{cls:=o.cls,dict:=some h.objs.size,data:=o.data,slots:=o.slots}).get? h.objs.size=some {cls:=.type "dict",data:=.dict #[]}:=(Heap.get?_update_ne _ _ _ _ si.symm).trans (Heap.get?_push_at rfl rfl);show wpAny _ _ (storeInDict h.objs.size (.str name tk) name v) _ _ _;unfold storeInDict newKeyGuard;refine wpAny_bind (wpAny_pure (wpAny_bind (wpAny_nsSet1 (Heap.Ns1.of_empty ⟨_,#[],_,Ub,rfl,λe he=>absurd he (by simp),λ_=>rfl⟩) λh' lN hs=>?_)));obtain⟨oD,PR,PU,BF,BG,ig⟩:=lN.count (Within.cons name v Within.nil);refine wpAny_bind (wpAny_lookBehind BF (by rw[BG];exact pastItsLine_dict (le_trans ig (by rw[length_cons,List.length_nil,sizeLine_eq];lia))) ?_);wp_walk;refine hq h' _ h.objs.size (Heap.get?_none_of_le (le_refl _)) si.symm ?_ lN λb ob Uc hb=>(hs.2 b (ne_of_lt (Heap.lt_size hb))).trans ((Heap.get?_update_ne _ _ _ _ Uc).trans (Heap.get?_push_of_some _ hb));refine(hs.2 x si).trans (Heap.get?_update_self _ mn ?_);have rZ:=(Heap.get?_some_iff.mp hx).2;obtain⟨oc,od,Ud,jB⟩:=o;cases Ud<;>first|rfl|exact rZ
theorem Ue {M:Model}{eC:Value}{Q:Unit->Shared->Prop}(T:OwnTail h xO bm)(hC:h.get? C=some (excClassObj nm q C N bs bm hdct sn sub ab col dd k0 k1 k2 k3 k5 newId))(hx:h.get? x=some o)(hc:o.cls= .ref C)(hq:Q () ⟨h,g,d,t,os⟩):wpAny M A (checkBuiltinCall "object.__setattr__" ⟨[.ref x,eC,v],[]⟩) Q E ⟨h,g,d,t,os⟩:=by
 have C3:(Value.ref C::bm).contains (.type "object")=true:=by rw[List.contains_cons,T.hasType F.store_ValueError.hasOwner,Bool.or_true]
 have ha:=F.store_ValueError.args (.ref x) eC v;simp only[checkBuiltinCall,F.store_ValueError.kind,F.store_ValueError.split];refine wpAny_bind ?_;unfold isInstance;repeat(first|(with_reducible refine wpAny_loadPart_at hx ?_;rw[hc])|(with_reducible refine wpAny_isSubtype_exc hC ?_;rw[C3])|wp_step)
 exact hq
theorem Ug {Q:Unit->Shared->Prop}(T:OwnTail h xO bm)(hC:h.get? C=some (excClassObj nm q C N bs bm true sn sub ab col dd k0 k1 k2 k3 k5 newId))(Ls:PySem.W.Looks (model prog w) h (typeLookup (.ref C) "__setattr__") (some (.builtin "object.__setattr__")))(Ln:PySem.W.Looks (model prog w) h (typeLookup (.ref C) name) none)(hx:h.get? x=some o)(hc:o.cls= .ref C)(C4:∀c,o.data≠.cls c)(C5:o.dict=none)(hq:∀h' kS dx,h.get? dx=none->dx≠x->h'.get? x=some {o with dict:=some dx}->h'.Ns1 dx (λy=>if y=name then some v else none)->(∀b ob,b≠x->h.get? b=some ob->h'.get? b=some ob)->Q () ⟨h',g,d,kS,os⟩):
  wpAny (model prog w) A (setAttr (.ref x) name v) Q E ⟨h,g,d,t,os⟩:=by
 have f3:=F.store_ValueError.slot.bind (.ref x);unfold setAttr callSpecial? specialOf;repeat(any_goals (first|assumption|(with_reducible refine wpAny_loadPart_at hx ?_;rw[hc])|with_reducible refine Kr Ls ?_|wp_step))
 refine codeAny_call_builtin F.store_ValueError.slot.plain F.store_ValueError.entry (Ue T hC hx hc (Ua T hC Ln hx hc C4 C5 λh' kS dx a1 a2 a3 a4 a5=>?_));repeat(any_goals (first|assumption|wp_step))
 exact hq h' kS dx a1 a2 a3 a4 a5
end
end PySem
namespace L2
open PySem PySem.Spec PyProof.Rows
noncomputable def xP (K:PySem.W.Frag)(C f:Addr):Bool:=(match K.lookup f with
 |some o=>o.cls== .type "function"
 |none=>false)&&match K.lookup C with
 |some ⟨.type "type",_,.cls cd,sl⟩=>(match cd.mro,sl.toList with
  | .ref C'::bm,[_,_,_,_,some (.builtin n),_]=>C'==C&&n=="ValueError.__new__"&&!cd.hasDel&&cd.hasDict&&PySem.W.tailIn K rQ bm
  |_,_=>false)
 |_=>false
theorem C6 {K:PySem.W.Frag}{h:Heap}{C f:Addr}(X:K.In h)(q:xP K C f=true):(∃oI,h.get? f=some oI/\oI.cls= .type "function")/\∃bm N nm qn bs sn sub ab col dd k0 k1 k2 k3 k5,h.get? C=some (excClassObj nm qn C N bs bm true sn sub ab col dd k0 k1 k2 k3 k5 "ValueError.__new__")/\OwnTail h rQ bm:=by
 unfold xP at q;rw[Bool.and_eq_true]at q;obtain⟨q0,q⟩:=q;refine⟨?_,?_⟩
 .split at q0
  .rename_i o ho;exact⟨o,X _ _ ho,beq_iff_eq.mp q0⟩
  .cases q0
 split at q
 .rename_i dd cd sl ho;split at q
  .rename_i C' bm k0 k1 k2 k3 n k5 hm hs;simp only[Bool.and_eq_true,beq_iff_eq,Bool.not_eq_true']at q;obtain⟨⟨⟨⟨rfl,rfl⟩,iB⟩,Ks⟩,ht⟩:=q;obtain⟨nm,bs,mro,ns,qn,hd,sn,sub,ab,col,del⟩:=cd;dsimp only at hm iB Ks;subst hm iB Ks;have CA:sl=#[k0,k1,k2,k3,some (.builtin "ValueError.__new__"),k5]:=by
    obtain⟨l⟩:=sl;simp only at hs;rw[hs]
   subst CA;exact⟨bm,ns,nm,qn,bs,sn,sub,ab,col,dd,k0,k1,k2,k3,k5,X _ _ ho,PySem.W.tail_of_in X ht⟩
  .cases q
 .cases q
structure xQ (K:PySem.W.Frag)(C f:Addr)(x:Str):Prop where
 cls:xP K C f=true
 Uh:PySem.W.findIn K (.ref C) "__init__"=some (some (.ref f))
 sa:PySem.W.findIn K (.ref C) "__setattr__"=some (some (.builtin "object.__setattr__"))
 ga:PySem.W.findIn K (.ref C) "__getattribute__"=some (some (.builtin "BaseException.__getattribute__"))
 gn:PySem.W.findIn K (.ref C) "__getattr__"=some none
 no:PySem.W.findIn K (.ref C) x=some none
noncomputable def sD (ea C:Addr):HO:=.ext λh=>∃t sl,h.get? ea=some ⟨.ref C,none,.fields #[.ref t,.none,.none,.none,.bool false,.none],sl⟩
noncomputable def nQ (ea C d:Addr):HO:=.ext λh=>∃t sl,h.get? ea=some ⟨.ref C,some d,.fields #[.ref t,.none,.none,.none,.bool false,.none],sl⟩
section
variable {X:Cx}{pins:List (Addr×Obj)}{U:St}{H:Hp}{s:Shared}
theorem Inv.sE (I:Inv X pins U H s)(hex:X.ex=[]){b:Addr}(e:s.heap.get? b=none):X.au.heap.get? b=none:=by
 cases q:X.au.heap.get? b with
 |none=>rfl
 |some o=>have base:=I.base;rw[hex]at base;obtain⟨o1,e1⟩:=base.there b o q (by simp);rw[e]at e1;cases e1
noncomputable def Ui (C:Addr)(ta tv:TE)(f:Str):TS:=λD U H=>tv U H λy H1=>ta U H1 λx H2=>∃a,x= .ref a/\H2 a=some (sD a C)/\∀d,H2 d=none->D.nx U (upd (upd H2 a (nQ a C d)) d (.xd [(f,y)]))
theorem Uj {C fi:Addr}{o value:Expr}{f:Str}{pos pos':Pos}{ta tv:TE}(hI:xQ X.K C fi f)(hex:X.ex=[])(ha:PE X o ta)(hv:PE X value tv)(hs:swapsWith value (some (.Attribute o f pos')) pos.line X.env=pure false):PS X (.Assign [.Attribute o f pos'] value pos) (Ui C ta tv f):=by
 intro pins s U H D I h;refine plainObj_wpAny_Assign_Attribute (ai (hv pins s U H _ I h) λu s1 ⟨y,H1,I1,ry,q⟩=>ai (ha pins s1 U H1 _ I1 q) λov s2 zQ=>?_) hs;obtain⟨x,H2,I2,rx,a,ex,ea,q2⟩:=zQ;subst ex;obtain rfl:ov=Value.ref a:=rx;obtain⟨⟨t,sl,hx⟩,_,_⟩:=I2.ah a _ ea;obtain⟨_,bm,N,nm,qn,bs,sn,sub,ab,col,dd,k0,k1,k2,k3,k5,hC,T⟩:=C6 I2.aT hI.cls;obtain⟨hp,g,dr,tk,os⟩:=s2;refine Ug T hC (PySem.W.looks_findIn I2.aT hI.sa) (PySem.W.looks_findIn I2.aT hI.no) hx rfl (λc z=>by cases z) rfl λh' kS d n1 n2 e1 e2 kp=>?_;have pC:H2 d=none:=by
  cases z:H2 d with
  |none=>rfl
  |some u=>obtain⟨o',e'⟩:=(I2.ah d u z).there;rw[show hp.get? d=none from n1]at e';cases e'
 have I3:Inv X pins U (upd H2 a (nQ a C d)) ⟨h',g,dr,kS,os⟩:=by refine I2.write (x:=a) (e:=a) (h':=h') (t':=kS) (by rw[ea];exact True.intro) (.inl rfl) (λb u hb e=>kp b u hb e) ⟨_,e1⟩ ⟨⟨t,sl,e1⟩,⟨_,e1⟩,λh1 h2 p k=>?_⟩;obtain⟨t',mT,e'⟩:=p;exact⟨t',mT,k _ e'⟩
 have xR:hp.get? d=none:=n1;have fY:∀b o,hp.get? b=some o->b≠d:=λb o e z=>by rw[z,xR]at e;cases e
 have I4:Inv X pins U (upd (upd H2 a (nQ a C d)) d (.xd [(f,y)])) ⟨h',g,dr,kS,os⟩:=by
  refine I3.CF hex (by rw[jg n2];exact pC) (I2.sE hex xR) ?_ (λz c e=>?_) (λp kQ=>?_) ⟨_,e2,λz=>?_⟩
  .obtain⟨m,⟨o',_,_,bL,_⟩,_⟩:=I2.loc;exact(fY _ _ bL).symm
  .obtain⟨v',o',bL,_⟩:=I2.cell z c e;exact fY _ _ bL
  .exact fY _ _ (I2.pin p kQ).1
  .rw[lookup_cons];by_cases hz:z=f
   .subst hz;simp only[beq_self_eq_true,if_true];exact ry
   .have:(z==f)=false:=by simpa using hz
    rw[this,if_neg hz];exact True.intro
 exact⟨U,_,I4,q2 d pC⟩
theorem Inv.drop {a:Addr}{φ:Heap->Prop}(I:Inv X pins U H s)(ha:H a=some (.ext φ)):Inv X pins U (λb=>if b=a then none else H b) s:=by
 have ne:∀{b:Addr}{u:HO},H b=some u->(∀ψ,u≠.ext ψ)->b≠a:=λ{b u} e h z=>by subst z;rw[ha]at e;exact h _ (Option.some.inj e).symm
 have at_:∀{b:Addr},b≠a->(λb=>if b=a then none else H b) b=H b:=λh=>if_neg h;have nn:∀{b:Addr},H b=none->(λb=>if b=a then none else H b) b=none:=λ{b} h=>by
  by_cases z:b=a
  .exact if_pos z
  .exact(if_neg z).trans h
 refine⟨I.ok,I.os,I.bare,⟨I.base.keep,I.base.slot,λb ob e n hx=>nn (I.base.free b ob e n hx),I.base.there,λb xs q=>?_,λb ob v q=>?_,λb ps q=>?_⟩,I.loc,I.cell,nn I.free,λx c e=>nn (I.dC x c e),λp hp=>?_,λb v e=>?_,I.len⟩
 .have q':=I.base.dJ b xs q;exact(at_ (ne q' λ_ z=>nomatch z)).trans q'
 .have q':=I.base.dB b ob v q;exact(at_ (ne q' λ_ z=>nomatch z)).trans q'
 .obtain⟨more,z⟩:=I.base.dW b ps q;exact⟨more,(at_ (ne z λ_ z=>nomatch z)).trans z⟩
 .obtain⟨q1,q2,q3⟩:=I.pin p hp;exact⟨q1,nn q2,q3⟩
 .by_cases z:b=a
  .have e':(if b=a then none else H b)=some v:=e;rw[if_pos z]at e';cases e'
  .have e':H b=some v:=(at_ z).symm.trans e;exact(I.ah b v e').bZ (λ_ _ _ q=>q) (λc q=>(at_ (ne q λ_ z=>nomatch z)).trans q) λc xs q=>(at_ (ne q λ_ z=>nomatch z)).trans q
end
noncomputable def cY (P:Program)(w:World):eQ:=λl H s E e s'=>∃ea cls dd H',e= .ref ea/\pD P w l H H' s s' ea cls/\(∃oe,s'.heap.get? ea=some oe/\oe.dict=dd)/\E cls dd H'
section
variable {P:Program}{w:World}{K:PySem.W.Frag}{mg:Str->Option Value}{base:Heap}{N:List Str}{qual:Str}{scope:Scope}{f:Addr}{cd:Value}{A:Around}{outer:List Env}{s:Shared}{H:Hp}{E:XK}
theorem Uk:Passes (cY P w) (cW (cY P w) P w K mg base N qual scope f cd A outer s H E) E:=by
 intro pins U H1 s1 e s' I h;obtain⟨ea,cls,dd,H',rfl,F,⟨oe,he,iA⟩,q⟩:=h;obtain⟨Bq,t,hf,k1,k2⟩:=F.JT;show wpAny (model P w) (A.deeper (envOfC qual scope s.heap.objs.size f cd)) (leaving (envOfC qual scope s.heap.objs.size f cd) (.ref ea)) _ _ s';refine wpAny_mono (sy Kq (wpAny_leaves_onW (E:=λ_ _=>False) (Q:=λ_ bQ=>∃h',bQ={s' with heap:=h'}/\Heap.FlyingW Bq outer ea cls (.ref t) h'/\s'.heap.UpToSlots h') I.ok.frames (L:=s.heap.objs.size) rfl hf λh' nP hu=>⟨h',rfl,nP,hu⟩)) (λ_ bQ zQ=>?_) (λ_ _ c=>c.1.elim);obtain⟨⟨h',e1,nP,hu⟩,kd⟩:=zQ;subst e1;obtain⟨o2,e2,d2⟩:=kd ea oe he;exact⟨ea,cls,dd,H',rfl,RO I rfl F nP hu k1 k2,⟨o2,e2,d2.trans iA⟩,q⟩
theorem Kt {pins:List (Addr×Obj)}{U:St}{H1:Hp}{s1:Shared}{ea t:Addr}{oe:Obj}(I:Inv (cW (cY P w) P w K mg base N qual scope f cd A outer s H E) pins U H1 s1)(he:s1.heap.get? ea=some oe)(hd:oe.data= .fields #[.ref t,.none,.none,.none,.bool false,.none])(new:s.heap.get? ea=none)(hn:H1 ea=none)(q:E oe.cls oe.dict H1):(cW (cY P w) P w K mg base N qual scope f cd A outer s H E).xe (.ref ea) s1:=by
 have cx:∀b:Addr,b∉([]:List Addr):=λb=>by simp
 have ib:Un (bp outer) [] H H1 s.heap s1.heap:=I.base;obtain⟨cU,kU⟩:∃cU,cU=envOfC qual scope s.heap.objs.size f cd::outer:=⟨_,rfl⟩;have Ku:∀env∈cU,∀b,env.frame=some b->b∈ea::bp cU:=λenv he b hb=>mem_cons_of_mem _ (mem_filterMap.mpr ⟨env,he,hb⟩);have iE:∀b o,s1.heap.get? b=some o->b≠ea->b∉bp cU->(PySem.W.hideAll s1.heap (ea::bp cU)).get? b=some o:=λb o e h1 h2=>PySem.W.hideAll_get _ e λz=>(mem_cons.mp z).elim h1 h2;have jH:∀b o,s.heap.get? b=some o->b∉bp outer->b∉bp cU:=λb o e hb=>by rw[kU];exact I.jH e hb
 have xS:∀b o,s.heap.get? b=some o->b≠ea:=λb o e z=>by rw[z,new]at e;cases e
 have mf:∀b u,H1 b=some u->b≠ea:=λb u e z=>by rw[z,hn]at e;cases e
 have kB:∀b u,H1 b=some u->b∉bp cU:=λb u e z=>by rw[kU]at z;have:=I.vN b z;rw[e]at this;cases this
 have IS:s1.heap.FunFrames (PySem.W.hideAll s1.heap (ea::bp cU)) (envOfC qual scope s.heap.objs.size f cd::outer):=by rw[kU];exact PySem.W.funFrames_hide I.stack (by rw[kU]at Ku;exact Ku)
 show wpAny (model P w) (A.deeper (envOfC qual scope s.heap.objs.size f cd)) (leaving (envOfC qual scope s.heap.objs.size f cd) (.ref ea)) _ _ s1;refine wpAny_mono (sy Kq (wpAny_leaving_firstW (E:=λ_ _=>False) (base:=PySem.W.hideAll s1.heap (ea::bp cU)) (a0:=.ref t) (Q:=λ_ bQ=>∃h',bQ={s1 with heap:=h'}/\Heap.LeftW (PySem.W.hideAll s1.heap (ea::bp cU)) (envOfC qual scope s.heap.objs.size f cd::outer) ea oe.cls (.ref t) s1.heap h') I.ok.frames IS rfl he (λb o q=>PySem.W.of_hideAll _ q) (PySem.W.hideAll_none _ (by simp)) hd rfl rfl λh' hL=>⟨h',rfl,hL⟩)) (λ_ bQ ⟨⟨h',e1,hL⟩,kd⟩=>?_) (λ_ _ c=>c.1.elim);subst e1;obtain⟨o2,e2,d2⟩:=kd ea oe he;obtain⟨x1,⟨_,_,x2⟩,x3,x4⟩:=hL;have bZ:∀b o,s1.heap.get? b=some o->b≠ea->b∉bp cU->h'.get? b=some o:=λb o e h1 h2=>x1 _ _ (iE b o e h1 h2);have slots:∀b o,s.heap.get? b=some o->H b=none->b∈bp outer->∃sl,h'.get? b=some {o with slots:=sl}:=λb o e n hb=>by
  obtain⟨sl,e1⟩:=ib.slot b o e n hb (cx b);obtain⟨_,o3,e3,nf⟩:=I.ok.eL.mem hb;have Kv:s.heap.get? b=some o3:=e3;rw[e]at Kv;cases Kv;obtain⟨rP,e4⟩:=x4 b _ e1 nf;exact⟨rP,e4⟩
 refine⟨ea,oe.cls,oe.dict,H1,rfl,⟨I.os,I.bare,⟨λb o e n hb _=>?_,λb o e n hb _=>slots b o e n hb,λb o e n _=>ib.free b o e n (cx b),λb o e _=>?_,ib.dJ,ib.dB,ib.dW⟩,λb u e=>?_,⟨PySem.W.hideAll s1.heap (ea::bp cU),t,⟨x1,PySem.W.hideAll_none _ (by simp),x2,x3⟩,λb o o' e e' hb=>?_,λb u o' q e'=>?_⟩,new⟩,⟨o2,e2,d2⟩,q⟩
 .exact bZ b o (ib.keep b o e n hb (cx b)) (xS b o e) (jH b o e hb)
 .by_cases hb:b∈bp outer
  .obtain⟨sl,q⟩:=slots b o e (I.ok.hU b hb) hb;exact⟨_,q⟩
  .obtain⟨o1,e1⟩:=ib.there b o e (cx b);exact⟨o1,bZ b o1 e1 (xS b o e) (jH b o e hb)⟩
 .refine(I.ah b u e).bZ (λc v hc q=>?_) (λ_ q=>q) λ_ _ q=>q;rcases hc with z|z
  .subst z;exact bZ _ _ q (mf _ _ e) (kB _ _ e)
  .exact bZ _ _ q (mf _ _ z) (kB _ _ z)
 .obtain⟨o1,e1⟩:=ib.there b o e (cx b);have z:=bZ b o1 e1 (xS b o e) (jH b o e hb);have e2:h'.get? b=some o':=e';rw[z]at e2;cases e2;exact iE b _ e1 (xS b o e) (jH b o e hb)
 .obtain⟨o1,e1⟩:=(I.ah b u q).there;have z:=bZ b o1 e1 (mf _ _ q) (kB _ _ q);have e2:h'.get? b=some o':=e';rw[z]at e2;cases e2;exact iE b _ e1 (mf _ _ q) (kB _ _ q)
end
section
variable {P:Program}{w:World}{K:PySem.W.Frag}{mg:Str->Option Value}{base:Heap}
theorem ax.Kw {x qual:Str}{st:Stmt}{f:Addr}{fd:FuncData}{N ps:List Str}{k:Nat}{sp:Sp}(F:ax K x qual st f fd)(S:qg N ps (jq st))(len:∀vs H Q E,sp vs H Q E->vs.length=ps.length)(bf:∀(aH:Value)(A:Around)(outer:List Env)(s:Shared)(H:Hp)(vs:List V)(Q:VK)(E:XK),aZ k (A.deeper (envOfC qual (jq st) s.heap.objs.size f aH))->sp vs H Q E->∃t,cL (cW (cY P w) P w K mg base N qual (jq st) f aH A outer s H E) (gP st) t/\t {nx:=λ_ H'=>Q .aq H',rt:=Q} (start N vs) H):xl P w K mg base (cY P w) (k+1) f fd ps sp:=by
 obtain⟨oc,od,kV,doc,pm,an,aH,ct,jB,rfl,lk,dX⟩:=F.ex;exact IW lk dX S len λA outer s H vs Q E hr gO=>bf aH A outer s H vs Q E hr gO
theorem ax.Ul {x qual:Str}{st:Stmt}{f:Addr}{fd:FuncData}{N ps:List Str}{k:Nat}{sp:Sp}(F:ax K x qual st f fd)(S:qg N ps (jq st))(bf:∀(aH:Value)(A:Around)(outer:List Env)(s:Shared)(H:Hp)(vs:List V)(Q:VK)(E:XK),aZ k (A.deeper (envOfC qual (jq st) s.heap.objs.size f aH))->sp vs H Q E->∃t,cL (cW (cY P w) P w K mg base N qual (jq st) f aH A outer s H E) (gP st) t/\t {nx:=λ_ H'=>Q .aq H',rt:=Q} (start N vs) H)(len:autoParam (∀vs H Q E,sp vs H Q E->vs.length=ps.length) aP7):xl P w K mg base (cY P w) (k+1) f fd ps sp:=F.Kw S len bf
theorem ax.Um {x qual:Str}{st:Stmt}{f:Addr}{fd:FuncData}{N ps:List Str}{k:Nat}{sp:Sp}(F:ax K x qual st f fd)(bf:∀(aH:Value)(A:Around)(outer:List Env)(s:Shared)(H:Hp)(vs:List V)(Q:VK)(E:XK),aZ k (A.deeper (envOfC qual (jq st) s.heap.objs.size f aH))->sp vs H Q E->∃t,cL (cW (cY P w) P w K mg base N qual (jq st) f aH A outer s H E) (gP st) t/\t {nx:=λ_ H'=>Q .aq H',rt:=Q} (start N vs) H)(S:autoParam (qg N ps (jq st)) aP8)(len:autoParam (∀vs H Q E,sp vs H Q E->vs.length=ps.length) aP7):xl P w K mg base (cY P w) (k+1) f fd ps sp:=F.Kw S len bf
theorem Inv.Kx {X:Cx}{pins:List (Addr×Obj)}{U:St}{H:Hp}{s:Shared}(I:Inv X pins U H s){a:Addr}(e:s.heap.get? a=none):H a=none:=by
 cases z:H a with
 |none=>rfl
 |some u=>obtain⟨o,q⟩:=(I.ah a u z).there;rw[e]at q;cases q
theorem Ky {N:List Str}{qual:Str}{scope:Scope}{f:Addr}{cd:Value}{A:Around}{outer:List Env}{s:Shared}{H:Hp}{E:XK}{x:Str}{C:Addr}{e:Expr}{es:List Expr}{t:TA}{np av pos:Pos}(hg:Gl (cW (cY P w) P w K mg base N qual scope f cd A outer s H E) x)(hm:mg x=some (.ref C))(hC:xB K C)(ha:PA (cW (cY P w) P w K mg base N qual scope f cd A outer s H E) (e::es) t)(cE:autoParam ((x==("__debug__":Str))=false) aP2)(he:autoParam (starEach (e::es) (envOfC qual scope s.heap.objs.size f cd)=(false,eval e (envOfC qual scope s.heap.objs.size f cd))::starEach es (envOfC qual scope s.heap.objs.size f cd)) aP1)(cp:autoParam ((backTo av (starEach es (envOfC qual scope s.heap.objs.size f cd))).any (·.1)=false) aP1):
  PS (cW (cY P w) P w K mg base N qual scope f cd A outer s H E) (.Raise (some (.Call (.Name x np) (e::es) [] av)) none pos) (JU (E (.ref C) none) t):=
 RT rfl hg hm hC ha (λ{pins U H1 s1 ea vs h1} I hx q=>by obtain⟨t,h2,_,_⟩:=hx.there;exact Kt (I.kept (t':=s1.toks) hx.keeps) h2 rfl (I.sE rfl hx.new) (I.Kx hx.new) q) cE he cp
end
noncomputable def Kz (C:Addr)(sp:Sp)(W:Option Addr->Hp->Prop)(t:TA):TS:=λ_ U H=>t U H λvs H1=>vs.length<=sizeLine/\∀ea,H1 ea=none->sp (.ref ea::vs) (upd H1 ea (sD ea C)) (λv H2=>v= .aq/\∃d,H2 ea=some (nQ ea C d)/\W (some d) (λb=>if b=ea then none else H2 b)) E0
section
variable {X:Cx}
theorem Uo {k:Nat}{fI C:Addr}{fd:FuncData}{ps:List Str}{sp:Sp}{fld x:Str}{e:Expr}{es:List Expr}{t:TA}{np av pos:Pos}{W:Option Addr->Hp->Prop}(hc:X.calm=true)(hex:X.ex=[])(hg:Gl X x)(hm:X.mg x=some (.ref C))(hI:xQ X.K C fI fld)(Fn:xl X.prog X.w X.K X.mg X.base CX0 k fI fd ps sp)(hr:aZ (k+1) X.A)(hb:Binds X.K fd ps [])(ha:PA X (e::es) t)(CB:∀{pins:List (Addr×Obj)}{U:St}{H:Hp}{s:Shared}{ea t:Addr}{oe:Obj},Inv X pins U H s->s.heap.get? ea=some oe->oe.data= .fields #[.ref t,.none,.none,.none,.bool false,.none]->X.au.heap.get? ea=none->H ea=none->oe.cls= .ref C->W oe.dict H->X.xe (.ref ea) s)(cE:autoParam ((x==("__debug__":Str))=false) aP2)(he:autoParam (starEach (e::es) X.env=(false,eval e X.env)::starEach es X.env) aP1)(cp:autoParam ((backTo av (starEach es X.env)).any (·.1)=false) aP1):
  PS X (.Raise (some (.Call (.Name x np) (e::es) [] av)) none pos) (Kz C sp W t):=by
 intro pins s U H D I h;have FB:=F.excBase_ValueError;obtain⟨_,bm,N,nm,qn,bs,sn,sub,ab,col,dd,k0,k1,k2,k3,k5,KA,T0⟩:=C6 I.mod.eK hI.cls;have C7:((backTo av (starEach (e::es) X.env)).any λx=>x.fst)=false:=by rw[he];show(false||(backTo av (starEach es X.env)).any (·.1))=false;rw[cp];rfl
 rw[arm_exec_Raise];refine wpAny_bind (wpAny_standAt ?_);refine T8 (C:=C) (nm:=nm) (q:=qn) (N:=N) (bs:=bs) (bm:=bm) (hdct:=true) (sn:=sn) (sub:=sub) (ab:=ab) (col:=col) (dd:=dd) (k0:=k0) (k1:=k1) (k2:=k2) (k3:=k3) (k5:=k5) (newId:="ValueError.__new__") (T0.hasType FB.hasBase) (I.ok.hd hc) (wpAny_bind (wpAny_mono (wpAny_Call_ofName (lO I hg hm ?_ cE)) (λv s3 h3=>wpAny_bind (wpAny_standAt (wpAny_pure h3))) λ_ _ x=>x));have h1:wpAny (model X.prog X.w) X.A (evalArgs (.ref C) true (backTo av (starEach (e::es) X.env)) []) (λa s2=>∃us vs H2,a=⟨us,[]⟩/\Inv X pins U H2 s2/\Vals vs us/\vs.length<=sizeLine/\∀ea,H2 ea=none->sp (.ref ea::vs) (upd H2 ea (sD ea C)) (λv H3=>v= .aq/\∃d,H3 ea=some (nQ ea C d)/\W (some d) (λb=>if b=ea then none else H3 b)) E0) X.xe s:=by
  have hA:=ha av pins s U H _ I h;rw[he]at hA⊢;exact Calls.evalArgs_plain (ai hA λus s2 ⟨vs,H2,I2,r2,hz,q2⟩=>⟨us,vs,H2,rfl,I2,r2,hz,q2⟩)
 delta callWith;refine wpAny_bind (wpAny_holding (wpAny_mono h1 (λa s2 h2=>wpAny_bind (wpAny_standAt ?_)) λ_ _ x=>x));obtain⟨us,vs,H2,rfl,I2,r2,hz,q2⟩:=h2;have hC:=I2.bk _ _ KA;have T:=T0.keeps I2.bk;obtain⟨⟨oI,Uq,vQ⟩,_⟩:=C6 I2.aT hI.cls;obtain⟨hp,g,dr,tk,os⟩:=s2;simp only[C7];refine wpAny_bind (wpAny_keeperOf_exc hC ?_);refine wpAny_bind (T7 FB T hC (PySem.W.looks_findIn I2.aT hI.Uh) Uq vQ (by show us.length<=sizeLine;rw[<-r2.length];exact hz) λh' ea C8=>?_);have xT:hp.get? ea=none:=C8.new;have fY:∀b o,hp.get? b=some o->b≠ea:=λb o e z=>by rw[z,xT]at e;cases e
 obtain⟨t0,het,_,_⟩:=C8.there;have I3:Inv X pins U H2 ⟨h',g,dr,tk,os⟩:=I2.kept (t':=tk) C8.keeps;have oZ:H2 ea=none:=I2.Kx xT;have I4:Inv X pins U (upd H2 ea (sD ea C)) ⟨h',g,dr,tk,os⟩:=by
  refine I3.CF hex oZ (I2.sE hex xT) ?_ (λz c e=>?_) (λp kQ=>?_) ⟨⟨t0,_,het⟩,⟨_,het⟩,λh1 h2 p k=>?_⟩
  .obtain⟨m,⟨o',_,_,bL,_⟩,_⟩:=I2.loc;exact(fY _ _ bL).symm
  .obtain⟨v',o',bL,_⟩:=I2.cell z c e;exact fY _ _ bL
  .exact fY _ _ (I2.pin p kQ).1
  .obtain⟨t',mT,e'⟩:=p;exact⟨t',mT,k _ e'⟩
 have hq:=q2 ea oZ;have r3:Vals (V.ref ea::vs) (Value.ref ea::us):=.cons rfl r2;have hl:(Value.ref ea::us++[]).length=ps.length:=by have e:=r3.length;rw[Fn.len _ _ _ _ hq]at e;rw[append_nil];exact e.symm
 have KC:=hb ⟨h',g,dr,tk,os⟩ (Value.ref ea::us) I4.aT hl;rw[append_nil]at KC;refine wpAny_call (codeAny_mono (Fn.run _ X.stack _ _ ⟨Value.ref ea::us,[]⟩ (Value.ref ea::us) _ _ E0 (hr.make C us []) (I4.oQ.make C us []) KC r3 hq) λr s' dE=>?_);cases r with
 |error e'=>exact False.elim dE
 |ok fl=>
  cases fl with
  |ret u=>obtain⟨v,H5,I5,rv,⟨ev,d,KG,w5⟩⟩:=I4.after dE;subst ev;refine⟨rv,wpAny_bind (wpAny_holding (wpAny_point (wpAny_pure ?_)))⟩;obtain⟨⟨t5,sl5,sF⟩,_,_⟩:=I5.ah ea _ KG;exact⟨ea,_,t5,rfl,I5.bk _ _ KA,sF,rfl,rfl,CB (I5.drop KG) sF rfl (I2.sE hex xT) (if_pos rfl) rfl w5⟩
  |next=>exact False.elim dE
  |brk=>exact False.elim dE
  |cont=>exact False.elim dE
end
noncomputable def mr (ea:Addr)(cls:Value)(dd:Option Addr):HO:=.ext λh=>∃o vs,h.get? ea=some o/\o.cls=cls/\o.data= .fields vs/\o.dict=dd
noncomputable def iF (X:Cx)(pn:List (Addr×Obj))(W:St->Value->Option Addr->Hp->Prop):Cx:={X with pn:=pn,xe:=λe s'=>∃(pins:List (Addr×Obj))(U:St)(H:Hp)(s0:Shared)(ea:Addr)(cls:Value)(dd:Option Addr)(H':Hp),e= .ref ea/\Inv {X with pn:=pn} pins U H s0/\pD X.prog X.w X.stack H H' s0 s' ea cls/\(∃oe,s'.heap.get? ea=some oe/\oe.dict=dd)/\W U cls dd H'}
section
variable {X:Cx}{pins pn:List (Addr×Obj)}{U:St}{H H':Hp}{s s':Shared}
theorem Inv.Ur {W:St->Value->Option Addr->Hp->Prop}(I:Inv X pins U H s)(h:∀p∈pn,p∈X.pn++pins):Inv (iF X pn W) pins U H s:=I.jI (Yq:=iF X pn W) (I.ok.jI (Yq:=iF X pn W) ⟨rfl,rfl,rfl⟩ rfl rfl rfl rfl rfl rfl rfl I.ok.hd I.ok.frames) rfl rfl rfl rfl rfl rfl rfl rfl λp hp=>(mem_append.mp hp).elim (h p) λz=>mem_append_right _ z
theorem Inv.KH {W:St->Value->Option Addr->Hp->Prop}(I:Inv (iF X pn W) pins U H s):Inv {X with pn:=pn} pins U H s:=I.jI (Yq:={X with pn:=pn}) (I.ok.jI (Yq:={X with pn:=pn}) ⟨rfl,rfl,rfl⟩ rfl rfl rfl rfl rfl rfl rfl I.ok.hd I.ok.frames) rfl rfl rfl rfl rfl rfl rfl rfl λ_ hp=>hp
theorem Us {W:St->Value->Option Addr->Hp->Prop}(I:Inv (iF X pn W) pins U H s)(e:Value)(s':Shared)(h:cY X.prog X.w X.stack H s (λcls dd H'=>W U cls dd H') e s'):(iF X pn W).xe e s':=by obtain⟨ea,cls,dd,H',rfl,F,hd,q⟩:=h;exact⟨pins,U,H,s,ea,cls,dd,H',rfl,I.KH,F,hd,q⟩
theorem Inv.less {a:Addr}{φ ψ:Heap->Prop}(I:Inv X pins U H s)(ha:H a=some (.ext φ))(h:∀h,φ h->ψ h)(st:∀h1 h2:Heap,ψ h1->(∀o,h1.get? a=some o->h2.get? a=some o)->ψ h2):Inv X pins U (upd H a (.ext ψ)) s:=by obtain⟨p,⟨o,e⟩,_⟩:=I.ah a _ ha;exact I.write (t':=s.toks) (x:=a) (e:=a) (h':=s.heap) (by rw[ha];exact True.intro) (.inl rfl) (λb u _ q=>q) ⟨o,e⟩ ⟨h _ p,⟨o,e⟩,st⟩
noncomputable def KI (D:Ends)(i:Nat)(ea:Addr)(cls:Value)(dd:Option Addr):Ends:=
  { nx:=λU2 H2=>H2 ea=some (mr ea cls dd)/\D.nx (U2.set i none) (upd H2 ea (mj ea cls))
    rt:=λv H2=>H2 ea=some (mr ea cls dd)/\D.rt v (upd H2 ea (mj ea cls))
    bk:=λU2 H2=>H2 ea=some (mr ea cls dd)/\D.bk (U2.set i none) (upd H2 ea (mj ea cls))
    ct:=λU2 H2=>H2 ea=some (mr ea cls dd)/\D.ct (U2.set i none) (upd H2 ea (mj ea cls))}
theorem Ut {s0 s1:Shared}{H1:Hp}{D:Ends}{x n:Str}{i:Nat}{np sH:Pos}{sI:Stmt}{mv:List Stmt}{rest:List ExceptHandler}{Pc C ea t:Addr}{dd:Option Addr}{ts:TS}{bh Bq:Heap}{U':St}(iG:X.stack=X.env::X.outer)(hex:X.ex=[])(hg:Gl X x)(hm:X.mg x=some (.ref Pc))(hB:PySem.W.mroIn X.K Pc (.type "BaseException")=some true)(hN:X.N.Nodup)(hi:X.N[i]?=some n)(hn:X.env.scope.names.lookup n=some .local)(hs:∀ea,cL (pE X ea) (sI::mv) ts)(cE:(x==("__debug__":Str))=false)(IX:Inv X pins U' H1 s0)(F:pD X.prog X.w X.stack H1 H' s0 s1 ea (.ref C))(iH:Heap.FlyingW Bq X.stack ea (.ref C) (.ref t) bh)(hu:s1.heap.UpToSlots bh)(k1:∀b o o',s0.heap.get? b=some o->s1.heap.get? b=some o'->b∉bp X.stack->Bq.get? b=some o')(k2:∀b u o',H' b=some u->s1.heap.get? b=some o'->Bq.get? b=some o')(mx:H' ea=none)(iA:∃oe,bh.get? ea=some oe/\oe.dict=dd)(C9:PySem.W.kitCls X.K (.ref C) (.ref Pc)=some true)(Uu:ts (KI D i ea (.ref C) dd) (U'.set i (some (.ref ea))) (upd H' ea (mr ea (.ref C) dd))):
  wpAny (model X.prog X.w) X.A (handleBy (.ref ea) X.env (.ExceptHandler (some (.Name x np)) (some n) (sI::mv) sH::rest)) (SP X pins D) X.xe {s1 with heap:=bh}:=by
 have cx:∀b:Addr,b∉([]:List Addr):=λb=>by simp
 have I5:Inv X pins U' H' {s1 with heap:=bh}:=JY IX F iH hu k1 k2;obtain⟨oe,ve,Dc,Dd,Uv,_⟩:=iH.first;refine wpAny_handleBy_cons (codeAny_handlers_test (Calls.Name_function_global I5.ok.kind hg (Calls.loadGlobal_global (by rw[I5.ok.glob];exact I5.mod.glob.keeps I5.bk) hm ?_) cE)) (by intro q;cases q);refine RS (K:=X.K) (h:=bh) I5.aT Dc Dd C9 hB _ _ _ _ (λ_ _ q=>q) ?_;show codeAny _ _ _ _ _;refine codeAny_handlers_suite_as ?_;refine wpAny_mono (sy CZ (lands_againW (E:=λ_ _=>False) (Q:=λ_ bQ=>∃cI,bQ={s1 with heap:=cI}/\Heap.FlyingW Bq X.stack ea (.ref C) (.ref t) cI/\bh.UpToSlots cI) iH λcI dG fq=>⟨cI,rfl,dG,fq⟩)) (λ_ bQ zQ=>?_) (λ_ _ z=>z.1.elim);obtain⟨⟨cI,e6,dG,fq⟩,kd⟩:=zQ;subst e6;have I6:Inv X pins U' H' {s1 with heap:=cI}:=JY IX F dG (hu.trans fq) k1 k2;obtain⟨De,Uw,nU,sJ,sL,_⟩:=dG.first;have Ux:De.dict=dd:=by obtain⟨o5,e5,d5⟩:=iA;obtain⟨o6,e6,d6⟩:=kd ea o5 e5;have KJ:cI.get? ea=some o6:=e6;rw[nU]at KJ;cases KJ;exact d6.trans d5
 have Df:X.au.heap.get? ea=none:=IX.sE hex F.new;have fY:∀b o,s0.heap.get? b=some o->b≠ea:=λb o e z=>by rw[z,F.new]at e;cases e
 have I7:Inv X pins U' (upd H' ea (mr ea (.ref C) dd)) {s1 with heap:=cI}:=by
  refine I6.CF hex mx Df ?_ (λy c e=>?_) (λp hp=>?_) ⟨⟨De,Uw,nU,sJ,sL,Ux⟩,⟨De,nU⟩,λh1 h2 p k=>?_⟩
  .obtain⟨m,⟨o,_,_,ho,_⟩,_⟩:=IX.loc;exact(fY _ _ ho).symm
  .obtain⟨v,o,ho,_⟩:=IX.cell y c e;exact fY _ _ ho
  .exact fY _ _ (IX.pin p hp).1
  .obtain⟨o,vs,e1,e2,e3,e4⟩:=p;exact⟨o,vs,k o e1,e2,e3,e4⟩
 refine vR (v:=.ref ea) I7 hN hi (.inl hn) rfl (λs8 I8=>?_) (.inr hn);refine wpAny_mono (hs ea pins s8 _ _ _ I8.RZ Uu) (λf s9 q=>?_) (λ_ _ z=>z.elim);have wk:∀{U9:St}{H9:Hp},Inv X pins U9 H9 s9->H9 ea=some (mr ea (.ref C) dd)->Inv X pins U9 (upd H9 ea (mj ea (.ref C))) s9:=λJ e=>J.less e (λh ⟨o,vs,a1,a2,a3,_⟩=>⟨o,vs,a1,a2,a3⟩) λh1 h2 p k=>by obtain⟨o,vs,e1,e2,e3⟩:=p;exact⟨o,vs,k o e1,e2,e3⟩
 have behind:∀{U9:St}{H9:Hp},Inv X pins U9 H9 s9->(∀dO,Inv X pins (U9.set i none) H9 dO->SP X pins D f dO)->wpAny (model X.prog X.w) X.A (do bindName X.env n .none;unbindBehindTheSuite X.env n sH) (λ_ aU=>SP X pins D f aU) X.xe s9:=λ{U9 H9} J k=>by
  refine wpAny_bind (wpAny_bindName (vR (v:=.aq) J hN hi (.inl hn) rfl (λdO fM=>?_) (.inr hn)));obtain⟨m,sM,sN⟩:=id fM.loc;have oK:i<U9.length:=by rw[J.len];exact(List.getElem?_eq_some_iff.mp hi).1
  obtain⟨u,ru,lk⟩:=sN i n .aq hi (by rw[getElem?_set_self oK]) (.inl hn);have Uy:m n=some u:=by
   rcases lk with⟨_,q⟩|⟨q,_⟩
   .exact q
   .rcases q with q|q
    .have q':X.env.scope.names.lookup n=some .cell:=q;rw[hn]at q';cases q'
    .have q':X.env.scope.names.lookup n=some .free:=q;rw[hn]at q';cases q'
  unfold unbindBehindTheSuite;refine wpAny_onRaise (wpAny_unbindName_local (env:=X.env) hn sM Uy (by rw[J.ok.kind];rfl) λh' u' lN nH=>?_);have KL:=fM.unset hN hi sM sN lN nH;rw[List.set_set]at KL;exact k _ KL
 show wpAny _ _ _ _ _ _;cases f with
 |next=>obtain⟨U9,H9,I9,e9,q⟩:=q;exact behind (wk (I9.xE I8.ok) e9) λdO fM=>⟨_,_,fM,q⟩
 |brk=>obtain⟨U9,H9,I9,e9,q⟩:=q;exact behind (wk (I9.xE I8.ok) e9) λdO fM=>⟨_,_,fM,q⟩
 |cont=>obtain⟨U9,H9,I9,e9,q⟩:=q;exact behind (wk (I9.xE I8.ok) e9) λdO fM=>⟨_,_,fM,q⟩
 |ret u=>obtain⟨v,U9,H9,I9,r,e9,q⟩:=q;exact behind (wk (I9.xE I8.ok) e9) λdO fM=>⟨v,_,_,fM,r,q⟩
end
theorem Uz {P:Program}{w:World}{K:PySem.W.Frag}{mg:Str->Option Value}{base:Heap}{N:List Str}{qual:Str}{scope:Scope}{f:Addr}{cd:Value}{A:Around}{outer:List Env}{s:Shared}{H:Hp}{E:XK}{k:Nat}{fI C:Addr}{fd:FuncData}{ps:List Str}{sp:Sp}{fld x:Str}{e:Expr}{es:List Expr}{t:TA}{np av pos:Pos}(hg:Gl (cW (cY P w) P w K mg base N qual scope f cd A outer s H E) x)(hm:mg x=some (.ref C))(hI:xQ K C fI fld)(Fn:xl P w K mg base CX0 k fI fd ps sp)(hr:aZ (k+1) (cW (cY P w) P w K mg base N qual scope f cd A outer s H E).A)(hb:Binds K fd ps [])(ha:PA (cW (cY P w) P w K mg base N qual scope f cd A outer s H E) (e::es) t)(cE:autoParam ((x==("__debug__":Str))=false) aP2)(he:autoParam (starEach (e::es) (envOfC qual scope s.heap.objs.size f cd)=(false,eval e (envOfC qual scope s.heap.objs.size f cd))::starEach es (envOfC qual scope s.heap.objs.size f cd)) aP1)(cp:autoParam ((backTo av (starEach es (envOfC qual scope s.heap.objs.size f cd))).any (·.1)=false) aP1):
  PS (cW (cY P w) P w K mg base N qual scope f cd A outer s H E) (.Raise (some (.Call (.Name x np) (e::es) [] av)) none pos) (Kz C sp (E (.ref C)) t):=
 Uo rfl rfl hg hm hI Fn hr hb ha (λI he hd new hn hc q=>Kt I he hd new hn (by rw[hc];exact q)) cE he cp
section
variable {X:Cx}{pn:List (Addr×Obj)}
noncomputable def UA (C:Addr)(m:Str)(sp:Sp)(bB:List V)(W:St->Value->Option Addr->Hp->Prop)(ta:TE)(t:TA):TE:=λU H Q=>ta U H λx H1=>∃a dx fs,x= .ref a/\H1 a=some (.ins C dx fs)/\fs.lookup m=none/\t U H1 λvs H2=>sp (x::(vs++bB)) H2 Q λcls dd H'=>W U cls dd H'
theorem UB {W:St->Value->Option Addr->Hp->Prop}{k:Nat}{f C:Addr}{fd:FuncData}{ps:List Str}{sp:Sp}{bB:List V}{ds:List Value}{m:Str}{apos pos:Pos}{o e:Expr}{es:List Expr}{ta:TE}{t:TA}{pl:Sem Bool}(he:PE (iF X pn W) o ta)(c:eP X.K C)(hm:Meth X.K C m f)(F:xl X.prog X.w X.K X.mg X.base (cY X.prog X.w) k f fd ps sp)(hr:aZ k X.A)(hb:Binds X.K fd ps ds)(hd:Vals bB ds)(ha:PA (iF X pn W) (e::es) t)(i6:autoParam (starEach (e::es) X.env=(false,eval e X.env)::starEach es X.env) aP1)(cp:autoParam ((backTo pos (starEach es X.env)).any (·.1)=false) aP1)(ht:autoParam (eval (.Call (.Attribute o m apos) (e::es) [] pos) X.env=(do
   let ov<-eval o X.env
   standAt apos.atName
   let(f,first)<-holding [ov] (getMethod ov m pl)
   callWith pos f first (backTo pos (starEach (e :: es) X.env)) (backToKw pos (keywordEach [] X.env)))) aP1) :
  PE (iF X pn W) (.Call (.Attribute o m apos) (e::es) [] pos) (UA C m sp bB W ta t):=by
 intro pins s U H Q I h;refine PySem.W.methodCall_KW (pl:=pl) (ai (he pins s U H _ I h) λu s1 zQ=>?_) ht;obtain⟨x,H1,I1,rx,a,dx,fs,ex,ea,l,q⟩:=zQ;subst ex;obtain rfl:u=Value.ref a:=rx;refine wF I1 ea c hm l ?_;refine PySem.W.callWith_K (first:=[.ref a]) (h₀:=X.base) I.ok.mod.eK hm.kp (ai (ha pos pins s1 U H1 _ I1 q) λus s2 ⟨vs,H2,I2,r,q2⟩=>⟨I2.aT,?_⟩) i6 cp;exact Sa (us:=.ref a::us) (vs:=.ref a::vs) F hr hb hd I2 (Us I2) (.cons rfl r) q2
end
noncomputable def UC (K:PySem.W.Frag)(P1:Addr)(i:Nat)(tb:(St->Value->Option Addr->Hp->Prop)->TS)(ts:TS):TS:=λD U H=>∃W:St->Value->Option Addr->Hp->Prop,tb W D U H/\∀U' cls dd H' ea,W U' cls dd H'->H' ea=none->∃C,cls= .ref C/\PySem.W.kitCls K (.ref C) (.ref P1)=some true/\ts (KI D i ea cls dd) (U'.set i (some (.ref ea))) (upd H' ea (mr ea cls dd))
section
variable {X:Cx}
theorem UD {body:List Stmt}{x1 n:Str}{i:Nat}{Dg xU pos:Pos}{b1:Stmt}{KN:List Stmt}{P1:Addr}{tb:(St->Value->Option Addr->Hp->Prop)->TS}{KO:TS}(iG:X.stack=X.env::X.outer)(rZ:X.env.frame=some X.env.locals)(hex:X.ex=[])(UE:Gl X x1)(xD:X.mg x1=some (.ref P1))(UG:PySem.W.mroIn X.K P1 (.type "BaseException")=some true)(hN:X.N.Nodup)(hi:X.N[i]?=some n)(hn:X.env.scope.names.lookup n=some .local)(hb:∀pn W,cL (iF X pn W) body (tb W))(xV:∀ea,cL (pE X ea) (b1::KN) KO)(xR:autoParam ((x1==("__debug__":Str))=false) aP2):
  PS X (.Try body [.ExceptHandler (some (.Name x1 Dg)) (some n) (b1::KN) xU] [] [] pos) (UC X.K P1 i tb KO):=by
 intro pins s U H D I h;obtain⟨W,h1,h2⟩:=h;refine wpAny_Try_except ?_;have back:∀{bG:List (Addr×Obj)}{U':St}{H':Hp}{s':Shared},Inv (iF X (X.pn++pins) W) bG U' H' s'->Inv X pins U' H' s':=λJ=>J.KH.JX λ_ hp=>hp;refine wpAny_mono (hb (X.pn++pins) W pins s U H D (I.Ur λ_ hp=>hp) h1) (λf s1 q=>?_) (λe s1 q=>?_)
 .cases f with
  |next=>obtain⟨U1,H1,I1,q⟩:=q;exact wpAny_execs_nil ⟨U1,H1,back I1,q⟩
  |brk=>obtain⟨U1,H1,I1,q⟩:=q;exact⟨U1,H1,back I1,q⟩
  |cont=>obtain⟨U1,H1,I1,q⟩:=q;exact⟨U1,H1,back I1,q⟩
  |ret u=>obtain⟨v,U1,H1,I1,r,q⟩:=q;exact⟨v,U1,H1,back I1,r,q⟩
 .obtain⟨bG,U',H1,s0,ea,cls,dd,H',rfl,I0,F,⟨oe,Dc,iA⟩,wW⟩:=q;have IX:Inv X pins U' H1 s0:=I0.JX λ_ hp=>hp;obtain⟨Bq,t,hf,k1,k2⟩:=F.JT;have mx:H' ea=none:=by
   cases q:H' ea with
   |none=>rfl
   |some u=>obtain⟨o,e⟩:=(F.ah ea u q).there;have z:=k2 ea u o q e;rw[hf.2.1]at z;cases z
  obtain⟨C,rfl,m1,q1⟩:=h2 U' cls dd H' ea wW mx;have frames:X.A.frames=some (X.env::X.outer):=by rw[IX.ok.frames,iG]
  have nP:Heap.FlyingW Bq (X.env::X.outer) ea (.ref C) (.ref t) s1.heap:=by rw[<-iG];exact hf
  refine wpAny_mono (sy Ko (wpAny_looks_onW (E:=λ_ _=>False) (Q:=λ_ bQ=>∃cF,bQ={s1 with heap:=cF}/\Heap.HeldW Bq (X.env::X.outer) ea (.ref C) (.ref t) X.env.locals cF/\s1.heap.UpToSlots cF) frames rZ nP λcF a b=>⟨cF,rfl,a,b⟩)) (λ_ bQ zQ=>?_) (λ_ _ z=>z.1.elim);obtain⟨⟨cF,e4,iI,nW⟩,UH⟩:=zQ;subst e4;refine wpAny_mono (sy CZ (wpAny_landsW (E:=λ_ _=>False) (Q:=λ_ bQ=>∃bh,bQ={s1 with heap:=bh}/\Heap.FlyingW Bq (X.env::X.outer) ea (.ref C) (.ref t) bh/\cF.UpToSlots bh) iI λbh a b=>⟨bh,rfl,a,b⟩)) (λ_ bQ zQ=>?_) (λ_ _ z=>z.1.elim);obtain⟨⟨bh,e5,nX,nY⟩,UI⟩:=zQ;subst e5;have iH:Heap.FlyingW Bq X.stack ea (.ref C) (.ref t) bh:=by rw[iG];exact nX
  obtain⟨o4,e4,d4⟩:=UH ea oe Dc;obtain⟨o5,e5,d5⟩:=UI ea o4 e4;exact Ut iG hex UE xD UG hN hi hn xV xR IX F iH (nW.trans nY) k1 k2 mx ⟨o5,e5,(d5.trans d4).trans iA⟩ m1 q1
end
noncomputable def xW {α:Type}:List α->List α->List α
 |[a,b],[c,d,e,f]=>[a,b,c,d,e,f]
 |_,_=>[]
theorem UJ {vs:List V}{us:List Value}{zs:List V}{ws:List Value}(r1:Vals vs us)(r2:Vals zs ws):Vals (xW vs zs) (xW us ws):=by
 cases r1 with
 |nil=>exact .nil
 | cons a r1=>
  cases r1 with
  |nil=>exact .nil
  | cons b r1=>
   cases r1 with
   |cons _ _=>exact .nil
   | nil=>
    cases r2 with
    |nil=>exact .nil
    | cons c r2=>
     cases r2 with
     |nil=>exact .nil
     | cons d r2=>
      cases r2 with
      |nil=>exact .nil
      | cons e r2=>
       cases r2 with
       |nil=>exact .nil
       |cons f r2=>
        cases r2 with
        |nil=>exact .cons a (.cons b (.cons c (.cons d (.cons e (.cons f .nil)))))
        |cons _ _=>exact .nil
theorem UK {lo:Int}{n:Nat}{D:Addr}{g:TG}{ti:TT}{tk tv:TE}{U0:St}{H0:Hp}{QF:Hp->Prop}(Pv:Nat->St->Hp->Prop)(h0:Pv 0 U0 H0)(hs:∀i U H,i<n->Pv i U H->g (.int (lo+i)) U H λU2 H2=>ti U2 H2 λb H3=>if b=true then tk U2 H3 λy H4=>tv U2 H4 λz H5=>∃H6,fe H5 D y z H6/\Pv (i+1) U2 H6 else Pv (i+1) U2 H3)(hd:∀U H,Pv n U H->QF H):∃W:Nat->Nat->St->Hp->Prop,(∃m,W 0 m U0 H0)/\CQ (i7 lo n) g ti tk tv D QF W:=by
 refine⟨λi m U H=>m=n-i/\i<=n/\Pv i U H,⟨n,by simp,zero_le _,h0⟩,?_⟩
 rintro i m U H ⟨rfl,hi,p⟩
 by_cases aQ:i<n
 .refine .inr ⟨aQ,Pv (i+1),λU' H' p'=>⟨n-(i+1),by lia,rfl,aQ,p'⟩,λx H' y=>?_⟩;obtain⟨e,y⟩:=y;subst e y;exact hs i U _ aQ p
 .have e:i=n:=by lia
  subst e;exact .inl ⟨le_refl _,hd U H p⟩
theorem KP (val:Nat->Int):∀k i,i<=k->val i<=val (argBest (λi j=>decide (val i>val j)) k)
 |0,i,h=>by
  have:i=0:=by lia
  subst this;exact Int.le_refl _
 | k+1,i,h=>by
  have ih:=KP val k;unfold argBest;by_cases z:val (k+1)>val (argBest (λi j=>decide (val i>val j)) k)
  .rw[if_pos (decide_eq_true z)];by_cases q:i=k+1
   .rw[q];exact Int.le_refl _
   .have:=ih i (by lia);lia
  .rw[if_neg (by simpa using z)];by_cases q:i=k+1
   .rw[q];lia
   .exact ih i (by lia)
theorem sO {α β:Type}{R:α->β->Prop}:∀{xs:List α}{ys:List β}{i:Nat}{y:β},Paired R xs ys->ys[i]?=some y->∃x,xs[i]?=some x/\R x y:=λ{xs ys i y} q e=>by
 induction q generalizing i with
 |nil=>simp at e
 |cons h _ ih=>
  cases i with
  |zero=>cases Option.some.inj e;exact⟨_,rfl,h⟩
  |succ i=>exact ih (i:=i) e
section
variable {X:Cx}
theorem UL (hc:X.calm=true):fT X (.builtin "max") (λxs H Q=>∃(p:Addr)(ns:List Int),xs=[.ref p]/\af X.K H p (ns.map V.int)/\0<ns.length/\∀M,M∈ns->(∀a∈ns,a<=M)->Q (.int M) H):=by
 intro pins s U H xs us Q I r h;obtain⟨p,ns,rfl,hq,hne,q⟩:=h;obtain⟨u,rfl,rx⟩:=vals1 r;cases rx;obtain⟨its,r',pl,hz⟩:=I.list hq;have hlen:ns.length=its.length:=by have:=r'.length;rw[length_map]at this;exact this
 have hv:∀i v,its.toArray[i]?=some v->∃t,v=Value.int (ns.getD i 0) t:=λi v e=>by
  have e':its[i]?=some v:=by simpa using e
  obtain⟨y,ey,ry⟩:=sO r' e';rw[getElem?_map]at ey;cases hn:ns[i]? with
  |none=>rw[hn]at ey;cases ey
  |some n=>rw[hn]at ey;cases ey;obtain⟨t,et⟩:=ry;refine⟨t,?_⟩;rw[et,getD_eq_getElem?_getD,hn];rfl
 have hp:p≠s.heap.objs.size:=by obtain⟨o,ho,_⟩:=pl.isList;exact ne_of_lt (Heap.lt_size ho)
 refine call_max_walk (wpAny_pyIter_list pl.isList ⟨s.heap.objs.size,_,_,_,_,_,_,rfl,Walks.list (A:=X.A.in1) (show X.A.in1.handled=none from I.ok.hd hc) s.heap.objs.size p hp its.toArray,⟨⟨_,Heap.get?_push_size _ rfl,rfl,rfl⟩,?_⟩,λb hb=>?_,by simpa using(by lia:0<its.length),CmpOf.ints_gt (λi=>ns.getD i 0) hv,λv h' tk hP hk=>?_⟩)
 .obtain⟨o,ho,hr⟩:=pl.isList;exact⟨o,Heap.get?_push_of_some _ ho,hr⟩
 .rw[Heap.size_push];rcases mem_cons.mp hb with rfl|hb
  .exact lt_succ_self _
  .rw[mem_singleton.mp hb];obtain⟨o,ho,_⟩:=pl.isList;exact Nat.lt_succ_of_lt (Heap.lt_size ho)
 .obtain⟨t,rfl⟩:=hv _ _ hP;refine⟨V.int (ns.getD (argBest (λi j=>decide (ns.getD i 0>ns.getD j 0)) (its.toArray.size-1)) 0),H,I.kept (t':=tk) λb o e=>hk b o (λz=>?_) (Heap.get?_push_of_some _ e),⟨t,rfl⟩,q _ ?_ λa ha=>?_⟩
  .have:b=s.heap.objs.size:=by simpa using z
   have lt:=Heap.lt_size e;rw[this]at lt;exact lt_irrefl _ lt
  .have hb:=Kh (λi j=>decide (ns.getD i 0>ns.getD j 0)) (its.toArray.size-1);have hs:its.toArray.size=its.length:=by simp
   generalize argBest (λi j=>decide (ns.getD i 0>ns.getD j 0)) (its.toArray.size-1)=j at hb;have hj:j<ns.length:=by lia
   rw[getD_eq_getElem?_getD,getElem?_eq_getElem hj];exact List.getElem_mem hj
  .obtain⟨i,hi,rfl⟩:=mem_iff_getElem.mp ha;have:=KP (λi=>ns.getD i 0) (its.toArray.size-1) i (by simp;lia);rw[show ns.getD i 0=ns[i]by rw[getD_eq_getElem?_getD,getElem?_eq_getElem hi];rfl]at this;exact this
end
structure KQ (K:PySem.W.Frag)(C:Addr)(m:Str)(f:Addr):Prop where
 sp:PySem.W.specialIn K (.ref C) "__getattribute__"=some (some (.builtin "type.__getattribute__"))
 rd:PySem.W.readsIn K C (.type "type")=true
 at_:PySem.W.findCls K (.ref C) (.type "type") m=some (.val (.ref f))
 kp:PySem.W.keepIn K (.ref f)=true
section
variable {X:Cx}{CX:eQ}{E:XK}{k:Nat}{f C:Addr}{fd:FuncData}{ps:List Str}{sp:Sp}{bB:List V}{ds:List Value}{x m:Str}{p apos pos:Pos}{e:Expr}{es:List Expr}{t:TA}
theorem UM {pl:Sem Bool}(hg:Gl X x)(hC:X.mg x=some (.ref C))(hm:KQ X.K C m f)(F:xl X.prog X.w X.K X.mg X.base CX k f fd ps sp)(hr:aZ k X.A)(hb:Binds X.K fd ps ds)(hd:Vals bB ds)(hx:Passes CX X E)(ha:PA X (e::es) t)(cE:autoParam ((x==("__debug__":Str))=false) aP2)(i6:autoParam (starEach (e::es) X.env=(false,eval e X.env)::starEach es X.env) aP1)(cp:autoParam ((backTo pos (starEach es X.env)).any (·.1)=false) aP1)(ht:autoParam (eval (.Call (.Attribute (.Name x p) m apos) (e::es) [] pos) X.env=(do
   let ov<-eval (.Name x p) X.env
   standAt apos.atName
   let(f,first)<-holding [ov] (getMethod ov m pl)
   callWith pos f first (backTo pos (starEach (e :: es) X.env)) (backToKw pos (keywordEach [] X.env)))) aP1) :
  PE X (.Call (.Attribute (.Name x p) m apos) (e::es) [] pos) (BI sp bB E t):=by
 intro pins s U H Q I h;refine PySem.W.methodCall_KW (pl:=pl) (ai (lO (Q:=EP X pins U λv H'=>v=V.ref C/\H'=H) I hg hC ⟨V.ref C,H,I,rfl,rfl,rfl⟩ cE) λu s1 zQ=>?_) ht;obtain⟨y,H1,I1,ry,ey,eH⟩:=zQ;subst ey eH;obtain rfl:u=Value.ref C:=ry;refine PySem.W.method_cls I1.aT hm.sp (PySem.W.cls_value I1.aT hm.rd hm.at_ rfl ?_);have I2:=I1.tok (s1.toks+1);refine PySem.W.callWith_K (first:=[]) (h₀:=X.base) I.ok.mod.eK hm.kp (ai (ha pos pins _ U H1 _ I2 h) λus s2 ⟨vs,H2,I3,r,q2⟩=>⟨I3.aT,?_⟩) i6 cp;exact wG F hr hb hd hx I3 r q2
end
open AutoSeq1 (wpAny_loadPart')
theorem KS {l:Addr}{its:List Value}{n:Nat}{x:Value}{e:Value->Bool}{j:Nat}{y:Value}(hj:its[j]?=some y)(hit:e y=true)(hz:its.length<=sizeLine):∀(d i:Nat),i+d=j->(∀m z,i<=m->m<j->its[m]?=some z->e z=false)->Meets (Builtin.«list.remove.loop» ⟨[.ref l,x,rawInt i],[]⟩) (λA R s=>s.heap.get? l=some {cls:=.type "list",dict:=none,data:=.seq its.toArray n,slots:=#[]}/\(∀u∈its,SeqAt.EqAt A.in1 s u x (e u))/\R (.ok (.ret .none)) {s with heap:=s.heap.update l (Obj.mapSeq λxs=>xs.eraseIdxIfInBounds j)})
 | d,i,hd,kK=>by
  intro prog w A R s h;obtain⟨hp,g,dp,tk,os⟩:=s;obtain⟨hl,he,h⟩:=h;have lt:i<its.length:=by have:=(List.getElem?_eq_some_iff.mp hj).1;lia
  obtain⟨v,hv⟩:∃v,its[i]?=some v:=⟨_,getElem?_eq_getElem lt⟩;have hi:its.toArray[((i:Nat):Int).toNat]?=some v:=by simpa using hv
  have xV:its.toArray.size<=sizeLine:=by rw[size_toArray];exact hz
  wp_walk using wpAny_loadPart' hl;rw[hi];refine wpAny_bind (he v (mem_of_getElem? hv) prog w _ _ ?_);cases d with
  |zero=>
   have e1:i=j:=by lia
   subst e1;rw[hj]at hv;cases hv;rw[hit];wp_walk using wpAny_loadPart' hl;have small:(Obj.mapSeq (λx=>x.eraseIdxIfInBounds ((i:Nat):Int).toNat) {cls:=Value.type "list",data:=Data.seq its.toArray n}).data.pastItsLine=none:=by refine pastItsLine_seq (le_trans ?_ (le_succ_of_le hz));show(its.toArray.eraseIdxIfInBounds ((i:Nat):Int).toNat).size<=its.length;rw[List.eraseIdxIfInBounds_toArray,size_toArray];exact length_eraseIdx_le _ _
   rw[small];wp_walk;exact h
  |succ d=>
   rw[kK i v (le_refl _) (by lia) hv];wp_walk;have ec:((i:Int)+1)=((i+1:Nat):Int):=by push_cast;rfl
   rw[ec];refine⟨plainId_quiet MeetsSeq.plain_remove_loop _,codeAny_builtin MeetsSeq.entry_remove_loop ?_⟩;rw[Around.under_plainId MeetsSeq.plain_remove_loop _];exact KS hj hit hz d (i+1) (by lia) (λm z h1 h2=>kK m z (by lia) h2) prog w A R _ ⟨hl,he,h⟩
theorem UN {l:Addr}{its:List Value}{n:Nat}{x:Value}{e:Value->Bool}{j:Nat}{y:Value}(hj:its[j]?=some y)(hit:e y=true)(hz:its.length<=sizeLine)(kK:∀m z,m<j->its[m]?=some z->e z=false):Meets (Builtin.«list.remove» ⟨[.ref l,x],[]⟩) (λA R s=>s.heap.get? l=some {cls:=.type "list",dict:=none,data:=.seq its.toArray n,slots:=#[]}/\(∀u∈its,SeqAt.EqAt A.in1 s u x (e u))/\R (.ok (.ret .none)) {s with heap:=s.heap.update l (Obj.mapSeq λxs=>xs.eraseIdxIfInBounds j)}):=by
 intro prog w A R s h;obtain⟨hp,g,dp,tk,os⟩:=s;have go:=KS (l:=l) (n:=n) (x:=x) hj hit hz j 0 (Nat.zero_add j) (λm z _ h2=>kK m z h2) prog w A R _ h;wp_walk using wpAny_loadPart' h.1;refine⟨plainId_quiet MeetsSeq.plain_remove_loop _,codeAny_builtin MeetsSeq.entry_remove_loop ?_⟩;rw[Around.under_plainId MeetsSeq.plain_remove_loop _];exact go
noncomputable def UO (K:PySem.W.Frag):V->List V->Hp->VK->Prop:=λx vs H Q=>∃l xs y n bR,x= .ref l/\vs=[y]/\H l=some (.lst xs)/\jM K H y n/\Paired (jM K H) xs bR/\n∈bR/\Q .aq (upd H l (.lst (xs.eraseIdx (bR.idxOf n))))
section
variable {X:Cx}
theorem KU (hu:X.A.units+64<cLine):BU X "list.remove" (UO X.K):=by
 intro pins s U H x vs v us Q I rx rv h;obtain⟨l,xs,y,n,bR,rfl,rfl,hH,hy,hs,hm,q⟩:=h;cases rx;obtain⟨u,rfl,ru⟩:=rv.one;obtain⟨z,its,k,r,hl,e⟩:=I.oU hH;have lx:=Paired.length hs;have hi:bR.idxOf n<bR.length:=List.idxOf_lt_length_iff.mpr hm;obtain⟨w,hw,cz⟩:=r.get (getElem?_eq_getElem (show bR.idxOf n<xs.length by lia));have is:∀(m:Nat)(v:Value),its[m]?=some v->∃t,bR[m]?=some t/\gA X.K H n v=decide (t=n):=λm v hv=>by obtain⟨x',fZ,UP⟩:=sO r hv;obtain⟨t,ht,q'⟩:=zi hs fZ;exact⟨t,ht,CM I q' UP⟩
 have yes:gA X.K H n w=true:=by obtain⟨t,ht,q'⟩:=is _ _ hw;rw[getElem?_eq_getElem hi,List.getElem_idxOf hi]at ht;rw[q',<-Option.some.inj ht];exact decide_eq_true rfl
 refine call_meets F.slot_list_remove ⟨_,e,rfl⟩ F.entry_list_remove (F.args_list_remove_2 _ _) (UN (e:=gA X.K H n) hw yes (by lia) (λm v aQ hv=>?_)) ⟨e,λv hv=>CN I ?_ hy ru r hs v hv,?_⟩
 .obtain⟨t,ht,q'⟩:=is _ _ hv;rw[q'];refine decide_eq_false λz=>?_;subst z;obtain⟨a1,b1⟩:=List.getElem?_eq_some_iff.mp ht;have no:=List.not_of_lt_findIdx (p:=(·==t)) (xs:=bR) (i:=m) aQ;rw[b1]at no;simp at no
 .first|(have e:X.A.in1.units=X.A.units+1:=rfl;lia)|(have e:X.A.in1.units=X.A.units:=rfl;lia)|(have e:=Around.units_in1 X.A;lia)
 .refine⟨.aq,_,I.BV (its':=its.eraseIdx (bR.idxOf n)) hH e ?_ (r.eraseIdx _) ?_,rfl,q⟩
  .show its.toArray.eraseIdxIfInBounds _=(its.eraseIdx _).toArray;rw[List.eraseIdxIfInBounds_toArray]
  .have:=length_eraseIdx_le xs (bR.idxOf n);lia
end
section
variable {K:PySem.W.Frag}{x qual:Str}{st:Stmt}{f:Addr}{fd:FuncData}{p1 p2 p3 p4 p5:Str}
noncomputable abbrev sP (x qual:Str)(st:Stmt)(ps:List Str)(us:List Value):Prop:=∀(kV doc pm:Value)(an:Option Addr)(aH ct:Value),bindArgs (PySem.W.fnOf x qual (oW st) (gP st) (jq st) .none kV doc pm an aH ct) ⟨us,[]⟩=pure (ps.zip us)
theorem eS (F:ax K x qual st f fd)(h:∀a,sP x qual st [p1] [a]:=by exact λ_ _ _ _ _ _ _=>rfl):Binds K fd [p1] []:=F.binds λkV doc pm an aH ct us hl=>by obtain⟨a,rfl⟩:=length_eq_one_iff.mp hl;exact h a kV doc pm an aH ct
theorem jN {us:List Value}{n:Nat}(h:us.length=n+1):∃a r,us=a::r/\r.length=n:=by
 cases us with
 |nil=>cases h
 |cons a r=>exact⟨a,r,rfl,Nat.succ.inj h⟩
theorem cy (F:ax K x qual st f fd)(h:∀a b,sP x qual st [p1,p2] [a,b]:=by exact λ_ _ _ _ _ _ _ _=>rfl):Binds K fd [p1,p2] []:=F.binds λkV doc pm an aH ct us hl=>by obtain⟨a,r1,rfl,h1⟩:=jN hl;obtain⟨b,rfl⟩:=length_eq_one_iff.mp h1;exact h a b kV doc pm an aH ct
theorem gT (F:ax K x qual st f fd)(h:∀a b c,sP x qual st [p1,p2,p3] [a,b,c]:=by exact λ_ _ _ _ _ _ _ _ _=>rfl):Binds K fd [p1,p2,p3] []:=F.binds λkV doc pm an aH ct us hl=>by obtain⟨a,r1,rfl,h1⟩:=jN hl;obtain⟨b,r2,rfl,h2⟩:=jN h1;obtain⟨c,rfl⟩:=length_eq_one_iff.mp h2;exact h a b c kV doc pm an aH ct
theorem KW (F:ax K x qual st f fd)(h:∀a b c d,sP x qual st [p1,p2,p3,p4] [a,b,c,d]:=by exact λ_ _ _ _ _ _ _ _ _ _=>rfl):Binds K fd [p1,p2,p3,p4] []:=F.binds λkV doc pm an aH ct us hl=>by obtain⟨a,r1,rfl,h1⟩:=jN hl;obtain⟨b,r2,rfl,h2⟩:=jN h1;obtain⟨c,r3,rfl,h3⟩:=jN h2;obtain⟨d,rfl⟩:=length_eq_one_iff.mp h3;exact h a b c d kV doc pm an aH ct
theorem KY (F:ax K x qual st f fd)(h:∀a b c d e,sP x qual st [p1,p2,p3,p4,p5] [a,b,c,d,e]:=by exact λ_ _ _ _ _ _ _ _ _ _ _=>rfl):Binds K fd [p1,p2,p3,p4,p5] []:=F.binds λkV doc pm an aH ct us hl=>by obtain⟨a,r1,rfl,h1⟩:=jN hl;obtain⟨b,r2,rfl,h2⟩:=jN h1;obtain⟨c,r3,rfl,h3⟩:=jN h2;obtain⟨d,r4,rfl,h4⟩:=jN h3;obtain⟨e,rfl⟩:=length_eq_one_iff.mp h4;exact h a b c d e kV doc pm an aH ct
theorem xX {k1:Str}(h:∀(s:Shared) a b,BindsTo s fd ⟨[a],[(k1,b)]⟩ [(p1,a),(p2,b)]):gN K fd [p1,p2] [k1] gR gR:=⟨λs us ws _ hl=>by rcases us with _|⟨a,_|⟨_,_⟩⟩<;>rcases ws with _|⟨b,_|⟨_,_⟩⟩;all_goals first|exact h s a b|(cases hl),λr1 r2=>RK r1 r2⟩
theorem UQ {k1 k2:Str}(h:∀(s:Shared) a b c,BindsTo s fd ⟨[a],[(k1,b),(k2,c)]⟩ [(p1,a),(p2,b),(p3,c)]):gN K fd [p1,p2,p3] [k1,k2] pF pF:=⟨λs us ws _ hl=>by rcases us with _|⟨a,_|⟨_,_⟩⟩<;>rcases ws with _|⟨b,_|⟨c,_|⟨_,_⟩⟩⟩;all_goals first|exact h s a b c|(cases hl),λr1 r2=>Sv r1 r2⟩
end
end L2
set_option Elab.async false
set_option linter.all false
set_option maxRecDepth 100000
namespace M
structure O where
 p:Int
 n:Int
 g:Int
 m:Int
 deriving DecidableEq
noncomputable def xq (q:Int)(o:O):Bool:=decide (0<=o.p/\o.p<=q-1/\0<=o.g/\o.g<=q-1/\o.p≠o.g/\0<=o.n/\o.n<=99/\1<=o.m/\o.m<=1000)
theorem xy {q:Int}{o:O}:xq q o=true↔(0<=o.p/\o.p<=q-1/\0<=o.g/\o.g<=q-1/\o.p≠o.g/\0<=o.n/\o.n<=99/\1<=o.m/\o.m<=1000):=by unfold xq;rw[decide_eq_true_iff]
end M
namespace M
open PySem L2
theorem cu:0<=sizeLine:=by decide
theorem jO:1<=sizeLine:=by decide
theorem my:2<=sizeLine:=by decide
theorem kW:3<=sizeLine:=by decide
theorem Dh:4<=sizeLine:=by decide
theorem UR:5<=sizeLine:=by decide
theorem KZ:6<=sizeLine:=by decide
theorem US:7<=sizeLine:=by decide
theorem UT:9<=sizeLine:=by decide
theorem K0:11<=sizeLine:=by decide
theorem aB {X:Cx}{e0 e1:Expr}{t0 t1:TE}(h0:PE X e0 t0)(h1:PE X e1 t1)(s0:autoParam (isStar e0=false) aP1)(s1:autoParam (isStar e1=false) aP1):PA X [e0,e1] (xp t0 (xp t1 gM)):=by refine jc h0 ?_ s0;refine jc h1 ?_ s1;exact jf
theorem bT {X:Cx}{e0 e1 e2:Expr}{t0 t1 t2:TE}(h0:PE X e0 t0)(h1:PE X e1 t1)(h2:PE X e2 t2)(s0:autoParam (isStar e0=false) aP1)(s1:autoParam (isStar e1=false) aP1)(s2:autoParam (isStar e2=false) aP1):PA X [e0,e1,e2] (xp t0 (xp t1 (xp t2 gM))):=by refine jc h0 ?_ s0;refine jc h1 ?_ s1;refine jc h2 ?_ s2;exact jf
theorem Di {X:Cx}{e0 e1 e2 e3:Expr}{t0 t1 t2 t3:TE}(h0:PE X e0 t0)(h1:PE X e1 t1)(h2:PE X e2 t2)(h3:PE X e3 t3)(s0:autoParam (isStar e0=false) aP1)(s1:autoParam (isStar e1=false) aP1)(s2:autoParam (isStar e2=false) aP1)(s3:autoParam (isStar e3=false) aP1):PA X [e0,e1,e2,e3] (xp t0 (xp t1 (xp t2 (xp t3 gM)))):=by refine jc h0 ?_ s0;refine jc h1 ?_ s1;refine jc h2 ?_ s2;refine jc h3 ?_ s3;exact jf
theorem Dj {X:Cx}{e0 e1 e2 e3 e4:Expr}{t0 t1 t2 t3 t4:TE}(h0:PE X e0 t0)(h1:PE X e1 t1)(h2:PE X e2 t2)(h3:PE X e3 t3)(h4:PE X e4 t4)(s0:autoParam (isStar e0=false) aP1)(s1:autoParam (isStar e1=false) aP1)(s2:autoParam (isStar e2=false) aP1)(s3:autoParam (isStar e3=false) aP1)(s4:autoParam (isStar e4=false) aP1):PA X [e0,e1,e2,e3,e4] (xp t0 (xp t1 (xp t2 (xp t3 (xp t4 gM))))):=by refine jc h0 ?_ s0;refine jc h1 ?_ s1;refine jc h2 ?_ s2;refine jc h3 ?_ s3;refine jc h4 ?_ s4;exact jf
theorem UU {X:Cx}{e0 e1 e2 e3 e4 e5:Expr}{t0 t1 t2 t3 t4 t5:TE}(h0:PE X e0 t0)(h1:PE X e1 t1)(h2:PE X e2 t2)(h3:PE X e3 t3)(h4:PE X e4 t4)(h5:PE X e5 t5)(s0:autoParam (isStar e0=false) aP1)(s1:autoParam (isStar e1=false) aP1)(s2:autoParam (isStar e2=false) aP1)(s3:autoParam (isStar e3=false) aP1)(s4:autoParam (isStar e4=false) aP1)(s5:autoParam (isStar e5=false) aP1):PA X [e0,e1,e2,e3,e4,e5] (xp t0 (xp t1 (xp t2 (xp t3 (xp t4 (xp t5 gM)))))):=by refine jc h0 ?_ s0;refine jc h1 ?_ s1;refine jc h2 ?_ s2;refine jc h3 ?_ s3;refine jc h4 ?_ s4;refine jc h5 ?_ s5;exact jf
theorem UW {X:Cx}{e0 e1 e2 e3 e4 e5 e6:Expr}{t0 t1 t2 t3 t4 t5 t6:TE}(h0:PE X e0 t0)(h1:PE X e1 t1)(h2:PE X e2 t2)(h3:PE X e3 t3)(h4:PE X e4 t4)(h5:PE X e5 t5)(h6:PE X e6 t6)(s0:autoParam (isStar e0=false) aP1)(s1:autoParam (isStar e1=false) aP1)(s2:autoParam (isStar e2=false) aP1)(s3:autoParam (isStar e3=false) aP1)(s4:autoParam (isStar e4=false) aP1)(s5:autoParam (isStar e5=false) aP1)(s6:autoParam (isStar e6=false) aP1):PA X [e0,e1,e2,e3,e4,e5,e6] (xp t0 (xp t1 (xp t2 (xp t3 (xp t4 (xp t5 (xp t6 gM))))))):=by refine jc h0 ?_ s0;refine jc h1 ?_ s1;refine jc h2 ?_ s2;refine jc h3 ?_ s3;refine jc h4 ?_ s4;refine jc h5 ?_ s5;refine jc h6 ?_ s6;exact jf
theorem UX {X:Cx}{e0 e1 e2 e3 e4 e5 e6 e7 e8 e9 sQ:Expr}{t0 t1 t2 t3 t4 t5 t6 t7 t8 t9 Dk:TE}(h0:PE X e0 t0)(h1:PE X e1 t1)(h2:PE X e2 t2)(h3:PE X e3 t3)(h4:PE X e4 t4)(h5:PE X e5 t5)(h6:PE X e6 t6)(h7:PE X e7 t7)(h8:PE X e8 t8)(h9:PE X e9 t9)(UY:PE X sQ Dk)(s0:autoParam (isStar e0=false) aP1)(s1:autoParam (isStar e1=false) aP1)(s2:autoParam (isStar e2=false) aP1)(s3:autoParam (isStar e3=false) aP1)(s4:autoParam (isStar e4=false) aP1)(s5:autoParam (isStar e5=false) aP1)(s6:autoParam (isStar e6=false) aP1)(s7:autoParam (isStar e7=false) aP1)(s8:autoParam (isStar e8=false) aP1)(s9:autoParam (isStar e9=false) aP1)(dO:autoParam (isStar sQ=false) aP1):PA X [e0,e1,e2,e3,e4,e5,e6,e7,e8,e9,sQ] (xp t0 (xp t1 (xp t2 (xp t3 (xp t4 (xp t5 (xp t6 (xp t7 (xp t8 (xp t9 (xp Dk gM))))))))))):=by refine jc h0 ?_ s0;refine jc h1 ?_ s1;refine jc h2 ?_ s2;refine jc h3 ?_ s3;refine jc h4 ?_ s4;refine jc h5 ?_ s5;refine jc h6 ?_ s6;refine jc h7 ?_ s7;refine jc h8 ?_ s8;refine jc h9 ?_ s9;refine jc UY ?_ dO;exact jf
noncomputable def top (i:Nat):Stmt:=PySem.Challenge.pw_manypurses_k07_whole_letters.main.body.getD i (.Pass ⟨0,0,0,0⟩)
noncomputable abbrev xY:Stmt:=top 2
noncomputable abbrev xZ:Stmt:=top 3
noncomputable abbrev yA:Stmt:=top 30
noncomputable abbrev yB:Stmt:=top 31
noncomputable abbrev sR:Stmt:=top 4
noncomputable abbrev uj:Stmt:=top 5
noncomputable abbrev gr:Stmt:=top 9
noncomputable abbrev yC:Stmt:=top 10
noncomputable abbrev Dl:Stmt:=top 11
noncomputable abbrev Dm:Stmt:=top 12
noncomputable abbrev yD:Stmt:=top 41
noncomputable abbrev gq:Stmt:=top 42
noncomputable abbrev y4:Stmt:=inClass (top 19) 0
noncomputable abbrev Dn:Stmt:=top 46
noncomputable abbrev Dp:Stmt:=top 47
noncomputable abbrev gm:Stmt:=inClass (top 33) 0
noncomputable abbrev y3:Stmt:=inClass (top 33) 4
noncomputable abbrev sS:Stmt:=inClass (top 33) 1
noncomputable abbrev yz:Stmt:=inClass (top 33) 2
noncomputable abbrev pf:Stmt:=inClass (top 35) 0
noncomputable abbrev yE:Stmt:=inClass (top 35) 1
noncomputable abbrev uf:Stmt:=inClass (top 35) 2
noncomputable abbrev sT:Stmt:=inClass (top 35) 3
noncomputable abbrev vp:Stmt:=inClass (top 37) 0
noncomputable abbrev gk:Stmt:=inClass (top 37) 2
noncomputable abbrev xb:Stmt:=inClass (top 37) 8
noncomputable abbrev xk:Stmt:=inClass (top 37) 7
noncomputable abbrev gi:Stmt:=inClass (top 37) 6
noncomputable abbrev yF:Stmt:=inClass (top 37) 3
noncomputable abbrev yl:Stmt:=inClass (top 37) 4
noncomputable abbrev Dq:Stmt:=inClass (top 48) 0
noncomputable abbrev yG:Stmt:=inClass (top 48) 7
noncomputable abbrev wa:Stmt:=inClass (top 48) 20
noncomputable abbrev yH:Stmt:=inClass (top 48) 9
noncomputable abbrev uy:Stmt:=inClass (top 48) 10
noncomputable abbrev yI:Stmt:=inClass (top 48) 11
noncomputable abbrev pq:Stmt:=inClass (top 48) 12
noncomputable abbrev vz:Stmt:=inClass (top 48) 14
noncomputable abbrev yk:Stmt:=inClass (top 48) 22
noncomputable abbrev yn:Stmt:=inClass (top 48) 23
noncomputable abbrev yo:Stmt:=inClass (top 48) 24
noncomputable abbrev yy:Stmt:=inClass (top 48) 21
noncomputable abbrev zq:Stmt:=inClass (top 48) 19
noncomputable abbrev xx:Stmt:=inClass (top 48) 18
noncomputable abbrev sU:Stmt:=inClass (top 48) 3
noncomputable abbrev yJ:Stmt:=inClass (top 48) 4
noncomputable abbrev yK:Stmt:=inClass (top 48) 5
noncomputable abbrev sV:Stmt:=inClass (top 48) 8
noncomputable abbrev yL:Stmt:=top 50
noncomputable abbrev sW:Stmt:=top 51
noncomputable abbrev yM:Stmt:=top 52
noncomputable abbrev gh:Stmt:=top 53
noncomputable abbrev sX:Stmt:=top 54
noncomputable abbrev sY:Stmt:=top 55
noncomputable abbrev sZ:Stmt:=top 56
noncomputable abbrev tf:Stmt:=top 57
noncomputable abbrev yN:Stmt:=top 58
noncomputable abbrev tj:Stmt:=top 59
noncomputable abbrev tm:Stmt:=top 60
noncomputable abbrev tq:Stmt:=top 61
noncomputable abbrev gc:Stmt:=top 62
noncomputable abbrev w4:Stmt:=top 63
noncomputable abbrev tu:Stmt:=top 64
theorem tw:qg ["thing","purses","purse","number","goal","much"] ["thing","purses"] (jq yA):=bY
theorem yO:qg ["things","bound","least","thing"] ["things","bound"] (jq sR):=bY
theorem K1:qg ["self","house","thing","houses"] ["self","house","thing"] (jq sS):=bY
theorem w9:qg ["self","order","purse","number","goal","much"] ["self","order"] (jq uf):=bY
theorem gb:qg ["self","order","purse","number","goal","much"] ["self","order"] (jq sT):=bY
theorem xt:qg ["self","votes","later","order"] ["self"] (jq xb):=bY
theorem K2:qg ["self","order"] ["self"] (jq xk):=bY
theorem Dr:qg ["self","order"] ["self"] (jq gi):=bY
theorem K3:qg ["self","house","purse","number","keeper"] ["self","house","purse","number"] (jq pq):=bY
theorem K4:qg ["self","word","order","house"] ["self","word","order"] (jq zq):=bY
theorem K5:qg ["self","house","orders","order"] ["self","house","orders"] (jq xx):=bY
theorem Du:qg ["self","purse","goal","much","asked","order"] ["self","purse","goal","much"] (jq sU):=bY
theorem vn:qg ["self","at","letter","word","house","order","keeper"] ["self","at"] (jq sV):=bY
theorem kz:qg ["_law_town_here","_law_many","_law_row","_law_at","_law_cell","_law_mixed"] ["_law_town_here","_law_many"] (jq sW):=bY
theorem x8:qg ["_law_caught","_law_kinds","_law_words"] ["_law_caught"] (jq gh):=bY
theorem Dv:qg ["_law_town_here","_law_size","_law_most","_law_found","_law_one"] ["_law_town_here","_law_size","_law_most"] (jq sX):=bY
theorem ym:qg ["_law_town_here","_law_some_here","_law_crew","_law_foes","_law_begin","_law_rogues","_law_world_here"] ["_law_town_here"] (jq sY):=bY
theorem ky:qg ["_law_kind","_law_world_here","_law_one","_law_two","_law_three","_law_told_here","_law_caught","e"] ["_law_kind","_law_world_here","_law_one","_law_two","_law_three"] (jq sZ):=bY
theorem Dw:qg ["_law_town_here","_law_parts","_law_purse","_law_many","_law_goal"] ["_law_town_here","_law_parts","_law_purse"] (jq tf):=bY
theorem yr:qg ["_law_room_here","_law_found","_law_order_here","_law_purse","_law_number","_law_goal","_law_much"] ["_law_room_here"] (jq tj):=bY
theorem zr:qg ["_law_room_here","_law_order_here","_law_before","_law_turn","_law_next_ones","_law_able","_law_purse","_law_number","_law_goal","_law_much"] ["_law_room_here","_law_order_here"] (jq tm):=bY
theorem K6:qg ["_law_own","_law_house","_law_order_here","_law_row"] ["_law_own","_law_house","_law_order_here"] (jq tq):=bY
theorem qu:qg ["_law_own","_law_rooms","_law_letter","_law_word","_law_house","_law_order_here","_law_room_here","_law_votes_here","_law_one"] ["_law_own","_law_rooms","_law_letter"] (jq gc):=bY
theorem K7:qg ["_law_world_here","_law_own","_law_house","_law_room_here","_law_order_here","_law_vote"] ["_law_world_here","_law_own","_law_house","_law_room_here","_law_order_here"] (jq w4):=bY
theorem y9:qg ["_law_script","_law_town_here","_law_parts","_law_world_here","_law_crew","_law_some_here","_law_foes","_law_honest","_law_begin","_law_rogues","_law_rooms","_law_house","_law_own","_law_turn","_law_kind","_law_purse","_law_order_here","_law_foe","_law_told_here","_law_at","_law_letter"] ["_law_script"] (jq tu):=bY
theorem UZ:(["order","self"]:List Str).Nodup:=by decide+kernel
theorem U5:(["keeper","purse","asked"]:List Str).Nodup:=by decide+kernel
theorem Va:(["each"]:List Str).Nodup:=by decide+kernel
theorem Vb:(["each"]:List Str).Nodup:=by decide+kernel
theorem Vc:(["house","sums","liars"]:List Str).Nodup:=by decide+kernel
theorem Vd:(["_law_k","_law_foes"]:List Str).Nodup:=by decide+kernel
theorem Ve:(["_law_k","_law_town_here"]:List Str).Nodup:=by decide+kernel
theorem Vf:(["_law_one","_law_room_here"]:List Str).Nodup:=by decide+kernel
theorem Vg:(["_law_one","_law_room_here"]:List Str).Nodup:=by decide+kernel
theorem Vh:(["_law_one","_law_order_here"]:List Str).Nodup:=by decide+kernel
theorem Vi:(["_law_house","_law_told_here"]:List Str).Nodup:=by decide+kernel
theorem boot_isinstance:bootBuiltins "isinstance"=some (.builtin "isinstance"):=by decide+kernel
theorem boot_bool:bootBuiltins "bool"=some (.type "bool"):=by decide+kernel
theorem boot_int:bootBuiltins "int"=some (.type "int"):=by decide+kernel
theorem boot_len:bootBuiltins "len"=some (.builtin "len"):=by decide+kernel
theorem boot_tuple:bootBuiltins "tuple"=some (.type "tuple"):=by decide+kernel
theorem boot_list:bootBuiltins "list"=some (.type "list"):=by decide+kernel
theorem boot_sorted:bootBuiltins "sorted"=some (.builtin "sorted"):=by decide+kernel
theorem boot_sum:bootBuiltins "sum"=some (.builtin "sum"):=by decide+kernel
theorem boot_max:bootBuiltins "max"=some (.builtin "max"):=by decide+kernel
theorem boot_all:bootBuiltins "all"=some (.builtin "all"):=by decide+kernel
theorem Vj:bootBuiltins "ValueError"=some (.type "ValueError"):=by decide+kernel
set_option genInjectivity false in
structure Ad where
 Dx:Addr
 Dy:FuncData
 Dz:Addr
 DA:FuncData
 DB:Addr
 yP:FuncData
 DC:Addr
 DD:FuncData
 DE:Addr
 DF:FuncData
 DG:Addr
 DH:FuncData
 DI:Addr
 DJ:FuncData
 DL:Addr
 DM:FuncData
 DN:Addr
 DO:FuncData
 DP:Addr
 DQ:FuncData
 DR:Addr
 DS:FuncData
 DT:Addr
 DU:FuncData
 ue:Addr
 ui:FuncData
 DV:Addr
 DW:FuncData
 DX:Addr
 DY:FuncData
 gp:Addr
 DZ:FuncData
 ug:Addr
 uk:FuncData
 D0:Addr
 D1:FuncData
 D2:Addr
 uw:FuncData
 va:Addr
 D3:FuncData
 yQ:Addr
 D4:FuncData
 yR:Addr
 D5:FuncData
 yS:Addr
 D6:FuncData
 vh:Addr
 D7:FuncData
 D8:Addr
 D9:FuncData
 kl:Addr
 ki:FuncData
 ud:Addr
 Ea:FuncData
 Eb:Addr
 Ec:FuncData
 Ed:Addr
 Ee:FuncData
 gy:Addr
 kh:FuncData
 gj:Addr
 Ef:FuncData
 Eg:Addr
 Eh:FuncData
 Ei:Addr
 Ej:FuncData
 Ek:Addr
 El:FuncData
 Em:Addr
 En:FuncData
 Eo:Addr
 Ep:FuncData
 Er:Addr
 Es:FuncData
 Et:Addr
 Eu:FuncData
 gw:Addr
 kc:FuncData
 kb:Addr
 kj:FuncData
 ko:Addr
 gz:FuncData
 ur:Addr
 ua:FuncData
 wm:Addr
 wj:FuncData
 Ew:Addr
 Ex:FuncData
 Ey:Addr
 Ez:FuncData
 EA:Addr
 EB:FuncData
 EC:Addr
 ED:FuncData
 EE:Addr
 EF:FuncData
 EG:Addr
 EH:FuncData
 EI:Addr
 EJ:FuncData
 EK:Addr
 EL:FuncData
 EM:Addr
 EN:FuncData
 EO:Addr
 ER:FuncData
 ES:Addr
 ET:FuncData
 EU:Addr
 EV:FuncData
 EW:Addr
 EX:FuncData
 EY:Addr
 EZ:FuncData
 E1:Addr
 E2:FuncData
 E3:Addr
 E4:FuncData
 E5:Addr
 E6:FuncData
 E7:Addr
 E8:FuncData
 E9:Addr
 Fb:FuncData
 Fc:Addr
 Fd:FuncData
 jz:Addr
 gB:Addr
 j3:Addr
 iJ:Addr
 xg:Addr
 vf:Addr
 uv:Addr
 vd:Addr
 Fe:Addr
 Ff:Addr
 Fg:Addr
 Fh:Addr
 Fi:Addr
 Fj:Addr
 Fl:Addr
 Fm:Addr
noncomputable def asked (t:Ad):List Value:=[.ref t.Fj,.ref t.Fl,.ref t.Fm,.ref t.Fh,.ref t.xg,.ref t.Fi,.ref t.uv,.ref t.vf,.ref t.Fg,.ref t.Fe,.ref t.Ff,.ref t.vd,.type "ValueError"]
structure Txt (K:W.Frag)(mg:Str->Option Value)(t:Ad):Prop where
 tD:ax K "is_whole" "is_whole" xY t.Dx t.Dy
 yT:mg "is_whole"=some (.ref t.Dx)
 yU:Binds K t.Dy ["thing"] []
 qr:ax K "is_between" "is_between" xZ t.Dz t.DA
 qy:mg "is_between"=some (.ref t.Dz)
 qw:Binds K t.DA ["thing","low","high"] []
 Fo:ax K "is_order" "is_order" yA t.DB t.yP
 K8:mg "is_order"=some (.ref t.DB)
 Vl:gN K t.yP ["thing","purses"] ["purses"] gR gR
 Vm:∃tk,Binds K t.yP ["thing","purses"] [.int 8 tk]
 yV:ax K "place_of" "place_of" yB t.DC t.DD
 Fp:mg "place_of"=some (.ref t.DC)
 Fq:Binds K t.DD ["order"] []
 K9:ax K "are_rising" "are_rising" sR t.DE t.DF
 Vn:mg "are_rising"=some (.ref t.DE)
 Vo:Binds K t.DF ["things","bound"] []
 ph:ax K "is_rising_row" "is_rising_row" uj t.DG t.DH
 La:mg "is_rising_row"=some (.ref t.DG)
 Lb:Binds K t.DH ["thing","bound"] []
 Lc:ax K "is_house_count" "is_house_count" gr t.DI t.DJ
 Vp:mg "is_house_count"=some (.ref t.DI)
 Vq:Binds K t.DJ ["thing"] []
 Ld:ax K "is_few" "is_few" yC t.DL t.DM
 Vr:mg "is_few"=some (.ref t.DL)
 Vs:Binds K t.DM ["thing"] []
 Le:ax K "outnumber" "outnumber" Dl t.DN t.DO
 Vu:mg "outnumber"=some (.ref t.DN)
 Vv:gN K t.DO ["houses","few"] ["few"] gR gR
 Lf:ax K "enough_of" "enough_of" Dm t.DP t.DQ
 Vw:mg "enough_of"=some (.ref t.DP)
 Vx:gN K t.DQ ["houses","few"] ["few"] gR gR
 Lg:ax K "are_sums" "are_sums" yD t.DR t.DS
 Vy:mg "are_sums"=some (.ref t.DR)
 Vz:Binds K t.DS ["thing"] []
 Lh:ax K "are_first_sums" "are_first_sums" gq t.DT t.DU
 VA:mg "are_first_sums"=some (.ref t.DT)
 VB:Binds K t.DU ["thing"] []
 VC:ax K "__init__" "NoPurse.__init__" y4 t.ue t.ui
 Li:xQ K t.xg t.ue "purse"
 VD:Binds K t.ui ["self","purse"] []
 Lj:ax K "check_houses" "check_houses" Dn t.DV t.DW
 VE:mg "check_houses"=some (.ref t.DV)
 VF:gN K t.DW ["houses","few","liars"] ["few","liars"] pF pF
 Ll:ax K "check_purses" "check_purses" Dp t.DX t.DY
 VG:mg "check_purses"=some (.ref t.DX)
 VH:gN K t.DY ["sums","cheats"] ["cheats"] gR gR
 VI:ax K "__init__" "Board.__init__" gm t.gp t.DZ
 jmu:Meth K t.gB "__init__" t.gp
 VJ:Mk K t.gB t.gp
 VL:Binds K t.DZ ["self","enough"] []
 VM:ax K "is_carried" "Board.is_carried" y3 t.ug t.uk
 VN:Meth K t.gB "is_carried" t.ug
 VO:Binds K t.uk ["self","thing"] []
 VP:ax K "put" "Board.put" sS t.D0 t.D1
 VQ:Meth K t.gB "put" t.D0
 VR:Binds K t.D1 ["self","house","thing"] []
 VS:ax K "houses_for" "Board.houses_for" yz t.D2 t.uw
 VT:Meth K t.gB "houses_for" t.D2
 VU:Binds K t.uw ["self","thing"] []
 VV:ax K "__init__" "Book.__init__" pf t.va t.D3
 jns:Meth K t.iJ "__init__" t.va
 j24:Mk K t.iJ t.va
 VW:Binds K t.D3 ["self","sums"] []
 VX:ax K "is_past" "Book.is_past" yE t.yQ t.D4
 jpv:Meth K t.iJ "is_past" t.yQ
 Fs:Binds K t.D4 ["self","order"] []
 VY:ax K "is_due" "Book.is_due" uf t.yR t.D5
 jp7:Meth K t.iJ "is_due" t.yR
 Lm:Binds K t.D5 ["self","order"] []
 VZ:ax K "settle" "Book.settle" sT t.yS t.D6
 jp4:Meth K t.iJ "settle" t.yS
 V0:Binds K t.D6 ["self","order"] []
 V1:ax K "__init__" "Keeper.__init__" vp t.vh t.D7
 jku:Meth K t.jz "__init__" t.vh
 V2:Mk K t.jz t.vh
 V3:Binds K t.D7 ["self","sums"] []
 V4:ax K "left_of" "Keeper.left_of" gk t.D8 t.D9
 V5:Meth K t.jz "left_of" t.D8
 V6:Binds K t.D9 ["self","purse","orders"] []
 V7:ax K "give_votes" "Keeper.give_votes" xb t.kl t.ki
 wo:Meth K t.jz "give_votes" t.kl
 ka:Binds K t.ki ["self"] []
 V8:ax K "first_due" "Keeper.first_due" xk t.ud t.Ea
 gu:Meth K t.jz "first_due" t.ud
 uu:Binds K t.Ea ["self"] []
 V9:ax K "go_on" "Keeper.go_on" gi t.Eb t.Ec
 Wa:Meth K t.jz "go_on" t.Eb
 Wb:Binds K t.Ec ["self"] []
 Wc:ax K "hear" "Keeper.hear" yF t.Ed t.Ee
 We:Meth K t.jz "hear" t.Ed
 Wf:Binds K t.Ee ["self","order"] []
 Wg:ax K "take_paper" "Keeper.take_paper" yl t.gy t.kh
 Wh:Meth K t.jz "take_paper" t.gy
 Wi:Binds K t.kh ["self","order"] []
 Wj:ax K "__init__" "World.__init__" Dq t.gj t.Ef
 jmg:Meth K t.j3 "__init__" t.gj
 Wk:Mk K t.j3 t.gj
 Wm:gN K t.Ef ["self","houses","few","sums","liars","cheats"] ["few","sums","liars","cheats"] xW xW
 Wn:ax K "letters" "World.letters" yG t.Eg t.Eh
 Lo:Meth K t.j3 "letters" t.Eg
 Lp:Binds K t.Eh ["self"] []
 Wo:ax K "keeper_of" "World.keeper_of" wa t.Ei t.Ej
 zj:Meth K t.j3 "keeper_of" t.Ei
 zx:Binds K t.Ej ["self","house"] []
 Wq:ax K "sums" "World.sums" yH t.Ek t.El
 Wr:Meth K t.j3 "sums" t.Ek
 Ws:Binds K t.El ["self","house"] []
 Wt:ax K "settled" "World.settled" uy t.Em t.En
 Wu:Meth K t.j3 "settled" t.Em
 Wv:Binds K t.En ["self","house"] []
 Ww:ax K "waits" "World.waits" yI t.Eo t.Ep
 Wx:Meth K t.j3 "waits" t.Eo
 Wy:Binds K t.Ep ["self","house"] []
 Wz:ax K "voted" "World.voted" pq t.Er t.Es
 WB:Meth K t.j3 "voted" t.Er
 WC:Binds K t.Es ["self","house","purse","number"] []
 WD:ax K "votes_for" "World.votes_for" vz t.Et t.Eu
 WE:Meth K t.j3 "votes_for" t.Et
 WH:Binds K t.Eu ["self","order"] []
 WI:ax K "check_purse" "World.check_purse" yk t.gw t.kc
 xw:Meth K t.j3 "check_purse" t.gw
 yq:Binds K t.kc ["self","purse"] []
 WJ:ax K "check_asker" "World.check_asker" yn t.kb t.kj
 WK:Meth K t.j3 "check_asker" t.kb
 WL:Binds K t.kj ["self","purse","goal"] []
 WM:ax K "check_order" "World.check_order" yo t.ko t.gz
 xu:Meth K t.j3 "check_order" t.ko
 yp:Binds K t.gz ["self","order"] []
 WN:ax K "check_liar" "World.check_liar" yy t.ur t.ua
 WO:Meth K t.j3 "check_liar" t.ur
 WQ:Binds K t.ua ["self","liar"] []
 WR:ax K "write_to_all" "World.write_to_all" zq t.wm t.wj
 vc:Meth K t.j3 "write_to_all" t.wm
 wu:Binds K t.wj ["self","word","order"] []
 WS:ax K "put_votes" "World.put_votes" xx t.Ew t.Ex
 y0:Meth K t.j3 "put_votes" t.Ew
 vk:Binds K t.Ex ["self","house","orders"] []
 WT:ax K "ask" "World.ask" sU t.Ey t.Ez
 WU:Meth K t.j3 "ask" t.Ey
 WV:Binds K t.Ez ["self","purse","goal","much"] []
 WW:ax K "cheat" "World.cheat" yJ t.EA t.EB
 WX:Meth K t.j3 "cheat" t.EA
 WY:Binds K t.EB ["self","order","house"] []
 WZ:ax K "lie" "World.lie" yK t.EC t.ED
 W0:Meth K t.j3 "lie" t.EC
 W2:Binds K t.ED ["self","liar","order"] []
 W3:ax K "come" "World.come" sV t.EE t.EF
 W4:Meth K t.j3 "come" t.EE
 W5:Binds K t.EF ["self","at"] []
 Lq:ax K "_law_town" "_law_town" yL t.EG t.EH
 W6:mg "_law_town"=some (.ref t.EG)
 W7:Binds K t.EH ["_law_script"] []
 qv:ax K "_law_draw" "_law_draw" sW t.EI t.EJ
 zb:mg "_law_draw"=some (.ref t.EI)
 zc:Binds K t.EJ ["_law_town_here","_law_many"] []
 g9:ax K "_law_pick" "_law_pick" yM t.EK t.EL
 tE:mg "_law_pick"=some (.ref t.EK)
 tF:Binds K t.EL ["_law_town_here","_law_some_here"] []
 Lr:ax K "_law_refusal" "_law_refusal" gh t.EM t.EN
 W8:mg "_law_refusal"=some (.ref t.EM)
 W9:Binds K t.EN ["_law_caught"] []
 Ft:ax K "_law_some" "_law_some" sX t.EO t.ER
 Lu:mg "_law_some"=some (.ref t.EO)
 Lv:Binds K t.ER ["_law_town_here","_law_size","_law_most"] []
 Lw:ax K "_law_world" "_law_world" sY t.ES t.ET
 Xa:mg "_law_world"=some (.ref t.ES)
 Xb:Binds K t.ET ["_law_town_here"] []
 Lx:ax K "_law_told" "_law_told" sZ t.EU t.EV
 Xc:mg "_law_told"=some (.ref t.EU)
 Xd:Binds K t.EV ["_law_kind","_law_world_here","_law_one","_law_two","_law_three"] []
 Ly:ax K "_law_order" "_law_order" tf t.EW t.EX
 Xe:mg "_law_order"=some (.ref t.EW)
 Xf:Binds K t.EX ["_law_town_here","_law_parts","_law_purse"] []
 Lz:ax K "_law_room" "_law_room" yN t.EY t.EZ
 Xg:mg "_law_room"=some (.ref t.EY)
 Xh:Binds K t.EZ ["_law_begin"] []
 Fu:ax K "_law_votes" "_law_votes" tj t.E1 t.E2
 LA:mg "_law_votes"=some (.ref t.E1)
 LB:Binds K t.E2 ["_law_room_here"] []
 LC:ax K "_law_takes" "_law_takes" tm t.E3 t.E4
 Xi:mg "_law_takes"=some (.ref t.E3)
 Xj:Binds K t.E4 ["_law_room_here","_law_order_here"] []
 Fv:ax K "_law_sign" "_law_sign" tq t.E5 t.E6
 LF:mg "_law_sign"=some (.ref t.E5)
 LG:Binds K t.E6 ["_law_own","_law_house","_law_order_here"] []
 LH:ax K "_law_arrives" "_law_arrives" gc t.E7 t.E8
 Xk:mg "_law_arrives"=some (.ref t.E7)
 Xl:Binds K t.E8 ["_law_own","_law_rooms","_law_letter"] []
 LI:ax K "_law_is_like" "_law_is_like" w4 t.E9 t.Fb
 Xm:mg "_law_is_like"=some (.ref t.E9)
 Xn:Binds K t.Fb ["_law_world_here","_law_own","_law_house","_law_room_here","_law_order_here"] []
 Xo:ax K "law" "law" tu t.Fc t.Fd
 Xp:mg "law"=some (.ref t.Fc)
 j6r:Binds K t.Fd ["_law_script"] []
 LJ:∃tk,mg "MOST_MUCH"=some (.int 1000 tk)
 LK:∃tk,mg "LAST_NUMBER"=some (.int 99 tk)
 Xq:∃tk,mg "PAPER_LETTER"=some (.str "paper" tk)
 Fw:∃tk,mg "ORDER_LETTER"=some (.str "order" tk)
 Xr:∃tk,mg "MOST_HOUSES"=some (.int 16 tk)
 Xs:∃tk,mg "MOST_FEW"=some (.int 5 tk)
 Xt:∃tk,mg "MOST_FIRST_SUM"=some (.int 1000 tk)
 Xu:∃tk,mg "LEAST_PURSES"=some (.int 2 tk)
 Xv:∃tk,mg "MOST_PURSES"=some (.int 8 tk)
 Xw:mg "Keeper"=some (.ref t.jz)
 jm:eP K t.jz
 xn:yi K t.jz "held"
 za:yi K t.jz "next_numbers"
 Fx:yi K t.jz "done"
 um:yi K t.jz "heard"
 ye:yi K t.jz "unvoted"
 zd:yi K t.jz "choices"
 ze:yi K t.jz "waiting"
 Xx:mg "Board"=some (.ref t.gB)
 vm:eP K t.gB
 yc:yi K t.gB "enough"
 yu:yi K t.gB "signers"
 Xy:mg "World"=some (.ref t.j3)
 jl:eP K t.j3
 Fy:yi K t.j3 "purses"
 Xz:yi K t.j3 "total"
 LL:yi K t.j3 "lying"
 ya:yi K t.j3 "cheating"
 zm:yi K t.j3 "keepers"
 gf:yi K t.j3 "board"
 Fz:yi K t.j3 "asked"
 xa:yi K t.j3 "on_way"
 XA:mg "Book"=some (.ref t.iJ)
 j1m:eP K t.iJ
 jsc:yi K t.iJ "held"
 jig:yi K t.iJ "next_numbers"
 jsw:yi K t.iJ "done"
 LM:Meth K t.jz "is_due" t.yR
 vq:Meth K t.jz "is_past" t.yQ
 XB:Meth K t.jz "settle" t.yS
 XC:KQ K t.iJ "__init__" t.va
 LN:mg "NoPurse"=some (.ref t.xg)
 LO:mg "TooMuch"=some (.ref t.vf)
 LP:mg "NotNow"=some (.ref t.uv)
 LQ:mg "PurseError"=some (.ref t.vd)
 XD:mg "BadCut"=some (.ref t.Fe)
 XE:mg "BadText"=some (.ref t.Ff)
 XF:mg "BadPaper"=some (.ref t.Fg)
 XG:mg "NoHouse"=some (.ref t.Fh)
 XH:mg "NoLetter"=some (.ref t.Fi)
 XI:mg "BadNumber"=some (.ref t.Fj)
 XJ:mg "BadOrder"=some (.ref t.Fl)
 XM:mg "BadHouses"=some (.ref t.Fm)
 XN:gS K t.xg
 XO:kinds K (.ref t.xg) (asked t)=[some false,some false,some false,some false,some true,some false,some false,some false,some false,some false,some false,some true,some true]
 XQ:W.kitCls K (.ref t.xg) (.ref t.vd)=some true
 XR:xB K t.vf
 XS:gS K t.vf
 XT:kinds K (.ref t.vf) (asked t)=[some false,some false,some false,some false,some false,some false,some false,some true,some false,some false,some false,some true,some true]
 XU:W.kitCls K (.ref t.vf) (.ref t.vd)=some true
 XW:xB K t.uv
 XX:gS K t.uv
 XY:kinds K (.ref t.uv) (asked t)=[some false,some false,some false,some false,some false,some false,some true,some false,some false,some false,some false,some true,some true]
 XZ:W.kitCls K (.ref t.uv) (.ref t.vd)=some true
 X0:W.mroIn K t.vd (.type "BaseException")=some true
 jy:mg "isinstance"=none
 X1:mg "bool"=none
 X2:mg "int"=none
 cB:mg "len"=none
 FA:mg "tuple"=none
 jP:mg "list"=none
 yW:mg "sorted"=none
 LR:mg "sum"=none
 X3:mg "max"=none
 X4:mg "all"=none
 pH:mg "range"=none
 X5:mg "ValueError"=none
noncomputable def cC (o:O):List V:=[.int o.p,.int o.n,.int o.g,.int o.m]
noncomputable def X6 (H:Hp)(x:V)(o:O):Prop:=∃a,x= .ref a/\H a=some (.tup (cC o))
theorem je {H:Hp}{p:Addr}{o:HO}(h:H p=none):xr H (upd H p o):=λb u e=>by rw[jg (jj e h)];exact e
theorem nd {c:Prop}[Decidable c](h:(!decide c)=true):¬c:=λz=>by rw[decide_eq_true z]at h;cases h
theorem yd {c:Prop}[Decidable c](h:¬(!decide c)=true):c:=by
 by_cases z:c
 .exact z
 .exact absurd (by rw[decide_eq_false z];rfl) h
theorem X7 {b:Bool}{A Bq:Prop}(e:b=true)(h:Bq):if(!b)=true then A else Bq:=by subst e;exact we h
theorem take_snoc {α:Type}{l:List α}{i:Nat}{x:α}(h:l[i]?=some x):l.take (i+1)=l.take i++[x]:=by rw[List.take_add_one,h];rfl
theorem BE (s:List Int)(i:Nat)(z:Int):(s.map V.int).set i (.int z)=(s.set i z).map V.int:=by rw[map_set]
theorem get_map {s:List Int}{i:Nat}(h:i<s.length):(s.map V.int)[i]?=some (.int (s.getD i 0)):=by rw[getElem?_map,getElem?_eq_getElem h,getD_eq_getElem?_getD,getElem?_eq_getElem h];rfl
theorem gU {n:Nat}{i:Int}(h0:0<=i)(h1:i.toNat<n):lW n i=some i.toNat:=by unfold lW;rw[if_pos h0,if_pos (by lia)]
theorem fN {α:Type}{xs:List α}{i:Int}{v:α}(h0:0<=i)(h:xs[i.toNat]?=some v):il xs i=some v:=by unfold il;rw[gU h0 (List.getElem?_eq_some_iff.mp h).1];exact h
theorem pI {n:Nat}(h:n<=1000):n<=sizeLine:=le_of_lt (qi h)
noncomputable def cO (T R:Addr)(H:Hp):Prop:=∃(row:List Int)(c:Int),H T=some (.lst [.ref R,.int c])/\H R=some (.lst (row.map V.int))/\0<row.length
noncomputable def jQ (T R:Addr)(H H':Hp):Prop:=∀b o,H b=some o->b≠T->b≠R->H' b=some o
theorem cO.ne {T R:Addr}{H:Hp}(h:cO T R H):T≠R:=by
 obtain⟨row,c,h1,h2,h3⟩:=h;refine iW h1 h2 λe=>?_;have e':=HO.lst.inj e;cases row with
 |nil=>cases h3
 |cons x r=>rw[map_cons]at e';cases(List.cons.inj e').1
theorem cO.same {T R:Addr}{H H':Hp}(h:cO T R H)(s:xr H H'):cO T R H':=by obtain⟨row,c,h1,h2,h3⟩:=h;exact⟨row,c,s _ _ h1,s _ _ h2,h3⟩
theorem cO.fresh {T R b:Addr}{H:Hp}(h:cO T R H)(hb:H b=none):b≠T/\b≠R:=by obtain⟨row,c,h1,h2,h3⟩:=h;exact⟨(jj h1 hb).symm,(jj h2 hb).symm⟩
noncomputable def X8:Sp:=λvs H Q _=>∃i,vs=[.int i]/\Q (.bl true) H
noncomputable def X9:Sp:=λvs H Q _=>∃i l h,vs=[.int i,.int l,.int h]/\Q (.bl (decide (l<=i/\i<=h))) H
noncomputable def Ya:Sp:=λvs H Q _=>∃a o q,vs=[.ref a,.int q]/\H a=some (.tup (cC o))/\Q (.bl (xq q o)) H
noncomputable def Yb:Sp:=λvs H Q _=>∃a o,vs=[.ref a]/\H a=some (.tup (cC o))/\xq 8 o=true/\∀p,H p=none->Q (.ref p) (upd H p (.tup [.int o.p,.int o.n]))
theorem yX (T:Txt K mg t):xl P w K mg base CX0 1 t.Dx t.Dy ["thing"] X8:=by refine T.tD.bj (N:=["thing"]) λ_ A _ s H vs Q E hr h=>?_;obtain⟨i,rfl,q⟩:=h;refine⟨_,(@jd _ _ _ (j5 (mU (jn rN rfl T.jy boot_isinstance (@aB _ _ _ _ _ (pv 0) (lP (v:=.ty "int") rfl T.X2 boot_int rfl) rfl rfl)) (oM (OP (jn rN rfl T.jy boot_isinstance (@aB _ _ _ _ _ (pv 0) (lP (v:=.ty "bool") rfl T.X1 boot_bool rfl) rfl rfl))))))),?_⟩;refine⟨_,rfl,_,_,_,true,rfl,.int _,rfl,_,rfl,br ?_⟩;exact⟨_,rfl,_,_,_,false,rfl,.int _,rfl,_,rfl,q⟩
theorem qt (T:Txt K mg t):xl P w K mg base CX0 2 t.Dz t.DA ["thing","low","high"] X9:=by
 refine T.qr.bj (N:=["thing","low","high"]) λ_ A _ s H vs Q E hr h=>?_;obtain⟨i,l,u,rfl,q⟩:=h;refine⟨_,(@jd _ _ _ (j5 (mU (jr (yX T) hr.dn rfl T.yT T.tD.kp T.yU .nil ju (jc (pv 0) jf)) (oM (PF oP oP (pv 1) (pv 0) (pv 2)))))),?_⟩;refine⟨_,rfl,i,rfl,_,rfl,br ?_⟩;refine⟨_,rfl,_,rfl,_,_,rfl,rfl,_,rfl,?_⟩;refine bH (λh1=>?_) (λh1=>?_)
 .refine⟨_,rfl,_,_,rfl,rfl,?_⟩;have e:decide (l<=i/\i<=u)=decide (i<=u):=by
   have mh:=of_decide_eq_true h1;simp[mh]
  rw[e]at q;exact q
 .have e:decide (l<=i/\i<=u)=false:=by
   have mh:¬l<=i:=λz=>h1 (decide_eq_true z);simp[mh]
  rw[e]at q;exact q
theorem LS (T:Txt K mg t):xl P w K mg base CX0 3 t.DB t.yP ["thing","purses"] Ya:=by
 refine T.Fo.cA tw λ_ A _ s H vs Q E hr h=>?_;obtain⟨a,o,q,rfl,ha,k⟩:=h;refine⟨_,(@jb _ _ _ _ _ (zh (PW.pt (eX (yt (xc (jn rN rfl T.jy boot_isinstance (@aB _ _ _ _ _ (pv 0) (lP (v:=.ty "tuple") rfl T.FA boot_tuple rfl) rfl rfl)))) (fR (jx Bz (jn jt rfl T.cB boot_len (jc (pv 0) jf)) jh (qf _))))) (@jd _ _ _ (j5 fB)) j6) (@jb _ _ _ _ _ (dY (pv 0) (lS rfl (j8 (jw (i:=2) tw.nd rfl (Or.inl rfl)) (j8 (jw (i:=3) tw.nd rfl (Or.inl rfl)) (j8 (jw (i:=4) tw.nd rfl (Or.inl rfl)) (j8 (jw (i:=5) tw.nd rfl (Or.inl rfl)) lR)))))) (@jb _ _ _ _ _ (zh (PW.pt (eX (yt (xc (jr (qt T) hr.dn rfl T.qy T.qr.kp T.qw .nil ju (@bT _ _ _ _ _ _ _ (pv 2) jh (zt i8 (pv 1) jh) rfl rfl rfl)))) (fR (yt (xc (jr (qt T) hr.dn rfl T.qy T.qr.kp T.qw .nil ju (@bT _ _ _ _ _ _ _ (pv 4) jh (zt i8 (pv 1) jh) rfl rfl rfl))))))) (@jd _ _ _ (j5 fB)) j6) (@jd _ _ _ (j5 (mU (i9 Bz (pv 2) (pv 4) (qf _)) (mU (jr (qt T) hr.dn rfl T.qy T.qr.kp T.qw .nil ju (@bT _ _ _ _ _ _ _ (pv 3) jh (zk (v:=.int 99) rfl T.LK.choose_spec ⟨_,rfl⟩) rfl rfl rfl)) (oM (jr (qt T) hr.dn rfl T.qy T.qr.kp T.qw .nil ju (@bT _ _ _ _ _ _ _ (pv 5) jh (zk (v:=.int 1000) rfl T.LJ.choose_spec ⟨_,rfl⟩) rfl rfl rfl)))))))))),?_⟩;refine⟨_,rfl,_,_,_,true,rfl,.tup ha,rfl,_,rfl,?_⟩;refine we ?_;refine⟨_,rfl,a,cC o,rfl,.inr (ay.of ha),rfl,_,rfl,?_⟩;refine we ?_;refine⟨_,rfl,a,cC o,rfl,ay.of ha,rfl,_,_,rfl,_,_,rfl,_,_,rfl,_,_,rfl,rfl,?_⟩;have fin:∀b,b=xq q o->Q (.bl b) H:=λb e=>e ▸ k;refine⟨_,rfl,_,rfl,_,_,rfl,rfl,_,_,_,rfl,_,rfl,?_⟩;refine bH (λh1=>fin _ ?_) (λh1=>?_)
 .have z:=nd h1;unfold xq;exact(decide_eq_false (λh=>z ⟨h.1,h.2.1⟩)).symm
 have z1:=yd h1;refine⟨_,rfl,_,rfl,_,_,rfl,rfl,_,_,_,rfl,_,rfl,?_⟩;refine bH (λh2=>fin _ ?_) (λh2=>?_)
 .have z:=nd h2;unfold xq;exact(decide_eq_false (λh=>z ⟨h.2.2.1,h.2.2.2.1⟩)).symm
 have z2:=yd h2;refine⟨_,rfl,_,rfl,rfl,_,rfl,?_⟩;refine bH (λh3=>?_) (λh3=>fin _ ?_)
 .have z3:¬o.p=o.g:=by simpa using h3
  refine⟨_,rfl,_,_,_,rfl,_,rfl,?_⟩;refine bH (λh4=>?_) (λh4=>fin _ ?_)
  .have z4:=of_decide_eq_true h4;refine⟨_,rfl,_,_,_,rfl,fin _ ?_⟩;unfold xq;rw[Bool.eq_iff_iff,decide_eq_true_iff,decide_eq_true_iff];exact⟨λh=>⟨z1.1,z1.2,z2.1,z2.2,z3,z4.1,z4.2,h.1,h.2⟩,λh=>h.2.2.2.2.2.2.2⟩
  .have z4:¬(0<=o.n/\o.n<=99):=λh=>h4 (decide_eq_true h);unfold xq;exact(decide_eq_false (λh=>z4 ⟨h.2.2.2.2.2.1,h.2.2.2.2.2.2.1⟩)).symm
 .have z3:o.p=o.g:=by simpa using h3
  unfold xq;exact(decide_eq_false (λh=>h.2.2.2.2.1 z3)).symm
theorem FC (T:Txt K mg t):xl P w K mg base CX0 4 t.DC t.DD ["order"] Yb:=by
 refine T.yV.bj (N:=["order"]) λ_ A _ s H vs Q E hr h=>?_;obtain⟨a,o,rfl,ha,ho,k⟩:=h;refine⟨_,(@jb _ _ _ _ _ (zh (yt (xc (jr (LS T) hr.dn rfl T.K8 T.Fo.kp T.Vm.choose_spec (show Vals [.int 8] _ from .cons ⟨_,rfl⟩ .nil) ju (jc (pv 0) jf)))) (@jd _ _ _ (OT)) j6) (@jd _ _ _ (j5 (@fW _ _ _ _ _ (@aB _ _ _ _ _ (j7 fb (pv 0) jh (λ_ _=>rfl)) (j7 fb (pv 0) jh (λ_ _=>rfl)) rfl rfl))))),?_⟩;refine⟨_,rfl,a,o,8,rfl,ha,_,rfl,X7 ho ?_⟩;exact⟨_,rfl,a,cC o,0,.int o.p,rfl,rfl,ay.of ha,rfl,_,rfl,a,cC o,1,.int o.n,rfl,rfl,ay.of ha,rfl,my,λp hp=>k p hp⟩
theorem Yc {H:Hp}{a b:Addr}{o:HO}(h:upd H a o b=none):b≠a/\H b=none:=by
 have hb:b≠a:=λz=>by rw[z,ja]at h;cases h
 rw[jg hb]at h;exact⟨hb,h⟩
noncomputable def kX (S:Addr)(en:Int):List (Str×V):=kq "signers" (.ref S) (kq "enough" (.int en) [])
theorem FD (S:Addr)(en:Int):(kX S en).lookup ("signers":Str)=some (.ref S):=by unfold kX;rw[jk,if_pos rfl]
theorem yY (S:Addr)(en:Int):(kX S en).lookup ("enough":Str)=some (.int en):=by unfold kX;rw[jk,if_neg (by decide+kernel),jk,if_pos rfl]
theorem FE (S:Addr)(en:Int){m:Str}(h1:¬m="signers")(h2:¬m="enough"):(kX S en).lookup m=none:=by unfold kX;rw[jk,if_neg h1,jk,if_neg h2];rfl
noncomputable abbrev ft:=List (List Key×List Int)
noncomputable def gW (H:Hp)(kv:List Key×V)(p:List Key×List Int):Prop:=kv.1=p.1/\∃b,kv.2= .ref b/\H b=some (.lst (p.2.map V.int))
structure vb (t:Ad)(H:Hp)(p dx S:Addr)(en:Int)(aa:List (List Key×V))(ps:ft):Prop where
 ob:H p=some (.ins t.gB dx (kX S en))
 sg:H S=some (.dT aa)
 hs:Paired (gW H) aa ps
 un:(aa.map (·.2)).Nodup
theorem vb.same {t:Ad}{H H':Hp}{p dx S:Addr}{en:Int}{aa:List (List Key×V)}{ps:ft}(s:xr H H')(b:vb t H p dx S en aa ps):vb t H' p dx S en aa ps:=⟨s _ _ b.ob,s _ _ b.sg,Paired.yf b.hs λ_ _ ⟨e,c,ec,h⟩=>⟨e,c,ec,s _ _ h⟩,b.un⟩
structure FF (t:Ad)(H:Hp)(p dx S:Addr)(en:Int)(aa:List (List Key×V))(ps:ft):Prop where
 ob:H p=some (.ins t.gB dx (kX S en))
 sg:Rd H S (.dT aa)
 hs:Paired (gW H) aa ps
theorem vb.rd {t:Ad}{H:Hp}{p dx S:Addr}{en:Int}{aa:List (List Key×V)}{ps:ft}(b:vb t H p dx S en aa ps):FF t H p dx S en aa ps:=⟨b.ob,.inl b.sg,b.hs⟩
theorem tG {H H':Hp}{a:Addr}{u:HO}(s:xr H H')(h:Rd H a u):Rd H' a u:=by
 rcases h with h|⟨o,h⟩
 .exact .inl (s _ _ h)
 .exact .inr ⟨o,s _ _ h⟩
noncomputable def qo:ft->List Key->List Int
 |[],_=>[]
 |p::ps,k=>if p.1=k then p.2 else qo ps k
theorem yZ {H:Hp}{k:List Key}:∀{aa:List (List Key×V)}{ps:ft},Paired (gW H) aa ps->(aO aa k=none/\qo ps k=[]/\k∉ps.map (·.1))\/∃b,aO aa k=some (.ref b)/\H b=some (.lst ((qo ps k).map V.int)):=λ{aa ps} q=>by
 induction q with
 |nil=>exact .inl ⟨rfl,rfl,by simp⟩
 | @cons kv p aa ps a r ih=>
  obtain⟨e,b,eb,h⟩:=a;by_cases z:p.1=k
  .refine .inr ⟨b,?_,?_⟩
   .rw[vy (e.trans z),eb]
   .rw[qo,if_pos z];exact h
  .have z':¬kv.1=k:=λq=>z (e.symm.trans q);rw[qo,if_neg z,y7 z'];rcases ih with⟨h1,h2,h3⟩|h
   .exact .inl ⟨h1,h2,by rw[map_cons,mem_cons];exact λq=>q.elim (λq=>z q.symm) h3⟩
   .exact .inr h
noncomputable def Yd (t:Ad):Sp:=λvs H Q _=>∃x dx en,vs=[.ref x,.int en]/\H x=some (.ins t.gB dx [])/\∀S H',H S=none->vb t H' x dx S en [] []->(∀b o,H b=some o->b≠x->H' b=some o)->Q .aq H'
noncomputable def Ye (t:Ad):Sp:=λvs H Q _=>∃p dx S en aa ps b k,vs=[.ref p,.ref b]/\FF t H p dx S en aa ps/\H b=some (.tup (k.map kV))/\(qo ps k).length<64/\∀(r:Addr)(ns:List Int)(H':Hp),H r=none->xr H H'->ns.Perm (qo ps k)->ns.Pairwise (·<=·)->H' r=some (.lst (ns.map V.int))->Q (.ref r) H'
noncomputable def Yf (t:Ad):Sp:=λvs H Q _=>∃p dx S en aa ps b k,vs=[.ref p,.ref b]/\FF t H p dx S en aa ps/\H b=some (.tup (k.map kV))/\∀H',xr H H'->Q (.bl (decide (en<=((qo ps k).length:Int)))) H'
noncomputable def kY:ft->List Key->Int->ft
 |[],k,h=>[(k,[h])]
 |p::ps,k,h=>if p.1=k then(p.1,p.2++[h])::ps else p::kY ps k h
noncomputable def NotIn (aa:List (List Key×V))(c:Addr):Prop:=∀kv∈aa,kv.2≠.ref c
noncomputable def Yg (t:Ad):Sp:=λvs H Q _=>∃p dx S en aa ps b k h,vs=[.ref p,.int h,.ref b]/\vb t H p dx S en aa ps/\H b=some (.tup (k.map kV))/\aa.length<=1000/\(qo ps k).length<=1000/\(h∈qo ps k->∀H',xr H H'->Q (.bl false) H')/\(h∉qo ps k->∀aJ H',vb t H' p dx S en aJ (kY ps k h)->(∀c u,H c=some u->c≠S->NotIn aa c->H' c=some u)->(∀c u,H c=some u->NotIn aa c->NotIn aJ c)->Q (.bl (decide (((qo ps k).length:Int)+1=en))) H')
theorem LU:∀{ps:ft}{k:List Key}{h:Int},k∉ps.map (·.1)->kY ps k h=ps++[(k,[h])]
 |[],_,_,_=>rfl
 |p::ps,k,h,z=>by rw[map_cons,mem_cons]at z;rw[kY,if_neg (λe=>z (.inl e.symm)),LU λe=>z (.inr e)];rfl
theorem j9 {α β:Type}{F:α->β->Prop}:∀{xs:List α}{ys:List β}{x:α}{y:β},Paired F xs ys->F x y->Paired F (xs++[x]) (ys++[y]):=λ{xs ys x y} q h=>by
 induction q with
 |nil=>exact .cons h .nil
 |cons a _ ih=>exact .cons a ih
theorem LW {k:List Key}{v:V}{aa:List (List Key×V)}(ev:aO aa k=some v):v∈aa.map (·.2):=by
 unfold aO at ev;cases hf:aa.find? (λkv=>decide (kv.1=k))with
 |none=>rw[hf]at ev;cases ev
 |some q=>rw[hf]at ev;have e3:q.2=v:=Option.some.inj ev;rw[<-e3];exact mem_map_of_mem (List.mem_of_find?_eq_some hf)
theorem y6 {h:Int}:∀{hs:List Int},wK (.int h) (hs.map V.int)=decide (h∈hs)
 |[]=>rfl
 |x::hs=>by
  have ih:=y6 (h:=h) (hs:=hs);simp only[map_cons,wK,any_cons]at ih⊢;rw[ih];show(x==h||decide (h∈hs))=_;by_cases e:h=x
  .simp[e]
  .have e':¬x=h:=λz=>e z.symm;simp[e,e']
theorem w6 (hs:List Int):(hs.map V.int).all kM=true:=by rw[all_eq_true];intro y hy;obtain⟨i,_,rfl⟩:=mem_map.mp hy;rfl
theorem Yh {H:Hp}{r:Addr}(hr:H r=none):∀{aa:List (List Key×V)}{ps:ft},Paired (gW H) aa ps->V.ref r∉aa.map (·.2):=λ{aa ps} q=>by
 induction q with
 |nil=>simp
 |@cons kv p aa ps a r ih=>
  obtain⟨_,b,eb,hb⟩:=a;rw[map_cons,mem_cons]
  rintro(z|z)
  .rw[eb]at z;cases z;rw[hr]at hb;cases hb
  .exact ih z
theorem grown {H:Hp}{k:List Key}{h:Int}{c:Addr}:∀{aa:List (List Key×V)}{ps:ft},Paired (gW H) aa ps->(aa.map (·.2)).Nodup->aO aa k=some (.ref c)->Paired (gW (upd H c (.lst ((qo ps k++[h]).map V.int)))) aa (kY ps k h):=λ{aa ps} q nd ev=>by
 induction q with
 |nil=>cases ev
 | @cons kv p aa ps a r ih=>
  obtain⟨e,b,eb,hb⟩:=a;rw[map_cons,nodup_cons]at nd;have keep:∀{aa:List (List Key×V)}{ps:ft}{o:HO}{a:Addr},V.ref a∉aa.map (·.2)->Paired (gW H) aa ps->Paired (gW (upd H a o)) aa ps:=λ{aa ps o a} ha r=>by
   induction r with
   |nil=>exact .nil
   |cons q _ ih=>rw[map_cons,mem_cons]at ha;obtain⟨q1,b,q2,q3⟩:=q;refine .cons ⟨q1,b,q2,?_⟩ (ih λz=>ha (.inr z));rw[jg (λz=>ha (.inl (by rw[q2,z])))];exact q3
  by_cases z:p.1=k
  .rw[vy (e.trans z),eb]at ev;cases ev;rw[kY,if_pos z,qo,if_pos z];rw[eb]at nd;exact .cons ⟨e,c,eb,ja⟩ (keep nd.1 r)
  .have z':¬kv.1=k:=λq=>z (e.symm.trans q);rw[y7 z']at ev;rw[kY,if_neg z,qo,if_neg z];have hm:V.ref c∈aa.map (·.2):=LW ev;have Yi:b≠c:=λq=>nd.1 (by rw[eb,q];exact hm);exact .cons ⟨e,b,eb,by rw[jg Yi];exact hb⟩ (ih nd.2 ev)
noncomputable abbrev x9:=List (List Int×List Int)
noncomputable def bz (t:List Int):List Key:=t.map Sum.inl
noncomputable def cZ (is:x9):ft:=is.map λp=>(bz p.1,p.2)
theorem tH {t u:List Int}(h:bz t=bz u):t=u:=(List.map_inj_right (λ_ _ z=>Sum.inl.inj z)).mp h
theorem FG {K:W.Frag}{H H':Hp}{vs:List V}{ts:List (List Int)}(s:xr H H')(h:jL K H vs ts):jL K H' vs ts:=Paired.yf h λ_ _ ⟨a,e,q⟩=>⟨a,e,by
 rcases q with q|q
 .exact .inl (tG s q)
 .exact .inr q⟩
section
variable {P:Program}{w:World}{K:W.Frag}{mg:Str->Option Value}{base:Heap}{t:Ad}
theorem Yj (T:Txt K mg t):xl P w K mg base CX0 1 t.ug t.uk ["self","thing"] (Yf t):=by
 refine T.VM.bj (N:=["self","thing"]) λ_ A _ s H vs Q E hr h=>?_;obtain⟨p,dx,S,en,aa,ps,b,k,rfl,Bq,hb,q⟩:=h;refine⟨_,(@jd _ _ _ (j5 (i9 BA (jn jt rfl T.cB boot_len (jc (wV (cM hr) (qd (pv 0) rfl) (pv 1) (@qq _ _ _ _ jf) ⟨rfl,rfl,rfl,rfl⟩) jf)) (qd (pv 0) rfl) (qf _)))),?_⟩;refine⟨_,rfl,p,_,dx,_,_,rfl,Bq.ob,T.vm,T.yu,FD _ _,S,rfl,.inr ⟨aa,Bq.sg⟩,_,rfl,cu,λr hr=>?_⟩;have s1:=je (o:=.lst []) hr;refine⟨_,.inr ⟨aa,k,b,tG s1 Bq.sg,rfl,s1 _ _ hb,rfl⟩,?_⟩;rcases yZ (k:=k) Bq.hs with⟨h1,h2,h3⟩|⟨c,h1,h2⟩
 .rw[h1];refine⟨r,[],rfl,.inl (af.of ja),_,rfl,p,_,dx,_,_,rfl,s1 _ _ Bq.ob,T.vm,T.yc,yY _ _,_,_,rfl,rfl,?_⟩;have:=q _ s1;rw[h2]at this;exact this
 .rw[h1];refine⟨c,_,rfl,.inl (af.of (s1 _ _ h2)),_,rfl,p,_,dx,_,_,rfl,s1 _ _ Bq.ob,T.vm,T.yc,yY _ _,_,_,rfl,rfl,?_⟩;rw[length_map];exact q _ s1
theorem Yk (T:Txt K mg t):xl P w K mg base CX0 1 t.D0 t.D1 ["self","house","thing"] (Yg t):=by
 refine T.VP.cA K1 λ_ A _ s H vs Q E hr h=>?_;obtain⟨p,dx,S,en,aa,ps,b,k,h,rfl,Bq,hb,l1,l2,q1,q2⟩:=h;refine⟨_,(@jb _ _ _ _ _ (qa (i:=3) K1.nd rfl (Or.inl rfl) (TC (cM hr) (qd (pv 0) rfl) (pv 2) (@qq _ _ _ _ jf) ⟨rfl,rfl,rfl,rfl⟩)) (@jb _ _ _ _ _ (zh (jx wL (pv 1) (pv 3) (by with_unfolding_all rfl)) (@jd _ _ _ (j5 fB)) j6) (@jb _ _ _ _ _ (qb (dq PySem.F.plainAttrs_list PySem.F.slot_list_append PySem.F.type_list_append xf (pv 3) (jc (pv 1) jf))) (@jd _ _ _ (j5 (i9 fG (jn jt rfl T.cB boot_len (jc (pv 3) jf)) (qd (pv 0) rfl) (qf _))))))),?_⟩;refine⟨_,rfl,p,_,dx,_,_,rfl,Bq.ob,T.vm,T.yu,FD _ _,S,rfl,.inr ⟨aa,.inl Bq.sg⟩,_,rfl,cu,λr hr=>?_⟩;have s1:=je (o:=.lst []) hr;have B1:=Bq.same s1;refine⟨aa,k,b,B1.sg,rfl,s1 _ _ hb,qi l1,λv hv=>?_,λhv=>?_⟩
 .rcases yZ (k:=k) B1.hs with⟨z,_⟩|⟨c,h1,h2⟩
  .rw[hv]at z;cases z
  cases Option.some.inj (hv.symm.trans h1);refine⟨_,rfl,_,rfl,c,_,rfl,.inl (af.of h2),rfl,w6 _,_,rfl,bH (λz=>?_) (λz=>?_)⟩
  .rw[if_neg (by decide),y6]at z;exact q1 (of_decide_eq_true z) _ s1
  rw[if_neg (by decide),y6]at z;have nh:h∉qo ps k:=λy=>z (decide_eq_true y);have pc:p≠c:=iW B1.ob h2 (by intro z;cases z);have Sc:S≠c:=iW B1.sg h2 (by intro z;cases z);refine⟨_,rfl,.inl ⟨rfl,_,af.of h2⟩,_,rfl,c,_,_,rfl,rfl,h2,qi (by rw[length_map];exact l2),?_⟩;refine⟨_,rfl,c,_,rfl,.inl (af.of ja),_,rfl,p,_,dx,_,_,rfl,(by rw[jg pc];exact B1.ob),T.vm,T.yc,yY _ _,rfl,?_⟩;have G:=grown (h:=h) B1.hs B1.un h1;rw[map_append]at G;have e:decide (V.int (((qo ps k).map V.int++[V.int h]).length:Nat)=V.int en)=decide (((qo ps k).length:Int)+1=en):=by rw[length_append,length_map];simp
  have goal:=q2 nh aa _ ⟨by rw[jg pc];exact B1.ob,by rw[jg Sc];exact B1.sg,G,B1.un⟩ λc' u hc cS cN=>by
   have ne:c'≠c:=λy=>by obtain⟨kv,hm,ek⟩:=mem_map.mp (LW h1);exact cN kv hm (by rw[ek,y])
   rw[jg ne];exact s1 _ _ hc
  have goal:=goal λ_ _ _ z=>z;rw[<-e]at goal;exact goal
 .rcases yZ (k:=k) B1.hs with⟨_,h2,h3⟩|⟨c,z,_⟩;case inr=>rw[hv]at z;cases z
  have rS:r≠S:=(jj Bq.sg hr).symm;have rp:r≠p:=(jj Bq.ob hr).symm;have Sp:S≠p:=iW Bq.sg Bq.ob (by intro z;cases z);rw[oX _ hv];have kZ:upd (upd H r (.lst [])) S (.dT (aa++[(k,.ref r)])) r=some (.lst []):=by rw[jg rS];exact ja
  refine⟨_,rfl,_,rfl,r,[],rfl,.inl (af.of kZ),rfl,rfl,_,rfl,we ?_⟩;refine⟨_,rfl,.inl ⟨rfl,_,af.of kZ⟩,_,rfl,r,[],_,rfl,rfl,kZ,(by show 0<sizeLine;decide),?_⟩;have LX:upd (upd (upd H r (.lst [])) S (.dT (aa++[(k,.ref r)]))) r (.lst ([]++[.int h])) p=some (.ins t.gB dx (kX S en)):=by rw[jg rp.symm,jg Sp.symm];exact B1.ob
  refine⟨_,rfl,r,_,rfl,.inl (af.of ja),_,rfl,p,_,dx,_,_,rfl,LX,T.vm,T.yc,yY _ _,rfl,?_⟩;have goal:=q2 (by rw[h2];simp) (aa++[(k,.ref r)]) (upd (upd (upd H r (.lst [])) S (.dT (aa++[(k,.ref r)]))) r (.lst ([]++[.int h]))) ⟨LX,by rw[jg rS.symm];exact ja,by
   rw[LU h3];refine j9 (Paired.yf Bq.hs λkv pp ⟨e1,c,e2,e3⟩=>⟨e1,c,e2,?_⟩) ⟨rfl,r,rfl,ja⟩;rw[jg (jj e3 hr),jg (iW e3 Bq.sg (by intro z;cases z)),jg (jj e3 hr)];exact e3,by
   rw[map_append,nodup_append];refine⟨Bq.un,by simp,λx hx y hy e=>?_⟩;rw[map_cons,map_nil,mem_singleton]at hy;rw[e,hy]at hx;exact Yh hr Bq.hs hx⟩ λc' u hc cS _=>by rw[jg (jj hc hr),jg cS,jg (jj hc hr)];exact hc
  have goal:=goal λc u hc z kv hm=>by
   rcases mem_append.mp hm with y|y
   .exact z kv y
   .have y':kv=(k,.ref r):=by simpa using y
    rw[y'];intro w;have w':r=c:=by simpa using w
    rw[<-w',hr]at hc;cases hc
  rw[h2]at goal;have e:decide (V.int ((([]:List V)++[V.int h]).length:Nat)=V.int en)=decide ((([]:List Int).length:Int)+1=en):=by simp
  rw[<-e]at goal;exact goal
theorem Yl (T:Txt K mg t):xl P w K mg base CX0 1 t.gp t.DZ ["self","enough"] (Yd t):=by
 refine T.VI.bj (N:=["self","enough"]) λ_ A _ s H vs Q E hr h=>?_;obtain⟨x,dx,en,rfl,hx,k⟩:=h;refine⟨_,(@jb _ _ _ _ _ (dM (pv 0) (pv 1) rfl) (@jd _ _ _ (dM (pv 0) rG rfl))),?_⟩;refine⟨_,rfl,_,rfl,x,_,dx,_,rfl,hx,T.vm,T.yc,(by show 0<1000;decide),λS hS=>?_⟩;obtain⟨Sx,LY⟩:=Yc hS;refine⟨_,rfl,x,_,dx,_,rfl,(by rw[jg (Ne.symm Sx),ja]),T.vm,T.yu,(by show 1<1000;decide),?_⟩;refine k S _ LY ⟨ja,by rw[jg Sx];exact ja,.nil,.nil⟩ λb o e bx=>?_;rw[jg bx,jg (jj e LY),jg bx];exact e
theorem Ym (T:Txt K mg t):xl P w K mg base CX0 1 t.ue t.ui ["self","purse"] (λvs H Q _=>∃x v,vs=[.ref x,v]/\H x=some (sD x t.xg)/\∀d,H d=none->Q .aq (upd (upd H x (nQ x t.xg d)) d (.xd [("purse",v)]))):=by refine T.VC.bj (N:=["self","purse"]) λ_ A _ s H vs Q E hr h=>?_;obtain⟨x,v,rfl,hx,k⟩:=h;refine⟨_,(@jd _ _ _ (Uj T.Li rfl (pv 0) (pv 1) rfl)),?_⟩;exact⟨_,rfl,_,rfl,x,rfl,hx,k⟩
theorem Yn {H:Hp}{ea d:Addr}{X Yq Zq:HO}(h:H ea=none)(hd:upd H ea X d=none):H d=none/\upd (upd (upd H ea X) ea Yq) d Zq ea=some Yq/\xr H (λb=>if b=ea then none else upd (upd (upd H ea X) ea Yq) d Zq b)/\(λb=>if b=ea then none else upd (upd (upd H ea X) ea Yq) d Zq b) d=some Zq:=by
 have n1:d≠ea:=λz=>by rw[z,ja]at hd;cases hd
 have n2:H d=none:=by rw[jg n1]at hd;exact hd
 refine⟨n2,by rw[jg (Ne.symm n1),ja],λb u e=>?_,?_⟩
 .have be:=jj e h;show(if b=ea then none else upd (upd (upd H ea X) ea Yq) d Zq b)=some u;rw[if_neg be,jg (jj e n2),jg be,jg be];exact e
 .show(if d=ea then none else upd (upd (upd H ea X) ea Yq) d Zq d)=some Zq;rw[if_neg n1,ja]
theorem gd {a b:TS}{D:Ends}{U:St}{H:Hp}(h:∀N:St->Hp->Prop,(∀U' H',b D U' H'->N U' H')->a {D with nx:=N} U H):Ii a b D U H:=h _ λ_ _ x=>x
theorem tI {c:TT}{a b:TS}{D:Ends}{U:St}{H:Hp}(h:∀N:Bool->Hp->Prop,(∀k H',(if k=true then a D U H' else b D U H')->N k H')->c U H N):Bp c a b D U H:=h _ λ_ _ x=>x
structure Kp where
 held:List Int
 qz:List Int
 done:List O
 qe:List O
 az:List O
 cho:List ((Int×Int)×O)
 wait:List O
noncomputable def gI (xs:List Int)(i:Int):Int:=(xs[i.toNat]?).getD 0
noncomputable def yw (xs:List Int)(i d:Int):List Int:=xs.set i.toNat (gI xs i+d)
theorem tJ (xs:List Int)(i d:Int):(yw xs i d).length=xs.length:=length_set ..
theorem zA {xs:List Int}{i:Int}(h0:0<=i)(h:i<xs.length):xs[i.toNat]?=some (gI xs i):=by unfold gI;rw[getElem?_eq_getElem (by lia)];rfl
noncomputable def Kp.past (k:Kp)(o:O):Bool:=decide (o.n<gI k.qz o.p)
noncomputable def Kp.bO (k:Kp)(o:O):Bool:=decide (o.n=gI k.qz o.p)&&decide (o.m<=gI k.held o.p)
noncomputable def Kp.settle (k:Kp)(o:O):Kp:={k with held:=yw (yw k.held o.p (-o.m)) o.g o.m,qz:=yw k.qz o.p 1,done:=k.done++[o]}
noncomputable def cv (c:List ((Int×Int)×O))(o:O):Bool:=c.any λx=>decide (x.1=(o.p,o.n))
noncomputable abbrev Gv:=List ((Int×Int)×O)×List O×List O
noncomputable def bU (k:Kp)(o:O)(a:Gv):Gv:=if(k.bO o&&!cv a.1 o)=true then(a.1++[((o.p,o.n),o)],a.2.1++[o],a.2.2)else if(!k.past o&&!cv a.1 o)=true then(a.1,a.2.1,a.2.2++[o])else a
noncomputable def gv (k:Kp)(os:List O)(a:Gv):Gv:=os.foldl (λa o=>bU k o a) a
noncomputable def Kp.qm (k:Kp):Kp×List O:=({k with cho:=(gv k k.az (k.cho,[],[])).1,az:=(gv k k.az (k.cho,[],[])).2.2},(gv k k.az (k.cho,[],[])).2.1)
noncomputable def Kp.first (k:Kp):Option O:=k.wait.find? k.bO
noncomputable def Kp.step (k:Kp)(o:O):Kp:={k with wait:=k.wait.erase o}.settle o
noncomputable def Kp.go:Nat->Kp->Kp
 |0,k=>k
 |n+1,k=>match k.first with
  |none=>k
  |some o=>Kp.go n (k.step o)
noncomputable def Kp.eT (k:Kp):Kp:=Kp.go k.wait.length k
noncomputable def Kp.gX (k:Kp)(o:O):Kp×List O:=if o∈k.qe then(k,[])else Kp.qm {k with qe:=k.qe++[o],az:=k.az++[o]}
noncomputable def Kp.eD (k:Kp)(o:O):Kp×List O:=if(k.past o||decide (o∈k.wait))=true then(k,[])else(Kp.eT {k with wait:=k.wait++[o]}).qm
structure Kp.Ok (n:Nat)(k:Kp):Prop where
 h:k.held.length=n
 x:k.qz.length=n
 u:∀o∈k.az,xq n o=true
 w:∀o∈k.wait,xq n o=true
 nd:k.wait.Nodup
theorem Kp.Ok.settle {n:Nat}{k:Kp}(q:k.Ok n)(o:O):(k.settle o).Ok n:=⟨by show(yw (yw _ _ _) _ _).length=n;rw[tJ,tJ];exact q.h,by show(yw _ _ _).length=n;rw[tJ];exact q.x,q.u,q.w,q.nd⟩
theorem Kp.Ok.step {n:Nat}{k:Kp}(q:k.Ok n)(o:O):(k.step o).Ok n:=Kp.Ok.settle (k:={k with wait:=k.wait.erase o}) ⟨q.h,q.x,q.u,λo' h=>q.w o' (List.mem_of_mem_erase h),q.nd.erase o⟩ o
theorem Kp.Ok.go {n:Nat}:∀{m:Nat}{k:Kp},k.Ok n->(Kp.go m k).Ok n
 |0,_,q=>q
 |m+1,k,q=>by
  unfold Kp.go;cases k.first with
  |none=>exact q
  |some o=>exact Kp.Ok.go (q.step o)
theorem FH (k:Kp){P:O->Prop}:∀(os:List O)(a:Gv),(∀o∈os,P o)->(∀o∈a.2.2,P o)->∀o∈(gv k os a).2.2,P o
 |[],a,_,h=>h
 | o::os,a,h1,h2=>by
  unfold gv;rw[foldl_cons];refine FH k os _ (λo' h=>h1 o' (mem_cons_of_mem _ h)) ?_;unfold bU;split
  .exact h2
  .split
   .intro o' h;rcases mem_append.mp h with h|h
    .exact h2 o' h
    .rw[mem_singleton.mp h];exact h1 o mem_cons_self
   .exact h2
theorem Kp.Ok.qm {n:Nat}{k:Kp}(q:k.Ok n):k.qm.1.Ok n:=⟨q.h,q.x,FH k k.az _ q.u (λo h=>by cases h),q.w,q.nd⟩
set_option genInjectivity true in
inductive Part where
 | x | wy | ak | bd | sd | sg | kd
 | row (i:Nat)
 | kp (h:Int) (f:Nat)
 | own (i:Nat)
 deriving DecidableEq
noncomputable abbrev Role:=Nat×Part
noncomputable abbrev ar:=Addr->Option Role
noncomputable def mz:HO->Prop
 | .tup _=>False
 | .aY _ (.tup _)=>False
 |_=>True
noncomputable def aw (Z:ar)(H:Hp):Prop:=∀a r,Z a=some r->∃u,H a=some u/\mz u
noncomputable def Fr (P:Role->Prop)(Z:ar)(H:Hp)(Z':ar)(H':Hp):Prop:=∀a u,H a=some u->(∀r,Z a=some r->¬P r)->H' a=some u/\Z' a=Z a
noncomputable def vg (Z:ar)(p:Addr)(r:Role):ar:=λa=>if a=p then some r else Z a
theorem qk {Z:ar}{p:Addr}{r:Role}:vg Z p r p=some r:=if_pos rfl
theorem zy {Z:ar}{p a:Addr}{r:Role}(h:a≠p):vg Z p r a=Z a:=if_neg h
theorem Fr.refl {P:Role->Prop}{Z:ar}{H:Hp}:Fr P Z H Z H:=λ_ _ e _=>⟨e,rfl⟩
theorem Fr.trans {P:Role->Prop}{Z Z' LZ:ar}{H H' pJ:Hp}(f:Fr P Z H Z' H')(g:Fr P Z' H' LZ pJ):Fr P Z H LZ pJ:=λa u e n=>by obtain⟨e1,r1⟩:=f a u e n;obtain⟨e2,r2⟩:=g a u e1 (λr h=>n r (r1 ▸ h));exact⟨e2,r2.trans r1⟩
theorem Fr.mono {P P':Role->Prop}{Z Z':ar}{H H':Hp}(h:∀r,P r->P' r)(f:Fr P Z H Z' H'):Fr P' Z H Z' H':=λa u e n=>f a u e λr hr p=>n r hr (h r p)
theorem Fr.same {P:Role->Prop}{Z:ar}{H H':Hp}(s:xr H H'):Fr P Z H Z H':=λ_ _ e _=>⟨s _ _ e,rfl⟩
theorem aw.same {Z:ar}{H H':Hp}(s:xr H H')(o:aw Z H):aw Z H':=λa r h=>let⟨u,e,n⟩:=o a r h;⟨u,s _ _ e,n⟩
theorem aw.none {Z:ar}{H:Hp}{p:Addr}(o:aw Z H)(h:H p=none):Z p= .none:=by
 cases e:Z p with
 |none=>rfl
 |some r=>obtain⟨u,q,_⟩:=o p r e;rw[h]at q;cases q
theorem Fr.put {P:Role->Prop}{Z:ar}{H:Hp}{a:Addr}{r:Role}{o:HO}(h:Z a=some r)(p:P r):Fr P Z H Z (upd H a o):=λb u e n=>by have:b≠a:=λz=>n r (z ▸ h) p;exact⟨by rw[jg this];exact e,rfl⟩
theorem aw.put {Z:ar}{H:Hp}{a:Addr}{o:HO}(k:aw Z H)(ho:autoParam (mz o) aP5):aw Z (upd H a o):=λb r h=>by
 by_cases z:b=a
 .subst z;exact⟨_,ja,ho⟩
 .obtain⟨u,e,n⟩:=k b r h;exact⟨u,by rw[jg z];exact e,n⟩
theorem Fr.bA {P:Role->Prop}{Z:ar}{H:Hp}{p:Addr}{r:Role}{o:HO}(n:H p=none):Fr P Z H (vg Z p r) (upd H p o):=λb u e _=>by have:b≠p:=jj e n;exact⟨by rw[jg this];exact e,zy this⟩
theorem aw.bA {Z:ar}{H:Hp}{p:Addr}{r:Role}{o:HO}(k:aw Z H)(ho:autoParam (mz o) aP5):aw (vg Z p r) (upd H p o):=λb r' h=>by
 by_cases z:b=p
 .subst z;exact⟨_,ja,ho⟩
 .rw[zy z]at h;obtain⟨u,e,n⟩:=k b r' h;exact⟨u,by rw[jg z];exact e,n⟩
theorem cP {Z:ar}{a b:Addr}{r r':Role}(ha:Z a=some r)(hb:Z b=some r')(n:r≠r'):a≠b:=λz=>by subst z;rw[ha]at hb;exact n (Option.some.inj hb)
theorem FI {Z:ar}{a b:Addr}{r:Role}(ha:Z a=none)(hb:Z b=some r):a≠b:=λz=>by subst z;rw[ha]at hb;cases hb
noncomputable def qh (H:Hp)(Z:ar)(x:V)(o:O):Prop:=∃a,x= .ref a/\Z a=none/\H a=some (.tup (cC o))
theorem qh.fr {P:Role->Prop}{Z Z':ar}{H H':Hp}{x:V}{o:O}(f:Fr P Z H Z' H')(h:qh H Z x o):qh H' Z' x o:=by
 obtain⟨a,e,n,q⟩:=h;obtain⟨q',n'⟩:=f a _ q λr hr=>by rw[n]at hr;cases hr
 exact⟨a,e,n'.trans n,q'⟩
theorem qh.at_ {H:Hp}{Z:ar}{x:V}{o:O}(h:qh H Z x o):X6 H x o:=let⟨a,e,_,q⟩:=h;⟨a,e,q⟩
noncomputable def cJ (o:O):List Key:=[.inl o.p,.inl o.n,.inl o.g,.inl o.m]
theorem Yo {o u:O}(h:cJ o=cJ u):o=u:=by cases o;cases u;unfold cJ at h;simp at h;simp[h]
noncomputable def iK (he nn dn:Addr):List (Str×V):=kq "done" (.ref dn) (kq "next_numbers" (.ref nn) (kq "held" (.ref he) []))
noncomputable def kf (he nn dn hd un cs wt:Addr):List (Str×V):=kq "waiting" (.ref wt) (kq "choices" (.ref cs) (kq "unvoted" (.ref un) (kq "heard" (.ref hd) (iK he nn dn))))
noncomputable abbrev eE (A:Nat->Addr):List (Str×V):=kf (A 1) (A 2) (A 3) (A 4) (A 5) (A 6) (A 7)
noncomputable def dP (H:Hp)(Z:ar)(B:Kp)(f:Nat)(u:HO):Prop:=match f with
 |1=>u= .lst (B.held.map V.int)
 |2=>u= .lst (B.qz.map V.int)
 |3=>∃xs,u= .lst xs/\Paired (qh H Z) xs B.done
 |4=>∃aa,u= .dT aa/\aa.map (·.1)=B.qe.map cJ
 |5=>∃xs,u= .lst xs/\Paired (qh H Z) xs B.az
 |6=>∃aa,u= .dT aa/\Paired (λkv (c:(Int×Int)×O)=>kv.1=[.inl c.1.1,.inl c.1.2]/\qh H Z kv.2 c.2) aa B.cho
 |7=>∃xs,u= .lst xs/\Paired (qh H Z) xs B.wait
 |_=>True
theorem dP.fr {P:Role->Prop}{Z Z':ar}{H H':Hp}{B:Kp}{f:Nat}{u:HO}(fr:Fr P Z H Z' H')(h:dP H Z B f u):dP H' Z' B f u:=by
 unfold dP at h⊢;split at h
 .exact h
 .exact h
 .obtain⟨xs,e,p⟩:=h;exact⟨xs,e,Paired.yf p λ_ _=>qh.fr fr⟩
 .exact h
 .obtain⟨xs,e,p⟩:=h;exact⟨xs,e,Paired.yf p λ_ _=>qh.fr fr⟩
 .obtain⟨xs,e,p⟩:=h;exact⟨xs,e,Paired.yf p λ_ _ ⟨a,b⟩=>⟨a,b.fr fr⟩⟩
 .obtain⟨xs,e,p⟩:=h;exact⟨xs,e,Paired.yf p λ_ _=>qh.fr fr⟩
 .trivial
structure xh (t:Ad)(H:Hp)(Z:ar)(id:Nat)(h:Int)(k:Addr)(A:Nat->Addr)(dk:Addr)(B:Kp):Prop where
 ob:H k=some (.ins t.jz dk (eE A))
 r0:Z k=some (id,.kp h 0)
 fl:∀f,1<=f->f<=7->Z (A f)=some (id,.kp h f)/\∃u,H (A f)=some u/\dP H Z B f u
noncomputable def bq (id:Nat)(h:Int):Role->Prop:=λr=>∃f,r=(id,.kp h f)
section
variable {t:Ad}{H H':Hp}{Z Z':ar}{id:Nat}{h:Int}{k dk:Addr}{A:Nat->Addr}{B κ':Kp}{P:Role->Prop}
theorem xh.fr (hP:∀f,¬P (id,.kp h f))(f:Fr P Z H Z' H')(K:xh t H Z id h k A dk B):xh t H' Z' id h k A dk B:=by
 obtain⟨e1,r1⟩:=f _ _ K.ob λr hr=>by rw[K.r0]at hr;cases hr;exact hP 0
 refine⟨e1,r1.trans K.r0,λi h1 h7=>?_⟩;obtain⟨ri,u,hu,q⟩:=K.fl i h1 h7;obtain⟨e2,r2⟩:=f _ _ hu λr hr=>by rw[ri]at hr;cases hr;exact hP i
 exact⟨r2.trans ri,u,e2,q.fr f⟩
theorem xh.put (K:xh t H Z id h k A dk B){f0:Nat}(h1:1<=f0)(h7:f0<=7){u0:HO}(q0:dP (upd H (A f0) u0) Z κ' f0 u0)(hs:∀f u,f≠f0->dP H Z B f u->dP H Z κ' f u):xh t (upd H (A f0) u0) Z id h k A dk κ'/\Fr (bq id h) Z H Z (upd H (A f0) u0):=by
 obtain⟨r0,_⟩:=K.fl f0 h1 h7;have fr:Fr (bq id h) Z H Z (upd H (A f0) u0):=Fr.put r0 ⟨f0,rfl⟩;refine⟨⟨?_,K.r0,λf a b=>?_⟩,fr⟩
 .rw[jg (cP K.r0 r0 (by intro z;cases z;lia))];exact K.ob
 .obtain⟨rf,u,hu,q⟩:=K.fl f a b;by_cases z:f=f0
  .subst z;exact⟨rf,_,ja,q0⟩
  .refine⟨rf,u,?_,(hs f u z q).fr fr⟩;rw[jg (cP rf r0 (by intro y;cases y;exact z rfl))];exact hu
end
theorem zu (A:Nat->Addr):(eE A).lookup ("held":Str)=some (.ref (A 1))/\(eE A).lookup ("next_numbers":Str)=some (.ref (A 2))/\(eE A).lookup ("done":Str)=some (.ref (A 3))/\(eE A).lookup ("heard":Str)=some (.ref (A 4))/\(eE A).lookup ("unvoted":Str)=some (.ref (A 5))/\(eE A).lookup ("choices":Str)=some (.ref (A 6))/\(eE A).lookup ("waiting":Str)=some (.ref (A 7)):=by unfold eE kf iK;refine⟨?_,?_,?_,?_,?_,?_,?_⟩<;>repeat(first|rw[jk,if_pos rfl]|rw[jk,if_neg (by decide+kernel)])
theorem fu (A:Nat->Addr){m:Str}(h:autoParam (¬m="waiting"/\¬m="choices"/\¬m="unvoted"/\¬m="heard"/\¬m="done"/\¬m="next_numbers"/\¬m="held") aP4):(eE A).lookup m=none:=by obtain⟨h1,h2,h3,h4,h5,h6,h7⟩:=h;unfold eE kf iK;rw[jk,if_neg h1,jk,if_neg h2,jk,if_neg h3,jk,if_neg h4,jk,if_neg h5,jk,if_neg h6,jk,if_neg h7];rfl
theorem xh.he {t:Ad}{H:Hp}{Z:ar}{id:Nat}{h:Int}{k dk:Addr}{A:Nat->Addr}{B:Kp}(K:xh t H Z id h k A dk B):H (A 1)=some (.lst (B.held.map V.int)):=by obtain⟨_,u,hu,q⟩:=K.fl 1 (by decide) (by decide);rw[hu,show u=_ from q]
theorem xh.nn {t:Ad}{H:Hp}{Z:ar}{id:Nat}{h:Int}{k dk:Addr}{A:Nat->Addr}{B:Kp}(K:xh t H Z id h k A dk B):H (A 2)=some (.lst (B.qz.map V.int)):=by obtain⟨_,u,hu,q⟩:=K.fl 2 (by decide) (by decide);rw[hu,show u=_ from q]
theorem xh.dn {t:Ad}{H:Hp}{Z:ar}{id:Nat}{h:Int}{k dk:Addr}{A:Nat->Addr}{B:Kp}(K:xh t H Z id h k A dk B):∃xs,H (A 3)=some (.lst xs)/\Paired (qh H Z) xs B.done:=by obtain⟨_,u,hu,xs,rfl,q⟩:=K.fl 3 (by decide) (by decide);exact⟨xs,hu,q⟩
theorem xh.hd {t:Ad}{H:Hp}{Z:ar}{id:Nat}{h:Int}{k dk:Addr}{A:Nat->Addr}{B:Kp}(K:xh t H Z id h k A dk B):∃aa,H (A 4)=some (.dT aa)/\aa.map (·.1)=B.qe.map cJ:=by obtain⟨_,u,hu,xs,rfl,q⟩:=K.fl 4 (by decide) (by decide);exact⟨xs,hu,q⟩
theorem xh.un {t:Ad}{H:Hp}{Z:ar}{id:Nat}{h:Int}{k dk:Addr}{A:Nat->Addr}{B:Kp}(K:xh t H Z id h k A dk B):∃xs,H (A 5)=some (.lst xs)/\Paired (qh H Z) xs B.az:=by obtain⟨_,u,hu,xs,rfl,q⟩:=K.fl 5 (by decide) (by decide);exact⟨xs,hu,q⟩
theorem xh.cs {t:Ad}{H:Hp}{Z:ar}{id:Nat}{h:Int}{k dk:Addr}{A:Nat->Addr}{B:Kp}(K:xh t H Z id h k A dk B):∃aa,H (A 6)=some (.dT aa)/\Paired (λkv (c:(Int×Int)×O)=>kv.1=[.inl c.1.1,.inl c.1.2]/\qh H Z kv.2 c.2) aa B.cho:=by obtain⟨_,u,hu,xs,rfl,q⟩:=K.fl 6 (by decide) (by decide);exact⟨xs,hu,q⟩
theorem xh.wt {t:Ad}{H:Hp}{Z:ar}{id:Nat}{h:Int}{k dk:Addr}{A:Nat->Addr}{B:Kp}(K:xh t H Z id h k A dk B):∃xs,H (A 7)=some (.lst xs)/\Paired (qh H Z) xs B.wait:=by obtain⟨_,u,hu,xs,rfl,q⟩:=K.fl 7 (by decide) (by decide);exact⟨xs,hu,q⟩
theorem tK {n:Nat}{o:O}{xs:List Int}(h:xq n o=true)(l:xs.length=n):xs[o.p.toNat]?=some (gI xs o.p)/\0<=o.p/\o.p<n:=by obtain⟨a1,a2,_⟩:=xy.mp h;exact⟨zA a1 (by lia),a1,by lia⟩
theorem FJ (T:Txt K mg t):xl P w K mg base CX0 1 t.yQ t.D4 ["self","order"] (λvs H Q _=>∃Z id h k A dk B n q o,vs=[.ref k,.ref q]/\xh t H Z id h k A dk B/\H q=some (.tup (cC o))/\xq (n:Nat) o=true/\B.qz.length=n/\Q (.bl (B.past o)) H):=by refine T.VX.bj (N:=["self","order"]) λ_ A _ s H vs Q E hr h=>?_;obtain⟨Z,id,h,k,A',dk,B,n,q,o,rfl,R,hq,ho,l,g⟩:=h;refine⟨_,(@jd _ _ _ (j5 (i9 wC (j7 fb (pv 1) jh (λ_ _=>rfl)) (j7 jo (qd (pv 0) rfl) (j7 fb (pv 1) jh (λ_ _=>rfl)) (λ_ _=>rfl)) (qf _)))),?_⟩;obtain⟨e,p0,_⟩:=tK ho l;refine⟨_,rfl,q,cC o,1,.int o.n,rfl,rfl,ay.of hq,rfl,_,rfl,k,_,dk,_,_,rfl,R.ob,T.jm,T.za,(zu A').2.1,_,rfl,q,cC o,0,.int o.p,rfl,rfl,ay.of hq,rfl,A' 2,_,o.p,.int (gI B.qz o.p),rfl,rfl,af.of R.nn,fN p0 (by rw[getElem?_map,e];rfl),_,_,rfl,rfl,g⟩
theorem L0 (T:Txt K mg t):xl P w K mg base CX0 1 t.yR t.D5 ["self","order"] (λvs H Q _=>∃Z id h k A dk B n q o,vs=[.ref k,.ref q]/\xh t H Z id h k A dk B/\H q=some (.tup (cC o))/\xq (n:Nat) o=true/\B.qz.length=n/\B.held.length=n/\Q (.bl (B.bO o)) H):=by
 refine T.VY.cA w9 λ_ A _ s H vs Q E hr h=>?_;obtain⟨Z,id,h,k,A',dk,B,n,q,o,rfl,R,hq,ho,l,l2,g⟩:=h;refine⟨_,(@jb _ _ _ _ _ (dY (pv 1) (lS rfl (j8 (jw (i:=2) w9.nd rfl (Or.inl rfl)) (j8 (jw (i:=3) w9.nd rfl (Or.inl rfl)) (j8 (jw (i:=4) w9.nd rfl (Or.inl rfl)) (j8 (jw (i:=5) w9.nd rfl (Or.inl rfl)) lR)))))) (@jd _ _ _ (j5 (mU (i9 fG (pv 3) (j7 jo (qd (pv 0) rfl) (pv 2) (λ_ _=>rfl)) (qf _)) (oM (i9 oP (pv 5) (j7 jo (qd (pv 0) rfl) (pv 2) (λ_ _=>rfl)) (qf _))))))),?_⟩;obtain⟨e,p0,_⟩:=tK ho l;obtain⟨e2,_,_⟩:=tK ho l2;refine⟨_,rfl,q,_,rfl,ay.of hq,rfl,_,_,rfl,_,_,rfl,_,_,rfl,_,_,rfl,rfl,?_⟩;refine⟨_,rfl,_,rfl,k,_,dk,_,_,rfl,R.ob,T.jm,T.za,(zu A').2.1,_,rfl,A' 2,_,o.p,.int (gI B.qz o.p),rfl,rfl,af.of R.nn,fN p0 (by rw[getElem?_map,e];rfl),rfl,_,rfl,?_⟩;unfold Kp.bO at g;refine bH (λz=>?_) (λz=>?_)
 .refine⟨_,rfl,_,rfl,k,_,dk,_,_,rfl,R.ob,T.jm,T.xn,(zu A').1,_,rfl,A' 1,_,o.p,.int (gI B.held o.p),rfl,rfl,af.of R.he,fN p0 (by rw[getElem?_map,e2];rfl),_,_,rfl,rfl,?_⟩;rw[decide_eq_true (V.int.inj (of_decide_eq_true z)),Bool.true_and]at g;exact g
 .rw[decide_eq_false (λy=>z (by rw[y];exact decide_eq_true rfl)),Bool.false_and]at g;exact g
theorem Yp (T:Txt K mg t):xl P w K mg base CX0 1 t.yS t.D6 ["self","order"] (λvs H Q _=>∃Z id h k A dk B n q o,vs=[.ref k,.ref q]/\xh t H Z id h k A dk B/\qh H Z (.ref q) o/\xq (n:Nat) o=true/\B.qz.length=n/\B.held.length=n/\B.done.length<=1000/\aw Z H/\∀H',xh t H' Z id h k A dk (B.settle o)->Fr (bq id h) Z H Z H'->aw Z H'->Q .aq H'):=by
 refine T.VZ.cA gb λ_ A _ s H vs Q E hr h=>?_;obtain⟨Z,id,h,k,A',dk,B,n,q,o,rfl,R,uq,ho,l,l2,ld,kr,g⟩:=h;refine⟨_,(@jb _ _ _ _ _ (dY (pv 1) (lS rfl (j8 (jw (i:=2) gb.nd rfl (Or.inl rfl)) (j8 (jw (i:=3) gb.nd rfl (Or.inl rfl)) (j8 (jw (i:=4) gb.nd rfl (Or.inl rfl)) (j8 (jw (i:=5) gb.nd rfl (Or.inl rfl)) lR)))))) (@jb _ _ _ _ _ (Bt (qd (pv 0) rfl) (pv 2) Cy (pv 5) O0 set_list) (@jb _ _ _ _ _ (Bt (qd (pv 0) rfl) (pv 4) Cy (pv 5) Io set_list) (@jb _ _ _ _ _ (Bt (qd (pv 0) rfl) (pv 2) Cy jh Io set_list) (@jd _ _ _ (qb (dq PySem.F.plainAttrs_list PySem.F.slot_list_append PySem.F.type_list_append xf (qd (pv 0) rfl) (jc (pv 1) jf)))))))),?_⟩;obtain⟨_,eq,nq,hq⟩:=uq;cases eq;obtain⟨e,p0,p1⟩:=tK ho l;obtain⟨e2,_,_⟩:=tK ho l2;refine⟨_,rfl,q,_,rfl,ay.of hq,rfl,_,_,rfl,_,_,rfl,_,_,rfl,_,_,rfl,rfl,?_⟩;obtain⟨g0,g1⟩:=(λa=>⟨a.2.2.1,a.2.2.2.1⟩:_->0<=o.g/\o.g<=(n:Int)-1) (xy.mp ho);refine⟨_,rfl,k,_,dk,_,_,rfl,R.ob,T.jm,T.xn,(zu A').1,_,rfl,A' 1,_,o.p,.int (gI B.held o.p),rfl,rfl,af.of R.he,p0,(by rw[getElem?_map,e2];rfl),_,rfl,_,_,rfl,rfl,A' 1,_,o.p,_,rfl,rfl,R.he,gU p0 (by rw[length_map];omega),?_⟩;have m1:((B.held.map V.int).set o.p.toNat (.int (gI B.held o.p-o.m)))=(yw B.held o.p (-o.m)).map V.int:=by
  rw[yw,map_set];rfl
 dsimp only;rw[m1];obtain⟨R1,f1⟩:=R.put (κ':={B with held:=yw B.held o.p (-o.m)}) (f0:=1) (by decide) (by decide) (u0:=.lst ((yw B.held o.p (-o.m)).map V.int)) rfl (λf u hf q=>by unfold dP at q⊢;split at q<;>first|exact q|exact absurd rfl hf);have aV:=kr.put (a:=A' 1) (o:=.lst ((yw B.held o.p (-o.m)).map V.int));generalize upd H (A' 1) (.lst ((yw B.held o.p (-o.m)).map V.int))=H1 at R1 f1 aV;have l3:(yw B.held o.p (-o.m)).length=n:=(tJ ..).trans l2;have e3:(yw B.held o.p (-o.m))[o.g.toNat]?=some (gI (yw B.held o.p (-o.m)) o.g):=zA g0 (by omega);refine⟨_,rfl,k,_,dk,_,_,rfl,R1.ob,T.jm,T.xn,(zu A').1,_,rfl,A' 1,_,o.g,.int (gI (yw B.held o.p (-o.m)) o.g),rfl,rfl,af.of R1.he,g0,(by rw[getElem?_map,e3];rfl),_,rfl,_,_,rfl,rfl,A' 1,_,o.g,_,rfl,rfl,R1.he,gU g0 (by rw[length_map];show o.g.toNat<(yw B.held o.p (-o.m)).length;omega),?_⟩;have m2:((yw B.held o.p (-o.m)).map V.int).set o.g.toNat (.int (gI (yw B.held o.p (-o.m)) o.g+o.m))=(yw (yw B.held o.p (-o.m)) o.g o.m).map V.int:=by rw[yw.eq_def (yw B.held o.p (-o.m)),map_set]
 dsimp only;rw[m2];obtain⟨R2,f2⟩:=R1.put (κ':={B with held:=yw (yw B.held o.p (-o.m)) o.g o.m}) (f0:=1) (by decide) (by decide) (u0:=.lst ((yw (yw B.held o.p (-o.m)) o.g o.m).map V.int)) rfl (λf u hf q=>by unfold dP at q⊢;split at q<;>first|exact q|exact absurd rfl hf);have aW:=aV.put (a:=A' 1) (o:=.lst ((yw (yw B.held o.p (-o.m)) o.g o.m).map V.int));generalize upd H1 (A' 1) (.lst ((yw (yw B.held o.p (-o.m)) o.g o.m).map V.int))=H2 at R2 f2 aW;refine⟨_,rfl,k,_,dk,_,_,rfl,R2.ob,T.jm,T.za,(zu A').2.1,_,rfl,A' 2,_,o.p,.int (gI B.qz o.p),rfl,rfl,af.of R2.nn,p0,(by rw[getElem?_map,e];rfl),_,_,rfl,rfl,A' 2,_,o.p,_,rfl,rfl,R2.nn,gU p0 (by rw[length_map];show o.p.toNat<B.qz.length;rw[l];omega),?_⟩;have m3:(B.qz.map V.int).set o.p.toNat (.int (gI B.qz o.p+1))=(yw B.qz o.p 1).map V.int:=by rw[yw,map_set]
 dsimp only;rw[m3];obtain⟨R3,f3⟩:=R2.put (κ':={B with held:=yw (yw B.held o.p (-o.m)) o.g o.m,qz:=yw B.qz o.p 1}) (f0:=2) (by decide) (by decide) (u0:=.lst ((yw B.qz o.p 1).map V.int)) rfl (λf u hf q=>by unfold dP at q⊢;split at q<;>first|exact q|exact absurd rfl hf);have df:=aW.put (a:=A' 2) (o:=.lst ((yw B.qz o.p 1).map V.int));generalize upd H2 (A' 2) (.lst ((yw B.qz o.p 1).map V.int))=H3 at R3 f3 df;obtain⟨xs,hx,px⟩:=R3.dn;have fr:=(f1.trans f2).trans f3;have tL:qh H3 Z (.ref q) o:=qh.fr fr ⟨q,rfl,nq,hq⟩;have lx:xs.length<=1000:=by rw[Paired.length px];exact ld
 refine⟨_,rfl,k,_,dk,_,_,rfl,R3.ob,T.jm,T.Fx,(zu A').2.2.1,.inl ⟨rfl,_,af.of hx⟩,_,rfl,A' 3,xs,.ref q,rfl,rfl,hx,qi lx,?_⟩;obtain⟨r3,_⟩:=R3.fl 3 (by decide) (by decide);obtain⟨R4,f4⟩:=R3.put (κ':=B.settle o) (f0:=3) (by decide) (by decide) (u0:=.lst (xs++[.ref q])) ⟨_,rfl,j9 (Paired.yf px λ_ _=>qh.fr (Fr.put (P:=bq id h) r3 ⟨3,rfl⟩)) (tL.fr (Fr.put (P:=bq id h) r3 ⟨3,rfl⟩))⟩ (λf u hf q=>by unfold dP at q⊢;split at q<;>first|exact q|exact absurd rfl hf);exact g _ R4 (fr.trans f4) df.put
theorem qh.ref {H:Hp}{Z:ar}{x:V}{o:O}(h:qh H Z x o):∃q,x= .ref q/\H q=some (.tup (cC o)):=let⟨q,e,_,h⟩:=h;⟨q,e,h⟩
theorem L9 (T:Txt K mg t):xl P w K mg base CX0 2 t.ud t.Ea ["self"] (λvs H Q _=>∃Z id h k A dk B n,vs=[.ref k]/\xh t H Z id h k A dk B/\B.Ok n/\∀v,((B.first=none/\v= .aq)\/∃o,B.first=some o/\qh H Z v o)->Q v H):=by
 refine T.V8.cA K2 λ_ A _ s H vs Q E hr h=>?_;obtain⟨Z,id,h,k,A',dk,B,n,rfl,R,ah,g⟩:=h;refine⟨_,(@jb _ _ _ _ _ (ie PassesOwn.never rfl (@fE _ _ _ _ (qd (pv 0) rfl)) (jw (i:=1) K2.nd rfl (Or.inl rfl)) (@jd _ _ _ (zh (xc (qc (pv 0) T.jm T.LM (L0 T) hr.dn T.Lm .nil ju (jc (pv 1) jf))) (@jd _ _ _ (j5 (pv 1))) j6))) (@jd _ _ _ (j5 qE))),?_⟩;obtain⟨xs,hx,px⟩:=R.wt;refine⟨_,rfl,k,_,dk,_,_,rfl,R.ob,T.jm,T.ze,(zu A').2.2.2.2.2.2,A' 7,rfl,⟨_,af.of hx⟩,mY (K:=K) (a:=A' 7) (xs:=xs) (λi U H'=>∃v,U=[some (.ref k),v]/\H'=H/\(B.wait.take i).find? B.bO=none) ⟨none,rfl,rfl,rfl⟩ (λi U H' _ ⟨_,_,e,_⟩=>af.of (by rw[e];exact hx)) ?_ ?_⟩
 .rintro i x U H' ex ⟨v,rfl,rfl,hf⟩
  obtain⟨o,eo,uo⟩:=zi px ex;obtain⟨q,rfl,hq⟩:=uo.ref;have om:o∈B.wait:=mem_of_getElem? eo;refine⟨_,rfl,k,dk,_,rfl,R.ob,fu A',_,rfl,Z,id,h,k,A',dk,B,n,q,o,rfl,R,hq,ah.w o om,ah.x,ah.h,_,rfl,?_⟩;cases hd:B.bO o with
  |true=>
   refine br ⟨_,rfl,g _ (.inr ⟨o,?_,uo⟩)⟩;have:(B.wait.take (i+1)).find? B.bO=some o:=by rw[take_snoc eo,List.find?_append,hf,find?_cons,hd];rfl
   unfold Kp.first;rw[<-List.take_append_drop (i+1) B.wait,List.find?_append,this];rfl
  |false=>refine we ⟨_,rfl,rfl,?_⟩;rw[take_snoc eo,List.find?_append,hf,find?_cons,hd];rfl
 .rintro U H' ⟨v,rfl,rfl,hf⟩
  refine g _ (.inl ⟨?_,rfl⟩);rw[Paired.length px,take_length]at hf;exact hf
theorem Fr.FK {P:Role->Prop}{Z:ar}{H:Hp}{a:Addr}{r r':Role}(h:Z a=some r)(p:P r):Fr P Z H (vg Z a r') H:=λb u e n=>by have:b≠a:=λz=>n r (z ▸ h) p;exact⟨e,zy this⟩
theorem aw.FK {Z:ar}{H:Hp}{a:Addr}{r r':Role}(h:Z a=some r)(k:aw Z H):aw (vg Z a r') H:=λb r'' hb=>by
 by_cases z:b=a
 .subst z;exact k _ _ h
 .rw[zy z]at hb;exact k _ _ hb
theorem Ma {H:Hp}{Z:ar}{o:O}:∀{aa:List (List Key×V)}{c:List ((Int×Int)×O)},Paired (λkv (c:(Int×Int)×O)=>kv.1=[.inl c.1.1,.inl c.1.2]/\qh H Z kv.2 c.2) aa c->(aO aa [.inl o.p,.inl o.n]).isSome=cv c o:=λ{aa c} q=>by
 induction q with
 |nil=>rfl
 |@cons kv c aa cs a r ih=>
  obtain⟨e,_⟩:=a;unfold cv at ih⊢;rw[any_cons];by_cases z:c.1=(o.p,o.n)
  .rw[vy (show kv.1=_ by rw[e,z]),decide_eq_true z];rfl
  .rw[y7 (λy=>z ?_),ih,decide_eq_false z,Bool.false_or];rw[e]at y;have y1:=(List.cons.inj y).1;have y2:=(List.cons.inj (List.cons.inj y).2).1;exact Prod.ext (Sum.inl.inj y1) (Sum.inl.inj y2)
theorem Yr {n:Nat}{o:O}(h:xq n o=true)(l:n<=8):xq 8 o=true:=by rw[xy]at h⊢;lia
theorem Ys (B:Kp){os:List O}{i:Nat}{o:O}(e:os[i]?=some o)(a:Gv):gv B (os.take (i+1)) a=bU B o (gv B (os.take i) a):=by unfold gv;rw[take_snoc e,List.foldl_append];rfl
theorem Yt (B:Kp)(o:O)(a:Gv):(bU B o a).1.length<=a.1.length+1/\(bU B o a).2.1.length<=a.2.1.length+1/\(bU B o a).2.2.length<=a.2.2.length+1:=by
 unfold bU;split
 .simp
 .split
  .simp
  .simp
theorem FL (B:Kp):∀(os:List O)(a:Gv),(gv B os a).1.length<=a.1.length+os.length/\(gv B os a).2.1.length<=a.2.1.length+os.length/\(gv B os a).2.2.length<=a.2.2.length+os.length
 |[],a=>by simp[gv]
 |o::os,a=>by have h1:=FL B os (bU B o a);have h2:=Yt B o a;unfold gv at h1⊢;rw[foldl_cons,length_cons];lia
structure gC (t:Ad)(Z:ar)(id:Nat)(h:Int)(k:Addr)(A:Nat->Addr)(dk:Addr)(B:Kp)(Vt Lt:Addr)(xs:List V)(H0:Hp)(a:Gv)(H:Hp):Prop where
 fr:Fr (bq id h) Z H0 Z H
 kr:aw Z H
 R:xh t H Z id h k A dk {B with cho:=a.1}
 hv:∃vs,H Vt=some (.lst vs)/\Paired (qh H Z) vs a.2.1
 hl:∃ls,H Lt=some (.lst ls)/\Paired (qh H Z) ls a.2.2
 hx:H (A 5)=some (.lst xs)
 px:Paired (qh H Z) xs B.az
theorem gC.same {t:Ad}{Z:ar}{id:Nat}{h:Int}{k:Addr}{A:Nat->Addr}{dk:Addr}{B:Kp}{Vt Lt:Addr}{xs:List V}{H0 H H':Hp}{a:Gv}(s:xr H H')(J:gC t Z id h k A dk B Vt Lt xs H0 a H):gC t Z id h k A dk B Vt Lt xs H0 a H':=by have f:Fr (λ_=>False) Z H Z H':=Fr.same s;obtain⟨vs,v1,v2⟩:=J.hv;obtain⟨ls,l1,l2⟩:=J.hl;exact⟨J.fr.trans (Fr.same s),J.kr.same s,J.R.fr (λ_ z=>z) f,⟨vs,s _ _ v1,Paired.yf v2 λ_ _=>qh.fr f⟩,⟨ls,s _ _ l1,Paired.yf l2 λ_ _=>qh.fr f⟩,s _ _ J.hx,Paired.yf J.px λ_ _=>qh.fr f⟩
theorem gC.putL {t:Ad}{Z:ar}{id:Nat}{h:Int}{k:Addr}{A:Nat->Addr}{dk:Addr}{B:Kp}{Vt Lt:Addr}{xs ls pK:List V}{H0 H:Hp}{a:Gv}{later:List O}(J:gC t Z id h k A dk B Vt Lt xs H0 a H)(hl:H Lt=some (.lst ls))(rL:Z Lt=some (id,.kp h 9))(rV:Z Vt=some (id,.kp h 8))(LV:Lt≠Vt)(fL:Fr (bq id h) Z H Z (upd H Lt (.lst pK)))(pl:Paired (qh (upd H Lt (.lst pK)) Z) pK later):gC t Z id h k A dk B Vt Lt xs H0 (a.1,a.2.1,later) (upd H Lt (.lst pK)):=by
 have f9:Fr (λr=>r=(id,.kp h 9)) Z H Z (upd H Lt (.lst pK)):=Fr.put rL rfl;obtain⟨vs,v1,v2⟩:=J.hv;have nf:∀{f:Nat},f<=7->∀{b:Addr},Z b=some (id,.kp h f)->b≠Lt:=λ{f} hf {b} hb=>cP hb rL (by intro z;cases z;lia);refine⟨J.fr.trans fL,J.kr.put,⟨?_,J.R.r0,λf a1 b1=>?_⟩,⟨vs,?_,Paired.yf v2 λ_ _=>qh.fr fL⟩,⟨pK,ja,pl⟩,?_,Paired.yf J.px λ_ _=>qh.fr fL⟩
 .rw[jg (nf (by decide) J.R.r0)];exact J.R.ob
 .obtain⟨rf,u,hu,q⟩:=J.R.fl f a1 b1;exact⟨rf,u,by rw[jg (nf b1 rf)];exact hu,q.fr fL⟩
 .rw[jg LV.symm];exact v1
 .rw[jg (nf (by decide) (J.R.fl 5 (by decide) (by decide)).1)];exact J.hx
theorem gC.Yu {t:Ad}{Z:ar}{id:Nat}{h:Int}{k:Addr}{A:Nat->Addr}{dk:Addr}{B:Kp}{Vt Lt:Addr}{xs bN:List V}{H0 H:Hp}{a:Gv}{qm:List O}(J:gC t Z id h k A dk B Vt Lt xs H0 a H)(rV:Z Vt=some (id,.kp h 8))(LV:Lt≠Vt)(fL:Fr (bq id h) Z H Z (upd H Vt (.lst bN)))(pv:Paired (qh (upd H Vt (.lst bN)) Z) bN qm):gC t Z id h k A dk B Vt Lt xs H0 (a.1,qm,a.2.2) (upd H Vt (.lst bN)):=by
 obtain⟨ls,l1,l2⟩:=J.hl;have nf:∀{f:Nat},f<=7->∀{b:Addr},Z b=some (id,.kp h f)->b≠Vt:=λ{f} hf {b} hb=>cP hb rV (by intro z;cases z;lia);refine⟨J.fr.trans fL,J.kr.put,⟨?_,J.R.r0,λf a1 b1=>?_⟩,⟨bN,ja,pv⟩,⟨ls,?_,Paired.yf l2 λ_ _=>qh.fr fL⟩,?_,Paired.yf J.px λ_ _=>qh.fr fL⟩
 .rw[jg (nf (by decide) J.R.r0)];exact J.R.ob
 .obtain⟨rf,u,hu,q⟩:=J.R.fl f a1 b1;exact⟨rf,u,by rw[jg (nf b1 rf)];exact hu,q.fr fL⟩
 .rw[jg LV];exact l1
 .rw[jg (nf (by decide) (J.R.fl 5 (by decide) (by decide)).1)];exact J.hx
theorem gC.Yv {t:Ad}{Z:ar}{id:Nat}{h:Int}{k:Addr}{A:Nat->Addr}{dk:Addr}{B:Kp}{Vt Lt:Addr}{xs:List V}{H0 H:Hp}{a:Gv}{cho:List ((Int×Int)×O)}{aa:List (List Key×V)}(J:gC t Z id h k A dk B Vt Lt xs H0 a H)(rL:Z Lt=some (id,.kp h 9))(rV:Z Vt=some (id,.kp h 8))(pc:Paired (λkv (c:(Int×Int)×O)=>kv.1=[.inl c.1.1,.inl c.1.2]/\qh (upd H (A 6) (.dT aa)) Z kv.2 c.2) aa cho):gC t Z id h k A dk B Vt Lt xs H0 (cho,a.2.1,a.2.2) (upd H (A 6) (.dT aa)):=by
 obtain⟨R,fL⟩:=J.R.put (κ':={B with cho:=cho}) (f0:=6) (by decide) (by decide) (u0:=.dT aa) ⟨aa,rfl,pc⟩ (λf u hf q=>by unfold dP at q⊢;split at q<;>first|exact q|exact absurd rfl hf);obtain⟨vs,v1,v2⟩:=J.hv;obtain⟨ls,l1,l2⟩:=J.hl;have r6:=(J.R.fl 6 (by decide) (by decide)).1;refine⟨J.fr.trans fL,J.kr.put,R,⟨vs,?_,Paired.yf v2 λ_ _=>qh.fr fL⟩,⟨ls,?_,Paired.yf l2 λ_ _=>qh.fr fL⟩,?_,Paired.yf J.px λ_ _=>qh.fr fL⟩
 .rw[jg (cP rV r6 (by intro z;cases z))];exact v1
 .rw[jg (cP rL r6 (by intro z;cases z))];exact l1
 .rw[jg (cP (J.R.fl 5 (by decide) (by decide)).1 r6 (by intro z;cases z))];exact J.hx
theorem Yw (A:Nat->Addr)(p:Addr):kq "unvoted" (.ref p) (eE A)=eE (λf=>if f=5 then p else A f):=by unfold eE kf iK;rfl
theorem Mb (T:Txt K mg t):xl P w K mg base CX0 5 t.kl t.ki ["self"] (λvs H Q _=>∃Z id h k A dk B n,vs=[.ref k]/\xh t H Z id h k A dk B/\B.Ok n/\n<=8/\B.az.length+B.cho.length<=1000/\aw Z H/\∀Z' H' A' r xs,xh t H' Z' id h k A' dk B.qm.1->Fr (bq id h) Z H Z' H'->aw Z' H'->Z' r=some (id,.kp h 8)->H' r=some (.lst xs)->Paired (qh H' Z') xs B.qm.2->Q (.ref r) H'):=by
 refine T.V7.cA xt λ_ A _ s H vs Q E hr h=>?_;obtain⟨Z,id,h,k,A',dk,B,n,rfl,R,ah,n8,ll,kr,g⟩:=h;refine⟨_,(@jb _ _ _ _ _ (@qa _ _ 1 _ _ _ _ xt.nd rfl (Or.inl rfl) (@qq _ _ _ _ jf) (by rfl) (by first|exact .inl rfl|exact .inr rfl)) (@jb _ _ _ _ _ (@qa _ _ 2 _ _ _ _ xt.nd rfl (Or.inl rfl) (@qq _ _ _ _ jf) (by rfl) (by first|exact .inl rfl|exact .inr rfl)) (@jb _ _ _ _ _ (ie PassesOwn.never rfl (@fE _ _ _ _ (qd (pv 0) rfl)) (jw (i:=3) xt.nd rfl (Or.inl rfl)) (@jd _ _ _ (zh (PW.pt (hZ (xc (qc (pv 0) T.jm T.LM (L0 T) hr.dn T.Lm .nil ju (jc (pv 3) jf))) (kD (qF (wR (cM hr) (jr (FC T) hr.dn rfl T.Fp T.yV.kp T.Fq .nil ju (jc (pv 3) jf)) (qd (pv 0) rfl)))))) (@jb _ _ _ _ _ (rF (cM hr) (qd (pv 0) rfl) (jr (FC T) hr.dn rfl T.Fp T.yV.kp T.Fq .nil ju (jc (pv 3) jf)) (pv 3) rfl) (@jd _ _ _ (qb (dq PySem.F.plainAttrs_list PySem.F.slot_list_append PySem.F.type_list_append xf (pv 1) (jc (pv 3) jf))))) (@jd _ _ _ (zh (PW.pt (hZ (yt (xc (qc (pv 0) T.jm T.vq (FJ T) hr.dn T.Fs .nil ju (jc (pv 3) jf)))) (kD (qF (wR (cM hr) (jr (FC T) hr.dn rfl T.Fp T.yV.kp T.Fq .nil ju (jc (pv 3) jf)) (qd (pv 0) rfl)))))) (@jd _ _ _ (qb (dq PySem.F.plainAttrs_list PySem.F.slot_list_append PySem.F.type_list_append xf (pv 2) (jc (pv 3) jf)))) j6))))) (@jb _ _ _ _ _ (dM (pv 0) (pv 2) rfl) (@jd _ _ _ (j5 (pv 1))))))),?_⟩;refine⟨cu,λVt nV=>⟨cu,λLt nL=>?_⟩⟩;have kf0:∀f,bq id h (id,.kp h f):=λf=>⟨f,rfl⟩;have f1:Fr (bq id h) Z H (vg Z Vt (id,.kp h 8)) (upd H Vt (.lst [])):=Fr.bA nV;have aV:aw (vg Z Vt (id,.kp h 8)) (upd H Vt (.lst [])):=kr.bA;have f2:Fr (bq id h) (vg Z Vt (id,.kp h 8)) (upd H Vt (.lst [])) (vg (vg Z Vt (id,.kp h 8)) Lt (id,.kp h 9)) (upd (upd H Vt (.lst [])) Lt (.lst [])):=Fr.bA nL;have aW:aw (vg (vg Z Vt (id,.kp h 8)) Lt (id,.kp h 9)) (upd (upd H Vt (.lst [])) Lt (.lst [])):=aV.bA;generalize eZ:vg (vg Z Vt (id,.kp h 8)) Lt (id,.kp h 9)=Z2 at f2 aW;have dH:=f1.trans f2;have LV:Lt≠Vt:=λz=>by
  rw[z,ja]at nL;cases nL
 have rV:Z2 Vt=some (id,.kp h 8):=by rw[<-eZ,zy LV.symm,qk]
 have rL:Z2 Lt=some (id,.kp h 9):=by rw[<-eZ,qk]
 have Mc:upd (upd H Vt (.lst [])) Lt (.lst []) Vt=some (.lst []):=by rw[jg LV.symm,ja]
 have Md:upd (upd H Vt (.lst [])) Lt (.lst []) Lt=some (.lst []):=ja;have R2:xh t (upd (upd H Vt (.lst [])) Lt (.lst [])) Z2 id h k A' dk B:=by
  have s2:=(je (o:=.lst []) nV).trans (je (o:=.lst []) nL);have Me:∀{a:Addr}{u:HO},H a=some u->Z2 a=Z a:=λ{a u} e=>by rw[<-eZ,zy (jj ((je (o:=.lst []) nV) _ _ e) nL),zy (jj e nV)]
  refine⟨s2 _ _ R.ob,(Me R.ob).trans R.r0,λf a b=>?_⟩;obtain⟨rf,u,hu,q⟩:=R.fl f a b;exact⟨(Me hu).trans rf,u,s2 _ _ hu,q.fr dH⟩
 generalize upd (upd H Vt (.lst [])) Lt (.lst [])=H2 at dH aW R2 Mc Md;obtain⟨xs,hx,px⟩:=R2.un;have lx:xs.length=B.az.length:=Paired.length px;clear f1 f2 aV nV nL R;refine⟨_,rfl,k,_,dk,_,_,rfl,R2.ob,T.jm,T.ye,(zu A').2.2.2.2.1,A' 5,rfl,⟨_,af.of hx⟩,mY (K:=K) (a:=A' 5) (xs:=xs) (λi U H'=>∃v,U=[some (.ref k),some (.ref Vt),some (.ref Lt),v]/\gC t Z2 id h k A' dk B Vt Lt xs H2 (gv B (B.az.take i) (B.cho,[],[])) H') ⟨none,rfl,Fr.refl,aW,R2,⟨_,Mc,.nil⟩,⟨_,Md,.nil⟩,hx,px⟩ (λi U H' _ ⟨_,_,J⟩=>af.of J.hx) ?_ ?_⟩
 .rintro i x U H3 ex ⟨v,rfl,J⟩
  obtain⟨o,eo,uo⟩:=zi J.px ex;have gl:=FL B (B.az.take i) (B.cho,[],[]);have li:(B.az.take i).length<=B.az.length:=by rw[length_take];omega
  rw[Ys B eo];generalize gv B (B.az.take i) (B.cho,[],[])=a at J gl⊢;obtain⟨q,rfl,hq⟩:=uo.ref;have om:o∈B.az:=mem_of_getElem? eo;have ho:=ah.u o om;have zB:=Yr ho n8;obtain⟨aa,hk,pk⟩:=J.R.cs;have ck:=Ma (o:=o) pk;refine⟨_,rfl,k,dk,_,rfl,J.R.ob,fu A',_,rfl,Z2,id,h,k,A',dk,_,n,q,o,rfl,J.R,hq,ho,ah.x,ah.h,_,rfl,?_⟩;show(if B.bO o=true then _ else _);have Js:xr H3 H3:=xr.refl _;cases hd:B.bO o with
  | false=>
   refine we ?_;have no:¬(B.bO o&&!cv a.1 o)=true:=by simp[hd]
   refine⟨_,rfl,k,dk,_,rfl,J.R.ob,fu A',_,rfl,Z2,id,h,k,A',dk,_,n,q,o,rfl,J.R,hq,ho,ah.x,_,rfl,?_⟩;show(if(!B.past o)=true then _ else _);cases hp:B.past o with
   |true=>refine we ⟨_,rfl,?_⟩;rw[bU,if_neg no,if_neg (by simp[hp])];exact J
   | false=>
    refine br ⟨_,rfl,q,o,rfl,hq,zB,λp np=>?_⟩;have sp:=je (o:=.tup [.int o.p,.int o.n]) np;have Jp:=J.same sp;refine⟨_,rfl,k,_,dk,_,_,rfl,Jp.R.ob,T.jm,T.zd,(zu A').2.2.2.2.2.1,A' 6,aO aa [.inl o.p,.inl o.n],rfl,.inr ⟨aa,[.inl o.p,.inl o.n],p,.inl (sp _ _ hk),rfl,ja,rfl⟩,_,rfl,?_⟩;rw[ck];cases hc:cv a.1 o with
    |true=>refine we ⟨_,rfl,?_⟩;rw[bU,if_neg no,if_neg (by rw[hc,Bool.not_true,Bool.and_false];decide)];exact Jp
    |false=>
     obtain⟨ls,hl,pl⟩:=Jp.hl;have FN:ls.length<=1000:=by rw[Paired.length pl];have:=gl.2.2;simp at this;omega
     refine br ⟨_,rfl,.inl ⟨rfl,_,af.of hl⟩,_,rfl,Lt,ls,.ref q,rfl,rfl,hl,qi FN,⟨_,rfl,?_⟩⟩;rw[bU,if_neg no,if_pos (by rw[hp,hc];rfl)];have fL:Fr (bq id h) Z2 (upd H3 p (.tup [.int o.p,.int o.n])) Z2 (upd (upd H3 p (.tup [.int o.p,.int o.n])) Lt (.lst (ls++[.ref q]))):=Fr.put rL ⟨9,rfl⟩;have uq:=(uo.fr (Fr.same (P:=λ_=>False) ((Js).trans sp))).fr fL;exact Jp.putL hl rL rV LV fL (j9 (Paired.yf pl λ_ _=>qh.fr fL) uq)
  | true=>
   refine br ⟨_,rfl,q,o,rfl,hq,zB,λp0 mB=>?_⟩;have pL:=je (o:=.tup [.int o.p,.int o.n]) mB;have J0:=J.same pL;have tM:=pL;have tN:=pL _ _ hk;have lg:=pL _ _ hq;refine⟨_,rfl,k,_,dk,_,_,rfl,J0.R.ob,T.jm,T.zd,(zu A').2.2.2.2.2.1,A' 6,aO aa [.inl o.p,.inl o.n],rfl,.inr ⟨aa,[.inl o.p,.inl o.n],p0,.inl tN,rfl,ja,rfl⟩,_,rfl,?_⟩;rw[ck];cases FO:cv a.1 o with
   | true=>
    refine we ?_;have no:¬(B.bO o&&!cv a.1 o)=true:=by rw[FO,Bool.not_true,Bool.and_false];decide
    generalize upd H3 p0 (.tup [.int o.p,.int o.n])=H4 at pL J0 tM tN lg;refine⟨_,rfl,k,dk,_,rfl,J0.R.ob,fu A',_,rfl,Z2,id,h,k,A',dk,_,n,q,o,rfl,J0.R,lg,ho,ah.x,_,rfl,?_⟩;show(if(!B.past o)=true then _ else _);cases hp:B.past o with
    |true=>refine we ⟨_,rfl,?_⟩;rw[bU,if_neg no,if_neg (by simp[hp])];exact J0
    | false=>
     refine br ⟨_,rfl,q,o,rfl,lg,zB,λp np=>?_⟩;have sp:=je (o:=.tup [.int o.p,.int o.n]) np;have Jp:=J0.same sp;refine⟨_,rfl,k,_,dk,_,_,rfl,Jp.R.ob,T.jm,T.zd,(zu A').2.2.2.2.2.1,A' 6,aO aa [.inl o.p,.inl o.n],rfl,.inr ⟨aa,[.inl o.p,.inl o.n],p,.inl (sp _ _ tN),rfl,ja,rfl⟩,_,rfl,?_⟩;rw[ck];cases hc:cv a.1 o with
     |true=>refine we ⟨_,rfl,?_⟩;rw[bU,if_neg no,if_neg (by rw[hc,Bool.not_true,Bool.and_false];decide)];exact Jp
     |false=>
      obtain⟨ls,hl,pl⟩:=Jp.hl;have FN:ls.length<=1000:=by rw[Paired.length pl];have:=gl.2.2;simp at this;omega
      refine br ⟨_,rfl,.inl ⟨rfl,_,af.of hl⟩,_,rfl,Lt,ls,.ref q,rfl,rfl,hl,qi FN,⟨_,rfl,?_⟩⟩;rw[bU,if_neg no,if_pos (by rw[hp,hc];rfl)];have fL:Fr (bq id h) Z2 (upd H4 p (.tup [.int o.p,.int o.n])) Z2 (upd (upd H4 p (.tup [.int o.p,.int o.n])) Lt (.lst (ls++[.ref q]))):=Fr.put rL ⟨9,rfl⟩;have uq:=(uo.fr (Fr.same (P:=λ_=>False) ((tM).trans sp))).fr fL;exact Jp.putL hl rL rV LV fL (j9 (Paired.yf pl λ_ _=>qh.fr fL) uq)
   | false=>
    refine br ?_;generalize upd H3 p0 (.tup [.int o.p,.int o.n])=H4 at pL J0 tM tN lg;refine⟨_,rfl,_,rfl,k,_,dk,_,_,rfl,J0.R.ob,T.jm,T.zd,(zu A').2.2.2.2.2.1,_,rfl,q,o,rfl,lg,zB,λp np=>?_⟩;have sp:=je (o:=.tup [.int o.p,.int o.n]) np;have Jp:=J0.same sp;have lk:aa.length<=1000:=by rw[Paired.length pk];have:=gl.1;show a.1.length<=1000;simp at this;omega
    have nk:aO aa [.inl o.p,.inl o.n]=none:=by
     cases e:aO aa [.inl o.p,.inl o.n]with
     |none=>rfl
     |some v=>rw[e,FO]at ck;cases ck
    refine⟨A' 6,_,rfl,fe.t (k:=[.inl o.p,.inl o.n]) (sp _ _ tN) ja (qi lk),?_⟩;rw[oX _ nk];have r6:=(Jp.R.fl 6 (by decide) (by decide)).1;have f6:Fr (bq id h) Z2 (upd H4 p (.tup [.int o.p,.int o.n])) Z2 (upd (upd H4 p (.tup [.int o.p,.int o.n])) (A' 6) (.dT (aa++[([.inl o.p,.inl o.n],.ref q)]))):=Fr.put r6 ⟨6,rfl⟩;have u4:=uo.fr (Fr.same (P:=λ_=>False) (tM.trans sp));have Yx:=Paired.yf pk λ_ _ ⟨e,b⟩=>(⟨e,(b.fr (Fr.same (P:=λ_=>False) (tM.trans sp))).fr f6⟩:_/\qh _ Z2 _ _);have J5:=Jp.Yv rL rV (cho:=a.1++[((o.p,o.n),o)]) (j9 Yx ⟨rfl,u4.fr f6⟩);have u5:=u4.fr f6;generalize upd (upd H4 p (.tup [.int o.p,.int o.n])) (A' 6) (.dT (aa++[([.inl o.p,.inl o.n],.ref q)]))=H5 at J5 u5;obtain⟨vs,hv,pv⟩:=J5.hv;have lv:vs.length<=1000:=by rw[Paired.length pv];have:=gl.2.1;show a.2.1.length<=1000;simp at this;omega
    refine⟨_,rfl,.inl ⟨rfl,_,af.of hv⟩,_,rfl,Vt,vs,.ref q,rfl,rfl,hv,qi lv,⟨_,rfl,?_⟩⟩;rw[bU,if_pos (by simp[hd,FO])];have fV:Fr (bq id h) Z2 H5 Z2 (upd H5 Vt (.lst (vs++[.ref q]))):=Fr.put rV ⟨8,rfl⟩;exact J5.Yu rV LV fV (j9 (Paired.yf pv λ_ _=>qh.fr fV) (u5.fr fV))
 .rintro U H3 ⟨v,rfl,J⟩
  rw[lx,take_length]at J;obtain⟨vs,hv,pv⟩:=J.hv;obtain⟨ls,hl,pl⟩:=J.hl;refine⟨_,rfl,_,rfl,k,_,dk,_,rfl,J.R.ob,T.jm,T.ye,(by show 7<1000;decide),⟨_,rfl,?_⟩⟩;rw[Yw];have fo:Fr (bq id h) Z2 H3 Z2 (upd H3 k (.ins t.jz dk (eE λf=>if f=5 then Lt else A' f))):=Fr.put J.R.r0 ⟨0,rfl⟩;have Yy:Fr (bq id h) Z2 (upd H3 k (.ins t.jz dk (eE λf=>if f=5 then Lt else A' f))) (vg Z2 Lt (id,.kp h 5)) (upd H3 k (.ins t.jz dk (eE λf=>if f=5 then Lt else A' f))):=Fr.FK rL ⟨9,rfl⟩;have ff:=fo.trans Yy;have kL:Lt≠k:=cP rL J.R.r0 (by intro z;cases z);have Vk:Vt≠k:=cP rV J.R.r0 (by intro z;cases z);refine g (vg Z2 Lt (id,.kp h 5)) _ (λf=>if f=5 then Lt else A' f) Vt vs ⟨ja,?_,λf a1 b1=>?_⟩ (dH.trans (J.fr.trans ff)) ?_ ?_ ?_ (Paired.yf pv λ_ _=>qh.fr ff)
  .rw[zy kL.symm];exact J.R.r0
  .by_cases z:f=5
   .subst z;exact⟨qk,.lst ls,(by show upd H3 k _ Lt=_;rw[jg kL];exact hl),ls,rfl,Paired.yf pl λ_ _=>qh.fr ff⟩
   .obtain⟨rf,u,hu,q⟩:=J.R.fl f a1 b1;have nL:A' f≠Lt:=cP rf rL (by intro y;cases y;omega);show vg Z2 Lt (id,.kp h 5) (if f=5 then Lt else A' f)=_/\∃u,upd H3 k _ (if f=5 then Lt else A' f)=_/\_;rw[if_neg z];refine⟨by rw[zy nL];exact rf,u,by rw[jg (cP rf J.R.r0 (by intro y;cases y;omega))];exact hu,?_⟩;have q':=q.fr ff;unfold dP at q'⊢;split at q'<;>first|exact q'|exact absurd rfl z
  .exact aw.FK rL J.kr.put
  .rw[zy LV.symm];exact rV
  .rw[jg Vk];exact hv
theorem zC {α β:Type}{F:α->β->Prop}:∀{xs:List α}{ys:List β}{j:Nat},Paired F xs ys->Paired F (xs.eraseIdx j) (ys.eraseIdx j)
 |_,_,_,.nil=>.nil
 |_,_,0,.cons _ t=>t
 |_,_,j+1,.cons h t=>.cons h (zC t)
theorem FP {α:Type}[DecidableEq α](a:α):∀l:List α,l.erase a=l.eraseIdx (l.idxOf a)
 |[]=>rfl
 | b::l=>by
  by_cases z:b=a
  .subst z;simp
  .have e:(b::l).idxOf a=l.idxOf a+1:=by
    rw[List.idxOf_cons,show(b==a)=false by simpa using z];rfl
   rw[List.erase_cons_tail (by simpa using z),e,List.eraseIdx_cons_succ,FP a l]
noncomputable def zl (o:O):List Int:=[o.p,o.n,o.g,o.m]
theorem pM {o u:O}(h:zl o=zl u):o=u:=by cases o;cases u;unfold zl at h;simp at h;simp[h]
theorem FQ (o:O):∀l:List O,(l.map zl).idxOf (zl o)=l.idxOf o
 |[]=>rfl
 |b::l=>by
  rw[map_cons];by_cases z:b=o
  .subst z;simp
  .rw[List.idxOf_cons,List.idxOf_cons,show(b==o)=false by simpa using z,show(zl b==zl o)=false by simpa using λy=>z (pM y),FQ o l]
theorem Mf {K:W.Frag}{H:Hp}{Z:ar}:∀{xs:List V}{os:List O},Paired (qh H Z) xs os->Paired (jM K H) xs (os.map zl):=λ{xs os} q=>by
 induction q with
 |nil=>exact .nil
 |cons a _ ih=>obtain⟨a,e,_,h⟩:=a;exact .cons ⟨a,e,ay.of h⟩ ih
theorem nZ {B:Kp}{o:O}(h:B.first=some o):o∈B.wait:=List.mem_of_find?_eq_some h
theorem FR {B:Kp}(h:B.first=none):∀m,Kp.go m B=B
 |0=>rfl
 |m+1=>by unfold Kp.go;rw[h]
theorem Yz {B:Kp}{o:O}(h:B.first=some o):Kp.go B.wait.length B=Kp.go (B.step o).wait.length (B.step o):=by have e:(B.step o).wait.length=B.wait.length-1:=length_erase_of_mem (nZ h);have p:0<B.wait.length:=length_pos_of_mem (nZ h);obtain⟨m,hm⟩:∃m,B.wait.length=m+1:=⟨B.wait.length-1,by lia⟩;rw[e,hm];show(match B.first with|none=>B|some o=>Kp.go m (B.step o))=_;rw[h];rfl
theorem YA (T:Txt K mg t):xl P w K mg base CX0 6 t.Eb t.Ec ["self"] (λvs H Q _=>∃Z id h k A dk B n,vs=[.ref k]/\xh t H Z id h k A dk B/\B.Ok n/\n<=8/\B.az.length+B.cho.length<=1000/\B.done.length+B.wait.length<=1000/\aw Z H/\∀Z' H' A' r xs,xh t H' Z' id h k A' dk B.eT.qm.1->Fr (bq id h) Z H Z' H'->aw Z' H'->Z' r=some (id,.kp h 8)->H' r=some (.lst xs)->Paired (qh H' Z') xs B.eT.qm.2->Q (.ref r) H'):=by
 refine T.V9.cA Dr λ_ A _ s H vs Q E hr h=>?_;obtain⟨Z,id,h,k,A',dk,B,n,rfl,R,ah,n8,ll,ld,kr,g⟩:=h;refine⟨_,(@jb _ _ _ _ _ (qa (i:=1) Dr.nd rfl (Or.inl rfl) (nt (pv 0) T.jm T.gu (L9 T) hr.dn T.uu .nil ju)) (@jb _ _ _ _ _ (O9 PassesOwn.never (jx PB (pv 1) qE (qf _)) (@jb _ _ _ _ _ (qb (dq PySem.F.plainAttrs_list PySem.F.slot_list_remove PySem.F.type_list_remove (KU hr.units) (qd (pv 0) rfl) (jc (pv 1) jf))) (@jb _ _ _ _ _ (qb (qc (pv 0) T.jm T.XB (Yp T) hr.dn T.V0 .nil ju (jc (pv 1) jf))) (@jd _ _ _ (qa (i:=1) Dr.nd rfl (Or.inl rfl) (nt (pv 0) T.jm T.gu (L9 T) hr.dn T.uu .nil ju)))))) (@jd _ _ _ (j5 (nt (pv 0) T.jm T.wo (Mb T) hr.dn T.ka .nil ju))))),?_⟩;refine⟨_,rfl,k,dk,_,rfl,R.ob,fu A',Z,id,h,k,A',dk,B,n,rfl,R,ah,λv0 h0=>?_⟩;refine Pl (λU H'=>∃κ' v,U=[some (.ref k),some v]/\xh t H' Z id h k A' dk κ'/\κ'.Ok n/\Fr (bq id h) Z H Z H'/\aw Z H'/\Kp.go κ'.wait.length κ'=B.eT/\κ'.az=B.az/\κ'.cho=B.cho/\κ'.done.length+κ'.wait.length<=1000/\((κ'.first=none/\v= .aq)\/∃o,κ'.first=some o/\qh H' Z v o)) (λ_ H'=>match H' (A' 7)with|some (.lst xs)=>xs.length|_=>0) ⟨B,v0,rfl,R,ah,Fr.refl,kr,rfl,rfl,rfl,ld,h0⟩ ?_ ?_
 .rintro U H1 ⟨κ',v,rfl,R1,iL,f1,aV,eg,eu,ec,ld1,hv⟩
  refine⟨_,rfl,rfl,_,rfl,?_⟩;rcases hv with⟨e,rfl⟩|⟨o,e,uo⟩
  .refine we ?_;rw[FR e]at eg;subst eg;refine⟨_,rfl,k,dk,_,rfl,R1.ob,fu A',Z,id,h,k,A',dk,_,n,rfl,R1,iL,n8,by rw[eu,ec];exact ll,aV,λZ' H' tO r xs q1 q2 q3 q4 q5 q6=>g Z' H' tO r xs q1 (f1.trans q2) q3 q4 q5 q6⟩
  .obtain⟨q,rfl,nq,hq⟩:=uo;refine br ?_;obtain⟨xs,hx,px⟩:=R1.wt;have om:=nZ e;refine⟨_,rfl,k,_,dk,_,_,rfl,R1.ob,T.jm,T.ze,(zu A').2.2.2.2.2.2,.inl ⟨rfl,_,af.of hx⟩,_,rfl,A' 7,xs,.ref q,zl o,κ'.wait.map zl,rfl,rfl,hx,⟨q,rfl,ay.of hq⟩,Mf px,mem_map_of_mem om,?_⟩;rw[FQ];obtain⟨r7,_⟩:=R1.fl 7 (by decide) (by decide);obtain⟨R2,f2⟩:=R1.put (κ':={κ' with wait:=κ'.wait.erase o}) (f0:=7) (by decide) (by decide) (u0:=.lst (xs.eraseIdx (κ'.wait.idxOf o))) ⟨_,rfl,by show Paired _ _ (κ'.wait.erase o);rw[FP];exact zC (Paired.yf px λ_ _=>qh.fr (Fr.put (P:=bq id h) r7 ⟨7,rfl⟩))⟩ (λf u hf q=>by unfold dP at q⊢;split at q<;>first|exact q|exact absurd rfl hf);have aW:=aV.put (a:=A' 7) (o:=.lst (xs.eraseIdx (κ'.wait.idxOf o)));have lj:qh (upd H1 (A' 7) (.lst (xs.eraseIdx (κ'.wait.idxOf o)))) Z (.ref q) o:=qh.fr f2 ⟨q,rfl,nq,hq⟩;have ho:=iL.w o om;generalize upd H1 (A' 7) (.lst (xs.eraseIdx (κ'.wait.idxOf o)))=H2 at R2 f2 aW lj;refine⟨_,rfl,k,dk,_,rfl,R2.ob,fu A',_,rfl,Z,id,h,k,A',dk,_,n,q,o,rfl,R2,lj,ho,iL.x,iL.h,by show κ'.done.length<=1000;omega,aW,λH3 R3 f3 df=>?_⟩;have Mg:(κ'.step o).Ok n:=iL.step o;refine⟨_,rfl,k,dk,_,rfl,R3.ob,fu A',Z,id,h,k,A',dk,κ'.step o,n,rfl,R3,Mg,λv1 YC=>⟨⟨κ'.step o,v1,rfl,R3,Mg,(f1.trans f2).trans f3,df,by rw[<-Yz e];exact eg,eu,ec,?_,YC⟩,?_⟩⟩
   .have l1:(κ'.step o).done.length=κ'.done.length+1:=by show(κ'.done++[o]).length=_;rw[length_append];rfl
    have l2:(κ'.step o).wait.length=κ'.wait.length-1:=length_erase_of_mem om;have:=length_pos_of_mem om;omega
   .obtain⟨ys,hy,py⟩:=R3.wt;have l2:(κ'.step o).wait.length=κ'.wait.length-1:=length_erase_of_mem om;have:=length_pos_of_mem om;have e1:=Paired.length px;have e2:ys.length=(κ'.step o).wait.length:=Paired.length py;rw[hy,hx];show ys.length<xs.length;omega
 .intro U H Q Q' hQ h;obtain⟨v,e1,e2,c,e3,q⟩:=h;exact⟨v,e1,e2,c,e3,hQ _ _ q⟩
theorem YD {o:O}:∀{aa:List (List Key×V)}{os:List O},aa.map (·.1)=os.map cJ->(aO aa (cJ o)).isSome=decide (o∈os):=λ{aa os} e=>by
 induction aa generalizing os with
 |nil=>
  cases os with
  |nil=>rfl
  |cons _ _=>simp at e
 | cons kv aa ih=>
  cases os with
  |nil=>simp at e
  |cons u os=>
   rw[map_cons,map_cons]at e;obtain⟨e1,e2⟩:=List.cons.inj e;have ih:=ih e2;by_cases z:u=o
   .subst z;rw[vy e1];simp
   .rw[y7 (λy=>z (Yo (e1.symm.trans y))),ih];simp[Ne.symm z]
theorem xh.bA {t:Ad}{H:Hp}{Z:ar}{id:Nat}{h:Int}{k dk:Addr}{A:Nat->Addr}{B:Kp}{r:Addr}{ro:Role}{o:HO}(R:xh t H Z id h k A dk B)(kr:aw Z H)(nr:H r=none):xh t (upd H r o) (vg Z r ro) id h k A dk B:=R.fr (P:=λ_=>False) (λ_ z=>z) (Fr.bA nr)
noncomputable def Mh (t:Ad)(κ':Kp->O->Kp×List O):Sp:=λvs H Q _=>∃Z id h k A dk B n q o,vs=[.ref k,.ref q]/\xh t H Z id h k A dk B/\qh H Z (.ref q) o/\B.Ok n/\n<=8/\xq (n:Nat) o=true/\B.qe.length<=900/\B.az.length+B.cho.length<=900/\B.done.length+B.wait.length<=900/\aw Z H/\∀Z' H' A' r xs,xh t H' Z' id h k A' dk (κ' B o).1->Fr (bq id h) Z H Z' H'->aw Z' H'->Z' r=some (id,.kp h 8)->H' r=some (.lst xs)->Paired (qh H' Z') xs (κ' B o).2->Q (.ref r) H'
theorem YE (T:Txt K mg t):xl P w K mg base CX0 6 t.Ed t.Ee ["self","order"] (Mh t Kp.gX):=by
 refine T.Wc.bj (N:=["self","order"]) λ_ A _ s H vs Q E hr h=>?_;obtain⟨Z,id,h,k,A',dk,B,n,q,o,rfl,R,uq,ah,n8,ho,lh,lu,ld,kr,g⟩:=h;refine⟨_,(@jb _ _ _ _ _ (zh (qF (Q4 (cM hr) (pv 1) (qd (pv 0) rfl))) (@jd _ _ _ (j5 (@qq _ _ _ _ jf))) j6) (@jb _ _ _ _ _ (rF (cM hr) (qd (pv 0) rfl) (pv 1) fB rfl) (@jb _ _ _ _ _ (qb (dq PySem.F.plainAttrs_list PySem.F.slot_list_append PySem.F.type_list_append xf (qd (pv 0) rfl) (jc (pv 1) jf))) (@jd _ _ _ (j5 (nt (pv 0) T.jm T.wo (Mb T) hr.dn T.ka .nil ju)))))),?_⟩;obtain⟨_,eq,nq,hq⟩:=uq;cases eq;obtain⟨aa,hk,ek⟩:=R.hd;have hv:=YD (o:=o) ek;refine⟨_,rfl,_,rfl,k,_,dk,_,_,rfl,R.ob,T.jm,T.um,(zu A').2.2.2.1,A' 4,aO aa (cJ o),rfl,.inr ⟨aa,cJ o,q,.inl hk,rfl,hq,rfl⟩,_,rfl,?_⟩;rw[hv];unfold Kp.gX at g;refine bH (λz=>?_) (λz=>?_)
 .have z':o∈B.qe:=of_decide_eq_true z;rw[if_pos z']at g;refine⟨cu,λr nr=>?_⟩;have f1:Fr (bq id h) Z H (vg Z r (id,.kp h 8)) (upd H r (.lst [])):=Fr.bA nr;refine g _ _ A' r [] (xh.bA R kr nr) f1 kr.bA qk ja .nil
 .have z':¬o∈B.qe:=λy=>z (decide_eq_true y);rw[if_neg z']at g;have nk:aO aa (cJ o)=none:=by
   cases e:aO aa (cJ o)with
   |none=>rfl
   |some v=>rw[e,decide_eq_false z']at hv;cases hv
  have lk:aa.length<=1000:=by have:=congrArg List.length ek;rw[length_map,length_map]at this;omega
  refine⟨_,rfl,k,_,dk,_,_,rfl,R.ob,T.jm,T.um,(zu A').2.2.2.1,_,rfl,A' 4,_,rfl,fe.t (k:=cJ o) hk hq (qi lk),?_⟩;rw[oX _ nk];obtain⟨R1,f1⟩:=R.put (κ':={B with qe:=B.qe++[o]}) (f0:=4) (by decide) (by decide) (u0:=.dT (aa++[(cJ o,.bl true)])) ⟨_,rfl,by rw[map_append,ek,map_append];rfl⟩ (λf u hf q=>by unfold dP at q⊢;split at q<;>first|exact q|exact absurd rfl hf);have aV:=kr.put (a:=A' 4) (o:=.dT (aa++[(cJ o,.bl true)]));have gD:qh _ Z (.ref q) o:=qh.fr f1 ⟨q,rfl,nq,hq⟩;generalize upd H (A' 4) (.dT (aa++[(cJ o,.bl true)]))=H1 at R1 f1 aV gD;obtain⟨xs,hx,px⟩:=R1.un;have lx:xs.length<=1000:=by rw[Paired.length px];show B.az.length<=1000;omega
  refine⟨_,rfl,k,_,dk,_,_,rfl,R1.ob,T.jm,T.ye,(zu A').2.2.2.2.1,.inl ⟨rfl,_,af.of hx⟩,_,rfl,A' 5,xs,.ref q,rfl,rfl,hx,qi lx,?_⟩;obtain⟨r5,_⟩:=R1.fl 5 (by decide) (by decide);obtain⟨R2,f2⟩:=R1.put (κ':={B with qe:=B.qe++[o],az:=B.az++[o]}) (f0:=5) (by decide) (by decide) (u0:=.lst (xs++[.ref q])) ⟨_,rfl,j9 (Paired.yf px λ_ _=>qh.fr (Fr.put (P:=bq id h) r5 ⟨5,rfl⟩)) (gD.fr (Fr.put (P:=bq id h) r5 ⟨5,rfl⟩))⟩ (λf u hf q=>by unfold dP at q⊢;split at q<;>first|exact q|exact absurd rfl hf);have aW:=aV.put (a:=A' 5) (o:=.lst (xs++[.ref q]));dsimp only;generalize upd H1 (A' 5) (.lst (xs++[.ref q]))=H2 at R2 f2 aW;have FT:Kp.Ok n {B with qe:=B.qe++[o],az:=B.az++[o]}:=⟨ah.h,ah.x,λu hu=>by
   rcases mem_append.mp hu with hu|hu
   .exact ah.u u hu
   .rw[mem_singleton.mp hu];exact ho,ah.w,ah.nd⟩;exact⟨_,rfl,k,dk,_,rfl,R2.ob,fu A',Z,id,h,k,A',dk,_,n,rfl,R2,FT,n8,by show(B.az++[o]).length+B.cho.length<=1000;rw[length_append];show B.az.length+1+B.cho.length<=1000;omega,aW,λZ' H' tO r ys q1 q2 q3 q4 q5 q6=>g Z' H' tO r ys q1 ((f1.trans f2).trans q2) q3 q4 q5 q6⟩
theorem YF (T:Txt K mg t):xl P w K mg base CX0 7 t.gy t.kh ["self","order"] (Mh t Kp.eD):=by
 refine T.Wg.bj (N:=["self","order"]) λ_ A _ s H vs Q E hr h=>?_;obtain⟨Z,id,h,k,A',dk,B,n,q,o,rfl,R,uq,ah,n8,ho,lh,lu,ld,kr,g⟩:=h;refine⟨_,(@jb _ _ _ _ _ (zh (PW.pt (eX (xc (qc (pv 0) T.jm T.vq (FJ T) hr.dn T.Fs .nil ju (jc (pv 1) jf))) (fR (jx (Th hr.units) (pv 1) (qd (pv 0) rfl) (by with_unfolding_all rfl))))) (@jd _ _ _ (j5 (@qq _ _ _ _ jf))) j6) (@jb _ _ _ _ _ (qb (dq PySem.F.plainAttrs_list PySem.F.slot_list_append PySem.F.type_list_append xf (qd (pv 0) rfl) (jc (pv 1) jf))) (@jd _ _ _ (j5 (nt (pv 0) T.jm T.Wa (YA T) hr.dn T.Wb .nil ju))))),?_⟩;obtain⟨_,eq,nq,hq⟩:=uq;cases eq;obtain⟨xs,hx,px⟩:=R.wt;unfold Kp.eD at g;have none_:(B.past o||decide (o∈B.wait))=true->∀r H1,xr H H1->H1 r=none->Q (.ref r) (upd H1 r (.lst [])):=λz r H1 s1 nr=>by
  rw[if_pos z]at g;have f0:Fr (bq id h) Z H Z H1:=Fr.same s1;have f1:Fr (bq id h) Z H1 (vg Z r (id,.kp h 8)) (upd H1 r (.lst [])):=Fr.bA nr;exact g _ _ A' r [] (xh.bA (R.fr (P:=λ_=>False) (λ_ z=>z) (Fr.same s1)) (kr.same s1) nr) (f0.trans f1) (kr.same s1).bA qk ja .nil
 refine⟨_,rfl,k,dk,_,rfl,R.ob,fu A',_,rfl,Z,id,h,k,A',dk,B,n,q,o,rfl,R,hq,ho,ah.x,_,rfl,?_⟩;cases hp:B.past o with
 |true=>refine br (br ⟨cu,λr nr=>none_ (by rw[hp];rfl) r H (xr.refl _) nr⟩)
 | false=>
  refine we ⟨_,rfl,_,rfl,k,_,dk,_,_,rfl,R.ob,T.jm,T.ze,(zu A').2.2.2.2.2.2,A' 7,xs,zl o,B.wait.map zl,rfl,af.of hx,⟨q,rfl,ay.of hq⟩,Mf px,_,rfl,bH (λz=>?_) (λz=>?_)⟩
  .have z':o∈B.wait:=by
    obtain⟨u,hu,e⟩:=mem_map.mp (of_decide_eq_true z);rw[<-pM e];exact hu
   exact⟨cu,λr nr=>none_ (by rw[decide_eq_true z',Bool.or_true]) r H (xr.refl _) nr⟩
  .have z':¬o∈B.wait:=λy=>z (decide_eq_true (mem_map_of_mem y));rw[if_neg (by rw[hp,decide_eq_false z'];decide)]at g;have lx:xs.length<=1000:=by rw[Paired.length px];omega
   refine⟨_,rfl,k,_,dk,_,_,rfl,R.ob,T.jm,T.ze,(zu A').2.2.2.2.2.2,.inl ⟨rfl,_,af.of hx⟩,_,rfl,A' 7,xs,.ref q,rfl,rfl,hx,qi lx,?_⟩;obtain⟨r7,_⟩:=R.fl 7 (by decide) (by decide);obtain⟨R2,f2⟩:=R.put (κ':={B with wait:=B.wait++[o]}) (f0:=7) (by decide) (by decide) (u0:=.lst (xs++[.ref q])) ⟨_,rfl,j9 (Paired.yf px λ_ _=>qh.fr (Fr.put (P:=bq id h) r7 ⟨7,rfl⟩)) (qh.fr (Fr.put (P:=bq id h) r7 ⟨7,rfl⟩) ⟨q,rfl,nq,hq⟩)⟩ (λf u hf q=>by unfold dP at q⊢;split at q<;>first|exact q|exact absurd rfl hf);have aW:=kr.put (a:=A' 7) (o:=.lst (xs++[.ref q]));dsimp only;generalize upd H (A' 7) (.lst (xs++[.ref q]))=H2 at R2 f2 aW;have FT:Kp.Ok n {B with wait:=B.wait++[o]}:=⟨ah.h,ah.x,ah.u,λu hu=>by
    rcases mem_append.mp hu with hu|hu
    .exact ah.w u hu
    .rw[mem_singleton.mp hu];exact ho,nodup_append.mpr ⟨ah.nd,by simp,λx hx y hy e=>by rw[mem_singleton.mp hy]at e;subst e;exact z' hx⟩⟩;exact⟨_,rfl,k,dk,_,rfl,R2.ob,fu A',Z,id,h,k,A',dk,_,n,rfl,R2,FT,n8,by show B.az.length+B.cho.length<=1000;omega,by show B.done.length+(B.wait++[o]).length<=1000;rw[length_append];show B.done.length+(B.wait.length+1)<=1000;omega,aW,λZ' H' tO r ys q1 q2 q3 q4 q5 q6=>g Z' H' tO r ys q1 (f2.trans q2) q3 q4 q5 q6⟩
noncomputable def dg (n bM:Int)(ly ch kd bd ak wy:Addr):List (Str×V):=kq "on_way" (.ref wy) (kq "asked" (.ref ak) (kq "board" (.ref bd) (kq "keepers" (.ref kd) (kq "cheating" (.ref ch) (kq "lying" (.ref ly) (kq "total" (.int bM) (kq "purses" (.int n) [])))))))
theorem Mi {n bM:Int}{ly ch kd bd ak wy:Addr}:(dg n bM ly ch kd bd ak wy).lookup ("purses":Str)=some (.int n):=by unfold dg;repeat(first|rw[jk,if_pos rfl]|rw[jk,if_neg (by decide+kernel)])
theorem YG {n bM:Int}{ly ch kd bd ak wy:Addr}:(dg n bM ly ch kd bd ak wy).lookup ("lying":Str)=some (.ref ly):=by unfold dg;repeat(first|rw[jk,if_pos rfl]|rw[jk,if_neg (by decide+kernel)])
theorem FU {n bM:Int}{ly ch kd bd ak wy:Addr}:(dg n bM ly ch kd bd ak wy).lookup ("cheating":Str)=some (.ref ch):=by unfold dg;repeat(first|rw[jk,if_pos rfl]|rw[jk,if_neg (by decide+kernel)])
theorem tP {n bM:Int}{ly ch kd bd ak wy:Addr}:(dg n bM ly ch kd bd ak wy).lookup ("keepers":Str)=some (.ref kd):=by unfold dg;repeat(first|rw[jk,if_pos rfl]|rw[jk,if_neg (by decide+kernel)])
theorem FV {n bM:Int}{ly ch kd bd ak wy:Addr}:(dg n bM ly ch kd bd ak wy).lookup ("board":Str)=some (.ref bd):=by unfold dg;repeat(first|rw[jk,if_pos rfl]|rw[jk,if_neg (by decide+kernel)])
theorem Mj {n bM:Int}{ly ch kd bd ak wy:Addr}:(dg n bM ly ch kd bd ak wy).lookup ("asked":Str)=some (.ref ak):=by unfold dg;repeat(first|rw[jk,if_pos rfl]|rw[jk,if_neg (by decide+kernel)])
theorem tQ {n bM:Int}{ly ch kd bd ak wy:Addr}:(dg n bM ly ch kd bd ak wy).lookup ("on_way":Str)=some (.ref wy):=by unfold dg;repeat(first|rw[jk,if_pos rfl]|rw[jk,if_neg (by decide+kernel)])
theorem xi {n bM:Int}{ly ch kd bd ak wy:Addr}{m:Str}(h:autoParam (¬m="on_way"/\¬m="asked"/\¬m="board"/\¬m="keepers"/\¬m="cheating"/\¬m="lying"/\¬m="total"/\¬m="purses") aP4):(dg n bM ly ch kd bd ak wy).lookup m=none:=by obtain⟨h1,h2,h3,h4,h5,h6,h7,h8⟩:=h;unfold dg;rw[jk,if_neg h1,jk,if_neg h2,jk,if_neg h3,jk,if_neg h4,jk,if_neg h5,jk,if_neg h6,jk,if_neg h7,jk,if_neg h8];rfl
structure Wd where
 n:Nat
 uh:List Int
 ks:List (Int×Kp)
 bd:x9
 en:Int
 asked:List (List O)
 way:List (Bool×Int×O)
noncomputable def bC (ks:List (Int×Kp))(h:Int)(B:Kp):List (Int×Kp):=ks.map λc=>if c.1=h then(h,B)else c
noncomputable def Wd.post (w:Wd)(b:Bool)(o:O):Wd:={w with way:=w.way++w.ks.map λc=>(b,c.1,o)}
noncomputable def jv:x9->List Int->List Int
 |[],_=>[]
 |p::ps,k=>if p.1=k then p.2 else jv ps k
noncomputable def kg:x9->List Int->Int->x9
 |[],k,h=>[(k,[h])]
 |p::ps,k,h=>if p.1=k then(p.1,p.2++[h])::ps else p::kg ps k h
noncomputable def Wd.put (w:Wd)(h:Int)(o:O):Wd×Bool:=if h∈jv w.bd (zl o)then(w,false)else({w with bd:=kg w.bd (zl o) h},decide (((jv w.bd (zl o)).length:Int)+1=w.en))
noncomputable def Wd.bg (h:Int)(w:Wd)(o:O):Wd:=if(w.put h o).2=true then(w.put h o).1.post false o else(w.put h o).1
noncomputable def Wd.qm (w:Wd)(h:Int)(os:List O):Wd:=os.foldl (Wd.bg h) w
noncomputable def Wd.keep (w:Wd)(h:Int):Option Kp:=(w.ks.find? λc=>decide (c.1=h)).map (·.2)
noncomputable def Kp.take (B:Kp)(b:Bool)(o:O):Kp×List O:=if b=true then B.gX o else B.eD o
noncomputable def Wd.iM (w:Wd)(i:Nat)(l:Bool×Int×O)(B:Kp):Wd:=Wd.qm {w with way:=w.way.eraseIdx i,ks:=bC w.ks l.2.1 (B.take l.1 l.2.2).1} l.2.1 (B.take l.1 l.2.2).2
theorem zE (k:List Int):∀is:x9,qo (cZ is) (bz k)=jv is k
 |[]=>rfl
 |p::ps=>by
  show(if bz p.1=bz k then p.2 else qo (cZ ps) (bz k))=if p.1=k then p.2 else jv ps k;by_cases z:p.1=k
  .rw[if_pos z,if_pos (by rw[z])]
  .rw[if_neg z,if_neg (λy=>z (tH y)),zE k ps]
theorem Ml (k:List Int)(h:Int):∀is:x9,kY (cZ is) (bz k) h=cZ (kg is k h)
 |[]=>rfl
 |p::ps=>by
  show(if bz p.1=bz k then(bz p.1,p.2++[h])::cZ ps else(bz p.1,p.2)::kY (cZ ps) (bz k) h)=cZ (if p.1=k then(p.1,p.2++[h])::ps else p::kg ps k h);by_cases z:p.1=k
  .rw[if_pos z,if_pos (by rw[z])];rfl
  .rw[if_neg z,if_neg (λy=>z (tH y)),Ml k h ps];rfl
noncomputable def gY (b:Bool):V:=.str (if b=true then"order"else"paper")
noncomputable def aE (H:Hp)(Z:ar)(x:V)(l:Bool×Int×O):Prop:=∃a q,x= .ref a/\Z a=none/\H a=some (.tup [gY l.1,.int l.2.1,.ref q])/\qh H Z (.ref q) l.2.2
theorem aE.fr {P:Role->Prop}{Z Z':ar}{H H':Hp}{x:V}{l:Bool×Int×O}(f:Fr P Z H Z' H')(h:aE H Z x l):aE H' Z' x l:=by
 obtain⟨a,q,e,n,h1,h2⟩:=h;obtain⟨mh,n'⟩:=f a _ h1 λr hr=>by rw[n]at hr;cases hr
 exact⟨a,q,e,n'.trans n,mh,h2.fr f⟩
structure WA where
 x:Addr
 dx:Addr
 bM:Int
 ly:Addr
 ch:Addr
 kd:Addr
 bd:Addr
 ak:Addr
 wy:Addr
 db:Addr
 S:Addr
noncomputable abbrev WA.fs (W:WA)(n:Nat):List (Str×V):=dg n W.bM W.ly W.ch W.kd W.bd W.ak W.wy
noncomputable def yb (t:Ad)(H:Hp)(Z:ar)(id:Nat)(aa:List (Key×V))(ks:List (Int×Kp)):Prop:=Paired (λkv (c:Int×Kp)=>kv.1= .inl c.1/\∃k A dk,kv.2= .ref k/\xh t H Z id c.1 k A dk c.2) aa ks
noncomputable def lq (H:Hp)(Z:ar)(id:Nat)(rs:List Addr)(asked:List (List O)):Prop:=rs.length=asked.length/\∀(i:Nat)(r:Addr)(os:List O),rs[i]?=some r->asked[i]?=some os->Z r=some (id,.row i)/\∃xs,H r=some (.lst xs)/\Paired (qh H Z) xs os
noncomputable def lA (Z:ar)(id:Nat)(aa:List (List Key×V)):Prop:=∀kv∈aa,∃c,kv.2= .ref c/\Z c=some (id,.sg)
structure qj (t:Ad)(H:Hp)(Z:ar)(id:Nat)(W:WA)(w:Wd):Prop where
 ob:H W.x=some (.ins t.j3 W.dx (W.fs w.n))/\Z W.x=some (id,.x)
 ch:H W.ch=some (.lst (w.uh.map V.int))/\Z W.ch=none
 kd:Z W.kd=some (id,.kd)/\∃aa,H W.kd=some (.dK aa)/\yb t H Z id aa w.ks
 bd:Z W.bd=some (id,.bd)/\Z W.S=some (id,.sd)/\∃aa,vb t H W.bd W.db W.S w.en aa (cZ w.bd)/\lA Z id aa
 ak:Z W.ak=some (id,.ak)/\∃rs,H W.ak=some (.lst (rs.map V.ref))/\lq H Z id rs w.asked
 wy:Z W.wy=some (id,.wy)/\∃xs,H W.wy=some (.lst xs)/\Paired (aE H Z) xs w.way
section
variable {t:Ad}{H H':Hp}{Z Z':ar}{id:Nat}{W:WA}{w:Wd}{P:Role->Prop}
theorem gg {a:Addr}{u:HO}{r:Role}(f:Fr P Z H Z' H')(e:H a=some u)(er:Z a=some r)(n:¬P r):H' a=some u/\Z' a=some r:=by
 obtain⟨e1,r1⟩:=f a u e λr' hr=>by rw[er]at hr;cases hr;exact n
 exact⟨e1,r1.trans er⟩
theorem bW {a:Addr}{u:HO}(f:Fr P Z H Z' H')(e:H a=some u)(er:Z a=none):H' a=some u/\Z' a=none:=by
 obtain⟨e1,r1⟩:=f a u e λr' hr=>by rw[er]at hr;cases hr
 exact⟨e1,r1.trans er⟩
theorem yb.fr {aa:List (Key×V)}{ks:List (Int×Kp)}(f:Fr P Z H Z' H')(hP:∀h i,¬P (id,.kp h i))(k:yb t H Z id aa ks):yb t H' Z' id aa ks:=Paired.yf k λ_ c ⟨e,k,A,dk,ek,q⟩=>⟨e,k,A,dk,ek,q.fr (hP c.1) f⟩
theorem lq.fr {rs:List Addr}{asked:List (List O)}(f:Fr P Z H Z' H')(hP:∀i,¬P (id,.row i))(k:lq H Z id rs asked):lq H' Z' id rs asked:=⟨k.1,λi r os e1 e2=>by obtain⟨rr,xs,h,p⟩:=k.2 i r os e1 e2;obtain⟨h',r'⟩:=gg f h rr (hP i);exact⟨r',xs,h',Paired.yf p λ_ _=>qh.fr f⟩⟩
theorem vb.fr {p dx S:Addr}{en:Int}{aa:List (List Key×V)}{ps:ft}(f:Fr P Z H Z' H')(rp:Z p=some (id,.bd))(rS:Z S=some (id,.sd))(sg:lA Z id aa)(n1:¬P (id,.bd))(n2:¬P (id,.sd))(n3:¬P (id,.sg))(Bq:vb t H p dx S en aa ps):vb t H' p dx S en aa ps/\Z' p=some (id,.bd)/\Z' S=some (id,.sd)/\lA Z' id aa:=by
 obtain⟨e1,r1⟩:=gg f Bq.ob rp n1;obtain⟨e2,r2⟩:=gg f Bq.sg rS n2;have hs:∀{kv:List Key×V}{q:List Key×List Int},kv∈aa->gW H kv q->gW H' kv q/\∃c,kv.2= .ref c/\Z' c=some (id,.sg):=λ{kv q} m ⟨a,c,ec,hc⟩=>by obtain⟨c',Mm,rc⟩:=sg kv m;rw[ec]at Mm;cases Mm;obtain⟨h1,h2⟩:=gg f hc rc n3;exact⟨⟨a,c,ec,h1⟩,c,ec,h2⟩
 have all:∀{xs:List (List Key×V)}{ys:ft},(∀x∈xs,x∈aa)->Paired (gW H) xs ys->Paired (gW H') xs ys/\lA Z' id xs:=λ{xs ys} m q=>by
  induction q with
  |nil=>exact⟨.nil,λ_ z=>by cases z⟩
  |cons h _ ih=>
   obtain⟨i1,i2⟩:=ih λx hx=>m x (mem_cons_of_mem _ hx);obtain⟨j1,j2⟩:=hs (m _ mem_cons_self) h;refine⟨.cons j1 i1,λx hx=>?_⟩;rcases mem_cons.mp hx with rfl|hx
   .exact j2
   .exact i2 x hx
 obtain⟨a1,a2⟩:=all (λ_ h=>h) Bq.hs;exact⟨⟨e1,e2,a1,Bq.un⟩,r1,r2,a2⟩
theorem qj.fr (hP:∀p,¬P (id,p))(f:Fr P Z H Z' H')(w1:qj t H Z id W w):qj t H' Z' id W w:=by obtain⟨rk,aa,hk,ks⟩:=w1.kd;obtain⟨rb,rS,tR,Bq,sg⟩:=w1.bd;obtain⟨ra,rs,ha,rows⟩:=w1.ak;obtain⟨fO,xs,hw,pw⟩:=w1.wy;obtain⟨jR,YH⟩:=gg f hk rk (hP _);obtain⟨B',zF,zG,FW⟩:=Bq.fr f rb rS sg (hP _) (hP _) (hP _);obtain⟨FX,FY⟩:=gg f ha ra (hP _);obtain⟨oa,cz⟩:=gg f hw fO (hP _);exact⟨gg f w1.ob.1 w1.ob.2 (hP _),bW f w1.ch.1 w1.ch.2,⟨YH,aa,jR,ks.fr f λ_ _=>hP _⟩,⟨zF,zG,tR,B',FW⟩,⟨FY,rs,FX,rows.fr f λ_=>hP _⟩,⟨cz,xs,oa,Paired.yf pw λ_ _=>aE.fr f⟩⟩
theorem qj.but (f:Fr P Z H Z' H')(w1:qj t H Z id W w)(w':Wd)(n1:¬P (id,.x))(en:w'.n=w.n)(ec:w'.uh=w.uh)(kd:(Z W.kd=some (id,.kd)->(∃aa,H W.kd=some (.dK aa)/\yb t H Z id aa w.ks)->Z' W.kd=some (id,.kd)/\∃aa,H' W.kd=some (.dK aa)/\yb t H' Z' id aa w'.ks))(bd:(Z W.bd=some (id,.bd)->Z W.S=some (id,.sd)->(∃aa,vb t H W.bd W.db W.S w.en aa (cZ w.bd)/\lA Z id aa)->Z' W.bd=some (id,.bd)/\Z' W.S=some (id,.sd)/\∃aa,vb t H' W.bd W.db W.S w'.en aa (cZ w'.bd)/\lA Z' id aa))(ak:(Z W.ak=some (id,.ak)->(∃rs,H W.ak=some (.lst (rs.map V.ref))/\lq H Z id rs w.asked)->Z' W.ak=some (id,.ak)/\∃rs,H' W.ak=some (.lst (rs.map V.ref))/\lq H' Z' id rs w'.asked))(wy:(Z W.wy=some (id,.wy)->(∃xs,H W.wy=some (.lst xs)/\Paired (aE H Z) xs w.way)->Z' W.wy=some (id,.wy)/\∃xs,H' W.wy=some (.lst xs)/\Paired (aE H' Z') xs w'.way)):qj t H' Z' id W w':=by
 refine⟨?_,?_,kd w1.kd.1 w1.kd.2,bd w1.bd.1 w1.bd.2.1 w1.bd.2.2,ak w1.ak.1 w1.ak.2,wy w1.wy.1 w1.wy.2⟩
 .rw[en];exact gg f w1.ob.1 w1.ob.2 n1
 .rw[ec];exact bW f w1.ch.1 w1.ch.2
theorem gE (f:Fr P Z H Z' H')(n1:¬P (id,.kd))(n2:∀h i,¬P (id,.kp h i)){kd:Addr}{ks:List (Int×Kp)}(r:Z kd=some (id,.kd))(h:∃aa,H kd=some (.dK aa)/\yb t H Z id aa ks):Z' kd=some (id,.kd)/\∃aa,H' kd=some (.dK aa)/\yb t H' Z' id aa ks:=by obtain⟨aa,hk,q⟩:=h;obtain⟨h',r'⟩:=gg f hk r n1;exact⟨r',aa,h',q.fr f n2⟩
theorem iN (f:Fr P Z H Z' H')(n1:¬P (id,.bd))(n2:¬P (id,.sd))(n3:¬P (id,.sg)){b db S:Addr}{en:Int}{is:x9}(rb:Z b=some (id,.bd))(rS:Z S=some (id,.sd))(h:∃aa,vb t H b db S en aa (cZ is)/\lA Z id aa):Z' b=some (id,.bd)/\Z' S=some (id,.sd)/\∃aa,vb t H' b db S en aa (cZ is)/\lA Z' id aa:=by obtain⟨aa,Bq,sg⟩:=h;obtain⟨B',zF,zG,FW⟩:=Bq.fr f rb rS sg n1 n2 n3;exact⟨zF,zG,aa,B',FW⟩
theorem mC (f:Fr P Z H Z' H')(n1:¬P (id,.ak))(n2:∀i,¬P (id,.row i)){ak:Addr}{asked:List (List O)}(r:Z ak=some (id,.ak))(h:∃rs,H ak=some (.lst (rs.map V.ref))/\lq H Z id rs asked):Z' ak=some (id,.ak)/\∃rs,H' ak=some (.lst (rs.map V.ref))/\lq H' Z' id rs asked:=by obtain⟨rs,hk,q⟩:=h;obtain⟨h',r'⟩:=gg f hk r n1;exact⟨r',rs,h',q.fr f n2⟩
theorem FZ (f:Fr P Z H Z' H')(n1:¬P (id,.wy)){wy:Addr}{way:List (Bool×Int×O)}(r:Z wy=some (id,.wy))(h:∃xs,H wy=some (.lst xs)/\Paired (aE H Z) xs way):Z' wy=some (id,.wy)/\∃xs,H' wy=some (.lst xs)/\Paired (aE H' Z') xs way:=by obtain⟨rs,hk,q⟩:=h;obtain⟨h',r'⟩:=gg f hk r n1;exact⟨r',rs,h',Paired.yf q λ_ _=>aE.fr f⟩
end
theorem F0 {α β:Type}{F:α->β->Prop}:∀{xs F1:List α}{ys cX:List β},Paired F xs ys->Paired F F1 cX->Paired F (xs++F1) (ys++cX):=λ{xs F1 ys cX} q h=>by
 induction q with
 |nil=>exact h
 |cons a _ ih=>exact .cons a ih
theorem big {n:Nat}(h:n<=1000000):n<sizeLine:=Nat.lt_of_le_of_lt h (by decide)
theorem iP {n:Nat}(h:n<=1000000):n<=sizeLine:=le_of_lt (big h)
noncomputable abbrev zH (H:Hp)(x:Addr)(G:Hp):Prop:=∀b u,H b=some u->b≠x->G b=some u
theorem Fr.F5 {P:Role->Prop}{Z:ar}{H G:Hp}{x:Addr}{r:Role}(h:Z x=some r)(p:P r)(f:zH H x G):Fr P Z H Z G:=λb u e n=>⟨f b u e λz=>n r (z ▸ h) p,rfl⟩
theorem aw.F5 {Z:ar}{H G:Hp}{x:Addr}{u:HO}(k:aw Z H)(f:zH H x G)(hx:G x=some u)(nu:mz u):aw Z G:=λb r h=>by
 by_cases z:b=x
 .subst z;exact⟨u,hx,nu⟩
 .obtain⟨v,e,n⟩:=k b r h;exact⟨v,f b v e z,n⟩
noncomputable def gZ (id:Nat)(p:Part):Role->Prop:=λr=>r=(id,p)
theorem j4 {id:Nat}{p q:Part}(h:q≠p:=by intro z;cases z):¬gZ id p (id,q):=λz=>h (Prod.mk.inj z).2
theorem YI {a:Addr}{o:Obj}{aa:List (Key×V)}{g:TG}{tb:TS}{D:Ends}{U:St}{H:Hp}(Pv:Nat->St->Hp->Prop)(h0:Pv 0 U H)(hl:∀i U H,i<=aa.length->Pv i U H->H a=some (.aY o (.dK aa)))(hs:∀i kv U H,aa[i]?=some kv->Pv i U H->g (kV kv.1) U H λU2 H2=>tb {D with nx:=Pv (i+1),ct:=Pv (i+1),bk:=D.nx} U2 H2)(hd:∀U H,Pv aa.length U H->D.nx U H):∃W:Nat->Nat->St->Hp->Prop,(∃m,W 0 m U H)/\∀i m U H,W i m U H->((se a o aa).stop i H/\D.nx U H)\/((se a o aa).go i H/\∃N:St->Hp->Prop,(∀U' H',N U' H'->∃m',m'<m/\W (i+1) m' U' H')/\∀x H',(se a o aa).fD i H x H'->g x U H' λU2 H2=>tb {D with nx:=N,ct:=N,bk:=D.nx} U2 H2):=by
 refine⟨λi m U H=>m=aa.length-i/\i<=aa.length/\Pv i U H,⟨aa.length,by simp,zero_le _,h0⟩,?_⟩
 rintro i m U H ⟨rfl,hi,p⟩
 have q:=hl i U H hi p;by_cases aQ:i<aa.length
 .refine .inr ⟨⟨aQ,q⟩,Pv (i+1),λU' H' p'=>⟨aa.length-(i+1),by lia,rfl,aQ,p'⟩,λx H' y=>?_⟩;obtain⟨e,kv,ek,ex⟩:=y;subst e ex;exact hs i kv U _ ek p
 .have e:i=aa.length:=by lia
  subst e;exact .inl ⟨⟨le_refl _,q⟩,hd U H p⟩
theorem Mn (T:Txt K mg t):xl P w K mg base CX0 1 t.Eg t.Eh ["self"] (λvs H Q _=>∃Z id W Y,vs=[.ref W.x]/\qj t H Z id W Y/\Y.way.length<=100000/\∀r xs,H r=none->Paired (aE H Z) xs Y.way->Q (.ref r) (upd H r (.lst xs))):=by refine T.Wn.bj (N:=["self"]) λ_ A _ s H vs Q E hr h=>?_;obtain⟨Z,id,W,Y,rfl,O,l,k⟩:=h;refine⟨_,(@jd _ _ _ (j5 (lV yh rfl T.jP boot_list (jc (qd (pv 0) rfl) jf)))),?_⟩;obtain⟨fO,xs,hw,pw⟩:=O.wy;exact⟨_,rfl,W.x,_,W.dx,_,_,rfl,O.ob.1,T.jl,T.xa,tQ,W.wy,xs,rfl,.inl (af.of hw),λr nr=>k r xs nr pw⟩
theorem Mp (T:Txt K mg t):xl P w K mg base CX0 1 t.wm t.wj ["self","word","order"] (λvs H Q _=>∃Z id W Y b q o,vs=[.ref W.x,gY b,.ref q]/\qj t H Z id W Y/\aw Z H/\qh H Z (.ref q) o/\Y.way.length<=100000/\Y.ks.length<=16/\∀H',qj t H' Z id W (Y.post b o)->Fr (gZ id .wy) Z H Z H'->aw Z H'->Q .aq H'):=by
 refine T.WR.cA K4 λ_ A _ s H vs Q E hr h=>?_;obtain⟨Z,id,W,Y,b,q,o,rfl,O,kr,uq,l,l2,k⟩:=h;refine⟨_,(@jd _ _ _ (SA (ie PassesOwn.never rfl (SJ (qd (pv 0) rfl)) (jw (i:=3) K4.nd rfl (Or.inl rfl)) (@jd _ _ _ (qb (dq PySem.F.plainAttrs_list PySem.F.slot_list_append PySem.F.type_list_append xf (qd (pv 0) rfl) (jc (@fW _ _ _ _ _ (@bT _ _ _ _ _ _ _ (pv 1) (pv 3) (pv 2) rfl rfl rfl)) jf))))))),?_⟩;obtain⟨rk,aa,kd,ks⟩:=O.kd;obtain⟨fO,way,wy,pw⟩:=O.wy;have ob:=O.ob.1;have kw:W.kd≠W.wy:=cP rk fO (by intro z;cases z);have kx:W.x≠W.kd:=cP O.ob.2 rk (by intro z;cases z);have wx:W.x≠W.wy:=cP O.ob.2 fO (by intro z;cases z);have lk:aa.length=Y.ks.length:=Paired.length ks;have lw:way.length=Y.way.length:=Paired.length pw;refine⟨_,rfl,W.x,_,W.dx,_,_,rfl,ob,T.jl,T.zm,tP,W.kd,aa,rfl,kd,λoo=>YI (λi U H'=>∃v ts,U=[some (.ref W.x),some (gY b),some (.ref q),v]/\ts.length=i/\H' W.wy=some (.lst (way++ts))/\zH (upd H W.kd (.aY oo (.dK aa))) W.wy H'/\Paired (λx (c:Int×Kp)=>∃a,x= .ref a/\H a=none/\H' a=some (.tup [gY b,.int c.1,.ref q])) ts (Y.ks.take i)) ?_ ?_ ?_ ?_⟩
 .exact⟨none,[],rfl,rfl,(by rw[append_nil,jg kw.symm];exact wy),(λb u e _=>e),.nil⟩
 .rintro i U H' _ ⟨v,ts,_,_,_,f,_⟩
  exact f _ _ ja kw
 .rintro i kv U H' ek ⟨v,ts,rfl,lt,hw,f,pt⟩
  obtain⟨c,ec,e1,_⟩:=zi ks ek;have YJ:H' W.x=some (.ins t.j3 W.dx (W.fs Y.n)):=f _ _ (by rw[jg kx];exact ob) wx;have hi:=(List.getElem?_eq_some_iff.mp ek).1;refine⟨_,rfl,W.x,_,W.dx,_,_,rfl,YJ,T.jl,T.xa,tQ,.inl ⟨rfl,_,af.of hw⟩,_,rfl,_,rfl,_,rfl,kW,λp np=>?_⟩;have sp:=je (o:=.tup [gY b,kV kv.1,.ref q]) np;have mB:H p=none:=by
   cases e:H p with
   |none=>rfl
   | some u=>
    exfalso;by_cases z:p=W.wy
    .rw[z,hw]at np;cases np
    .by_cases z2:p=W.kd
     .rw[z2,f _ _ ja kw]at np;cases np
     .have:=f p u (by rw[jg z2];exact e) z;rw[np]at this;cases this
  have YK:p≠W.wy:=λz=>by rw[z,hw]at np;cases np
  refine⟨W.wy,_,_,rfl,rfl,sp _ _ hw,big (by rw[length_append,lt];omega),_,ts++[.ref p],rfl,?_,?_,λb' u e bw=>?_,?_⟩
  .rw[length_append,lt];rfl
  .rw[ja,List.append_assoc]
  .rw[jg bw];exact sp _ _ (f _ _ e bw)
  .rw[take_snoc ec];refine j9 (Paired.yf pt λ_ _ ⟨a,e,n,h'⟩=>⟨a,e,n,?_⟩) ⟨p,rfl,mB,?_⟩
   .rw[jg (λz=>by rw[z,hw]at h';cases h')];exact sp _ _ h'
   .rw[jg YK,ja,e1];rfl
 .rintro U H' ⟨v,ts,rfl,lt,hw,f,pt⟩
  have fin:zH H W.wy (upd H' W.kd (.dK aa)):=λb' u e bw=>by
   by_cases z:b'=W.kd
   .subst z;rw[kd]at e;rw[ja,<-e]
   .rw[jg z];exact f _ _ (by rw[jg z];exact e) bw
  have oa:upd H' W.kd (.dK aa) W.wy=some (.lst (way++ts)):=by rw[jg kw.symm];exact hw
  refine⟨W.kd,oo,.dK aa,f _ _ ja kw,λo' u' z=>?_,True.intro,?_⟩
  .have z':H W.kd=some (.aY o' u'):=z;rw[kd]at z';cases z'
  have fr:Fr (gZ id .wy) Z H Z (upd H' W.kd (.dK aa)):=Fr.F5 fO rfl fin;rw[lk,take_length]at pt;refine k _ (O.but fr (Y.post b o) j4 rfl rfl (gE fr j4 (λ_ _=>j4)) (iN fr j4 j4 j4) (mC fr j4 (λ_=>j4)) (λ_ _=>⟨fO,_,oa,?_⟩)) fr (kr.F5 fin oa (by exact True.intro));have up:=uq.fr fr;have q2:Paired (aE (upd H' W.kd (.dK aa)) Z) ts (Y.ks.map λc=>(b,c.1,o)):=by
   clear oa lt hw;have gen:∀{xs:List V}{cs:List (Int×Kp)},Paired (λx (c:Int×Kp)=>∃a,x= .ref a/\H a=none/\H' a=some (.tup [gY b,.int c.1,.ref q])) xs cs->Paired (aE (upd H' W.kd (.dK aa)) Z) xs (cs.map λc=>(b,c.1,o)):=λ{xs cs} h=>by
    induction h with
    |nil=>exact .nil
    |cons a _ ih=>obtain⟨p,e,n,hp⟩:=a;refine .cons ⟨p,q,e,kr.none n,?_,up⟩ ih;rw[jg (λz=>by rw[z,kd]at n;cases n)];exact hp
   exact gen pt
  exact F0 (Paired.yf pw λ_ _=>aE.fr fr) q2
noncomputable def pN (id:Nat):Role->Prop:=λr=>r=(id,.wy)\/r=(id,.sd)\/r=(id,.sg)
theorem og {id:Nat}{p:Part}(h1:p≠.wy)(h2:p≠.sd)(h3:p≠.sg):¬pN id (id,p):=λz=>by
 rcases z with z|z|z
 .exact h1 (Prod.mk.inj z).2
 .exact h2 (Prod.mk.inj z).2
 .exact h3 (Prod.mk.inj z).2
structure Sz (Y:Wd)(a b c:Nat):Prop where
 bd:Y.bd.length<=a
 hs:∀x∈Y.bd,x.2.length<=b
 wy:Y.way.length<=c
 ks:Y.ks.length<=16
theorem Mq {k:List Int}{h:Int}:∀{is:x9}{a b:Nat},is.length<=a->(∀x∈is,x.2.length<=b)->(kg is k h).length<=a+1/\∀x∈kg is k h,x.2.length<=b+1
 |[],a,b,_,_=>⟨by show 1<=a+1;lia,λx hx=>by rw[mem_singleton.mp hx];show 1<=b+1;lia⟩
 | p::ps,a,b,h1,h2=>by
  unfold kg;split
  .refine⟨by rw[length_cons]at h1⊢;lia,λx hx=>?_⟩;rcases mem_cons.mp hx with rfl|hx
   .have:=h2 p mem_cons_self;show(p.2++[h]).length<=b+1;rw[length_append];show p.2.length+1<=b+1;lia
   .have:=h2 x (mem_cons_of_mem _ hx);lia
  .rw[length_cons]at h1;obtain⟨i1,i2⟩:=Mq (k:=k) (h:=h) (is:=ps) (a:=a-1) (b:=b) (by lia) (λx hx=>h2 x (mem_cons_of_mem _ hx));refine⟨by rw[length_cons];lia,λx hx=>?_⟩;rcases mem_cons.mp hx with rfl|hx
   .have:=h2 x mem_cons_self;lia
   .exact i2 x hx
theorem Sz.put {Y:Wd}{a b c:Nat}(z:Sz Y a b c)(h:Int)(o:O):Sz (Y.put h o).1 (a+1) (b+1) c:=by
 unfold Wd.put;split
 .exact⟨le_succ_of_le z.bd,λx hx=>le_succ_of_le (z.hs x hx),z.wy,z.ks⟩
 .obtain⟨i1,i2⟩:=Mq (k:=zl o) (h:=h) z.bd z.hs;exact⟨i1,i2,z.wy,z.ks⟩
theorem Sz.bg {Y:Wd}{a b c:Nat}(z:Sz Y a b c)(h:Int)(o:O):Sz (Y.bg h o) (a+1) (b+1) (c+16):=by
 have p:=z.put h o;unfold Wd.bg;split
 .refine⟨p.bd,p.hs,?_,p.ks⟩;show((Y.put h o).1.way++_).length<=c+16;rw[length_append,length_map];have:=p.wy;have:=p.ks;lia
 .exact⟨p.bd,p.hs,by have:=p.wy;lia,p.ks⟩
theorem Sz.mono {Y:Wd}{a b c a' b' c':Nat}(z:Sz Y a b c)(h1:a<=a')(h2:b<=b')(h3:c<=c'):Sz Y a' b' c':=⟨le_trans z.bd h1,λx hx=>le_trans (z.hs x hx) h2,le_trans z.wy h3,z.ks⟩
theorem F8 (Y:Wd)(h:Int){os:List O}{i:Nat}{o:O}(e:os[i]?=some o):Y.qm h (os.take (i+1))=(Y.qm h (os.take i)).bg h o:=by unfold Wd.qm;rw[take_snoc e,List.foldl_append];rfl
theorem Sz.qm {Y:Wd}{a b c:Nat}(z:Sz Y a b c)(h:Int){os:List O}:∀i,i<=os.length->Sz (Y.qm h (os.take i)) (a+i) (b+i) (c+16*i)
 |0,_=>z
 |i+1,hi=>by rw[F8 Y h (getElem?_eq_getElem (show i<os.length by lia))];exact((Sz.qm z h i (by lia)).bg h _).mono (by lia) (by lia) (by lia)
theorem Ms {k:List Int}:∀{is:x9},jv is k=[]\/∃x∈is,jv is k=x.2
 |[]=>.inl rfl
 | p::ps=>by
  unfold jv;split
  .exact .inr ⟨p,mem_cons_self,rfl⟩
  .rcases Ms (k:=k) (is:=ps)with h|⟨x,hx,e⟩
   .exact .inl h
   .exact .inr ⟨x,mem_cons_of_mem _ hx,e⟩
theorem Sz.hl {Y:Wd}{a b c:Nat}(z:Sz Y a b c)(k:List Int):(jv Y.bd k).length<=b:=by
 rcases Ms (k:=k) (is:=Y.bd)with h|⟨x,hx,e⟩
 .rw[h];exact zero_le _
 .rw[e];exact z.hs x hx
open Classical in
noncomputable def jS (Z : ar) (id:Nat) (aa aJ:List (List Key × V)) : ar:=λa=>if ∃ kv ∈ aJ,kv.2 = .ref a then some (id,.sg) else if ∃ kv ∈ aa,kv.2 = .ref a then none else Z a
theorem ub (T:Txt K mg t):xl P w K mg base CX0 2 t.Ew t.Ex ["self","house","orders"] (λvs H Q _=>∃Z id W Y h r xs os a b c,vs=[.ref W.x,.int h,.ref r]/\qj t H Z id W Y/\aw Z H/\H r=some (.lst xs)/\(∀ro,Z r=some ro->¬pN id ro)/\Paired (qh H Z) xs os/\Sz Y a b c/\a+os.length<=1000/\b+os.length<=1000/\c+16*os.length<=100000/\∀Z' H',qj t H' Z' id W (Y.qm h os)->Fr (pN id) Z H Z' H'->aw Z' H'->Q .aq H'):=by
 refine T.WS.cA K5 λ_ A _ s H vs Q E hr h=>?_;obtain⟨Z,id,W,Y,h,r,xs,os,a,b,c,rfl,O,kr,hx,nr,px,sz,la,lb,lc,k⟩:=h;refine⟨_,(@jd _ _ _ (ie PassesOwn.never rfl (@fE _ _ _ _ (pv 2)) (jw (i:=3) K5.nd rfl (Or.inl rfl)) (@jd _ _ _ (zh (xc (qc (qd (pv 0) rfl) T.vm T.VQ (Yk T) hr.dn T.VR .nil ju (@aB _ _ _ _ _ (pv 1) (pv 3) rfl rfl))) (@jd _ _ _ (qb (qc (pv 0) T.jl T.vc (Mp T) hr.dn T.wu .nil ju (@aB _ _ _ _ _ (zk (v:=.str "paper") rfl T.Xq.choose_spec ⟨_,rfl⟩) (pv 3) rfl rfl)))) j6)))),?_⟩;have lx:xs.length=os.length:=Paired.length px;refine⟨_,rfl,r,rfl,⟨_,af.of hx⟩,mY (K:=K) (a:=r) (xs:=xs) (λi U H'=>∃v Z',U=[some (.ref W.x),some (.int h),some (.ref r),v]/\qj t H' Z' id W (Y.qm h (os.take i))/\Fr (pN id) Z H Z' H'/\aw Z' H') ⟨none,Z,rfl,O,Fr.refl,kr⟩ (λi U H' _ ⟨_,Z',_,_,f,_⟩=>af.of (f _ _ hx nr).1) ?_ ?_⟩
 .rintro i x U H1 ex ⟨v,Z1,rfl,O1,f1,aV⟩
  obtain⟨o,eo,uo⟩:=zi px ex;have YL:=uo.fr f1;obtain⟨q,rfl,nq,hq⟩:=YL;have hi:=(List.getElem?_eq_some_iff.mp eo).1;have z1:=sz.qm h (os:=os) i (by omega);rw[F8 Y h eo];generalize Y.qm h (os.take i)=bP at O1 z1⊢;obtain⟨rb,rS,aa,Bq,sg⟩:=O1.bd;have ek:qo (cZ bP.bd) (cJ o)=jv bP.bd (zl o):=zE (zl o) bP.bd;have lk:aa.length<=1000:=by rw[Paired.length Bq.hs,cZ,length_map];have:=z1.bd;omega
  have lh:=z1.hl (zl o);refine⟨_,rfl,W.x,_,W.dx,_,_,rfl,O1.ob.1,T.jl,T.gf,FV,W.bd,W.db,_,rfl,Bq.ob,FE _ _ (by decide+kernel) (by decide+kernel),_,rfl,_,rfl,W.bd,W.db,W.S,bP.en,aa,cZ bP.bd,q,cJ o,h,rfl,Bq,hq,lk,by rw[ek];omega,λhm H2 s2=>?_,λhm aJ H2 B2 k2 F9=>?_⟩
  .rw[ek]at hm;refine⟨_,rfl,we ⟨_,Z1,rfl,?_,f1.trans (Fr.same s2),aV.same s2⟩⟩;have e:bP.bg h o=bP:=by
    unfold Wd.bg Wd.put;rw[if_pos hm];rfl
   rw[e];exact O1.fr (P:=λ_=>False) (λ_ z=>z) (Fr.same s2)
  .rw [ek]at hm;rw[ek];have Ga:∀{a:Addr},(∃kv∈aa,kv.2= .ref a)->Z1 a=some (id,.sg):=λ{a} ⟨kv,m,e⟩=>by
    obtain⟨c,ec,rc⟩:=sg kv m;rw[e]at ec;cases ec;exact rc
   have f2:Fr (pN id) Z1 H1 (jS Z1 id aa aJ) H2:=λa u e n=>by have n1:¬∃kv∈aa,kv.2= .ref a:=λz=>n _ (Ga z) (.inr (.inr rfl));have n2:NotIn aa a:=λkv m e=>n1 ⟨kv,m,e⟩;have n3:¬∃kv∈aJ,kv.2= .ref a:=λ⟨kv,m,e'⟩=>F9 a u e n2 kv m e';refine⟨k2 a u e (λz=>n _ (z ▸ rS) (.inr (.inl rfl))) n2,?_⟩;unfold jS;rw[if_neg n3,if_neg n1]
   have aW:aw (jS Z1 id aa aJ) H2:=λa ro e=>by
    unfold jS at e;split at e
    .rename_i YM;obtain⟨kv,m,ev⟩:=YM;obtain⟨j,hj,ej⟩:=mem_iff_getElem.mp m;obtain⟨pp,_,_,c,ec,hc⟩:=zi B2.hs (by rw[getElem?_eq_getElem hj,ej]);rw[ev]at ec;cases ec;exact⟨_,hc,True.intro⟩
    .split at e
     .cases e
     .rename_i n1;obtain⟨u,hu,nu⟩:=aV a ro e;by_cases z:a=W.S
      .subst z;exact⟨_,B2.sg,True.intro⟩
      .exact⟨u,k2 a u hu z (λkv m e=>n1 ⟨kv,m,e⟩),nu⟩
   have O2:qj t H2 (jS Z1 id aa aJ) id W {bP with bd:=kg bP.bd (zl o) h}:=by
    refine O1.but f2 _ (og (by intro z;cases z) (by intro z;cases z) (by intro z;cases z)) rfl rfl (gE f2 (og (by intro z;cases z) (by intro z;cases z) (by intro z;cases z)) λ_ _=>og (by intro z;cases z) (by intro z;cases z) (by intro z;cases z)) (λzF zG _=>?_) (mC f2 (og (by intro z;cases z) (by intro z;cases z) (by intro z;cases z)) λ_=>og (by intro z;cases z) (by intro z;cases z) (by intro z;cases z)) (λcz oa=>?_)
    .have e:=Ml (zl o) h bP.bd;rw[show bz (zl o)=cJ o from rfl]at e;rw[e]at B2;have nS:∀{a:Addr}{r:Role}{u:HO},Z1 a=some r->H1 a=some u->r≠(id,.sg)->jS Z1 id aa aJ a=some r:=λ{a r u} er eu n=>by
      have n1:¬∃kv∈aa,kv.2= .ref a:=λz=>n (Option.some.inj (er.symm.trans (Ga z)));have n3:¬∃kv∈aJ,kv.2= .ref a:=λ⟨kv,m,e'⟩=>F9 a u eu (λkv m e=>n1 ⟨kv,m,e⟩) kv m e';unfold jS;rw[if_neg n3,if_neg n1];exact er
     refine⟨nS rb Bq.ob (by intro z;cases z),nS rS Bq.sg (by intro z;cases z),aJ,B2,λkv m=>?_⟩;obtain⟨j,hj,ej⟩:=mem_iff_getElem.mp m;obtain⟨pp,_,_,c,ec,hc⟩:=zi B2.hs (by rw[getElem?_eq_getElem hj,ej]);refine⟨c,ec,?_⟩;unfold jS;rw[if_pos ⟨kv,m,ec⟩]
    .obtain⟨ws,h1,p1⟩:=oa;have n1:¬∃kv∈aa,kv.2= .ref W.wy:=λz=>by
      have:=Ga z;rw[cz]at this;cases this
     have n2:NotIn aa W.wy:=λkv m e=>n1 ⟨kv,m,e⟩;have n3:¬∃kv∈aJ,kv.2= .ref W.wy:=λ⟨kv,m,e'⟩=>F9 _ _ h1 n2 kv m e';refine⟨?_,ws,k2 _ _ h1 (cP cz rS (by intro z;cases z)) n2,Paired.yf p1 λ_ _=>aE.fr f2⟩;unfold jS;rw[if_neg n3,if_neg n1];exact cz
   have ev:bP.put h o=({bP with bd:=kg bP.bd (zl o) h},decide (((jv bP.bd (zl o)).length:Int)+1=bP.en)):=by unfold Wd.put;rw[if_neg hm]
   refine⟨_,rfl,bH (λz=>?_) (λz=>?_)⟩
   .have zp:=z1.put h o;rw[ev]at zp;have YN:qh H2 (jS Z1 id aa aJ) (.ref q) o:=qh.fr f2 ⟨q,rfl,nq,hq⟩;refine⟨_,rfl,W.x,W.dx,_,rfl,O2.ob.1,xi,_,rfl,_,id,W,_,false,q,o,rfl,O2,aW,YN,by show bP.way.length<=100000;have:=z1.wy;omega,zp.ks,λH3 O3 f3 df=>⟨_,_,rfl,?_,(f1.trans f2).trans (f3.mono λr hr=>.inl hr),df⟩⟩;have e:bP.bg h o=Wd.post {bP with bd:=kg bP.bd (zl o) h} false o:=by
     unfold Wd.bg;rw[ev,if_pos z]
    rw[e];exact O3
   .refine⟨_,_,rfl,?_,f1.trans f2,aW⟩;have e:bP.bg h o={bP with bd:=kg bP.bd (zl o) h}:=by
     unfold Wd.bg;rw[ev,if_neg z]
    rw[e];exact O2
 .rintro U H1 ⟨v,Z1,rfl,O1,f1,aV⟩
  rw[lx,take_length]at O1;exact k Z1 H1 O1 f1 aV
theorem tS (ks:List (Int×Kp))(h:Int)(B:Kp):(bC ks h B).length=ks.length:=length_map ..
theorem Mt {t:Ad}{H:Hp}{Z:ar}{id:Nat}{h:Int}{B:Kp}:∀{aa:List (Key×V)}{ks:List (Int×Kp)},yb t H Z id aa ks->(ks.find? λc=>decide (c.1=h)).map (·.2)=some B->∃k A dk,aO aa (.inl h)=some (.ref k)/\xh t H Z id h k A dk B:=λ{aa ks} q e=>by
 unfold yb at q;induction q with
 |nil=>cases e
 |@cons kv c aa ks a r ih=>
  obtain⟨e1,k,A,dk,e2,R⟩:=a;by_cases z:c.1=h
  .rw[find?_cons,decide_eq_true z]at e;obtain rfl:c.2=B:=Option.some.inj e;subst z;exact⟨k,A,dk,by rw[vy (by rw[e1]),e2],R⟩
  .rw[find?_cons,decide_eq_false z]at e;obtain⟨k',A',YO,v,R'⟩:=ih e;exact⟨k',A',YO,by rw[y7 (λy=>z (Sum.inl.inj (e1.symm.trans y)))];exact v,R'⟩
theorem YQ {t:Ad}{H H':Hp}{Z Z':ar}{id:Nat}{h:Int}{κ':Kp}{k:Addr}{A':Nat->Addr}{dk:Addr}(f:Fr (bq id h) Z H Z' H')(R':xh t H' Z' id h k A' dk κ'):∀{aa:List (Key×V)}{ks:List (Int×Kp)},(ks.map (·.1)).Nodup->aO aa (.inl h)=some (.ref k)->yb t H Z id aa ks->yb t H' Z' id aa (bC ks h κ'):=λ{aa ks} nd ev q=>by
 unfold yb at q;induction q with
 |nil=>exact .nil
 | @cons kv c aa ks a r ih=>
  obtain⟨e1,k0,A,YR,e2,R⟩:=a;rw[map_cons,nodup_cons]at nd;show Paired _ (kv::aa) ((if c.1=h then(h,κ')else c)::bC ks h κ');have Gb:∀{aa:List (Key×V)}{ks:List (Int×Kp)},h∉ks.map (·.1)->yb t H Z id aa ks->yb t H' Z' id aa (bC ks h κ'):=λ{aa ks} nh q=>by
   induction q with
   |nil=>exact .nil
   |cons a _ ih=>rename_i b _ _ _;rw[map_cons,mem_cons]at nh;obtain⟨x1,x2,x3,x4,x5,x6⟩:=a;have nb:¬b.1=h:=λz=>nh (.inl z.symm);show Paired _ (_::_) ((if b.1=h then(h,κ')else b)::bC _ h κ');rw[if_neg nb];exact .cons ⟨x1,x2,x3,x4,x5,x6.fr (λi ⟨j,e⟩=>nb (by cases e;rfl)) f⟩ (ih λz=>nh (.inr z))
  by_cases z:c.1=h
  .subst z;rw[if_pos rfl];rw[vy (by rw[e1])]at ev;exact .cons ⟨e1,k,A',dk,Option.some.inj ev,R'⟩ (Gb nd.1 r)
  .rw[if_neg z];refine .cons ⟨e1,k0,A,YR,e2,R.fr (λi ⟨j,e⟩=>z (by cases e;rfl)) f⟩ (ih nd.2 ?_);rw[y7 (λy=>z (Sum.inl.inj (e1.symm.trans y)))]at ev;exact ev
theorem qj.Mu {t:Ad}{H H':Hp}{Z Z':ar}{id:Nat}{W:WA}{Y:Wd}{h:Int}{κ':Kp}{k:Addr}{A':Nat->Addr}{dk:Addr}(f:Fr (bq id h) Z H Z' H')(O:qj t H Z id W Y)(nd:(Y.ks.map (·.1)).Nodup)(ek:∀aa,H W.kd=some (.dK aa)->aO aa (.inl h)=some (.ref k))(R':xh t H' Z' id h k A' dk κ'):qj t H' Z' id W {Y with ks:=bC Y.ks h κ'}:=by have no:∀{p:Part},(∀i,p≠.kp h i)->¬bq id h (id,p):=λhp ⟨i,e⟩=>hp i (Prod.mk.inj e).2;refine O.but f _ (no λ_ z=>by cases z) rfl rfl (λrk hk=>?_) (iN f (no λ_ z=>by cases z) (no λ_ z=>by cases z) (no λ_ z=>by cases z)) (mC f (no λ_ z=>by cases z) λ_=>no λ_ z=>by cases z) (FZ f (no λ_ z=>by cases z));obtain⟨aa,h1,q⟩:=hk;obtain⟨h2,r2⟩:=gg f h1 rk (no λ_ z=>by cases z);exact⟨r2,aa,h2,YQ f R' nd (ek aa h1) q⟩
theorem xj (T:Txt K mg t):xl P w K mg base CX0 2 t.Ei t.Ej ["self","house"] (λvs H Q _=>∃Z id W Y h B,vs=[.ref W.x,.int h]/\qj t H Z id W Y/\Y.keep h=some B/\∀k A dk,xh t H Z id h k A dk B->Q (.ref k) H):=by
 refine T.Wo.bj (N:=["self","house"]) λ_ A _ s H vs Q E hr h=>?_;obtain⟨Z,id,W,Y,h,B,rfl,O,e,g⟩:=h;refine⟨_,(@jb _ _ _ _ _ (zh (PW.pt (eX (yt (xc (jr (yX T) hr.dn rfl T.yT T.tD.kp T.yU .nil ju (jc (pv 1) jf)))) (fR (qF (wR (cM hr) (pv 1) (qd (pv 0) rfl)))))) zg j6) (@jd _ _ _ (j5 (wQ (cM hr) (qd (pv 0) rfl) (pv 1) (λ_ _=>rfl))))),?_⟩;obtain⟨rk,aa,hk,ks⟩:=O.kd;obtain⟨k,A',dk,ev,R⟩:=Mt ks e;refine⟨_,rfl,h,rfl,_,rfl,we ?_⟩;refine⟨_,rfl,_,rfl,W.x,_,W.dx,_,_,rfl,O.ob.1,T.jl,T.zm,tP,W.kd,some (.ref k),rfl,.inl ⟨aa,.inl h,.inl hk,rfl,ev.symm⟩,_,rfl,we ?_⟩;exact⟨_,rfl,W.x,_,W.dx,_,_,rfl,O.ob.1,T.jl,T.zm,tP,_,rfl,W.kd,.ref k,rfl,.inl ⟨aa,.inl h,.inl hk,rfl,ev.symm⟩,g k A' dk R⟩
theorem YS (T:Txt K mg t):xl P w K mg base CX0 3 t.Ek t.El ["self","house"] (λvs H Q _=>∃Z id W Y h B,vs=[.ref W.x,.int h]/\qj t H Z id W Y/\Y.keep h=some B/\B.held.length<=1000/\∀r,H r=none->Q (.ref r) (upd H r (.lst (B.held.map V.int)))):=by refine T.Wq.bj (N:=["self","house"]) λ_ A _ s H vs Q E hr h=>?_;obtain⟨Z,id,W,Y,h,B,rfl,O,e,l,g⟩:=h;refine⟨_,(@jd _ _ _ (j5 (lV yh rfl T.jP boot_list (jc (qd (qc (pv 0) T.jl T.zj (xj T) hr.dn T.zx .nil ju (jc (pv 1) jf)) rfl) jf)))),?_⟩;exact⟨_,rfl,W.x,W.dx,_,rfl,O.ob.1,xi,_,rfl,Z,id,W,Y,h,B,rfl,O,e,λk A' dk R=>⟨k,_,dk,_,_,rfl,R.ob,T.jm,T.xn,(zu A').1,A' 1,_,rfl,.inl (af.of R.he),g⟩⟩
theorem YT (T:Txt K mg t):xl P w K mg base CX0 3 t.Em t.En ["self","house"] (λvs H Q _=>∃Z id W Y h B,vs=[.ref W.x,.int h]/\qj t H Z id W Y/\Y.keep h=some B/\B.done.length<=1000/\∀r xs,H r=none->Paired (qh H Z) xs B.done->Q (.ref r) (upd H r (.lst xs))):=by refine T.Wt.bj (N:=["self","house"]) λ_ A _ s H vs Q E hr h=>?_;obtain⟨Z,id,W,Y,h,B,rfl,O,e,l,g⟩:=h;refine⟨_,(@jd _ _ _ (j5 (lV yh rfl T.jP boot_list (jc (qd (qc (pv 0) T.jl T.zj (xj T) hr.dn T.zx .nil ju (jc (pv 1) jf)) rfl) jf)))),?_⟩;refine⟨_,rfl,W.x,W.dx,_,rfl,O.ob.1,xi,_,rfl,Z,id,W,Y,h,B,rfl,O,e,λk A' dk R=>?_⟩;obtain⟨xs,hx,px⟩:=R.dn;exact⟨k,_,dk,_,_,rfl,R.ob,T.jm,T.Fx,(zu A').2.2.1,A' 3,xs,rfl,.inl (af.of hx),λr nr=>g r xs nr px⟩
theorem wg (T:Txt K mg t):xl P w K mg base CX0 3 t.gw t.kc ["self","purse"] (λvs H Q _=>∃Z id W Y p,vs=[.ref W.x,.int p]/\qj t H Z id W Y/\0<=p/\p<(Y.n:Int)/\Q .aq H):=by refine T.WI.bj (N:=["self","purse"]) λ_ A _ s H vs Q E hr h=>?_;obtain⟨Z,id,W,Y,p,rfl,O,p0,p1,g⟩:=h;refine⟨_,(@jd _ _ _ (zh (yt (xc (jr (qt T) hr.dn rfl T.qy T.qr.kp T.qw .nil ju (@bT _ _ _ _ _ _ _ (pv 1) jh (zt i8 (qd (pv 0) rfl) jh) rfl rfl rfl)))) zg j6)),?_⟩;refine⟨_,rfl,_,rfl,W.x,_,W.dx,_,_,rfl,O.ob.1,T.jl,T.Fy,Mi,_,_,rfl,rfl,p,0,(Y.n:Int)-1,rfl,_,rfl,?_⟩;rw[decide_eq_true (show 0<=p/\p<=(Y.n:Int)-1 from⟨p0,by omega⟩)];exact we g
theorem YU (T:Txt K mg t):xl P w K mg base (cY P w) 4 t.kb t.kj ["self","purse","goal"] (λvs H Q E=>∃Z id W Y p q,vs=[.ref W.x,.int p,.int q]/\qj t H Z id W Y/\(0<=p/\p<(Y.n:Int))/\(0<=q/\q<(Y.n:Int))/\q≠p/\(p∈Y.uh->∀d H',xr H H'->E (.ref t.xg) (some d) H')/\(p∉Y.uh->Q .aq H)):=by
 refine T.WJ.Um (N:=["self","purse","goal"]) λ_ A _ s H vs Q E hr h=>?_;obtain⟨Z,id,W,Y,p,q,rfl,O,hp,hq,nq,gx,g⟩:=h;refine⟨_,(@jb _ _ _ _ _ (qb (qc (pv 0) T.jl T.xw (wg T) hr.dn T.yq .nil ju (jc (pv 1) jf))) (@jb _ _ _ _ _ (qb (qc (pv 0) T.jl T.xw (wg T) hr.dn T.yq .nil ju (jc (pv 2) jf))) (@jd _ _ _ (zh (PW.pt (eX (jx wL (pv 1) (qd (pv 0) rfl) (by with_unfolding_all rfl)) (fR (jx fG (pv 2) (pv 1) (qf _))))) (@jd _ _ _ (Uz rfl T.LN T.Li (Ym T) hr.dn T.VD (jc (pv 1) jf))) j6)))),?_⟩;refine⟨_,rfl,W.x,W.dx,_,rfl,O.ob.1,xi,_,rfl,Z,id,W,Y,p,rfl,O,hp.1,hp.2,?_⟩;refine⟨_,rfl,W.x,W.dx,_,rfl,O.ob.1,xi,_,rfl,Z,id,W,Y,q,rfl,O,hq.1,hq.2,?_⟩;refine⟨_,rfl,_,rfl,W.x,_,W.dx,_,_,rfl,O.ob.1,T.jl,T.ya,FU,W.ch,_,rfl,.inl (af.of O.ch.1),rfl,w6 _,_,rfl,?_⟩;refine bH (λz=>?_) (λz=>?_)
 .rw[if_neg (by decide),y6]at z;refine br ⟨_,rfl,jO,λea mx=>⟨ea,_,rfl,ja,λd hd=>?_⟩⟩;obtain⟨g1,g2,g3,g4⟩:=Yn (Yq:=nQ ea t.xg d) (Zq:=.xd [("purse",.int p)]) mx hd;exact⟨rfl,d,g2,gx (of_decide_eq_true z) d _ g3⟩
 .rw[if_neg (by decide),y6]at z;refine⟨_,rfl,_,rfl,rfl,_,rfl,bH (λy=>?_) (λ_=>g λy=>z (decide_eq_true y))⟩;exact absurd (V.int.inj (of_decide_eq_true y)) nq
theorem wq (T:Txt K mg t):xl P w K mg base CX0 5 t.ko t.gz ["self","order"] (λvs H Q _=>∃Z id W Y q o,vs=[.ref W.x,.ref q]/\qj t H Z id W Y/\H q=some (.tup (cC o))/\xq Y.n o=true/\Q .aq H):=by refine T.WM.bj (N:=["self","order"]) λ_ A _ s H vs Q E hr h=>?_;obtain⟨Z,id,W,Y,q,o,rfl,O,hq,ho,g⟩:=h;refine⟨_,(@jd _ _ _ (zh (yt (xc (qS (LS T) hr.dn rfl T.K8 T.Fo.kp T.Vl ju (jc (pv 1) jf) (jA (qd (pv 0) rfl) oR)))) zg j6)),?_⟩;refine⟨_,rfl,_,rfl,W.x,_,W.dx,_,_,rfl,O.ob.1,T.jl,T.Fy,Mi,q,o,(Y.n:Int),rfl,hq,_,rfl,?_⟩;rw[ho];exact we g
theorem tT {K:W.Frag}{H:Hp}{Z:ar}:∀{xs:List V}{os:List O},Paired (qh H Z) xs os->jL K H xs (os.map zl):=λ{xs os} q=>by
 induction q with
 |nil=>exact .nil
 |cons a _ ih=>obtain⟨a,e,_,h⟩:=a;exact .cons ⟨a,e,ay.of h⟩ ih
theorem YV (T:Txt K mg t):xl P w K mg base CX0 3 t.Eo t.Ep ["self","house"] (λvs H Q _=>∃Z id W Y h B,vs=[.ref W.x,.int h]/\qj t H Z id W Y/\Y.keep h=some B/\B.wait.length<64/\B.wait.Nodup/\∀(r:Addr)(bN:List V)(cH:List (List Int)),H r=none->cH.Perm (B.wait.map zl)->cH.Pairwise (λa b=>HT.lexLt a b=true)->jL K H bN cH->Q (.ref r) (upd H r (.lst bN))):=by
 refine T.Ww.bj (N:=["self","house"]) λ_ A _ s H vs Q E hr h=>?_;obtain⟨Z,id,W,Y,h,B,rfl,O,e,l,nd,g⟩:=h;refine⟨_,(@jd _ _ _ (j5 (jn Kf rfl T.yW boot_sorted (jc (qd (qc (pv 0) T.jl T.zj (xj T) hr.dn T.zx .nil ju (jc (pv 1) jf)) rfl) jf)))),?_⟩;refine⟨_,rfl,W.x,W.dx,_,rfl,O.ob.1,xi,_,rfl,Z,id,W,Y,h,B,rfl,O,e,λk A' dk R=>?_⟩;obtain⟨xs,hx,px⟩:=R.wt;refine⟨k,_,dk,_,_,rfl,R.ob,T.jm,T.ze,(zu A').2.2.2.2.2.2,A' 7,xs,B.wait.map zl,rfl,af.of hx,tT px,by rw[Paired.length px];exact l,List.Pairwise.map _ (λa b dy z=>dy (pM z)) nd,λt ht z=>?_,λq bN cH nq _ p2 p3 p4=>g q bN cH nq p2 p4 p3⟩;obtain⟨o,_,rfl⟩:=mem_map.mp ht;cases z
theorem YW (T:Txt K mg t):xl P w K mg base CX0 6 t.EA t.EB ["self","order","house"] (λvs H Q _=>∃Z id W Y q o h B,vs=[.ref W.x,.ref q,.int h]/\qj t H Z id W Y/\aw Z H/\qh H Z (.ref q) o/\xq Y.n o=true/\o.p∈Y.uh/\Y.keep h=some B/\Y.way.length<=100000/\∀H',qj t H' Z id W {Y with way:=Y.way++[(true,h,o)]}->Fr (gZ id .wy) Z H Z H'->aw Z H'->Q .aq H'):=by
 refine T.WW.bj (N:=["self","order","house"]) λ_ A _ s H vs Q E hr h=>?_;obtain⟨Z,id,W,Y,q,o,h,B,rfl,O,kr,uq,ho,oc,ek,l,g⟩:=h;refine⟨_,(@jb _ _ _ _ _ (qb (qc (pv 0) T.jl T.xu (wq T) hr.dn T.yp .nil ju (jc (pv 1) jf))) (@jb _ _ _ _ _ (zh (jx rh (j7 fb (pv 1) jh (λ_ _=>rfl)) (qd (pv 0) rfl) (by with_unfolding_all rfl)) zg j6) (@jb _ _ _ _ _ (qb (qc (pv 0) T.jl T.zj (xj T) hr.dn T.zx .nil ju (jc (pv 2) jf))) (@jd _ _ _ (qb (dq PySem.F.plainAttrs_list PySem.F.slot_list_append PySem.F.type_list_append xf (qd (pv 0) rfl) (jc (@fW _ _ _ _ _ (@bT _ _ _ _ _ _ _ (zk (v:=.str "order") rfl T.Fw.choose_spec ⟨_,rfl⟩) (pv 2) (pv 1) rfl rfl rfl)) jf))))))),?_⟩;have Gd:=uq;obtain⟨_,eq,nq,hq⟩:=Gd;cases eq;refine⟨_,rfl,W.x,W.dx,_,rfl,O.ob.1,xi,_,rfl,Z,id,W,Y,q,o,rfl,O,hq,ho,?_⟩;refine⟨_,rfl,q,cC o,0,.int o.p,rfl,rfl,ay.of hq,rfl,_,rfl,W.x,_,W.dx,_,_,rfl,O.ob.1,T.jl,T.ya,FU,W.ch,_,rfl,.inl (af.of O.ch.1),rfl,w6 _,_,rfl,?_⟩;rw[if_pos rfl,y6,decide_eq_true oc];refine we ?_;refine⟨_,rfl,W.x,W.dx,_,rfl,O.ob.1,xi,_,rfl,Z,id,W,Y,h,B,rfl,O,ek,λk A' dk R=>?_⟩;obtain⟨fO,xs,hw,pw⟩:=O.wy;refine⟨_,rfl,W.x,_,W.dx,_,_,rfl,O.ob.1,T.jl,T.xa,tQ,.inl ⟨rfl,_,af.of hw⟩,_,rfl,_,rfl,kW,λp np=>?_⟩;have sp:=je (o:=.tup [.str "order",.int h,.ref q]) np;have lx:xs.length<=1000000:=by rw[Paired.length pw];omega
 refine⟨W.wy,xs,.ref p,rfl,rfl,sp _ _ hw,big lx,?_⟩;have O1:=O.fr (P:=λ_=>False) (λ_ z=>z) (Fr.same sp);have aV:=kr.same sp;have f2:Fr (gZ id .wy) Z (upd H p (.tup [.str "order",.int h,.ref q])) Z (upd (upd H p (.tup [.str "order",.int h,.ref q])) W.wy (.lst (xs++[.ref p]))):=Fr.put fO rfl;have f0:Fr (gZ id .wy) Z H Z (upd H p (.tup [.str "order",.int h,.ref q])):=Fr.same sp;refine g _ (O1.but f2 _ j4 rfl rfl (gE f2 j4 (λ_ _=>j4)) (iN f2 j4 j4 j4) (mC f2 j4 (λ_=>j4)) (λ_ _=>⟨fO,_,ja,?_⟩)) (f0.trans f2) aV.put;have mB:=kr.none np;refine j9 (Paired.yf pw λ_ _=>aE.fr (f0.trans f2)) ⟨p,q,rfl,mB,?_,uq.fr (f0.trans f2)⟩;rw[jg (FI mB fO),ja];rfl
theorem Mv {α β:Type}{F:α->β->Prop}{xs:List α}{ys:List β}{j:Nat}(h:Paired F xs ys):Paired F (xs.eraseIdx j) (ys.eraseIdx j):=zC h
structure Ge (B:Kp)(m:Nat):Prop where
 hd:B.qe.length<=m
 uc:B.az.length+B.cho.length<=m
 dw:B.done.length+B.wait.length<=m
theorem YX (T:Txt K mg t):xl P w K mg base CX0 8 t.EE t.EF ["self","at"] (λvs H Q _=>∃Z id W Y i l B a b c,vs=[.ref W.x,.int (i:Nat)]/\qj t H Z id W Y/\aw Z H/\Y.way[i]?=some l/\Y.keep l.2.1=some B/\(Y.ks.map (·.1)).Nodup/\B.Ok Y.n/\Y.n<=8/\xq Y.n l.2.2=true/\Ge B 900/\Sz Y a b c/\a+(B.take l.1 l.2.2).2.length<=1000/\b+(B.take l.1 l.2.2).2.length<=1000/\c+16*(B.take l.1 l.2.2).2.length<=100000/\∀Z' H' x,qj t H' Z' id W (Y.iM i l B)->Fr (λr=>r.1=id) Z H Z' H'->aw Z' H'->aE H' Z' x l->Q x H'):=by
 refine T.W3.cA vn λ_ A _ s H vs Q E hr h=>?_;obtain⟨Z,id,W,Y,i,l,B,a,b,c,rfl,O,kr,el,ek,nd,ah,n8,ho,hG,sz,la,lb,lc,g⟩:=h;refine⟨_,(@jb _ _ _ _ _ (zh (yt (xc (jr (qt T) hr.dn rfl T.qy T.qr.kp T.qw .nil ju (@bT _ _ _ _ _ _ _ (pv 1) jh (zt i8 (jn jt rfl T.cB boot_len (jc (qd (pv 0) rfl) jf)) jh) rfl rfl rfl)))) zg j6) (@jb _ _ _ _ _ (qa (i:=2) vn.nd rfl (Or.inl rfl) (dq PySem.F.plainAttrs_list PySem.F.slot_list_pop PySem.F.type_list_pop QH (qd (pv 0) rfl) (jc (pv 1) jf))) (@jb _ _ _ _ _ (dY (pv 2) (lS rfl (j8 (jw (i:=3) vn.nd rfl (Or.inl rfl)) (j8 (jw (i:=4) vn.nd rfl (Or.inl rfl)) (j8 (jw (i:=5) vn.nd rfl (Or.inl rfl)) lR))))) (@jb _ _ _ _ _ (qa (i:=6) vn.nd rfl (Or.inl rfl) (wQ (cM hr) (qd (pv 0) rfl) (pv 4) (λ_ _=>rfl))) (@jb _ _ _ _ _ (zh (jx fG (pv 3) (zk (v:=.str "order") rfl T.Fw.choose_spec ⟨_,rfl⟩) (qf _)) (@jd _ _ _ (qb (qc (pv 0) T.jl T.y0 (ub T) hr.dn T.vk .nil ju (@aB _ _ _ _ _ (pv 4) (qc (pv 6) T.jm T.We (YE T) hr.dn T.Wf .nil ju (jc (pv 5) jf)) rfl rfl)))) (@jd _ _ _ (qb (qc (pv 0) T.jl T.y0 (ub T) hr.dn T.vk .nil ju (@aB _ _ _ _ _ (pv 4) (qc (pv 6) T.jm T.Wh (YF T) hr.dn T.Wi .nil ju (jc (pv 5) jf)) rfl rfl))))) (@jd _ _ _ (j5 (pv 2)))))))),?_⟩;obtain⟨fO,xs,hw,pw⟩:=O.wy;have lx:xs.length=Y.way.length:=Paired.length pw;have hi:=(List.getElem?_eq_some_iff.mp el).1;have wl:=sz.wy;refine⟨_,rfl,_,rfl,W.x,_,W.dx,_,_,rfl,O.ob.1,T.jl,T.xa,tQ,W.wy,xs,rfl,.inl (af.of hw),_,_,rfl,rfl,(i:Int),0,(xs.length:Int)-1,rfl,_,rfl,?_⟩;rw[decide_eq_true (show 0<=(i:Int)/\(i:Int)<=(xs.length:Int)-1 by omega)];refine we ?_;obtain⟨x,ex,ux⟩:=sO pw el;refine⟨_,rfl,W.x,_,W.dx,_,_,rfl,O.ob.1,T.jl,T.xa,tQ,.inl ⟨rfl,_,af.of hw⟩,_,rfl,W.wy,xs,(i:Int),i,x,rfl,rfl,hw,by omega,by omega,?_,ex,?_⟩
 .unfold seqIndex?;simp;omega
 have f1:Fr (gZ id .wy) Z H Z (upd H W.wy (.lst (xs.eraseIdx i))):=Fr.put fO rfl;have O1:qj t (upd H W.wy (.lst (xs.eraseIdx i))) Z id W {Y with way:=Y.way.eraseIdx i}:=O.but f1 _ j4 rfl rfl (gE f1 j4 (λ_ _=>j4)) (iN f1 j4 j4 j4) (mC f1 j4 (λ_=>j4)) (λ_ _=>⟨fO,_,ja,Mv (Paired.yf pw λ_ _=>aE.fr f1)⟩);have aV:=kr.put (a:=W.wy) (o:=.lst (xs.eraseIdx i));have Mw:=ux.fr f1;generalize upd H W.wy (.lst (xs.eraseIdx i))=H1 at f1 O1 aV Mw;obtain⟨YY,q,rfl,nl,hl,uq⟩:=Mw;refine⟨_,rfl,YY,_,rfl,ay.of hl,rfl,_,_,rfl,_,_,rfl,_,_,rfl,rfl,?_⟩;obtain⟨rk,aa,hk,ks⟩:=O1.kd;obtain⟨k,A',dk,ev,R⟩:=Mt ks ek;refine⟨_,rfl,W.x,_,W.dx,_,_,rfl,O1.ob.1,T.jl,T.zm,tP,_,rfl,W.kd,.ref k,rfl,.inl ⟨aa,.inl l.2.1,.inl hk,rfl,ev.symm⟩,?_⟩;obtain⟨wb,h,o⟩:=l;cases wb with
 |true=>
  refine⟨_,rfl,rfl,_,rfl,br ?_⟩;refine⟨_,rfl,W.x,W.dx,_,rfl,O1.ob.1,xi,_,rfl,_,rfl,k,dk,_,rfl,R.ob,fu A',_,rfl,Z,id,h,k,A',dk,B,Y.n,q,o,rfl,R,uq,ah,n8,ho,hG.hd,hG.uc,hG.dw,aV,λZ2 H2 A2 r ys R2 f2 aW rr iQ pr=>?_⟩;have O2:=O1.Mu f2 nd (λaJ jR=>by rw[hk]at jR;cases jR;exact ev) R2;have z2:Sz {{Y with way:=Y.way.eraseIdx i}with ks:=bC Y.ks h (Kp.gX B o).1} a b c:=⟨sz.bd,sz.hs,le_trans (length_eraseIdx_le _ _) sz.wy,by show(bC _ _ _).length<=16;rw[tS];exact sz.ks⟩;refine⟨Z2,id,W,_,h,r,ys,(Kp.gX B o).2,a,b,c,rfl,O2,aW,iQ,λro e=>?_,pr,z2,la,lb,lc,λZ3 H3 O3 f3 df=>?_⟩
  .rw[rr]at e;cases e;exact og (by intro z;cases z) (by intro z;cases z) (by intro z;cases z)
  .have fr:Fr (λr=>r.1=id) Z H Z3 H3:=((f1.mono λr hr=>by rw[hr]).trans (f2.mono λr ⟨j,hr⟩=>by rw[hr])).trans (f3.mono λr hr=>by rcases hr with hr|hr|hr<;>rw[hr]);exact⟨_,rfl,g Z3 H3 _ O3 fr df (aE.fr fr ux)⟩
 |false=>
  refine⟨_,rfl,rfl,_,rfl,we ?_⟩;refine⟨_,rfl,W.x,W.dx,_,rfl,O1.ob.1,xi,_,rfl,_,rfl,k,dk,_,rfl,R.ob,fu A',_,rfl,Z,id,h,k,A',dk,B,Y.n,q,o,rfl,R,uq,ah,n8,ho,hG.hd,hG.uc,hG.dw,aV,λZ2 H2 A2 r ys R2 f2 aW rr iQ pr=>?_⟩;have O2:=O1.Mu f2 nd (λaJ jR=>by rw[hk]at jR;cases jR;exact ev) R2;have z2:Sz {{Y with way:=Y.way.eraseIdx i}with ks:=bC Y.ks h (Kp.eD B o).1} a b c:=⟨sz.bd,sz.hs,le_trans (length_eraseIdx_le _ _) sz.wy,by show(bC _ _ _).length<=16;rw[tS];exact sz.ks⟩;refine⟨Z2,id,W,_,h,r,ys,(Kp.eD B o).2,a,b,c,rfl,O2,aW,iQ,λro e=>?_,pr,z2,la,lb,lc,λZ3 H3 O3 f3 df=>?_⟩
  .rw[rr]at e;cases e;exact og (by intro z;cases z) (by intro z;cases z) (by intro z;cases z)
  .have fr:Fr (λr=>r.1=id) Z H Z3 H3:=((f1.mono λr hr=>by rw[hr]).trans (f2.mono λr ⟨j,hr⟩=>by rw[hr])).trans (f3.mono λr hr=>by rcases hr with hr|hr|hr<;>rw[hr]);exact⟨_,rfl,g Z3 H3 _ O3 fr df (aE.fr fr ux)⟩
noncomputable def Kp.pO (B:Kp)(p:Int)(os:List O):Int:=gI B.held p-((os.filter λo=>!B.past o).map λo=>o.m).sum
theorem YZ (T:Txt K mg t):xl P w K mg base CX0 2 t.D8 t.D9 ["self","purse","orders"] (λvs H Q _=>∃Z id h k A dk B n p r xs os,vs=[.ref k,.int p,.ref r]/\xh t H Z id h k A dk B/\B.Ok n/\0<=p/\p<(n:Int)/\H r=some (.lst xs)/\Paired (qh H Z) xs os/\(∀o∈os,xq (n:Nat) o=true)/\os.length<=1000/\∀H',xr H H'->Q (.int (B.pO p os)) H'):=by
 refine T.V4.bj (N:=["self","purse","orders"]) λ_ A _ s H vs Q E hr h=>?_;obtain⟨Z,id,h,k,A',dk,B,n,p,r,xs,os,rfl,R,ah,p0,p1,hx,px,ho,ll,g⟩:=h;refine⟨_,(@jd _ _ _ (j5 (zt i8 (j7 jo (qd (pv 0) rfl) (pv 1) (λ_ _=>rfl)) (jn (JN rfl) rfl T.LR boot_sum (jc (nG (N':=["order","self"]) (ix:=[none,some 0]) (y8 (by kernel_rfl)) rfl (@fE _ _ _ _ (pv 2)) (λ_ _ _ _=>(jw (i:=0) UZ rfl (Or.inl rfl) (.inr rfl))) (λ_ _ _ _=>(rJ (yt (xc (qc (pv 1) T.jm T.vq (FJ T) hr.dn T.Fs .nil ju (jc (pv 0) jf)))))) (λ_ _ _ _=>(j7 (so (K:=K) rfl) (pv 0) jh (λ_ _=>rfl)))) jf))))),?_⟩;have e:=zA (xs:=B.held) p0 (by rw[ah.h];exact p1);refine⟨_,rfl,k,_,dk,_,_,rfl,R.ob,T.jm,T.xn,(zu A').1,_,rfl,A' 1,_,p,.int (gI B.held p),rfl,rfl,af.of R.he,fN p0 (by rw[getElem?_map,e];rfl),?_⟩;refine⟨_,rfl,r,rfl,⟨_,af.of hx⟩,nI (K:=K) (a:=r) (xs:=xs) (λi ys U H'=>∃v,U=[v,some (.ref k)]/\H'=H/\ys=(((os.take i).filter λo=>!B.past o).map λo=>o.m).map V.int) ⟨none,rfl,rfl,rfl⟩ ?_ ?_ ?_⟩
 .rintro i ys U H' hi ⟨v,rfl,rfl,rfl⟩
  refine⟨af.of hx,pI ?_⟩;rw[length_map,length_map];refine le_trans (length_filter_le _ _) ?_;rw[length_take];omega
 .rintro i x ys U H' ex ⟨v,rfl,rfl,rfl⟩
  obtain⟨o,eo,uo⟩:=zi px ex;obtain⟨q,rfl,hq⟩:=uo.ref;have om:o∈os:=mem_of_getElem? eo;refine⟨_,rfl,k,dk,_,rfl,R.ob,fu A',_,rfl,Z,id,h,k,A',dk,B,n,q,o,rfl,R,hq,ho o om,ah.x,_,rfl,?_⟩;rw[take_snoc eo,filter_append,map_append,map_append];cases hp:B.past o with
  |true=>refine we ⟨_,rfl,rfl,?_⟩;simp[hp]
  |false=>refine br ⟨_,rfl,q,cC o,3,.int o.m,rfl,rfl,ay.of hq,rfl,_,rfl,rfl,?_⟩;simp[hp]
 .rintro ys U H' ⟨v,rfl,rfl,rfl⟩ l nl
  rw[Paired.length px,take_length];refine⟨l,_,rfl,af.of ja,_,_,rfl,rfl,g _ (je nl)⟩
noncomputable def Wd.carried (Y:Wd)(o:O):Bool:=decide (Y.en<=((jv Y.bd (zl o)).length:Int))
theorem Za {ns:List Int}{M:Int}(h1:M∈ns)(h2:∀a∈ns,a<=M):ns.max?=some M:=List.max?_eq_some_iff.mpr ⟨h1,h2⟩
noncomputable def Wd.asks (Y:Wd)(o:O)(row:List O):Wd:=Wd.post {Y with asked:=Y.asked.set o.p.toNat (row++[o])} true o
theorem Zb {a:Addr}{o:Obj}{aa:List (Key×V)}{g:TG}{ti:TT}{te:TE}{U0:St}{H0:Hp}{Q:VK}(Pv:Nat->List V->St->Hp->Prop)(h0:Pv 0 [] U0 H0)(hl:∀i ys U H,i<=aa.length->Pv i ys U H->H a=some (.aY o (.dK aa))/\ys.length<=sizeLine)(hs:∀i kv ys U H,aa[i]?=some kv->Pv i ys U H->g kv.2 U H λU2 H2=>ti U2 H2 λc H3=>if c=true then te U2 H3 λy H4=>Pv (i+1) (ys++[y]) U2 H4 else Pv (i+1) ys U2 H3)(hd:∀ys U H,Pv aa.length ys U H->∀p,H p=none->Q (.ref p) (upd H p (.lst ys))):∃W:Nat->Nat->List V->St->Hp->Prop,(∃m,W 0 m [] U0 H0)/\∀i m ys U H,W i m ys U H->ys.length<=sizeLine/\(((sf a o aa).stop i H/\wX Q ys H)\/((sf a o aa).go i H/\∃N:List V->St->Hp->Prop,(∀cX U' H',N cX U' H'->∃m',m'<m/\W (i+1) m' cX U' H')/\∀x H',(sf a o aa).fD i H x H'->g x U H' λU2 H2=>ti U2 H2 λb H3=>if b=true then te U2 H3 λy H4=>N (ys++[y]) U2 H4 else N ys U2 H3)):=by
 refine⟨λi m ys U H=>m=aa.length-i/\i<=aa.length/\Pv i ys U H,⟨aa.length,by simp,zero_le _,h0⟩,?_⟩
 rintro i m ys U H ⟨rfl,hi,p⟩
 obtain⟨q,hz⟩:=hl i ys U H hi p;refine⟨hz,?_⟩;by_cases aQ:i<aa.length
 .refine .inr ⟨⟨aQ,q⟩,Pv (i+1),λcX U' H' p'=>⟨aa.length-(i+1),by lia,rfl,aQ,p'⟩,λx H' y=>?_⟩;obtain⟨e,kv,ek,ex⟩:=y;subst e ex;exact hs i kv ys U _ ek p
 .have e:i=aa.length:=by lia
  subst e;exact .inl ⟨⟨le_refl _,q⟩,hd ys U H p⟩
theorem Zc {H:Hp}{Z:ar}{xs:List V}{os:List O}{o:O}(p:Paired (qh H Z) xs os)(e:os.getLast?=some o):∃x,il xs (-1)=some x/\qh H Z x o:=by rw[List.getLast?_eq_getElem?]at e;obtain⟨x,ex,u⟩:=sO p e;have l:=Paired.length p;have lt:=(List.getElem?_eq_some_iff.mp e).1;refine⟨x,?_,u⟩;unfold il lW;rw[if_neg (by decide),if_pos (by lia)];show xs[(-1+(xs.length:Int)).toNat]?=some x;rw[show(-1+(xs.length:Int)).toNat=os.length-1 by lia];exact ex
structure Wd.Ok (Y:Wd):Prop where
 n8:Y.n<=8
 al:Y.asked.length=Y.n
 ao:∀row∈Y.asked,(∀o∈row,xq Y.n o=true)
 ks:∀c∈Y.ks,c.2.Ok Y.n
 nd:(Y.ks.map (·.1)).Nodup
 k0:0<Y.ks.length
 k1:Y.ks.length<=16
noncomputable def Zd (t:Ad):Sp:=λvs H Q E=>∃Z id W Y p g m row,vs=[.ref W.x,.int p,.int g,.int m]/\qj t H Z id W Y/\aw Z H/\Y.Ok/\(0<=p/\p<(Y.n:Int))/\(0<=g/\g<(Y.n:Int))/\g≠p/\(1<=m/\m<=1000)/\Y.asked[p.toNat]?=some row/\row.length<=90/\Y.way.length<=90000/\(p∈Y.uh->∀d H',xr H H'->E (.ref t.xg) (some d) H')/\(∀o,row.getLast?=some o->Y.carried o=false->∀H',xr H H'->E (.ref t.uv) none H')/\((∀o,row.getLast?=some o->Y.carried o=true)->∀M,(Y.ks.map λc=>c.2.pO p row).max?=some M->(M<m->∀H',xr H H'->E (.ref t.vf) none H')/\(m<=M->p∉Y.uh->∀H' q,qj t H' Z id W (Y.asks ⟨p,row.length,g,m⟩ row)->Fr (λr=>r.1=id) Z H Z H'->aw Z H'->qh H' Z (.ref q) ⟨p,row.length,g,m⟩->Q (.ref q) H'))
set_option maxHeartbeats 0 in
theorem Ze (T:Txt K mg t) : xl P w K mg base (cY P w) 6 t.Ey t.Ez ["self","purse","goal","much"] (Zd t):=by
 refine T.WT.Ul Du λ_ A _ s H vs Q E hr h=>?_
 obtain ⟨Z,id,W,Y,p,g,m,row,rfl,O,kr,ah,hp,hg,ng,hm,dh,Gf,tU,e0,e1,e2⟩:=h
 refine ⟨_,(@jb _ _ _ _ _ (qb (qc (pv 0) T.jl T.WK (YU T) hr.dn T.WL .nil Uk (@aB _ _ _ _ _ (pv 1) (pv 2) rfl rfl)))
  (@jb _ _ _ _ _ (zh (yt (xc (jr (qt T) hr.dn rfl T.qy T.qr.kp T.qw .nil ju (@bT _ _ _ _ _ _ _ (pv 3) jh (zk (v:=.int 1000) rfl T.LJ.choose_spec ⟨_,rfl⟩) rfl rfl rfl)))) zg j6)
  (@jb _ _ _ _ _ (qa (i:=4) Du.nd rfl (Or.inr rfl) (j7 jo (qd (pv 0) rfl) (pv 1) (λ_ _=>rfl)))
  (@jb _ _ _ _ _ (zh (PW.pt (eX (jx qQ (jn jt rfl T.cB boot_len (jc (pv 4) jf)) (zk (v:=.int 99) rfl T.LK.choose_spec ⟨_,rfl⟩) (qf _)) (fR (PW.pt (hZ (PL (pv 4) (λ_=>rfl)) (kD (yt (xc (qc (qd (pv 0) rfl) T.vm T.VN (Yj T) hr.dn T.VO .nil ju (jc (j7 jo (pv 4) (Po Pw jh) (λ_ _=>rfl)) jf)))))))))) (@jd _ _ _ (Ky rfl T.LP T.XW (jc wd jf))) j6)
  (@jb _ _ _ _ _ (zh (jx qQ (pv 3) (jn (UL rfl) rfl T.X3 boot_max (jc (SE (nG (N':=["keeper","purse","asked"]) (ix:=[none,some 1,some 4]) (y8 (by kernel_rfl)) rfl (SO (QD PySem.F.plainAttrs_dict PySem.F.slot_dict_values PySem.F.type_dict_values SK (qd (pv 0) rfl))) (λ_ _ _ _=>(jw (i:=0) U5 rfl (Or.inl rfl) (.inr rfl))) (λ_ _ _ _=>oY) (λ_ _ _ _=>(qc (pv 0) T.jm T.V5 (YZ T) hr.dn T.V6 .nil ju (@aB _ _ _ _ _ (pv 1) (pv 2) rfl rfl))))) jf)) (qf _)) (@jd _ _ _ (Ky rfl T.LO T.XR (jc wd jf))) j6)
  (@jb _ _ _ _ _ (@qa _ _ 5 _ _ _ _ Du.nd rfl (Or.inl rfl) (@fW _ _ _ _ _ (@Di _ _ _ _ _ _ _ _ _ (pv 1) (jn jt rfl T.cB boot_len (jc (pv 4) jf)) (pv 2) (pv 3) rfl rfl rfl rfl)) (by rfl) (by first | exact .inl rfl | exact .inr rfl))
  (@jb _ _ _ _ _ (qb (dq PySem.F.plainAttrs_list PySem.F.slot_list_append PySem.F.type_list_append xf (pv 4) (jc (pv 5) jf)))
  (@jb _ _ _ _ _ (qb (qc (pv 0) T.jl T.vc (Mp T) hr.dn T.wu .nil ju (@aB _ _ _ _ _ (zk (v:=.str "order") rfl T.Fw.choose_spec ⟨_,rfl⟩) (pv 5) rfl rfl)))
  (@jd _ _ _ (j5 (pv 5))))))))))),?_⟩
 obtain ⟨ra,rs,ha,eF⟩:=O.ak
 obtain ⟨r,er⟩ : ∃ r,rs[p.toNat]? = some r:=⟨_,getElem?_eq_getElem (by rw [eF.1]; exact (List.getElem?_eq_some_iff.mp dh).1)⟩
 obtain ⟨rr,xs,fP,px⟩:=eF.2 _ _ _ er dh
 obtain ⟨rk,aa,Mx,My⟩:=O.kd
 have lk:aa.length = Y.ks.length:=Paired.length My
 have lx:xs.length = row.length:=Paired.length px
 refine gd λN hN=>⟨_,rfl,W.x,W.dx,_,rfl,O.ob.1,xi,_,rfl,_,rfl,Z,id,W,Y,p,g,rfl,O,hp,hg,ng,e0,λnc=>?_⟩
 refine hN _ _ (gd λN hN=>⟨_,rfl,m,1,1000,rfl,_,rfl,?_⟩)
 rw [decide_eq_true hm]
 refine we ?_
 refine hN _ _ (gd λN hN=>⟨_,rfl,W.x,_,W.dx,_,_,rfl,O.ob.1,T.jl,T.Fz,Mj,_,rfl,W.ak,_,p,.ref r,rfl,rfl,af.of ha,fN hp.1 (by rw [getElem?_map,er]; rfl),?_⟩)
 refine hN [some (.ref W.x),some (.int p),some (.int g),some (.int m),some (.ref r),none] _ (gd λN hN=>⟨_,rfl,r,xs,rfl,.inl (af.of fP),_,_,rfl,rfl,_,rfl,bH (λz=>absurd (of_decide_eq_true z) (by show ¬ (99:Int) < (xs.length:Int); omega)) (λ_=>?_)⟩)
 refine' (λkey=>_:(∀ HC,xr H HC -> (∀ o,row.getLast? = some o -> Y.carried o = true) -> (_:Hp -> Prop) HC) -> _) _
 rotate_left
 .cases eG:row.getLast?
  case some o=>
   obtain ⟨x,ex,ux⟩:=Zc px eG
   have x0:(!xs.isEmpty) = true:=by
    cases xs with
    | nil=>cases ex
    | cons _ _=>rfl
   refine ⟨_,rfl,true,.inl ⟨_,af.of fP,x0.symm⟩,br ?_⟩
   obtain ⟨q0,rfl,lg⟩:=ux.ref
   obtain ⟨rb,rS,tR,Bq,sg⟩:=O.bd
   refine ⟨_,rfl,W.x,_,W.dx,_,_,rfl,O.ob.1,T.jl,T.gf,FV,W.bd,W.db,_,rfl,Bq.ob,FE _ _ (by decide +kernel) (by decide +kernel),_,rfl,_,rfl,r,xs,-1,.ref q0,rfl,rfl,af.of fP,ex,W.bd,W.db,W.S,Y.en,tR,cZ Y.bd,q0,cJ o,rfl,Bq.rd,lg,λHC jT=>⟨_,rfl,?_⟩⟩
   have ec:decide (Y.en <= ((qo (cZ Y.bd) (cJ o)).length:Int)) = Y.carried o:=by
    unfold Wd.carried
    rw [show qo (cZ Y.bd) (cJ o) = jv Y.bd (zl o) from zE (zl o) Y.bd]
   rw [ec]
   cases hc : Y.carried o with
   | false=>exact br ⟨jO,e1 o eG hc _ jT⟩
   | true=>
    refine we ?_
    have iR : ∀ o',row.getLast? = some o' -> Y.carried o' = true:=λo' e=>by rw [eG] at e; cases e; exact hc
    exact key HC jT iR
  case none=>
   have e0:row = []:=List.getLast?_eq_none_iff.mp eG
   have x0:xs = []:=List.length_eq_zero_iff.mp (by rw [lx,e0]; rfl)
   refine ⟨_,rfl,false,.inl ⟨_,af.of fP,by rw [x0]; rfl⟩,we ?_⟩
   have iR : ∀ o,row.getLast? = some o -> Y.carried o = true:=λo e=>by rw [eG] at e; cases e
   exact key H (xr.refl _) iR
 .rintro HC jT iR
  have OC:=O.fr (P:=λ_=>False) (λ_ z=>z) (Fr.same jT)
  have kd:=jT _ _ Mx
  have Zf:yb t HC Z id aa Y.ks:=yb.fr (P:=λ_=>False) (Fr.same jT) (λ_ _ z=>z) My
  have Zg:=jT _ _ fP
  have Zh:Paired (qh HC Z) xs row:=Paired.yf px λ_ _=>qh.fr (P:=λ_=>False) (Fr.same jT)
  refine hN _ _ (gd λN hN=>⟨_,rfl,_,rfl,W.x,_,W.dx,_,_,rfl,OC.ob.1,T.jl,T.zm,tP,.inr (.inr (.inl ⟨rfl,.inl ⟨_,kd⟩⟩)),W.kd,aa,rfl,rfl,kd,λvw Zi=>?_⟩)
  have sv:=je (o:=jJ vw W.kd) Zi
  have zI:=sv _ _ kd
  have Mz:yb t (upd HC vw (jJ vw W.kd)) Z id aa Y.ks:=yb.fr (P:=λ_=>False) (Fr.same sv) (λ_ _ z=>z) Zf
  have kZ:=sv _ _ Zg
  have tV:Paired (qh (upd HC vw (jJ vw W.kd)) Z) xs row:=Paired.yf Zh λ_ _=>qh.fr (P:=λ_=>False) (Fr.same sv)
  have gv:upd HC vw (jJ vw W.kd) vw = some (jJ vw W.kd):=ja
  generalize upd HC vw (jJ vw W.kd) = H1 at sv zI Mz gv kZ tV
  refine ⟨vw,W.kd,aa,rfl,gv,zI,λoo=>Zb (λi' ys U H'=>∃ v0,U = [v0,some (.int p),some (.ref r)] /\ xr (upd H1 W.kd (.aY oo (.dK aa))) H' /\ ys = ((Y.ks.take i').map λc=>c.2.pO p row).map V.int) ⟨none,rfl,xr.refl _,rfl⟩ ?_ ?_ ?_⟩
  .rintro i' ys U H' hi ⟨v0,rfl,sm,rfl⟩
   refine ⟨sm _ _ ja,pI ?_⟩
   rw [length_map,length_map,length_take]
   have:=ah.k1
   omega
  .rintro i' kv ys U H' ek ⟨v0,rfl,sm,rfl⟩
   obtain ⟨c,ec,e1,kk,A',dk,e2,R⟩:=zi Mz ek
   have cm:c ∈ Y.ks:=mem_of_getElem? ec
   rw [e2]
   have fz:Fr (gZ id .kd) Z H1 Z H':=(Fr.put rk rfl:Fr (gZ id .kd) Z H1 Z (upd H1 W.kd (.aY oo (.dK aa)))).trans (Fr.same sm)
   have R':=R.fr (λf=>j4) fz
   have iQ:=(gg fz kZ rr j4).1
   have Zj:Paired (qh H' Z) xs row:=Paired.yf tV λ_ _=>qh.fr fz
   dsimp only [fC,rH]
   rw [if_pos rfl]
   refine ⟨_,rfl,kk,dk,_,rfl,R'.ob,fu A',_,rfl,_,rfl,Z,id,c.1,kk,A',dk,c.2,Y.n,p,r,xs,row,rfl,R',ah.ks c cm,hp.1,hp.2,iQ,Zj,ah.ao row (mem_of_getElem? dh),by omega,λpJ bQ=>⟨_,rfl,sm.trans bQ,?_⟩⟩
   rw [take_snoc ec,map_append,map_append]
   rfl
  .rintro ys U H' ⟨v0,rfl,sm,rfl⟩ L nL
   rw [lk,take_length]
   have MA:=sm _ _ (ja (H:=H1) (a:=W.kd) (o:=.aY oo (.dK aa)))
   have LD:L ≠ W.kd:=(jj MA nL).symm
   have SF:xr HC (upd (upd H' L (.lst ((Y.ks.map λc=>c.2.pO p row).map V.int))) W.kd (.dK aa)):=λc u hc=>by
    have h1:=sv _ _ hc
    by_cases z:c = W.kd
    .subst z
     rw [zI] at h1
     rw [ja,h1]
    .have i3:H' c = some u:=sm _ _ (by rw [jg z]; exact h1)
     rw [jg z,jg (jj i3 nL)]
     exact i3
   refine ⟨W.kd,oo,.dK aa,(by rw [jg LD.symm]; exact MA),λo' u' z=>?_,True.intro,L,Y.ks.map λc=>c.2.pO p row,rfl,af.of (by rw [jg LD]; exact ja),(by rw [length_map]; exact ah.k0),λM hM hA=>?_⟩
   .have z':H W.kd = some (.aY o' u'):=z
    rw [Mx] at z'
    cases z'
   obtain ⟨eM,qM⟩:=e2 iR M (Za hM hA)
   refine ⟨_,_,rfl,rfl,_,rfl,bH (λz=>?_) (λz=>?_)⟩
   .exact ⟨jO,eM (of_decide_eq_true z) _ (jT.trans SF)⟩
   .have z' : m <= M:=by
     have : ¬ M < m:=λy=>z (decide_eq_true y)
     omega
    have sG:=jT.trans SF
    generalize upd (upd H' L (.lst ((Y.ks.map λc=>c.2.pO p row).map V.int))) W.kd (.dK aa) = G at SF sG
    have OG:=O.fr (P:=λ_=>False) (λ_ z=>z) (Fr.same sG)
    have MB:=kr.same sG
    have MC:=sG _ _ fP
    have Zk:Paired (qh G Z) xs row:=Paired.yf px λ_ _=>qh.fr (P:=λ_=>False) (Fr.same sG)
    refine hN _ _ (gd λN hN=>⟨_,rfl,_,rfl,r,xs,rfl,.inl (af.of MC),_,rfl,_,rfl,Dh,λq nq=>?_⟩)
    have eo : [V.int p,.int xs.length,.int g,.int m] = cC ⟨p,row.length,g,m⟩:=by rw [lx]; rfl
    rw [eo]
    have s1:=je (o:=.tup (cC ⟨p,row.length,g,m⟩)) nq
    have O1:=OG.fr (P:=λ_=>False) (λ_ z=>z) (Fr.same s1)
    have aV:=MB.same s1
    have oh:=s1 _ _ MC
    have tW:Paired (qh (upd G q (.tup (cC ⟨p,row.length,g,m⟩))) Z) xs row:=Paired.yf Zk λ_ _=>qh.fr (P:=λ_=>False) (Fr.same s1)
    have gD:qh (upd G q (.tup (cC ⟨p,row.length,g,m⟩))) Z (.ref q) ⟨p,row.length,g,m⟩:=⟨q,rfl,MB.none nq,ja⟩
    dsimp only
    generalize upd G q (.tup (cC ⟨p,row.length,g,m⟩)) = G1 at s1 O1 aV oh tW gD
    refine hN _ _ (gd λN hN=>⟨_,rfl,.inl ⟨rfl,_,af.of oh⟩,_,rfl,r,xs,.ref q,rfl,rfl,oh,qi (by omega),?_⟩)
    have f2:Fr (gZ id (.row p.toNat)) Z G1 Z (upd G1 r (.lst (xs ++ [.ref q]))):=Fr.put rr rfl
    have O2 : qj t (upd G1 r (.lst (xs ++ [.ref q]))) Z id W { Y with asked:=Y.asked.set p.toNat (row ++ [⟨p,row.length,g,m⟩]) }:=by
     refine O1.but f2 _ j4 rfl rfl (gE f2 j4 (λ_ _=>j4)) (iN f2 j4 j4 j4) (λFY FX=>?_) (FZ f2 j4)
     obtain ⟨zJ,h1,h2⟩:=FX
     have Zl:zJ = rs:=by
      have h3:=s1 _ _ (sG _ _ ha)
      rw [h1] at h3
      have h4:=HO.lst.inj (Option.some.inj h3)
      exact (List.map_inj_right (λa b e=>V.ref.inj e)).mp h4
     subst Zl
     obtain ⟨h5,r5⟩:=gg f2 h1 FY j4
     refine ⟨r5,zJ,h5,?_,λi r' os Gg fK=>?_⟩
     .rw [length_set]
      exact h2.1
     .by_cases z:i = p.toNat
      .subst z
       have:r' = r:=by
        rw [er] at Gg
        exact (Option.some.inj Gg).symm
       subst this
       have lt:=(List.getElem?_eq_some_iff.mp dh).1
       rw [getElem?_set_self lt] at fK
       cases fK
       exact ⟨rr,_,ja,j9 (Paired.yf tW λ_ _=>qh.fr f2) (gD.fr f2)⟩
      .rw [getElem?_set_ne (λy=>z y.symm)] at fK
       obtain ⟨q1,q2,q3,q4⟩:=h2.2 i r' os Gg fK
       obtain ⟨q5,q6⟩:=gg f2 q3 q1 (j4 (by intro y; cases y; exact z rfl))
       exact ⟨q6,q2,q5,Paired.yf q4 λ_ _=>qh.fr f2⟩
    have aW:=aV.put (a:=r) (o:=.lst (xs ++ [.ref q]))
    have lj:=gD.fr f2
    dsimp only
    generalize upd G1 r (.lst (xs ++ [.ref q])) = G2 at f2 O2 aW lj
    refine hN _ _ (gd λN hN=>⟨_,rfl,W.x,W.dx,_,rfl,O2.ob.1,xi,_,rfl,Z,id,W,_,true,q,⟨p,row.length,g,m⟩,rfl,O2,aW,lj,by show Y.way.length <= 100000; omega,ah.k1,λG3 O3 f3 df=>hN _ _ ⟨_,rfl,?_⟩⟩)
    have fr:Fr (λr=>r.1 = id) Z H Z G3:=((Fr.same (sG.trans s1)).trans (f2.mono λr hr=>by rw [hr])).trans (f3.mono λr hr=>by rw [hr])
    exact qM z' nc G3 q O3 fr df (lj.fr f3)
noncomputable def yx (K:W.Frag)(H:Hp)(a:Addr)(ks:List Int):Prop:=H a=some (.lst (ks.map V.int))\/(ks=[]/\ay K H a [])
noncomputable def Zm (K:W.Frag):Sp:=λvs H Q _=>∃a b ks,vs=[.ref a,.int b]/\yx K H a ks/\ks.Pairwise (·<·)/\(∀k∈ks,0<=k/\k<b)/\Q (.bl true) H
theorem Zn (T:Txt K mg t):xl P w K mg base CX0 3 t.DE t.DF ["things","bound"] (Zm K):=by
 refine T.K9.cA yO λ_ A _ s H vs Q E hr h=>?_;obtain⟨a,b,ks,rfl,hc,up,rg,k⟩:=h;refine⟨_,(@jb _ _ _ _ _ (qa (i:=2) yO.nd rfl (Or.inl rfl) jh) (@jb _ _ _ _ _ (ie PassesOwn.never rfl (TJ (pv 0)) (jw (i:=3) yO.nd rfl (Or.inl rfl)) (@jb _ _ _ _ _ (zh (yt (xc (jr (qt T) hr.dn rfl T.qy T.qr.kp T.qw .nil ju (@bT _ _ _ _ _ _ _ (pv 3) (pv 2) (zt i8 (pv 1) jh) rfl rfl rfl)))) (@jd _ _ _ (j5 fB)) j6) (@jd _ _ _ (qa (i:=2) yO.nd rfl (Or.inl rfl) (zt fF (pv 3) jh))))) (@jd _ _ _ (j5 fB)))),?_⟩;rcases hc with ha|⟨rfl,ha⟩
 .refine .inl ⟨_,rfl,a,rfl,⟨_,af.of ha⟩,mY (K:=K) (a:=a) (xs:=ks.map V.int) (λi U H'=>∃v l,U=[some (.ref a),some (.int b),some (.int l),v]/\H'=H/\∀z∈ks.drop i,l<=z) ⟨none,0,rfl,rfl,λz hz=>(rg z hz).1⟩ (λi U H' _ ⟨_,_,_,e,_⟩=>af.of (by rw[e];exact ha)) ?_ ?_⟩
  .rintro i x U H' hx ⟨v,l,rfl,rfl,hl⟩
   obtain⟨z,ez,rfl⟩:∃z,ks[i]?=some z/\x= .int z:=by
    rw[getElem?_map]at hx;cases e:ks[i]? with
    |none=>rw[e]at hx;cases hx
    |some z=>rw[e]at hx;exact⟨z,rfl,(Option.some.inj hx).symm⟩
   obtain⟨hi,MD⟩:=List.getElem?_eq_some_iff.mp ez;have r:=rg z (mem_of_getElem? ez);have lz:l<=z:=hl z (by rw[List.drop_eq_getElem_cons hi,MD];simp);refine⟨_,rfl,_,rfl,_,rfl,_,_,rfl,rfl,_,_,_,rfl,?_⟩;rw[decide_eq_true ⟨lz,(by omega:z<=b-1)⟩];refine⟨_,rfl,we ?_⟩;refine⟨_,rfl,_,_,rfl,rfl,_,_,rfl,rfl,λy hy=>?_⟩;obtain⟨j,hj,e⟩:=mem_iff_getElem.mp hy;rw[length_drop]at hj;rw[List.getElem_drop]at e;have:=List.pairwise_iff_getElem.mp up i (i+1+j) hi (by omega) (by omega);rw[MD,e]at this;omega
  .rintro U H' ⟨v,l,rfl,rfl,_⟩
   exact k
 .refine .inr ⟨_,rfl,a,rfl,⟨_,ha⟩,Pk (K:=K) (a:=a) (xs:=[]) (λi U H'=>∃v,U=[some (.ref a),some (.int b),some (.int 0),v]/\H'=H) ⟨none,rfl,rfl⟩ (λi U H' _ ⟨_,_,e⟩=>by rw[e];exact ha) (λi x U H' hx _=>by simp at hx) ?_⟩
  rintro U H' ⟨v,rfl,rfl⟩
  exact k
theorem ME (T:Txt K mg t):xl P w K mg base CX0 4 t.DG t.DH ["thing","bound"] (λvs H Q _=>∃a b ks,vs=[.ref a,.int b]/\yx K H a ks/\ks.Pairwise (·<·)/\(∀k∈ks,0<=k/\k<b)/\∀H',xr H H'->Q (.bl true) H'):=by
 refine T.ph.bj (N:=["thing","bound"]) λ_ A _ s H vs Q E hr h=>?_;obtain⟨a,b,ks,rfl,hc,up,rg,k⟩:=h;refine⟨_,(@jd _ _ _ (j5 (mU (jn TF rfl T.jy boot_isinstance (@aB _ _ _ _ _ (pv 0) (@fW _ _ _ _ _ (@aB _ _ _ _ _ (lP (v:=.ty "list") rfl T.jP boot_list rfl) (lP (v:=.ty "tuple") rfl T.FA boot_tuple rfl) rfl rfl)) rfl rfl)) (oM (jr (Zn T) hr.dn rfl T.Vn T.K9.kp T.Vo .nil ju (@aB _ _ _ _ _ (pv 0) (pv 1) rfl rfl)))))),?_⟩;refine⟨_,rfl,my,λq hq=>?_⟩;have s1:=je (o:=.tup [.ty "list",.ty "tuple"]) hq;have MF:yx K (upd H q (.tup [.ty "list",.ty "tuple"])) a ks:=by
  rcases hc with h|⟨e,h⟩
  .exact .inl (s1 _ _ h)
  .refine .inr ⟨e,?_⟩;rcases h with h|h
   .exact .inl (tG s1 h)
   .exact .inr h
 refine⟨a,q,rfl,ja,?_,?_⟩
 .rcases MF with h|⟨_,h⟩
  .exact .inl ⟨_,af.of h⟩
  .exact .inr ⟨_,h⟩
 exact⟨_,rfl,br ⟨_,rfl,_,rfl,a,b,ks,rfl,MF,up,rg,k _ s1⟩⟩
theorem yx.same {K:W.Frag}{H H':Hp}{a:Addr}{ks:List Int}(s1:xr H H')(hc:yx K H a ks):yx K H' a ks:=by
 rcases hc with h|⟨e,h⟩
 .exact .inl (s1 _ _ h)
 .refine .inr ⟨e,?_⟩;rcases h with h|h
  .exact .inl (tG s1 h)
  .exact .inr h
theorem yx.sq {K:W.Frag}{H:Hp}{a:Addr}{ks:List Int}(hc:yx K H a ks):af K H a (ks.map V.int)\/ay K H a (ks.map V.int):=by
 rcases hc with h|⟨e,h⟩
 .exact .inl (af.of h)
 .subst e;exact .inr h
theorem Zo (T:Txt K mg t):xl P w K mg base CX0 3 t.DI t.DJ ["thing"] (λvs H Q _=>∃i,vs=[.int i]/\Q (.bl (decide (1<=i/\i<=16))) H):=by refine T.Lc.bj (N:=["thing"]) λ_ A _ s H vs Q E hr h=>?_;obtain⟨x,rfl,k⟩:=h;refine⟨_,(@jd _ _ _ (j5 (jr (qt T) hr.dn rfl T.qy T.qr.kp T.qw .nil ju (@bT _ _ _ _ _ _ _ (pv 0) jh (zk (v:=.int 16) rfl T.Xr.choose_spec ⟨_,rfl⟩) rfl rfl rfl)))),?_⟩;exact⟨_,rfl,x,1,16,rfl,k⟩
theorem Zp (T:Txt K mg t):xl P w K mg base CX0 3 t.DL t.DM ["thing"] (λvs H Q _=>∃i,vs=[.int i]/\Q (.bl (decide (0<=i/\i<=5))) H):=by refine T.Ld.bj (N:=["thing"]) λ_ A _ s H vs Q E hr h=>?_;obtain⟨x,rfl,k⟩:=h;refine⟨_,(@jd _ _ _ (j5 (jr (qt T) hr.dn rfl T.qy T.qr.kp T.qw .nil ju (@bT _ _ _ _ _ _ _ (pv 0) jh (zk (v:=.int 5) rfl T.Xs.choose_spec ⟨_,rfl⟩) rfl rfl rfl)))),?_⟩;exact⟨_,rfl,x,0,5,rfl,k⟩
theorem Zr (T:Txt K mg t):xl P w K mg base CX0 1 t.DN t.DO ["houses","few"] (λvs H Q _=>∃h f:Int,vs=[.int h,.int f]/\Q (.bl (decide (h>3*f))) H):=by refine T.Le.bj (N:=["houses","few"]) λ_ A _ s H vs Q E hr h=>?_;obtain⟨i,j,rfl,q⟩:=h;refine⟨_,(@jd _ _ _ (j5 (i9 qQ (pv 0) (zt wB jh (pv 1)) (qf _)))),?_⟩;exact⟨_,rfl,_,rfl,_,_,rfl,rfl,.inl (by decide),_,_,rfl,rfl,q⟩
theorem Zs (T:Txt K mg t):xl P w K mg base CX0 1 t.DP t.DQ ["houses","few"] (λvs H Q _=>∃i j:Int,vs=[.int i,.int j]/\Q (.int (i-j)) H):=by refine T.Lf.bj (N:=["houses","few"]) λ_ A _ s H vs Q E hr h=>?_;obtain⟨i,j,rfl,q⟩:=h;refine⟨_,(@jd _ _ _ (j5 (zt i8 (pv 0) (pv 1)))),?_⟩;exact⟨_,rfl,_,rfl,_,_,rfl,rfl,q⟩
theorem Zt (T:Txt K mg t):xl P w K mg base CX0 3 t.DR t.DS ["thing"] (λvs H Q _=>∃a ns,vs=[.ref a]/\H a=some (.lst ((ns:List Int).map V.int))/\2<=ns.length/\ns.length<=8/\(∀i∈ns,0<=i/\i<=1000)/\∀H',xr H H'->Q (.bl true) H'):=by
 refine T.Lg.bj (N:=["thing"]) λ_ A _ s H vs Q E hr h=>?_;obtain⟨a,ns,rfl,e,l2,l8,rg,k⟩:=h;refine⟨_,(@jb _ _ _ _ _ (zh (PW.pt (eX (yt (xc (jn rN rfl T.jy boot_isinstance (@aB _ _ _ _ _ (pv 0) (lP (v:=.ty "list") rfl T.jP boot_list rfl) rfl rfl)))) (fR (jx wC (jn jt rfl T.cB boot_len (jc (pv 0) jf)) (zk (v:=.int 2) rfl T.Xu.choose_spec ⟨_,rfl⟩) (qf _))))) (@jd _ _ _ (j5 fB)) j6) (@jd _ _ _ (j5 (jn (RA rfl) rfl T.X4 boot_all (jc (nG (N':=["each"]) (ix:=[none]) (y8 (by kernel_rfl)) rfl (@fE _ _ _ _ (pv 0)) (λ_ _ _ _=>(jw (i:=0) Va rfl (Or.inl rfl) (.inr rfl))) (λ_ _ _ _=>oY) (λ_ _ _ _=>(jr (qt T) hr.dn rfl T.qy T.qr.kp T.qw .nil ju (@bT _ _ _ _ _ _ _ (pv 0) jh (zk (v:=.int 1000) rfl T.Xt.choose_spec ⟨_,rfl⟩) rfl rfl rfl)))) jf))))),?_⟩;refine⟨_,rfl,_,_,_,true,rfl,.lst e,rfl,_,rfl,we ?_⟩;refine⟨_,rfl,a,_,rfl,.inl (af.of e),_,_,rfl,rfl,_,rfl,bH (λh1=>?_) (λh1=>?_)⟩
 .exfalso;have:=of_decide_eq_true h1;rw[length_map]at this;omega
 refine⟨_,rfl,a,rfl,⟨_,af.of e⟩,nI (K:=K) (a:=a) (xs:=ns.map V.int) (λi ys U' H'=>∃v,U'=[v]/\H'=H/\ys=(List.replicate i true).map V.bl) ⟨none,rfl,rfl,rfl⟩ ?_ ?_ ?_⟩
 .rintro i ys U' H' hi ⟨v,rfl,rfl,rfl⟩
  refine⟨af.of e,pI ?_⟩;rw[length_map]at hi;rw[length_map,length_replicate];omega
 .rintro i x ys U' H' hx ⟨v,rfl,rfl,rfl⟩
  obtain⟨z,ez,rfl⟩:∃z,ns[i]?=some z/\x= .int z:=by
   rw[getElem?_map]at hx;cases e:ns[i]? with
   |none=>rw[e]at hx;cases hx
   |some z=>rw[e]at hx;exact⟨z,rfl,(Option.some.inj hx).symm⟩
  dsimp only[fC,rH];rw[if_pos rfl];refine⟨_,rfl,z,0,1000,rfl,?_⟩;rw[decide_eq_true (rg z (mem_of_getElem? ez))];refine⟨_,rfl,rfl,?_⟩;rw[List.replicate_succ',map_append];rfl
 .rintro ys U' H' ⟨v,rfl,rfl,rfl⟩ q hq
  refine⟨q,List.replicate (ns.map V.int).length true,rfl,af.of ja,?_⟩;have g:=k _ (je (o:=.lst ((List.replicate (ns.map V.int).length true).map V.bl)) hq);rw[show(List.replicate (ns.map V.int).length true).all id=true by simp];exact g
theorem Zu (T:Txt K mg t):xl P w K mg base CX0 4 t.DT t.DU ["thing"] (λvs H Q _=>∃a ns,vs=[.ref a]/\H a=some (.lst ((ns:List Int).map V.int))/\2<=ns.length/\ns.length<=8/\(∀i∈ns,0<=i/\i<=1000)/\∀H',xr H H'->Q (.bl true) H'):=by refine T.Lh.bj (N:=["thing"]) λ_ A _ s H vs Q E hr h=>?_;obtain⟨a,ns,rfl,e,l2,l8,rg,k⟩:=h;refine⟨_,(@jd _ _ _ (j5 (mU (jr (Zt T) hr.dn rfl T.Vy T.Lg.kp T.Vz .nil ju (jc (pv 0) jf)) (oM (i9 oP (jn jt rfl T.cB boot_len (jc (pv 0) jf)) (zk (v:=.int 8) rfl T.Xv.choose_spec ⟨_,rfl⟩) (qf _)))))),?_⟩;refine⟨_,rfl,a,ns,rfl,e,l2,l8,rg,λH1 s1=>⟨_,rfl,br ?_⟩⟩;refine⟨_,rfl,a,_,rfl,.inl (af.of (s1 _ _ e)),_,_,rfl,rfl,?_⟩;have g:=k H1 s1;show Q (.bl (decide (((ns.map V.int).length:Int)<=8))) H1;rw[show decide (((ns.map V.int).length:Int)<=8)=true from decide_eq_true (by rw[length_map];omega)];exact g
theorem Zv (T:Txt K mg t):xl P w K mg base CX0 5 t.DV t.DW ["houses","few","liars"] (λvs H Q _=>∃h f a ks,vs=[.int h,.int f,.ref a]/\(1<=h/\h<=16)/\(0<=f/\f<=5)/\3*f<h/\yx K H a ks/\ks.Pairwise (·<·)/\(∀k∈ks,0<=k/\k<h)/\(ks.length:Int)<=f/\∀H',xr H H'->Q .aq H'):=by
 refine T.Lj.bj (N:=["houses","few","liars"]) λ_ A _ s H vs Q E hr h=>?_;obtain⟨h,f,a,ks,rfl,h1,f1,lt,hc,up,rg,l,k⟩:=h;refine⟨_,(@jb _ _ _ _ _ (zh (PW.pt (eX (yt (xc (jr (Zo T) hr.dn rfl T.Vp T.Lc.kp T.Vq .nil ju (jc (pv 0) jf)))) (fR (yt (xc (jr (Zp T) hr.dn rfl T.Vr T.Ld.kp T.Vs .nil ju (jc (pv 1) jf))))))) zg j6) (@jb _ _ _ _ _ (zh (yt (xc (qS (Zr T) hr.dn rfl T.Vu T.Le.kp T.Vv ju (jc (pv 0) jf) (jA (pv 1) oR)))) zg j6) (@jd _ _ _ (zh (PW.pt (eX (yt (xc (jr (ME T) hr.dn rfl T.La T.ph.kp T.Lb .nil ju (@aB _ _ _ _ _ (pv 2) (pv 0) rfl rfl)))) (fR (jx qQ (jn jt rfl T.cB boot_len (jc (pv 2) jf)) (pv 1) (qf _))))) zg j6)))),?_⟩;refine⟨_,rfl,h,rfl,_,rfl,?_⟩;rw[decide_eq_true h1];refine we ⟨_,rfl,f,rfl,_,rfl,?_⟩;rw[decide_eq_true f1];refine we ⟨_,rfl,_,rfl,h,f,rfl,_,rfl,?_⟩;rw[decide_eq_true (by omega)];refine we ⟨_,rfl,_,rfl,a,h,ks,rfl,hc,up,rg,λH1 s1=>⟨_,rfl,we ?_⟩⟩;refine⟨_,rfl,a,_,rfl,(hc.same s1).sq,_,rfl,_,_,rfl,rfl,_,rfl,bH (λz=>?_) (λ_=>k _ s1)⟩;exfalso;have:=of_decide_eq_true z;rw[length_map]at this;omega
theorem Zw (T:Txt K mg t):xl P w K mg base CX0 5 t.DX t.DY ["sums","cheats"] (λvs H Q _=>∃a ns b ks,vs=[.ref a,.ref b]/\H a=some (.lst ((ns:List Int).map V.int))/\2<=ns.length/\ns.length<=8/\(∀i∈ns,0<=i/\i<=1000)/\yx K H b ks/\ks.Pairwise (·<·)/\(∀k∈ks,0<=k/\k<(ns.length:Int))/\∀H',xr H H'->Q .aq H'):=by
 refine T.Ll.bj (N:=["sums","cheats"]) λ_ A _ s H vs Q E hr h=>?_;obtain⟨a,ns,b,ks,rfl,e,l2,l8,r1,hc,up,rg,k⟩:=h;refine⟨_,(@jb _ _ _ _ _ (zh (yt (xc (jr (Zu T) hr.dn rfl T.VA T.Lh.kp T.VB .nil ju (jc (pv 0) jf)))) zg j6) (@jd _ _ _ (zh (yt (xc (jr (ME T) hr.dn rfl T.La T.ph.kp T.Lb .nil ju (@aB _ _ _ _ _ (pv 1) (jn jt rfl T.cB boot_len (jc (pv 0) jf)) rfl rfl)))) zg j6))),?_⟩;refine⟨_,rfl,a,ns,rfl,e,l2,l8,r1,λH1 s1=>⟨_,rfl,we ?_⟩⟩;refine⟨_,rfl,_,rfl,a,_,rfl,.inl (af.of (s1 _ _ e)),b,_,ks,rfl,hc.same s1,up,λk hk=>?_,λH2 s2=>⟨_,rfl,we (k _ (s1.trans s2))⟩⟩;rw[length_map];exact rg k hk
noncomputable def PK (H:Hp)(Z:ar)(id:Nat)(h:Int)(L:List (Nat×Addr×HO)):Prop:=∀x∈L,1<=x.1/\Z x.2.1=some (id,.kp h x.1)/\H x.2.1=some x.2.2
theorem PK.new {H:Hp}{Z:ar}{id:Nat}{h:Int}{L:List (Nat×Addr×HO)}{p:Addr}{f:Nat}{u:HO}(k:PK H Z id h L)(n:H p=none)(hf:1<=f):PK (upd H p u) (vg Z p (id,.kp h f)) id h ((f,p,u)::L):=λx hx=>by
 rcases mem_cons.mp hx with rfl|hx
 .exact⟨hf,qk,ja⟩
 .obtain⟨a,b,c⟩:=k x hx;have:x.2.1≠p:=jj c n;exact⟨a,by rw[zy this];exact b,by rw[jg this];exact c⟩
theorem PK.obj {H:Hp}{Z:ar}{id:Nat}{h:Int}{L:List (Nat×Addr×HO)}{x:Addr}{o:HO}(k:PK H Z id h L)(rx:Z x=some (id,.kp h 0)):PK (upd H x o) Z id h L:=λy hy=>by obtain⟨a,b,c⟩:=k y hy;exact⟨a,b,by rw[jg (cP b rx (λz=>by have e:=(Part.kp.inj (Prod.mk.inj z).2).2;lia))];exact c⟩
theorem PK.same {H H':Hp}{Z:ar}{id:Nat}{h:Int}{L:List (Nat×Addr×HO)}(s:xr H H')(k:PK H Z id h L):PK H' Z id h L:=λy hy=>let⟨a,b,c⟩:=k y hy;⟨a,b,s _ _ c⟩
theorem PK.at_ {H:Hp}{Z:ar}{id:Nat}{h:Int}{L:List (Nat×Addr×HO)}(k:PK H Z id h L)(j:Nat){f:Nat}{a:Addr}{u:HO}(e:L[j]?=some (f,a,u)):Z a=some (id,.kp h f)/\H a=some u:=(k _ (mem_of_getElem? e)).2
structure Mk (t:Ad)(Z0:ar)(H0:Hp)(id:Nat)(h:Int)(x dx:Addr)(fs:List (Str×V))(L:List (Nat×Addr×HO))(Z:ar)(H:Hp):Prop where
 ob:H x=some (.ins t.jz dx fs)
 rx:Z x=some (id,.kp h 0)
 pk:PK H Z id h L
 fr:Fr (bq id h) Z0 H0 Z H
 kr:aw Z H
section
variable {t:Ad}{Z0 Z:ar}{H0 H H':Hp}{id:Nat}{h:Int}{x dx:Addr}{fs fs':List (Str×V)}{L:List (Nat×Addr×HO)}
theorem Mk.new {p:Addr}{u:HO}(f:Nat)(m:Mk t Z0 H0 id h x dx fs L Z H)(n:H p=none)(hf:1<=f)(hu:autoParam (mz u) aP5):Mk t Z0 H0 id h x dx fs ((f,p,u)::L) (vg Z p (id,.kp h f)) (upd H p u):=by have nx:x≠p:=jj m.ob n;exact⟨by rw[jg nx];exact m.ob,by rw[zy nx];exact m.rx,m.pk.new n hf,m.fr.trans (Fr.bA n),m.kr.bA hu⟩
theorem Mk.mD (m:Mk t Z0 H0 id h x dx fs L Z H)(s:xr H H'):Mk t Z0 H0 id h x dx fs L Z H':=⟨s _ _ m.ob,m.rx,m.pk.same s,m.fr.trans (Fr.same s),m.kr.same s⟩
theorem Mk.obj (m:Mk t Z0 H0 id h x dx fs L Z H):Mk t Z0 H0 id h x dx fs' L Z (upd H x (.ins t.jz dx fs')):=⟨ja,m.rx,m.pk.obj m.rx,m.fr.trans (Fr.put m.rx ⟨0,rfl⟩),m.kr.put⟩
end
theorem Zx (T:Txt K mg t):xl P w K mg base CX0 1 t.va t.D3 ["self","sums"] (λvs H Q _=>∃Z id h x dx sa,∃ns:List Int,vs=[.ref x,.ref sa]/\H x=some (.ins t.jz dx [])/\Z x=some (id,.kp h 0)/\aw Z H/\H sa=some (.lst (ns.map V.int))/\ns.length<=1000/\∀Z' H' he nn dn,Mk t Z H id h x dx (iK he nn dn) [(3,dn,.lst []),(2,nn,.lst ((List.replicate ns.length 0).map V.int)),(1,he,.lst (ns.map V.int))] Z' H'->Q .aq H'):=by
 refine T.VV.bj (N:=["self","sums"]) λ_ A _ s H vs Q E hr h=>?_;obtain⟨Z,id,h,x,dx,sa,ns,rfl,hx,rx,kr,hs,ln,k⟩:=h;refine⟨_,(@jb _ _ _ _ _ (dM (pv 0) (lV yh rfl T.jP boot_list (jc (pv 1) jf)) rfl) (@jb _ _ _ _ _ (dM (pv 0) (zt Jq (@qq _ _ _ _ (jc jh jf)) (jn jt rfl T.cB boot_len (jc (pv 1) jf))) rfl) (@jd _ _ _ (dM (pv 0) (@qq _ _ _ _ jf) rfl)))),?_⟩;have m0:Mk t Z H id h x dx [] [] Z H:=⟨hx,rx,(λ_ z=>by cases z),Fr.refl,kr⟩;have sx:sa≠x:=iW hs hx (by intro z;cases z);refine⟨_,rfl,sa,_,rfl,.inl (af.of hs),λhe nh=>?_⟩;have m1:=m0.new 1 nh (u:=.lst (ns.map V.int)) (by decide);have xV:=je (o:=.lst (ns.map V.int)) nh _ _ hs;refine⟨_,rfl,x,_,dx,_,rfl,m1.ob,T.jm,T.xn,(by show 0<1000;decide),?_⟩;have m2:=m1.obj (fs':=kq "held" (.ref he) []);have qR:upd (upd H he (.lst (ns.map V.int))) x (.ins t.jz dx (kq "held" (.ref he) [])) sa=some (.lst (ns.map V.int)):=by rw[jg sx];exact xV
 dsimp only;generalize upd (upd H he (.lst (ns.map V.int))) x (.ins t.jz dx (kq "held" (.ref he) []))=G at m2 qR;refine⟨jO,λz1 n1=>⟨_,rfl,sa,_,rfl,.inl (af.of ((je n1) _ _ qR)),?_⟩⟩;have m3:=m2.mD (je (o:=.lst [.int 0]) n1);refine⟨z1,_,[.int 0],rfl,rfl,ja,?_,?_,?_,λnn n2=>?_⟩
 .omega
 .rw[length_map];have:=lU;omega
 .rw[length_map];exact pI (by simp;omega)
 have er:(List.replicate (((ns.map V.int).length:Nat):Int).toNat [V.int 0]).flatten=(List.replicate ns.length 0).map V.int:=by
  rw[Int.toNat_natCast,length_map,List.map_replicate];generalize ns.length=n;induction n with
  |zero=>rfl
  |succ n ih=>rw[replicate_succ,flatten_cons,ih,replicate_succ];rfl
 rw[er];have m4:=m3.new 2 n2 (u:=.lst ((List.replicate ns.length 0).map V.int)) (by decide);generalize upd (upd G z1 (.lst [.int 0])) nn (.lst ((List.replicate ns.length 0).map V.int))=G4 at m4;refine⟨_,rfl,x,_,dx,_,rfl,m4.ob,T.jm,T.za,(by show 1<1000;decide),?_⟩;have m5:=m4.obj (fs':=kq "next_numbers" (.ref nn) (kq "held" (.ref he) []));dsimp only;generalize upd G4 x (.ins t.jz dx (kq "next_numbers" (.ref nn) (kq "held" (.ref he) [])))=G5 at m5;refine⟨cu,λdn n3=>⟨_,rfl,x,_,dx,_,rfl,(m5.new 3 n3 (u:=.lst []) (by decide)).ob,T.jm,T.Fx,(by show 2<1000;decide),?_⟩⟩;exact k _ _ he nn dn ((m5.new 3 n3 (u:=.lst []) (by decide)).obj)
noncomputable def fw (ns:List Int):Kp:=⟨ns,List.replicate ns.length 0,[],[],[],[],[]⟩
theorem Zy (T:Txt K mg t):xl P w K mg base CX0 2 t.vh t.D7 ["self","sums"] (λvs H Q _=>∃Z id h x dx sa,∃ns:List Int,vs=[.ref x,.ref sa]/\H x=some (.ins t.jz dx [])/\Z x=some (id,.kp h 0)/\aw Z H/\H sa=some (.lst (ns.map V.int))/\ns.length<=1000/\∀Z' H' A,xh t H' Z' id h x A dx (fw ns)->Fr (bq id h) Z H Z' H'->aw Z' H'->Q .aq H'):=by
 refine T.V1.bj (N:=["self","sums"]) λ_ A _ s H vs Q E hr h=>?_;obtain⟨Z,id,h,x,dx,sa,ns,rfl,hx,rx,kr,hs,ln,k⟩:=h;refine⟨_,(@jb _ _ _ _ _ (qb (UM rfl T.XA T.XC (Zx T) hr.dn T.VW .nil ju (@aB _ _ _ _ _ (pv 0) (pv 1) rfl rfl))) (@jb _ _ _ _ _ (dM (pv 0) rG rfl) (@jb _ _ _ _ _ (dM (pv 0) (@qq _ _ _ _ jf) rfl) (@jb _ _ _ _ _ (dM (pv 0) rG rfl) (@jd _ _ _ (dM (pv 0) (@qq _ _ _ _ jf) rfl)))))),?_⟩;refine⟨_,rfl,_,rfl,Z,id,h,x,dx,sa,ns,rfl,hx,rx,kr,hs,ln,λZ1 H1 he nn dn m1=>?_⟩;refine λhd n1=>⟨_,rfl,x,_,dx,_,rfl,(m1.new 4 n1 (u:=.dT []) (by decide)).ob,T.jm,T.um,(by show 3<1000;decide),?_⟩;have m2:=(m1.new 4 n1 (u:=.dT []) (by decide)).obj (fs':=kq "heard" (.ref hd) (iK he nn dn));dsimp only;generalize upd (upd H1 hd (.dT [])) x (.ins t.jz dx (kq "heard" (.ref hd) (iK he nn dn)))=G2 at m2;refine⟨cu,λun n2=>⟨_,rfl,x,_,dx,_,rfl,(m2.new 5 n2 (u:=.lst []) (by decide)).ob,T.jm,T.ye,(by show 4<1000;decide),?_⟩⟩;have m3:=(m2.new 5 n2 (u:=.lst []) (by decide)).obj (fs':=kq "unvoted" (.ref un) (kq "heard" (.ref hd) (iK he nn dn)));dsimp only;generalize upd (upd G2 un (.lst [])) x (.ins t.jz dx (kq "unvoted" (.ref un) (kq "heard" (.ref hd) (iK he nn dn))))=G3 at m3;refine λcs n3=>⟨_,rfl,x,_,dx,_,rfl,(m3.new 6 n3 (u:=.dT []) (by decide)).ob,T.jm,T.zd,(by show 5<1000;decide),?_⟩;have m4:=(m3.new 6 n3 (u:=.dT []) (by decide)).obj (fs':=kq "choices" (.ref cs) (kq "unvoted" (.ref un) (kq "heard" (.ref hd) (iK he nn dn))));dsimp only;generalize upd (upd G3 cs (.dT [])) x (.ins t.jz dx (kq "choices" (.ref cs) (kq "unvoted" (.ref un) (kq "heard" (.ref hd) (iK he nn dn)))))=G4 at m4;refine⟨cu,λwt n4=>⟨_,rfl,x,_,dx,_,rfl,(m4.new 7 n4 (u:=.lst []) (by decide)).ob,T.jm,T.ze,(by show 6<1000;decide),?_⟩⟩;have m5:=(m4.new 7 n4 (u:=.lst []) (by decide)).obj (fs':=kf he nn dn hd un cs wt);refine k _ _ (λf=>match f with|1=>he|2=>nn|3=>dn|4=>hd|5=>un|6=>cs|_=>wt) ⟨m5.ob,m5.rx,λf h1 h7=>?_⟩ m5.fr m5.kr;have p:=m5.pk
 match f,h1,h7 with
 |1,_,_=>exact⟨(p.at_ 6 rfl).1,_,(p.at_ 6 rfl).2,rfl⟩
 |2,_,_=>exact⟨(p.at_ 5 rfl).1,_,(p.at_ 5 rfl).2,rfl⟩
 |3,_,_=>exact⟨(p.at_ 4 rfl).1,_,(p.at_ 4 rfl).2,[],rfl,.nil⟩
 |4,_,_=>exact⟨(p.at_ 3 rfl).1,_,(p.at_ 3 rfl).2,[],rfl,rfl⟩
 |5,_,_=>exact⟨(p.at_ 2 rfl).1,_,(p.at_ 2 rfl).2,[],rfl,.nil⟩
 |6,_,_=>exact⟨(p.at_ 1 rfl).1,_,(p.at_ 1 rfl).2,[],rfl,.nil⟩
 |7,_,_=>exact⟨(p.at_ 0 rfl).1,_,(p.at_ 0 rfl).2,[],rfl,.nil⟩
noncomputable def pP (K:W.Frag)(H:Hp)(Z:ar)(id:Nat)(a:Addr)(ks:List Int):Prop:=(H a=some (.lst (ks.map V.int))/\∀r,Z a=some r->¬r.1=id)\/(ks=[]/\∃(o:Obj)(its:Array Value)(n:Nat),K.lookup a=some o/\o.cls= .type "tuple"/\o.data= .seq its n/\its.size<=sizeLine/\Vals [] its.toList)
theorem pP.at_ {K:W.Frag}{H:Hp}{Z:ar}{id:Nat}{a:Addr}{ks:List Int}(h:pP K H Z id a ks):yx K H a ks:=h.imp (λq=>q.1) (λq=>⟨q.1,.inr q.2⟩)
theorem pP.fr {K:W.Frag}{H H':Hp}{Z Z':ar}{id:Nat}{a:Addr}{ks:List Int}(f:Fr (λr=>r.1=id) Z H Z' H')(h:pP K H Z id a ks):yx K H' a ks:=by
 rcases h with⟨h,n⟩|⟨e,h⟩
 .exact .inl (f a _ h n).1
 .exact .inr ⟨e,.inr h⟩
theorem yb.nF {t:Ad}{P:Role->Prop}{Z Z':ar}{H H':Hp}{id:Nat}(f:Fr P Z H Z' H'):∀{aa:List (Key×V)}{ks:List (Int×Kp)},(∀c∈ks,∀j,¬P (id,.kp c.1 j))->yb t H Z id aa ks->yb t H' Z' id aa ks:=λ{aa ks} n q=>by
 unfold yb at q;induction q with
 |nil=>exact .nil
 |@cons kv c aa ks a r ih=>obtain⟨e,k,A,dk,ek,q⟩:=a;exact .cons ⟨e,k,A,dk,ek,q.fr (n c mem_cons_self) f⟩ (ih λc' hc=>n c' (mem_cons_of_mem _ hc))
noncomputable def allI (id:Nat):Role->Prop:=λr=>r.1=id
structure dj (t:Ad)(Z0:ar)(H0:Hp)(id:Nat)(x dx:Addr)(fs:List (Str×V))(Z:ar)(H:Hp):Prop where
 ob:H x=some (.ins t.j3 dx fs)
 rx:Z x=some (id,.x)
 fr:Fr (allI id) Z0 H0 Z H
 kr:aw Z H
section
variable {t:Ad}{Z0 Z Z':ar}{H0 H H':Hp}{id:Nat}{x dx:Addr}{fs fs':List (Str×V)}{P:Role->Prop}
theorem dj.step (m:dj t Z0 H0 id x dx fs Z H)(f:Fr P Z H Z' H')(n:¬P (id,.x))(hP:∀r,P r->r.1=id)(kr:aw Z' H'):dj t Z0 H0 id x dx fs Z' H':=by obtain⟨e,r⟩:=gg f m.ob m.rx n;exact⟨e,r,m.fr.trans (f.mono hP),kr⟩
theorem dj.mD (m:dj t Z0 H0 id x dx fs Z H)(s:xr H H'):dj t Z0 H0 id x dx fs Z H':=m.step (P:=λ_=>False) (Fr.same s) (λz=>z) (λ_ z=>z.elim) (m.kr.same s)
theorem dj.new {p:Addr}{u:HO}{r:Role}(m:dj t Z0 H0 id x dx fs Z H)(n:H p=none)(hu:autoParam (mz u) aP5):dj t Z0 H0 id x dx fs (vg Z p r) (upd H p u):=m.step (P:=λ_=>False) (Fr.bA n) (λz=>z) (λ_ z=>z.elim) (m.kr.bA hu)
theorem dj.obj (m:dj t Z0 H0 id x dx fs Z H):dj t Z0 H0 id x dx fs' Z (upd H x (.ins t.j3 dx fs')):=⟨ja,m.rx,m.fr.trans (Fr.put m.rx rfl),m.kr.put⟩
theorem dj.fo (m:dj t Z0 H0 id x dx fs Z H):Fr (gZ id .x) Z H Z (upd H x (.ins t.j3 dx fs')):=Fr.put m.rx rfl
end
noncomputable def aS (ls:List Int)(n:Nat):List Int:=((List.range n).map λ(i:Nat)=>(i:Int)).filter λi=>!decide (i∈ls)
noncomputable def w0 (h f:Int)(ns cs ls:List Int):Wd:=⟨ns.length,cs,(aS ls h.toNat).map λi=>(i,fw ns),[],h-f,List.replicate ns.length [],[]⟩
structure pQ (H:Hp)(Z:ar)(ch ly:Addr)(cs ls:List Int):Prop where
 c:H ch=some (.lst (cs.map V.int))/\Z ch=none
 l:H ly=some (.lst (ls.map V.int))/\Z ly=none
theorem pQ.fr {P:Role->Prop}{Z Z':ar}{H H':Hp}{ch ly:Addr}{cs ls:List Int}(f:Fr P Z H Z' H')(h:pQ H Z ch ly cs ls):pQ H' Z' ch ly cs ls:=⟨bW f h.c.1 h.c.2,bW f h.l.1 h.l.2⟩
theorem zK (ls:List Int)(n:Nat):aS ls (n+1)=aS ls n++if(n:Int)∈ls then[]else[(n:Int)]:=by
 unfold aS;rw[List.range_succ,map_append,filter_append];congr 1;by_cases z:(n:Int)∈ls
 .rw[if_pos z];simp[z]
 .rw[if_neg z];simp[z]
theorem MG {ls:List Int}{n:Nat}{i:Int}(h:i∈aS ls n):0<=i/\i<(n:Int)/\i∉ls:=by unfold aS at h;obtain⟨h1,h2⟩:=mem_filter.mp h;obtain⟨j,hj,rfl⟩:=mem_map.mp h1;have:=mem_range.mp hj;exact⟨by lia,by lia,by simpa using h2⟩
theorem Gh (ls:List Int)(n:Nat):(aS ls n).length<=n:=by unfold aS;refine le_trans (length_filter_le _ _) ?_;rw[length_map,length_range];exact le_refl _
noncomputable abbrev q2 (ns:List Int):List (Str×V):=kq "total" (.int ns.sum) (kq "purses" (.int (ns.map V.int).length) [])
noncomputable abbrev q3 (ns:List Int)(ly:Addr):List (Str×V):=kq "lying" (.ref ly) (q2 ns)
noncomputable abbrev q4 (ns:List Int)(ly ch:Addr):List (Str×V):=kq "cheating" (.ref ch) (q3 ns ly)
noncomputable abbrev q5 (ns:List Int)(ly ch D:Addr):List (Str×V):=kq "keepers" (.ref D) (q4 ns ly ch)
noncomputable abbrev q6 (ns:List Int)(ly ch D b:Addr):List (Str×V):=kq "board" (.ref b) (q5 ns ly ch D)
noncomputable abbrev q7 (ns:List Int)(ly ch D b ak:Addr):List (Str×V):=kq "asked" (.ref ak) (q6 ns ly ch D b)
noncomputable def Zz (K:PySem.W.Frag)(t:Ad):Sp:=λvs H Q _=>∃Z id x dx h f sa ns la ca cs ls,vs=[.ref x,.int h,.int f,.ref sa,.ref la,.ref ca]/\H x=some (.ins t.j3 dx [])/\Z x=some (id,.x)/\aw Z H/\(1<=h/\h<=16)/\(0<=f/\f<=5)/\3*f<h/\H sa=some (.lst ((ns:List Int).map V.int))/\(∀r,Z sa=some r->¬allI id r)/\2<=ns.length/\ns.length<=8/\(∀i∈ns,0<=i/\i<=1000)/\pP K H Z id la ls/\ls.Pairwise (·<·)/\(∀k∈ls,0<=k/\k<h)/\(ls.length:Int)<=f/\pP K H Z id ca cs/\cs.Pairwise (·<·)/\(∀k∈cs,0<=k/\k<(ns.length:Int))/\∀Z' H' W,W.x=x->W.bM=ns.sum->qj t H' Z' id W (w0 h f ns cs ls)->(H' W.ly=some (.lst (ls.map V.int))/\Z' W.ly=none)->Fr (allI id) Z H Z' H'->aw Z' H'->Q .aq H'
set_option maxHeartbeats 0 in
theorem ZA (T:Txt K mg t) : xl P w K mg base CX0 6 t.gj t.Ef ["self","houses","few","sums","liars","cheats"] (Zz K t):=by
 refine T.Wj.bj (N:=["self","houses","few","sums","liars","cheats"]) λ_ A _ s H vs Q E hr h=>?_
 obtain ⟨Z,id,x,dx,h,f,sa,ns,la,ca,cs,ls,rfl,hx,rx,kr,h1,f1,lt,hs,ZC,l2,l8,rg,MH,zL,pR,ZD,MI,up,zM,k⟩:=h
 have ZE:=MH.at_
 have ZF:=MI.at_
 refine ⟨_,(@jb _ _ _ _ _ (qb (qS (Zv T) hr.dn rfl T.VE T.Lj.kp T.VF ju (jc (pv 1) jf) (jA (pv 2) (jA (pv 4) oR))))
  (@jb _ _ _ _ _ (qb (qS (Zw T) hr.dn rfl T.VG T.Ll.kp T.VH ju (jc (pv 3) jf) (jA (pv 5) oR)))
  (@jb _ _ _ _ _ (dM (pv 0) (jn jt rfl T.cB boot_len (jc (pv 3) jf)) rfl)
  (@jb _ _ _ _ _ (dM (pv 0) (jn (JN rfl) rfl T.LR boot_sum (jc (pv 3) jf)) rfl)
  (@jb _ _ _ _ _ (dM (pv 0) (lV yh rfl T.jP boot_list (jc (pv 4) jf)) rfl)
  (@jb _ _ _ _ _ (dM (pv 0) (lV yh rfl T.jP boot_list (jc (pv 5) jf)) rfl)
  (@jb _ _ _ _ _ (dM (pv 0) (Tt (.dK []) (.inl rfl) (cM hr) (N':=["house","sums","liars"]) (ix:=[none,some 3,some 4]) (y8 (by kernel_rfl)) rfl (oO rfl T.pH (jc (pv 1) jf)) (λ_ _ _ _=>(jw (i:=0) Vc rfl (Or.inl rfl) (.inr rfl))) (λ_ _ _ _=>(rJ (jx (Kl (K:=K) rfl) (pv 0) (pv 2) (by with_unfolding_all rfl)))) (λ_ _ _ _=>(pv 0)) (λ_ _ _ _=>(IL T.V2 (Zy T) hr.dn rfl T.Xw T.V3 .nil ju (jc (pv 1) jf)))) rfl)
  (@jb _ _ _ _ _ (dM (pv 0) (IL T.VJ (Yl T) hr.dn rfl T.Xx T.VL .nil ju (jc (qS (Zs T) hr.dn rfl T.Vw T.Lf.kp T.Vx ju (jc (pv 1) jf) (jA (pv 2) oR)) jf)) rfl)
  (@jb _ _ _ _ _ (dM (pv 0) (nG (N':=["each"]) (ix:=[none]) (y8 (by kernel_rfl)) rfl (@fE _ _ _ _ (pv 3)) (λ_ _ _ _=>(jw (i:=0) Vb rfl (Or.inl rfl) (.inr rfl))) (λ_ _ _ _=>oY) (λ_ _ _ _=>(@qq _ _ _ _ jf))) rfl)
  (@jd _ _ _ (dM (pv 0) (@qq _ _ _ _ jf) rfl))))))))))),?_⟩
 refine gd λN hN=>⟨_,rfl,_,rfl,_,rfl,h,f,la,ls,rfl,h1,f1,lt,ZE,zL,pR,ZD,λH1 s1=>?_⟩
 refine hN _ _ (gd λN hN=>⟨_,rfl,_,rfl,sa,ns,ca,cs,rfl,s1 _ _ hs,l2,l8,rg,ZF.same s1,up,zM,λH2 s2=>?_⟩)
 have m2:dj t Z H id x dx [] Z H2:=dj.mD ⟨hx,rx,Fr.refl,kr⟩ (s1.trans s2)
 have tX : ∀ {Z' H' fs},dj t Z H id x dx fs Z' H' -> H' sa = some (.lst (ns.map V.int)):=λm=>(m.fr _ _ hs ZC).1
 have MJ : ∀ {Z' H' fs},dj t Z H id x dx fs Z' H' -> yx K H' la ls:=λm=>MH.fr m.fr
 have ZG : ∀ {Z' H' fs},dj t Z H id x dx fs Z' H' -> yx K H' ca cs:=λm=>MI.fr m.fr
 refine hN _ _ (gd λN hN=>⟨_,rfl,sa,_,rfl,.inl (af.of (tX m2)),_,rfl,x,_,dx,_,rfl,m2.ob,T.jl,T.Fy,(by show 0 < 1000; decide),?_⟩)
 have m3:=m2.obj (fs':=kq "purses" (.int (ns.map V.int).length) [])
 dsimp only
 generalize upd H2 x (.ins t.j3 dx (kq "purses" (.int (ns.map V.int).length) [])) = G3 at m3
 refine hN _ _ (gd λN hN=>⟨_,rfl,sa,ns,rfl,af.of (tX m3),_,rfl,x,_,dx,_,rfl,m3.ob,T.jl,T.Xz,(by show 1 < 1000; decide),?_⟩)
 have m4:=m3.obj (fs':=q2 ns)
 dsimp only
 generalize upd G3 x (.ins t.j3 dx (q2 ns)) = G4 at m4
 refine hN _ _ (gd λN hN=>⟨_,rfl,la,_,rfl,(MJ m4).sq,λly pS=>?_⟩)
 have m5:=m4.mD (je (o:=.lst (ls.map V.int)) pS)
 have l5:upd G4 ly (.lst (ls.map V.int)) ly = some (.lst (ls.map V.int)) /\ Z ly = none:=⟨ja,m4.kr.none pS⟩
 refine ⟨_,rfl,x,_,dx,_,rfl,m5.ob,T.jl,T.LL,(by show 2 < 1000; decide),?_⟩
 have m6:=m5.obj (fs':=q3 ns ly)
 have l6:=bW (m5.fo (fs':=q3 ns ly)) l5.1 l5.2
 dsimp only
 generalize upd (upd G4 ly (.lst (ls.map V.int))) x (.ins t.j3 dx (q3 ns ly)) = G6 at m6 l6
 refine hN _ _ (gd λN hN=>⟨_,rfl,ca,_,rfl,(ZG m6).sq,λch i0=>?_⟩)
 have m7:=m6.mD (je (o:=.lst (cs.map V.int)) i0)
 have c7:pQ (upd G6 ch (.lst (cs.map V.int))) Z ch ly cs ls:=⟨⟨ja,m6.kr.none i0⟩,bW (P:=λ_=>False) (Fr.same (je i0)) l6.1 l6.2⟩
 refine ⟨_,rfl,x,_,dx,_,rfl,m7.ob,T.jl,T.ya,(by show 3 < 1000; decide),?_⟩
 have m8:=m7.obj (fs':=q4 ns ly ch)
 have c8:=c7.fr (m7.fo (fs':=q4 ns ly ch))
 dsimp only
 generalize upd (upd G6 ch (.lst (cs.map V.int))) x (.ins t.j3 dx (q4 ns ly ch)) = G8 at m8 c8
 clear m2 m3 m4 m5 m6 m7 c7 pS i0 l5 l6
 refine hN _ _ (gd λN hN=>⟨_,rfl,h,rfl,(by omega),(by omega),λD nD=>?_⟩)
 have m9:=m8.new (r:=(id,.kd)) nD (u:=.dK [])
 have c9:pQ (upd G8 D (.dK [])) (vg Z D (id,.kd)) ch ly cs ls:=c8.fr (P:=λ_=>False) (Fr.bA nD)
 refine UK (lo:=0) (n:=h.toNat) (λi U H'=>∃ v aa Z',U = [v,some (.ref sa),some (.ref la)] /\ dj t Z H id x dx (q4 ns ly ch) Z' H' /\ pQ H' Z' ch ly cs ls /\ Z' D = some (id,.kd) /\ H' D = some (.dK aa) /\ yb t H' Z' id aa ((aS ls i).map λi=>(i,fw ns))) ⟨none,[],_,rfl,m9,c9,qk,ja,.nil⟩ ?_ ?_
 .rintro i U H' hi ⟨v,aa,Z',rfl,m,hc,rD,hD,ks⟩
  have e0:(0:Int) + (i:Int) = i:=Int.zero_add _
  rw [e0]
  refine ⟨_,rfl,_,rfl,la,_,rfl,(MJ m).sq,rfl,w6 _,_,rfl,bH (λzz=>?_) (λzz=>?_)⟩
  rotate_left
  .have nl:(i:Int) ∈ ls:=by
    rw [if_pos rfl,y6] at zz
    simpa using zz
   refine ⟨_,aa,Z',rfl,m,hc,rD,hD,?_⟩
   rw [zK,if_pos nl,append_nil]
   exact ks
  have nl : ¬ (i:Int) ∈ ls:=by
   rw [if_pos rfl,y6] at zz
   simpa using zz
  refine ⟨_,rfl,_,rfl,λk dk nk ZH ne=>?_⟩
  have sk:xr H' (upd H' dk (.own k)):=je ZH
  have ZI:upd H' dk (.own k) k = none:=by rw [jg ne.symm]; exact nk
  have f1:Fr (λ_=>False) Z' H' (vg Z' k (id,.kp i 0)) (upd (upd H' dk (.own k)) k (.ins t.jz dk [])):=(Fr.same sk).trans (Fr.bA ZI)
  have aV:aw (vg Z' k (id,.kp i 0)) (upd (upd H' dk (.own k)) k (.ins t.jz dk [])):=(m.kr.same sk).bA
  have m1:=m.step f1 (λz=>z) (λ_ z=>z.elim) aV
  refine ⟨_,id,(i:Int),k,dk,sa,ns,rfl,ja,qk,aV,tX m1,by omega,λZ2 zN A2 R2 f2 aW=>⟨rfl,?_⟩⟩
  have dH:Fr (bq id i) Z' H' Z2 zN:=(f1.mono λ_ z=>z.elim).trans f2
  have Gi : ∀ {p:Part},(∀ j,p ≠ .kp (i:Int) j) -> ¬ bq id (i:Int) (id,p):=λhp ⟨j,e⟩=>hp j (Prod.mk.inj e).2
  have mm:=m.step dH (Gi λ_ z=>by cases z) (λr ⟨j,e⟩=>by rw [e]) aW
  have su:=hc.fr dH
  obtain ⟨ZJ,MK⟩:=gg dH hD rD (Gi λ_ z=>by cases z)
  have Gj:yb t zN Z2 id aa ((aS ls i).map λi=>(i,fw ns)):=yb.nF dH (λc hc j=>by
   obtain ⟨i',Gk,rfl⟩:=mem_map.mp hc
   have:=MG Gk
   refine Gi λj' z=>?_
   have:i' = (i:Int):=(Part.kp.inj z).1
   omega) ks
  have nv:aO aa (.inl (i:Int)) = none:=by
   cases e:aO aa (.inl (i:Int)) with
   | none=>rfl
   | some v=>
    exfalso
    have hm:=Rc e
    obtain ⟨j,hj,ej⟩:=mem_iff_getElem.mp hm
    rw [length_map] at hj
    obtain ⟨c,ec,e1,_⟩:=zi Gj (getElem?_eq_getElem hj)
    rw [List.getElem_map] at ej
    rw [e1] at ej
    obtain ⟨i',Gk,rfl⟩:=mem_map.mp (mem_of_getElem? ec)
    have:=MG Gk
    have:i' = (i:Int):=Sum.inl.inj ej
    omega
  have lk:aa.length <= 1000:=by
   rw [Paired.length Gj,length_map]
   have:=Gh ls i
   omega
  refine ⟨_,fe.k (k:=.inl (i:Int)) ZJ (qi lk),?_⟩
  rw [oX _ nv]
  have f3:Fr (gZ id .kd) Z2 zN Z2 (upd zN D (.dK (aa ++ [(.inl (i:Int),.ref k)]))):=Fr.put MK rfl
  refine ⟨_,_,Z2,rfl,mm.step f3 j4 (λr e=>by rw [e]) aW.put,su.fr f3,MK,ja,?_⟩
  rw [zK,if_neg nl,map_append]
  exact j9 (yb.fr f3 (λ_ _=>j4) Gj) ⟨rfl,k,A2,dk,rfl,R2.fr (λ_=>j4) f3⟩
 .rintro U ZK ⟨v,aa,Z1,rfl,zO,c10,rD,hD,ks⟩
  clear m8 c8 m9 c9 nD
  refine ⟨_,rfl,x,_,dx,_,rfl,zO.ob,T.jl,T.zm,(by show 4 < 1000; decide),?_⟩
  have zP:=zO.obj (fs':=q5 ns ly ch D)
  have oj:=zO.fo (fs':=q5 ns ly ch D)
  have c11:=c10.fr oj
  have k11:=gE oj j4 (λ_ _=>j4) rD ⟨aa,hD,ks⟩
  dsimp only
  generalize upd ZK x (.ins t.j3 dx (q5 ns ly ch D)) = pT at zP c11 k11
  clear oj zO c10
  refine hN _ _ (gd λN hN=>⟨_,rfl,_,rfl,h,f,rfl,λb db nb Gm ZL=>?_⟩)
  have sb:xr pT (upd pT db (.own b)):=je Gm
  have ZM:upd pT db (.own b) b = none:=by rw [jg ZL.symm]; exact nb
  refine ⟨b,db,h - f,rfl,ja,λS tY nS Bq fr=>⟨rfl,?_⟩⟩
  have ZN:pT S = none:=by
   have ZO:S ≠ b:=λz=>by rw [z,ja] at nS; cases nS
   rw [jg ZO] at nS
   exact sb.free nS
  have Gp:xr pT tY:=λc u e=>fr _ _ (by rw [jg (jj (sb _ _ e) ZM)]; exact sb _ _ e) (jj e nb)
  have bS:b ≠ S:=iW Bq.ob Bq.sg (by intro z; cases z)
  have dH:Fr (λ_=>False) Z1 pT (vg (vg Z1 b (id,.bd)) S (id,.sd)) tY:=λa u e _=>⟨Gp _ _ e,by rw [zy (jj e ZN),zy (jj e nb)]⟩
  have oq:aw (vg (vg Z1 b (id,.bd)) S (id,.sd)) tY:=λa r e=>by
   by_cases z:a = S
   .subst z
    exact ⟨_,Bq.sg,True.intro⟩
   .rw [zy z] at e
    by_cases y:a = b
    .subst y
     exact ⟨_,Bq.ob,True.intro⟩
    .rw [zy y] at e
     obtain ⟨u,hu,nu⟩:=zP.kr a r e
     exact ⟨u,Gp _ _ hu,nu⟩
  have tZ:=zP.step dH (λz=>z) (λ_ z=>z.elim) oq
  have c12:=c11.fr dH
  have k12:=gE dH (λz=>z) (λ_ _ z=>z) k11.1 k11.2
  have mE:(vg (vg Z1 b (id,.bd)) S (id,.sd)) b = some (id,.bd) /\ (vg (vg Z1 b (id,.bd)) S (id,.sd)) S = some (id,.sd) /\ ∃ aa,vb t tY b db S (h - f) aa (cZ []) /\ lA (vg (vg Z1 b (id,.bd)) S (id,.sd)) id aa:=⟨by rw [zy bS,qk],qk,[],Bq,λ_ z=>by cases z⟩
  generalize vg (vg Z1 b (id,.bd)) S (id,.sd) = Z2 at tZ c12 k12 mE oq dH
  clear zP c11 k11 dH oq
  refine ⟨_,rfl,x,_,dx,_,rfl,tZ.ob,T.jl,T.gf,(by show 5 < 1000; decide),?_⟩
  have Gq:=tZ.obj (fs':=q6 ns ly ch D b)
  have fo:=tZ.fo (fs':=q6 ns ly ch D b)
  have c13:=c12.fr fo
  have k13:=gE fo j4 (λ_ _=>j4) k12.1 k12.2
  have zQ:=iN fo j4 j4 j4 mE.1 mE.2.1 mE.2.2
  dsimp only
  generalize upd tY x (.ins t.j3 dx (q6 ns ly ch D b)) = ZP at Gq c13 k13 zQ
  clear tZ c12 k12 mE fo
  have ZQ:=tX Gq
  refine hN _ _ (gd λN hN=>⟨_,rfl,sa,rfl,⟨_,af.of ZQ⟩,nI (K:=K) (a:=sa) (xs:=ns.map V.int) (λi ys U H'=>∃ v rr Z',U = [v] /\ ys = rr.map V.ref /\ rr.length = i /\ dj t Z H id x dx (q6 ns ly ch D b) Z' H' /\ Fr (λ_=>False) Z2 ZP Z' H' /\ ∀ (j:Nat) r,rr[j]? = some r -> Z' r = some (id,.row j) /\ H' r = some (.lst [])) ⟨none,[],Z2,rfl,rfl,rfl,Gq,Fr.refl,λj r e=>by cases e⟩ ?_ ?_ ?_⟩)
  .rintro i ys U H' hi ⟨v,rr,Z',rfl,rfl,lr,mm,ff,zR⟩
   rw [length_map] at hi
   refine ⟨af.of (tX mm),pI ?_⟩
   rw [length_map]
   omega
  .rintro i y ys U H' hy ⟨v,rr,Z',rfl,rfl,lr,mm,ff,zR⟩
   dsimp only [fC,rH]
   rw [if_pos rfl]
   refine ⟨cu,λp np=>⟨_,rr ++ [p],vg Z' p (id,.row i),rfl,?_,?_,mm.new np,ff.trans (Fr.bA np),λj r e=>?_⟩⟩
   .rw [map_append]; rfl
   .rw [length_append,lr]; rfl
   .by_cases z:j < rr.length
    .rw [List.getElem?_append_left z] at e
     obtain ⟨q1,q2⟩:=zR j r e
     have:r ≠ p:=jj q2 np
     exact ⟨by rw [zy this]; exact q1,by rw [jg this]; exact q2⟩
    .rw [List.getElem?_append_right (by omega)] at e
     have j0:j = rr.length:=by
      have:=(List.getElem?_eq_some_iff.mp e).1
      simp at this
      omega
     subst j0
     rw [Nat.sub_self] at e
     cases e
     rw [lr]
     exact ⟨qk,ja⟩
  .rintro ys U H' ⟨v,rr,Z3,rfl,rfl,lr,ZR,ot,zR⟩ ak ML
   rw [length_map] at lr
   have c14:=c13.fr ot
   have k14:=gE ot (λz=>z) (λ_ _ z=>z) k13.1 k13.2
   have Gr:=iN ot (λz=>z) (λz=>z) (λz=>z) zQ.1 zQ.2.1 zQ.2.2
   have jU:Fr (λ_=>False) Z3 H' (vg Z3 ak (id,.ak)) (upd H' ak (.lst (rr.map V.ref))):=Fr.bA ML
   have zS:=ZR.new (r:=(id,.ak)) ML (u:=.lst (rr.map V.ref))
   have c15:=c14.fr jU
   have k15:=gE jU (λz=>z) (λ_ _ z=>z) k14.1 k14.2
   have zT:=iN jU (λz=>z) (λz=>z) (λz=>z) Gr.1 Gr.2.1 Gr.2.2
   have a15:(vg Z3 ak (id,.ak)) ak = some (id,.ak) /\ ∃ rs,upd H' ak (.lst (rr.map V.ref)) ak = some (.lst (rs.map V.ref)) /\ lq (upd H' ak (.lst (rr.map V.ref))) (vg Z3 ak (id,.ak)) id rs (List.replicate ns.length []):=by
    refine ⟨qk,rr,ja,by rw [lr,length_replicate],λi r os e1 e2=>?_⟩
    obtain ⟨q1,q2⟩:=zR i r e1
    obtain ⟨q3,q4⟩:=gg jU q2 q1 (λz=>z)
    have:os = []:=List.eq_of_mem_replicate (mem_of_getElem? e2)
    subst this
    exact ⟨q4,[],q3,.nil⟩
   generalize vg Z3 ak (id,.ak) = Z4 at jU zS c15 k15 zT a15
   refine ⟨_,rfl,x,_,dx,_,rfl,zS.ob,T.jl,T.Fz,(by show 6 < 1000; decide),?_⟩
   have MM:=zS.obj (fs':=q7 ns ly ch D b ak)
   have fo:=zS.fo (fs':=q7 ns ly ch D b ak)
   have c16:=c15.fr fo
   have k16:=gE fo j4 (λ_ _=>j4) k15.1 k15.2
   have zU:=iN fo j4 j4 j4 zT.1 zT.2.1 zT.2.2
   have a16:=mC fo j4 (λ_=>j4) a15.1 a15.2
   dsimp only
   generalize upd (upd H' ak (.lst (rr.map V.ref))) x (.ins t.j3 dx (q7 ns ly ch D b ak)) = MN at MM c16 k16 zU a16
   refine hN _ _ ⟨cu,λwy MO=>?_⟩
   have lB:Fr (λ_=>False) Z4 MN (vg Z4 wy (id,.wy)) (upd MN wy (.lst [])):=Fr.bA MO
   have Gs:=MM.new (r:=(id,.wy)) MO (u:=.lst [])
   have c17:=c16.fr lB
   have k17:=gE lB (λz=>z) (λ_ _ z=>z) k16.1 k16.2
   have Gu:=iN lB (λz=>z) (λz=>z) (λz=>z) zU.1 zU.2.1 zU.2.2
   have a17:=mC lB (λz=>z) (λ_ z=>z) a16.1 a16.2
   refine ⟨_,rfl,x,_,dx,_,rfl,Gs.ob,T.jl,T.xa,(by show 7 < 1000; decide),?_⟩
   have zV:=Gs.obj (fs':=dg (ns.map V.int).length ns.sum ly ch D b ak wy)
   have iS:=Gs.fo (fs':=dg (ns.map V.int).length ns.sum ly ch D b ak wy)
   have c18:=c17.fr iS
   have k18:=gE iS j4 (λ_ _=>j4) k17.1 k17.2
   have ZS:=iN iS j4 j4 j4 Gu.1 Gu.2.1 Gu.2.2
   have a18:=mC iS j4 (λ_=>j4) a17.1 a17.2
   have ZT:=FZ (way:=[]) iS j4 qk ⟨[],ja,.nil⟩
   refine k _ _ ⟨x,dx,ns.sum,ly,ch,D,b,ak,wy,db,S⟩ rfl rfl ⟨⟨?_,zV.rx⟩,c18.c,k18,ZS,a18,ZT⟩ c18.l zV.fr zV.kr
   refine (zV.ob).trans ?_
   show some (HO.ins t.j3 dx (dg ((ns.map V.int).length:Int) ns.sum ly ch D b ak wy)) = some (HO.ins t.j3 dx (dg (ns.length:Int) ns.sum ly ch D b ak wy))
   rw [length_map]
theorem ZU (T:Txt K mg t):xl P w K mg base CX0 3 t.ur t.ua ["self","liar"] (λvs H Q _=>∃Z id W Y h ls,vs=[.ref W.x,.int h]/\qj t H Z id W Y/\H W.ly=some (.lst ((ls:List Int).map V.int))/\h∈ls/\Q .aq H):=by refine T.WN.bj (N:=["self","liar"]) λ_ A _ s H vs Q E hr h=>?_;obtain⟨Z,id,W,Y,h,ls,rfl,O,hl,hm,g⟩:=h;refine⟨_,(@jd _ _ _ (zh (PW.pt (eX (yt (xc (jr (yX T) hr.dn rfl T.yT T.tD.kp T.yU .nil ju (jc (pv 1) jf)))) (fR (jx rh (pv 1) (qd (pv 0) rfl) (by with_unfolding_all rfl))))) zg j6)),?_⟩;refine⟨_,rfl,h,rfl,_,rfl,we ?_⟩;refine⟨_,rfl,_,rfl,W.x,_,W.dx,_,_,rfl,O.ob.1,T.jl,T.LL,YG,W.ly,_,rfl,.inl (af.of hl),rfl,w6 _,_,rfl,?_⟩;rw[if_pos rfl,y6,decide_eq_true hm];exact we g
theorem zW {K:W.Frag}{H:Hp}{Z:ar}{xs:List V}{os:List O}(p:Paired (qh H Z) xs os):Paired (jM K H) xs (os.map zl):=by
 induction p with
 |nil=>exact .nil
 |cons h _ ih=>obtain⟨a,e,_,q⟩:=h;exact .cons ⟨a,e,ay.of q⟩ ih
noncomputable def Wd.may (Y:Wd)(o:O):Prop:=o.p∈Y.uh\/∃row,Y.asked[o.p.toNat]?=some row/\o∈row
theorem ZV (T:Txt K mg t):xl P w K mg base CX0 6 t.EC t.ED ["self","liar","order"] (λvs H Q _=>∃Z id W Y h q o ls a b c,vs=[.ref W.x,.int h,.ref q]/\qj t H Z id W Y/\aw Z H/\H W.ly=some (.lst ((ls:List Int).map V.int))/\h∈ls/\qh H Z (.ref q) o/\xq Y.n o=true/\Y.may o/\Sz Y a b c/\a+1<=1000/\b+1<=1000/\c+16<=100000/\∀Z' H',qj t H' Z' id W (Y.qm h [o])->Fr (pN id) Z H Z' H'->aw Z' H'->Q .aq H'):=by
 refine T.WZ.bj (N:=["self","liar","order"]) λ_ A _ s H vs Q E hr h=>?_;obtain⟨Z,id,W,Y,h,q,o,ls,a,b,c,rfl,O,kr,hl,hm,uq,ho,may,sz,la,lb,lc,g⟩:=h;refine⟨_,(@jb _ _ _ _ _ (qb (qc (pv 0) T.jl T.WO (ZU T) hr.dn T.WQ .nil ju (jc (pv 1) jf))) (@jb _ _ _ _ _ (qb (qc (pv 0) T.jl T.xu (wq T) hr.dn T.yp .nil ju (jc (pv 2) jf))) (@jb _ _ _ _ _ (zh (PW.pt (hZ (jx rh (j7 fb (pv 2) jh (λ_ _=>rfl)) (qd (pv 0) rfl) (by with_unfolding_all rfl)) (kD (jx (CP hr.units) (pv 2) (j7 jo (qd (pv 0) rfl) (j7 fb (pv 2) jh (λ_ _=>rfl)) (λ_ _=>rfl)) (by with_unfolding_all rfl))))) zg j6) (@jd _ _ _ (qb (qc (pv 0) T.jl T.y0 (ub T) hr.dn T.vk .nil ju (@aB _ _ _ _ _ (pv 1) (@qq _ _ _ _ (jc (pv 2) jf)) rfl rfl))))))),?_⟩;have Gd:=uq;obtain⟨_,eq,nq,hq⟩:=Gd;cases eq;refine⟨_,rfl,W.x,W.dx,_,rfl,O.ob.1,xi,_,rfl,Z,id,W,Y,h,ls,rfl,O,hl,hm,?_⟩;refine⟨_,rfl,W.x,W.dx,_,rfl,O.ob.1,xi,_,rfl,Z,id,W,Y,q,o,rfl,O,hq,ho,?_⟩;refine⟨_,rfl,q,cC o,0,.int o.p,rfl,rfl,ay.of hq,rfl,_,rfl,W.x,_,W.dx,_,_,rfl,O.ob.1,T.jl,T.ya,FU,W.ch,_,rfl,.inl (af.of O.ch.1),rfl,w6 _,_,rfl,?_⟩;rw[if_pos rfl,y6];refine bH (λz=>?_) (λ_=>we ?_)
 rotate_left
 .refine⟨_,rfl,W.x,W.dx,_,rfl,O.ob.1,xi,_,rfl,_,rfl,jO,λL nL=>?_⟩;have s1:=je (o:=.lst [.ref q]) nL;refine⟨Z,id,W,Y,h,L,[.ref q],[o],a,b,c,rfl,O.fr (P:=λ_=>False) (λ_ z=>z) (Fr.same s1),kr.same s1,ja,λro e=>?_,.cons (uq.fr (P:=λ_=>False) (Fr.same s1)) .nil,sz,la,lb,lc,λZ' H' O' f' uA=>g Z' H' O' ((Fr.same s1).trans f') uA⟩;rw[kr.none nL]at e;cases e
 have nc:o.p∉Y.uh:=by simpa using z
 obtain⟨row,er,om⟩:∃row,Y.asked[o.p.toNat]?=some row/\o∈row:=may.resolve_left nc;obtain⟨ra,rs,ha,eF⟩:=O.ak;obtain⟨r,MP⟩:∃r,rs[o.p.toNat]?=some r:=⟨_,getElem?_eq_getElem (by rw[eF.1];exact(List.getElem?_eq_some_iff.mp er).1)⟩;obtain⟨rr,xs,fP,px⟩:=eF.2 _ _ _ MP er;have p0:0<=o.p:=(xy.mp ho).1;refine⟨_,rfl,_,rfl,W.x,_,W.dx,_,_,rfl,O.ob.1,T.jl,T.Fz,Mj,_,rfl,q,cC o,0,.int o.p,rfl,rfl,ay.of hq,rfl,W.ak,_,o.p,.ref r,rfl,rfl,af.of ha,fN p0 (by rw[getElem?_map,MP];rfl),?_⟩;refine⟨r,xs,zl o,row.map zl,rfl,af.of fP,⟨q,rfl,ay.of hq⟩,zW px,_,rfl,?_⟩;rw[if_pos rfl,decide_eq_true (mem_map_of_mem om)];refine we ?_;refine⟨_,rfl,W.x,W.dx,_,rfl,O.ob.1,xi,_,rfl,_,rfl,jO,λL nL=>?_⟩;have s1:=je (o:=.lst [.ref q]) nL;refine⟨Z,id,W,Y,h,L,[.ref q],[o],a,b,c,rfl,O.fr (P:=λ_=>False) (λ_ z=>z) (Fr.same s1),kr.same s1,ja,λro e=>?_,.cons (uq.fr (P:=λ_=>False) (Fr.same s1)) .nil,sz,la,lb,lc,λZ' H' O' f' uA=>g Z' H' O' ((Fr.same s1).trans f') uA⟩;rw[kr.none nL]at e;cases e
theorem uC {α:Type}[DecidableEq α]:∀{xs ys:List α},xs.Nodup->(∀x∈xs,x∈ys)->xs.length<=ys.length
 |[],_,_,_=>zero_le _
 |x::xs,ys,nd,h=>by rw[nodup_cons]at nd;have hx:=h x mem_cons_self;have:=uC (xs:=xs) (ys:=ys.erase x) nd.2 λy hy=>(List.mem_erase_of_ne (λz=>nd.1 (by rw[<-z];exact hy))).mpr (h y (mem_cons_of_mem _ hy));rw[length_erase_of_mem hx]at this;have:=length_pos_of_mem hx;rw[length_cons];lia
theorem ZW (B:Kp)(o:O)(a:Gv):(bU B o a).1.length+(bU B o a).2.2.length<=a.1.length+a.2.2.length+1:=by
 unfold bU;split
 .simp;lia
 .split
  .simp;lia
  .omega
theorem MQ (B:Kp):∀(os:List O)(a:Gv),(gv B os a).1.length+(gv B os a).2.2.length<=a.1.length+a.2.2.length+os.length
 |[],a=>by simp[gv]
 |o::os,a=>by have h1:=MQ B os (bU B o a);have h2:=ZW B o a;unfold gv at h1⊢;rw[foldl_cons,length_cons];lia
theorem MR (B:Kp){P:O->Prop}:∀(os:List O)(a:Gv),(∀o∈os,P o)->(∀o∈a.2.1,P o)->∀o∈(gv B os a).2.1,P o
 |[],a,_,h=>h
 | o::os,a,h1,h2=>by
  unfold gv;rw[foldl_cons];refine MR B os _ (λo' h=>h1 o' (mem_cons_of_mem _ h)) ?_;unfold bU;split
  .intro o' h;rcases mem_append.mp h with h|h
   .exact h2 o' h
   .rw[mem_singleton.mp h];exact h1 o mem_cons_self
  .split
   .exact h2
   .exact h2
structure cQ (L:List O)(m n:Nat)(B:Kp):Prop where
 ok:B.Ok n
 sz:Ge B m
 u:∀o∈B.az,o∈L
 w:∀o∈B.wait,o∈L
theorem cQ.qm {L:List O}{m n:Nat}{B:Kp}(k:cQ L m n B):cQ L m n B.qm.1/\(∀o∈B.qm.2,o∈L)/\B.qm.2.length<=m:=by
 refine⟨⟨k.ok.qm,⟨k.sz.hd,?_,k.sz.dw⟩,FH B B.az _ k.u (λo h=>by cases h),k.w⟩,MR B B.az _ k.u (λo h=>by cases h),?_⟩
 .have h1:=MQ B B.az (B.cho,[],[]);have h2:=k.sz.uc;show(gv B B.az (B.cho,[],[])).2.2.length+(gv B B.az (B.cho,[],[])).1.length<=m;simp at h1;lia
 .have h1:=(FL B B.az (B.cho,[],[])).2.1;have h2:=k.sz.uc;show(gv B B.az (B.cho,[],[])).2.1.length<=m;simp at h1;lia
theorem cQ.go {L:List O}{m n:Nat}:∀{j:Nat}{B:Kp},cQ L m n B->cQ L m n (Kp.go j B)
 |0,_,k=>k
 | j+1,B,k=>by
  unfold Kp.go;cases e:B.first with
  |none=>exact k
  |some o=>
   have om:=nZ e;have l2:(B.step o).wait.length=B.wait.length-1:=length_erase_of_mem om;have l1:(B.step o).done.length=B.done.length+1:=by show(B.done++[o]).length=_;rw[length_append];rfl
   have:=length_pos_of_mem om;have:=k.sz.dw;exact cQ.go (B:=B.step o) ⟨k.ok.step o,⟨k.sz.hd,k.sz.uc,by lia⟩,k.u,λo' h=>k.w o' (List.mem_of_mem_erase h)⟩
theorem cQ.mono {L L':List O}{m m' n:Nat}{B:Kp}(k:cQ L m n B)(h1:∀o∈L,o∈L')(h2:m<=m'):cQ L' m' n B:=⟨k.ok,⟨le_trans k.sz.hd h2,le_trans k.sz.uc h2,le_trans k.sz.dw h2⟩,λo h=>h1 o (k.u o h),λo h=>h1 o (k.w o h)⟩
theorem cQ.take {L:List O}{m n:Nat}{B:Kp}(k:cQ L m n B)(b:Bool){o:O}(ol:o∈L)(ho:xq n o=true):cQ L (m+1) n (B.take b o).1/\(∀o'∈(B.take b o).2,o'∈L)/\(B.take b o).2.length<=m+1:=by
 have h1:=k.sz.hd;have h2:=k.sz.uc;have h3:=k.sz.dw;have uD:cQ L (m+1) n B/\(∀o'∈([]:List O),o'∈L)/\([]:List O).length<=m+1:=⟨k.mono (λ_ h=>h) (by lia),(λ_ z=>by cases z),zero_le _⟩;unfold Kp.take;split
 .unfold Kp.gX;split
  .exact uD
  .refine cQ.qm (m:=m+1) ⟨⟨k.ok.h,k.ok.x,λu hu=>?_,k.ok.w,k.ok.nd⟩,⟨by show(B.qe++[o]).length<=m+1;rw[length_append];show B.qe.length+1<=m+1;lia,by show(B.az++[o]).length+B.cho.length<=m+1;rw[length_append];show B.az.length+1+B.cho.length<=m+1;lia,by show B.done.length+B.wait.length<=m+1;lia⟩,λu hu=>?_,k.w⟩
   .rcases mem_append.mp hu with hu|hu
    .exact k.ok.u u hu
    .rw[mem_singleton.mp hu];exact ho
   .rcases mem_append.mp hu with hu|hu
    .exact k.u u hu
    .rw[mem_singleton.mp hu];exact ol
 .unfold Kp.eD;split
  .exact uD
  .rename_i nz;have no:¬o∈B.wait:=λz=>nz (by rw[decide_eq_true z,Bool.or_true]);refine cQ.qm (m:=m+1) (cQ.go ⟨⟨k.ok.h,k.ok.x,k.ok.u,λu hu=>?_,?_⟩,⟨by show B.qe.length<=m+1;lia,by show B.az.length+B.cho.length<=m+1;lia,by show B.done.length+(B.wait++[o]).length<=m+1;rw[length_append];show B.done.length+(B.wait.length+1)<=m+1;lia⟩,k.u,λu hu=>?_⟩)
   .rcases mem_append.mp hu with hu|hu
    .exact k.ok.w u hu
    .rw[mem_singleton.mp hu];exact ho
   .exact nodup_append.mpr ⟨k.ok.nd,by simp,λx hx y hy e=>by rw[mem_singleton.mp hy]at e;subst e;exact no hx⟩
   .rcases mem_append.mp hu with hu|hu
    .exact k.w u hu
    .rw[mem_singleton.mp hu];exact ol
structure iT (L:List O)(hs:List Int)(is:x9):Prop where
 nd:(is.map (·.1)).Nodup
 ks:∀x∈is,∃o∈L,x.1=zl o
 hn:∀x∈is,x.2.Nodup/\∀h∈x.2,h∈hs
theorem Gw {k:List Int}{h:Int}:∀{is:x9}{y:List Int},y∈(kg is k h).map (·.1)->y∈is.map (·.1)\/y=k
 |[],y,hy=>.inr (mem_singleton.mp hy)
 | p::ps,y,hy=>by
  unfold kg at hy;split at hy
  .rw[map_cons,mem_cons]at hy⊢;exact .inl hy
  .rw[map_cons,mem_cons]at hy⊢;rcases hy with hy|hy
   .exact .inl (.inl hy)
   .rcases Gw hy with h|h
    .exact .inl (.inr h)
    .exact .inr h
theorem iT.sign {L:List O}{hs:List Int}{o:O}{h:Int}(ol:o∈L)(hh:h∈hs):∀{is:x9},iT L hs is->h∉jv is (zl o)->iT L hs (kg is (zl o) h)
 |[],_,_=>⟨by simp[kg],λx hx=>by rw[mem_singleton.mp hx];exact⟨o,ol,rfl⟩,λx hx=>by rw[mem_singleton.mp hx];exact⟨by simp,λy hy=>by rw[mem_singleton.mp hy];exact hh⟩⟩
 | p ::ps,b,hn=>by
  have bt:iT L hs ps:=⟨(nodup_cons.mp b.nd).2,λx hx=>b.ks x (mem_cons_of_mem _ hx),λx hx=>b.hn x (mem_cons_of_mem _ hx)⟩;unfold kg;unfold jv at hn;split
  .rename_i z;rw[if_pos z]at hn;refine⟨b.nd,λx hx=>?_,λx hx=>?_⟩
   .rcases mem_cons.mp hx with rfl|hx
    .exact b.ks p mem_cons_self
    .exact bt.ks x hx
   .rcases mem_cons.mp hx with rfl|hx
    .obtain⟨q1,q2⟩:=b.hn p mem_cons_self;refine⟨nodup_append.mpr ⟨q1,by simp,λx1 mn y1 ZX e=>by rw[mem_singleton.mp ZX]at e;subst e;exact hn mn⟩,λy hy=>?_⟩;rcases mem_append.mp hy with hy|hy
     .exact q2 y hy
     .rw[mem_singleton.mp hy];exact hh
    .exact bt.hn x hx
  .rename_i z;rw[if_neg z]at hn;have ih:=bt.sign ol hh hn;refine⟨?_,λx hx=>?_,λx hx=>?_⟩
   .rw[map_cons,nodup_cons];refine⟨λy=>?_,ih.nd⟩;rcases Gw y with y|y
    .exact(nodup_cons.mp b.nd).1 y
    .exact z y
   .rcases mem_cons.mp hx with rfl|hx
    .exact b.ks _ mem_cons_self
    .exact ih.ks x hx
   .rcases mem_cons.mp hx with rfl|hx
    .exact b.hn _ mem_cons_self
    .exact ih.hn x hx
theorem iT.len {L:List O}{hs:List Int}{is:x9}(b:iT L hs is):is.length<=L.length/\∀x∈is,x.2.length<=hs.length:=by
 refine⟨?_,λx hx=>uC (b.hn x hx).1 (b.hn x hx).2⟩;have:=uC (ys:=L.map zl) b.nd λy hy=>by obtain⟨x,hx,rfl⟩:=mem_map.mp hy;obtain⟨o,ol,e⟩:=b.ks x hx;rw[e];exact mem_map_of_mem ol
 rwa[length_map,length_map]at this
structure Wd.jV (Y Y':Wd):Prop where
 n:Y'.n=Y.n
 c:Y'.uh=Y.uh
 k:Y'.ks=Y.ks
 e:Y'.en=Y.en
 a:Y'.asked=Y.asked
theorem Wd.jV.trans {a b c:Wd}(x:a.jV b)(y:b.jV c):a.jV c:=⟨y.n.trans x.n,y.c.trans x.c,y.k.trans x.k,y.e.trans x.e,y.a.trans x.a⟩
theorem zX (Y:Wd)(h:Int)(o:O):Y.jV (Y.put h o).1:=by
 unfold Wd.put;split
 .exact⟨rfl,rfl,rfl,rfl,rfl⟩
 .exact⟨rfl,rfl,rfl,rfl,rfl⟩
theorem zY (Y:Wd)(h:Int)(o:O):Y.jV (Y.bg h o):=by
 have p:=zX Y h o;unfold Wd.bg;split
 .exact⟨p.n,p.c,p.k,p.e,p.a⟩
 .exact p
theorem zZ {Y:Wd}{h:Int}(m:h∈Y.ks.map (·.1)):∃B,Y.keep h=some B/\(h,B)∈Y.ks:=by
 unfold Wd.keep;cases e:Y.ks.find? λc=>decide (c.1=h)with
 |none=>obtain⟨c,hc,rfl⟩:=mem_map.mp m;have:=List.find?_eq_none.mp e c hc;simp at this
 |some c=>have h1:c.1=h:=of_decide_eq_true (List.find?_some (p:=λc:Int×Kp=>decide (c.1=h)) e);refine⟨c.2,rfl,?_⟩;rw[<-h1];exact List.mem_of_find?_eq_some e
theorem Gx {k k':List Int}{h:Int}:∀{is:x9},jv (kg is k h) k'=if k'=k then jv is k++[h]else jv is k'
 |[]=>by
  show(if k=k' then[h]else[])=_;by_cases z:k'=k
  .rw[if_pos z,if_pos z.symm];rfl
  .rw[if_neg z,if_neg (λy=>z y.symm)];rfl
 | p::ps=>by
  unfold kg;by_cases y:p.1=k
  .rw[if_pos y];show(if p.1=k' then p.2++[h]else jv ps k')=if k'=k then(if p.1=k then p.2 else jv ps k)++[h]else if p.1=k' then p.2 else jv ps k';by_cases z:k'=k
   .rw[if_pos z,if_pos y,if_pos (by rw[y,z])]
   .rw[if_neg z,if_neg (λq=>z (by rw[<-q,y])),if_neg (λq=>z (by rw[<-q,y]))]
  .rw[if_neg y];show(if p.1=k' then p.2 else jv (kg ps k h) k')=if k'=k then(if p.1=k then p.2 else jv ps k)++[h]else if p.1=k' then p.2 else jv ps k';rw[Gx (is:=ps),if_neg y];by_cases z:k'=k
   .rw[if_pos z,if_pos z,if_neg (λq=>y (by rw[q,z]))]
   .rw[if_neg z,if_neg z]
theorem ZY (Y:Wd)(h:Int)(o:O)(k:List Int):(jv Y.bd k).length<=(jv (Y.put h o).1.bd k).length:=by
 unfold Wd.put;split
 .exact le_refl _
 .show _<=(jv (kg Y.bd (zl o) h) k).length;rw[Gx];split
  .rename_i z;rw[z,length_append];lia
  .exact le_refl _
theorem ZZ (Y:Wd)(h:Int)(o u:O)(c:Y.carried u=true):(Y.put h o).1.carried u=true:=by have e:=(zX Y h o).e;have l:=ZY Y h o (zl u);unfold Wd.carried at c⊢;have:=of_decide_eq_true c;exact decide_eq_true (by rw[e];lia)
theorem Z8 {Y:Wd}{h:Int}{o:O}(c:(Y.put h o).2=true):(Y.put h o).1.carried o=true:=by
 unfold Wd.put at c⊢;split at c
 .cases c
 .rename_i z;rw[if_neg z];have:=of_decide_eq_true c;refine decide_eq_true ?_;show Y.en<=((jv (kg Y.bd (zl o) h) (zl o)).length:Int);rw[Gx,if_pos rfl,length_append];show Y.en<=(((jv Y.bd (zl o)).length+1:Nat):Int);lia
theorem Aa (Y:Wd)(h:Int)(o:O):(Y.bg h o).bd=(Y.put h o).1.bd:=by unfold Wd.bg;split<;>rfl
theorem MS {Y:Wd}{h:Int}{o u:O}(c:Y.carried u=true):(Y.bg h o).carried u=true:=by have:=ZZ Y h o u c;unfold Wd.carried at this⊢;rw[Aa,(zY Y h o).e,<-(zX Y h o).e];exact this
structure WG (Y:Wd)(L:List O)(hb:List Int):Prop where
 b:iT L hb Y.bd
 y:∀x∈Y.way,x.2.2∈L/\x.2.1∈Y.ks.map (·.1)/\(x.1=false->Y.carried x.2.2=true)
theorem WG.bg {Y:Wd}{L:List O}{hb:List Int}{h:Int}{o:O}(g:WG Y L hb)(ol:o∈L)(hh:h∈hb):WG (Y.bg h o) L hb/\(Y.bg h o).way.length<=Y.way.length+Y.ks.length:=by
 have pb:iT L hb (Y.put h o).1.bd/\(Y.put h o).1.way=Y.way/\(Y.put h o).1.ks=Y.ks:=by
  unfold Wd.put;split
  .exact⟨g.b,rfl,rfl⟩
  .rename_i hn;exact⟨g.b.sign ol hh hn,rfl,rfl⟩
 have lk:=zY Y h o;have old:∀x∈Y.way,x.2.2∈L/\x.2.1∈(Y.bg h o).ks.map (·.1)/\(x.1=false->(Y.bg h o).carried x.2.2=true):=λx hx=>by obtain⟨a,b,c⟩:=g.y x hx;exact⟨a,by rw[lk.k];exact b,λe=>MS (c e)⟩
 by_cases z:(Y.put h o).2=true
 .have ew:(Y.bg h o).way=Y.way++Y.ks.map λc=>(false,c.1,o):=by
   unfold Wd.bg;rw[if_pos z];show(Y.put h o).1.way++_=_;rw[pb.2.1,pb.2.2]
  refine⟨⟨by rw[Aa];exact pb.1,λx hx=>?_⟩,by rw[ew,length_append,length_map];exact le_refl _⟩;rw[ew]at hx;rcases mem_append.mp hx with hx|hx
  .exact old x hx
  .obtain⟨c,hc,rfl⟩:=mem_map.mp hx;refine⟨ol,by rw[lk.k];exact mem_map_of_mem hc,λ_=>?_⟩;have:=Z8 z;unfold Wd.carried at this⊢;rw[Aa,lk.e,<-(zX Y h o).e];exact this
 .have ew:(Y.bg h o).way=Y.way:=by
   unfold Wd.bg;rw[if_neg z,pb.2.1]
  exact⟨⟨by rw[Aa];exact pb.1,λx hx=>old x (by rw[<-ew];exact hx)⟩,by rw[ew];lia⟩
theorem WG.qm {L:List O}{hb:List Int}{h:Int}(hh:h∈hb):∀{os:List O}{Y:Wd},(∀o∈os,o∈L)->WG Y L hb->WG (Y.qm h os) L hb/\Y.jV (Y.qm h os)/\(∀u,Y.carried u=true->(Y.qm h os).carried u=true)/\(Y.qm h os).way.length<=Y.way.length+Y.ks.length*os.length
 |[],Y,_,g=>⟨g,⟨rfl,rfl,rfl,rfl,rfl⟩,λ_ h=>h,le_refl _⟩
 |o::os,Y,ol,g=>by obtain⟨g1,l1⟩:=g.bg (ol o mem_cons_self) hh;have lk:=zY Y h o;obtain⟨g2,k2,c2,l2⟩:=WG.qm hh (os:=os) (Y:=Y.bg h o) (λo' h'=>ol o' (mem_cons_of_mem _ h')) g1;refine⟨g2,lk.trans k2,λu hu=>c2 u (MS hu),?_⟩;show((Y.bg h o).qm h os).way.length<=_;rw[lk.k]at l2;rw[length_cons,Nat.mul_succ];lia
structure Gn (Y:Wd)(T M:Nat)(L:List O)(ls ns:List Int):Prop where
 ok:Y.Ok
 l:L.length<=T
 lo:∀o∈L,xq Y.n o=true
 mw:∀o∈L,Y.may o
 ks:∀c∈Y.ks,cQ L T Y.n c.2
 g:WG Y L (Y.ks.map (·.1)++ls)
 wl:Y.way.length<=M
 al:∀row∈Y.asked,row.length<=T
 e1:1<=Y.en
theorem iT.mono {L L':List O}{hs:List Int}{is:x9}(b:iT L hs is)(h:∀o∈L,o∈L'):iT L' hs is:=⟨b.nd,λx hx=>let⟨o,a,c⟩:=b.ks x hx;⟨o,h o a,c⟩,b.hn⟩
section
variable {Y:Wd}{T M T' M':Nat}{L:List O}{ls ns:List Int}
theorem Gn.mono (g:Gn Y T M L ls ns)(hT:T<=T')(hM:M<=M'):Gn Y T' M' L ls ns:=⟨g.ok,le_trans g.l hT,g.lo,g.mw,λc hc=>(g.ks c hc).mono (λ_ h=>h) hT,g.g,le_trans g.wl hM,λrow hr=>le_trans (g.al row hr) hT,g.e1⟩
theorem Gn.Z9 (g:Gn Y T M L ls ns){b:Bool}{h:Int}{o:O}(ol:o∈L)(hh:h∈Y.ks.map (·.1))(hb:b=false->Y.carried o=true):Gn {Y with way:=Y.way++[(b,h,o)]} T (M+1) L ls ns:=by
 refine⟨⟨g.ok.n8,g.ok.al,g.ok.ao,g.ok.ks,g.ok.nd,g.ok.k0,g.ok.k1⟩,g.l,g.lo,g.mw,g.ks,⟨g.g.b,λx hx=>?_⟩,?_,g.al,g.e1⟩
 .rcases mem_append.mp (show x∈Y.way++[(b,h,o)]from hx)with hx|hx
  .exact g.g.y x hx
  .rw[mem_singleton.mp hx];exact⟨ol,hh,hb⟩
 .show(Y.way++[(b,h,o)]).length<=M+1;rw[length_append];have:=g.wl;show Y.way.length+1<=M+1;lia
theorem Gn.more (g:Gn Y T M L ls ns){o:O}(ho:xq Y.n o=true)(hm:Y.may o):Gn Y (T+1) M (o::L) ls ns:=by
 have sub:∀u∈L,u∈o::L:=λu h=>mem_cons_of_mem _ h;refine⟨g.ok,by rw[length_cons];have:=g.l;lia,λu hu=>?_,λu hu=>?_,λc hc=>(g.ks c hc).mono sub (by lia),⟨g.g.b.mono sub,λx hx=>?_⟩,g.wl,λrow hr=>le_succ_of_le (g.al row hr),g.e1⟩
 .rcases mem_cons.mp hu with rfl|hu
  .exact ho
  .exact g.lo u hu
 .rcases mem_cons.mp hu with rfl|hu
  .exact hm
  .exact g.mw u hu
 .obtain⟨a,b,c⟩:=g.g.y x hx;exact⟨sub _ a,b,c⟩
theorem Gn.j6n (g:Gn Y T M L ls ns){o:O}{h:Int}(ho:xq Y.n o=true)(hm:o.p∈Y.uh)(hh:h∈Y.ks.map (·.1)):Gn {Y with way:=Y.way++[(true,h,o)]} (T+1) (M+1) (o::L) ls ns:=(g.more ho (.inl hm)).Z9 mem_cons_self hh (λz=>by cases z)
theorem Gn.qm (g:Gn Y T M L ls ns){h:Int}(hh:h∈Y.ks.map (·.1)++ls){os:List O}(ol:∀o∈os,o∈L):Gn (Y.qm h os) T (M+16*os.length) L ls ns:=by
 obtain⟨g2,lk,cc,l2⟩:=WG.qm hh ol g.g;refine⟨⟨by rw[lk.n];exact g.ok.n8,by rw[lk.a,lk.n];exact g.ok.al,by rw[lk.a,lk.n];exact g.ok.ao,by rw[lk.k,lk.n];exact g.ok.ks,by rw[lk.k];exact g.ok.nd,by rw[lk.k];exact g.ok.k0,by rw[lk.k];exact g.ok.k1⟩,g.l,by rw[lk.n];exact g.lo,λo ho=>?_,?_,by rw[lk.k];exact g2,?_,by rw[lk.a];exact g.al,by rw[lk.e];exact g.e1⟩
 .have:=g.mw o ho;unfold Wd.may at this⊢;rw[lk.c,lk.a];exact this
 .rw[lk.k,lk.n];exact g.ks
 .refine le_trans l2 ?_;have h1:=g.wl;have h2:=Nat.mul_le_mul_right os.length g.ok.k1;lia
theorem Gn.iM (g:Gn Y T M L ls ns){i:Nat}{l:Bool×Int×O}{B:Kp}(el:Y.way[i]?=some l)(ek:Y.keep l.2.1=some B):Gn (Y.iM i l B) (T+1) (M+16*(T+1)) L ls ns:=by
 obtain⟨lL,lh,lc⟩:=g.g.y l (mem_of_getElem? el);obtain⟨κ',MT,km⟩:=zZ lh;rw[ek]at MT;cases MT;have kk:=g.ks _ km;obtain⟨k1,k2,k3⟩:=kk.take l.1 lL (g.lo _ lL);have fQ:(bC Y.ks l.2.1 (B.take l.1 l.2.2).1).map (·.1)=Y.ks.map (·.1):=by
  unfold bC;rw[map_map];refine List.map_congr_left λc _=>?_;show(if c.1=l.2.1 then(l.2.1,(B.take l.1 l.2.2).1)else c).1=c.1;split
  .rename_i z;exact z.symm
  .rfl
 have MU:∀c∈bC Y.ks l.2.1 (B.take l.1 l.2.2).1,cQ L (T+1) Y.n c.2:=λc hc=>by
  obtain⟨c',i3,rfl⟩:=mem_map.mp hc;split
  .exact k1
  .exact(g.ks c' i3).mono (λ_ h=>h) (by lia)
 have mid:Gn {Y with way:=Y.way.eraseIdx i,ks:=bC Y.ks l.2.1 (B.take l.1 l.2.2).1} (T+1) M L ls ns:=by refine⟨⟨g.ok.n8,g.ok.al,g.ok.ao,λc hc=>(MU c hc).ok,by show((bC Y.ks l.2.1 _).map _).Nodup;rw[fQ];exact g.ok.nd,by show 0<(bC _ _ _).length;rw[tS];exact g.ok.k0,by show(bC _ _ _).length<=16;rw[tS];exact g.ok.k1⟩,le_succ_of_le g.l,g.lo,g.mw,MU,?_,le_trans (length_eraseIdx_le _ _) g.wl,λrow hr=>le_succ_of_le (g.al row hr),g.e1⟩;show WG _ L ((bC Y.ks l.2.1 _).map (·.1)++ls);rw[fQ];refine⟨g.g.b,λx hx=>?_⟩;obtain⟨a,b,c⟩:=g.g.y x (List.mem_of_mem_eraseIdx hx);exact⟨a,by show _∈(bC Y.ks l.2.1 _).map (·.1);rw[fQ];exact b,c⟩
 have q:=mid.qm (h:=l.2.1) (by show _∈(bC Y.ks l.2.1 _).map (·.1)++ls;rw[fQ];exact mem_append_left _ lh) k2;exact q.mono (le_refl _) (by have:=Nat.mul_le_mul_left 16 k3;lia)
theorem Gn.ask (g:Gn Y T M L ls ns)(hT:T<=90){p g' m:Int}{row:List O}(hp:0<=p/\p<(Y.n:Int))(hg:0<=g'/\g'<(Y.n:Int))(ng:g'≠p)(hm:1<=m/\m<=1000)(er:Y.asked[p.toNat]?=some row):Gn (Y.asks ⟨p,row.length,g',m⟩ row) (T+1) (M+16) (⟨p,row.length,g',m⟩::L) ls ns:=by
 have lr:=g.al row (mem_of_getElem? er);have lp:=(List.getElem?_eq_some_iff.mp er).1;have ho:xq Y.n ⟨p,row.length,g',m⟩=true:=xy.mpr ⟨hp.1,by show p<=(Y.n:Int)-1;lia,hg.1,by show g'<=(Y.n:Int)-1;lia,λz=>ng z.symm,by show(0:Int)<=row.length;lia,by show(row.length:Int)<=99;lia,hm.1,hm.2⟩;have sub:∀o∈L,o∈(⟨p,row.length,g',m⟩:O)::L:=λo h=>mem_cons_of_mem _ h;have mid:Gn {Y with asked:=Y.asked.set p.toNat (row++[⟨p,row.length,g',m⟩])} T M L ls ns->Gn {Y with asked:=Y.asked.set p.toNat (row++[⟨p,row.length,g',m⟩])} T M L ls ns:=id;refine⟨⟨g.ok.n8,by show(Y.asked.set _ _).length=Y.n;rw[length_set];exact g.ok.al,λr hr o bL=>?_,g.ok.ks,g.ok.nd,g.ok.k0,g.ok.k1⟩,by rw[length_cons];have:=g.l;lia,λo h=>?_,λo h=>?_,λc hc=>(g.ks c hc).mono sub (by lia),⟨g.g.b.mono sub,λx hx=>?_⟩,?_,λr hr=>?_,g.e1⟩
 .rcases List.mem_or_eq_of_mem_set (show r∈Y.asked.set p.toNat (row++[⟨p,row.length,g',m⟩])from hr)with hr|rfl
  .exact g.ok.ao r hr o bL
  .rcases mem_append.mp bL with h|h
   .exact g.ok.ao row (mem_of_getElem? er) o h
   .rw[mem_singleton.mp h];exact ho
 .rcases mem_cons.mp h with rfl|h
  .exact ho
  .exact g.lo o h
 .show o.p∈Y.uh\/∃lC,(Y.asked.set p.toNat (row++[⟨p,row.length,g',m⟩]))[o.p.toNat]?=some lC/\o∈lC;rcases mem_cons.mp h with rfl|h
  .exact .inr ⟨_,getElem?_set_self lp,mem_append_right _ (mem_singleton.mpr rfl)⟩
  .rcases g.mw o h with h|⟨lC,e,h⟩
   .exact .inl h
   .by_cases z:o.p.toNat=p.toNat
    .rw[z]at e⊢;rw[er]at e;cases e;exact .inr ⟨_,getElem?_set_self lp,mem_append_left _ h⟩
    .exact .inr ⟨lC,by rw[getElem?_set_ne (λy=>z y.symm)];exact e,h⟩
 .rcases mem_append.mp (show x∈Y.way++Y.ks.map λc=>(true,c.1,(⟨p,row.length,g',m⟩:O))from hx)with fZ|fZ
  .obtain⟨a,b,c⟩:=g.g.y x fZ;exact⟨sub _ a,b,c⟩
  .obtain⟨c,hc,rfl⟩:=mem_map.mp fZ;exact⟨mem_cons_self,mem_map_of_mem hc,λz=>by cases z⟩
 .show(Y.way++Y.ks.map λc=>(true,c.1,(⟨p,row.length,g',m⟩:O))).length<=M+16;rw[length_append,length_map];have:=g.wl;have:=g.ok.k1;lia
 .rcases List.mem_or_eq_of_mem_set (show r∈Y.asked.set p.toNat (row++[⟨p,row.length,g',m⟩])from hr)with hr|rfl
  .exact le_succ_of_le (g.al r hr)
  .rw[length_append];show row.length+1<=T+1;lia
theorem Gn.sz (g:Gn Y T M L ls ns):Sz Y L.length (Y.ks.length+ls.length) M:=by obtain⟨b1,b2⟩:=g.g.b.len;refine⟨b1,λx hx=>?_,g.wl,g.ok.k1⟩;have:=b2 x hx;rwa[length_append,length_map]at this
end
theorem j67 {h f:Int}{ns cs ls:List Int}(h1:1<=h/\h<=16)(hf:0<=f)(lt:3*f<h)(l8:ns.length<=8)(n0:∀x∈ns,0<=x)(ll:(ls.length:Int)<=f)(lr:∀x∈ls,0<=x/\x<h):Gn (w0 h f ns cs ls) 0 0 [] ls ns:=by
 have ek:(w0 h f ns cs ls).ks.map (·.1)=aS ls h.toNat:=by show((aS ls h.toNat).map λi=>(i,fw ns)).map (·.1)=_;rw[map_map];exact List.map_id _
 have uE:∀c∈(w0 h f ns cs ls).ks,c.2=fw ns:=λc hc=>by obtain⟨i,_,rfl⟩:=mem_map.mp (show c∈(aS ls h.toNat).map λi=>(i,fw ns)from hc);rfl
 have lk:(w0 h f ns cs ls).ks.length=(aS ls h.toNat).length:=length_map ..;have eK:cQ [] 0 ns.length (fw ns):=⟨⟨rfl,by show(List.replicate _ _).length=_;rw[length_replicate],λ_ z=>(by cases z),λ_ z=>(by cases z),nodup_nil⟩,⟨le_refl _,le_refl _,le_refl _⟩,λ_ z=>(by cases z),λ_ z=>(by cases z)⟩;have cn:(aS ls h.toNat).Nodup:=by unfold aS;exact List.Pairwise.filter _ (List.Pairwise.map _ (λa b dy z=>dy (Int.ofNat.inj z)) nodup_range)
 have c1:0<(aS ls h.toNat).length:=by
  have hl:((List.range h.toNat).map λ(i:Nat)=>(i:Int)).length<=(aS ls h.toNat).length+ls.length:=by
   rw[<-length_append];refine uC (List.Pairwise.map _ (λa b dy z=>dy (Int.ofNat.inj z)) nodup_range) λx hx=>?_;by_cases z:x∈ls
   .exact mem_append_right _ z
   .exact mem_append_left _ (mem_filter.mpr ⟨hx,by simp[z]⟩)
  rw[length_map,length_range]at hl;lia
 have c2:=Gh ls h.toNat;refine⟨⟨l8,by show(List.replicate _ _).length=_;rw[length_replicate];rfl,λrow hr o ho=>?_,λc hc=>by rw[uE c hc];exact eK.ok,by rw[ek];exact cn,by rw[lk];exact c1,by rw[lk];lia⟩,le_refl _,λ_ z=>(by cases z),λ_ z=>(by cases z),λc hc=>by rw[uE c hc];exact eK,⟨⟨nodup_nil,λ_ z=>(by cases z),λ_ z=>(by cases z)⟩,λ_ z=>(by cases z)⟩,le_refl _,λrow hr=>?_,by show 1<=h-f;lia⟩
 .have:row=[]:=List.eq_of_mem_replicate hr;subst this;cases ho
 .have:row=[]:=List.eq_of_mem_replicate hr;subst this;exact le_refl _
theorem jxk (xs:List Int)(i:Int)(d:Int)(hd:0<=d)(j:Int):gI xs j<=gI (yw xs i d) j:=by
 unfold gI yw;by_cases z:i.toNat=j.toNat
 .rw[z];by_cases l:j.toNat<xs.length
  .rw[getElem?_set_self l];show _<=gI xs i+d;unfold gI;rw[z];lia
  .rw[List.getElem?_eq_none (show xs.length<=j.toNat by lia),List.getElem?_eq_none (by rw[length_set];lia)];exact Int.le_refl _
 .rw[getElem?_set_ne z];exact Int.le_refl _
theorem Gy {c c':List ((Int×Int)×O)}{o:O}(h:cv c o=true):cv (c++c') o=true:=by unfold cv at h⊢;rw[List.any_append,h];rfl
theorem jws (c:List ((Int×Int)×O))(o:O):cv (c++[((o.p,o.n),o)]) o=true:=by unfold cv;rw[List.any_append];simp
structure uF (B:Kp)(os:List O)(a:Gv):Prop where
 s:a.2.2.Sublist os
 d:∀o∈os,o∈a.2.2\/cv a.1 o=true\/B.past o=true
 n:∀o∈a.2.2,B.bO o=false
 m:∀o,cv B.cho o=true->cv a.1 o=true
theorem uF.step {B:Kp}{os:List O}{a:Gv}(g:uF B os a)(o:O):uF B (os++[o]) (bU B o a):=by
 have mem:∀{y},y∈os++[o]->y∈os\/y=o:=λh=>(mem_append.mp h).imp id mem_singleton.mp;unfold bU;split
 .refine⟨g.s.trans (List.sublist_append_left _ _),λy hy=>?_,g.n,λy hy=>Gy (g.m y hy)⟩;rcases mem hy with hy|rfl
  .exact(g.d y hy).imp id λh=>h.imp Gy id
  .exact .inr (.inl (jws _ _))
 .rename_i z;split
  .rename_i z2;rw[Bool.and_eq_true]at z2;have c0:cv a.1 o=false:=by simpa using z2.2
   have d0:B.bO o=false:=by
    cases e:B.bO o with
    |false=>rfl
    |true=>exact absurd (by rw[e,c0];rfl) z
   refine⟨g.s.append (List.Sublist.refl _),λy hy=>?_,λy hy=>?_,g.m⟩
   .rcases mem hy with hy|rfl
    .exact(g.d y hy).imp (λh=>mem_append_left _ h) id
    .exact .inl (mem_append_right _ (mem_singleton.mpr rfl))
   .rcases mem_append.mp hy with hy|hy
    .exact g.n y hy
    .rw[mem_singleton.mp hy];exact d0
  .rename_i z2;refine⟨g.s.trans (List.sublist_append_left _ _),λy hy=>?_,g.n,g.m⟩;rcases mem hy with hy|rfl
   .exact g.d y hy
   .refine .inr ?_;cases e1:cv a.1 y with
    |true=>exact .inl rfl
    |false=>
     cases e2:B.past y with
     |true=>exact .inr rfl
     |false=>exact absurd (by rw[e1,e2];rfl) z2
theorem MV (B:Kp):∀(l os:List O)(a:Gv),uF B os a->uF B (os++l) (gv B l a)
 |[],os,a,g=>by rw[append_nil];exact g
 |o::l,os,a,g=>by have:=MV B l (os++[o]) (bU B o a) (g.step o);rw[List.append_assoc]at this;exact this
structure lD (B:Kp):Prop where
 nd:B.qe.Nodup
 sb:B.az.Sublist B.qe
 dd:∀o∈B.qe,o∉B.az->cv B.cho o=true\/B.past o=true
 fi:B.first=none
structure KR (B:Kp):Prop where
 z:lD B
 no:∀o∈B.az,B.bO o=false
theorem lD.qm {B:Kp}(z:lD B):KR B.qm.1:=by
 have g:=MV B B.az [] (B.cho,[],[]) ⟨List.Sublist.refl _,λ_ h=>(by cases h),λ_ h=>(by cases h),λ_ h=>h⟩;rw[List.nil_append]at g;refine⟨⟨z.nd,g.s.trans z.sb,λo ho hn=>?_,z.fi⟩,g.n⟩;by_cases y:o∈B.az
 .exact(g.d o y).resolve_left hn
 .exact(z.dd o ho y).imp (g.m o) id
theorem MW:∀(n:Nat)(B:Kp),B.wait.length<=n->(Kp.go n B).first=none
 |0,B,h=>by have:B.wait=[]:=List.length_eq_zero_iff.mp (by lia);show B.first=none;unfold Kp.first;rw[this];rfl
 |n+1,B,h=>by
  unfold Kp.go;cases e:B.first with
  |none=>exact e
  |some o=>refine MW n _ ?_;have om:=nZ e;have l2:(B.step o).wait.length=B.wait.length-1:=length_erase_of_mem om;have:=length_pos_of_mem om;lia
theorem MX {o:O}:∀(n:Nat)(B:Kp),B.past o=true->(Kp.go n B).past o=true
 |0,_,h=>h
 |n+1,B,h=>by
  unfold Kp.go;cases B.first with
  |none=>exact h
  |some u=>refine MX n _ ?_;have h1:=of_decide_eq_true h;have h2:=jxk B.qz u.p 1 (by decide) o.p;exact decide_eq_true (Int.lt_of_lt_of_le h1 h2)
theorem go_same:∀(n:Nat)(B:Kp),(Kp.go n B).qe=B.qe/\(Kp.go n B).az=B.az/\(Kp.go n B).cho=B.cho
 |0,_=>⟨rfl,rfl,rfl⟩
 |n+1,B=>by
  unfold Kp.go;cases B.first with
  |none=>exact⟨rfl,rfl,rfl⟩
  |some o=>exact go_same n (B.step o)
theorem KR.qe {B:Kp}(z:KR B){o:O}(hn:o∉B.qe):lD {B with qe:=B.qe++[o],az:=B.az++[o]}:=by
 refine⟨nodup_append.mpr ⟨z.z.nd,by simp,λx hx y hy e=>?_⟩,z.z.sb.append (List.Sublist.refl _),λu hu hv=>?_,z.z.fi⟩
 .rw[mem_singleton.mp hy]at e;exact hn (e ▸ hx)
 .rcases mem_append.mp hu with hu|hu
  .exact z.z.dd u hu λy=>hv (mem_append_left _ y)
  .exact absurd (mem_append_right _ hu) hv
theorem KR.eT {B:Kp}(z:KR B)(o:O):lD (Kp.eT {B with wait:=B.wait++[o]}):=by unfold Kp.eT;obtain⟨e1,e2,e3⟩:=go_same (B.wait++[o]).length {B with wait:=B.wait++[o]};refine⟨by rw[e1];exact z.z.nd,by rw[e1,e2];exact z.z.sb,λu hu hv=>?_,MW _ _ (le_refl _)⟩;rw[e1]at hu;rw[e2]at hv;rw[e3];exact(z.z.dd u hu hv).imp id λh=>MX _ _ h
theorem KR.take {B:Kp}(z:KR B)(b:Bool)(o:O):KR (B.take b o).1:=by
 unfold Kp.take;split
 .unfold Kp.gX;split
  .exact z
  .rename_i h;exact(z.qe h).qm
 .unfold Kp.eD;split
  .exact z
  .exact(z.eT o).qm
theorem j4q (ns:List Int):KR (fw ns):=⟨⟨nodup_nil,List.Sublist.refl _,λ_ h=>(by cases h),rfl⟩,λ_ h=>by cases h⟩
noncomputable def cR (B:Kp)(a:List ((Int×Int)×O)×List O)(o:O):List ((Int×Int)×O)×List O:=if(!cv a.1 o&&B.bO o)=true then(a.1++[((o.p,o.n),o)],a.2++[o])else a
theorem j6e {B:Kp}:∀{u l:List O},u.Sublist l->l.Nodup->(∀o∈l,o∉u->cv B.cho o=true\/B.past o=true)->∀a:Gv,(∀o,cv B.cho o=true->cv a.1 o=true)->l.foldl (cR B) (a.1,a.2.1)=((gv B u a).1,(gv B u a).2.1):=λ{u l} s=>by
 induction s with
 |slnil=>exact λ_ _ a _=>rfl
 | @cons u l o s ih=>
  intro nd dd a m;rw[nodup_cons]at nd;have ou:o∉u:=λh=>nd.1 (s.subset h);have e:cR B (a.1,a.2.1) o=(a.1,a.2.1):=by
   unfold cR;rw[if_neg];rw[Bool.and_eq_true]
   rintro⟨h1,h2⟩
   rcases dd o mem_cons_self ou with h|h
   .have:=m o h;simp[this]at h1
   .unfold Kp.bO at h2;rw[Bool.and_eq_true]at h2;have h3:=of_decide_eq_true h2.1;have h4:=of_decide_eq_true h;lia
  rw[foldl_cons,e];exact ih nd.2 (λy hy hn=>dd y (mem_cons_of_mem _ hy) hn) a m
 | @cons_cons u l o s ih=>
  intro nd dd a m;rw[nodup_cons]at nd;have e:cR B (a.1,a.2.1) o=((bU B o a).1,(bU B o a).2.1):=by
   unfold cR bU;rw[Bool.and_comm];split
   .rfl
   .split<;>rfl
  rw[foldl_cons,e];refine ih nd.2 (λy hy hn=>dd y (mem_cons_of_mem _ hy) λh=>?_) (bU B o a) λy hy=>?_
  .rcases mem_cons.mp h with h|h
   .exact nd.1 (h ▸ hy)
   .exact hn h
  .unfold bU;split
   .exact Gy (m y hy)
   .split
    .exact m y hy
    .exact m y hy
theorem lD.lv {B:Kp}(z:lD B):B.qe.foldl (cR B) (B.cho,[])=(B.qm.1.cho,B.qm.2):=j6e z.sb z.nd z.dd (B.cho,[],[]) λ_ h=>h
theorem KR.lv {B:Kp}(z:KR B):B.qe.foldl (cR B) (B.cho,[])=(B.cho,[]):=by
 have all:∀l:List O,(∀o∈l,o∈B.qe)->l.foldl (cR B) (B.cho,[])=(B.cho,[]):=λl=>by
  induction l with
  |nil=>exact λ_=>rfl
  | cons o l ih=>
   intro h;have e:cR B (B.cho,[]) o=(B.cho,[]):=by
    unfold cR;rw[if_neg];rw[Bool.and_eq_true]
    rintro⟨h1,h2⟩
    by_cases y:o∈B.az
    .rw[z.no o y]at h2;cases h2
    .rcases z.z.dd o (h o mem_cons_self) y with q|q
     .simp[q]at h1
     .unfold Kp.bO at h2;rw[Bool.and_eq_true]at h2;have h3:=of_decide_eq_true h2.1;have h4:=of_decide_eq_true q;lia
   rw[foldl_cons,e];exact ih λy hy=>h y (mem_cons_of_mem _ hy)
 exact all _ λ_ h=>h
structure lE (n:Nat)(B:Kp):Prop where
 k:KR B
 h:∀o∈B.qe,xq n o=true
theorem lE.take {n:Nat}{B:Kp}(z:lE n B)(b:Bool){o:O}(ho:xq n o=true):lE n (B.take b o).1:=by
 refine⟨z.k.take b o,?_⟩;unfold Kp.take;split
 .unfold Kp.gX;split
  .exact z.h
  .intro u hu;rcases mem_append.mp (show u∈B.qe++[o]from hu)with hu|hu
   .exact z.h u hu
   .rw[mem_singleton.mp hu];exact ho
 .unfold Kp.eD;split
  .exact z.h
  .intro u hu;have:(Kp.eT {B with wait:=B.wait++[o]}).qe=B.qe:=(go_same _ _).1;exact z.h u (this ▸ (show u∈(Kp.eT {B with wait:=B.wait++[o]}).qe from hu))
noncomputable def uG (Z:ar)(To R:Addr):Prop:=Z To=some (9,.own 0)/\Z R=some (9,.own 1)
noncomputable def jW:Role->Prop:=λr=>r=(9,.own 0)\/r=(9,.own 1)
theorem Gz {Z:ar}{H H':Hp}{To R:Addr}(tr:uG Z To R)(k:jQ To R H H'):Fr (jW) Z H Z H':=λa u e n=>⟨k a u e (λz=>n (9,.own 0) (z ▸ tr.1) (.inl rfl)) (λz=>n (9,.own 1) (z ▸ tr.2) (.inr rfl)),rfl⟩
theorem MY {Z:ar}{H H':Hp}{To R:Addr}(kr:aw Z H)(hT:cO To R H')(k:jQ To R H H'):aw Z H':=λa r e=>by
 obtain⟨row,c,t1,t2,_⟩:=hT;by_cases z:a=To
 .subst z;exact⟨_,t1,True.intro⟩
 .by_cases y:a=R
  .subst y;exact⟨_,t2,True.intro⟩
  .obtain⟨u,hu,nu⟩:=kr a r e;exact⟨u,k a u hu z y,nu⟩
noncomputable def jX (ts:List Int):Dt:=.tup (ts.map Dt.int)
noncomputable def pU (l:Bool×Int×O):Dt:=.tup [.str (if l.1=true then"order"else"paper"),.int l.2.1,jX (zl l.2.2)]
theorem MZ {α:Type}{K:W.Frag}{H:Hp}{F:α->Dt}{R:V->α->Prop}(h:∀x a,R x a->qp K H (F a) x):∀{xs:List V}{as:List α},Paired R xs as->yj K H (as.map F) xs:=λ{xs as} q=>by
 induction q with
 |nil=>rw[map_nil,yj]
 |cons a t ih=>rw[map_cons,yj];exact⟨_,_,rfl,h _ _ a,ih⟩
theorem M0 {K:W.Frag}{H:Hp}:∀ns:List Int,yj K H (ns.map Dt.int) (ns.map V.int)
 |[]=>by rw[map_nil,map_nil,yj]
 |n::ns=>by rw[map_cons,map_cons,yj];exact⟨_,_,rfl,by rw[qp],M0 ns⟩
theorem GA {K:W.Frag}{H:Hp}{a:Addr}{ts:List Int}(h:ay K H a (ts.map V.int)):qp K H (jX ts) (.ref a):=by unfold jX;rw[qp];exact⟨a,_,rfl,h,M0 ts⟩
theorem aE.GB {K:W.Frag}{H:Hp}{Z:ar}{x:V}{l:Bool×Int×O}(h:aE H Z x l):qp K H (pU l) x:=by obtain⟨a,q,rfl,n,h1,_,e,_,h2⟩:=h;cases e;unfold pU;rw[qp];refine⟨a,_,rfl,ay.of h1,?_⟩;rw[yj];refine⟨_,_,rfl,by rw[qp];rfl,?_⟩;rw[yj];refine⟨_,_,rfl,by rw[qp],?_⟩;rw[yj];exact⟨_,_,rfl,GA (ts:=zl l.2.2) (ay.of h2),by rw[yj]⟩
theorem Ab:∀ls:List (List Int),dv (ls.map jX)<=10
 |[]=>by rw[map_nil];simp[dv]
 | l::ls=>by
  have:=Ab ls;rw[map_cons,dv];have q:∀ts:List Int,dv (ts.map Dt.int)<=3:=λts=>by
   induction ts with
   |nil=>simp[dv]
   |cons t ts ih=>rw[map_cons,dv];simp[bE];lia
  have q2:bE (jX l)<=10:=by unfold jX;rw[bE];have:=q l;lia
  lia
theorem GC {α:Type}(F:α->Dt)(ls:List α):bo (.lst (ls.map F)) (.lst [])=decide (ls=[]):=by
 cases ls with
 |nil=>simp[bo,cG]
 |cons l ls=>simp[bo,cG]
theorem Ac:∀ls:List (Bool×Int×O),dv (ls.map pU)<=10
 |[]=>by rw[map_nil];simp[dv]
 |l::ls=>by
  have:=Ac ls;rw[map_cons,dv];have q:bE (pU l)<=10:=by unfold pU jX zl;simp[bE,dv]
  lia
theorem aw.vg {Z:ar}{H:Hp}{a:Addr}{r:Role}{u:HO}(k:aw Z H)(h:H a=some u)(n:mz u):aw (vg Z a r) H:=λb r' e=>by
 by_cases z:b=a
 .subst z;exact⟨u,h,n⟩
 .rw[zy z]at e;exact k b r' e
noncomputable def Un (H:Hp)(Z:ar)(a:Addr)(xs:List V):Prop:=H a=some (.lst xs)/\Z a=none
theorem Un.fr {P:Role->Prop}{Z Z':ar}{H H':Hp}{a:Addr}{xs:List V}(f:Fr P Z H Z' H')(h:Un H Z a xs):Un H' Z' a xs:=bW f h.1 h.2
theorem GD {P:Role->Prop}{Z Z':ar}{H H':Hp}{To R:Addr}(f:Fr P Z H Z' H')(n0:¬P (9,.own 0))(n1:¬P (9,.own 1))(h:cO To R H)(tr:uG Z To R):cO To R H'/\uG Z' To R:=by obtain⟨row,c,t1,t2,t3⟩:=h;obtain⟨a1,a2⟩:=gg f t1 tr.1 n0;obtain⟨a3,a4⟩:=gg f t2 tr.2 n1;exact⟨⟨row,c,a1,a3,t3⟩,a2,a4⟩
theorem j6f {id:Nat}(h:id≠9)(p:Part):¬jW (id,p):=λz=>h (by rcases z with z|z<;>exact(Prod.mk.inj z).1)
theorem j12 {H:Hp}{x dx:Addr}{C:Addr}(nx:H x=none)(Ae:H dx=none)(ne:dx≠x){Z:ar}{r:Role}(kr:aw Z H):Fr (λ_=>False) Z H (vg Z x r) (upd (upd H dx (.own x)) x (.ins C dx []))/\aw (vg Z x r) (upd (upd H dx (.own x)) x (.ins C dx [])):=by
 have nx1:upd H dx (.own x) x=none:=by rw[jg ne.symm];exact nx
 exact⟨(Fr.same (je Ae)).trans (Fr.bA nx1),(kr.same (je Ae)).bA⟩
theorem qj.same {t:Ad}{H H':Hp}{Z:ar}{id:Nat}{W:WA}{w:Wd}(s:xr H H')(O:qj t H Z id W w):qj t H' Z id W w:=O.fr (P:=λ_=>False) (λ_ z=>z) (Fr.same s)
structure Pt where
 ns:List Int
 cs:List Int
 ls:List Int
 hs:List Int
 en:Int
structure Pt.Ok (p:Pt):Prop where
 l2:2<=p.ns.length
 l8:p.ns.length<=8
 c:∀k∈p.cs,0<=k/\k<(p.ns.length:Int)
 cl:p.cs.length<=1000
 ll:p.ls.length<=5
 h0:0<p.hs.length
 h1:p.hs.length<=16
 ct:p.cs.length<=2
 he:((p.hs.length+2*p.ls.length:Nat):Int)<2*p.en
structure Wl (t:Ad)(H:Hp)(Z:ar)(W:WA)(Y:Wd)(T:Nat)(p:Pt):Prop where
 o:qj t H Z 0 W Y
 kr:aw Z H
 ly:H W.ly=some (.lst (p.ls.map V.int))/\Z W.ly=none
 g:∃L,Gn Y T (1000*T) L p.ls p.ns/\∀c∈Y.ks,lE Y.n c.2
 en:Y.en=p.en
 n:Y.n=p.ns.length
 c:Y.uh=p.cs
 h:Y.ks.map (·.1)=p.hs
 bM:W.bM=p.ns.sum
section
variable {t:Ad}{H H':Hp}{Z Z':ar}{W:WA}{Y Y':Wd}{T:Nat}{p:Pt}{P:Role->Prop}{To R:Addr}
theorem Wl.fr (f:Fr P Z H Z' H')(hP:∀q,¬P (0,q))(kr:aw Z' H')(w:Wl t H Z W Y T p):Wl t H' Z' W Y T p:=⟨w.o.fr hP f,kr,bW f w.ly.1 w.ly.2,w.g,w.en,w.n,w.c,w.h,w.bM⟩
theorem Wl.wait (w:Wl t H Z W Y T p):Wl t H Z W Y (T+1) p:=⟨w.o,w.kr,w.ly,let⟨L,g,s⟩:=w.g;⟨L,g.mono (by lia) (by lia),s⟩,w.en,w.n,w.c,w.h,w.bM⟩
structure Sw (t:Ad)(H:Hp)(Z:ar)(W:WA)(Y:Wd)(T:Nat)(p:Pt)(To R:Addr):Prop where
 w:Wl t H Z W Y T p
 tn:cO To R H
 tr:uG Z To R
theorem Sw.same (s:xr H H')(x:Sw t H Z W Y T p To R):Sw t H' Z W Y T p To R:=⟨x.w.fr (P:=λ_=>False) (Fr.same s) (λ_ z=>z) (x.w.kr.same s),x.tn.same s,x.tr⟩
theorem Sw.draw (x:Sw t H Z W Y T p To R)(hT:cO To R H')(k:jQ To R H H'):Sw t H' Z W Y T p To R/\Fr jW Z H Z H':=⟨⟨x.w.fr (Gz x.tr k) (j6f (by decide)) (MY x.w.kr hT k),hT,x.tr⟩,Gz x.tr k⟩
theorem Sw.wait (x:Sw t H Z W Y T p To R):Sw t H Z W Y (T+1) p To R:=⟨x.w.wait,x.tn,x.tr⟩
noncomputable def M3:Role->Prop:=λr=>r.1=0\/jW r
theorem Sw.go (x:Sw t H Z W Y T p To R)(f:Fr P Z H Z' H')(hP:∀r,P r->r.1=0){T2:Nat}(w:Wl t H' Z' W Y' T2 p):Sw t H' Z' W Y' T2 p To R/\Fr M3 Z H Z' H':=by obtain⟨a,b⟩:=GD f (λz=>by cases hP _ z) (λz=>by cases hP _ z) x.tn x.tr;exact⟨⟨w,a,b⟩,f.mono λr z=>.inl (hP r z)⟩
end
structure Ps (H:Hp)(Z:ar)(pa x:Addr)(aS few:Int)(fo ho be ro:Addr)(p:Pt):Prop where
 tp:H pa=some (.tup [.ref x,.int aS,.int few,.ref fo,.ref ho,.ref be,.ref ro])/\Z pa=none
 fo:Un H Z fo (p.ls.map V.int)
 ho:Un H Z ho (p.hs.map V.int)
 be:Un H Z be (p.ns.map V.int)
 ro:Un H Z ro (p.cs.map V.int)
 ce:aS-few=p.en
 hr:∀x∈p.hs++p.ls,0<=x/\x<aS
 cb:(1<=aS/\aS<=16)/\0<=few/\few<=5
 nr:∀i∈p.ns,0<=i/\i<=1000
theorem Ps.fr {P:Role->Prop}{Z Z':ar}{H H':Hp}{pa x fo ho be ro:Addr}{aS few:Int}{p:Pt}(f:Fr P Z H Z' H')(h:Ps H Z pa x aS few fo ho be ro p):Ps H' Z' pa x aS few fo ho be ro p:=⟨bW f h.tp.1 h.tp.2,h.fo.fr f,h.ho.fr f,h.be.fr f,h.ro.fr f,h.ce,h.hr,h.cb,h.nr⟩
theorem Un.neT {t:Ad}{H:Hp}{Z:ar}{W:WA}{Y:Wd}{T:Nat}{p:Pt}{To R a:Addr}{xs:List V}(u:Un H Z a xs)(x:Sw t H Z W Y T p To R):a≠To/\a≠R:=⟨FI u.2 x.tr.1,FI u.2 x.tr.2⟩
noncomputable def j1l (K:W.Frag):Sp:=λvs H Q _=>∃(a:Addr)(ns:List Int),vs=[.ref a]/\af K H a (ns.map V.int)/\∀T R H',H T=none->H R=none->xr H H'->cO T R H'->Q (.ref T) H'
noncomputable def j1r:Sp:=λvs H Q _=>∃(T R:Addr)(m:Int),vs=[.ref T,.int m]/\cO T R H/\1<=m/\m<1073741824/\∀d H',0<=d->d<m->cO T R H'->jQ T R H H'->Q (.int d) H'
noncomputable def M4:Sp:=λvs H Q _=>∃(T R S:Addr)(xs:List V),vs=[.ref T,.ref S]/\cO T R H/\H S=some (.lst xs)/\S≠T/\S≠R/\0<xs.length/\xs.length<=1000000/\∀(i:Nat)(x:V)(H':Hp),xs[i]?=some x->cO T R H'->jQ T R H H'->Q x H'
theorem jtr (T:Txt K mg t):xl P w K mg base CX0 1 t.EG t.EH ["_law_script"] (j1l K):=by
 refine T.Lq.bj (N:=["_law_script"]) λ_ A _ s H vs Q E hr h=>?_;obtain⟨a,ns,rfl,ha,k⟩:=h;refine⟨_,(@jd _ _ _ (j5 (@qq _ _ _ _ (@aB _ _ _ _ _ (Ie (jx (jG hr.units) (pv 0) (@qq _ _ _ _ jf) (qf _)) (lV yh rfl T.jP boot_list (jc (pv 0) jf)) (@qq _ _ _ _ (jc jh jf))) jh rfl rfl)))),?_⟩;refine⟨_,rfl,cu,λp hp=>?_⟩;have s1:=je (o:=.lst []) hp;refine⟨.lst (ns.map Dt.int),.lst (([]:List Int).map Dt.int),nJ (s1.seq ha),nJ (af.of ja),xA _,_,rfl,?_⟩;rw[RH];refine bH (λh1=>?_) (λh1=>?_)
 .have ne:=nd h1;refine⟨_,rfl,a,_,rfl,.inl (s1.seq ha),λR hR=>?_⟩;refine⟨my,λT' hT=>?_⟩;have s2:=s1.trans (je (o:=.lst (ns.map V.int)) hR);have GF:R≠T':=jj ja hT;refine k T' R _ (s2.free hT) (s1.free hR) (s2.trans (je hT)) ⟨ns,0,ja,by rw[jg GF,ja],?_⟩;cases ns with
  |nil=>exact absurd rfl ne
  |cons x r=>exact Nat.succ_pos _
 .refine⟨jO,λR hR=>?_⟩;refine⟨my,λT' hT=>?_⟩;have s2:=s1.trans (je (o:=.lst [.int 0]) hR);have GF:R≠T':=jj ja hT;exact k T' R _ (s2.free hT) (s1.free hR) (s2.trans (je hT)) ⟨[0],0,ja,by rw[jg GF,ja];rfl,Nat.one_pos⟩
theorem qx (T:Txt K mg t):xl P w K mg base CX0 1 t.EI t.EJ ["_law_town_here","_law_many"] j1r:=by
 refine T.qv.cA kz λ_ A _ s H vs Q E hr h=>?_;obtain⟨To,R,m,rfl,hT,m1,m2,k⟩:=h;have M5:=hT.ne;obtain⟨row,c,h1,h2,h3⟩:=hT;refine⟨_,(@jb _ _ _ _ _ (qa (i:=2) kz.nd rfl (Or.inl rfl) (j7 jo (pv 0) jh (λ_ _=>rfl))) (@jb _ _ _ _ _ (dY (zt fF (j7 jo (pv 0) jh (λ_ _=>rfl)) jh) (kE (pv 0) jh set_list)) (@jb _ _ _ _ _ (qa (i:=3) kz.nd rfl (Or.inl rfl) (zt mZ (j7 jo (pv 0) jh (λ_ _=>rfl)) (jn jt rfl T.cB boot_len (jc (pv 2) jf)))) (@jb _ _ _ _ _ (qa (i:=4) kz.nd rfl (Or.inl rfl) (j7 jo (pv 2) (pv 3) (λ_ _=>rfl))) (@jb _ _ _ _ _ (zh (jx BA (pv 4) jh (qf _)) (@jb _ _ _ _ _ (dY (zt By (pv 4) (pv 1)) (kE (pv 2) (pv 3) set_list)) (@jd _ _ _ (j5 (zt mZ (pv 4) (pv 1))))) j6) (@jb _ _ _ _ _ (qa (i:=5) kz.nd rfl (Or.inl rfl) (zt mZ (zt fF (pv 4) (zt wB jh (j7 jo (pv 0) jh (λ_ _=>rfl)))) jh)) (@jb _ _ _ _ _ (qa (i:=5) kz.nd rfl (Or.inl rfl) (zt mZ (zt Pr (pv 5) jh) jh)) (@jd _ _ _ (j5 (zt mZ (zt By (zt mZ (zt fF (zt wB (zt By (pv 5) jh) jh) (pv 5)) jh) jh) (pv 1))))))))))),?_⟩;refine⟨_,rfl,To,_,0,.ref R,rfl,rfl,af.of h1,rfl,?_⟩;refine⟨_,rfl,To,_,1,.int c,rfl,rfl,af.of h1,rfl,_,_,rfl,rfl,?_⟩;refine⟨_,rfl,To,_,1,1,rfl,rfl,h1,rfl,?_⟩;have g1:(upd H To (.lst ([V.ref R,V.int c].set 1 (V.int (c+1))))) To=some (.lst [.ref R,.int (c+1)]):=ja;have g2:(upd H To (.lst ([V.ref R,V.int c].set 1 (V.int (c+1))))) R=some (.lst (row.map V.int)):=by rw[jg M5.symm];exact h2
 have kp:jQ To R H (upd H To (.lst ([V.ref R,V.int c].set 1 (V.int (c+1))))):=λb o e n1 _=>by rw[jg n1];exact e
 generalize upd H To (.lst ([V.ref R,V.int c].set 1 (V.int (c+1))))=H1 at g1 g2 kp;have hl:(0:Int)<((row.map V.int).length:Int):=by rw[length_map];omega
 refine⟨_,rfl,To,_,1,.int (c+1),rfl,rfl,af.of g1,rfl,_,rfl,R,_,rfl,.inl (af.of g2),_,_,rfl,rfl,hl,?_⟩;rw[length_map]at hl⊢;have b0:0<=(c+1)%(row.length:Int):=Int.emod_nonneg _ (by omega);have b1:(c+1)%(row.length:Int)<(row.length:Int):=Int.emod_lt_of_pos _ hl;have b2:((c+1)%(row.length:Int)).toNat<row.length:=by omega
 refine⟨_,rfl,_,rfl,R,_,((c+1)%(row.length:Int)),_,rfl,rfl,af.of g2,fN b0 (get_map b2),?_⟩;refine⟨_,rfl,_,_,rfl,rfl,_,rfl,?_⟩;refine bH (λh5=>?_) (λh5=>?_)
 .refine⟨_,rfl,_,rfl,_,_,rfl,rfl,⟨by omega,m2⟩,?_⟩;refine⟨_,rfl,_,rfl,R,_,((c+1)%(row.length:Int)),_,rfl,rfl,g2,gU b0 (by rw[length_map];exact b2),?_⟩;rw[BE];refine⟨_,rfl,_,rfl,_,_,rfl,rfl,(by show(0:Int)<m;omega),?_⟩;refine k _ _ (Int.emod_nonneg _ (by omega)) (Int.emod_lt_of_pos _ (by omega)) ⟨_,c+1,by rw[jg M5];exact g1,ja,by rw[length_set];exact h3⟩ λb o e n1 n2=>?_;rw[jg n2];exact kp b o e n1 n2
 .have big:∀z:Int,(z%4294967291).natAbs<2^64:=λz=>by
   have u1:=Int.emod_nonneg z (show(4294967291:Int)≠0 by decide);have u2:=Int.emod_lt_of_pos z (show(0:Int)<4294967291 by decide);omega
  refine⟨_,rfl,_,rfl,To,_,1,.int (c+1),rfl,rfl,af.of g1,rfl,_,_,rfl,rfl,.inl ⟨by decide,by decide⟩,_,_,rfl,rfl,_,_,rfl,rfl,(by show(0:Int)<4294967291;decide),?_⟩;refine⟨_,rfl,_,_,rfl,rfl,⟨by decide,by decide,big _⟩,_,_,rfl,rfl,(by show(0:Int)<4294967279;decide),?_⟩;refine⟨_,rfl,_,_,rfl,rfl,⟨by decide,by decide⟩,_,_,rfl,rfl,.inr ⟨by decide,by decide⟩,_,rfl,_,_,rfl,rfl,_,_,rfl,rfl,(by show(0:Int)<4294967231;decide),_,_,rfl,rfl,⟨by decide,by decide⟩,_,rfl,_,_,rfl,rfl,(by show(0:Int)<m;omega),?_⟩;exact k _ _ (Int.emod_nonneg _ (by omega)) (Int.emod_lt_of_pos _ (by omega)) ⟨row,c+1,g1,g2,h3⟩ kp
theorem uH (T:Txt K mg t):xl P w K mg base CX0 2 t.EK t.EL ["_law_town_here","_law_some_here"] M4:=by
 refine T.g9.bj (N:=["_law_town_here","_law_some_here"]) λ_ A _ s H vs Q E hr h=>?_;obtain⟨To,R,S,xs,rfl,hT,hS,n1,n2,l0,l1,k⟩:=h;refine⟨_,(@jd _ _ _ (j5 (j7 jo (pv 1) (jr (qx T) hr.dn rfl T.zb T.qv.kp T.zc .nil ju (@aB _ _ _ _ _ (pv 0) (jn jt rfl T.cB boot_len (jc (pv 1) jf)) rfl rfl)) (λ_ _=>rfl)))),?_⟩;refine⟨_,rfl,_,rfl,_,rfl,S,xs,rfl,.inl (af.of hS),To,R,_,rfl,hT,by omega,by omega,λd H' d0 d1 pV kp=>?_⟩;have hd:d.toNat<xs.length:=by omega
 exact⟨S,xs,d,xs[d.toNat],rfl,rfl,af.of (kp _ _ hS n1 n2),fN d0 (by simp[hd]),k d.toNat _ H' (by simp[hd]) pV kp⟩
noncomputable def j2s:Sp:=λvs H Q _=>∃To R n m,vs=[.ref To,.int n,.int m]/\cO To R H/\0<=n/\n<=16/\∀r (ks:List Int) H',H r=none->cO To R H'->jQ To R H H'->H' r=some (.lst (ks.map V.int))->ks.Pairwise (·<·)->(∀k∈ks,0<=k/\k<n)->(ks.length:Int)<=(if 0<=m then m else 0)->Q (.ref r) H'
theorem M6 (T:Txt K mg t):xl P w K mg base CX0 2 t.EO t.ER ["_law_town_here","_law_size","_law_most"] j2s:=by
 refine T.Ft.cA Dv λ_ A _ s H vs Q E hr h=>?_;obtain⟨To,R,n,m,rfl,hT,n0,n6,k⟩:=h;refine⟨_,(@jb _ _ _ _ _ (@qa _ _ 3 _ _ _ _ Dv.nd rfl (Or.inl rfl) (@qq _ _ _ _ jf) (by rfl) (by first|exact .inl rfl|exact .inr rfl)) (@jb _ _ _ _ _ (ie PassesOwn.never rfl (oO rfl T.pH (jc (pv 1) jf)) (jw (i:=4) Dv.nd rfl (Or.inl rfl)) (@jd _ _ _ (zh (PW.pt (hZ (jx wC (jn jt rfl T.cB boot_len (jc (pv 3) jf)) (pv 2) (qf _)) (kD (jx fG (jr (qx T) hr.dn rfl T.zb T.qv.kp T.zc .nil ju (@aB _ _ _ _ _ (pv 0) jh rfl rfl)) jh (qf _))))) (@jd _ _ _ (qb (dq PySem.F.plainAttrs_list PySem.F.slot_list_append PySem.F.type_list_append xf (pv 3) (jc (pv 4) jf)))) j6))) (@jd _ _ _ (j5 (pv 3))))),?_⟩;refine⟨cu,λr hr=>?_⟩;have fr:=hT.fresh hr;have s1:=je (o:=.lst []) hr;refine⟨_,rfl,n,rfl,by omega,by omega,Bu (lo:=0) (n:=n.toNat) (λi U H'=>∃(v:Option V)(ks:List Int),U=[some (.ref To),some (.int n),some (.int m),some (.ref r),v]/\cO To R H'/\jQ To R H H'/\H' r=some (.lst (ks.map V.int))/\ks.length<=i/\(ks.length:Int)<=(if 0<=m then m else 0)/\ks.Pairwise (·<·)/\∀z∈ks,0<=z/\z<(i:Int)) ⟨none,[],rfl,hT.same s1,λb o e _ _=>s1 _ _ e,ja,le_refl _,(by show(0:Int)<=_;split<;>omega),.nil,λz hz=>by cases hz⟩ ?_ ?_⟩
 .rintro i U H' hi ⟨v,ks,rfl,pV,kp,uI,l,Af,up,rg⟩
  have lm:(ks.map V.int).length=ks.length:=length_map ..;refine⟨_,rfl,r,_,rfl,.inl (af.of uI),_,rfl,_,_,rfl,rfl,_,rfl,?_⟩;have old:∃(v:Option V)(ks':List Int),[some (.ref To),some (.int n),some (.int m),some (.ref r),some (.int (0+(i:Int)))]=[some (.ref To),some (.int n),some (.int m),some (.ref r),v]/\True:=⟨_,[],rfl,trivial⟩;refine bH (λh1=>?_) (λh1=>?_)
  .refine⟨_,rfl,To,R,3,rfl,pV,by decide,by decide,λd H2 d0 d1 mF M7=>?_⟩;have iQ:=M7 _ _ uI fr.1 fr.2;have M8:jQ To R H H2:=λb o e x1 x2=>M7 _ _ (kp b o e x1 x2) x1 x2;refine⟨rfl,_,rfl,bH (λh2=>?_) (λh2=>?_)⟩
   .refine⟨_,rfl,.inl ⟨rfl,_,af.of iQ⟩,_,rfl,r,_,_,rfl,rfl,iQ,qi (by omega),?_⟩;refine⟨_,ks++[0+(i:Int)],rfl,?_,λb o e x1 x2=>?_,by rw[ja,map_append];rfl,?_,?_,?_,λz hz=>?_⟩
    .obtain⟨row,cc,t1,t2,t3⟩:=mF;exact⟨row,cc,by rw[jg (Ne.symm fr.1)];exact t1,by rw[jg (Ne.symm fr.2)];exact t2,t3⟩
    .rw[jg (jj e hr)];exact M8 b o e x1 x2
    .rw[length_append];show ks.length+1<=i+1;omega
    .rw[length_append];have:(ks.length:Int)<m:=by
      have:=of_decide_eq_true h1;rw[lm]at this;exact this
     rw[if_pos (by omega)];show((ks.length+1:Nat):Int)<=m;omega
    .rw[List.pairwise_append];refine⟨up,List.pairwise_singleton _ _,λx hx y hy=>?_⟩;have:y=0+(i:Int):=by simpa using hy
     have:=rg x hx;omega
    .rcases mem_append.mp hz with y|y
     .have:=rg z y;omega
     .have:z=0+(i:Int):=by simpa using y
      omega
   .exact⟨_,ks,rfl,mF,M8,iQ,by omega,Af,up,λz hz=>by have:=rg z hz;omega⟩
  .exact we ⟨_,ks,rfl,pV,kp,uI,by omega,Af,up,λz hz=>by have:=rg z hz;omega⟩
 .rintro U H' ⟨v,ks,rfl,pV,kp,uI,l,Af,up,rg⟩
  exact⟨_,rfl,k r ks H' hr pV kp uI up (λz hz=>by have:=rg z hz;omega) Af⟩
theorem j14 {C a0 a1 a2 a3 a4 a5 a6 a7 a8 a9 a10 a11 a12:Value}{b0 b1 b2 b3 b4 b5 b6 b7 b8 b9 dQ M9 mE:Bool}(h:kinds K C [a0,a1,a2,a3,a4,a5,a6,a7,a8,a9,a10,a11,a12]=[some b0,some b1,some b2,some b3,some b4,some b5,some b6,some b7,some b8,some b9,some dQ,some M9,some mE]):W.kitOne K C a0=some b0/\W.kitOne K C a1=some b1/\W.kitOne K C a2=some b2/\W.kitOne K C a3=some b3/\W.kitOne K C a4=some b4/\W.kitOne K C a5=some b5/\W.kitOne K C a6=some b6/\W.kitOne K C a7=some b7/\
  W.kitOne K C a8=some b8/\W.kitOne K C a9=some b9/\W.kitOne K C a10=some dQ/\W.kitOne K C a11=some M9/\W.kitOne K C a12=some mE:=by
 unfold kinds at h;simpa only[map_cons,map_nil,List.cons.injEq,and_true]using h
noncomputable def words:List V:=[.str "number",.str "order",.str "houses",.str "house",.str "purse",.str "letter",.str "now",.str "much",.str "paper",.str "cut",.str "text"]
noncomputable def jv5 (K:W.Frag)(t:Ad):Sp:=λvs H Q _=>∃(ea C:Addr)(b0 b1 b2 b3 b4 b5 b6 b7 b8 b9 dQ:Bool)(x:V),vs=[.ref ea]/\H ea=some (mj ea (.ref C))/\gS K C/\kinds K (.ref C) (asked t)=[some b0,some b1,some b2,some b3,some b4,some b5,some b6,some b7,some b8,some b9,some dQ,some true,some true]/\[b0,b1,b2,b3,b4,b5,b6,b7,b8,b9,dQ].count true=1/\
 words[[b0,b1,b2,b3,b4,b5,b6,b7,b8,b9,dQ].idxOf true]?=some x/\∀H',xr H H'->Q x H'
set_option maxHeartbeats 0 in
theorem jox (T:Txt K mg t) : xl P w K mg base CX0 1 t.EM t.EN ["_law_caught"] (jv5 K t):=by
 refine T.Lr.cA x8 λ_ A _ s H vs Q E hr h=>?_
 obtain ⟨ea,C,b0,b1,b2,b3,b4,b5,b6,b7,b8,b9,dQ,x,rfl,he,hX,hk,hc,hw,k⟩:=h
 obtain ⟨k0,k1,k2,k3,k4,k5,k6,k7,k8,k9,k10,k11,k12⟩:=j14 hk
 refine ⟨_,(@jb _ _ _ _ _ (@qa _ _ 1 _ _ _ _ x8.nd rfl (Or.inl rfl) (@qq _ _ _ _ (@bT _ _ _ _ _ _ _ (jn zw rfl T.jy boot_isinstance (@aB _ _ _ _ _ (pv 0) (zk (v:=.ref t.Fj) rfl T.XI rfl) rfl rfl)) (jn zw rfl T.jy boot_isinstance (@aB _ _ _ _ _ (pv 0) (zk (v:=.ref t.Fl) rfl T.XJ rfl) rfl rfl)) (jn zw rfl T.jy boot_isinstance (@aB _ _ _ _ _ (pv 0) (zk (v:=.ref t.Fm) rfl T.XM rfl) rfl rfl)) rfl rfl rfl)) (by rfl) (by first | exact .inl rfl | exact .inr rfl))
  (@jb _ _ _ _ _ (qa (i:=1) x8.nd rfl (Or.inl rfl) (zt lY (pv 1) (@qq _ _ _ _ (@bT _ _ _ _ _ _ _ (jn zw rfl T.jy boot_isinstance (@aB _ _ _ _ _ (pv 0) (zk (v:=.ref t.Fh) rfl T.XG rfl) rfl rfl)) (jn zw rfl T.jy boot_isinstance (@aB _ _ _ _ _ (pv 0) (zk (v:=.ref t.xg) rfl T.LN rfl) rfl rfl)) (jn zw rfl T.jy boot_isinstance (@aB _ _ _ _ _ (pv 0) (zk (v:=.ref t.Fi) rfl T.XH rfl) rfl rfl)) rfl rfl rfl))))
  (@jb _ _ _ _ _ (qa (i:=1) x8.nd rfl (Or.inl rfl) (zt lY (pv 1) (@qq _ _ _ _ (@bT _ _ _ _ _ _ _ (jn zw rfl T.jy boot_isinstance (@aB _ _ _ _ _ (pv 0) (zk (v:=.ref t.uv) rfl T.LP rfl) rfl rfl)) (jn zw rfl T.jy boot_isinstance (@aB _ _ _ _ _ (pv 0) (zk (v:=.ref t.vf) rfl T.LO rfl) rfl rfl)) (jn zw rfl T.jy boot_isinstance (@aB _ _ _ _ _ (pv 0) (zk (v:=.ref t.Fg) rfl T.XF rfl) rfl rfl)) rfl rfl rfl))))
  (@jb _ _ _ _ _ (qa (i:=1) x8.nd rfl (Or.inl rfl) (zt lY (pv 1) (@qq _ _ _ _ (@aB _ _ _ _ _ (jn zw rfl T.jy boot_isinstance (@aB _ _ _ _ _ (pv 0) (zk (v:=.ref t.Fe) rfl T.XD rfl) rfl rfl)) (jn zw rfl T.jy boot_isinstance (@aB _ _ _ _ _ (pv 0) (zk (v:=.ref t.Ff) rfl T.XE rfl) rfl rfl)) rfl rfl))))
  (@jb _ _ _ _ _ (zh (PW.pt (eX (jx Bz (dq PySem.F.plainAttrs_list PySem.F.slot_list_count PySem.F.type_list_count Sr (pv 1) (jc fB jf)) jh (qf _)) (eX (yt (xc (jn zw rfl T.jy boot_isinstance (@aB _ _ _ _ _ (pv 0) (zk (v:=.ref t.vd) rfl T.LQ rfl) rfl rfl)))) (fR (yt (xc (jn zw rfl T.jy boot_isinstance (@aB _ _ _ _ _ (pv 0) (lP (v:=.ty "ValueError") rfl T.X5 Vj rfl) rfl rfl)))))))) (@jd _ _ _ (j5 wd)) j6)
  (@jb _ _ _ _ _ (@qa _ _ 2 _ _ _ _ x8.nd rfl (Or.inl rfl) (@qq _ _ _ _ (@UX _ _ _ _ _ _ _ _ _ _ _ _ _ _ _ _ _ _ _ _ _ _ _ wd wd wd wd wd wd wd wd wd wd wd rfl rfl rfl rfl rfl rfl rfl rfl rfl rfl rfl)) (by rfl) (by first | exact .inl rfl | exact .inr rfl))
  (@jd _ _ _ (j5 (j7 jo (pv 2) (dq PySem.F.plainAttrs_list PySem.F.slot_list_index PySem.F.type_list_index Ss (pv 1) (jc fB jf)) (λ_ _=>rfl)))))))))),?_⟩
 refine ⟨_,rfl,ea,C,_,_,b0,rfl,he,hX,rfl,k0,_,rfl,ea,C,_,_,b1,rfl,he,hX,rfl,k1,_,rfl,ea,C,_,_,b2,rfl,he,hX,rfl,k2,kW,λp1 h1=>?_⟩
 have s1:=je (o:=.lst [.bl b0,.bl b1,.bl b2]) h1
 have GG:=s1 _ _ he
 refine ⟨_,rfl,_,rfl,ea,C,_,_,b3,rfl,GG,hX,rfl,k3,_,rfl,ea,C,_,_,b4,rfl,GG,hX,rfl,k4,_,rfl,ea,C,_,_,b5,rfl,GG,hX,rfl,k5,kW,λp2 h2=>?_⟩
 refine ⟨p1,p2,[.bl b0,.bl b1,.bl b2],[.bl b3,.bl b4,.bl b5],rfl,rfl,(by rw [jg (jj ja h2)]; exact ja),ja,KZ,λp3 h3=>?_⟩
 have s3:=(s1.trans (je (o:=.lst [.bl b3,.bl b4,.bl b5]) h2)).trans (je (o:=.lst ([.bl b0,.bl b1,.bl b2] ++ [.bl b3,.bl b4,.bl b5])) h3)
 have g3:(upd (upd (upd H p1 (.lst [.bl b0,.bl b1,.bl b2])) p2 (.lst [.bl b3,.bl b4,.bl b5])) p3 (.lst ([.bl b0,.bl b1,.bl b2] ++ [.bl b3,.bl b4,.bl b5]))) p3 = some (.lst [.bl b0,.bl b1,.bl b2,.bl b3,.bl b4,.bl b5]):=ja
 generalize upd (upd (upd H p1 (.lst [.bl b0,.bl b1,.bl b2])) p2 (.lst [.bl b3,.bl b4,.bl b5])) p3 (.lst ([.bl b0,.bl b1,.bl b2] ++ [.bl b3,.bl b4,.bl b5])) = H3 at s3 g3
 have GH:=s3 _ _ he
 refine ⟨_,rfl,_,rfl,ea,C,_,_,b6,rfl,GH,hX,rfl,k6,_,rfl,ea,C,_,_,b7,rfl,GH,hX,rfl,k7,_,rfl,ea,C,_,_,b8,rfl,GH,hX,rfl,k8,kW,λp4 h4=>?_⟩
 refine ⟨p3,p4,[.bl b0,.bl b1,.bl b2,.bl b3,.bl b4,.bl b5],[.bl b6,.bl b7,.bl b8],rfl,rfl,(by rw [jg (jj g3 h4)]; exact g3),ja,UT,λp5 h5=>?_⟩
 have s5:=(s3.trans (je (o:=.lst [.bl b6,.bl b7,.bl b8]) h4)).trans (je (o:=.lst ([.bl b0,.bl b1,.bl b2,.bl b3,.bl b4,.bl b5] ++ [.bl b6,.bl b7,.bl b8])) h5)
 have g5:(upd (upd H3 p4 (.lst [.bl b6,.bl b7,.bl b8])) p5 (.lst ([.bl b0,.bl b1,.bl b2,.bl b3,.bl b4,.bl b5] ++ [.bl b6,.bl b7,.bl b8]))) p5 = some (.lst [.bl b0,.bl b1,.bl b2,.bl b3,.bl b4,.bl b5,.bl b6,.bl b7,.bl b8]):=ja
 generalize upd (upd H3 p4 (.lst [.bl b6,.bl b7,.bl b8])) p5 (.lst ([.bl b0,.bl b1,.bl b2,.bl b3,.bl b4,.bl b5] ++ [.bl b6,.bl b7,.bl b8])) = H5 at s5 g5
 have sF:=s5 _ _ he
 refine ⟨_,rfl,_,rfl,ea,C,_,_,b9,rfl,sF,hX,rfl,k9,_,rfl,ea,C,_,_,dQ,rfl,sF,hX,rfl,k10,my,λp6 h6=>?_⟩
 refine ⟨p5,p6,[.bl b0,.bl b1,.bl b2,.bl b3,.bl b4,.bl b5,.bl b6,.bl b7,.bl b8],[.bl b9,.bl dQ],rfl,rfl,(by rw [jg (jj g5 h6)]; exact g5),ja,K0,λp7 h7=>?_⟩
 have s7:=(s5.trans (je (o:=.lst [.bl b9,.bl dQ]) h6)).trans (je (o:=.lst ([.bl b0,.bl b1,.bl b2,.bl b3,.bl b4,.bl b5,.bl b6,.bl b7,.bl b8] ++ [.bl b9,.bl dQ])) h7)
 have g7:(upd (upd H5 p6 (.lst [.bl b9,.bl dQ])) p7 (.lst ([.bl b0,.bl b1,.bl b2,.bl b3,.bl b4,.bl b5,.bl b6,.bl b7,.bl b8] ++ [.bl b9,.bl dQ]))) p7 = some (.lst ([b0,b1,b2,b3,b4,b5,b6,b7,b8,b9,dQ].map V.bl)):=ja
 generalize upd (upd H5 p6 (.lst [.bl b9,.bl dQ])) p7 (.lst ([.bl b0,.bl b1,.bl b2,.bl b3,.bl b4,.bl b5,.bl b6,.bl b7,.bl b8] ++ [.bl b9,.bl dQ])) = H7 at s7 g7
 have Na:=s7 _ _ he
 have uJ:true ∈ [b0,b1,b2,b3,b4,b5,b6,b7,b8,b9,dQ]:=List.count_pos_iff.mp (by rw [hc]; decide)
 generalize [b0,b1,b2,b3,b4,b5,b6,b7,b8,b9,dQ] = bs at hc hw g7 uJ
 refine ⟨_,rfl,.inl ⟨rfl,_,af.of g7⟩,p7,bs,true,rfl,rfl,af.of g7,rfl,_,rfl,?_⟩
 refine bH (λz=>?_) (λ_=>?_)
 .exfalso
  rw [hc] at z
  exact absurd z (by decide)
 refine ⟨_,rfl,ea,C,_,_,true,rfl,Na,hX,rfl,k11,_,rfl,we ?_⟩
 refine ⟨_,rfl,ea,C,_,_,true,rfl,Na,hX,rfl,k12,_,rfl,we ?_⟩
 refine ⟨K0,λp8 h8=>?_⟩
 have s8:=s7.trans (je (o:=.lst words) h8)
 have g8:=(je (o:=.lst words) h8) _ _ g7
 refine ⟨_,rfl,_,rfl,.inl ⟨rfl,_,af.of g8⟩,p7,bs,true,rfl,rfl,af.of g8,uJ,?_⟩
 exact ⟨p8,words,_,x,rfl,rfl,af.of ja,fN (by omega) (by rw [Int.toNat_natCast]; exact hw),k _ s8⟩
theorem ku (h:Int):∀(os:List O)(Y:Wd),Y.jV (Y.qm h os)
 |[],Y=>⟨rfl,rfl,rfl,rfl,rfl⟩
 |o::os,Y=>(zY Y h o).trans (ku h os (Y.bg h o))
theorem Nb (ks:List (Int×Kp))(h:Int)(B:Kp):(bC ks h B).map (·.1)=ks.map (·.1):=by
 unfold bC;rw[map_map];refine List.map_congr_left λc _=>?_;show(if c.1=h then(h,B)else c).1=c.1;split
 .rename_i z;exact z.symm
 .rfl
structure Wd.GI (Y Y':Wd):Prop where
 n:Y'.n=Y.n
 c:Y'.uh=Y.uh
 h:Y'.ks.map (·.1)=Y.ks.map (·.1)
 e:Y'.en=Y.en
theorem Wd.jV.eK {Y Y':Wd}(l:Y.jV Y'):Y.GI Y':=⟨l.n,l.c,by rw[l.k],l.e⟩
theorem j0k (Y:Wd)(i:Nat)(l:Bool×Int×O)(B:Kp):Y.GI (Y.iM i l B):=by have k:=ku l.2.1 (B.take l.1 l.2.2).2 {Y with way:=Y.way.eraseIdx i,ks:=bC Y.ks l.2.1 (B.take l.1 l.2.2).1};refine⟨k.n,k.c,?_,k.e⟩;show(Wd.qm _ _ _).ks.map _=_;rw[k.k];exact Nb _ _ _
section
variable {t:Ad}{H H':Hp}{Z Z':ar}{W:WA}{Y Y':Wd}{T:Nat}{p:Pt}{P:Role->Prop}{To R:Addr}{L:List O}
theorem Wl.next (w:Wl t H Z W Y T p)(f:Fr P Z H Z' H')(O':qj t H' Z' 0 W Y')(kr:aw Z' H'){T2:Nat}(g:Gn Y' T2 (1000*T2) L p.ls p.ns)(s:∀c∈Y'.ks,lE Y'.n c.2)(e:Y.GI Y'):Wl t H' Z' W Y' T2 p:=⟨O',kr,bW f w.ly.1 w.ly.2,⟨L,g,s⟩,e.e.trans w.en,e.n.trans w.n,e.c.trans w.c,e.h.trans w.h,w.bM⟩
end
noncomputable def j28 (t:Ad):Sp:=λvs H Q _=>∃Z W Y T p To R pu g m row,vs=[.str "ask",.ref W.x,.int pu,.int g,.int m]/\Sw t H Z W Y T p To R/\T<=60/\(0<=pu/\pu<(Y.n:Int))/\(0<=g/\g<(Y.n:Int))/\g≠pu/\(1<=m/\m<=1000)/\Y.asked[pu.toNat]?=some row/\(∀H' x,xr H H'->Q (.str x) H')/\(∀H' q,Sw t H' Z W (Y.asks ⟨pu,row.length,g,m⟩ row) (T+1) p To R->Fr M3 Z H Z H'->qh H' Z (.ref q) ⟨pu,row.length,g,m⟩->Q (.ref q) H')
set_option maxHeartbeats 0 in
theorem jtl (T:Txt K mg t) : xl P w K mg base CX0 8 t.EU t.EV ["_law_kind","_law_world_here","_law_one","_law_two","_law_three"] (j28 t):=by
 refine T.Lx.cA ky λ_ A _ s H vs Q E hr h=>?_
 obtain ⟨Z,W,Y,T',p,To,R,pu,g,m,row,rfl,S,hT,hp,hg,ng,hm,dh,ref,k⟩:=h
 obtain ⟨L,gn,sk⟩:=S.w.g
 have tU:=gn.wl
 have O:=S.w.o
 have kr:=S.w.kr
 have old : ∀ {H' x},xr H H' -> Q (.str x) H':=λsm=>ref _ _ sm
 .refine ⟨_,(@jb _ _ _ _ _ (qa (i:=5) ky.nd rfl (Or.inl rfl) qE)
  (@jb _ _ _ _ _ (qa (i:=6) ky.nd rfl (Or.inl rfl) qE)
  (@jb _ _ _ _ _ (UD (i:=7) rfl rfl rfl rfl T.LQ T.X0 ky.nd rfl rfl (λ_ _=>(@jd _ _ _ (zh (jx fG (pv 0) wd (qf _)) (@jd _ _ _ (qa (i:=5) ky.nd rfl (Or.inl rfl) (UB (pv 1) T.jl T.WU (Ze T) hr.dn T.WV .nil (@bT _ _ _ _ _ _ _ (pv 2) (pv 3) (pv 4) rfl rfl rfl)))) (@jd _ _ _ (zh (jx fG (pv 0) wd (qf _)) zg (@jd _ _ _ (zh (jx fG (pv 0) wd (qf _)) zg zg))))))) (λ_=>(@jd _ _ _ (qa (i:=6) ky.nd rfl (Or.inl rfl) (pv 7)))))
  (@jd _ _ _ (j5 (Ie (jx Pz (pv 6) qE (qf _)) (pv 5) (jr (jox T) hr.dn rfl T.W8 T.Lr.kp T.W9 .nil ju (jc (pv 6) jf)))))))),?_⟩
  have Gf:=gn.al row (mem_of_getElem? dh)
  refine ⟨λU' cls dd H'=>U' = [some (.str "ask"),some (.ref W.x),some (.int pu),some (.int g),some (.int m),some .aq,some .aq,none] /\ xr H H' /\ (cls = .ref t.uv \/ cls = .ref t.vf \/ cls = .ref t.xg),?_,?_⟩
  .refine ⟨_,rfl,rfl,_,rfl,br ?_⟩
   refine ⟨_,rfl,W.x,W.dx,_,rfl,O.ob.1,xi,_,rfl,_,rfl,_,rfl,Z,0,W,Y,pu,g,m,row,rfl,O,kr,gn.ok,hp,hg,ng,hm,dh,by omega,by omega,λ_ d H' s'=>⟨rfl,s',.inr (.inr rfl)⟩,λo eo ec H' s'=>⟨rfl,s',.inl rfl⟩,λhcar M' eM'=>⟨λlt H' s'=>⟨rfl,s',.inr (.inl rfl)⟩,λle nc H' q O' f' uA uq=>?_⟩⟩
   refine ⟨_,rfl,rfl,_,rfl,br ⟨_,rfl,?_⟩⟩
   have g2:=(gn.ask (by omega) hp hg ng hm dh).mono (T':=T' + 1) (M':=1000 * (T' + 1)) (le_refl _) (by omega)
   obtain ⟨S2,f2⟩:=S.go f' (λ_ z=>z) (S.w.next f' O' uA g2 sk ⟨rfl,rfl,rfl,rfl⟩)
   exact k H' q S2 f2 uq
  .rintro U' cls dd H' ea ⟨rfl,sm,hw⟩ mx
   have sx : ∀ {u:HO},xr H (upd H' ea u):=λ{u}=>sm.trans (je mx)
   rcases hw with rfl | rfl | rfl
   .refine ⟨t.uv,rfl,T.XZ,?_⟩
    refine ⟨_,rfl,ja,?_⟩
    rw [Bg]
    refine ⟨_,rfl,rfl,_,rfl,we ?_⟩
    exact ⟨_,rfl,ea,t.uv,false,false,false,false,false,false,true,false,false,false,false,.str "now",rfl,ja,T.XX,T.XY,by decide,rfl,λpJ bQ=>old (sx.trans bQ)⟩
   .refine ⟨t.vf,rfl,T.XU,?_⟩
    refine ⟨_,rfl,ja,?_⟩
    rw [Bg]
    refine ⟨_,rfl,rfl,_,rfl,we ?_⟩
    exact ⟨_,rfl,ea,t.vf,false,false,false,false,false,false,false,true,false,false,false,.str "much",rfl,ja,T.XS,T.XT,by decide,rfl,λpJ bQ=>old (sx.trans bQ)⟩
   .refine ⟨t.xg,rfl,T.XQ,?_⟩
    refine ⟨_,rfl,ja,?_⟩
    rw [Bg]
    refine ⟨_,rfl,rfl,_,rfl,we ?_⟩
    exact ⟨_,rfl,ea,t.xg,false,false,false,false,true,false,false,false,false,false,false,.str "purse",rfl,ja,T.XN,T.XO,by decide,rfl,λpJ bQ=>old (sx.trans bQ)⟩
theorem j6h {p n d:Int}(h0:0<=p)(h1:p<n)(d0:0<=d)(d1:d<n-1):0<=(p+1+d)%n/\(p+1+d)%n<n/\(p+1+d)%n≠p:=by
 refine⟨Int.emod_nonneg _ (by lia),Int.emod_lt_of_pos _ (by lia),λz=>?_⟩;have e:=Int.mul_ediv_add_emod (p+1+d) n;rw[z]at e;generalize (p+1+d) / n=q at e;by_cases y:q<=0
 .have:=Int.mul_le_mul_of_nonneg_left y (show 0<=n by lia);lia
 .have:=Int.mul_le_mul_of_nonneg_left (show 1<=q by lia) (show 0<=n by lia);lia
noncomputable def jzz (t:Ad):Sp:=λvs H Q _=>∃Z W Y T p To R pa aS few fo ho be ro pu,vs=[.ref To,.ref pa,.int pu]/\Sw t H Z W Y T p To R/\Ps H Z pa W.x aS few fo ho be ro p/\p.Ok/\0<=pu/\pu<(p.ns.length:Int)/\∀H' q o,Sw t H' Z W Y T p To R->Fr jW Z H Z H'->qh H' Z (.ref q) o->xq p.ns.length o=true->o.p=pu->o.n<=2->Q (.ref q) H'
theorem jrq (T:Txt K mg t):xl P w K mg base CX0 3 t.EW t.EX ["_law_town_here","_law_parts","_law_purse"] (jzz t):=by
 refine T.Ly.cA Dw λ_ A _ s H vs Q E hr h=>?_;obtain⟨Z,W,Y,T',p,To,R,pa,aS,few,fo,ho,be,ro,pu,rfl,S,Bq,ok,p0,p1,k⟩:=h;refine⟨_,(@jb _ _ _ _ _ (qa (i:=3) Dw.nd rfl (Or.inl rfl) (jn jt rfl T.cB boot_len (jc (j7 fb (pv 1) jh (λ_ _=>rfl)) jf))) (@jb _ _ _ _ _ (qa (i:=4) Dw.nd rfl (Or.inl rfl) (zt mZ (zt fF (zt fF (pv 2) jh) (jr (qx T) hr.dn rfl T.zb T.qv.kp T.zc .nil ju (@aB _ _ _ _ _ (pv 0) (zt i8 (pv 3) jh) rfl rfl))) (pv 3))) (@jd _ _ _ (j5 (@fW _ _ _ _ _ (@Di _ _ _ _ _ _ _ _ _ (pv 2) (jr (qx T) hr.dn rfl T.zb T.qv.kp T.zc .nil ju (@aB _ _ _ _ _ (pv 0) jh rfl rfl)) (pv 4) (zt fF jh (jr (uH T) hr.dn rfl T.tE T.g9.kp T.tF .nil ju (@aB _ _ _ _ _ (pv 0) (@qq _ _ _ _ (@bT _ _ _ _ _ _ _ jh jh (jr (qx T) hr.dn rfl T.zb T.qv.kp T.zc .nil ju (@aB _ _ _ _ _ (pv 0) jh rfl rfl)) rfl rfl rfl)) rfl rfl))) rfl rfl rfl rfl)))))),?_⟩;have l2:=ok.l2;have l8:=ok.l8;refine⟨_,rfl,pa,_,5,.ref be,rfl,rfl,ay.of Bq.tp.1,rfl,be,_,rfl,.inl (af.of Bq.be.1),?_⟩;rw[length_map];refine⟨_,rfl,_,_,rfl,rfl,_,rfl,_,rfl,_,_,rfl,rfl,To,R,(p.ns.length:Int)-1,rfl,S.tn,by omega,by omega,λd H1 d0 d1 uK k1=>?_⟩;obtain⟨S1,f1⟩:=S.draw uK k1;obtain⟨g0,g1,g2⟩:=j6h p0 p1 d0 d1;refine⟨_,_,rfl,rfl,_,rfl,_,_,rfl,rfl,(by show(0:Int)<(p.ns.length:Int);omega),?_⟩;refine⟨_,rfl,_,rfl,To,R,3,rfl,S1.tn,by decide,by decide,λn H2 n0 n1 mF k2=>?_⟩;obtain⟨S2,f2⟩:=S1.draw mF k2;refine⟨_,rfl,_,rfl,_,rfl,To,R,12,rfl,S2.tn,by decide,by decide,λm H3 m0 m1 GJ k3=>?_⟩;obtain⟨S3,f3⟩:=S2.draw GJ k3;refine⟨kW,λl nl=>?_⟩;have s3:=je (o:=.lst [.int 0,.int 4,.int m]) nl;have Nc:=S3.same s3;obtain⟨n1',n2'⟩:=S3.tn.fresh nl;refine⟨To,R,l,_,rfl,Nc.tn,ja,n1',n2',by show 0<3;decide,by show 3<=1000000;decide,λi x H4 ex GK k4=>?_⟩;obtain⟨S4,f4⟩:=Nc.draw GK k4;obtain⟨v,rfl,v0,v1⟩:∃v,x=V.int v/\0<=v/\v<=12:=by
  have:=mem_of_getElem? ex;simp only[mem_cons,List.not_mem_nil,or_false]at this;rcases this with rfl|rfl|rfl
  .exact⟨0,rfl,by decide,by decide⟩
  .exact⟨4,rfl,by decide,by decide⟩
  .exact⟨m,rfl,m0,by omega⟩
 refine⟨_,_,rfl,rfl,Dh,λq nq=>?_⟩;have s5:=je (o:=.tup [.int pu,.int n,.int ((pu+1+d)%(p.ns.length:Int)),.int (1+v)]) nq;refine k _ q ⟨pu,n,(pu+1+d)%(p.ns.length:Int),1+v⟩ (S4.same s5) ((((f1.trans f2).trans f3).trans (Fr.same s3)).trans (f4.trans (Fr.same s5))) ⟨q,rfl,S4.w.kr.none nq,ja⟩ (xy.mpr ⟨p0,by show pu<=(p.ns.length:Int)-1;omega,g0,by show(pu+1+d)%(p.ns.length:Int)<=(p.ns.length:Int)-1;omega,λy=>g2 y.symm,n0,by show n<=99;omega,by show 1<=1+v;omega,by show 1+v<=1000;omega⟩) rfl (by show n<=2;omega)
theorem int_at {zs:List Int}{i:Nat}{x:V}(e:(zs.map V.int)[i]?=some x):∃z,z∈zs/\x= .int z:=by obtain⟨z,hz,e⟩:=mem_map.mp (mem_of_getElem? e);exact⟨z,hz,e.symm⟩
structure Tw (H:Hp)(Z:ar)(To R:Addr):Prop where
 kr:aw Z H
 tn:cO To R H
 tr:uG Z To R
section
variable {H H':Hp}{Z:ar}{To R:Addr}
theorem Tw.same (s:xr H H')(x:Tw H Z To R):Tw H' Z To R:=⟨x.kr.same s,x.tn.same s,x.tr⟩
theorem Tw.draw (x:Tw H Z To R)(hT:cO To R H')(k:jQ To R H H'):Tw H' Z To R/\Fr jW Z H Z H':=⟨⟨MY x.kr hT k,hT,x.tr⟩,Gz x.tr k⟩
end
theorem GL {ls:List Int}{n:Nat}{x:Int}:x∈aS ls n↔(0<=x/\x<(n:Int))/\x∉ls:=by
 unfold aS;rw[mem_filter,mem_map];constructor
 .rintro⟨⟨i,hi,rfl⟩,h⟩
  exact⟨⟨by lia,by have:=mem_range.mp hi;lia⟩,by simpa using h⟩
 .rintro⟨⟨h0,h1⟩,h⟩
  exact⟨⟨x.toNat,mem_range.mpr (by lia),by lia⟩,by simpa using h⟩
theorem j60 {h f:Int}{ns cs ls:List Int}:∀c∈(w0 h f ns cs ls).ks,lE (w0 h f ns cs ls).n c.2:=λc hc=>by obtain⟨i,hi,rfl⟩:=mem_map.mp (show c∈(aS ls h.toNat).map λi=>(i,fw ns)from hc);exact⟨j4q ns,λ_ h=>by cases h⟩
theorem j1q {ls:List Int}{n:Nat}(up:ls.Pairwise (·<·)):(aS ls n++ls).Nodup:=by refine nodup_append.mpr ⟨?_,up.imp λh=>Int.ne_of_lt h,λx hx y hy e=>(GL.mp hx).2 (e ▸ hy)⟩;unfold aS;exact List.Pairwise.filter _ (List.Pairwise.map _ (λa b dy z=>dy (Int.ofNat.inj z)) nodup_range)
theorem jx7 {ls:List Int}{n:Nat}(up:ls.Pairwise (·<·))(r:∀x∈ls,0<=x/\x<(n:Int)):(aS ls n).length+ls.length<=n:=by
 have h:=uC (ys:=(List.range n).map λ(i:Nat)=>(i:Int)) (j1q (n:=n) up) λx hx=>by
  have:0<=x/\x<(n:Int):=by
   rcases mem_append.mp hx with h|h
   .exact(GL.mp h).1
   .exact r x h
  exact mem_map.mpr ⟨x.toNat,mem_range.mpr (by lia),by lia⟩
 rwa[length_append,length_map,length_range]at h
noncomputable def jz9 (t:Ad):Sp:=λvs H Q _=>∃Z To R,vs=[.ref To]/\Tw H Z To R/\∀Z' H' W Y pa cr few fo ho be ro p,p.Ok->Sw t H' Z' W Y 0 p To R->Ps H' Z' pa W.x cr few fo ho be ro p->Y.way=[]->Y.bd=[]->Y.ks=p.hs.map (λh=>(h,fw p.ns))->Q (.ref pa) H'
set_option maxHeartbeats 0 in
theorem jr3 (T:Txt K mg t) : xl P w K mg base CX0 8 t.ES t.ET ["_law_town_here"] (jz9 t):=by
 refine T.Lw.cA ym λ_ A _ s H vs Q E hr h=>?_
 obtain ⟨Z,To,R,rfl,S,k⟩:=h
 refine ⟨_,(@jb _ _ _ _ _ (qa (i:=1) ym.nd rfl (Or.inl rfl) (jr (qx T) hr.dn rfl T.zb T.qv.kp T.zc .nil ju (@aB _ _ _ _ _ (pv 0) jh rfl rfl)))
  (@jb _ _ _ _ _ (qa (i:=2) ym.nd rfl (Or.inl rfl) (zt fF (zt fF (zt wB jh (pv 1)) jh) (jr (qx T) hr.dn rfl T.zb T.qv.kp T.zc .nil ju (@aB _ _ _ _ _ (pv 0) jh rfl rfl))))
  (@jb _ _ _ _ _ (qa (i:=3) ym.nd rfl (Or.inr rfl) (jr (M6 T) hr.dn rfl T.Lu T.Ft.kp T.Lv .nil ju (@bT _ _ _ _ _ _ _ (pv 0) (pv 2) (pv 1) rfl rfl rfl)))
  (@jb _ _ _ _ _ (Co (i:=4) ym.nd rfl rfl (N':=["_law_k","_law_town_here"]) (ix:=[none,some 0]) (y8 (by kernel_rfl)) rfl (oO rfl T.pH (jc (zt fF jh (jr (qx T) hr.dn rfl T.zb T.qv.kp T.zc .nil ju (@aB _ _ _ _ _ (pv 0) jh rfl rfl))) jf)) (λ_ _ _ _=>(jw (i:=0) Ve rfl (Or.inl rfl) (.inr rfl))) (λ_ _ _ _=>oY) (λ_ _ _ _=>(jr (uH T) hr.dn rfl T.tE T.g9.kp T.tF .nil ju (@aB _ _ _ _ _ (pv 1) (@qq _ _ _ _ (@Dj _ _ _ _ _ _ _ _ _ _ _ jh jh jh jh (jr (qx T) hr.dn rfl T.zb T.qv.kp T.zc .nil ju (@aB _ _ _ _ _ (pv 1) jh rfl rfl)) rfl rfl rfl rfl rfl)) rfl rfl))))
  (@jb _ _ _ _ _ (qa (i:=5) ym.nd rfl (Or.inl rfl) (jr (M6 T) hr.dn rfl T.Lu T.Ft.kp T.Lv .nil ju (@bT _ _ _ _ _ _ _ (pv 0) (jn jt rfl T.cB boot_len (jc (pv 4) jf)) jh rfl rfl rfl)))
  (@jb _ _ _ _ _ (qa (i:=6) ym.nd rfl (Or.inl rfl) (TM T.Wk (ZA T) hr.dn rfl T.Xy T.Wm ju (jc (pv 2) jf) (jA (pv 1) (jA (pv 4) (jA (pv 3) (jA (pv 5) oR))))))
  (@jd _ _ _ (j5 (@fW _ _ _ _ _ (@UW _ _ _ _ _ _ _ _ _ _ _ _ _ _ _ (pv 6) (pv 2) (pv 1) (pv 3) (nG (N':=["_law_k","_law_foes"]) (ix:=[none,some 3]) (y8 (by kernel_rfl)) rfl (oO rfl T.pH (jc (pv 2) jf)) (λ_ _ _ _=>(jw (i:=0) Vd rfl (Or.inl rfl) (.inr rfl))) (λ_ _ _ _=>(rJ (jx (Kl (K:=K) rfl) (pv 0) (pv 1) (by with_unfolding_all rfl)))) (λ_ _ _ _=>(pv 0))) (pv 4) (pv 5) rfl rfl rfl rfl rfl rfl rfl)))))))))),?_⟩
 refine ⟨_,rfl,To,R,3,rfl,S.tn,by decide,by decide,λf H1 f0 f1 uK k1=>?_⟩
 obtain ⟨S1,r1⟩:=S.draw uK k1
 refine ⟨_,rfl,_,_,rfl,rfl,.inl ⟨by decide,by decide⟩,_,_,rfl,rfl,_,rfl,To,R,2,rfl,S1.tn,by decide,by decide,λd H2 d0 d1 mF k2=>?_⟩
 obtain ⟨S2,r2⟩:=S1.draw mF k2
 have F2:=r1.trans r2
 obtain ⟨h,eh⟩ : ∃ h:Int,h = 3 * f + 1 + d:=⟨_,rfl⟩
 refine ⟨_,_,rfl,rfl,?_⟩
 dsimp only
 rw [<- eh]
 have h1 : 1 <= h:=by omega
 have h8:h <= 16:=by omega
 have lt : 3 * f < h:=by omega
 refine ⟨_,rfl,_,rfl,_,rfl,To,R,h,f,rfl,S2.tn,by omega,by omega,λfo ls H3 nfo GJ k3 hfo zL pR GN=>?_⟩
 rw [if_pos f0] at GN
 obtain ⟨S3,r3⟩:=S2.draw GJ k3
 have F3:=F2.trans r3
 have U3:Un H3 Z fo (ls.map V.int):=⟨hfo,S2.kr.none nfo⟩
 show fC 3 (.ref fo) [some (.ref To),some (.int f),some (.int h),none,none,none,none] H3 _
 refine ⟨_,rfl,To,R,3,rfl,S3.tn,by decide,by decide,λc H4 c0 c1 GK k4=>?_⟩
 obtain ⟨S4,r4⟩:=S3.draw GK k4
 have U4:=U3.fr r4
 have F4:=F3.trans r4
 refine ⟨_,_,rfl,rfl,2 + c,rfl,by omega,by omega,JM (lo:=0) (n:=(2 + c).toNat) (λi ys U H'=>∃ v zs,U = [v,some (.ref To)] /\ ys = (zs:List Int).map V.int /\ zs.length = i /\ (∀ z ∈ zs,0 <= z /\ z <= 1000) /\ Tw H' Z To R /\ Fr jW Z H4 Z H') ⟨none,[],rfl,rfl,rfl,(λ_ z=>by cases z),S4,Fr.refl⟩ ?_ ?_ ?_⟩
 .rintro i ys U H' hi ⟨v,zs,rfl,rfl,lz,_⟩
  rw [length_map]
  exact iP (by omega)
 .rintro i ys U H' hi ⟨v,zs,rfl,rfl,lz,rz,S5,r5⟩
  dsimp only [fC,rH]
  rw [if_pos rfl]
  refine ⟨_,rfl,_,rfl,To,R,40,rfl,S5.tn,by decide,by decide,λm H6 m0 m1 hT6 k6=>?_⟩
  obtain ⟨S6,r6⟩:=S5.draw hT6 k6
  refine ⟨UR,λl nl=>?_⟩
  have s7:=je (o:=.lst ([0,5,20,1000,m].map V.int)) nl
  have S7:=S6.same s7
  obtain ⟨n1,n2⟩:=S6.tn.fresh nl
  refine ⟨To,R,l,[0,5,20,1000,m].map V.int,rfl,S7.tn,ja,n1,n2,by show 0 < 5; decide,by show 5 <= 1000000; decide,λj x H8 ex hT8 k8=>?_⟩
  obtain ⟨S8,r8⟩:=S7.draw hT8 k8
  obtain ⟨z,hz,rfl⟩:=int_at ex
  refine ⟨_,zs ++ [z],rfl,by rw [map_append]; rfl,by rw [length_append,lz]; rfl,λy hy=>?_,S8,(r5.trans r6).trans ((Fr.same s7).trans r8)⟩
  rcases mem_append.mp hy with hy | hy
  .exact rz y hy
  .rw [mem_singleton.mp hy]
   simp only [mem_cons,List.not_mem_nil,or_false] at hz
   rcases hz with rfl | rfl | rfl | rfl | rfl <;> omega
 rintro ys U H5 ⟨v,ns,rfl,rfl,lz,rz,S5,r5⟩ be Nd
 have s6:=je (o:=.lst (ns.map V.int)) Nd
 have S6:=S5.same s6
 have GO:Un (upd H5 be (.lst (ns.map V.int))) Z be (ns.map V.int):=⟨ja,S5.kr.none Nd⟩
 have Nf:Un (upd H5 be (.lst (ns.map V.int))) Z fo (ls.map V.int):=(U4.fr r5).fr (P:=λ_=>False) (Fr.same s6)
 have F6:Fr jW Z H Z (upd H5 be (.lst (ns.map V.int))):=(F4.trans r5).trans (Fr.same s6)
 generalize upd H5 be (.lst (ns.map V.int)) = H6 at S6 GO Nf F6
 show fC 4 (.ref be) [some (.ref To),some (.int f),some (.int h),some (.ref fo),none,none,none] H6 _
 refine ⟨_,rfl,_,rfl,be,_,rfl,.inl (af.of GO.1),?_⟩
 rw [length_map]
 refine ⟨To,R,(ns.length:Int),2,rfl,S6.tn,by omega,by omega,λro cs H7 nro hT7 k7 hro upc zM lnc=>?_⟩
 rw [if_pos (by decide)] at lnc
 obtain ⟨S7,r7⟩:=S6.draw hT7 k7
 have Uro:Un H7 Z ro (cs.map V.int):=⟨hro,S6.kr.none nro⟩
 have GP:=GO.fr r7
 have GQ:=Nf.fr r7
 have F7:=F6.trans r7
 show fC 5 (.ref ro) [some (.ref To),some (.int f),some (.int h),some (.ref fo),some (.ref be),none,none] H7 _
 refine ⟨_,rfl,_,rfl,_,rfl,_,rfl,_,rfl,λx dx nx Ae ne=>?_⟩
 obtain ⟨fm,krm⟩:=j12 (C:=t.j3) nx Ae ne (r:=(0,.x)) S7.kr
 have ox:=GP.fr fm
 have oy:=GQ.fr fm
 have oz:=Uro.fr fm
 have ln:ns.length = (2 + c).toNat:=lz
 refine ⟨vg Z x (0,.x),0,x,dx,h,f,be,ns,fo,ro,cs,ls,rfl,ja,qk,krm,⟨h1,h8⟩,⟨f0,by omega⟩,lt,ox.1,(λr hr=>by rw [ox.2] at hr; cases hr),by omega,by omega,rz,.inl ⟨oy.1,λr hr=>by rw [oy.2] at hr; cases hr⟩,zL,pR,GN,.inl ⟨oz.1,λr hr=>by rw [oz.2] at hr; cases hr⟩,upc,zM,λZ' H8 W ex GR O ly f8 Ag=>⟨rfl,?_⟩⟩
 have gn:=j67 (cs:=cs) ⟨h1,h8⟩ f0 lt (by omega:ns.length <= 8) (λx hx=>(rz x hx).1) GN pR
 have ek:(w0 h f ns cs ls).ks.map (·.1) = aS ls h.toNat:=by
  show ((aS ls h.toNat).map λi=>(i,fw ns)).map (·.1) = _
  rw [map_map]
  exact List.map_id _
 have lk:(aS ls h.toNat).length = (w0 h f ns cs ls).ks.length:=by rw [<- ek,length_map]
 have k0:=gn.ok.k0
 have k1:=gn.ok.k1
 obtain ⟨jY,tr8⟩:=GD f8 (λz=>by cases z) (λz=>by cases z) (S7.tn.same (λb u e=>(fm b u e (λ_ _ z=>z)).1)) ⟨by rw [zy (S7.tn.fresh nx).1.symm]; exact S7.tr.1,by rw [zy (S7.tn.fresh nx).2.symm]; exact S7.tr.2⟩
 have S8:Sw t H8 Z' W (w0 h f ns cs ls) 0 ⟨ns,cs,ls,aS ls h.toNat,h - f⟩ To R:=⟨⟨O,Ag,ly,⟨[],gn,j60⟩,rfl,rfl,rfl,ek,GR⟩,jY,tr8⟩
 have GS:=ox.fr f8
 have uL:=oy.fr f8
 have GU:=oz.fr f8
 show fC 6 (V.ref x) [some (.ref To),some (.int f),some (.int h),some (.ref fo),some (.ref be),some (.ref ro),none] H8 _
 refine ⟨_,rfl,_,rfl,_,rfl,_,rfl,_,rfl,h,rfl,by omega,by omega,JM (lo:=0) (n:=h.toNat) (λi ys U H'=>∃ v,U = [v,some (.ref fo)] /\ H' = H8 /\ ys = (aS ls i).map V.int) ⟨none,rfl,rfl,rfl⟩ ?_ ?_ ?_⟩
 .rintro i ys U H' hi ⟨v,rfl,rfl,rfl⟩
  rw [length_map]
  have:=Gh ls i
  exact iP (by omega)
 .rintro i ys U H' hi ⟨v,rfl,rfl,rfl⟩
  have e0:(0:Int) + (i:Int) = i:=Int.zero_add _
  rw [e0]
  refine ⟨_,rfl,_,rfl,fo,_,rfl,.inl (af.of uL.1),rfl,w6 _,_,rfl,?_⟩
  rw [if_pos rfl,y6]
  by_cases z:(i:Int) ∈ ls
  .rw [decide_eq_true z]
   refine we ⟨_,rfl,rfl,?_⟩
   rw [zK,if_pos z,append_nil]
  .rw [decide_eq_false z]
   refine br ⟨_,rfl,_,rfl,rfl,?_⟩
   rw [zK,if_neg z,map_append]
   rfl
 rintro ys U H9 ⟨v,rfl,rfl,rfl⟩ ho Ng
 have dO:=je (o:=.lst ((aS ls h.toNat).map V.int)) Ng
 refine ⟨_,rfl,_,rfl,US,λpa Nh=>?_⟩
 have Ah:=je (o:=.tup [.ref x,.int h,.int f,.ref fo,.ref ho,.ref be,.ref ro]) Nh
 have fs:Fr (λ_=>False) Z' H9 Z' _:=Fr.same (dO.trans Ah)
 have GV:=(S8.same dO).same Ah
 refine k Z' _ W _ pa h f fo ho be ro _ ⟨by show 2 <= ns.length; omega,by show ns.length <= 8; omega,zM,by show cs.length <= 1000; omega,by show ls.length <= 5; omega,by show 0 < (aS ls h.toNat).length; omega,by show (aS ls h.toNat).length <= 16; omega,by show cs.length <= 2; omega,by show (((aS ls h.toNat).length + 2 * ls.length:Nat) : Int) < 2 * (h - f); have:=jx7 (n:=h.toNat) zL (λx hx=>by have:=pR x hx; omega); omega⟩ GV ⟨⟨?_,(S8.same dO).w.kr.none Nh⟩,uL.fr fs,⟨Ah _ _ ja,S8.w.kr.none Ng⟩,GS.fr fs,GU.fr fs,rfl,λx hx=>(mem_append.mp hx).elim (λhx=>by have:=(GL.mp hx).1; omega) (pR x),⟨⟨h1,h8⟩,f0,by omega⟩,rz⟩ rfl rfl rfl
 rw [ex]
 exact ja
theorem jkg (T:Txt K mg t):xl P w K mg base CX0 1 t.D2 t.uw ["self","thing"] (Ye t):=by
 refine T.VS.bj (N:=["self","thing"]) λ_ A _ s H vs Q E hr h=>?_;obtain⟨p,dx,S,en,aa,ps,b,k,rfl,Bq,hb,mq,q⟩:=h;refine⟨_,(@jd _ _ _ (j5 (jn Kj rfl T.yW boot_sorted (jc (wV (cM hr) (qd (pv 0) rfl) (pv 1) (@qq _ _ _ _ jf) ⟨rfl,rfl,rfl,rfl⟩) jf)))),?_⟩;refine⟨_,rfl,p,_,dx,_,_,rfl,Bq.ob,T.vm,T.yu,FD _ _,S,rfl,.inr ⟨aa,Bq.sg⟩,_,rfl,cu,λr hr=>?_⟩;have s1:=je (o:=.lst []) hr;refine⟨_,.inr ⟨aa,k,b,tG s1 Bq.sg,rfl,s1 _ _ hb,rfl⟩,?_⟩;rcases yZ (k:=k) Bq.hs with⟨h1,h2,h3⟩|⟨c,h1,h2⟩
 .rw[h1];refine⟨r,[],rfl,af.of ja,by decide,λz ns hz hp hs=>?_⟩;rw[h2]at q;exact q z ns _ (s1.free hz) (s1.trans (je hz)) hp hs ja
 .rw[h1];refine⟨c,qo ps k,rfl,af.of (s1 _ _ h2),mq,λz ns hz hp hs=>?_⟩;exact q z ns _ (s1.free hz) (s1.trans (je hz)) hp hs ja
noncomputable def vt (B:Kp)(q:Int×Int):Option O:=(B.cho.find? λx=>decide (x.1=q)).map (·.2)
noncomputable def pW (H:Hp)(Z:ar)(v:V):Option O->Prop
 |none=>v= .aq
 |some o=>qh H Z v o
theorem pW.fr {P:Role->Prop}{Z Z':ar}{H H':Hp}{v:V}:∀{t:Option O},Fr P Z H Z' H'->pW H Z v t->pW H' Z' v t
 |none,_,h=>h
 |some _,f,h=>qh.fr f h
theorem Ni {H:Hp}{Z:ar}{q:Int×Int}:∀{aa:List (List Key×V)}{c:List ((Int×Int)×O)},Paired (λkv (c:(Int×Int)×O)=>kv.1=[.inl c.1.1,.inl c.1.2]/\qh H Z kv.2 c.2) aa c->(aO aa [.inl q.1,.inl q.2]=none/\(c.find? λx=>decide (x.1=q))=none)\/∃v x,aO aa [.inl q.1,.inl q.2]=some v/\(c.find? λx=>decide (x.1=q))=some x/\qh H Z v x.2:=λ{aa c} p=>by
 induction p with
 |nil=>exact .inl ⟨rfl,rfl⟩
 | @cons kv c aa cs a r ih=>
  obtain⟨e,h⟩:=a;by_cases z:c.1=q
  .exact .inr ⟨_,c,vy (show kv.1=_ by rw[e,z]),List.find?_cons_of_pos (by simpa using z),h⟩
  .rw[y7 (λy=>z ?_),List.find?_cons_of_neg (by simpa using z)]
   .exact ih
   .rw[e]at y;have y1:=(List.cons.inj y).1;have y2:=(List.cons.inj (List.cons.inj y).2).1;exact Prod.ext (Sum.inl.inj y1) (Sum.inl.inj y2)
theorem jp3 (T:Txt K mg t):xl P w K mg base CX0 4 t.Er t.Es ["self","house","purse","number"] (λvs H Q _=>∃Z id W Y h B q,vs=[.ref W.x,.int h,.int q.1,.int q.2]/\qj t H Z id W Y/\Y.keep h=some B/\(0<=q.1/\q.1<(Y.n:Int))/\∀v H',xr H H'->pW H' Z v (vt B q)->Q v H'):=by
 refine T.Wz.cA K3 λ_ A _ s H vs Q E hr h=>?_;obtain⟨Z,id,W,Y,h,B,q,rfl,Ow,ek,hq,k⟩:=h;refine⟨_,(@jb _ _ _ _ _ (qa (i:=4) K3.nd rfl (Or.inl rfl) (qc (pv 0) T.jl T.zj (xj T) hr.dn T.zx .nil ju (jc (pv 1) jf))) (@jb _ _ _ _ _ (qb (qc (pv 0) T.jl T.xw (wg T) hr.dn T.yq .nil ju (jc (pv 2) jf))) (@jb _ _ _ _ _ (zh (yt (xc (jr (yX T) hr.dn rfl T.yT T.tD.kp T.yU .nil ju (jc (pv 3) jf)))) zg j6) (@jd _ _ _ (j5 (JC (cM hr) (qd (pv 4) rfl) (@fW _ _ _ _ _ (@aB _ _ _ _ _ (pv 2) (pv 3) rfl rfl)) ⟨rfl,rfl,rfl,rfl⟩)))))),?_⟩;refine gd λN hN=>⟨_,rfl,W.x,W.dx,_,rfl,Ow.ob.1,xi,_,rfl,Z,id,W,Y,h,B,rfl,Ow,ek,λkk A' dk R=>?_⟩;refine hN _ _ (gd λN hN=>⟨_,rfl,W.x,W.dx,_,rfl,Ow.ob.1,xi,_,rfl,Z,id,W,Y,q.1,rfl,Ow,hq.1,hq.2,?_⟩);refine hN [some (.ref W.x),some (.int h),some (.int q.1),some (.int q.2),some (.ref kk)] _ (gd λN hN=>⟨_,rfl,q.2,rfl,_,rfl,we (hN _ _ ?_)⟩);obtain⟨aa,hD,pk⟩:=R.cs;refine⟨_,rfl,kk,_,dk,_,_,rfl,R.ob,T.jm,T.zd,(zu A').2.2.2.2.2.1,A' 6,rfl,.inr ⟨aa,.inl hD⟩,_,rfl,_,rfl,my,λb nb=>?_⟩;have s1:=je (o:=.tup [.int q.1,.int q.2]) nb;have pk1:Paired (λkv (c:(Int×Int)×O)=>kv.1=[.inl c.1.1,.inl c.1.2]/\qh (upd H b (.tup [.int q.1,.int q.2])) Z kv.2 c.2) aa B.cho:=Paired.yf pk λ_ _ ⟨a,c⟩=>⟨a,c.fr (P:=λ_=>False) (Fr.same s1)⟩;refine⟨aO aa [.inl q.1,.inl q.2],.inr ⟨aa,[.inl q.1,.inl q.2],b,.inl (s1 _ _ hD),rfl,ja,rfl⟩,?_⟩;refine k _ _ s1 ?_;unfold vt;rcases Ni (q:=q) pk1 with⟨e1,e2⟩|⟨v,x,e1,e2,u⟩
 .rw[e1,e2];rfl
 .rw[e1,e2];exact u
theorem jlh (T:Txt K mg t):xl P w K mg base CX0 6 t.Et t.Eu ["self","order"] (λvs H Q _=>∃Z id W Y q o,vs=[.ref W.x,.ref q]/\qj t H Z id W Y/\H q=some (.tup (cC o))/\xq Y.n o=true/\(jv Y.bd (zl o)).length<64/\∀r ss H',H r=none->xr H H'->H' r=some (.lst ((ss:List Int).map V.int))->ss.Perm (jv Y.bd (zl o))->ss.Pairwise (·<=·)->Q (.ref r) H'):=by
 refine T.WD.bj (N:=["self","order"]) λ_ A _ s H vs Q E hr h=>?_;obtain⟨Z,id,W,Y,q,o,rfl,Ow,hq,ho,l64,g⟩:=h;refine⟨_,(@jb _ _ _ _ _ (qb (qc (pv 0) T.jl T.xu (wq T) hr.dn T.yp .nil ju (jc (pv 1) jf))) (@jd _ _ _ (j5 (qc (qd (pv 0) rfl) T.vm T.VT (jkg T) hr.dn T.VU .nil ju (jc (pv 1) jf))))),?_⟩;refine gd λN hN=>⟨_,rfl,W.x,W.dx,_,rfl,Ow.ob.1,xi,_,rfl,Z,id,W,Y,q,o,rfl,Ow,hq,ho,?_⟩;obtain⟨rb,rS,tR,Bq,sg⟩:=Ow.bd;have eh:qo (cZ Y.bd) (cJ o)=jv Y.bd (zl o):=zE (zl o) Y.bd;refine hN _ _ ⟨_,rfl,W.x,_,W.dx,_,_,rfl,Ow.ob.1,T.jl,T.gf,FV,W.bd,W.db,_,rfl,Bq.ob,FE _ _ (by decide+kernel) (by decide+kernel),_,rfl,W.bd,W.db,W.S,Y.en,tR,cZ Y.bd,q,cJ o,rfl,Bq.rd,hq,by rw[eh];exact l64,λr ss H2 nr s2 pm up h2=>?_⟩;exact g r ss H2 nr s2 h2 (by rw[<-eh];exact pm) up
noncomputable def eI (H:Hp)(Z:ar)(B:Kp)(f:Nat)(u:HO):Prop:=match f with
 |0=>u= .lst (B.held.map V.int)
 |1=>u= .lst (B.qz.map V.int)
 |2=>∃aa,u= .dT aa/\Paired (λkv (c:(Int×Int)×O)=>kv.1=[.inl c.1.1,.inl c.1.2]/\qh H Z kv.2 c.2) aa B.cho
 |3=>∃xs,u= .lst xs/\Paired (qh H Z) xs B.qe
 |4=>∃xs,u= .lst xs/\Paired (qh H Z) xs B.wait
 |5=>∃xs,u= .lst xs/\Paired (qh H Z) xs B.done
 |_=>True
theorem eI.fr {P:Role->Prop}{Z Z':ar}{H H':Hp}{B:Kp}{f:Nat}{u:HO}(fr:Fr P Z H Z' H')(h:eI H Z B f u):eI H' Z' B f u:=by
 unfold eI at h⊢;split at h
 .exact h
 .exact h
 .obtain⟨xs,e,p⟩:=h;exact⟨xs,e,Paired.yf p λ_ _ ⟨a,b⟩=>⟨a,b.fr fr⟩⟩
 all_goals first|trivial|(obtain⟨xs,e,p⟩:=h;exact⟨xs,e,Paired.yf p λ_ _=>qh.fr fr⟩)
structure yg (H:Hp)(Z:ar)(h:Int)(rm:Addr)(A:Nat->Addr)(B:Kp):Prop where
 rm:H rm=some (.lst [.ref (A 0),.ref (A 1),.ref (A 2),.ref (A 3),.ref (A 4),.ref (A 5)])/\Z rm=none
 fl:∀f,f<6->Z (A f)=some (8,.kp h f)/\∃u,H (A f)=some u/\eI H Z B f u
noncomputable def bX (h:Int):Role->Prop:=λr=>∃f,r=(8,.kp h f)
section
variable {H H':Hp}{Z Z':ar}{h:Int}{rm:Addr}{A:Nat->Addr}{B κ':Kp}{P:Role->Prop}
theorem yg.fr (hP:∀f,f<6->¬P (8,.kp h f))(f:Fr P Z H Z' H')(R:yg H Z h rm A B):yg H' Z' h rm A B:=by refine⟨bW f R.rm.1 R.rm.2,λi hi=>?_⟩;obtain⟨ri,u,hu,q⟩:=R.fl i hi;obtain⟨e2,r2⟩:=gg f hu ri (hP i hi);exact⟨r2,u,e2,q.fr f⟩
theorem yg.same (s:xr H H')(R:yg H Z h rm A B):yg H' Z h rm A B:=R.fr (P:=λ_=>False) (λ_ _ z=>z) (Fr.same s)
theorem yg.put (R:yg H Z h rm A B){f0:Nat}(h6:f0<6){u0:HO}(q0:eI (upd H (A f0) u0) Z κ' f0 u0)(hs:∀f u,f≠f0->eI H Z B f u->eI H Z κ' f u):yg (upd H (A f0) u0) Z h rm A κ'/\Fr (bX h) Z H Z (upd H (A f0) u0):=by
 obtain⟨r0,_⟩:=R.fl f0 h6;have fr:Fr (bX h) Z H Z (upd H (A f0) u0):=Fr.put r0 ⟨f0,rfl⟩;refine⟨⟨bW fr R.rm.1 R.rm.2,λf hf=>?_⟩,fr⟩;obtain⟨rf,u,hu,q⟩:=R.fl f hf;by_cases z:f=f0
 .subst z;exact⟨rf,_,ja,q0⟩
 .refine⟨rf,u,?_,(hs f u z q).fr fr⟩;rw[jg (cP rf r0 (by intro y;cases y;exact z rfl))];exact hu
theorem yg.sums (R:yg H Z h rm A B):H (A 0)=some (.lst (B.held.map V.int)):=by obtain⟨_,u,hu,q⟩:=R.fl 0 (by decide);have q':u= .lst (B.held.map V.int):=q;rw[hu,q']
theorem yg.qz (R:yg H Z h rm A B):H (A 1)=some (.lst (B.qz.map V.int)):=by obtain⟨_,u,hu,q⟩:=R.fl 1 (by decide);have q':u= .lst (B.qz.map V.int):=q;rw[hu,q']
theorem yg.cho (R:yg H Z h rm A B):∃aa,H (A 2)=some (.dT aa)/\Paired (λkv (c:(Int×Int)×O)=>kv.1=[.inl c.1.1,.inl c.1.2]/\qh H Z kv.2 c.2) aa B.cho:=by obtain⟨_,u,hu,aa,e,q⟩:=R.fl 2 (by decide);exact⟨aa,by rw[hu,e],q⟩
theorem yg.qe (R:yg H Z h rm A B):∃xs,H (A 3)=some (.lst xs)/\Paired (qh H Z) xs B.qe:=by obtain⟨_,u,hu,aa,e,q⟩:=R.fl 3 (by decide);exact⟨aa,by rw[hu,e],q⟩
theorem yg.uM (R:yg H Z h rm A B):∃xs,H (A 4)=some (.lst xs)/\Paired (qh H Z) xs B.wait:=by obtain⟨_,u,hu,aa,e,q⟩:=R.fl 4 (by decide);exact⟨aa,by rw[hu,e],q⟩
theorem yg.done (R:yg H Z h rm A B):∃xs,H (A 5)=some (.lst xs)/\Paired (qh H Z) xs B.done:=by obtain⟨_,u,hu,aa,e,q⟩:=R.fl 5 (by decide);exact⟨aa,by rw[hu,e],q⟩
end
noncomputable def lv (B:Kp)(os:List O):List ((Int×Int)×O)×List O:=os.foldl (cR B) (B.cho,[])
theorem j2v (B:Kp)(os:List O)(o:O):lv B (os++[o])=cR B (lv B os) o:=by unfold lv;rw[List.foldl_append];rfl
theorem Nj (B:Kp):∀(os:List O)(a:List ((Int×Int)×O)×List O),(os.foldl (cR B) a).1.length<=a.1.length+os.length/\(os.foldl (cR B) a).2.length<=a.2.length+os.length
 |[],a=>⟨le_refl _,le_refl _⟩
 | o::os,a=>by
  obtain⟨h1,h2⟩:=Nj B os (cR B a o);have:(cR B a o).1.length<=a.1.length+1/\(cR B a o).2.length<=a.2.length+1:=by
   unfold cR;split
   .simp
   .omega
  rw[foldl_cons,length_cons];lia
theorem pX {xs:List Int}{i:Int}(h0:0<=i)(h:i<xs.length):il (xs.map V.int) i=some (.int (gI xs i)):=fN h0 (by rw[getElem?_map,zA h0 h];rfl)
noncomputable def Nk:Sp:=λvs H Q _=>∃Z h rm A B,∃n:Nat,vs=[.ref rm]/\yg H Z h rm A B/\aw Z H/\B.qe.length+B.cho.length<=1000/\B.held.length=n/\B.qz.length=n/\(∀o∈B.qe,xq n o=true)/\∀Z' r ys H',yg H' Z' h rm A {B with cho:=(lv B B.qe).1}->Fr (bX h) Z H Z' H'->aw Z' H'->Z' r=some (8,.kp h 9)->H' r=some (.lst ys)->Paired (qh H' Z') ys (lv B B.qe).2->Q (.ref r) H'
structure pY (Z:ar)(h:Int)(rm:Addr)(A:Nat->Addr)(B:Kp)(r:Addr)(H0:Hp)(a:List ((Int×Int)×O)×List O)(H:Hp):Prop where
 fr:Fr (bX h) Z H0 Z H
 kr:aw Z H
 R:yg H Z h rm A {B with cho:=a.1}
 hv:∃ys,H r=some (.lst ys)/\Paired (qh H Z) ys a.2
theorem pY.same {Z:ar}{h:Int}{rm:Addr}{A:Nat->Addr}{B:Kp}{r:Addr}{H0 H H':Hp}{a:List ((Int×Int)×O)×List O}(s:xr H H')(J:pY Z h rm A B r H0 a H):pY Z h rm A B r H0 a H':=⟨J.fr.trans (Fr.same s),J.kr.same s,J.R.same s,let⟨ys,e,p⟩:=J.hv;⟨ys,s _ _ e,Paired.yf p λ_ _=>qh.fr (P:=λ_=>False) (Fr.same s)⟩⟩
set_option maxHeartbeats 0 in
theorem Nl (T:Txt K mg t) : xl P w K mg base CX0 1 t.E1 t.E2 ["_law_room_here"] Nk:=by
 refine T.Fu.cA yr λ_ A _ s H vs Q E hr h=>?_
 obtain ⟨Z,h,rm,A',B,n,rfl,R,kr,lh,l0,l1,ho,k⟩:=h
 refine ⟨_,(@jb _ _ _ _ _ (@qa _ _ 1 _ _ _ _ yr.nd rfl (Or.inl rfl) (@qq _ _ _ _ jf) (by rfl) (by first | exact .inl rfl | exact .inr rfl))
  (@jb _ _ _ _ _ (ie PassesOwn.never rfl (@fE _ _ _ _ (j7 jo (pv 0) jh (λ_ _=>rfl))) (jw (i:=2) yr.nd rfl (Or.inl rfl)) (@jb _ _ _ _ _ (dY (pv 2) (lS rfl (j8 (jw (i:=3) yr.nd rfl (Or.inl rfl)) (j8 (jw (i:=4) yr.nd rfl (Or.inl rfl)) (j8 (jw (i:=5) yr.nd rfl (Or.inl rfl)) (j8 (jw (i:=6) yr.nd rfl (Or.inl rfl)) lR))))))
  (@jd _ _ _ (zh (PW.pt (hZ (qF (wR (cM hr) (@fW _ _ _ _ _ (@aB _ _ _ _ _ (pv 3) (pv 4) rfl rfl)) (j7 jo (pv 0) jh (λ_ _=>rfl)))) (hZ (jx fG (pv 4) (j7 jo (j7 jo (pv 0) jh (λ_ _=>rfl)) (pv 3) (λ_ _=>rfl)) (qf _)) (kD (jx oP (pv 6) (j7 jo (j7 jo (pv 0) jh (λ_ _=>rfl)) (pv 3) (λ_ _=>rfl)) (qf _)))))) (@jb _ _ _ _ _ (rF (cM hr) (j7 jo (pv 0) jh (λ_ _=>rfl)) (@fW _ _ _ _ _ (@aB _ _ _ _ _ (pv 3) (pv 4) rfl rfl)) (pv 2) rfl)
  (@jd _ _ _ (qb (dq PySem.F.plainAttrs_list PySem.F.slot_list_append PySem.F.type_list_append xf (pv 1) (jc (pv 2) jf))))) j6))))
  (@jd _ _ _ (j5 (pv 1))))),?_⟩
 refine ⟨cu,λr nr=>?_⟩
 have f1:Fr (λ_=>False) Z H (vg Z r (8,.kp h 9)) (upd H r (.lst [])):=Fr.bA nr
 have aV:aw (vg Z r (8,.kp h 9)) (upd H r (.lst [])):=kr.bA
 have R1:=R.fr (λ_ _ z=>z) f1
 have r9:vg Z r (8,.kp h 9) r = some (8,.kp h 9):=qk
 have GW:Fr (bX h) Z H (vg Z r (8,.kp h 9)) (upd H r (.lst [])):=f1.mono λ_ z=>z.elim
 have kZ:upd H r (.lst []) r = some (.lst []):=ja
 generalize upd H r (.lst []) = H1 at GW aV R1 kZ
 generalize vg Z r (8,.kp h 9) = Z1 at GW aV R1 r9
 clear f1 R kr
 obtain ⟨xs,h3,p3⟩:=R1.qe
 have lx:=Paired.length p3
 have J0:pY Z1 h rm A' B r H1 (lv B (B.qe.take 0)) H1:=⟨Fr.refl,aV,R1,[],kZ,.nil⟩
 have no9 : ∀ f,f < 6 -> ¬ ((8,.kp h f) : Role) = (8,.kp h 9):=λf hf z=>by injection z with _ z; injection z with _ z; omega
 refine ⟨_,rfl,rm,_,3,.ref (A' 3),rfl,rfl,af.of R1.rm.1,rfl,A' 3,rfl,⟨_,af.of h3⟩,mY (K:=K) (a:=A' 3) (xs:=xs) (λi U H'=>∃ v2 v3 v4 v5 v6,U = [some (.ref rm),some (.ref r),v2,v3,v4,v5,v6] /\ pY Z1 h rm A' B r H1 (lv B (B.qe.take i)) H' /\ H' (A' 3) = some (.lst xs) /\ Paired (qh H' Z1) xs B.qe) ⟨none,none,none,none,none,rfl,J0,h3,p3⟩ (λi U H' _ ⟨_,_,_,_,_,_,_,e,_⟩=>af.of e) ?_ ?_⟩
 .rintro i x U H3 ex ⟨v2,v3,v4,v5,v6,rfl,J,hx,px⟩
  obtain ⟨o,eo,q,rfl,nq,hq⟩:=zi px ex
  have om:=mem_of_getElem? eo
  have io:=xy.mp (ho o om)
  have ll:=Nj B (B.qe.take i) (B.cho,[])
  have lt:(B.qe.take i).length <= B.qe.length:=by rw [length_take]; omega
  rw [take_snoc eo,j2v]
  change (lv B (B.qe.take i)).1.length <= B.cho.length + _ /\ (lv B (B.qe.take i)).2.length <= 0 + _ at ll
  generalize lv B (B.qe.take i) = a at J ll ⊢
  obtain ⟨aa,hk,pk⟩:=J.R.cho
  have ck:=Ma (o:=o) pk
  dsimp only [fC]
  refine gd λN hN=>⟨_,rfl,q,_,rfl,ay.of hq,rfl,_,_,rfl,_,_,rfl,_,_,rfl,_,_,rfl,rfl,?_⟩
  refine hN [some (.ref rm),some (.ref r),some (.ref q),some (.int o.p),some (.int o.n),some (.int o.g),some (.int o.m)] _ ⟨_,rfl,_,rfl,my,λp0 mB=>?_⟩
  have sp:=je (o:=.tup [.int o.p,.int o.n]) mB
  have Jp:=J.same sp
  have GX:=sp _ _ hx
  have GY:Paired (qh _ Z1) xs B.qe:=Paired.yf px λ_ _=>qh.fr (P:=λ_=>False) (Fr.same sp)
  have Nm:=sp _ _ hq
  have Nn:upd H3 p0 (.tup [.int o.p,.int o.n]) p0 = some (.tup [.int o.p,.int o.n]):=ja
  have GZ:=sp _ _ hk
  generalize upd H3 p0 (.tup [.int o.p,.int o.n]) = H4 at sp Jp GX GY Nm Nn GZ
  refine ⟨_,rfl,rm,_,2,.ref (A' 2),rfl,rfl,af.of Jp.R.rm.1,rfl,A' 2,aO aa [.inl o.p,.inl o.n],rfl,.inr ⟨aa,[.inl o.p,.inl o.n],p0,.inl GZ,rfl,Nn,rfl⟩,_,rfl,?_⟩
  rw [ck]
  have bZ : ¬ (!cv a.1 o && B.bO o) = true -> ∃ v2 v3 v4 v5 v6,[some (V.ref rm),some (.ref r),some (.ref q),some (.int o.p),some (.int o.n),some (.int o.g),some (.int o.m)] = [some (V.ref rm),some (.ref r),v2,v3,v4,v5,v6] /\ pY Z1 h rm A' B r H1 (cR B a o) H4 /\ H4 (A' 3) = some (.lst xs) /\ Paired (qh H4 Z1) xs B.qe:=λz=>⟨_,_,_,_,_,rfl,by unfold cR; rw [if_neg z]; exact Jp,GX,GY⟩
  cases hc:cv a.1 o with
  | true=>exact we (bZ (by rw [hc]; simp))
  | false =>
   refine br ⟨_,rfl,_,rfl,rm,_,1,.ref (A' 1),rfl,rfl,af.of Jp.R.rm.1,rfl,_,rfl,A' 1,_,o.p,.int (gI B.qz o.p),rfl,rfl,af.of Jp.R.qz,pX io.1 (show o.p < (B.qz.length:Int) by omega),rfl,_,rfl,?_⟩
   have d1:decide (V.int o.n = V.int (gI B.qz o.p)) = decide (o.n = gI B.qz o.p):=by simp
   rw [d1]
   by_cases z1:o.n = gI B.qz o.p
   .rw [decide_eq_true z1]
    refine br ⟨_,rfl,_,rfl,rm,_,0,.ref (A' 0),rfl,rfl,af.of Jp.R.rm.1,rfl,_,rfl,A' 0,_,o.p,.int (gI B.held o.p),rfl,rfl,af.of Jp.R.sums,pX io.1 (show o.p < (B.held.length:Int) by omega),_,_,rfl,rfl,_,rfl,?_⟩
    by_cases z2:o.m <= gI B.held o.p
    .rw [decide_eq_true z2]
     have du : B.bO o = true:=by unfold Kp.bO; rw [decide_eq_true z1,decide_eq_true z2]; rfl
     refine br (gd λN hN=>⟨_,rfl,_,rfl,rm,_,2,.ref (A' 2),rfl,rfl,af.of Jp.R.rm.1,rfl,_,rfl,_,rfl,my,λp1 Dg=>?_⟩)
     have s1:=je (o:=.tup [.int o.p,.int o.n]) Dg
     have J1:=Jp.same s1
     have mn:=s1 _ _ GX
     have tV:Paired (qh _ Z1) xs B.qe:=Paired.yf GY λ_ _=>qh.fr (P:=λ_=>False) (Fr.same s1)
     have gD:qh _ Z1 (.ref q) o:=⟨q,rfl,nq,s1 _ _ Nm⟩
     have xU:upd H4 p1 (.tup [.int o.p,.int o.n]) p1 = some (.tup [.int o.p,.int o.n]):=ja
     have Ai:=s1 _ _ GZ
     generalize upd H4 p1 (.tup [.int o.p,.int o.n]) = H5 at s1 J1 mn tV gD xU Ai
     have lk:aa.length <= 1000:=by rw [Paired.length pk]; show a.1.length <= 1000; have:=ll.1; omega
     have nv:aO aa [.inl o.p,.inl o.n] = none:=by
      cases e:aO aa [.inl o.p,.inl o.n] with
      | none=>rfl
      | some v=>rw [e,hc] at ck; cases ck
     refine ⟨A' 2,_,rfl,fe.t (k:=[.inl o.p,.inl o.n]) Ai xU (qi lk),?_⟩
     rw [oX _ nv]
     obtain ⟨aJ,jR,pk'⟩:=J1.R.cho
     have kR:aJ = aa:=by rw [Ai] at jR; cases jR; rfl
     subst kR
     obtain ⟨R2,f2⟩:=J1.R.put (f0:=2) (κ':={ B with cho:=a.1 ++ [((o.p,o.n),o)] }) (u0:=.dT (aJ ++ [([.inl o.p,.inl o.n],.ref q)])) (by decide) ⟨_,rfl,j9 (Paired.yf pk' λ_ _ ⟨e,u⟩=>⟨e,u.fr (Fr.put (J1.R.fl 2 (by decide)).1 (P:=bX h) ⟨2,rfl⟩)⟩) ⟨rfl,gD.fr (Fr.put (J1.R.fl 2 (by decide)).1 (P:=bX h) ⟨2,rfl⟩)⟩⟩ (λf u hf q=>by
      unfold eI at q ⊢
      split at q
      .exact q
      .exact q
      .exact absurd rfl hf
      all_goals exact q)
     obtain ⟨ys,hy,py⟩:=J1.hv
     have r2:=(J1.R.fl 2 (by decide)).1
     have r3:=(J1.R.fl 3 (by decide)).1
     have G0:upd H5 (A' 2) (.dT (aJ ++ [([.inl o.p,.inl o.n],.ref q)])) r = some (.lst ys):=by rw [jg (cP r9 r2 (by intro z; cases z))]; exact hy
     have xG:upd H5 (A' 2) (.dT (aJ ++ [([.inl o.p,.inl o.n],.ref q)])) (A' 3) = some (.lst xs):=by rw [jg (cP r3 r2 (by intro z; cases z))]; exact mn
     have aW:aw Z1 (upd H5 (A' 2) (.dT (aJ ++ [([.inl o.p,.inl o.n],.ref q)]))):=J1.kr.put
     have ly:ys.length <= 1000:=by rw [Paired.length py]; have:=ll.2; omega
     generalize upd H5 (A' 2) (.dT (aJ ++ [([.inl o.p,.inl o.n],.ref q)])) = H6 at R2 f2 G0 xG aW
     refine hN [some (.ref rm),some (.ref r),some (.ref q),some (.int o.p),some (.int o.n),some (.int o.g),some (.int o.m)] _ ⟨_,rfl,.inl ⟨rfl,_,af.of G0⟩,_,rfl,r,ys,.ref q,rfl,rfl,G0,qi ly,?_⟩
     have f3:Fr (λx=>x = (8,.kp h 9)) Z1 H6 Z1 (upd H6 r (.lst (ys ++ [.ref q]))):=Fr.put r9 rfl
     have f4:Fr (bX h) Z1 H5 Z1 (upd H6 r (.lst (ys ++ [.ref q]))):=f2.trans (f3.mono λ_ z=>⟨9,z⟩)
     refine ⟨_,_,_,_,_,rfl,⟨J1.fr.trans f4,aW.put,?_,ys ++ [.ref q],ja,?_⟩,?_,Paired.yf tV λ_ _=>qh.fr f4⟩
     .unfold cR
      rw [if_pos (by rw [hc,du]; rfl)]
      exact R2.fr no9 f3
     .unfold cR
      rw [if_pos (by rw [hc,du]; rfl)]
      exact j9 (Paired.yf py λ_ _=>qh.fr f4) (gD.fr f4)
     .rw [jg (cP r3 r9 (by intro z; cases z))]
      exact xG
    .rw [decide_eq_false z2]
     exact we (bZ (by unfold Kp.bO; rw [decide_eq_false z2]; simp))
   .rw [decide_eq_false z1]
    exact we (bZ (by unfold Kp.bO; rw [decide_eq_false z1]; simp))
 .rintro U H' ⟨v2,v3,v4,v5,v6,rfl,J,hx,px⟩
  rw [lx,take_length] at J
  obtain ⟨ys,e,p⟩:=J.hv
  exact ⟨_,rfl,k Z1 r ys H' J.R (GW.trans J.fr) J.kr r9 e p⟩
theorem uN {K:W.Frag}{H:Hp}{vs:List V}{ts:List (List Int)}{a:Addr}(h:jL K H vs ts)(ha:af K H a vs):qp K H (.lst (ts.map jX)) (.ref a):=by rw[qp];exact⟨a,vs,rfl,ha,MZ (λx t ⟨b,e,q⟩=>by rw[e];exact GA q) h⟩
theorem go_succ:∀(i:Nat)(B:Kp),Kp.go (i+1) B=match(Kp.go i B).first with
  |none=>Kp.go i B
  |some o=>(Kp.go i B).step o
 |0,B=>by
  unfold Kp.go;show _=match B.first with|none=>B|some o=>B.step o;cases B.first with
  |none=>rfl
  |some o=>rfl
 | i+1,B=>by
  cases e:B.first with
  | none=>
   have e1:∀m,Kp.go m B=B:=λm=>by
    cases m with
    |zero=>rfl
    |succ m=>unfold Kp.go;rw[e]
   rw[e1,e1,e]
  | some o=>
   have e1:∀m,Kp.go (m+1) B=Kp.go m (B.step o):=λm=>by
    conv=>lhs;unfold Kp.go
    rw[e]
   rw[e1 (i+1),e1 i];exact go_succ i (B.step o)
theorem Np:∀(i:Nat)(B:Kp),(Kp.go i B).wait.length+(Kp.go i B).done.length=B.wait.length+B.done.length
 |0,_=>rfl
 | i+1,B=>by
  unfold Kp.go;cases e:B.first with
  |none=>rfl
  |some o=>
   have om:=nZ e;have l2:(B.step o).wait.length=B.wait.length-1:=length_erase_of_mem om;have l1:(B.step o).done.length=B.done.length+1:=by show(B.done++[o]).length=_;rw[length_append];rfl
   have:=length_pos_of_mem om;have:=Np i (B.step o);show(Kp.go i (B.step o)).wait.length+(Kp.go i (B.step o)).done.length=_;lia
noncomputable def Kp.dz (B:Kp)(o:O):Kp:=if(B.past o||decide (o∈B.wait))=true then B else Kp.eT {B with wait:=B.wait++[o]}
noncomputable def j0a:Sp:=λvs H Q _=>∃Z h rm A B q o,∃n:Nat,vs=[.ref rm,.ref q]/\yg H Z h rm A B/\aw Z H/\qh H Z (.ref q) o/\xq n o=true/\B.Ok n/\B.wait.length+B.done.length<=900/\B.first=none/\∀H',yg H' Z h rm A (B.dz o)->Fr (bX h) Z H Z H'->aw Z H'->Q (.bl (decide (B.done.length<(B.dz o).done.length))) H'
set_option maxHeartbeats 0 in
theorem jrw (T:Txt K mg t) : xl P w K mg base CX0 1 t.E3 t.E4 ["_law_room_here","_law_order_here"] j0a:=by
 refine T.LC.cA zr λ_ A _ s H vs Q E hr h=>?_
 obtain ⟨Z,h,rm,A',B,q,o,n,rfl,R,kr,uq,io,ok,lw,fi,k⟩:=h
 refine ⟨_,(@jb _ _ _ _ _ (zh (PW.pt (hZ (jx BA (j7 fb (pv 1) jh (λ_ _=>rfl)) (j7 jo (j7 jo (pv 0) jh (λ_ _=>rfl)) (j7 fb (pv 1) jh (λ_ _=>rfl)) (λ_ _=>rfl)) (qf _)) (kD (jx (CP hr.units) (pv 1) (j7 jo (pv 0) jh (λ_ _=>rfl)) (by with_unfolding_all rfl))))) (@jd _ _ _ (qb (dq PySem.F.plainAttrs_list PySem.F.slot_list_append PySem.F.type_list_append xf (j7 jo (pv 0) jh (λ_ _=>rfl)) (jc (pv 1) jf)))) j6)
  (@jb _ _ _ _ _ (qa (i:=2) zr.nd rfl (Or.inl rfl) (jn jt rfl T.cB boot_len (jc (j7 jo (pv 0) jh (λ_ _=>rfl)) jf)))
  (@jb _ _ _ _ _ (ie PassesOwn.never rfl (oO rfl T.pH (jc (jn jt rfl T.cB boot_len (jc (j7 jo (pv 0) jh (λ_ _=>rfl)) jf)) jf)) (jw (i:=3) zr.nd rfl (Or.inl rfl)) (@jb _ _ _ _ _ (Co (i:=4) zr.nd rfl rfl (N':=["_law_one","_law_room_here"]) (ix:=[none,some 0]) (y8 (by kernel_rfl)) rfl (@fE _ _ _ _ (j7 jo (pv 0) jh (λ_ _=>rfl))) (λ_ _ _ _=>(jw (i:=0) Vg rfl (Or.inl rfl) (.inr rfl))) (λ_ _ _ _=>(rJ (jx fG (j7 (so (K:=K) rfl) (pv 0) jh (λ_ _=>rfl)) (j7 (xK (K:=K) rfl) (j7 (xK (K:=K) rfl) (pv 1) jh (λ_ _=>rfl)) (j7 (so (K:=K) rfl) (pv 0) jh (λ_ _=>rfl)) (λ_ _=>rfl)) (qf _)))) (λ_ _ _ _=>(pv 0)))
  (@jb _ _ _ _ _ (Co (i:=5) zr.nd rfl rfl (N':=["_law_one","_law_room_here"]) (ix:=[none,some 0]) (y8 (by kernel_rfl)) rfl (@fE _ _ _ _ (pv 4)) (λ_ _ _ _=>(jw (i:=0) Vf rfl (Or.inl rfl) (.inr rfl))) (λ_ _ _ _=>(rJ (jx oP (j7 (so (K:=K) rfl) (pv 0) jh (λ_ _=>rfl)) (j7 (xK (K:=K) rfl) (j7 (xK (K:=K) rfl) (pv 1) jh (λ_ _=>rfl)) (j7 (so (K:=K) rfl) (pv 0) jh (λ_ _=>rfl)) (λ_ _=>rfl)) (qf _)))) (λ_ _ _ _=>(pv 0)))
  (@jd _ _ _ (zh (jx (jG hr.units) (pv 5) (@qq _ _ _ _ jf) (qf _)) (@jb _ _ _ _ _ (dY (j7 jo (pv 5) jh (λ_ _=>rfl)) (lS rfl (j8 (jw (i:=6) zr.nd rfl (Or.inl rfl)) (j8 (jw (i:=7) zr.nd rfl (Or.inl rfl)) (j8 (jw (i:=8) zr.nd rfl (Or.inl rfl)) (j8 (jw (i:=9) zr.nd rfl (Or.inl rfl)) lR))))))
  (@jb _ _ _ _ _ (qb (dq PySem.F.plainAttrs_list PySem.F.slot_list_remove PySem.F.type_list_remove (KU hr.units) (j7 jo (pv 0) jh (λ_ _=>rfl)) (jc (j7 jo (pv 5) jh (λ_ _=>rfl)) jf)))
  (@jb _ _ _ _ _ (dY (zt i8 (j7 jo (j7 jo (pv 0) jh (λ_ _=>rfl)) (pv 6) (λ_ _=>rfl)) (pv 9)) (kE (j7 jo (pv 0) jh (λ_ _=>rfl)) (pv 6) set_list))
  (@jb _ _ _ _ _ (dY (zt fF (j7 jo (j7 jo (pv 0) jh (λ_ _=>rfl)) (pv 8) (λ_ _=>rfl)) (pv 9)) (kE (j7 jo (pv 0) jh (λ_ _=>rfl)) (pv 8) set_list))
  (@jb _ _ _ _ _ (dY (zt fF (pv 7) jh) (kE (j7 jo (pv 0) jh (λ_ _=>rfl)) (pv 6) set_list))
  (@jd _ _ _ (qb (dq PySem.F.plainAttrs_list PySem.F.slot_list_append PySem.F.type_list_append xf (j7 jo (pv 0) jh (λ_ _=>rfl)) (jc (j7 jo (pv 5) jh (λ_ _=>rfl)) jf))))))))) j6)))))
  (@jd _ _ _ (j5 (i9 qQ (jn jt rfl T.cB boot_len (jc (j7 jo (pv 0) jh (λ_ _=>rfl)) jf)) (pv 2) (qf _))))))),?_⟩
 obtain ⟨_,eq,nq,hq⟩:=id uq
 cases eq
 have iO:=xy.mp io
 obtain ⟨ws,hw,pw⟩:=R.uM
 have lws:=Paired.length pw
 have rest : ∀ (N:St -> Hp -> Prop),(∀ cT H1,cT.done = B.done -> cT.Ok n -> cT.wait.length + cT.done.length <= 901 -> B.dz o = Kp.go cT.wait.length cT -> yg H1 Z h rm A' cT -> Fr (bX h) Z H Z H1 -> aw Z H1 -> N [some (.ref rm),some (.ref q),none,none,none,none,none,none,none,none] H1) -> Bp (Ic (BC (gL (kI λi j=>V.bl (decide (j <= i))) (gL (wJ K) (i4 1) (tC (V.int 1))) (gL (oT K) (gL (oT K) (i4 0) (tC (V.int 1))) (gL (wJ K) (i4 1) (tC (V.int 0)))))) (BC (gL (CO K true) (i4 1) (gL (oT K) (i4 0) (tC (V.int 4)))))) (Ij (Jk K "list" Jn (gL (oT K) (i4 0) (tC (V.int 4))) (xp (i4 1) gM))) Ih { nx:=N,rt:=λv H=>Q v H } [some (.ref rm),some (.ref q),none,none,none,none,none,none,none,none] H:=λN hN=>by
  have old:(B.past o || decide (o ∈ B.wait)) = true -> N [some (.ref rm),some (.ref q),none,none,none,none,none,none,none,none] H:=λz=>hN B H rfl ok (by omega) (by unfold Kp.dz; rw [if_pos z,FR fi]) R Fr.refl kr
  refine ⟨_,rfl,q,_,1,.int o.n,rfl,rfl,ay.of hq,rfl,_,rfl,rm,_,1,.ref (A' 1),rfl,rfl,af.of R.rm.1,rfl,_,rfl,q,_,0,.int o.p,rfl,rfl,ay.of hq,rfl,A' 1,_,o.p,.int (gI B.qz o.p),rfl,rfl,af.of R.qz,pX iO.1 (by have:=ok.x; omega),_,_,rfl,rfl,_,rfl,?_⟩
  by_cases z:gI B.qz o.p <= o.n
  .rw [decide_eq_true z]
   refine br ⟨_,rfl,_,rfl,rm,_,4,.ref (A' 4),rfl,rfl,af.of R.rm.1,rfl,A' 4,ws,zl o,B.wait.map zl,rfl,af.of hw,⟨q,rfl,ay.of hq⟩,zW pw,_,rfl,?_⟩
   have em:decide (zl o ∈ B.wait.map zl) = decide (o ∈ B.wait):=by
    have:zl o ∈ B.wait.map zl ↔ o ∈ B.wait:=by
     rw [mem_map]
     exact ⟨λ⟨u,hu,e⟩=>pM e ▸ hu,λh=>⟨o,h,rfl⟩⟩
    simp only [this]
   rw [if_pos rfl,em]
   by_cases y:o ∈ B.wait
   .rw [decide_eq_true y]
    exact we (old (by rw [decide_eq_true y,Bool.or_true]))
   .rw [decide_eq_false y]
    refine br ⟨_,rfl,rm,_,4,.ref (A' 4),rfl,rfl,af.of R.rm.1,rfl,.inl ⟨rfl,_,af.of hw⟩,_,rfl,A' 4,ws,.ref q,rfl,rfl,hw,qi (by omega),?_⟩
    have r4:=(R.fl 4 (by decide)).1
    obtain ⟨R1,f1⟩:=R.put (f0:=4) (κ':={ B with wait:=B.wait ++ [o] }) (u0:=.lst (ws ++ [.ref q])) (by decide) ⟨_,rfl,j9 (Paired.yf pw λ_ _=>qh.fr (Fr.put (P:=bX h) r4 ⟨4,rfl⟩)) (uq.fr (Fr.put (P:=bX h) r4 ⟨4,rfl⟩))⟩ (λf u hf q=>by unfold eI at q ⊢; split at q <;> first | exact q | exact absurd rfl hf)
    have np : B.past o = false:=decide_eq_false (by omega)
    refine hN { B with wait:=B.wait ++ [o] } _ rfl ⟨ok.h,ok.x,ok.u,λu hu=>?_,?_⟩ (by show (B.wait ++ [o]).length + B.done.length <= 901; rw [length_append]; show B.wait.length + 1 + B.done.length <= 901; omega) (by unfold Kp.dz; rw [np,decide_eq_false y]; rfl) R1 f1 kr.put
    .rcases mem_append.mp hu with hu | hu
     .exact ok.w u hu
     .rw [mem_singleton.mp hu]; exact io
    .exact nodup_append.mpr ⟨ok.nd,by simp,λx hx z hz e=>by rw [mem_singleton.mp hz] at e; subst e; exact y hx⟩
  .rw [decide_eq_false z]
   exact we (old (by unfold Kp.past; rw [decide_eq_true (by omega)]; rfl))
 refine gd λN hN=>rest _ λ cT H1 d1 Aj l1 et R1 f1 aV=>?_
 obtain ⟨ds,hd,pd⟩:=R1.done
 have lds:=Paired.length pd
 refine hN [some (.ref rm),some (.ref q),none,none,none,none,none,none,none,none] _ (gd λN hN=>⟨_,rfl,rm,_,5,.ref (A' 5),rfl,rfl,af.of R1.rm.1,rfl,A' 5,ds,rfl,.inl (af.of hd),?_⟩)
 obtain ⟨Nq,hw1,pw1⟩:=R1.uM
 have lw1:=Paired.length pw1
 refine hN [some (.ref rm),some (.ref q),some (.int ds.length),none,none,none,none,none,none,none] _ (gd λN hN=>⟨_,rfl,rm,_,4,.ref (A' 4),rfl,rfl,af.of R1.rm.1,rfl,A' 4,Nq,rfl,.inl (af.of hw1),_,rfl,by omega,by omega,?_⟩)
 refine Bu (lo:=0) (n:=Nq.length) (λi U H'=>∃ v3 v4 v5 v6 v7 v8 v9,U = [some (.ref rm),some (.ref q),some (.int ds.length),v3,v4,v5,v6,v7,v8,v9] /\ yg H' Z h rm A' (Kp.go i cT) /\ Fr (bX h) Z H1 Z H' /\ aw Z H') ⟨none,none,none,none,none,none,none,rfl,R1,Fr.refl,aV⟩ ?_ ?_
 rotate_left
 .rintro U H2 ⟨v3,v4,v5,v6,v7,v8,v9,rfl,R2,f2,aW⟩
  rw [lw1,<- et] at R2
  obtain ⟨ds2,hd2,pd2⟩:=R2.done
  refine hN [some (.ref rm),some (.ref q),some (.int ds.length),v3,v4,v5,v6,v7,v8,v9] _ ⟨_,rfl,rm,_,5,.ref (A' 5),rfl,rfl,af.of R2.rm.1,rfl,A' 5,ds2,rfl,.inl (af.of hd2),_,rfl,_,_,rfl,rfl,?_⟩
  rw [Paired.length pd2,lds,d1]
  have e3:decide (((B.done.length:Nat) : Int) < (((B.dz o).done.length:Nat) : Int)) = decide (B.done.length < (B.dz o).done.length):=by simp
  dsimp only
  rw [e3]
  exact k H2 R2 (f1.trans f2) aW
 rintro i U H2 hi ⟨v3,v4,v5,v6,v7,v8,v9,rfl,R2,f2,aW⟩
 have lF:=Kp.Ok.go (m:=i) Aj
 have lI:=Np i cT
 rw [go_succ]
 generalize Kp.go i cT = Bi at R2 lF lI ⊢
 obtain ⟨wi,Nr,Nt⟩:=R2.uM
 have lwi:=Paired.length Nt
 dsimp only [fC]
 have nx : ∀ u:O,xq n u = true -> il (Bi.qz.map V.int) u.p = some (.int (gI Bi.qz u.p)):=λu iu=>by
  have:=xy.mp iu
  exact pX this.1 (by rw [lF.x]; omega)
 have hx : ∀ u:O,xq n u = true -> il (Bi.held.map V.int) u.p = some (.int (gI Bi.held u.p)):=λu iu=>by
  have:=xy.mp iu
  exact pX this.1 (by rw [lF.h]; omega)
 refine gd λN2 cw=>⟨_,rfl,rm,_,4,.ref (A' 4),rfl,rfl,af.of R2.rm.1,rfl,A' 4,rfl,⟨_,af.of Nr⟩,nI (K:=K) (a:=A' 4) (xs:=wi) (λm ys U H'=>∃ v,U = [v,some (.ref rm)] /\ H' = H2 /\ Paired (qh H2 Z) ys ((Bi.wait.take m).filter λu=>decide (u.n = gI Bi.qz u.p))) ⟨none,rfl,rfl,.nil⟩ ?_ ?_ ?_⟩
 .rintro m ys U H' hm ⟨v,rfl,rfl,py⟩
  refine ⟨af.of Nr,iP ?_⟩
  rw [Paired.length py]
  have:=length_filter_le (λu:O=>decide (u.n = gI Bi.qz u.p)) (Bi.wait.take m)
  rw [length_take] at this
  omega
 .rintro m y ys U H' ey ⟨v,rfl,rfl,py⟩
  obtain ⟨u,eu,q2,rfl,n2,h2⟩:=zi Nt ey
  have iu:=lF.w u (mem_of_getElem? eu)
  refine ⟨_,rfl,q2,_,1,.int u.n,rfl,rfl,ay.of h2,rfl,_,rfl,rm,_,1,.ref (A' 1),rfl,rfl,af.of R2.rm.1,rfl,_,rfl,q2,_,0,.int u.p,rfl,rfl,ay.of h2,rfl,A' 1,_,u.p,.int (gI Bi.qz u.p),rfl,rfl,af.of R2.qz,nx u iu,rfl,_,rfl,?_⟩
  rw [take_snoc eu,filter_append]
  by_cases z:u.n = gI Bi.qz u.p
  .rw [decide_eq_true (by rw [z] : V.int u.n = V.int (gI Bi.qz u.p))]
   refine br ⟨_,rfl,_,rfl,rfl,?_⟩
   rw [List.filter_cons_of_pos (by exact decide_eq_true z),filter_nil]
   exact j9 py ⟨q2,rfl,n2,h2⟩
  .rw [decide_eq_false (λy=>z (V.int.inj y))]
   refine we ⟨_,rfl,rfl,?_⟩
   rw [List.filter_cons_of_neg (by simpa using z),filter_nil,append_nil]
   exact py
 rintro ys U HX ⟨v,rfl,rfl,py⟩ r1 nr1
 rw [lwi,take_length] at py
 generalize oA:(Bi.wait.filter λu=>decide (u.n = gI Bi.qz u.p)) = no at py
 have ino : ∀ u ∈ no,xq n u = true:=λu hu=>lF.w u (by rw [<- oA] at hu; exact (mem_filter.mp hu).1)
 have lno:no.length <= Bi.wait.length:=by rw [<- oA]; exact length_filter_le _ _
 have lpy:=Paired.length py
 have s3:=je (o:=.lst ys) nr1
 have R3:=R2.same s3
 have df:=aW.same s3
 have Nu:Paired (qh _ Z) ys no:=Paired.yf py λ_ _=>qh.fr (P:=λ_=>False) (Fr.same s3)
 have G7:upd HX r1 (.lst ys) r1 = some (.lst ys):=ja
 have f3:Fr (bX h) Z H1 Z (upd HX r1 (.lst ys)):=f2.trans (Fr.same s3)
 generalize upd HX r1 (.lst ys) = H3 at R3 df Nu G7 f3
 refine cw [some (.ref rm),some (.ref q),some (.int ds.length),some (.int (0 + i)),some (.ref r1),v5,v6,v7,v8,v9] _ (gd λN2 cw=>⟨_,rfl,r1,rfl,⟨_,af.of G7⟩,nI (K:=K) (a:=r1) (xs:=ys) (λm zs U H'=>∃ v,U = [v,some (.ref rm)] /\ H' = H3 /\ Paired (qh H3 Z) zs ((no.take m).filter λu=>decide (u.m <= gI Bi.held u.p))) ⟨none,rfl,rfl,.nil⟩ ?_ ?_ ?_⟩)
 .rintro m zs U H' hm ⟨v,rfl,rfl,pz⟩
  refine ⟨af.of G7,iP ?_⟩
  rw [Paired.length pz]
  have:=length_filter_le (λu:O=>decide (u.m <= gI Bi.held u.p)) (no.take m)
  rw [length_take] at this
  omega
 .rintro m y zs U H' ey ⟨v,rfl,rfl,pz⟩
  obtain ⟨u,eu,q2,rfl,n2,h2⟩:=zi Nu ey
  have iu:=ino u (mem_of_getElem? eu)
  refine ⟨_,rfl,q2,_,3,.int u.m,rfl,rfl,ay.of h2,rfl,_,rfl,rm,_,0,.ref (A' 0),rfl,rfl,af.of R3.rm.1,rfl,_,rfl,q2,_,0,.int u.p,rfl,rfl,ay.of h2,rfl,A' 0,_,u.p,.int (gI Bi.held u.p),rfl,rfl,af.of R3.sums,hx u iu,_,_,rfl,rfl,_,rfl,?_⟩
  rw [take_snoc eu,filter_append]
  by_cases z:u.m <= gI Bi.held u.p
  .rw [decide_eq_true z]
   refine br ⟨_,rfl,_,rfl,rfl,?_⟩
   rw [List.filter_cons_of_pos (by exact decide_eq_true z),filter_nil]
   exact j9 pz ⟨q2,rfl,n2,h2⟩
  .rw [decide_eq_false z]
   refine we ⟨_,rfl,rfl,?_⟩
   rw [List.filter_cons_of_neg (by simpa using z),filter_nil,append_nil]
   exact pz
 rintro zs U HY ⟨v,rfl,rfl,pz⟩ r2 Nv
 rw [lpy,take_length] at pz
 have eab:(no.filter λu=>decide (u.m <= gI Bi.held u.p)) = Bi.wait.filter Bi.bO:=by
  rw [<- oA,List.filter_filter]
  refine List.filter_congr λu _=>?_
  unfold Kp.bO
  rw [Bool.and_comm]
 rw [eab] at pz
 generalize dy : Bi.wait.filter Bi.bO = ab at pz
 have lpz:=Paired.length pz
 have lab:ab.length <= Bi.wait.length:=by rw [<- dy]; exact length_filter_le _ _
 have Nw : Bi.first = ab.head?:=by rw [<- dy,List.head?_filter]; rfl
 have s4:=je (o:=.lst zs) Nv
 have R4:=R3.same s4
 have mG:=df.same s4
 have Nx:Paired (qh _ Z) zs ab:=Paired.yf pz λ_ _=>qh.fr (P:=λ_=>False) (Fr.same s4)
 have Ny:upd HY r2 (.lst zs) r2 = some (.lst zs):=ja
 have f4:Fr (bX h) Z H1 Z (upd HY r2 (.lst zs)):=f3.trans (Fr.same s4)
 generalize upd HY r2 (.lst zs) = H4 at R4 mG Nx Ny f4
 refine cw [some (.ref rm),some (.ref q),some (.int ds.length),some (.int (0 + i)),some (.ref r1),some (.ref r2),v6,v7,v8,v9] _ (tI λN2 cw=>⟨_,rfl,cu,λe5 n5=>?_⟩)
 have s5:=je (o:=.lst []) n5
 have R5:=R4.same s5
 have mH:=mG.same s5
 have G9:Paired (qh _ Z) zs ab:=Paired.yf Nx λ_ _=>qh.fr (P:=λ_=>False) (Fr.same s5)
 have uO:=s5 _ _ Ny
 have f5:Fr (bX h) Z H1 Z _:=f4.trans (Fr.same s5)
 have Ha:qp K (upd H4 e5 (.lst [])) (.lst []) (.ref e5):=by
  rw [qp]
  exact ⟨_,[],rfl,af.of ja,by rw [yj]⟩
 have hzs:qp K (upd H4 e5 (.lst [])) (.lst ((ab.map zl).map jX)) (.ref r2):=uN (tT G9) (af.of uO)
 refine ⟨_,_,hzs,Ha,by have:=Ab (ab.map zl); rw [bE]; omega,_,rfl,?_⟩
 rw [GC]
 generalize upd H4 e5 (.lst []) = H5 at R5 mH G9 uO f5
 cases ab with
 | nil=>
  show N2 false H5
  have e0 : Bi.first = none:=Nw
  refine cw _ _ (we ?_)
  rw [e0]
  exact ⟨_,_,_,_,_,_,_,rfl,R5,f5,mH⟩
 | cons o1 ab=>
  rw [decide_eq_false (by intro z; cases z)]
  have e0 : Bi.first = some o1:=Nw
  refine cw _ _ (br ?_)
  rw [e0]
  cases G9 with
  | @cons z1 _ zs' _ uz pz6=>
   obtain ⟨q1,rfl,nq1,Nz⟩:=id uz
   have om:o1 ∈ Bi.wait:=nZ e0
   have NA:=lF.w o1 om
   have Ak:=xy.mp NA
   have du : Bi.bO o1 = true:=by
    have:=mem_filter.mp (show o1 ∈ Bi.wait.filter Bi.bO by rw [dy]; exact mem_cons_self)
    exact this.2
   obtain ⟨w5,Al,uP⟩:=R5.uM
   refine gd λN2 cw=>⟨_,rfl,r2,_,0,.ref q1,rfl,rfl,af.of uO,fN (by decide) rfl,q1,_,rfl,ay.of Nz,rfl,_,_,rfl,_,_,rfl,_,_,rfl,_,_,rfl,rfl,?_⟩
   refine cw [some (.ref rm),some (.ref q),some (.int ds.length),some (.int (0 + i)),some (.ref r1),some (.ref r2),some (.int o1.p),some (.int o1.n),some (.int o1.g),some (.int o1.m)] _ (gd λN2 cw=>⟨_,rfl,rm,_,4,.ref (A' 4),rfl,rfl,af.of R5.rm.1,rfl,.inl ⟨rfl,_,af.of Al⟩,_,rfl,r2,_,0,.ref q1,rfl,rfl,af.of uO,fN (by decide) rfl,A' 4,w5,.ref q1,zl o1,Bi.wait.map zl,rfl,rfl,Al,⟨q1,rfl,ay.of Nz⟩,zW uP,mem_map_of_mem om,?_⟩)
   rw [FQ]
   have n2:=df.none Nv
   have r4:=(R5.fl 4 (by decide)).1
   obtain ⟨R6,f6⟩:=R5.put (f0:=4) (κ':={ Bi with wait:=Bi.wait.erase o1 }) (u0:=.lst (w5.eraseIdx (Bi.wait.idxOf o1))) (by decide) ⟨_,rfl,by show Paired _ _ (Bi.wait.erase o1); rw [FP]; exact zC (Paired.yf uP λ_ _=>qh.fr (Fr.put (P:=bX h) r4 ⟨4,rfl⟩))⟩ (λf u hf q=>by unfold eI at q ⊢; split at q <;> first | exact q | exact absurd rfl hf)
   have uQ:=mH.put (a:=A' 4) (o:=.lst (w5.eraseIdx (Bi.wait.idxOf o1)))
   have NB:=(bW f6 uO n2).1
   have NC:=uz.fr f6
   have ND:=f5.trans f6
   generalize upd H5 (A' 4) (.lst (w5.eraseIdx (Bi.wait.idxOf o1))) = H6 at R6 uQ NB NC ND ⊢
   refine cw [some (.ref rm),some (.ref q),some (.int ds.length),some (.int (0 + i)),some (.ref r1),some (.ref r2),some (.int o1.p),some (.int o1.n),some (.int o1.g),some (.int o1.m)] _ (gd λN2 cw=>⟨_,rfl,rm,_,0,.ref (A' 0),rfl,rfl,af.of R6.rm.1,rfl,_,rfl,A' 0,_,o1.p,.int (gI Bi.held o1.p),rfl,rfl,af.of R6.sums,hx o1 NA,_,rfl,_,_,rfl,rfl,_,rfl,rm,_,0,.ref (A' 0),rfl,rfl,af.of R6.rm.1,rfl,_,rfl,A' 0,_,o1.p,_,rfl,rfl,R6.sums,gU Ak.1 (by rw [length_map]; show o1.p.toNat < Bi.held.length; rw [lF.h]; omega),?_⟩)
   have m1:((Bi.held.map V.int).set o1.p.toNat (.int (gI Bi.held o1.p - o1.m))) = (yw Bi.held o1.p (-o1.m)).map V.int:=by
    rw [yw,map_set]
    rfl
   dsimp only
   rw [m1]
   obtain ⟨R7,f7⟩:=R6.put (κ':={ Bi with wait:=Bi.wait.erase o1,held:=yw Bi.held o1.p (-o1.m) }) (f0:=0) (by decide) (u0:=.lst ((yw Bi.held o1.p (-o1.m)).map V.int)) rfl (λf u hf q=>by unfold eI at q ⊢; split at q <;> first | exact q | exact absurd rfl hf)
   have oB:=uQ.put (a:=A' 0) (o:=.lst ((yw Bi.held o1.p (-o1.m)).map V.int))
   have NF:=(bW f7 NB n2).1
   have uR:=ND.trans f7
   have NG:=NC.fr f7
   generalize upd H6 (A' 0) (.lst ((yw Bi.held o1.p (-o1.m)).map V.int)) = H7 at R7 oB NF NG uR ⊢
   have l7:(yw Bi.held o1.p (-o1.m)).length = n:=(tJ ..).trans lF.h
   refine cw [some (.ref rm),some (.ref q),some (.int ds.length),some (.int (0 + i)),some (.ref r1),some (.ref r2),some (.int o1.p),some (.int o1.n),some (.int o1.g),some (.int o1.m)] _ (gd λN2 cw=>⟨_,rfl,rm,_,0,.ref (A' 0),rfl,rfl,af.of R7.rm.1,rfl,_,rfl,A' 0,_,o1.g,.int (gI (yw Bi.held o1.p (-o1.m)) o1.g),rfl,rfl,af.of R7.sums,pX Ak.2.2.1 (by show o1.g < ((yw Bi.held o1.p (-o1.m)).length:Nat); rw [l7]; omega),_,rfl,_,_,rfl,rfl,_,rfl,rm,_,0,.ref (A' 0),rfl,rfl,af.of R7.rm.1,rfl,_,rfl,A' 0,_,o1.g,_,rfl,rfl,R7.sums,gU Ak.2.2.1 (by rw [length_map]; show o1.g.toNat < (yw Bi.held o1.p (-o1.m)).length; rw [l7]; omega),?_⟩)
   have m2:((yw Bi.held o1.p (-o1.m)).map V.int).set o1.g.toNat (.int (gI (yw Bi.held o1.p (-o1.m)) o1.g + o1.m)) = (yw (yw Bi.held o1.p (-o1.m)) o1.g o1.m).map V.int:=by
    rw [yw.eq_def (yw Bi.held o1.p (-o1.m)),map_set]
   dsimp only
   rw [m2]
   obtain ⟨R8,f8⟩:=R7.put (κ':={ Bi with wait:=Bi.wait.erase o1,held:=yw (yw Bi.held o1.p (-o1.m)) o1.g o1.m }) (f0:=0) (by decide) (u0:=.lst ((yw (yw Bi.held o1.p (-o1.m)) o1.g o1.m).map V.int)) rfl (λf u hf q=>by unfold eI at q ⊢; split at q <;> first | exact q | exact absurd rfl hf)
   have Ag:=oB.put (a:=A' 0) (o:=.lst ((yw (yw Bi.held o1.p (-o1.m)) o1.g o1.m).map V.int))
   have NH:=(bW f8 NF n2).1
   have NI:=uR.trans f8
   have NJ:=NG.fr f8
   generalize upd H7 (A' 0) (.lst ((yw (yw Bi.held o1.p (-o1.m)) o1.g o1.m).map V.int)) = H8 at R8 Ag NH NJ NI ⊢
   refine cw [some (.ref rm),some (.ref q),some (.int ds.length),some (.int (0 + i)),some (.ref r1),some (.ref r2),some (.int o1.p),some (.int o1.n),some (.int o1.g),some (.int o1.m)] _ (gd λN2 cw=>⟨_,rfl,_,_,rfl,rfl,_,rfl,rm,_,1,.ref (A' 1),rfl,rfl,af.of R8.rm.1,rfl,_,rfl,A' 1,_,o1.p,_,rfl,rfl,R8.qz,gU Ak.1 (by rw [length_map]; show o1.p.toNat < Bi.qz.length; rw [lF.x]; omega),?_⟩)
   have en:o1.n = gI Bi.qz o1.p:=by
    unfold Kp.bO at du
    rw [Bool.and_eq_true] at du
    exact of_decide_eq_true du.1
   have m3:(Bi.qz.map V.int).set o1.p.toNat (.int (o1.n + 1)) = (yw Bi.qz o1.p 1).map V.int:=by
    rw [yw,map_set,en]
   dsimp only
   rw [m3]
   obtain ⟨R9,f9⟩:=R8.put (κ':={ Bi with wait:=Bi.wait.erase o1,held:=yw (yw Bi.held o1.p (-o1.m)) o1.g o1.m,qz:=yw Bi.qz o1.p 1 }) (f0:=1) (by decide) (u0:=.lst ((yw Bi.qz o1.p 1).map V.int)) rfl (λf u hf q=>by unfold eI at q ⊢; split at q <;> first | exact q | exact absurd rfl hf)
   have uS:=Ag.put (a:=A' 1) (o:=.lst ((yw Bi.qz o1.p 1).map V.int))
   have NK:=(bW f9 NH n2).1
   have NL:=NI.trans f9
   have Hb:=NJ.fr f9
   generalize upd H8 (A' 1) (.lst ((yw Bi.qz o1.p 1).map V.int)) = H9 at R9 uS NK Hb NL ⊢
   obtain ⟨d9,NM,NN⟩:=R9.done
   have ld9:=Paired.length NN
   obtain ⟨_,eq9,nq9,hq9⟩:=id Hb
   cases eq9
   refine cw [some (.ref rm),some (.ref q),some (.int ds.length),some (.int (0 + i)),some (.ref r1),some (.ref r2),some (.int o1.p),some (.int o1.n),some (.int o1.g),some (.int o1.m)] _ ⟨_,rfl,rm,_,5,.ref (A' 5),rfl,rfl,af.of R9.rm.1,rfl,.inl ⟨rfl,_,af.of NM⟩,_,rfl,r2,_,0,.ref q1,rfl,rfl,af.of NK,fN (by decide) rfl,A' 5,d9,.ref q1,rfl,rfl,NM,qi (by rw [ld9]; show Bi.done.length <= 1000; omega),?_⟩
   have r5:=(R9.fl 5 (by decide)).1
   obtain ⟨Hc,iU⟩:=R9.put (κ':=Bi.step o1) (f0:=5) (by decide) (u0:=.lst (d9 ++ [.ref q1])) ⟨_,rfl,j9 (Paired.yf NN λ_ _=>qh.fr (Fr.put (P:=bX h) r5 ⟨5,rfl⟩)) (Hb.fr (Fr.put (P:=bX h) r5 ⟨5,rfl⟩))⟩ (λf u hf q=>by unfold eI at q ⊢; split at q <;> first | exact q | exact absurd rfl hf)
   exact ⟨_,_,_,_,_,_,_,rfl,Hc,NL.trans iU,uS.put⟩
noncomputable def iV (H:Hp)(Z:ar)(kv:List Key×V)(c:List Int×List Int):Prop:=kv.1=bz c.1/\∃a,kv.2= .ref a/\Z a=none/\H a=some (.lst (c.2.map V.int))
theorem iV.fr {P:Role->Prop}{Z Z':ar}{H H':Hp}{kv:List Key×V}{c:List Int×List Int}(f:Fr P Z H Z' H')(h:iV H Z kv c):iV H' Z' kv c:=by obtain⟨e,a,ea,n,q⟩:=h;obtain⟨q',n'⟩:=bW f q n;exact⟨e,a,ea,n',q'⟩
structure cK (H:Hp)(Z:ar)(x S hn:Addr)(Y:Wd):Prop where
 ob:Z x=some (8,.x)/\∃ly xs,H x=some (.lst [.ref S,.ref ly,.ref hn,.int Y.en])/\Z ly=none/\H ly=some (.lst xs)/\Paired (aE H Z) xs Y.way
 sd:Z S=some (8,.sd)/\∃aa,H S=some (.dT aa)/\Paired (iV H Z) aa Y.bd
 hn:Z hn=none/\H hn=some (.lst ((Y.ks.map (·.1)).map V.int))
noncomputable def fA:Role->Prop:=λr=>r=(8,.x)\/r=(8,.sd)
section
variable {H H':Hp}{Z Z':ar}{x S hn:Addr}{Y Y':Wd}{P:Role->Prop}
theorem cK.fr (f:Fr P Z H Z' H')(h1:¬P (8,.x))(h2:¬P (8,.sd))(O:cK H Z x S hn Y):cK H' Z' x S hn Y:=by obtain⟨rx,ly,xs,ex,nl,el,pl⟩:=O.ob;obtain⟨rs,aa,es,ps⟩:=O.sd;obtain⟨nh,eh⟩:=O.hn;obtain⟨vL,rx'⟩:=gg f ex rx h1;obtain⟨eN,zJ⟩:=gg f es rs h2;obtain⟨el',nl'⟩:=bW f el nl;obtain⟨eh',nh'⟩:=bW f eh nh;exact⟨⟨rx',ly,xs,vL,nl',el',Paired.yf pl λ_ _=>aE.fr f⟩,⟨zJ,aa,eN,Paired.yf ps λ_ _=>iV.fr f⟩,nh',eh'⟩
theorem cK.same (s:xr H H')(O:cK H Z x S hn Y):cK H' Z x S hn Y:=O.fr (P:=λ_=>False) (Fr.same s) (λz=>z) λz=>z
theorem cK.cg (O:cK H Z x S hn Y)(e1:Y'.en=Y.en)(e2:Y'.way=Y.way)(e3:Y'.bd=Y.bd)(e4:Y'.ks.map (·.1)=Y.ks.map (·.1)):cK H Z x S hn Y':=by obtain⟨a,b,c⟩:=O;rw[<-e1,<-e2]at a;rw[<-e3]at b;rw[<-e4]at c;exact⟨a,b,c⟩
theorem cK.pZ (O:cK H Z x S hn Y){l:Addr}{xs:List V}(e:Y'.en=Y.en)(e3:Y'.bd=Y.bd)(e4:Y'.ks.map (·.1)=Y.ks.map (·.1))(nl:Z l=none)(hl:H l=some (.lst xs))(p:Paired (aE H Z) xs Y'.way):cK (upd H x (.lst [.ref S,.ref l,.ref hn,.int Y.en])) Z x S hn Y'/\Fr fA Z H Z (upd H x (.lst [.ref S,.ref l,.ref hn,.int Y.en])):=by
 obtain⟨rx,_⟩:=O.ob;obtain⟨rs,aa,es,ps⟩:=O.sd;obtain⟨nh,eh⟩:=O.hn;have f:Fr fA Z H Z (upd H x (.lst [.ref S,.ref l,.ref hn,.int Y.en])):=Fr.put rx (.inl rfl);refine⟨⟨⟨rx,l,xs,by rw[e];exact ja,nl,(bW f hl nl).1,Paired.yf p λ_ _=>aE.fr f⟩,⟨rs,aa,?_,?_⟩,nh,?_⟩,f⟩
 .rw[jg (cP rs rx (by intro z;cases z))];exact es
 .rw[e3];exact Paired.yf ps λ_ _=>iV.fr f
 .rw[e4];exact(bW f eh nh).1
theorem NO {k:List Int}{aa:List (List Key×V)}{is:x9}(p:Paired (iV H Z) aa is):(aO aa (bz k)=none/\jv is k=[])\/∃a,aO aa (bz k)=some (.ref a)/\Z a=none/\H a=some (.lst ((jv is k).map V.int)):=by
 induction p with
 |nil=>exact .inl ⟨rfl,rfl⟩
 | @cons kv c aa is h r ih=>
  obtain⟨e,a,ea,n,q⟩:=h;by_cases z:c.1=k
  .refine .inr ⟨a,?_,n,?_⟩
   .rw[vy (by rw[e,z]),ea]
   .rw[jv,if_pos z];exact q
  .rw[jv,if_neg z,y7 (λy=>z (tH (e.symm.trans y)))];exact ih
theorem j46 {k:List Int}{v:V}{aa:List (List Key×V)}{is:x9}(p:Paired (iV H Z) aa is)(hk:k∉is.map (·.1)):aa.map (λkv=>if kv.1=bz k then(kv.1,v)else kv)=aa/\(aa.any λkv=>decide (kv.1=bz k))=false:=by
 induction p with
 |nil=>exact⟨rfl,rfl⟩
 |@cons kv c aa is h r ih=>rw[map_cons,mem_cons,not_or]at hk;have ne:¬kv.1=bz k:=λy=>hk.1 (tH (y.symm.trans h.1));obtain⟨i1,i2⟩:=ih hk.2;exact⟨by rw[map_cons,if_neg ne,i1],by rw[any_cons,decide_eq_false ne,i2];rfl⟩
theorem j4s {k:List Int}{h:Int}{r:Addr}{aa:List (List Key×V)}{is:x9}(p:Paired (iV H Z) aa is)(nd:(is.map (·.1)).Nodup)(nr:Z r=none)(hr:H r=some (.lst ((jv is k++[h]).map V.int))):Paired (iV H Z) (putK aa (bz k) (.ref r)) (kg is k h):=by
 induction p with
 |nil=>exact .cons ⟨rfl,r,rfl,nr,hr⟩ .nil
 | @cons kv c aa is h0 t ih=>
  rw[map_cons,nodup_cons]at nd;by_cases z:c.1=k
  .rw[jv,if_pos z]at hr;have ek:kv.1=bz k:=by rw[h0.1,z]
   obtain⟨m1,_⟩:=j46 (v:=.ref r) t (k:=k) (by rw[<-z];exact nd.1);unfold putK;rw[if_pos (by rw[any_cons,decide_eq_true ek];rfl),map_cons,if_pos ek,m1,kg,if_pos z];exact .cons ⟨h0.1,r,rfl,nr,hr⟩ t
  .rw[jv,if_neg z]at hr;have ne:¬kv.1=bz k:=λy=>z (tH (h0.1.symm.trans y));have e:putK (kv::aa) (bz k) (.ref r)=kv::putK aa (bz k) (.ref r):=by
    unfold putK;rw[any_cons,decide_eq_false ne,Bool.false_or,map_cons,if_neg ne];split<;>rfl
   rw[e,kg,if_neg z];exact .cons h0 (ih nd.2 hr)
theorem cK.signed {k:List Int}{h:Int}{r:Addr}{aa:List (List Key×V)}(O:cK H Z x S hn Y)(nd:(Y.bd.map (·.1)).Nodup)(nr:Z r=none)(hr:H r=some (.lst ((jv Y.bd k++[h]).map V.int)))(es:H S=some (.dT aa)):cK (upd H S (.dT (putK aa (bz k) (.ref r)))) Z x S hn {Y with bd:=kg Y.bd k h}/\Fr fA Z H Z (upd H S (.dT (putK aa (bz k) (.ref r)))):=by
 obtain⟨rx,ly,xs,ex,nl,el,pl⟩:=O.ob;obtain⟨rs,aJ,eN,ps⟩:=O.sd;have kR:aJ=aa:=by rw[es]at eN;cases eN;rfl
 subst kR;obtain⟨nh,eh⟩:=O.hn;have f:Fr fA Z H Z (upd H S (.dT (putK aJ (bz k) (.ref r)))):=Fr.put rs (.inr rfl);refine⟨⟨⟨rx,ly,xs,?_,nl,(bW f el nl).1,Paired.yf pl λ_ _=>aE.fr f⟩,⟨rs,_,ja,Paired.yf (j4s ps nd nr hr) λ_ _=>iV.fr f⟩,nh,(bW f eh nh).1⟩,f⟩;rw[jg (cP rx rs (by intro z;cases z))];exact ex
end
noncomputable def j1x:Sp:=λvs H Q _=>∃Z x S hn Y h q o,vs=[.ref x,.int h,.ref q]/\cK H Z x S hn Y/\aw Z H/\qh H Z (.ref q) o/\(Y.bd.map (·.1)).Nodup/\Y.bd.length<=1000/\(jv Y.bd (zl o)).length<=1000/\Y.way.length<=100000/\Y.ks.length<=16/\∀H',cK H' Z x S hn (Y.bg h o)->Fr fA Z H Z H'->aw Z H'->Q .aq H'
set_option maxHeartbeats 0 in
theorem NP (T:Txt K mg t) : xl P w K mg base CX0 1 t.E5 t.E6 ["_law_own","_law_house","_law_order_here"] j1x:=by
 refine T.Fv.cA K6 λ_ A _ s H vs Q E hr h=>?_
 obtain ⟨Z,x,S,hn,Y,h,q,o,rfl,O,kr,uq,nd,lb,lh,lw,lk,k⟩:=h
 refine ⟨_,(@jb _ _ _ _ _ (qa (i:=3) K6.nd rfl (Or.inl rfl) (wV (cM hr) (j7 jo (pv 0) jh (λ_ _=>rfl)) (pv 2) (@qq _ _ _ _ jf) ⟨rfl,rfl,rfl,rfl⟩))
  (@jd _ _ _ (zh (jx rh (pv 1) (pv 3) (by with_unfolding_all rfl)) (@jb _ _ _ _ _ (rF (cM hr) (j7 jo (pv 0) jh (λ_ _=>rfl)) (pv 2) (zt lY (pv 3) (@qq _ _ _ _ (jc (pv 1) jf))) rfl)
  (@jd _ _ _ (zh (jx fG (zt fF (jn jt rfl T.cB boot_len (jc (pv 3) jf)) jh) (j7 jo (pv 0) jh (λ_ _=>rfl)) (qf _)) (@jd _ _ _ (dY (zt lY (j7 jo (pv 0) jh (λ_ _=>rfl)) (nG (N':=["_law_one","_law_order_here"]) (ix:=[none,some 2]) (y8 (by kernel_rfl)) rfl (@fE _ _ _ _ (j7 jo (pv 0) jh (λ_ _=>rfl))) (λ_ _ _ _=>(jw (i:=0) Vh rfl (Or.inl rfl) (.inr rfl))) (λ_ _ _ _=>oY) (λ_ _ _ _=>(@fW _ _ _ _ _ (@bT _ _ _ _ _ _ _ wd (pv 0) (pv 1) rfl rfl rfl))))) (kE (pv 0) jh set_list))) j6))) j6))),?_⟩
 obtain ⟨_,eq,nq,hq⟩:=id uq
 cases eq
 obtain ⟨rx,ly,xs,ex,nl,el,pl⟩:=O.ob
 obtain ⟨rs,aa,es,ps⟩:=O.sd
 refine gd λN hN=>⟨_,rfl,x,_,0,.ref S,rfl,rfl,af.of ex,rfl,S,rfl,.inr ⟨aa,.inl es⟩,_,rfl,cu,λr nr=>?_⟩
 have s1:=je (o:=.lst []) nr
 have f1:Fr fA Z H Z (upd H r (.lst [])):=Fr.same s1
 have O1:=O.same s1
 have aV:=kr.same s1
 have gD:=uq.fr f1
 have fP:upd H r (.lst []) r = some (.lst []):=ja
 have Am:=kr.none nr
 have oC : ∃ ra,(aO aa (bz (zl o))).getD (.ref r) = .ref ra /\ Z ra = none /\ upd H r (.lst []) ra = some (.lst ((jv Y.bd (zl o)).map V.int)):=by
  rcases NO (k:=zl o) ps with ⟨e1,e2⟩ | ⟨a,e1,na,ha⟩
  .rw [e1,e2]
   exact ⟨r,rfl,Am,fP⟩
  .rw [e1]
   exact ⟨a,rfl,na,s1 _ _ ha⟩
 refine ⟨_,.inr ⟨aa,bz (zl o),q,.inl (s1 _ _ es),rfl,s1 _ _ hq,rfl⟩,?_⟩
 obtain ⟨ra,era,nra,oE⟩:=oC
 rw [era]
 clear era fP
 generalize upd H r (.lst []) = H1 at f1 O1 aV gD oE
 obtain ⟨_,ly1,xs1,ex1,nl1,el1,pl1⟩:=O1.ob
 obtain ⟨_,kvs1,es1,ps1⟩:=O1.sd
 have fin : ¬ h ∈ jv Y.bd (zl o) -> Y.put h o = ({ Y with bd:=kg Y.bd (zl o) h },decide (((jv Y.bd (zl o)).length:Int) + 1 = Y.en)):=λz=>by unfold Wd.put; rw [if_neg z]
 refine hN [some (.ref x),some (.int h),some (.ref q),some (.ref ra)] _ (tI λN hN=>⟨_,rfl,_,rfl,ra,_,rfl,.inl (af.of oE),rfl,w6 _,_,rfl,?_⟩)
 rw [y6]
 by_cases z:h ∈ jv Y.bd (zl o)
 .rw [decide_eq_true z]
  refine hN _ _ (we ?_)
  refine k H1 ?_ f1 aV
  have e : Y.bg h o = Y:=by
   unfold Wd.bg Wd.put
   rw [if_pos z]
   rfl
  rw [e]
  exact O1
 .rw [decide_eq_false z]
  refine hN _ _ (br (gd λN hN=>⟨_,rfl,_,rfl,jO,λr2 n2=>?_⟩))
  have s2:=je (o:=.lst [.int h]) n2
  have O2:=O1.same s2
  have aW:=aV.same s2
  have lj:=gD.fr (P:=fA) (Fr.same s2)
  have f2:Fr fA Z H Z (upd H1 r2 (.lst [.int h])):=f1.trans (Fr.same s2)
  refine ⟨ra,r2,_,_,rfl,rfl,s2 _ _ oE,ja,iP (by rw [length_map]; show _ + 1 <= _; omega),λp3 n3=>?_⟩
  have uT:=s2 _ _ oE
  generalize upd H1 r2 (.lst [.int h]) = H2 at O2 aW lj f2 uT n3 ⊢
  have s3:=je (o:=.lst ((jv Y.bd (zl o)).map V.int ++ [.int h])) n3
  have O3:=O2.same s3
  have np3:=aW.none n3
  have df:=aW.same s3
  have tL:=lj.fr (P:=fA) (Fr.same s3)
  have f3:Fr fA Z H Z _:=f2.trans (Fr.same s3)
  have uU:=s3 _ _ uT
  have NQ:upd H2 p3 (.lst ((jv Y.bd (zl o)).map V.int ++ [.int h])) p3 = some (.lst ((jv Y.bd (zl o) ++ [h]).map V.int)):=by rw [map_append]; exact ja
  generalize upd H2 p3 (.lst ((jv Y.bd (zl o)).map V.int ++ [.int h])) = H3 at O3 df tL f3 uU NQ
  obtain ⟨_,ly3,xs3,ex3,nl3,el3,pl3⟩:=O3.ob
  obtain ⟨_,uV,NR,ps3⟩:=O3.sd
  obtain ⟨_,eq3,nq3,hq3⟩:=id tL
  cases eq3
  refine ⟨_,rfl,x,_,0,.ref S,rfl,rfl,af.of ex3,rfl,_,rfl,S,_,rfl,fe.t (k:=bz (zl o)) NR hq3 (qi (by rw [Paired.length ps3]; exact lb)),?_⟩
  obtain ⟨O4,f4⟩:=O3.signed nd np3 NQ NR
  have mG:aw Z (upd H3 S (.dT (putK uV (bz (zl o)) (.ref p3)))):=df.put
  have An:=tL.fr f4
  have Hd:=f3.trans f4
  have uW:=(bW f4 uU nra).1
  generalize upd H3 S (.dT (putK uV (bz (zl o)) (.ref p3))) = H4 at O4 mG An Hd uW
  obtain ⟨_,NS,jZ,oF,nl4,Ao,qA⟩:=O4.ob
  obtain ⟨_,NT⟩:=O4.hn
  refine hN [some (.ref x),some (.int h),some (.ref q),some (.ref ra)] _ (tI λN hN=>⟨_,rfl,ra,_,rfl,.inl (af.of uW),_,_,rfl,rfl,_,rfl,x,_,3,.int Y.en,rfl,rfl,af.of oF,rfl,rfl,_,rfl,?_⟩)
  have de:decide (V.int ((((jv Y.bd (zl o)).map V.int).length:Nat) + 1) = V.int Y.en) = decide (((jv Y.bd (zl o)).length:Int) + 1 = Y.en):=by rw [length_map]; simp
  rw [de]
  by_cases y:((jv Y.bd (zl o)).length:Int) + 1 = Y.en
  .rw [decide_eq_true y]
   refine hN _ _ (br ?_)
   have ev : Y.bg h o = Wd.post { Y with bd:=kg Y.bd (zl o) h } false o:=by
    unfold Wd.bg
    rw [fin z]
    exact if_pos (decide_eq_true y)
   rw [ev] at k
   have lks:(Y.ks.map (·.1)).length = Y.ks.length:=length_map ..
   refine ⟨_,rfl,x,_,1,.ref NS,rfl,rfl,af.of oF,rfl,_,rfl,x,_,2,.ref hn,rfl,rfl,af.of oF,rfl,hn,rfl,⟨_,af.of NT⟩,nI (K:=K) (a:=hn) (xs:=(Y.ks.map (·.1)).map V.int) (λm ys U H'=>∃ v,U = [v,some (.ref q)] /\ xr H4 H' /\ Paired (aE H' Z) ys (((Y.ks.map (·.1)).take m).map λh=>(false,h,o))) ⟨none,rfl,λ_ _ e=>e,.nil⟩ ?_ ?_ ?_⟩
   .rintro m ys U H' hm ⟨v,rfl,s5,py⟩
    refine ⟨af.of (s5 _ _ NT),iP ?_⟩
    rw [Paired.length py,length_map,length_take]
    omega
   .rintro m u ys U H' eu ⟨v,rfl,s5,py⟩
    rw [getElem?_map] at eu
    cases ec:(Y.ks.map (·.1))[m]? with
    | none=>rw [ec] at eu; cases eu
    | some c=>
     rw [ec] at eu
     cases eu
     refine ⟨_,rfl,_,rfl,kW,λp5 n5=>?_⟩
     have s6:=je (o:=.tup [.str "paper",.int c,.ref q]) n5
     refine ⟨_,rfl,λa b e=>s6 _ _ (s5 a b e),?_⟩
     rw [take_snoc ec,map_append]
     exact j9 (Paired.yf py λ_ _=>aE.fr (P:=λ_=>False) (Fr.same s6)) ⟨p5,q,rfl,(mG.same s5).none n5,ja,An.fr (P:=λ_=>False) (Fr.same λa b e=>s6 _ _ (s5 a b e))⟩
   .rintro ys U H' ⟨v,rfl,s5,py⟩ p5 n5
    rw [length_map,take_length] at py
    have s6:xr H4 (upd H' p5 (.lst ys)):=λa b e=>je (o:=.lst ys) n5 _ _ (s5 a b e)
    have oG:Paired (aE (upd H' p5 (.lst ys)) Z) ys ((Y.ks.map (·.1)).map λh=>(false,h,o)):=Paired.yf py λ_ _=>aE.fr (P:=λ_=>False) (Fr.same (je n5))
    have h5:upd H' p5 (.lst ys) p5 = some (.lst ys):=ja
    have Ap:=Paired.length qA
    have He:=Paired.length oG
    rw [length_map,lks] at He
    change jZ.length = Y.way.length at Ap
    generalize upd H' p5 (.lst ys) = H6 at s6 oG h5 ⊢
    refine ⟨NS,p5,_,_,rfl,rfl,s6 _ _ Ao,h5,iP (by omega),λp7 n7=>?_⟩
    have s7:xr H4 (upd H6 p7 (.lst (jZ ++ ys))):=λa b e=>je (o:=.lst (jZ ++ ys)) n7 _ _ (s6 a b e)
    have O7:=O4.same s7
    have oB:=mG.same s7
    have Hf:=(mG.same s6).none n7
    have uX:Paired (aE (upd H6 p7 (.lst (jZ ++ ys))) Z) (jZ ++ ys) (Y.way ++ Y.ks.map λc=>(false,c.1,o)):=by
     refine F0 (Paired.yf qA λ_ _=>aE.fr (P:=λ_=>False) (Fr.same s7)) ?_
     have:=Paired.yf oG λ_ _=>aE.fr (P:=λ_=>False) (Fr.same (je (o:=.lst (jZ ++ ys)) n7))
     rw [map_map] at this
     exact this
    have h7:upd H6 p7 (.lst (jZ ++ ys)) p7 = some (.lst (jZ ++ ys)):=ja
    have uR:Fr fA Z H Z (upd H6 p7 (.lst (jZ ++ ys))):=Hd.trans (Fr.same s7)
    have NU:=s7 _ _ oF
    generalize upd H6 p7 (.lst (jZ ++ ys)) = H7 at O7 oB uX h7 uR NU ⊢
    refine ⟨_,rfl,x,_,1,_,rfl,rfl,NU,gU (by decide) (by show 1 < 4; decide),?_⟩
    obtain ⟨O8,f8⟩:=O7.pZ (Y':=Wd.post { Y with bd:=kg Y.bd (zl o) h } false o) rfl rfl rfl Hf h7 uX
    exact k _ O8 (uR.trans f8) oB.put
  .rw [decide_eq_false y]
   refine hN _ _ (we ?_)
   have ev : Y.bg h o = { Y with bd:=kg Y.bd (zl o) h }:=by
    unfold Wd.bg
    rw [fin z]
    exact if_neg (by rw [decide_eq_false y]; simp)
   rw [ev] at k
   exact k _ O4 Hd mG
theorem yg.az {H:Hp}{Z:ar}{h:Int}{rm:Addr}{A:Nat->Addr}{B:Kp}(u:List O)(R:yg H Z h rm A B):yg H Z h rm A {B with az:=u}:=⟨R.rm,λf hf=>let⟨a,v,b,c⟩:=R.fl f hf;⟨a,v,b,by unfold eI at c⊢;exact c⟩⟩
noncomputable def gF (H:Hp)(Z:ar)(aa:List (Key×V))(ks:List (Int×Kp)):Prop:=Paired (λkv (c:Int×Kp)=>kv.1= .inl c.1/\∃rm A,kv.2= .ref rm/\yg H Z c.1 rm A c.2) aa ks
section
variable {H H':Hp}{Z Z':ar}{h:Int}{B κ':Kp}{aa:List (Key×V)}{ks:List (Int×Kp)}{P:Role->Prop}{rm:Addr}{A:Nat->Addr}
theorem gF.fr (f:Fr P Z H Z' H')(hP:∀h f,f<6->¬P (8,.kp h f))(r:gF H Z aa ks):gF H' Z' aa ks:=Paired.yf r λ_ _ ⟨e,rm,A,er,R⟩=>⟨e,rm,A,er,R.fr (λf hf=>hP _ f hf) f⟩
theorem NV (r:gF H Z aa ks)(e:(ks.find? λc=>decide (c.1=h)).map (·.2)=some B):∃rm A,aO aa (.inl h)=some (.ref rm)/\yg H Z h rm A B:=by
 induction r with
 |nil=>cases e
 |@cons kv c aa ks a r ih=>
  obtain⟨e1,rm,A,e2,R⟩:=a;by_cases z:c.1=h
  .rw[find?_cons,decide_eq_true z]at e;obtain rfl:c.2=B:=Option.some.inj e;subst z;exact⟨rm,A,by rw[vy (by rw[e1]),e2],R⟩
  .rw[find?_cons,decide_eq_false z]at e;obtain⟨rm,A,v,R'⟩:=ih e;exact⟨rm,A,by rw[y7 (λy=>z (Sum.inl.inj (e1.symm.trans y)))];exact v,R'⟩
theorem jxl (f:Fr (bX h) Z H Z' H')(R':yg H' Z' h rm A κ')(r:gF H Z aa ks)(nd:(ks.map (·.1)).Nodup)(ev:aO aa (.inl h)=some (.ref rm)):gF H' Z' aa (bC ks h κ'):=by
 have Gb:∀{aa:List (Key×V)}{ks:List (Int×Kp)},h∉ks.map (·.1)->gF H Z aa ks->gF H' Z' aa (bC ks h κ'):=λ{aa ks} nh q=>by
  induction q with
  |nil=>exact .nil
  |@cons kv c aa ks a _ ih=>rw[map_cons,mem_cons,not_or]at nh;obtain⟨x1,x2,x3,x4,x5⟩:=a;show Paired _ (_::_) ((if c.1=h then(h,κ')else c)::bC _ h κ');rw[if_neg λz=>nh.1 z.symm];exact .cons ⟨x1,x2,x3,x4,x5.fr (λi _ ⟨j,e⟩=>nh.1 (by cases e;rfl)) f⟩ (ih nh.2)
 induction r with
 |nil=>exact .nil
 |@cons kv c aa ks a r ih=>
  obtain⟨e1,rm0,A0,e2,R⟩:=a;rw[map_cons,nodup_cons]at nd;show Paired _ (kv::aa) ((if c.1=h then(h,κ')else c)::bC ks h κ');by_cases z:c.1=h
  .subst z;rw[if_pos rfl];rw[vy (by rw[e1])]at ev;exact .cons ⟨e1,rm,A,Option.some.inj ev,R'⟩ (Gb nd.1 r)
  .rw[if_neg z];refine .cons ⟨e1,rm0,A0,e2,R.fr (λi _ ⟨j,e⟩=>z (by cases e;rfl)) f⟩ (ih nd.2 ?_);rw[y7 (λy=>z (Sum.inl.inj (e1.symm.trans y)))]at ev;exact ev
end
theorem NW:∀(n:Nat)(B:Kp),B.done.length<=(Kp.go n B).done.length
 |0,_=>le_refl _
 | n+1,B=>by
  unfold Kp.go;cases B.first with
  |none=>exact le_refl _
  |some o=>
   have:=NW n (B.step o);have l:(B.step o).done.length=B.done.length+1:=by show(B.done++[o]).length=_;rw[length_append];rfl
   show _<=(Kp.go n (B.step o)).done.length;lia
theorem NX {B:Kp}(z:lD B):lv B B.qe=(B.qm.1.cho,B.qm.2):=z.lv
theorem jv6 {B:Kp}(z:KR B){o:O}(h:B.done.length<(B.dz o).done.length):lD (B.dz o)/\B.eD o=(B.dz o).qm:=by
 unfold Kp.dz at h⊢;unfold Kp.eD;by_cases y:(B.past o||decide (o∈B.wait))=true
 .rw[if_pos y]at h;exact absurd h (lt_irrefl _)
 .rw[if_neg y,if_neg y];exact⟨z.eT o,rfl⟩
theorem j0o {B:Kp}(z:KR B):B.qm.2=[]/\B.qm.1={B with az:=B.qm.1.az}:=by have e2:=z.z.lv;rw[z.lv]at e2;obtain⟨e3,e4⟩:=Prod.mk.inj e2;exact⟨e4.symm,Eq.trans (b:={B with cho:=B.qm.1.cho,az:=B.qm.1.az}) rfl (by rw[<-e3])⟩
theorem jwc {B:Kp}(z:KR B){o:O}(h:¬B.done.length<(B.dz o).done.length):(B.eD o).2=[]/\(B.eD o).1={B.dz o with az:=(B.eD o).1.az}:=by
 unfold Kp.dz at h⊢;unfold Kp.eD;by_cases y:(B.past o||decide (o∈B.wait))=true
 .rw[if_pos y,if_pos y];exact⟨rfl,rfl⟩
 .rw[if_neg y]at h⊢;rw[if_neg y];have z0:=z.eT o;have fi:Kp.first {B with wait:=B.wait++[o]}=none:=by
   cases e:Kp.first {B with wait:=B.wait++[o]}with
   |none=>rfl
   |some u=>
    refine absurd ?_ h;unfold Kp.eT;have e1:(B.wait++[o]).length=B.wait.length+1:=by rw[length_append];rfl
    have e2:Kp.go (B.wait.length+1) {B with wait:=B.wait++[o]}=Kp.go B.wait.length (Kp.step {B with wait:=B.wait++[o]} u):=by rw[Kp.go,e]
    show _<(Kp.go (B.wait++[o]).length _).done.length;rw[e1,e2];have:=NW B.wait.length (Kp.step {B with wait:=B.wait++[o]} u);have l:(Kp.step {B with wait:=B.wait++[o]} u).done.length=B.done.length+1:=by show(B.done++[u]).length=_;rw[length_append];rfl
    lia
  have eg:Kp.eT {B with wait:=B.wait++[o]}={B with wait:=B.wait++[o]}:=by unfold Kp.eT;exact FR fi _
  rw[eg]at z0⊢;have k1:KR {B with wait:=B.wait++[o]}:=⟨z0,z.no⟩;exact j0o k1
theorem j2h {Y:Wd}{h:Int}{o:O}(nd:(Y.bd.map (·.1)).Nodup):((Y.bg h o).bd.map (·.1)).Nodup:=by
 have sg:∀is:x9,(is.map (·.1)).Nodup->((kg is (zl o) h).map (·.1)).Nodup:=λis=>by
  induction is with
  |nil=>intro _;exact nodup_cons.mpr ⟨by simp,nodup_nil⟩
  | cons p ps ih=>
   intro nd;rw[map_cons,nodup_cons]at nd;unfold kg;split
   .exact nodup_cons.mpr nd
   .rename_i z;refine nodup_cons.mpr ⟨λy=>?_,ih nd.2⟩;rcases Gw y with y|y
    .exact nd.1 y
    .exact z y
 have p1:((Y.put h o).1.bd.map (·.1)).Nodup:=by
  unfold Wd.put;split
  .exact nd
  .exact sg _ nd
 unfold Wd.bg;split
 .exact p1
 .exact p1
theorem NY {h:Int}:∀{os:List O}{Y:Wd},(Y.bd.map (·.1)).Nodup->((Y.qm h os).bd.map (·.1)).Nodup
 |[],_,nd=>nd
 |o::_,Y,nd=>NY (Y:=Y.bg h o) (j2h nd)
structure Mr (Z0:ar)(H0:Hp)(h:Int)(L:List (Nat×Addr×HO))(Z:ar)(H:Hp):Prop where
 l:∀x∈L,Z x.2.1=some (8,.kp h x.1)/\H x.2.1=some x.2.2
 f:Fr (λ_=>False) Z0 H0 Z H
 k:aw Z H
theorem Mr.new {Z0 Z:ar}{H0 H:Hp}{h:Int}{L:List (Nat×Addr×HO)}(m:Mr Z0 H0 h L Z H)(f:Nat){p:Addr}(np:H p=none){u:HO}(nu:autoParam (mz u) aP5):Mr Z0 H0 h ((f,p,u)::L) (vg Z p (8,.kp h f)) (upd H p u):=by
 refine⟨λx hx=>?_,m.f.trans (Fr.bA np),m.k.bA nu⟩;rcases mem_cons.mp hx with rfl|hx
 .exact⟨qk,ja⟩
 .obtain⟨a,b⟩:=m.l x hx;have ne:=jj b np;exact⟨by rw[zy ne];exact a,by rw[jg ne];exact b⟩
theorem Mr.mD {Z0 Z:ar}{H0 H H':Hp}{h:Int}{L:List (Nat×Addr×HO)}(m:Mr Z0 H0 h L Z H)(s:xr H H'):Mr Z0 H0 h L Z H':=⟨λx hx=>⟨(m.l x hx).1,s _ _ (m.l x hx).2⟩,m.f.trans (Fr.same s),m.k.same s⟩
noncomputable def j1j:Sp:=λvs H Q _=>∃Z h be,∃ns:List Int,vs=[.ref be]/\aw Z H/\H be=some (.lst (ns.map V.int))/\ns.length<=8/\∀Z' rm A H',yg H' Z' h rm A (fw ns)->Fr (λ_=>False) Z H Z' H'->aw Z' H'->Q (.ref rm) H'
set_option maxHeartbeats 0 in
theorem jtd (T:Txt K mg t) : xl P w K mg base CX0 1 t.EY t.EZ ["_law_begin"] j1j:=by
 refine T.Lz.bj (N:=["_law_begin"]) λ_ A _ s H vs Q E hr h=>?_
 obtain ⟨Z,h,be,ns,rfl,kr,iX,l8,k⟩:=h
 refine ⟨_,(@jd _ _ _ (j5 (@qq _ _ _ _ (@UU _ _ _ _ _ _ _ _ _ _ _ _ _ (lV yh rfl T.jP boot_list (jc (pv 0) jf)) (zt Jq (@qq _ _ _ _ (jc jh jf)) (jn jt rfl T.cB boot_len (jc (pv 0) jf))) rG (@qq _ _ _ _ jf) (@qq _ _ _ _ jf) (@qq _ _ _ _ jf) rfl rfl rfl rfl rfl rfl)))),?_⟩
 have m0:Mr Z H h [] Z H:=⟨(λ_ z=>by cases z),Fr.refl,kr⟩
 refine ⟨_,rfl,be,_,rfl,.inl (af.of iX),λa0 n0=>?_⟩
 have m1:=m0.new 0 n0 (u:=.lst (ns.map V.int))
 have NZ:=je (o:=.lst (ns.map V.int)) n0 _ _ iX
 generalize upd H a0 (.lst (ns.map V.int)) = H1 at m1 NZ ⊢
 refine ⟨jO,λz1 nz=>⟨_,rfl,be,_,rfl,.inl (af.of ((je nz) _ _ NZ)),?_⟩⟩
 have m2:=m1.mD (je (o:=.lst [.int 0]) nz)
 refine ⟨z1,_,[.int 0],rfl,rfl,ja,?_,?_,?_,λa1 n1=>?_⟩
 .omega
 .rw [length_map]; have:=lU; omega
 .rw [length_map]; exact pI (by simp; omega)
 have er:(List.replicate (((ns.map V.int).length:Nat) : Int).toNat [V.int 0]).flatten = (List.replicate ns.length 0).map V.int:=by
  rw [Int.toNat_natCast,length_map,List.map_replicate]
  generalize ns.length = n
  induction n with
  | zero=>rfl
  | succ n ih=>rw [replicate_succ,flatten_cons,ih,replicate_succ]; rfl
 rw [er]
 have m3:=m2.new 1 n1 (u:=.lst ((List.replicate ns.length 0).map V.int))
 generalize upd (upd H1 z1 (.lst [.int 0])) a1 (.lst ((List.replicate ns.length 0).map V.int)) = H3 at m3
 refine λa2 n2=>?_
 have m4:=m3.new 2 n2 (u:=.dT [])
 generalize upd H3 a2 (.dT []) = H4 at m4 ⊢
 refine ⟨cu,λa3 n3=>?_⟩
 have m5:=m4.new 3 n3 (u:=.lst [])
 generalize upd H4 a3 (.lst []) = H5 at m5 ⊢
 refine ⟨cu,λa4 n4=>?_⟩
 have m6:=m5.new 4 n4 (u:=.lst [])
 generalize upd H5 a4 (.lst []) = H6 at m6 ⊢
 refine ⟨cu,λa5 n5=>?_⟩
 have m7:=m6.new 5 n5 (u:=.lst [])
 generalize upd H6 a5 (.lst []) = H7 at m7 ⊢
 refine ⟨KZ,λrm nm=>?_⟩
 have m8:=m7.mD (je (o:=.lst [.ref a0,.ref a1,.ref a2,.ref a3,.ref a4,.ref a5]) nm)
 have un:=m7.k.none nm
 generalize vg _ a5 _ = Z7 at m8 un
 refine k Z7 rm (λf=>[a0,a1,a2,a3,a4,a5].getD f 0) _ ⟨⟨ja,un⟩,λf hf=>?_⟩ m8.f m8.k
 have ml : ∀ (i:Nat) x,_ -> _:=λi x e=>m8.l x (mem_of_getElem? (i:=i) e)
 match f,hf with
 | 0,_=>exact ⟨(ml 5 _ rfl).1,_,(ml 5 _ rfl).2,rfl⟩
 | 1,_=>exact ⟨(ml 4 _ rfl).1,_,(ml 4 _ rfl).2,rfl⟩
 | 2,_=>exact ⟨(ml 3 _ rfl).1,_,(ml 3 _ rfl).2,[],rfl,.nil⟩
 | 3,_=>exact ⟨(ml 2 _ rfl).1,_,(ml 2 _ rfl).2,[],rfl,.nil⟩
 | 4,_=>exact ⟨(ml 1 _ rfl).1,_,(ml 1 _ rfl).2,[],rfl,.nil⟩
 | 5,_=>exact ⟨(ml 0 _ rfl).1,_,(ml 0 _ rfl).2,[],rfl,.nil⟩
noncomputable def jwb:Sp:=λvs H Q _=>∃Z x S hn rs aa la Y l B a b c,vs=[.ref x,.ref rs,.ref la]/\cK H Z x S hn Y/\aw Z H/\(Z rs=some (8,.kd)/\H rs=some (.dK aa)/\gF H Z aa Y.ks)/\aE H Z (.ref la) l/\Y.keep l.2.1=some B/\(Y.ks.map (·.1)).Nodup/\(Y.bd.map (·.1)).Nodup/\B.Ok Y.n/\lE Y.n B/\xq Y.n l.2.2=true/\Ge B 400/\Sz Y a b c/\a+(B.take l.1 l.2.2).2.length<=1000/\b+(B.take l.1 l.2.2).2.length<=1000/\c+16*(B.take l.1 l.2.2).2.length<=100000/\∀Z' H' Y',Y'=Wd.qm {Y with ks:=bC Y.ks l.2.1 (B.take l.1 l.2.2).1} l.2.1 (B.take l.1 l.2.2).2->cK H' Z' x S hn Y'->gF H' Z' aa Y'.ks->Fr (λr=>r.1=8/\r≠(8,.kd)) Z H Z' H'->aw Z' H'->Q .aq H'
set_option maxHeartbeats 0 in
theorem jot (T:Txt K mg t) : xl P w K mg base CX0 2 t.E7 t.E8 ["_law_own","_law_rooms","_law_letter"] jwb:=by
 refine T.LH.cA qu λ_ A _ s H vs Q E hr h=>?_
 obtain ⟨Z,x,S,hn,rs,aa,la,Y,⟨wb,h,o⟩,B,a,b,c,rfl,O,kr,⟨Aq,uY,RR⟩,ul,ek,nd,Gm,gG,kn,io,hG,sz,ba,bb,bc,k⟩:=h
 refine ⟨_,(@jb _ _ _ _ _ (dY (pv 2) (lS rfl (j8 (jw (i:=3) qu.nd rfl (Or.inl rfl)) (j8 (jw (i:=4) qu.nd rfl (Or.inl rfl)) (j8 (jw (i:=5) qu.nd rfl (Or.inl rfl)) lR)))))
  (@jb _ _ _ _ _ (qa (i:=6) qu.nd rfl (Or.inl rfl) (wQ (cM hr) (pv 1) (pv 4) (λ_ _=>rfl)))
  (@jb _ _ _ _ _ (@qa _ _ 7 _ _ _ _ qu.nd rfl (Or.inl rfl) (@qq _ _ _ _ jf) (by rfl) (by first | exact .inl rfl | exact .inr rfl))
  (@jb _ _ _ _ _ (zh (jx fG (pv 3) wd (qf _)) (@jb _ _ _ _ _ (zh (jx (CP hr.units) (pv 5) (j7 jo (pv 6) jh (λ_ _=>rfl)) (by with_unfolding_all rfl)) (@jd _ _ _ (qb (dq PySem.F.plainAttrs_list PySem.F.slot_list_append PySem.F.type_list_append xf (j7 jo (pv 6) jh (λ_ _=>rfl)) (jc (pv 5) jf)))) j6)
  (@jd _ _ _ (qa (i:=7) qu.nd rfl (Or.inl rfl) (jr (Nl T) hr.dn rfl T.LA T.Fu.kp T.LB .nil ju (jc (pv 6) jf))))) (@jd _ _ _ (zh (xc (jr (jrw T) hr.dn rfl T.Xi T.LC.kp T.Xj .nil ju (@aB _ _ _ _ _ (pv 6) (pv 5) rfl rfl))) (@jd _ _ _ (qa (i:=7) qu.nd rfl (Or.inl rfl) (jr (Nl T) hr.dn rfl T.LA T.Fu.kp T.LB .nil ju (jc (pv 6) jf)))) j6)))
  (@jd _ _ _ (ie PassesOwn.never rfl (@fE _ _ _ _ (pv 7)) (jw (i:=8) qu.nd rfl (Or.inl rfl)) (@jd _ _ _ (qb (jr (NP T) hr.dn rfl T.LF T.Fv.kp T.LG .nil ju (@bT _ _ _ _ _ _ _ (pv 0) (pv 4) (pv 8) rfl rfl rfl)))))))))),?_⟩
 obtain ⟨_,q,el,nl,hl,uq⟩:=id ul
 cases el
 obtain ⟨rm,A',ev,R⟩:=NV RR ek
 obtain ⟨_,eq,nq,hq⟩:=id uq
 cases eq
 dsimp only at ek io ba bb bc k hl ev R uq hq
 refine gd λN hN=>⟨_,rfl,la,_,rfl,ay.of hl,rfl,_,_,rfl,_,_,rfl,_,_,rfl,rfl,?_⟩
 refine hN [some (.ref x),some (.ref rs),some (.ref la),some (gY wb),some (.int h),some (.ref q),none,none,none] _ (gd λN hN=>⟨_,rfl,_,rfl,rs,.ref rm,rfl,.inl ⟨aa,.inl h,.inl uY,rfl,ev.symm⟩,?_⟩)
 refine hN [some (.ref x),some (.ref rs),some (.ref la),some (gY wb),some (.int h),some (.ref q),some (.ref rm),none,none] _ (gd λN hN=>⟨cu,λr0 n0=>?_⟩)
 have s0:=je (o:=.lst []) n0
 have Am:=kr.none n0
 have R0:=R.same s0
 have Ar:=kr.same s0
 have f0:Fr (bX h) Z H Z (upd H r0 (.lst [])):=Fr.same s0
 have fP:upd H r0 (.lst []) r0 = some (.lst []):=ja
 have As:=uq.fr f0
 generalize upd H r0 (.lst []) = H0 at R0 Ar f0 fP As s0 ⊢
 refine hN [some (.ref x),some (.ref rs),some (.ref la),some (gY wb),some (.int h),some (.ref q),some (.ref rm),some (.ref r0),none] _ (gd λN hN=>?_)
 have nRx : ¬ bX h (8,.x):=λ⟨_,z⟩=>by cases z
 have nRs : ¬ bX h (8,.sd):=λ⟨_,z⟩=>by cases z
 have fin : ∀ Z1 H1 r ys,yg H1 Z1 h rm A' (B.take wb o).1 -> Fr (bX h) Z H Z1 H1 -> aw Z1 H1 -> (∀ ro,Z1 r = some ro -> ¬ fA ro) -> H1 r = some (.lst ys) -> Paired (qh H1 Z1) ys (B.take wb o).2 -> N [some (.ref x),some (.ref rs),some (.ref la),some (gY wb),some (.int h),some (.ref q),some (.ref rm),some (.ref r),none] H1:=λZ1 H1 r ys R1 f1 aV nr hr py=>by
  have ly:=Paired.length py
  generalize Au : ({ Y with ks:=bC Y.ks h (B.take wb o).1 } : Wd) = bP at k
  have O1:cK H1 Z1 x S hn bP:=by
   rw [<- Au]
   exact (O.fr f1 nRx nRs).cg rfl rfl rfl (Nb ..)
  have sz1:Sz bP a b c:=by
   rw [<- Au]
   exact ⟨sz.bd,sz.hs,sz.wy,by show (bC _ _ _).length <= 16; rw [tS]; exact sz.ks⟩
  have nd1:(bP.bd.map (·.1)).Nodup:=by rw [<- Au]; exact Gm
  generalize oS:(B.take wb o).2 = os at k py ly ba bb bc
  refine hN _ _ ⟨_,rfl,r,rfl,⟨_,af.of hr⟩,mY (K:=K) (a:=r) (xs:=ys) (λi U H'=>∃ v,U = [some (.ref x),some (.ref rs),some (.ref la),some (gY wb),some (.int h),some (.ref q),some (.ref rm),some (.ref r),v] /\ cK H' Z1 x S hn (bP.qm h (os.take i)) /\ Fr fA Z1 H1 Z1 H' /\ aw Z1 H') ⟨none,rfl,O1,Fr.refl,aV⟩ (λi U H' _ ⟨_,_,_,f,_⟩=>af.of (f _ _ hr nr).1) ?_ ?_⟩
  .rintro i y U H2 ey ⟨v,rfl,O2,f2,aW⟩
   obtain ⟨o2,eo,uo⟩:=zi py ey
   have hi:=(List.getElem?_eq_some_iff.mp eo).1
   have z2:=sz1.qm h (os:=os) i (by omega)
   obtain ⟨q2,rfl,_⟩:=id uo
   have l2:=z2.hl (zl o2)
   have l3:=z2.bd
   have l4:=z2.wy
   rw [F8 bP h eo]
   refine ⟨_,rfl,_,rfl,_,rfl,Z1,x,S,hn,_,h,q2,o2,rfl,O2,aW,uo.fr f2,NY nd1,by omega,by omega,by omega,z2.ks,λH3 O3 f3 df=>?_⟩
   exact ⟨_,rfl,O3,f2.trans f3,df⟩
  .rintro U H2 ⟨v,rfl,O2,f2,aW⟩
   rw [ly,take_length] at O2
   refine k Z1 H2 _ rfl O2 ?_ ?_ aW
   .rw [(ku h os bP).k,<- Au]
    exact (jxl f1 R1 RR nd ev).fr f2 λ_ _ _ z=>by rcases z with z | z <;> cases z
   .refine (f1.mono λr z=>?_).trans (f2.mono λr z=>?_)
    .obtain ⟨f,rfl⟩:=z
     exact ⟨rfl,by intro z; cases z⟩
    .rcases z with rfl | rfl
     .exact ⟨rfl,by intro z; cases z⟩
     .exact ⟨rfl,by intro z; cases z⟩
 have Hg : ∀ cT mI os H1,yg H1 Z h rm A' cT -> Fr (bX h) Z H Z H1 -> aw Z H1 -> lv cT cT.qe = (mI.cho,os) -> mI = { cT with cho:=mI.cho,az:=mI.az } -> B.take wb o = (mI,os) -> cT.qe.length + cT.cho.length <= 1000 -> cT.Ok Y.n -> (∀ o ∈ cT.qe,xq Y.n o = true) -> ∀ v,vW (BI Nk [] E0 (xp (i4 6) gM)) (fC 7) { nx:=N,rt:=Q } [some (.ref x),some (.ref rs),some (.ref la),some (gY wb),some (.int h),some (.ref q),some (.ref rm),v,none] H1:=λ cT mI os H1 R1 f1 aV el e2 et lh Aj ih v=>by
  refine ⟨_,rfl,Z,h,rm,A',cT,Y.n,rfl,R1,aV,lh,Aj.h,Aj.x,ih,λZ2 r2 ys H2 R2 f2 aW rr iQ py=>?_⟩
  rw [el] at R2 py
  refine fin Z2 H2 r2 ys ?_ (f1.trans f2) aW (λro e=>?_) iQ ?_
  .rw [et]
   show yg H2 Z2 h rm A' mI
   rw [e2]
   exact R2.az mI.az
  .rw [rr] at e
   cases e
   intro z
   rcases z with z | z <;> cases z
  .rw [et]
   exact py
 cases wb with
 | true=>
  refine ⟨_,rfl,rfl,_,rfl,br ?_⟩
  obtain ⟨hs,h3,p3⟩:=R0.qe
  have l1:=hG.hd
  have l2:=hG.uc
  have lhs:=Paired.length p3
  obtain ⟨_,eq,nq0,lg⟩:=id As
  cases eq
  refine gd λN2 cw=>⟨_,rfl,_,rfl,rm,_,3,.ref (A' 3),rfl,rfl,af.of R0.rm.1,rfl,A' 3,hs,zl o,B.qe.map zl,rfl,af.of h3,⟨q,rfl,ay.of lg⟩,zW p3,_,rfl,?_⟩
  have em:decide (zl o ∈ B.qe.map zl) = decide (o ∈ B.qe):=by
   have:zl o ∈ B.qe.map zl ↔ o ∈ B.qe:=by
    rw [mem_map]
    exact ⟨λ⟨u,hu,e⟩=>pM e ▸ hu,λh=>⟨o,h,rfl⟩⟩
   simp only [this]
  rw [if_pos rfl,em]
  by_cases y:o ∈ B.qe
  .rw [decide_eq_true y]
   refine we (cw _ _ (Hg B B [] H0 R0 f0 Ar kn.k.lv rfl ?_ (by omega) gG kn.h _))
   show B.gX o = _
   unfold Kp.gX
   rw [if_pos y]
  .rw [decide_eq_false y]
   refine br ⟨_,rfl,rm,_,3,.ref (A' 3),rfl,rfl,af.of R0.rm.1,rfl,.inl ⟨rfl,_,af.of h3⟩,_,rfl,A' 3,hs,.ref q,rfl,rfl,h3,qi (by omega),?_⟩
   have r3:=(R0.fl 3 (by decide)).1
   obtain ⟨R1,f1⟩:=R0.put (f0:=3) (κ':={ B with qe:=B.qe ++ [o],az:=B.az ++ [o] }) (u0:=.lst (hs ++ [.ref q])) (by decide) ⟨_,rfl,j9 (Paired.yf p3 λ_ _=>qh.fr (Fr.put (P:=bX h) r3 ⟨3,rfl⟩)) (As.fr (Fr.put (P:=bX h) r3 ⟨3,rfl⟩))⟩ (λf u hf q=>by unfold eI at q ⊢; split at q <;> first | exact q | exact absurd rfl hf)
   refine cw _ _ (Hg _ _ _ _ R1 (f0.trans f1) Ar.put (NX (kn.k.qe y)) rfl ?_ ?_ ⟨gG.h,gG.x,?_,gG.w,gG.nd⟩ ?_ _)
   .show B.gX o = _
    unfold Kp.gX
    rw [if_neg y]
   .show (B.qe ++ [o]).length + B.cho.length <= 1000
    rw [length_append]
    show B.qe.length + 1 + _ <= _
    omega
   .intro u hu
    rcases mem_append.mp hu with hu | hu
    .exact gG.u u hu
    .rw [mem_singleton.mp hu]; exact io
   .intro u hu
    rcases mem_append.mp hu with hu | hu
    .exact kn.h u hu
    .rw [mem_singleton.mp hu]; exact io
 | false =>
  refine ⟨_,rfl,rfl,_,rfl,we ?_⟩
  have l1:=hG.hd
  have l2:=hG.uc
  have l3:=hG.dw
  refine ⟨_,rfl,_,rfl,Z,h,rm,A',B,q,o,Y.n,rfl,R0,Ar,As,io,gG,by omega,kn.k.z.fi,λH1 R1 f1 aV=>?_⟩
  have N0:=f0.trans f1
  by_cases y : B.done.length < (B.dz o).done.length
  .obtain ⟨z0,ep⟩:=jv6 kn.k y
   have tk:(B.dz o).Ok Y.n /\ (B.dz o).qe = B.qe /\ (B.dz o).cho = B.cho:=by
    unfold Kp.dz
    split
    .exact ⟨gG,rfl,rfl⟩
    .rename_i z
     rw [Bool.or_eq_true,not_or] at z
     refine ⟨Kp.Ok.go ⟨gG.h,gG.x,gG.u,λu hu=>?_,?_⟩,(go_same _ _).1,(go_same _ _).2.2⟩
     .rcases mem_append.mp hu with hu | hu
      .exact gG.w u hu
      .rw [mem_singleton.mp hu]; exact io
     .exact nodup_append.mpr ⟨gG.nd,by simp,λx hx z' hz e=>by rw [mem_singleton.mp hz] at e; subst e; exact z.2 (decide_eq_true hx)⟩
   refine ⟨_,rfl,bH (λ_=>?_) (λz=>absurd (decide_eq_true y) z)⟩
   exact Hg (B.dz o) _ _ H1 R1 N0 aV (NX z0) rfl (by show B.eD o = _; rw [ep]) (by rw [tk.2.1,tk.2.2]; omega) tk.1 (by rw [tk.2.1]; exact kn.h) _
  .obtain ⟨e1,e2⟩:=jwc kn.k y
   refine ⟨_,rfl,bH (λz=>absurd (of_decide_eq_true z) y) (λ_=>?_)⟩
   refine fin Z H1 r0 [] ?_ N0 aV (λro e=>?_) (bW f1 fP Am).1 ?_
   .show yg H1 Z h rm A' (B.eD o).1
    rw [e2]
    exact R1.az _
   .rw [Am] at e
    cases e
   .show Paired _ [] (B.eD o).2
    rw [e1]
    exact .nil
mutual
theorem mJ:∀d:Dt,bo d d=true
 | .aq=>by simp[bo]
 | .bl _=>by simp[bo]
 | .int _=>by simp[bo]
 | .str _=>by simp[bo]
 | .tup ds=>by rw[bo];exact Hh ds
 | .lst ds=>by rw[bo];exact Hh ds
theorem Hh:∀ds:List Dt,cG ds ds=true
 |[]=>by rw[cG]
 |d::ds=>by rw[cG,mJ d,Hh ds];rfl
end
theorem j18 {a b c:List (List Int)}(h1:a.Perm c)(h2:a.Pairwise λx y=>HT.lexLt x y=true)(h3:b.Perm c)(h4:b.Pairwise λx y=>HT.lexLt x y=true):a=b:=List.Perm.eq_of_pairwise (λx y _ _ p q=>by rw[CI p]at q;cases q) h2 h4 (h1.trans h3.symm)
theorem Hi {K:W.Frag}{H:Hp}{Z:ar}{r:Addr}{xs:List V}{ls:List (Bool×Int×O)}(h:H r=some (.lst xs))(p:Paired (aE H Z) xs ls):qp K H (.lst (ls.map pU)) (.ref r):=by rw[qp];exact⟨r,xs,rfl,af.of h,MZ (λ_ _ u=>aE.GB u) p⟩
noncomputable def Av:Option O->Dt
 |none=>.aq
 |some o=>jX (zl o)
theorem N1 {K:W.Frag}{H:Hp}{Z:ar}{v:V}:∀{x:Option O},pW H Z v x->qp K H (Av x) v
 |none,h=>by have h':v= .aq:=h;rw[h',Av,qp]
 |some o,h=>by obtain⟨a,rfl,_,q⟩:=h;exact GA (ts:=zl o) (ay.of q)
theorem j4i (x:Option O):bE (Av x)<=60:=by
 cases x with
 |none=>simp[Av,bE]
 |some u=>exact JR _
theorem j0j {a b c:List Int}(h1:a.Perm c)(h2:a.Pairwise (·<=·))(h3:b.Perm c)(h4:b.Pairwise (·<=·)):a=b:=List.Perm.eq_of_pairwise (λx y _ _ p q=>Int.le_antisymm p q) h2 h4 (h1.trans h3.symm)
structure Lk (t:Ad)(H:Hp)(Z:ar)(W:WA)(Y:Wd)(x S hn:Addr)(h:Int)(rm:Addr)(A:Nat->Addr)(B:Kp)(q:Addr)(o:O):Prop where
 w:qj t H Z 0 W Y
 own:cK H Z x S hn Y
 k:aw Z H
 r:yg H Z h rm A B
 u:qh H Z (.ref q) o
theorem Lk.same {t:Ad}{H H':Hp}{Z:ar}{W:WA}{Y:Wd}{x S hn:Addr}{h:Int}{rm:Addr}{A:Nat->Addr}{B:Kp}{q:Addr}{o:O}(s:xr H H')(l:Lk t H Z W Y x S hn h rm A B q o):Lk t H' Z W Y x S hn h rm A B q o:=⟨l.w.same s,l.own.same s,l.k.same s,l.r.same s,l.u.fr (P:=λ_=>False) (Fr.same s)⟩
noncomputable def j2y (t:Ad):Sp:=λvs H Q _=>∃Z W Y x S hn rm A h B q o,vs=[.ref W.x,.ref x,.int h,.ref rm,.ref q]/\Lk t H Z W Y x S hn h rm A B q o/\Y.keep h=some B/\xq Y.n o=true/\Y.way.length<=100000/\B.held.length<=1000/\B.done.length<=1000/\B.wait.length<64/\B.wait.Nodup/\(jv Y.bd (zl o)).length<64/\∀H',xr H H'->Q (.bl true) H'
set_option maxHeartbeats 0 in
theorem jod (T:Txt K mg t) : xl P w K mg base CX0 7 t.E9 t.Fb ["_law_world_here","_law_own","_law_house","_law_room_here","_law_order_here"] (j2y t):=by
 refine T.LI.cA K7 λ_ A _ s H vs Q E hr h=>?_
 obtain ⟨Z,W,Y,x,S,hn,rm,A',h,B,q,o,rfl,L,ek,io,lw,lh,ld,N3,N4,lhs,k⟩:=h
 refine ⟨_,(@jb _ _ _ _ _ (zh (PW.pt (eX (jx (jG hr.units) (nt (pv 0) T.jl T.Lo (Mn T) hr.dn T.Lp .nil ju) (j7 jo (pv 1) jh (λ_ _=>rfl)) (qf _)) (eX (jx (jG hr.units) (qc (pv 0) T.jl T.Wr (YS T) hr.dn T.Ws .nil ju (jc (pv 2) jf)) (j7 jo (pv 3) jh (λ_ _=>rfl)) (qf _)) (fR (jx (jG hr.units) (qc (pv 0) T.jl T.Wu (YT T) hr.dn T.Wv .nil ju (jc (pv 2) jf)) (j7 jo (pv 3) jh (λ_ _=>rfl)) (qf _)))))) (@jd _ _ _ (j5 fB)) j6)
  (@jb _ _ _ _ _ (qa (i:=5) K7.nd rfl (Or.inl rfl) (JC (cM hr) (j7 jo (pv 3) jh (λ_ _=>rfl)) (BO Qt (pv 4) BL (BM jh)) ⟨rfl,rfl,rfl,rfl⟩))
  (@jb _ _ _ _ _ (zh (PW.pt (eX (jx (jG hr.units) (qc (pv 0) T.jl T.Wx (YV T) hr.dn T.Wy .nil ju (jc (pv 2) jf)) (jn Kf rfl T.yW boot_sorted (jc (j7 jo (pv 3) jh (λ_ _=>rfl)) jf)) (qf _)) (fR (jx (jG hr.units) (qc (pv 0) T.jl T.WB (jp3 T) hr.dn T.WC .nil ju (@bT _ _ _ _ _ _ _ (pv 2) (j7 fb (pv 4) jh (λ_ _=>rfl)) (j7 fb (pv 4) jh (λ_ _=>rfl)) rfl rfl rfl)) (pv 5) (qf _))))) (@jd _ _ _ (j5 fB)) j6)
  (@jd _ _ _ (j5 (i9 (RG hr.units) (qc (pv 0) T.jl T.WE (jlh T) hr.dn T.WH .nil ju (jc (pv 4) jf)) (jn Kj rfl T.yW boot_sorted (jc (wV (cM hr) (j7 jo (pv 1) jh (λ_ _=>rfl)) (pv 4) (@qq _ _ _ _ jf) ⟨rfl,rfl,rfl,rfl⟩) jf)) (qf _))))))),?_⟩
 have iO:=xy.mp io
 refine gd λN hN=>⟨_,rfl,W.x,W.dx,_,rfl,L.w.ob.1,xi,Z,0,W,Y,rfl,L.w,lw,λr1 xs n1 p1=>?_⟩
 have s1:=je (o:=.lst xs) n1
 have L1:=L.same s1
 have h1:upd H r1 (.lst xs) r1 = some (.lst xs):=ja
 have N5:Paired (aE (upd H r1 (.lst xs)) Z) xs Y.way:=Paired.yf p1 λ_ _=>aE.fr (P:=λ_=>False) (Fr.same s1)
 generalize upd H r1 (.lst xs) = H1 at s1 L1 h1 N5 ⊢
 obtain ⟨_,ly,zs,ex,_,el,pl⟩:=L1.own.ob
 refine ⟨_,rfl,x,_,1,.ref ly,rfl,rfl,af.of ex,rfl,_,_,Hi h1 N5,Hi el pl,(by have:=Ac Y.way; rw [bE]; omega),_,rfl,?_⟩
 rw [mJ]
 refine we ⟨_,rfl,W.x,W.dx,_,rfl,L1.w.ob.1,xi,_,rfl,Z,0,W,Y,h,B,rfl,L1.w,ek,lh,λr2 n2=>?_⟩
 have s2:=je (o:=.lst (B.held.map V.int)) n2
 have L2:=L1.same s2
 have h2:upd H1 r2 (.lst (B.held.map V.int)) r2 = some (.lst (B.held.map V.int)):=ja
 have N6:xr H (upd H1 r2 (.lst (B.held.map V.int))):=λa u e=>s2 a u (s1 a u e)
 generalize upd H1 r2 (.lst (B.held.map V.int)) = H2 at N6 L2 h2 ⊢
 refine ⟨_,rfl,rm,_,0,.ref (A' 0),rfl,rfl,af.of L2.r.rm.1,rfl,_,_,nJ (af.of h2),nJ (af.of L2.r.sums),xA _,_,rfl,?_⟩
 rw [mJ]
 refine we ⟨_,rfl,W.x,W.dx,_,rfl,L2.w.ob.1,xi,_,rfl,Z,0,W,Y,h,B,rfl,L2.w,ek,ld,λr3 ds n3 pd=>?_⟩
 have s3:=je (o:=.lst ds) n3
 have L3:=L2.same s3
 have h3:upd H2 r3 (.lst ds) r3 = some (.lst ds):=ja
 have p3:Paired (qh (upd H2 r3 (.lst ds)) Z) ds B.done:=Paired.yf pd λ_ _=>qh.fr (P:=λ_=>False) (Fr.same s3)
 have N7:xr H (upd H2 r3 (.lst ds)):=λa u e=>s3 a u (N6 a u e)
 generalize upd H2 r3 (.lst ds) = H3 at N7 L3 h3 p3 ⊢
 obtain ⟨es,he,pe⟩:=L3.r.done
 refine ⟨_,rfl,rm,_,5,.ref (A' 5),rfl,rfl,af.of L3.r.rm.1,rfl,_,_,uN (tT p3) (af.of h3),uN (tT pe) (af.of he),(by have:=Ab (B.done.map zl); rw [bE]; omega),_,rfl,?_⟩
 rw [mJ]
 refine we (hN [some (.ref W.x),some (.ref x),some (.int h),some (.ref rm),some (.ref q),none] _ (gd λN hN=>?_))
 obtain ⟨cs,hc,pc⟩:=L3.r.cho
 obtain ⟨_,eq,nq,hq⟩:=id L3.u
 cases eq
 refine ⟨_,rfl,rm,_,2,.ref (A' 2),rfl,rfl,af.of L3.r.rm.1,rfl,A' 2,rfl,.inr ⟨cs,.inl hc⟩,_,rfl,2,rfl,q,_,rfl,ay.of hq,(by show ¬ (HT.aD 4 0 none = 0 /\ HT.aD 4 4 (some 2) = 4); decide),λp4 n4=>?_⟩
 have s4:=je (o:=.tup [.int o.p,.int o.n]) n4
 have L4:=L3.same s4
 have h4:upd H3 p4 (.tup [.int o.p,.int o.n]) p4 = some (.tup [.int o.p,.int o.n]):=ja
 have N8:xr H (upd H3 p4 (.tup [.int o.p,.int o.n])):=λa u e=>s4 a u (N7 a u e)
 have Hj:=s4 _ _ hc
 have vv:pW (upd H3 p4 (.tup [.int o.p,.int o.n])) Z ((aO cs [.inl o.p,.inl o.n]).getD .aq) (vt B (o.p,o.n)):=by
  unfold vt
  rcases Ni (q:=(o.p,o.n)) pc with ⟨e1,e2⟩ | ⟨v,x,e1,e2,u⟩
  .rw [e1,e2]
   exact rfl
  .rw [e1,e2]
   exact u.fr (P:=λ_=>False) (Fr.same s4)
 generalize Hk:upd H3 p4 (.tup [.int o.p,.int o.n]) = H4 at N8 L4 h4 Hj vv
 refine ⟨_,.inr ⟨cs,[.inl o.p,.inl o.n],p4,.inl (by rw [<- Hk] at Hj; exact Hj),rfl,by rw [<- Hk] at h4; exact h4,rfl⟩,?_⟩
 generalize (aO cs [.inl o.p,.inl o.n]).getD .aq = vo at vv
 show N _ (upd H3 p4 (.tup [.int o.p,.int o.n]))
 rw [Hk]
 refine hN [some (.ref W.x),some (.ref x),some (.int h),some (.ref rm),some (.ref q),some vo] _ (gd λN hN=>⟨_,rfl,W.x,W.dx,_,rfl,L4.w.ob.1,xi,_,rfl,Z,0,W,Y,h,B,rfl,L4.w,ek,N3,N4,λr5 ws ts n5 pm5 up5 t5=>?_⟩)
 have s5:=je (o:=.lst ws) n5
 have L5:=L4.same s5
 have h5:upd H4 r5 (.lst ws) r5 = some (.lst ws):=ja
 have N9:=FG s5 t5
 have Oa:xr H (upd H4 r5 (.lst ws)):=λa u e=>s5 a u (N8 a u e)
 have Ob:=vv.fr (P:=λ_=>False) (Fr.same s5)
 generalize upd H4 r5 (.lst ws) = H5 at Oa L5 h5 N9 Ob ⊢
 obtain ⟨w5,Al,uP⟩:=L5.r.uM
 refine ⟨_,rfl,rm,_,4,.ref (A' 4),rfl,rfl,af.of L5.r.rm.1,rfl,A' 4,w5,B.wait.map zl,rfl,af.of Al,tT uP,(by rw [Paired.length uP]; exact N3),?_,?_,λr6 uZ ts6 n6 _ pm6 t6 up6=>?_⟩
 .exact List.Pairwise.map _ (λa b dy z=>dy (pM z)) N4
 .intro t ht
  obtain ⟨u,_,rfl⟩:=mem_map.mp ht
  intro z
  cases z
 have s6:=je (o:=.lst uZ) n6
 have L6:=L5.same s6
 have e56:ts = ts6:=j18 pm5 up5 pm6 up6
 subst e56
 have d5:=uN (K:=K) (FG s6 N9) (af.of (s6 _ _ h5))
 have d6:=uN (K:=K) (FG s6 t6) (af.of (show upd H5 r6 (.lst uZ) r6 = some (.lst uZ) from ja))
 have Oc:xr H (upd H5 r6 (.lst uZ)):=λa u e=>s6 a u (Oa a u e)
 have Od:=Ob.fr (P:=λ_=>False) (Fr.same s6)
 generalize upd H5 r6 (.lst uZ) = H6 at Oc L6 d5 d6 Od ⊢
 refine ⟨_,_,d5,d6,(by have:=Ab ts; rw [bE]; omega),_,rfl,?_⟩
 rw [mJ]
 obtain ⟨_,eq,nq6,Oe⟩:=id L6.u
 cases eq
 refine we ⟨_,rfl,W.x,W.dx,_,rfl,L6.w.ob.1,xi,_,rfl,_,rfl,q,_,0,.int o.p,rfl,rfl,ay.of Oe,rfl,_,rfl,q,_,1,.int o.n,rfl,rfl,ay.of Oe,rfl,Z,0,W,Y,h,B,(o.p,o.n),rfl,L6.w,ek,⟨iO.1,by show o.p < _; omega⟩,λv7 H7 s7 u7=>?_⟩
 have L7:=L6.same s7
 have vv7:=Od.fr (P:=λ_=>False) (Fr.same s7)
 have s07:xr H H7:=λa u e=>s7 a u (Oc a u e)
 refine ⟨_,rfl,_,_,N1 u7,N1 vv7,j4i _,_,rfl,?_⟩
 rw [mJ]
 obtain ⟨_,eq,nq7,hq7⟩:=id L7.u
 cases eq
 refine we (hN [some (.ref W.x),some (.ref x),some (.int h),some (.ref rm),some (.ref q),some vo] _ ⟨_,rfl,W.x,W.dx,_,rfl,L7.w.ob.1,xi,_,rfl,Z,0,W,Y,q,o,rfl,L7.w,hq7,io,lhs,λr8 ss H8 n8 s8 h8 pm8 up8=>?_⟩)
 have L8:=L7.same s8
 have s08:xr H H8:=λa u e=>s8 a u (s07 a u e)
 obtain ⟨_,ly8,xs8,ex8,_,el8,Aw⟩:=L8.own.ob
 obtain ⟨_,gs,hg,pg⟩:=L8.own.sd
 obtain ⟨_,eq,nq8,hq8⟩:=id L8.u
 cases eq
 refine ⟨_,rfl,x,_,0,.ref S,rfl,rfl,af.of ex8,rfl,S,rfl,.inr ⟨gs,.inl hg⟩,_,rfl,cu,λr9 n9=>?_⟩
 have s9:=je (o:=.lst []) n9
 have oC : ∃ ra,(aO gs (bz (zl o))).getD (.ref r9) = .ref ra /\ upd H8 r9 (.lst []) ra = some (.lst ((jv Y.bd (zl o)).map V.int)):=by
  rcases NO (k:=zl o) pg with ⟨e1,e2⟩ | ⟨a,e1,na,ha⟩
  .rw [e1,e2]
   exact ⟨r9,rfl,ja⟩
  .rw [e1]
   exact ⟨a,rfl,s9 _ _ ha⟩
 refine ⟨_,.inr ⟨gs,bz (zl o),q,.inl (s9 _ _ hg),rfl,s9 _ _ hq8,rfl⟩,?_⟩
 obtain ⟨ra,era,oE⟩:=oC
 rw [era]
 have Of:=s9 _ _ h8
 have Og:xr H (upd H8 r9 (.lst [])):=λa u e=>s9 a u (s08 a u e)
 generalize upd H8 r9 (.lst []) = H9 at oE Of Og ⊢
 refine ⟨ra,jv Y.bd (zl o),rfl,af.of oE,lhs,λr10 ns n10 Hl Hm=>?_⟩
 have sQ:ss = ns:=j0j pm8 up8 Hl Hm
 subst sQ
 have dO:=je (o:=.lst (ss.map V.int)) n10
 refine ⟨_,_,nJ (af.of (dO _ _ Of)),nJ (af.of ja),xA _,?_⟩
 rw [mJ]
 exact k _ λa u e=>dO a u (Og a u e)
structure Ow (H:Hp)(Z:ar)(x S ho rs:Addr)(aa:List (Key×V))(Y:Wd):Prop where
 o:cK H Z x S ho Y
 d:Z rs=some (8,.kd)/\H rs=some (.dK aa)
 r:gF H Z aa Y.ks
section
variable {t:Ad}{H H':Hp}{Z Z':ar}{W:WA}{Y Y':Wd}{T:Nat}{p:Pt}{P:Role->Prop}{To R x S ho rs:Addr}{aa:List (Key×V)}
theorem Ow.fr (f:Fr P Z H Z' H')(hP:∀q,¬P (8,q))(y:Ow H Z x S ho rs aa Y):Ow H' Z' x S ho rs aa Y:=by obtain⟨a,b⟩:=gg f y.d.2 y.d.1 (hP _);exact⟨y.o.fr f (hP _) (hP _),⟨b,a⟩,y.r.fr f λ_ _ _=>hP _⟩
theorem Ow.same (s:xr H H')(y:Ow H Z x S ho rs aa Y):Ow H' Z x S ho rs aa Y:=y.fr (P:=λ_=>False) (Fr.same s) λ_ z=>z
theorem jY (q:Part):¬jW (8,q):=λz=>by rcases z with z|z<;>cases z
theorem Sw.own (y:Sw t H Z W Y T p To R)(f:Fr P Z H Z' H')(hP:∀r,P r->r.1=8)(kr:aw Z' H'):Sw t H' Z' W Y T p To R:=by obtain⟨a,b⟩:=GD f (λz=>by cases hP _ z) (λz=>by cases hP _ z) y.tn y.tr;exact⟨y.w.fr f (λq z=>by cases hP _ z) kr,a,b⟩
theorem Ow.pZ {l:Addr}{xs:List V}(y:Ow H Z x S ho rs aa Y)(e:Y'.en=Y.en)(e3:Y'.bd=Y.bd)(e4:Y'.ks=Y.ks)(nl:Z l=none)(hl:H l=some (.lst xs))(p:Paired (aE H Z) xs Y'.way):Ow (upd H x (.lst [.ref S,.ref l,.ref ho,.int Y.en])) Z x S ho rs aa Y'/\Fr fA Z H Z (upd H x (.lst [.ref S,.ref l,.ref ho,.int Y.en])):=by obtain⟨O,f⟩:=y.o.pZ e e3 (by rw[e4]) nl hl p;obtain⟨a,b⟩:=gg f y.d.2 y.d.1 (λz=>by rcases z with z|z<;>cases z);refine⟨⟨O,⟨b,a⟩,?_⟩,f⟩;rw[e4];exact y.r.fr f λ_ _ _ z=>by rcases z with z|z<;>cases z
theorem Ax (r:Role)(z:fA r):r.1=8:=by rcases z with rfl|rfl<;>rfl
end
theorem jzs {H:Hp}{Z:ar}{h:Int}{aa:List (Key×V)}{ks:List (Int×Kp)}(r:gF H Z aa ks)(n:h∉ks.map (·.1)):aO aa (.inl h)=none:=by
 induction r with
 |nil=>rfl
 |@cons kv c aa ks a r ih=>rw[map_cons,mem_cons,not_or]at n;rw[y7 (λy=>n.1 (Sum.inl.inj (y.symm.trans a.1)))];exact ih n.2
theorem Ps.same {Z:ar}{H H':Hp}{pa x fo ho be ro:Addr}{aS few:Int}{p:Pt}(s:xr H H')(h:Ps H Z pa x aS few fo ho be ro p):Ps H' Z pa x aS few fo ho be ro p:=h.fr (P:=λ_=>False) (Fr.same s)
theorem j0d {xs:List V}{k:Nat}(h:k<=xs.length):jC xs (some (k:Int)) none=xs.drop k:=by unfold jC;rw[HT.Ja,HT.IZ,Nat.min_eq_left h];exact List.take_of_length_le (by rw[length_drop];lia)
theorem j31 {xs:List V}{k:Nat}(h:k<=xs.length):jC xs none (some (k:Int))=xs.take k:=by unfold jC;rw[HT.Ja,HT.IZ,Nat.min_eq_left h];rfl
theorem Hn {t:Ad}{H:Hp}{Z:ar}{W:WA}{Y:Wd}{T:Nat}{p:Pt}{To R a:Addr}{zs:List Int}{Q:VK}(S:Sw t H Z W Y T p To R)(u:Un H Z a (zs.map V.int))(l0:0<zs.length)(l1:zs.length<=1000)(k:∀z H',z∈zs->Sw t H' Z W Y T p To R->Fr jW Z H Z H'->Q (.int z) H'):M4 [.ref To,.ref a] H Q E0:=by obtain⟨n1,n2⟩:=u.neT S;refine⟨To,R,a,_,rfl,S.tn,u.1,n1,n2,by rw[length_map];exact l0,by rw[length_map];lia,λi x H' ex hT kT=>?_⟩;obtain⟨z,hz,rfl⟩:=int_at ex;obtain⟨S',f'⟩:=S.draw hT kT;exact k z H' hz S' f'
noncomputable abbrev dA (a To pa x:Addr)(cr few:Int)(fo ho be ro rs:Addr)(l:List (Option V)):St:=[some (.ref a),some (.ref To),some (.ref pa),some (.ref x),some (.int cr),some (.int few),some (.ref fo),some (.ref ho),some (.ref be),some (.ref ro),some (.ref rs)]++l
noncomputable def jw3 (K:W.Frag):Sp:=λvs H Q _=>∃(a:Addr)(ns:List Int),vs=[.ref a]/\af K H a (ns.map V.int)/\ns.length<=63/\∀H',Q (.bl true) H'
set_option maxHeartbeats 0 in
theorem j49 (T:Txt K mg t) : xl P w K mg base CX0 12 t.Fc t.Fd ["_law_script"] (jw3 K):=by
 refine T.Xo.cA (k:=11) y9 λ_ A _ s H vs Q E hr h=>?_
 obtain ⟨a,ns,rfl,hS,hn,k⟩:=h
 refine ⟨_,(@jb _ _ _ _ _ (qa (i:=1) y9.nd rfl (Or.inl rfl) (jr (jtr T) hr.dn rfl T.W6 T.Lq.kp T.W7 .nil ju (jc (pv 0) jf)))
  (@jb _ _ _ _ _ (qa (i:=2) y9.nd rfl (Or.inl rfl) (jr (jr3 T) hr.dn rfl T.Xa T.Lw.kp T.Xb .nil ju (jc (pv 1) jf)))
  (@jb _ _ _ _ _ (dY (pv 2) (lS rfl (j8 (jw (i:=3) y9.nd rfl (Or.inl rfl)) (j8 (jw (i:=4) y9.nd rfl (Or.inl rfl)) (j8 (jw (i:=5) y9.nd rfl (Or.inl rfl)) (j8 (jw (i:=6) y9.nd rfl (Or.inl rfl)) (j8 (jw (i:=7) y9.nd rfl (Or.inl rfl)) (j8 (jw (i:=8) y9.nd rfl (Or.inl rfl)) (j8 (jw (i:=9) y9.nd rfl (Or.inl rfl)) lR)))))))))
  (@jb _ _ _ _ _ (qa (i:=10) y9.nd rfl (Or.inl rfl) Q7)
  (@jb _ _ _ _ _ (ie PassesOwn.never rfl (@fE _ _ _ _ (pv 7)) (jw (i:=11) y9.nd rfl (Or.inl rfl)) (@jd _ _ _ (rF (cM hr) (pv 10) (pv 11) (jr (jtd T) hr.dn rfl T.Xg T.Lz.kp T.Xh .nil ju (jc (pv 8) jf)) rfl)))
  (@jb _ _ _ _ _ (@qa _ _ 12 _ _ _ _ y9.nd rfl (Or.inl rfl) (@qq _ _ _ _ (@Di _ _ _ _ _ _ _ _ _ rG (@qq _ _ _ _ jf) (pv 7) (zt i8 (pv 4) (pv 5)) rfl rfl rfl rfl)) (by rfl) (by first | exact .inl rfl | exact .inr rfl))
  (@jb _ _ _ _ _ (ie PassesOwn.never rfl (oO rfl T.pH (jc jh jf)) (jw (i:=13) y9.nd rfl (Or.inl rfl)) (@jb _ _ _ _ _ (qa (i:=14) y9.nd rfl (Or.inl rfl) (jr (qx T) hr.dn rfl T.zb T.qv.kp T.zc .nil ju (@aB _ _ _ _ _ (pv 1) jh rfl rfl)))
  (@jb _ _ _ _ _ (qa (i:=15) y9.nd rfl (Or.inl rfl) (jr (qx T) hr.dn rfl T.zb T.qv.kp T.zc .nil ju (@aB _ _ _ _ _ (pv 1) (jn jt rfl T.cB boot_len (jc (pv 8) jf)) rfl rfl)))
  (@jb _ _ _ _ _ (qa (i:=16) y9.nd rfl (Or.inl rfl) (jr (jrq T) hr.dn rfl T.Xe T.Ly.kp T.Xf .nil ju (@bT _ _ _ _ _ _ _ (pv 1) (pv 2) (pv 15) rfl rfl rfl)))
  (@jb _ _ _ _ _ (zh (PW.pt (hZ (jx wC (pv 14) jh (qf _)) (kD (jx wL (pv 15) (pv 9) (by with_unfolding_all rfl))))) (@jb _ _ _ _ _ (qa (i:=11) y9.nd rfl (Or.inl rfl) (jr (uH T) hr.dn rfl T.tE T.g9.kp T.tF .nil ju (@aB _ _ _ _ _ (pv 1) (pv 7) rfl rfl)))
  (@jb _ _ _ _ _ (qb (qc (pv 3) T.jl T.WX (YW T) hr.dn T.WY .nil ju (@aB _ _ _ _ _ (pv 16) (pv 11) rfl rfl)))
  (@jd _ _ _ (dY (zt lY (j7 jo (pv 12) jh (λ_ _=>rfl)) (@qq _ _ _ _ (jc (@fW _ _ _ _ _ (@bT _ _ _ _ _ _ _ wd (pv 11) (pv 16) rfl rfl rfl)) jf))) (kE (pv 12) jh set_list))))) (@jd _ _ _ (zh (PW.pt (hZ (jx fG (pv 14) jh (qf _)) (hZ (jx wL (pv 15) (pv 9) (by with_unfolding_all rfl)) (kD (jx (jG hr.units) (pv 6) (@qq _ _ _ _ jf) (qf _)))))) (@jb _ _ _ _ _ (qa (i:=17) y9.nd rfl (Or.inl rfl) (jr (uH T) hr.dn rfl T.tE T.g9.kp T.tF .nil ju (@aB _ _ _ _ _ (pv 1) (pv 6) rfl rfl)))
  (@jb _ _ _ _ _ (qb (qc (pv 3) T.jl T.W0 (ZV T) hr.dn T.W2 .nil ju (@aB _ _ _ _ _ (pv 17) (pv 16) rfl rfl)))
  (@jd _ _ _ (qb (jr (NP T) hr.dn rfl T.LF T.Fv.kp T.LG .nil ju (@bT _ _ _ _ _ _ _ (pv 12) (pv 17) (pv 16) rfl rfl rfl)))))) (@jd _ _ _ (zh (jx fG (pv 14) jh (qf _)) (@jb _ _ _ _ _ (qa (i:=18) y9.nd rfl (Or.inr rfl) (jr (jtl T) hr.dn rfl T.Xc T.Lx.kp T.Xd .nil ju (@Dj _ _ _ _ _ _ _ _ _ _ _ wd (pv 3) (pv 15) (j7 fb (pv 16) jh (λ_ _=>rfl)) (j7 fb (pv 16) jh (λ_ _=>rfl)) rfl rfl rfl rfl rfl)))
  (@jd _ _ _ (zh (xc (jn rN rfl T.jy boot_isinstance (@aB _ _ _ _ _ (pv 18) (lP (v:=.ty "tuple") rfl T.FA boot_tuple rfl) rfl rfl))) (@jd _ _ _ (dY (zt lY (j7 jo (pv 12) jh (λ_ _=>rfl)) (nG (N':=["_law_house","_law_told_here"]) (ix:=[none,some 18]) (y8 (by kernel_rfl)) rfl (@fE _ _ _ _ (pv 7)) (λ_ _ _ _=>(jw (i:=0) Vi rfl (Or.inl rfl) (.inr rfl))) (λ_ _ _ _=>oY) (λ_ _ _ _=>(@fW _ _ _ _ _ (@bT _ _ _ _ _ _ _ wd (pv 0) (pv 1) rfl rfl rfl))))) (kE (pv 12) jh set_list))) j6))) (@jd _ _ _ (zh (jx (jG hr.units) (j7 jo (pv 12) jh (λ_ _=>rfl)) (@qq _ _ _ _ jf) (qf _)) (@jb _ _ _ _ _ (qa (i:=19) y9.nd rfl (Or.inl rfl) (jr (qx T) hr.dn rfl T.zb T.qv.kp T.zc .nil ju (@aB _ _ _ _ _ (pv 1) (jn jt rfl T.cB boot_len (jc (j7 jo (pv 12) jh (λ_ _=>rfl)) jf)) rfl rfl)))
  (@jb _ _ _ _ _ (qa (i:=20) y9.nd rfl (Or.inl rfl) (j7 jo (j7 jo (pv 12) jh (λ_ _=>rfl)) (pv 19) (λ_ _=>rfl)))
  (@jb _ _ _ _ _ (dY (zt lY (BO Jh (j7 jo (pv 12) jh (λ_ _=>rfl)) BL (BM (pv 19))) (BO Jh (j7 jo (pv 12) jh (λ_ _=>rfl)) (BM (zt fF (pv 19) jh)) BL)) (kE (pv 12) jh set_list))
  (@jb _ _ _ _ _ (qb (jr (jot T) hr.dn rfl T.Xk T.LH.kp T.Xl .nil ju (@bT _ _ _ _ _ _ _ (pv 12) (pv 10) (pv 20) rfl rfl rfl)))
  (@jd _ _ _ (zh (jx (jG hr.units) (qc (pv 3) T.jl T.W4 (YX T) hr.dn T.W5 .nil ju (jc (pv 19) jf)) (pv 20) (qf _)) (@jd _ _ _ (j5 fB)) j6)))))) j6)))))))
  (@jb _ _ _ _ _ (qa (i:=11) y9.nd rfl (Or.inl rfl) (jr (uH T) hr.dn rfl T.tE T.g9.kp T.tF .nil ju (@aB _ _ _ _ _ (pv 1) (pv 7) rfl rfl)))
  (@jb _ _ _ _ _ (zh (yt (xc (jr (jod T) hr.dn rfl T.Xm T.LI.kp T.Xn .nil ju (@Dj _ _ _ _ _ _ _ _ _ _ _ (pv 3) (pv 12) (pv 11) (wQ (cM hr) (pv 10) (pv 11) (λ_ _=>rfl)) (pv 16) rfl rfl rfl rfl rfl)))) (@jd _ _ _ (j5 fB)) j6)
  (@jd _ _ _ (qb (dq PySem.F.plainAttrs_list PySem.F.slot_list_append PySem.F.type_list_append xf (nt (pv 3) T.jl T.Lo (Mn T) hr.dn T.Lp .nil ju) (jc jh jf)))))))))))
  (@jd _ _ _ (j5 fB))))))))),?_⟩
 refine gd λN hN=>⟨_,rfl,a,ns,rfl,hS,λTo R H1 nT nR s1 hT=>?_⟩
 have hTR:To ≠ R:=hT.ne
 obtain ⟨Z0,Oh⟩ : ∃ Z0:ar,Z0 = vg (vg (λ_=>none) R (9,.own 1)) To (9,.own 0):=⟨_,rfl⟩
 have S0:Tw H1 Z0 To R:=by
  obtain ⟨row,c,t1,t2,t3⟩:=hT
  refine ⟨?_,⟨row,c,t1,t2,t3⟩,?_⟩
  .rw [Oh]
   exact aw.vg (aw.vg (λ_ _ z=>by cases z) t2 True.intro) t1 True.intro
  .rw [Oh]
   exact ⟨qk,by rw [zy hTR.symm,qk]⟩
 refine hN _ _ (gd λN hN=>⟨_,rfl,Z0,To,R,rfl,S0,λZ1 H2 W Y0 pa cr few fo ho be ro p ok S1 B1 ew eb ek=>?_⟩)
 refine hN _ _ (gd λN hN=>⟨_,rfl,pa,_,rfl,ay.of B1.tp.1,rfl,_,_,rfl,_,_,rfl,_,_,rfl,_,_,rfl,_,_,rfl,_,_,rfl,_,_,rfl,rfl,?_⟩)
 have vA : ∀ {HB e},HB e = none -> qp K (upd HB e (.lst [])) (.lst []) (.ref e):=λn=>by
  rw [qp]
  exact ⟨_,[],rfl,af.of ja,by rw [yj]⟩
 have l2:=ok.l2
 have l8:=ok.l8
 have Ai:=ok.h1
 refine hN _ _ (gd λN hN=>λrs nrs=>?_)
 have f2:Fr (λ_=>False) Z1 H2 (vg Z1 rs (8,.kd)) (upd H2 rs (.dK [])):=Fr.bA nrs
 have S2:=S1.own f2 (λ_ z=>z.elim) (S1.w.kr.bA (p:=rs) (r:=(8,.kd)) (o:=.dK []))
 have B2:=B1.fr f2
 have Aq:vg Z1 rs (8,.kd) rs = some (8,.kd):=qk
 have uY:upd H2 rs (.dK []) rs = some (.dK []):=ja
 generalize vg Z1 rs (8,.kd) = Z2 at S2 B2 Aq
 generalize upd H2 rs (.dK []) = H3 at S2 B2 uY ⊢
 clear f2
 have hnd:p.hs.Nodup:=by
  obtain ⟨L,gn,_⟩:=S1.w.g
  rw [<- S1.w.h]
  exact gn.ok.nd
 refine hN (dA a To pa W.x cr few fo ho be ro rs (List.replicate 10 none)) _ (gd λN hN=>⟨_,rfl,ho,rfl,⟨_,af.of B2.ho.1⟩,mY (K:=K) (a:=ho) (xs:=p.hs.map V.int) (λi U H'=>∃ v Z aa,U = dA a To pa W.x cr few fo ho be ro rs (v :: List.replicate 9 none) /\ Sw t H' Z W Y0 0 p To R /\ Ps H' Z pa W.x cr few fo ho be ro p /\ Z rs = some (8,.kd) /\ H' rs = some (.dK aa) /\ gF H' Z aa ((p.hs.take i).map λh=>(h,fw p.ns))) ⟨none,Z2,[],rfl,S2,B2,Aq,uY,.nil⟩ (λi U H' _ ⟨_,_,_,_,_,Bq,_⟩=>af.of Bq.ho.1) ?_ ?_⟩)
 .rintro j y U H4 ey ⟨v,Z,aa,rfl,S4,B4,r4,h4,R4⟩
  rw [getElem?_map] at ey
  cases eh:p.hs[j]? with
  | none=>rw [eh] at ey; cases ey
  | some h=>
   rw [eh] at ey
   cases ey
   have hj:=(List.getElem?_eq_some_iff.mp eh).1
   refine ⟨_,rfl,Z,h,be,p.ns,rfl,S4.w.kr,B4.be.1,l8,λZ5 rm A5 H5 R5 f5 mH=>?_⟩
   obtain ⟨h5,r5⟩:=gg f5 h4 r4 (λz=>z)
   have lk:=Paired.length R4
   rw [length_map,length_take] at lk
   refine ⟨_,rfl,_,rfl,rs,_,rfl,fe.k (k:=.inl h) h5 (qi (by omega)),?_⟩
   have nh:h ∉ ((p.hs.take j).map λh=>(h,fw p.ns)).map (·.1):=λz=>by
    obtain ⟨c,hc,e0⟩:=mem_map.mp z
    obtain ⟨u,hu,rfl⟩:=mem_map.mp hc
    obtain rfl:u = h:=e0
    obtain ⟨m,hm,e⟩:=mem_iff_getElem.mp hu
    rw [length_take] at hm
    rw [List.getElem_take] at e
    have:=(List.getElem?_inj (l:=p.hs) (i:=m) (j:=j) (by omega) hnd).mp (by rw [eh,<- e,getElem?_eq_getElem])
    omega
   rw [oX _ (jzs (R4.fr f5 λ_ _ _ z=>z) nh)]
   have f6:Fr (λr=>r = (8,.kd)) Z5 H5 Z5 (upd H5 rs (.dK (aa ++ [(.inl h,.ref rm)]))):=Fr.put r5 rfl
   have n6 : ∀ h f,f < 6 -> ¬ ((8,.kp h f) : Role) = (8,.kd):=λ_ _ _ z=>by cases z
   refine ⟨_,Z5,aa ++ [(.inl h,.ref rm)],rfl,(S4.own f5 (λ_ z=>z.elim) mH).own f6 (λr z=>by rw [z]) mH.put,(B4.fr f5).fr f6,r5,ja,?_⟩
   rw [take_snoc eh,map_append]
   exact j9 ((R4.fr f5 λ_ _ _ z=>z).fr f6 n6) ⟨rfl,rm,A5,rfl,R5.fr (λf hf=>n6 _ f hf) f6⟩
 rintro U H4 ⟨v11,Z3,aa,rfl,S4,B4,r4,h4,R4⟩
 rw [length_map,take_length,<- ek] at R4
 clear S1 B1 S2 B2 Aq uY
 refine hN (dA a To pa W.x cr few fo ho be ro rs (v11 :: List.replicate 9 none)) _ (gd λN hN=>λSd nSd=>?_)
 have f5:Fr (λ_=>False) Z3 H4 (vg Z3 Sd (8,.sd)) (upd H4 Sd (.dT [])):=Fr.bA nSd
 have S5:=S4.own f5 (λ_ z=>z.elim) (S4.w.kr.bA (p:=Sd) (r:=(8,.sd)) (o:=.dT []))
 have B5:=B4.fr f5
 have r5:vg Z3 Sd (8,.sd) Sd = some (8,.sd):=qk
 have h5:upd H4 Sd (.dT []) Sd = some (.dT []):=ja
 have d5:=gg f5 h4 r4 (λz=>z)
 have R5:=R4.fr f5 λ_ _ _ z=>z
 generalize vg Z3 Sd (8,.sd) = Z5 at S5 B5 r5 d5 R5
 generalize upd H4 Sd (.dT []) = H5 at S5 B5 h5 d5 R5 ⊢
 clear f5 S4 B4 R4
 refine ⟨cu,λly pS=>⟨_,rfl,_,rfl,_,rfl,_,_,rfl,rfl,Dh,λxo nxo=>?_⟩⟩
 have s6:=je (o:=.lst []) pS
 have n6:=S5.w.kr.none pS
 have f6:Fr (λ_=>False) Z5 H5 Z5 (upd H5 ly (.lst [])):=Fr.same s6
 have f7:Fr (λ_=>False) Z5 (upd H5 ly (.lst [])) (vg Z5 xo (8,.x)) (upd (upd H5 ly (.lst [])) xo (.lst [.ref Sd,.ref ly,.ref ho,.int (cr - few)])):=Fr.bA nxo
 have S7:=(S5.same s6).own f7 (λ_ z=>z.elim) ((S5.w.kr.same s6).bA)
 have B7:=(B5.fr f6).fr f7
 have Ay:=f6.trans f7
 have Y7:Ow (upd (upd H5 ly (.lst [])) xo (.lst [.ref Sd,.ref ly,.ref ho,.int (cr - few)])) (vg Z5 xo (8,.x)) xo Sd ho rs aa Y0:=by
  obtain ⟨e1,e2⟩:=gg Ay h5 r5 (λz=>z)
  obtain ⟨e3,e4⟩:=gg Ay d5.1 d5.2 (λz=>z)
  refine ⟨⟨⟨qk,ly,[],?_,(bW f7 ja n6).2,(bW f7 ja n6).1,?_⟩,⟨e2,[],e1,?_⟩,B7.ho.2,?_⟩,⟨e4,e3⟩,R5.fr Ay λ_ _ _ z=>z⟩
  .rw [S5.w.en,<- B5.ce]
   exact ja
  .rw [ew]
   exact .nil
  .rw [eb]
   exact .nil
  .rw [S5.w.h]
   exact B7.ho.1
 generalize vg Z5 xo (8,.x) = Z7 at S7 B7 Y7
 generalize upd (upd H5 ly (.lst [])) xo (.lst [.ref Sd,.ref ly,.ref ho,.int (cr - few)]) = H7 at S7 B7 Y7 ⊢
 clear f6 f7 Ay s6 n6 S5 B5 R5 d5 r5 h5 ew eb ek
 have F : ∀ (l:List (Option V)),l.length = 8 -> True:=λ_ _=>True.intro
 refine hN (dA a To pa W.x cr few fo ho be ro rs (v11 :: some (.ref xo) :: List.replicate 8 none)) _ (gd λN hN=>⟨44,rfl,by decide,by decide,Bu (lo:=0) (n:=44) (λi U H'=>∃ Z Y v11 Ho Hq Az vB dR dS eU v20,U = dA a To pa W.x cr few fo ho be ro rs [v11,some (.ref xo),Ho,Hq,Az,vB,dR,dS,eU,v20] /\ Sw t H' Z W Y i p To R /\ Ps H' Z pa W.x cr few fo ho be ro p /\ Ow H' Z xo Sd ho rs aa Y) ⟨Z7,Y0,v11,none,none,none,none,none,none,none,none,rfl,S7,B7,Y7⟩ ?_ ?_⟩)
 rotate_left
 .rintro U H8 ⟨Z,Y,_,_,_,_,_,_,_,_,_,rfl,_⟩
  exact hN _ _ (k _)
 clear S7 B7 Y7
 rintro i U H0 hi ⟨Z,Y,v11,Ho,Hq,Az,vB,dR,dS,eU,v20,rfl,S,Bq,Yq⟩
 obtain ⟨L,gn,sk⟩:=S.w.g
 have tU:=gn.wl
 have z0:=gn.l
 have z1:=gn.ok.k1
 have z2:=ok.ll
 have hn0 : Y.n = p.ns.length:=S.w.n
 refine gd λN hN=>⟨_,rfl,To,R,8,rfl,S.tn,by decide,by decide,λkd H1 kd0 zI uK k1=>?_⟩
 obtain ⟨S1,f1⟩:=S.draw uK k1
 have B1:=Bq.fr f1
 have Y1:=Yq.fr f1 jY
 refine hN (dA a To pa W.x cr few fo ho be ro rs [v11,some (.ref xo),some (.int (0 + i)),some (.int kd),Az,vB,dR,dS,eU,v20]) _ (gd λN hN=>⟨_,rfl,_,rfl,be,_,rfl,.inl (af.of B1.be.1),To,R,_,rfl,S1.tn,by rw [length_map]; omega,by rw [length_map]; omega,λpu H2 p0 p1 mF k2=>?_⟩)
 rw [length_map] at p1
 obtain ⟨S2,f2⟩:=S1.draw mF k2
 have B2:=B1.fr f2
 have Y2:=Y1.fr f2 jY
 refine hN (dA a To pa W.x cr few fo ho be ro rs [v11,some (.ref xo),some (.int (0 + i)),some (.int kd),some (.int pu),vB,dR,dS,eU,v20]) _ (gd λN hN=>⟨_,rfl,_,rfl,_,rfl,Z,W,Y,i,p,To,R,pa,cr,few,fo,ho,be,ro,pu,rfl,S2,B2,ok,p0,p1,λH3 q o S3 f3 uq io eo en=>?_⟩)
 have B3:=B2.fr f3
 have Y3:=Y2.fr f3 jY
 clear S S1 S2 Bq B1 B2 Yq Y1 Y2
 have vC:xq Y.n o = true:=by rw [hn0]; exact io
 have iO:=xy.mp vC
 refine hN (dA a To pa W.x cr few fo ho be ro rs [v11,some (.ref xo),some (.int (0 + i)),some (.int kd),some (.int pu),some (.ref q),dR,dS,eU,v20]) _ (gd λN hN=>?_)
 have tail : ∀ Z2 mK H2 v11 dR dS eU v20,Sw t H2 Z2 W mK (i + 1) p To R -> Ps H2 Z2 pa W.x cr few fo ho be ro p -> Ow H2 Z2 xo Sd ho rs aa mK -> qh H2 Z2 (.ref q) o -> N (dA a To pa W.x cr few fo ho be ro rs [v11,some (.ref xo),some (.int (0 + i)),some (.int kd),some (.int pu),some (.ref q),dR,dS,eU,v20]) H2:=λZ2 mK H2 v11 dR dS eU v20 S4 B4 Y4 u4=>by
  refine hN _ _ (gd λN hN=>⟨_,rfl,_,rfl,Hn S4 B4.ho ok.h0 (by omega) λh H5 hh S5 f5=>?_⟩)
  have B5:=B4.fr f5
  have Y5:=Y4.fr f5 jY
  have u5:=u4.fr f5
  obtain ⟨L2,vD,Oi⟩:=S5.w.g
  have hk:h ∈ mK.ks.map (·.1):=by rw [S5.w.h]; exact hh
  obtain ⟨B,ek,km⟩:=zZ hk
  have kk:cQ L2 (i + 1) mK.n B:=vD.ks _ km
  have e1:=kk.sz.dw
  have e2:=kk.ok.h
  have e3:=vD.ok.n8
  have e4:=vD.sz.hl (zl o)
  have e5:=vD.ok.k1
  have e6:=vD.wl
  obtain ⟨rm,A5,ev,R5⟩:=NV Y5.r ek
  refine hN (dA a To pa W.x cr few fo ho be ro rs [some (.int h),some (.ref xo),some (.int (0 + i)),some (.int kd),some (.int pu),some (.ref q),dR,dS,eU,v20]) _ (gd λN hN=>⟨_,rfl,_,rfl,_,rfl,_,rfl,_,rfl,rs,.ref rm,rfl,.inl ⟨aa,.inl h,.inl Y5.d.2,rfl,ev.symm⟩,_,rfl,Z2,W,mK,xo,Sd,ho,rm,A5,h,B,q,o,rfl,⟨S5.w.o,Y5.o,S5.w.kr,R5,u5⟩,ek,(by rw [S5.w.n]; exact io),by omega,by omega,by omega,by omega,kk.ok.nd,by omega,λH6 s6=>⟨_,rfl,we ?_⟩⟩)
  have S6:=S5.same s6
  have B6:=B5.same s6
  have Y6:=Y5.same s6
  refine hN _ _ ⟨_,rfl,W.x,W.dx,_,rfl,S6.w.o.ob.1,xi,Z2,0,W,mK,rfl,S6.w.o,by omega,λr xs nr px=>⟨.inl ⟨rfl,_,af.of ja⟩,r,xs,.int 5,rfl,rfl,ja,big (by rw [Paired.length px]; omega),?_⟩⟩
  have s7:xr H6 (upd (upd H6 r (.lst xs)) r (.lst (xs ++ [.int 5]))):=λb u e=>by
   rw [jg (jj e nr),jg (jj e nr)]
   exact e
  exact ⟨Z2,mK,_,_,_,_,_,_,_,_,_,rfl,S6.same s7,B6.same s7,Y6.same s7⟩
 refine' (λkey=>_:(∀ _u:Unit,(_:Prop)) -> _) _
 rotate_left
 .refine tI λN2 cw=>⟨_,rfl,_,_,rfl,rfl,_,rfl,bH (λ_=>⟨_,rfl,_,rfl,ro,_,rfl,.inl (af.of B3.ro.1),rfl,w6 _,_,rfl,?_⟩) (λ_=>cw _ _ (we ?_))⟩
  rotate_left
  .exact key ()
  rw [if_neg (by decide),y6]
  refine cw _ _ (bH (λz=>?_) (λ_=>?_))
  rotate_left
  .exact key ()
  have Hr:=of_decide_eq_true z
  refine gd λN hN=>⟨_,rfl,_,rfl,Hn S3 B3.ho ok.h0 (by omega) λh H4 hh S4 f4=>?_⟩
  have B4:=B3.fr f4
  have Y4:=Y3.fr f4 jY
  have u4:=uq.fr f4
  have oc:o.p ∈ Y.uh:=by rw [S3.w.c,eo]; exact Hr
  have hk:h ∈ Y.ks.map (·.1):=by rw [S3.w.h]; exact hh
  obtain ⟨B,ek,km⟩:=zZ hk
  refine hN (dA a To pa W.x cr few fo ho be ro rs [some (.int h),some (.ref xo),some (.int (0 + i)),some (.int kd),some (.int pu),some (.ref q),dR,dS,eU,v20]) _ (gd λN hN=>⟨_,rfl,W.x,W.dx,_,rfl,S4.w.o.ob.1,xi,_,rfl,_,rfl,Z,0,W,Y,q,o,h,B,rfl,S4.w.o,S4.w.kr,u4,vC,oc,ek,by omega,λH5 O5 f5 mH=>?_⟩)
  have vE:=gn.j6n vC oc hk
  obtain ⟨S5,f5'⟩:=S4.go f5 (λr hr=>by rw [hr]) (S4.w.next f5 O5 mH (vE.mono (T':=i + 1) (M':=1000 * (i + 1)) (le_refl _) (by omega)) sk ⟨rfl,rfl,rfl,rfl⟩)
  have B5:=B4.fr f5
  have Y5:=Y4.fr f5 (λq z=>by cases z)
  have u5:=u4.fr f5
  obtain ⟨_,ly,xs,ex,nl,el,pl⟩:=Y5.o.ob
  have Ap:=Paired.length pl
  refine hN (dA a To pa W.x cr few fo ho be ro rs [some (.int h),some (.ref xo),some (.int (0 + i)),some (.int kd),some (.int pu),some (.ref q),dR,dS,eU,v20]) _ ⟨_,rfl,xo,_,1,.ref ly,rfl,rfl,af.of ex,rfl,_,rfl,_,rfl,kW,λp6 n6=>⟨jO,λp7 n7=>?_⟩⟩
  have s6:=je (o:=.tup [.str "order",.int h,.ref q]) n6
  have s7:=je (o:=.lst [.ref p6]) n7
  have Hs:=s6.trans s7
  have h6:=s7 _ _ (ja (H:=H5) (a:=p6) (o:=.tup [.str "order",.int h,.ref q]))
  have np6:=S5.w.kr.none n6
  refine ⟨ly,p7,xs,[.ref p6],rfl,rfl,Hs _ _ el,ja,iP (by show xs.length + 1 <= _; omega),λp8 n8=>?_⟩
  have s8:=Hs.trans (je (o:=.lst (xs ++ [.ref p6])) n8)
  have Oj:=je (o:=.lst (xs ++ [.ref p6])) n8 _ _ h6
  have Ht:=(S5.w.kr.same Hs).none n8
  have h8:upd (upd (upd H5 p6 (.tup [.str "order",.int h,.ref q])) p7 (.lst [.ref p6])) p8 (.lst (xs ++ [.ref p6])) p8 = some (.lst (xs ++ [.ref p6])):=ja
  generalize upd (upd (upd H5 p6 (.tup [.str "order",.int h,.ref q])) p7 (.lst [.ref p6])) p8 (.lst (xs ++ [.ref p6])) = H8 at s8 Oj h8 ⊢
  have S8:=S5.same s8
  have B8:=B5.same s8
  have Y8:=Y5.same s8
  have u8:=u5.fr (P:=λ_=>False) (Fr.same s8)
  have Aw:Paired (aE H8 Z) (xs ++ [.ref p6]) (Y.way ++ [(true,h,o)]):=j9 (Paired.yf pl λ_ _=>aE.fr (P:=λ_=>False) (Fr.same s8)) ⟨p6,q,rfl,np6,Oj,u8⟩
  refine ⟨_,rfl,xo,_,1,_,rfl,rfl,s8 _ _ ex,gU (by decide) (by show 1 < 4; decide),?_⟩
  obtain ⟨Y9,f9⟩:=Y8.pZ (Y':={ Y with way:=Y.way ++ [(true,h,o)] }) rfl rfl rfl Ht h8 Aw
  exact tail Z _ _ _ _ _ _ _ (S8.own f9 Ax S8.w.kr.put) (B8.fr f9) Y9 (u8.fr f9)
 intro _
 refine' (λkey=>_:(∀ HB,xr H3 HB -> (_:Hp -> Prop) HB) -> _) _
 rotate_left
 .refine tI λN2 cw=>⟨_,rfl,rfl,_,rfl,bH (λ_=>⟨_,rfl,_,rfl,ro,_,rfl,.inl (af.of B3.ro.1),rfl,w6 _,_,rfl,?_⟩) (λ_=>cw _ _ (we ?_))⟩
  rotate_left
  .exact key H3 (xr.refl _)
  rw [if_neg (by decide),y6]
  refine bH (λz=>⟨_,rfl,cu,λe ne=>?_⟩) (λ_=>cw _ _ (we ?_))
  rotate_left
  .exact key H3 (xr.refl _)
  have Hr:=of_decide_eq_true z
  have s4:=je (o:=.lst []) ne
  have S4:=S3.same s4
  have B4:=B3.same s4
  have Y4:=Y3.same s4
  have u4:=uq.fr (P:=λ_=>False) (Fr.same s4)
  refine ⟨.lst (p.ls.map Dt.int),.lst [],nJ (af.of B4.fo.1),vA ne,xA _,_,rfl,?_⟩
  rw [GC]
  generalize upd H3 e (.lst []) = H4 at s4 S4 B4 Y4 u4
  refine cw _ _ (bH (λz=>?_) (λ_=>?_))
  rotate_left
  .exact key H4 s4
  have nl : 0 < p.ls.length:=List.length_pos_iff.mpr λy=>by rw [y] at z; cases z
  refine gd λN hN=>⟨_,rfl,_,rfl,Hn S4 B4.fo nl (by omega) λh H5 hh S5 f5=>?_⟩
  have B5:=B4.fr f5
  have Y5:=Y4.fr f5 jY
  have u5:=u4.fr f5
  have oc:o.p ∈ Y.uh:=by rw [S3.w.c,eo]; exact Hr
  have vE:=gn.more vC (.inl oc)
  refine hN (dA a To pa W.x cr few fo ho be ro rs [v11,some (.ref xo),some (.int (0 + i)),some (.int kd),some (.int pu),some (.ref q),some (.int h),dS,eU,v20]) _ (gd λN hN=>⟨_,rfl,W.x,W.dx,_,rfl,S5.w.o.ob.1,xi,_,rfl,_,rfl,Z,0,W,Y,h,q,o,p.ls,_,_,_,rfl,S5.w.o,S5.w.kr,S5.w.ly.1,hh,u5,vC,vE.mw _ mem_cons_self,vE.sz,(by rw [length_cons]; omega),(by omega),by omega,λZ6 H6 O6 f6 uQ=>?_⟩)
  have g6:=(vE.qm (h:=h) (mem_append_right _ hh) (os:=[o]) (λu hu=>by rw [mem_singleton.mp hu]; exact mem_cons_self)).mono (T':=i + 1) (M':=1000 * (i + 1)) (le_refl _) (by show _ + 16 * 1 <= _; omega)
  obtain ⟨S6,f6'⟩:=S5.go f6 (λr hr=>by rcases hr with hr | hr | hr <;> rw [hr]) (S5.w.next f6 O6 uQ g6 (by rw [(ku h [o] Y).k,(ku h [o] Y).n]; exact sk) (ku h [o] _).eK)
  have B6:=B5.fr f6
  have Y6:=Y5.fr f6 (λq z=>by rcases z with z | z | z <;> cases z)
  have u6:=u5.fr f6
  have b1:=gn.sz.bd
  have b2:=gn.sz.hl (zl o)
  refine hN (dA a To pa W.x cr few fo ho be ro rs [v11,some (.ref xo),some (.int (0 + i)),some (.int kd),some (.int pu),some (.ref q),some (.int h),dS,eU,v20]) _ ⟨_,rfl,_,rfl,_,rfl,Z6,xo,Sd,ho,Y,h,q,o,rfl,Y6.o,uQ,u6,gn.g.b.nd,by omega,by omega,by omega,z1,λH7 O7 f7 oB=>?_⟩
  obtain ⟨a7,b7⟩:=gg f7 Y6.d.2 Y6.d.1 (λz=>by rcases z with z | z <;> cases z)
  refine tail Z6 (Y.qm h [o]) _ _ _ _ _ _ (S6.own f7 Ax oB) (B6.fr f7) ⟨O7,⟨b7,a7⟩,?_⟩ (u6.fr f7)
  rw [(ku h [o] Y).k]
  exact Y6.r.fr f7 λ_ _ _ z=>by rcases z with z | z <;> cases z
 intro HB sB
 have SB:=S3.same sB
 have BB:=B3.same sB
 have YB:=Y3.same sB
 have uB:=uq.fr (P:=λ_=>False) (Fr.same sB)
 clear S3 B3 Y3
 obtain ⟨_,eqB,nqB,Ol⟩:=id uB
 cases eqB
 refine ⟨_,rfl,rfl,_,rfl,bH (λ_=>?_) (λ_=>?_)⟩
 .-- an Hu owner asks
  obtain ⟨row,dh⟩ : ∃ row,Y.asked[pu.toNat]? = some row:=⟨_,getElem?_eq_getElem (by rw [gn.ok.al]; omega)⟩
  refine gd λN hN=>⟨_,rfl,_,rfl,_,rfl,q,_,2,.int o.g,rfl,rfl,ay.of Ol,rfl,_,rfl,q,_,3,.int o.m,rfl,rfl,ay.of Ol,rfl,Z,W,Y,i,p,To,R,pu,o.g,o.m,row,rfl,SB,by omega,⟨p0,by omega⟩,⟨iO.2.2.1,by omega⟩,λz=>iO.2.2.2.2.1 (by rw [z,eo]),⟨by omega,by omega⟩,dh,λH4 x s4=>?_,λH4 q' S4 f4 u4=>?_⟩
  .refine hN (dA a To pa W.x cr few fo ho be ro rs [v11,some (.ref xo),some (.int (0 + i)),some (.int kd),some (.int pu),some (.ref q),dR,some (.str x),eU,v20]) _ ⟨_,rfl,_,_,"tuple",false,rfl,.str _,rfl,_,rfl,we ?_⟩
   exact tail Z Y H4 _ _ _ _ _ (SB.same s4).wait (BB.same s4) (YB.same s4) (uB.fr (P:=λ_=>False) (Fr.same s4))
  .have B4:=BB.fr f4
   have Y4:=YB.fr f4 (λq z=>z.elim (λz=>by cases z) (jY q))
   have An:=uB.fr f4
   obtain ⟨_,eq4,nq4,hq4⟩:=id u4
   cases eq4
   refine hN (dA a To pa W.x cr few fo ho be ro rs [v11,some (.ref xo),some (.int (0 + i)),some (.int kd),some (.int pu),some (.ref q),dR,some (.ref q'),eU,v20]) _ ⟨_,rfl,_,_,"tuple",true,rfl,.tup hq4,rfl,_,rfl,br ?_⟩
   obtain ⟨_,ly,xs,ex,nl,el,pl⟩:=Y4.o.ob
   have Ap:=Paired.length pl
   have ehs : Y.ks.map (·.1) = p.hs:=SB.w.h
   refine ⟨_,rfl,xo,_,1,.ref ly,rfl,rfl,af.of ex,rfl,_,rfl,ho,rfl,⟨_,af.of B4.ho.1⟩,nI (K:=K) (a:=ho) (xs:=p.hs.map V.int) (λm ys U H'=>∃ v,U = [v,some (.ref q')] /\ xr H4 H' /\ Paired (aE H' Z) ys ((p.hs.take m).map λh=>(true,h,⟨pu,row.length,o.g,o.m⟩))) ⟨none,rfl,xr.refl _,.nil⟩ ?_ ?_ ?_⟩
   .rintro m ys U H' hm ⟨v,rfl,s5,py⟩
    refine ⟨af.of (s5 _ _ B4.ho.1),iP ?_⟩
    rw [Paired.length py,length_map,length_take]
    omega
   .rintro m u ys U H' eu ⟨v,rfl,s5,py⟩
    rw [getElem?_map] at eu
    cases ec:p.hs[m]? with
    | none=>rw [ec] at eu; cases eu
    | some c=>
     rw [ec] at eu
     cases eu
     refine ⟨_,rfl,_,rfl,kW,λp5 n5=>?_⟩
     have s6:=je (o:=.tup [.str "order",.int c,.ref q']) n5
     refine ⟨_,rfl,s5.trans s6,?_⟩
     rw [take_snoc ec,map_append]
     exact j9 (Paired.yf py λ_ _=>aE.fr (P:=λ_=>False) (Fr.same s6)) ⟨p5,q',rfl,(S4.w.kr.same s5).none n5,ja,u4.fr (P:=λ_=>False) (Fr.same (s5.trans s6))⟩
   rintro ys U H' ⟨v,rfl,s5,py⟩ p5 n5
   rw [length_map,take_length] at py
   have s6:=s5.trans (je (o:=.lst ys) n5)
   have oG:Paired (aE (upd H' p5 (.lst ys)) Z) ys (p.hs.map λh=>(true,h,⟨pu,row.length,o.g,o.m⟩)):=Paired.yf py λ_ _=>aE.fr (P:=λ_=>False) (Fr.same (je n5))
   have h5:upd H' p5 (.lst ys) p5 = some (.lst ys):=ja
   have He:=Paired.length oG
   rw [length_map] at He
   generalize upd H' p5 (.lst ys) = H6 at s6 oG h5 ⊢
   refine ⟨ly,p5,_,_,rfl,rfl,s6 _ _ el,h5,iP (by omega),λp7 n7=>?_⟩
   have s7:=s6.trans (je (o:=.lst (xs ++ ys)) n7)
   have Hf:=(S4.w.kr.same s6).none n7
   have uX:Paired (aE (upd H6 p7 (.lst (xs ++ ys))) Z) (xs ++ ys) (Y.way ++ Y.ks.map λc=>(true,c.1,⟨pu,row.length,o.g,o.m⟩)):=by
    refine F0 (Paired.yf pl λ_ _=>aE.fr (P:=λ_=>False) (Fr.same s7)) ?_
    have:=Paired.yf oG λ_ _=>aE.fr (P:=λ_=>False) (Fr.same (je (o:=.lst (xs ++ ys)) n7))
    rw [<- ehs,map_map] at this
    exact this
   have h7:upd H6 p7 (.lst (xs ++ ys)) p7 = some (.lst (xs ++ ys)):=ja
   generalize upd H6 p7 (.lst (xs ++ ys)) = H7 at s7 uX h7 ⊢
   refine ⟨_,rfl,xo,_,1,_,rfl,rfl,s7 _ _ ex,gU (by decide) (by show 1 < 4; decide),?_⟩
   obtain ⟨Y8,f8⟩:=(Y4.same s7).pZ (Y':=Y.asks ⟨pu,row.length,o.g,o.m⟩ row) rfl rfl rfl Hf h7 uX
   exact tail Z _ _ _ _ _ _ _ ((S4.same s7).own f8 Ax (S4.w.kr.same s7).put) ((B4.same s7).fr f8) Y8 ((An.fr (P:=λ_=>False) (Fr.same s7)).fr f8)
 obtain ⟨_,ly,xs,ex,nl,el,pl⟩:=YB.o.ob
 refine ⟨_,rfl,xo,_,1,.ref ly,rfl,rfl,af.of ex,rfl,cu,λe ne=>?_⟩
 have s4:=je (o:=.lst []) ne
 have qA:Paired (aE (upd HB e (.lst [])) Z) xs Y.way:=Paired.yf pl λ_ _=>aE.fr (P:=λ_=>False) (Fr.same s4)
 refine ⟨_,_,Hi (s4 _ _ el) qA,vA ne,(by have:=Ac Y.way; rw [bE]; omega),_,rfl,?_⟩
 rw [GC]
 have S4:=SB.same s4
 have B4:=BB.same s4
 have Y4:=YB.same s4
 have u4:=uB.fr (P:=λ_=>False) (Fr.same s4)
 have oF:=s4 _ _ ex
 have Ao:=s4 _ _ el
 generalize upd HB e (.lst []) = H4 at s4 qA S4 B4 Y4 u4 oF Ao
 refine bH (λz=>?_) (λ_=>tail Z Y H4 _ _ _ _ _ S4.wait B4 Y4 u4)
 have Ap:=Paired.length qA
 have pw : 0 < Y.way.length:=List.length_pos_iff.mpr λy=>by rw [y] at z; cases z
 refine gd λN hN=>⟨_,rfl,_,rfl,xo,_,1,.ref ly,rfl,rfl,af.of oF,rfl,ly,_,rfl,.inl (af.of Ao),To,R,_,rfl,S4.tn,by omega,by omega,λd H5 d0 d1 xF k5=>?_⟩
 obtain ⟨j,rfl⟩:=Int.eq_ofNat_of_zero_le d0
 obtain ⟨S5,f5⟩:=S4.draw xF k5
 have B5:=B4.fr f5
 have Y5:=Y4.fr f5 jY
 have u5:=u4.fr f5
 clear SB BB YB uB S4 B4 Y4 u4
 obtain ⟨_,qB,zs,AA,nl5,Hv,Hw⟩:=Y5.o.ob
 have lzs:=Paired.length Hw
 obtain ⟨l,AB⟩ : ∃ l,Y.way[j]? = some l:=⟨_,getElem?_eq_getElem (by omega)⟩
 obtain ⟨x,exj,ux⟩:=sO Hw AB
 obtain ⟨la,ql,rfl,_⟩:=id ux
 refine hN (dA a To pa W.x cr few fo ho be ro rs [v11,some (.ref xo),some (.int (0 + i)),some (.int kd),some (.int pu),some (.ref q),dR,dS,some (.int (j:Int)),v20]) _ (gd λN hN=>⟨_,rfl,xo,_,1,.ref qB,rfl,rfl,af.of AA,rfl,_,rfl,qB,_,(j:Int),.ref la,rfl,rfl,af.of Hv,fN d0 (by rw [Int.toNat_natCast]; exact exj),?_⟩)
 refine hN (dA a To pa W.x cr few fo ho be ro rs [v11,some (.ref xo),some (.int (0 + i)),some (.int kd),some (.int pu),some (.ref q),dR,dS,some (.int (j:Int)),some (.ref la)]) _ (gd λN hN=>⟨_,rfl,xo,_,1,.ref qB,rfl,rfl,af.of AA,rfl,_,rfl,(j:Int),rfl,qB,_,rfl,af.of Hv,λp6 n6=>?_⟩)
 rw [j31 (by omega)]
 have s6:=je (o:=.lst (zs.take j)) n6
 have h6:upd H5 p6 (.lst (zs.take j)) p6 = some (.lst (zs.take j)):=ja
 generalize upd H5 p6 (.lst (zs.take j)) = H6 at s6 h6 ⊢
 refine ⟨_,rfl,xo,_,1,.ref qB,rfl,rfl,af.of (s6 _ _ AA),rfl,_,rfl,_,_,rfl,rfl,((j + 1:Nat) : Int),rfl,qB,_,rfl,af.of (s6 _ _ Hv),λp7 n7=>?_⟩
 rw [j0d (by omega)]
 refine ⟨p6,p7,_,_,rfl,rfl,je n7 _ _ h6,ja,iP (by rw [length_take,length_drop]; omega),λp8 n8=>?_⟩
 have s7:=s6.trans (je (o:=.lst (zs.drop (j + 1))) n7)
 have Ht:=(S5.w.kr.same s7).none n8
 have s8:=s7.trans (je (o:=.lst (zs.take j ++ zs.drop (j + 1))) n8)
 have h8:upd (upd H6 p7 (.lst (zs.drop (j + 1)))) p8 (.lst (zs.take j ++ zs.drop (j + 1))) p8 = some (.lst (zs.take j ++ zs.drop (j + 1))):=ja
 generalize upd (upd H6 p7 (.lst (zs.drop (j + 1)))) p8 (.lst (zs.take j ++ zs.drop (j + 1))) = H8 at s8 h8 ⊢
 refine ⟨_,rfl,xo,_,1,_,rfl,rfl,s8 _ _ AA,gU (by decide) (by show 1 < 4; decide),?_⟩
 have Aw:Paired (aE H8 Z) (zs.take j ++ zs.drop (j + 1)) (Y.way.eraseIdx j):=by
  rw [<- List.eraseIdx_eq_take_drop_succ]
  exact Mv (Paired.yf Hw λ_ _=>aE.fr (P:=λ_=>False) (Fr.same s8))
 obtain ⟨Y9,f9⟩:=(Y5.same s8).pZ (Y':={ Y with way:=Y.way.eraseIdx j }) rfl rfl rfl Ht h8 Aw
 have uS:aw Z (upd H8 xo (.lst [.ref Sd,.ref p8,.ref ho,.int Y.en])):=(S5.w.kr.same s8).put
 have S9:=(S5.same s8).own f9 Ax uS
 have B9:=(B5.same s8).fr f9
 have u9:=(u5.fr (P:=λ_=>False) (Fr.same s8)).fr f9
 have Om:=(ux.fr (P:=λ_=>False) (Fr.same s8)).fr f9
 obtain ⟨lL,lh,lc⟩:=gn.g.y l (mem_of_getElem? AB)
 obtain ⟨B,ek,km⟩:=zZ lh
 have kk:cQ L i Y.n B:=gn.ks _ km
 have ll:=(kk.take l.1 lL (gn.lo _ lL)).2.2
 have e1:=kk.sz.hd
 have e2:=kk.sz.uc
 have e3:=kk.sz.dw
 have sz:=gn.sz
 have sz9:Sz { Y with way:=Y.way.eraseIdx j } L.length (Y.ks.length + p.ls.length) (1000 * i):=⟨sz.bd,sz.hs,le_trans (length_eraseIdx_le _ _) sz.wy,sz.ks⟩
 refine hN (dA a To pa W.x cr few fo ho be ro rs [v11,some (.ref xo),some (.int (0 + i)),some (.int kd),some (.int pu),some (.ref q),dR,dS,some (.int (j:Int)),some (.ref la)]) _ (gd λN hN=>⟨_,rfl,_,rfl,_,rfl,Z,xo,Sd,ho,rs,aa,la,{ Y with way:=Y.way.eraseIdx j },l,B,_,_,_,rfl,Y9.o,uS,⟨Y9.d.1,Y9.d.2,Y9.r⟩,Om,ek,gn.ok.nd,gn.g.b.nd,kk.ok,sk _ km,gn.lo _ lL,⟨by omega,by omega,by omega⟩,sz9,by omega,by omega,by omega,λZ10 Ts Y' eY O10 Hc iU vF=>?_⟩)
 obtain ⟨Oo,Hx⟩:=gg iU Y9.d.2 Y9.d.1 (λz=>z.2 rfl)
 have AD:=S9.own iU (λr z=>z.1) vF
 have B10:=B9.fr iU
 have Oq:=u9.fr iU
 have Hy:=Om.fr iU
 refine hN (dA a To pa W.x cr few fo ho be ro rs [v11,some (.ref xo),some (.int (0 + i)),some (.int kd),some (.int pu),some (.ref q),dR,dS,some (.int (j:Int)),some (.ref la)]) _ ⟨_,rfl,W.x,W.dx,_,rfl,AD.w.o.ob.1,xi,_,rfl,Z10,0,W,Y,j,l,B,_,_,_,rfl,AD.w.o,vF,AB,ek,gn.ok.nd,kk.ok,gn.ok.n8,gn.lo _ lL,⟨by omega,by omega,by omega⟩,gn.sz,by omega,by omega,by omega,λZ11 H11 x11 O11 kA Hz Ot=>?_⟩
 have g2:=(gn.iM AB ek).mono (T':=i + 1) (M':=1000 * (i + 1)) (le_refl _) (by omega)
 have Oi : ∀ c ∈ (Y.iM j l B).ks,lE (Y.iM j l B).n c.2:=λc hc=>by
  have lk:=ku l.2.1 (B.take l.1 l.2.2).2 { Y with way:=Y.way.eraseIdx j,ks:=bC Y.ks l.2.1 (B.take l.1 l.2.2).1 }
  have i3:c ∈ bC Y.ks l.2.1 (B.take l.1 l.2.2).1:=by
   have:(Y.iM j l B).ks = bC Y.ks l.2.1 (B.take l.1 l.2.2).1:=lk.k
   rwa [this] at hc
  rw [show (Y.iM j l B).n = Y.n from lk.n]
  obtain ⟨b,hb,rfl⟩:=mem_map.mp i3
  show lE Y.n (if b.1 = l.2.1 then (l.2.1,(B.take l.1 l.2.2).1) else b).2
  split
  .exact (sk _ km).take l.1 (gn.lo _ lL)
  .exact sk b hb
 obtain ⟨GV,f11'⟩:=AD.go kA (λ_ z=>z) (AD.w.next kA O11 Hz g2 Oi (j0k Y j l B))
 refine ⟨_,rfl,_,_,aE.GB Ot,aE.GB (Hy.fr kA),(by have:=Ac [l]; rw [map_cons,dv] at this; omega),_,rfl,?_⟩
 rw [mJ]
 refine we (tail Z11 (Y.iM j l B) H11 _ _ _ _ _ GV (B10.fr kA) ?_ (Oq.fr kA))
 have eY' : Y' = Y.iM j l B:=eY
 subst eY'
 exact Ow.fr kA (λq z=>by cases z) ⟨O10,⟨Hx,Oo⟩,Hc⟩
end
noncomputable abbrev aN (K:W.Frag)(x:Str)(v:Option Value):Prop:=W.nsIn K mainGlobals x=some v
noncomputable abbrev aF (K:W.Frag)(a:Addr)(x:Str)(v:Option Value):Prop:=W.findIn K (.ref a) x=some v
noncomputable abbrev aL (K:W.Frag)(f:Addr)(n q:Str)(s:Stmt)(oc:Value)(od:Option Addr)(kV dc pm:Value)(an:Option Addr)(cd ct:Value)(sl:Array (Option Value)):Prop:=K.lookup f=some ⟨oc,od,.func (W.fnOf n q (oW s) (gP s) (jq s) .none kV dc pm an cd ct),sl⟩
noncomputable abbrev aC (K:W.Frag)(q:Value)(s:Str):Prop:=W.codeIn K q s=true
noncomputable abbrev aK (K:W.Frag)(f:Addr):Prop:=W.keepIn K (.ref f)=true
noncomputable abbrev aI (K:W.Frag)(f:Addr):Prop:=W.isFn K (.ref f)=true
noncomputable abbrev aR (K:W.Frag)(s:Str)(f:Addr):Prop:=aN K s (some (.ref f))
noncomputable abbrev aG (K:W.Frag)(c:Addr)(s:Str)(f:Addr):Prop:=aF K c s (some (.ref f))
noncomputable abbrev aM (K:W.Frag)(f:Addr)(n:Str)(s:Stmt)(oc:Value)(od:Option Addr)(kV dc pm:Value)(an:Option Addr)(cd ct:Value)(sl:Array (Option Value)):Prop:=aL K f n n s oc od kV dc pm an cd ct sl
set_option maxHeartbeats 4000000 in
set_option autoImplicit true in
set_option relaxedAutoImplicit true in
theorem all_mk {l:W.OpenLaw} {w:World} {K:W.Frag} {h:Heap} {mg:Str -> Option Value} {fa:Addr} (X:K.In h) (G:h.Ns mainGlobals mg) (hfa:mg "law" = some (.ref fa))
 {q2 q3 q4 q5 q6 q7:Value}
 (cm0:aR K "Keeper" cD)
 (cg0:W.plainGet K cD Str.empty = true) (ch0:W.hasDictIn K cD = true) (co0:W.plainOver K cD = true) (cs0:aF K cD "__setattr__" (some (.builtin "object.__setattr__")))
 (cn0_0:aF K cD "held" none)
 (cn0_1:aF K cD "next_numbers" none)
 (cn0_2:aF K cD "done" none)
 (cn0_3:aF K cD "heard" none)
 (cn0_4:aF K cD "unvoted" none)
 (cn0_5:aF K cD "choices" none)
 (cn0_6:aF K cD "waiting" none)
 (cm1:aR K "Board" gH)
 (cg1:W.plainGet K gH Str.empty = true) (ch1:W.hasDictIn K gH = true) (co1:W.plainOver K gH = true) (cs1:aF K gH "__setattr__" (some (.builtin "object.__setattr__")))
 (cn1_0:aF K gH "enough" none)
 (cn1_1:aF K gH "signers" none)
 (cm2:aR K "World" bF)
 (cg2:W.plainGet K bF Str.empty = true) (ch2:W.hasDictIn K bF = true) (co2:W.plainOver K bF = true) (cs2:aF K bF "__setattr__" (some (.builtin "object.__setattr__")))
 (cn2_0:aF K bF "purses" none)
 (cn2_1:aF K bF "total" none)
 (cn2_2:aF K bF "lying" none)
 (cn2_3:aF K bF "cheating" none)
 (cn2_4:aF K bF "keepers" none)
 (cn2_5:aF K bF "board" none)
 (cn2_6:aF K bF "asked" none)
 (cn2_7:aF K bF "on_way" none)
 (cm3:aR K "Book" eJ)
 (cg3:W.plainGet K eJ Str.empty = true) (ch3:W.hasDictIn K eJ = true) (co3:W.plainOver K eJ = true) (cs3:aF K eJ "__setattr__" (some (.builtin "object.__setattr__")))
 (cn3_0:aF K eJ "held" none)
 (cn3_1:aF K eJ "next_numbers" none)
 (cn3_2:aF K eJ "done" none)
 (xm0:aR K "NoPurse" dU)
 (xm1:aR K "TooMuch" gJ)
 (xm2:aR K "NotNow" gK)
 (xm3:aR K "PurseError" mL)
 (xm4:aR K "BadCut" AE)
 (xm5:aR K "BadText" AF)
 (xm6:aR K "BadPaper" AG)
 (xm7:aR K "NoHouse" AH)
 (xm8:aR K "NoLetter" AI)
 (xm9:aR K "BadNumber" AJ)
 (xm10:aR K "BadOrder" lG)
 (xm11:aR K "BadHouses" lH)
 (a0:aR K "is_whole" f0)
 (l0:aM K f0 "is_whole" xY o0 r0 v0 d0 p0 s0 q0 t0 u0)
 (c0:aC K q0 "is_whole") (k0:aK K f0)
 (a1:aR K "is_between" f1)
 (l1:aM K f1 "is_between" xZ o1 r1 v1 d1 p1 s1 q1 t1 u1)
 (c1:aC K q1 "is_between") (k1:aK K f1)
 (a2:aR K "is_order" f2)
 (l2:aM K f2 "is_order" yA o2 r2 (.ref kd2) d2 p2 s2 q2 t2 u2)
 (c2:aC K q2 "is_order") (k2:aK K f2)
 (e2:W.nsIn K kd2 "purses" = some (some (.int 8 kt2)))
 (a3:aR K "place_of" f3)
 (l3:aM K f3 "place_of" yB o3 r3 v3 d3 p3 s3 q3 t3 u3)
 (c3:aC K q3 "place_of") (k3:aK K f3)
 (a4:aR K "are_rising" f4)
 (l4:aM K f4 "are_rising" sR o4 r4 v4 d4 p4 s4 q4 t4 u4)
 (c4:aC K q4 "are_rising") (k4:aK K f4)
 (a5:aR K "is_rising_row" f5)
 (l5:aM K f5 "is_rising_row" uj o5 r5 v5 d5 p5 s5 q5 t5 u5)
 (c5:aC K q5 "is_rising_row") (k5:aK K f5)
 (a6:aR K "is_house_count" f6)
 (l6:aM K f6 "is_house_count" gr o6 r6 v6 d6 p6 s6 q6 t6 u6)
 (c6:aC K q6 "is_house_count") (k6:aK K f6)
 (a7:aR K "is_few" f7)
 (l7:aM K f7 "is_few" yC o7 r7 v7 d7 p7 s7 q7 t7 u7)
 (c7:aC K q7 "is_few") (k7:aK K f7)
 (a8:aR K "outnumber" f8)
 (l8:aM K f8 "outnumber" Dl o8 r8 v8 d8 p8 s8 q8 t8 u8)
 (c8:aC K q8 "outnumber") (k8:aK K f8)
 (a9:aR K "enough_of" f9)
 (l9:aM K f9 "enough_of" Dm o9 r9 v9 d9 p9 s9 q9 t9 u9)
 (c9:aC K q9 "enough_of") (k9:aK K f9)
 (a10:aR K "are_sums" iU)
 (l10:aM K iU "are_sums" yD o10 r10 v10 Oo p10 dO q10 Dk Oq)
 (c10:aC K q10 "are_sums") (k10:aK K iU)
 (a11:aR K "are_first_sums" kA)
 (l11:aM K kA "are_first_sums" gq o11 r11 v11 d11 p11 Ah q11 t11 Ot)
 (c11:aC K q11 "are_first_sums") (k11:aK K kA)
 (a12:aG K dU "__init__" dH)
 (l12:aL K dH "__init__" "NoPurse.__init__" y4 o12 r12 v12 d12 p12 Gp q12 t12 u12)
 (c12:aC K q12 "NoPurse.__init__") (k12:aK K dH)
 (xrn12:xP K dU dH = true) (xd12a:aF K dU "__setattr__" (some (.builtin "object.__setattr__"))) (xd12b:aF K dU "__getattribute__" (some (.builtin "BaseException.__getattribute__"))) (xd12c:aF K dU "__getattr__" none) (xd12d:aF K dU "purse" none)
 (a13:aR K "check_houses" HA)
 (l13:aM K HA "check_houses" Dn o13 r13 Ho d13 p13 s13 q13 t13 u13)
 (c13:aC K q13 "check_houses") (k13:aK K HA)
 (a14:aR K "check_purses" ot)
 (l14:aM K ot "check_purses" Dp o14 r14 Hq d14 p14 s14 q14 t14 u14)
 (c14:aC K q14 "check_purses") (k14:aK K ot)
 (a15:aG K gH "__init__" jU) (n15:aI K jU)
 (mk15:W.makesIn K gH = true) (mq15:aK K gH)
 (l15:aL K jU "__init__" "Board.__init__" gm o15 r15 Az d15 p15 s15 q15 t15 u15)
 (c15:aC K q15 "Board.__init__") (k15:aK K jU)
 (a16:aG K gH "is_carried" AK) (n16:aI K AK)
 (l16:aL K AK "is_carried" "Board.is_carried" y3 o16 r16 vB d16 p16 s16 q16 t16 u16)
 (c16:aC K q16 "Board.is_carried") (k16:aK K AK)
 (a17:aG K gH "put" lB) (n17:aI K lB)
 (l17:aL K lB "put" "Board.put" sS o17 r17 dR d17 p17 s17 q17 t17 u17)
 (c17:aC K q17 "Board.put") (k17:aK K lB)
 (a18:aG K gH "houses_for" AL) (n18:aI K AL)
 (l18:aL K AL "houses_for" "Board.houses_for" yz o18 r18 dS d18 p18 s18 q18 t18 u18)
 (c18:aC K q18 "Board.houses_for") (k18:aK K AL)
 (a19:aG K eJ "__init__" vG) (n19:aI K vG)
 (mk19:W.makesIn K eJ = true) (mq19:aK K eJ)
 (l19:aL K vG "__init__" "Book.__init__" pf o19 r19 eU d19 p19 s19 q19 t19 u19)
 (c19:aC K q19 "Book.__init__") (k19:aK K vG)
 (a20:aG K eJ "is_past" vH) (n20:aI K vH)
 (l20:aL K vH "is_past" "Book.is_past" yE o20 r20 v20 d20 p20 s20 q20 t20 u20)
 (c20:aC K q20 "Book.is_past") (k20:aK K vH)
 (a21:aG K eJ "is_due" vI) (n21:aI K vI)
 (l21:aL K vI "is_due" "Book.is_due" uf o21 r21 v21 d21 p21 s21 q21 t21 u21)
 (c21:aC K q21 "Book.is_due") (k21:aK K vI)
 (a22:aG K eJ "settle" vJ) (n22:aI K vJ)
 (l22:aL K vJ "settle" "Book.settle" sT o22 r22 v22 d22 p22 s22 q22 t22 u22)
 (c22:aC K q22 "Book.settle") (k22:aK K vJ)
 (a23:aG K cD "__init__" AM) (n23:aI K AM)
 (mk23:W.makesIn K cD = true) (mq23:aK K cD)
 (l23:aL K AM "__init__" "Keeper.__init__" vp o23 r23 v23 d23 p23 s23 q23 t23 u23)
 (c23:aC K q23 "Keeper.__init__") (k23:aK K AM)
 (a24:aG K cD "left_of" AN) (n24:aI K AN)
 (l24:aL K AN "left_of" "Keeper.left_of" gk o24 r24 v24 d24 p24 s24 q24 t24 u24)
 (c24:aC K q24 "Keeper.left_of") (k24:aK K AN)
 (a25:aG K cD "give_votes" AO) (n25:aI K AO)
 (l25:aL K AO "give_votes" "Keeper.give_votes" xb o25 r25 v25 d25 p25 s25 q25 t25 u25)
 (c25:aC K q25 "Keeper.give_votes") (k25:aK K AO)
 (a26:aG K cD "first_due" AQ) (n26:aI K AQ)
 (l26:aL K AQ "first_due" "Keeper.first_due" xk o26 r26 v26 d26 p26 s26 q26 t26 u26)
 (c26:aC K q26 "Keeper.first_due") (k26:aK K AQ)
 (a27:aG K cD "go_on" AR) (n27:aI K AR)
 (l27:aL K AR "go_on" "Keeper.go_on" gi o27 r27 v27 d27 p27 s27 q27 t27 u27)
 (c27:aC K q27 "Keeper.go_on") (k27:aK K AR)
 (a28:aG K cD "hear" AS) (n28:aI K AS)
 (l28:aL K AS "hear" "Keeper.hear" yF o28 r28 v28 d28 p28 s28 q28 t28 u28)
 (c28:aC K q28 "Keeper.hear") (k28:aK K AS)
 (a29:aG K cD "take_paper" AU) (n29:aI K AU)
 (l29:aL K AU "take_paper" "Keeper.take_paper" yl o29 r29 v29 d29 p29 s29 q29 t29 u29)
 (c29:aC K q29 "Keeper.take_paper") (k29:aK K AU)
 (a30:aG K bF "__init__" AV) (n30:aI K AV)
 (mk30:W.makesIn K bF = true) (mq30:aK K bF)
 (l30:aL K AV "__init__" "World.__init__" Dq o30 r30 v30 d30 p30 s30 q30 t30 u30)
 (c30:aC K q30 "World.__init__") (k30:aK K AV)
 (a31:aG K bF "letters" AW) (n31:aI K AW)
 (l31:aL K AW "letters" "World.letters" yG o31 r31 v31 d31 p31 s31 q31 t31 u31)
 (c31:aC K q31 "World.letters") (k31:aK K AW)
 (a32:aG K bF "keeper_of" AX) (n32:aI K AX)
 (l32:aL K AX "keeper_of" "World.keeper_of" wa o32 r32 v32 d32 p32 s32 q32 t32 u32)
 (c32:aC K q32 "World.keeper_of") (k32:aK K AX)
 (a33:aG K bF "sums" AY) (n33:aI K AY)
 (l33:aL K AY "sums" "World.sums" yH o33 r33 v33 d33 p33 s33 q33 t33 u33)
 (c33:aC K q33 "World.sums") (k33:aK K AY)
 (a34:aG K bF "settled" AZ) (n34:aI K AZ)
 (l34:aL K AZ "settled" "World.settled" uy o34 r34 v34 d34 p34 s34 q34 t34 u34)
 (c34:aC K q34 "World.settled") (k34:aK K AZ)
 (a35:aG K bF "waits" A1) (n35:aI K A1)
 (l35:aL K A1 "waits" "World.waits" yI o35 r35 v35 d35 p35 s35 q35 t35 u35)
 (c35:aC K q35 "World.waits") (k35:aK K A1)
 (a36:aG K bF "voted" A3) (n36:aI K A3)
 (l36:aL K A3 "voted" "World.voted" pq o36 r36 v36 d36 p36 s36 q36 t36 u36)
 (c36:aC K q36 "World.voted") (k36:aK K A3)
 (a37:aG K bF "votes_for" A4) (n37:aI K A4)
 (l37:aL K A4 "votes_for" "World.votes_for" vz o37 r37 v37 d37 p37 s37 q37 t37 u37)
 (c37:aC K q37 "World.votes_for") (k37:aK K A4)
 (a38:aG K bF "check_purse" A6) (n38:aI K A6)
 (l38:aL K A6 "check_purse" "World.check_purse" yk o38 r38 v38 d38 p38 s38 q38 t38 u38)
 (c38:aC K q38 "World.check_purse") (k38:aK K A6)
 (a39:aG K bF "check_asker" A7) (n39:aI K A7)
 (l39:aL K A7 "check_asker" "World.check_asker" yn o39 r39 v39 d39 p39 s39 q39 t39 u39)
 (c39:aC K q39 "World.check_asker") (k39:aK K A7)
 (a40:aG K bF "check_order" A8) (n40:aI K A8)
 (l40:aL K A8 "check_order" "World.check_order" yo o40 r40 v40 d40 p40 s40 q40 t40 u40)
 (c40:aC K q40 "World.check_order") (k40:aK K A8)
 (a41:aG K bF "check_liar" A9) (n41:aI K A9)
 (l41:aL K A9 "check_liar" "World.check_liar" yy o41 r41 v41 d41 p41 s41 q41 t41 u41)
 (c41:aC K q41 "World.check_liar") (k41:aK K A9)
 (a42:aG K bF "write_to_all" Ba) (n42:aI K Ba)
 (l42:aL K Ba "write_to_all" "World.write_to_all" zq o42 r42 v42 d42 p42 s42 q42 t42 u42)
 (c42:aC K q42 "World.write_to_all") (k42:aK K Ba)
 (a43:aG K bF "put_votes" Bb) (n43:aI K Bb)
 (l43:aL K Bb "put_votes" "World.put_votes" xx o43 r43 v43 d43 p43 s43 q43 t43 u43)
 (c43:aC K q43 "World.put_votes") (k43:aK K Bb)
 (a44:aG K bF "ask" Bc) (n44:aI K Bc)
 (l44:aL K Bc "ask" "World.ask" sU o44 r44 v44 d44 p44 s44 q44 t44 u44)
 (c44:aC K q44 "World.ask") (k44:aK K Bc)
 (a45:aG K bF "cheat" Bd) (n45:aI K Bd)
 (l45:aL K Bd "cheat" "World.cheat" yJ o45 r45 v45 d45 p45 s45 q45 t45 u45)
 (c45:aC K q45 "World.cheat") (k45:aK K Bd)
 (a46:aG K bF "lie" Be) (n46:aI K Be)
 (l46:aL K Be "lie" "World.lie" yK o46 r46 v46 d46 p46 s46 q46 t46 u46)
 (c46:aC K q46 "World.lie") (k46:aK K Be)
 (a47:aG K bF "come" Bf) (n47:aI K Bf)
 (l47:aL K Bf "come" "World.come" sV o47 r47 v47 d47 p47 s47 q47 t47 u47)
 (c47:aC K q47 "World.come") (k47:aK K Bf)
 (a48:aR K "_law_town" HD)
 (l48:aM K HD "_law_town" yL o48 r48 v48 d48 p48 s48 q48 t48 u48)
 (c48:aC K q48 "_law_town") (k48:aK K HD)
 (a49:aR K "_law_draw" HE)
 (l49:aM K HE "_law_draw" sW o49 r49 v49 d49 p49 s49 q49 t49 u49)
 (c49:aC K q49 "_law_draw") (k49:aK K HE)
 (a50:aR K "_law_pick" HF)
 (l50:aM K HF "_law_pick" yM o50 r50 v50 d50 p50 s50 q50 t50 u50)
 (c50:aC K q50 "_law_pick") (k50:aK K HF)
 (a51:aR K "_law_refusal" HG)
 (l51:aM K HG "_law_refusal" gh o51 r51 v51 d51 p51 s51 q51 t51 u51)
 (c51:aC K q51 "_law_refusal") (k51:aK K HG)
 (a52:aR K "_law_some" HH)
 (l52:aM K HH "_law_some" sX o52 r52 v52 d52 p52 s52 q52 t52 u52)
 (c52:aC K q52 "_law_some") (k52:aK K HH)
 (a53:aR K "_law_world" HI)
 (l53:aM K HI "_law_world" sY o53 r53 v53 d53 p53 s53 q53 t53 u53)
 (c53:aC K q53 "_law_world") (k53:aK K HI)
 (a54:aR K "_law_told" HJ)
 (l54:aM K HJ "_law_told" sZ o54 r54 v54 d54 p54 s54 q54 t54 u54)
 (c54:aC K q54 "_law_told") (k54:aK K HJ)
 (a55:aR K "_law_order" HK)
 (l55:aM K HK "_law_order" tf o55 r55 v55 d55 p55 s55 q55 t55 u55)
 (c55:aC K q55 "_law_order") (k55:aK K HK)
 (a56:aR K "_law_room" HL)
 (l56:aM K HL "_law_room" yN o56 r56 v56 d56 p56 s56 q56 t56 u56)
 (c56:aC K q56 "_law_room") (k56:aK K HL)
 (a57:aR K "_law_votes" HM)
 (l57:aM K HM "_law_votes" tj o57 r57 v57 d57 p57 s57 q57 t57 u57)
 (c57:aC K q57 "_law_votes") (k57:aK K HM)
 (a58:aR K "_law_takes" HN)
 (l58:aM K HN "_law_takes" tm o58 r58 v58 d58 p58 s58 q58 t58 u58)
 (c58:aC K q58 "_law_takes") (k58:aK K HN)
 (a59:aR K "_law_sign" HP)
 (l59:aM K HP "_law_sign" tq o59 r59 v59 d59 p59 s59 q59 t59 u59)
 (c59:aC K q59 "_law_sign") (k59:aK K HP)
 (a60:aR K "_law_arrives" HQ)
 (l60:aM K HQ "_law_arrives" gc o60 r60 v60 d60 p60 s60 q60 t60 u60)
 (c60:aC K q60 "_law_arrives") (k60:aK K HQ)
 (a61:aR K "_law_is_like" HR)
 (l61:aM K HR "_law_is_like" w4 o61 r61 v61 d61 p61 s61 q61 t61 u61)
 (c61:aC K q61 "_law_is_like") (k61:aK K HR)
 (a62:aR K "law" HS)
 (l62:aM K HS "law" tu o62 r62 v62 d62 p62 s62 q62 t62 u62)
 (c62:aC K q62 "law") (k62:aK K HS)
 (ih0:aG K cD "is_due" vI)
 (ih1:aG K cD "is_past" vH)
 (ih2:aG K cD "settle" vJ)
 (yp0:W.specialIn K (.ref eJ) "__getattribute__" = some (some (.builtin "type.__getattribute__"))) (yr0:W.readsIn K eJ (.type "type") = true) (yf0:W.findCls K (.ref eJ) (.type "type") "__init__" = some (.val (.ref vG)))
 (hgc0:aN K "MOST_MUCH" (some (.int 1000 gt0)))
 (hgc1:aN K "LAST_NUMBER" (some (.int 99 gt1)))
 (hgc2:aN K "PAPER_LETTER" (some (.str "paper" gt2)))
 (hgc3:aN K "ORDER_LETTER" (some (.str "order" gt3)))
 (hgc4:aN K "MOST_HOUSES" (some (.int 16 gt4)))
 (hgc5:aN K "MOST_FEW" (some (.int 5 gt5)))
 (hgc6:aN K "MOST_FIRST_SUM" (some (.int 1000 gt6)))
 (hgc7:aN K "LEAST_PURSES" (some (.int 2 gt7)))
 (hgc8:aN K "MOST_PURSES" (some (.int 8 gt8)))
 (xg0:aF K dU "__getattribute__" (some (.builtin "BaseException.__getattribute__"))) (xh0:aF K dU "__getattr__" none) (xj0:aF K dU "__class__" (some (.builtin "object.__class__")))
 (xp0:W.mroIn K dU (.type "BaseException") = some true) (xo0:W.mroIn K dU (.type "object") = some true) (xs0:(W.clsIn K dU).isSome = true)
 (xk0:kinds K (.ref dU) [.ref AJ,.ref lG,.ref lH,.ref AH,.ref dU,.ref AI,.ref gK,.ref gJ,.ref AG,.ref AE,.ref AF,.ref mL,.type "ValueError"] = [some false,some false,some false,some false,some true,some false,some false,some false,some false,some false,some false,some true,some true])
 (xc0_0:W.kitCls K (.ref dU) (.ref mL) = some true)
 (xr1:W.excIn K gJ rQ "ValueError.__new__" = true)
 (xg1:aF K gJ "__getattribute__" (some (.builtin "BaseException.__getattribute__"))) (xh1:aF K gJ "__getattr__" none) (xj1:aF K gJ "__class__" (some (.builtin "object.__class__")))
 (xp1:W.mroIn K gJ (.type "BaseException") = some true) (xo1:W.mroIn K gJ (.type "object") = some true) (xs1:(W.clsIn K gJ).isSome = true)
 (xk1:kinds K (.ref gJ) [.ref AJ,.ref lG,.ref lH,.ref AH,.ref dU,.ref AI,.ref gK,.ref gJ,.ref AG,.ref AE,.ref AF,.ref mL,.type "ValueError"] = [some false,some false,some false,some false,some false,some false,some false,some true,some false,some false,some false,some true,some true])
 (xc1_0:W.kitCls K (.ref gJ) (.ref mL) = some true)
 (xr2:W.excIn K gK rQ "ValueError.__new__" = true)
 (xg2:aF K gK "__getattribute__" (some (.builtin "BaseException.__getattribute__"))) (xh2:aF K gK "__getattr__" none) (xj2:aF K gK "__class__" (some (.builtin "object.__class__")))
 (xp2:W.mroIn K gK (.type "BaseException") = some true) (xo2:W.mroIn K gK (.type "object") = some true) (xs2:(W.clsIn K gK).isSome = true)
 (xk2:kinds K (.ref gK) [.ref AJ,.ref lG,.ref lH,.ref AH,.ref dU,.ref AI,.ref gK,.ref gJ,.ref AG,.ref AE,.ref AF,.ref mL,.type "ValueError"] = [some false,some false,some false,some false,some false,some false,some true,some false,some false,some false,some false,some true,some true])
 (xc2_0:W.kitCls K (.ref gK) (.ref mL) = some true)
 (xb0:W.mroIn K mL (.type "BaseException") = some true)
 (z0:aN K "isinstance" none)
 (z1:aN K "bool" none)
 (z2:aN K "int" none)
 (z3:aN K "len" none)
 (z4:aN K "tuple" none)
 (z5:aN K "list" none)
 (z6:aN K "sorted" none)
 (z7:aN K "sum" none)
 (z8:aN K "max" none)
 (z9:aN K "all" none)
 (z10:aN K "range" none)
 (z11:aN K "ValueError" none) :
 ∃ fd:FuncData,(∀ (s:Shared) (v:Value),BindsTo s fd ⟨[v],[]⟩ [("_law_script",v)]) /\ ∀ base:Heap,K.In base -> base.Ns mainGlobals mg -> xl l.prog w K mg base CX0 12 fa fd ["_law_script"] (jw3 K):=by
 have T:Txt K mg ⟨f0,_,f1,_,f2,_,f3,_,f4,_,f5,_,f6,_,f7,_,f8,_,f9,_,iU,_,kA,_,dH,_,HA,_,ot,_,jU,_,AK,_,lB,_,AL,_,vG,_,vH,_,vI,_,vJ,_,AM,_,AN,_,AO,_,AQ,_,AR,_,AS,_,AU,_,AV,_,AW,_,AX,_,AY,_,AZ,_,A1,_,A3,_,A4,_,A6,_,A7,_,A8,_,A9,_,Ba,_,Bb,_,Bc,_,Bd,_,Be,_,Bf,_,HD,_,HE,_,HF,_,HG,_,HH,_,HI,_,HJ,_,HK,_,HL,_,HM,_,HN,_,HP,_,HQ,_,HR,_,HS,_,cD,gH,bF,eJ,dU,gJ,gK,mL,AE,AF,AG,AH,AI,AJ,lG,lH⟩:=⟨ji (st:=xY) l0 c0 k0,
W.mg_of X G a0,
eS (ji (st:=xY) l0 c0 k0),
ji (st:=xZ) l1 c1 k1,
W.mg_of X G a1,
gT (ji (st:=xZ) l1 c1 k1),
ji (st:=yA) l2 c2 k2,
W.mg_of X G a2,
xX λ_ _ _=>.of_eq rfl,
⟨_,RL e2 rfl rfl rfl rfl rfl rfl rfl (by decide +kernel)⟩,
ji (st:=yB) l3 c3 k3,
W.mg_of X G a3,
eS (ji (st:=yB) l3 c3 k3),
ji (st:=sR) l4 c4 k4,
W.mg_of X G a4,
cy (ji (st:=sR) l4 c4 k4),
ji (st:=uj) l5 c5 k5,
W.mg_of X G a5,
cy (ji (st:=uj) l5 c5 k5),
ji (st:=gr) l6 c6 k6,
W.mg_of X G a6,
eS (ji (st:=gr) l6 c6 k6),
ji (st:=yC) l7 c7 k7,
W.mg_of X G a7,
eS (ji (st:=yC) l7 c7 k7),
ji (st:=Dl) l8 c8 k8,
W.mg_of X G a8,
xX λ_ _ _=>.of_eq rfl,
ji (st:=Dm) l9 c9 k9,
W.mg_of X G a9,
xX λ_ _ _=>.of_eq rfl,
ji (st:=yD) l10 c10 k10,
W.mg_of X G a10,
eS (ji (st:=yD) l10 c10 k10),
ji (st:=gq) l11 c11 k11,
W.mg_of X G a11,
eS (ji (st:=gq) l11 c11 k11),
ji (st:=y4) l12 c12 k12,
⟨xrn12,a12,xd12a,xd12b,xd12c,xd12d⟩,
cy (ji (st:=y4) l12 c12 k12),
ji (st:=Dn) l13 c13 k13,
W.mg_of X G a13,
UQ λ_ _ _ _=>.of_eq rfl,
ji (st:=Dp) l14 c14 k14,
W.mg_of X G a14,
xX λ_ _ _=>.of_eq rfl,
ji (st:=gm) l15 c15 k15,
⟨a15,n15,k15⟩,
⟨mk15,a15,n15,mq15⟩,
cy (ji (st:=gm) l15 c15 k15),
ji (st:=y3) l16 c16 k16,
⟨a16,n16,k16⟩,
cy (ji (st:=y3) l16 c16 k16),
ji (st:=sS) l17 c17 k17,
⟨a17,n17,k17⟩,
gT (ji (st:=sS) l17 c17 k17),
ji (st:=yz) l18 c18 k18,
⟨a18,n18,k18⟩,
cy (ji (st:=yz) l18 c18 k18),
ji (st:=pf) l19 c19 k19,
⟨a19,n19,k19⟩,
⟨mk19,a19,n19,mq19⟩,
cy (ji (st:=pf) l19 c19 k19),
ji (st:=yE) l20 c20 k20,
⟨a20,n20,k20⟩,
cy (ji (st:=yE) l20 c20 k20),
ji (st:=uf) l21 c21 k21,
⟨a21,n21,k21⟩,
cy (ji (st:=uf) l21 c21 k21),
ji (st:=sT) l22 c22 k22,
⟨a22,n22,k22⟩,
cy (ji (st:=sT) l22 c22 k22),
ji (st:=vp) l23 c23 k23,
⟨a23,n23,k23⟩,
⟨mk23,a23,n23,mq23⟩,
cy (ji (st:=vp) l23 c23 k23),
ji (st:=gk) l24 c24 k24,
⟨a24,n24,k24⟩,
gT (ji (st:=gk) l24 c24 k24),
ji (st:=xb) l25 c25 k25,
⟨a25,n25,k25⟩,
eS (ji (st:=xb) l25 c25 k25),
ji (st:=xk) l26 c26 k26,
⟨a26,n26,k26⟩,
eS (ji (st:=xk) l26 c26 k26),
ji (st:=gi) l27 c27 k27,
⟨a27,n27,k27⟩,
eS (ji (st:=gi) l27 c27 k27),
ji (st:=yF) l28 c28 k28,
⟨a28,n28,k28⟩,
cy (ji (st:=yF) l28 c28 k28),
ji (st:=yl) l29 c29 k29,
⟨a29,n29,k29⟩,
cy (ji (st:=yl) l29 c29 k29),
ji (st:=Dq) l30 c30 k30,
⟨a30,n30,k30⟩,
⟨mk30,a30,n30,mq30⟩,
⟨λs us ws _ hl=>match us,ws,hl with | [_,_],[_,_,_,_],_=>.of_eq rfl,λ{vs us zs ws} r1 r2=>UJ r1 r2⟩,
ji (st:=yG) l31 c31 k31,
⟨a31,n31,k31⟩,
eS (ji (st:=yG) l31 c31 k31),
ji (st:=wa) l32 c32 k32,
⟨a32,n32,k32⟩,
cy (ji (st:=wa) l32 c32 k32),
ji (st:=yH) l33 c33 k33,
⟨a33,n33,k33⟩,
cy (ji (st:=yH) l33 c33 k33),
ji (st:=uy) l34 c34 k34,
⟨a34,n34,k34⟩,
cy (ji (st:=uy) l34 c34 k34),
ji (st:=yI) l35 c35 k35,
⟨a35,n35,k35⟩,
cy (ji (st:=yI) l35 c35 k35),
ji (st:=pq) l36 c36 k36,
⟨a36,n36,k36⟩,
KW (ji (st:=pq) l36 c36 k36),
ji (st:=vz) l37 c37 k37,
⟨a37,n37,k37⟩,
cy (ji (st:=vz) l37 c37 k37),
ji (st:=yk) l38 c38 k38,
⟨a38,n38,k38⟩,
cy (ji (st:=yk) l38 c38 k38),
ji (st:=yn) l39 c39 k39,
⟨a39,n39,k39⟩,
gT (ji (st:=yn) l39 c39 k39),
ji (st:=yo) l40 c40 k40,
⟨a40,n40,k40⟩,
cy (ji (st:=yo) l40 c40 k40),
ji (st:=yy) l41 c41 k41,
⟨a41,n41,k41⟩,
cy (ji (st:=yy) l41 c41 k41),
ji (st:=zq) l42 c42 k42,
⟨a42,n42,k42⟩,
gT (ji (st:=zq) l42 c42 k42),
ji (st:=xx) l43 c43 k43,
⟨a43,n43,k43⟩,
gT (ji (st:=xx) l43 c43 k43),
ji (st:=sU) l44 c44 k44,
⟨a44,n44,k44⟩,
KW (ji (st:=sU) l44 c44 k44),
ji (st:=yJ) l45 c45 k45,
⟨a45,n45,k45⟩,
gT (ji (st:=yJ) l45 c45 k45),
ji (st:=yK) l46 c46 k46,
⟨a46,n46,k46⟩,
gT (ji (st:=yK) l46 c46 k46),
ji (st:=sV) l47 c47 k47,
⟨a47,n47,k47⟩,
cy (ji (st:=sV) l47 c47 k47),
ji (st:=yL) l48 c48 k48,
W.mg_of X G a48,
eS (ji (st:=yL) l48 c48 k48),
ji (st:=sW) l49 c49 k49,
W.mg_of X G a49,
cy (ji (st:=sW) l49 c49 k49),
ji (st:=yM) l50 c50 k50,
W.mg_of X G a50,
cy (ji (st:=yM) l50 c50 k50),
ji (st:=gh) l51 c51 k51,
W.mg_of X G a51,
eS (ji (st:=gh) l51 c51 k51),
ji (st:=sX) l52 c52 k52,
W.mg_of X G a52,
gT (ji (st:=sX) l52 c52 k52),
ji (st:=sY) l53 c53 k53,
W.mg_of X G a53,
eS (ji (st:=sY) l53 c53 k53),
ji (st:=sZ) l54 c54 k54,
W.mg_of X G a54,
KY (ji (st:=sZ) l54 c54 k54),
ji (st:=tf) l55 c55 k55,
W.mg_of X G a55,
gT (ji (st:=tf) l55 c55 k55),
ji (st:=yN) l56 c56 k56,
W.mg_of X G a56,
eS (ji (st:=yN) l56 c56 k56),
ji (st:=tj) l57 c57 k57,
W.mg_of X G a57,
eS (ji (st:=tj) l57 c57 k57),
ji (st:=tm) l58 c58 k58,
W.mg_of X G a58,
cy (ji (st:=tm) l58 c58 k58),
ji (st:=tq) l59 c59 k59,
W.mg_of X G a59,
gT (ji (st:=tq) l59 c59 k59),
ji (st:=gc) l60 c60 k60,
W.mg_of X G a60,
gT (ji (st:=gc) l60 c60 k60),
ji (st:=w4) l61 c61 k61,
W.mg_of X G a61,
KY (ji (st:=w4) l61 c61 k61),
ji (st:=tu) l62 c62 k62,
W.mg_of X G a62,
eS (ji (st:=tu) l62 c62 k62),
⟨_,W.mg_of X G hgc0⟩,
⟨_,W.mg_of X G hgc1⟩,
⟨_,W.mg_of X G hgc2⟩,
⟨_,W.mg_of X G hgc3⟩,
⟨_,W.mg_of X G hgc4⟩,
⟨_,W.mg_of X G hgc5⟩,
⟨_,W.mg_of X G hgc6⟩,
⟨_,W.mg_of X G hgc7⟩,
⟨_,W.mg_of X G hgc8⟩,
W.mg_of X G cm0,
⟨cg0,ch0,co0,cs0⟩,
cn0_0,
cn0_1,
cn0_2,
cn0_3,
cn0_4,
cn0_5,
cn0_6,
W.mg_of X G cm1,
⟨cg1,ch1,co1,cs1⟩,
cn1_0,
cn1_1,
W.mg_of X G cm2,
⟨cg2,ch2,co2,cs2⟩,
cn2_0,
cn2_1,
cn2_2,
cn2_3,
cn2_4,
cn2_5,
cn2_6,
cn2_7,
W.mg_of X G cm3,
⟨cg3,ch3,co3,cs3⟩,
cn3_0,
cn3_1,
cn3_2,
⟨ih0,n21,k21⟩,
⟨ih1,n20,k20⟩,
⟨ih2,n22,k22⟩,
⟨yp0,yr0,yf0,k19⟩,
W.mg_of X G xm0,
W.mg_of X G xm1,
W.mg_of X G xm2,
W.mg_of X G xm3,
W.mg_of X G xm4,
W.mg_of X G xm5,
W.mg_of X G xm6,
W.mg_of X G xm7,
W.mg_of X G xm8,
W.mg_of X G xm9,
W.mg_of X G xm10,
W.mg_of X G xm11,
⟨xg0,xh0,xj0,xp0,xo0,xs0⟩,
xk0,
xc0_0,
xr1,
⟨xg1,xh1,xj1,xp1,xo1,xs1⟩,
xk1,
xc1_0,
xr2,
⟨xg2,xh2,xj2,xp2,xo2,xs2⟩,
xk2,
xc2_0,
xb0,
W.mg_none_of X G z0,
W.mg_none_of X G z1,
W.mg_none_of X G z2,
W.mg_none_of X G z3,
W.mg_none_of X G z4,
W.mg_none_of X G z5,
W.mg_none_of X G z6,
W.mg_none_of X G z7,
W.mg_none_of X G z8,
W.mg_none_of X G z9,
W.mg_none_of X G z10,
W.mg_none_of X G z11⟩
 have e:=hfa.symm.trans T.Xp
 cases e
 exact ⟨_,λs v=>.of_eq rfl,λbase _ _=>j49 T⟩
end M
namespace PySem.W.Fast
theorem t:True:=⟨⟩
noncomputable def tw7714637921404657004:=t
noncomputable def tw16450779297740826245:=t
noncomputable def tw2727918998399533019:=t
noncomputable def tw14274839080799647135:=t
noncomputable def tw11179579076025238679:=t
noncomputable def tw2112865931032148098:=t
noncomputable def tw1535321657941208487:=t
noncomputable def tw7608749789443822080:=t
noncomputable def tw12550983726585187716:=t
noncomputable def tw4075151299465231807:=t
noncomputable def tw8937672313415624732:=t
noncomputable def tw10791842453875305272:=t
noncomputable def tw16101872485700088302:=t
noncomputable def tw4161735174845790396:=t
noncomputable def tw8930015748756616724:=t
noncomputable def tw17642814574902641557:=t
noncomputable def tw8613517933364972486:=t
noncomputable def tw8852198208058734031:=t
noncomputable def tw3795611229862465901:=t
noncomputable def tw11288811338344229793:=t
noncomputable def tw4102830678438273468:=t
noncomputable def tw8371177988473432350:=t
noncomputable def tw15629170075858593675:=t
noncomputable def tw5164555724587966059:=t
noncomputable def tw13835035478583445926:=t
noncomputable def tw16023105730910270445:=t
noncomputable def tw7339248083994790803:=t
noncomputable def tw14535764283946703511:=t
noncomputable def tw11989229981970158720:=t
noncomputable def tw1541148708097712405:=t
noncomputable def tw452701243790191281:=t
noncomputable def tw673301638440330593:=t
noncomputable def tw1035481926188471526:=t
noncomputable def tw1014703314339629755:=t
noncomputable def tw13978165154340062583:=t
noncomputable def tw14485023462072254800:=t
noncomputable def tw9529968439879768000:=t
noncomputable def tw3014425271020360116:=t
noncomputable def tw18368276022846221549:=t
noncomputable def tw9954197623125489640:=t
noncomputable def tw8520829493622933488:=t
noncomputable def tw6109841003503359066:=t
noncomputable def tw12739467325720467876:=t
noncomputable def tw13189461539689039289:=t
noncomputable def tw9736357287406801476:=t
noncomputable def tw16876956125755955091:=t
noncomputable def tw17424760021967517879:=t
noncomputable def tw6107207430936892563:=t
noncomputable def tw2621310584326048602:=t
noncomputable def tw18188667162614574681:=t
noncomputable def tw5942416759612209238:=t
noncomputable def tw4295660454575358159:=t
noncomputable def tw1285299536738681156:=t
noncomputable def tw252507075722470544:=t
noncomputable def tw8410853347289194746:=t
noncomputable def tw17549530307303580559:=t
noncomputable def tw16587181127334062177:=t
noncomputable def tw6404279597122873624:=t
noncomputable def tw13631753647111970634:=t
noncomputable def tw8774205013794316099:=t
noncomputable def tw3943851243007105402:=t
noncomputable def tw5839617729311531633:=t
noncomputable def tw947027021204823446:=t
noncomputable def tw15644695638149360917:=t
noncomputable def tw7049574434121835026:=t
noncomputable def tw18038069472829519447:=t
noncomputable def tw12839244641335616647:=t
noncomputable def tw12179670092366938282:=t
noncomputable def tw7825198790463200854:=t
noncomputable def tw18026498168167393411:=t
noncomputable def tw4579838027787376409:=t
noncomputable def tw3779748716993565275:=t
noncomputable def tw14315037341138765038:=t
noncomputable def tw18256366541179106391:=t
noncomputable def tw6155545580026985751:=t
noncomputable def tw13028728110156896280:=t
noncomputable def tw16521819899992028584:=t
noncomputable def tw18127771432851084042:=t
noncomputable def tw4223339614293673930:=t
noncomputable def tw2463146516411500806:=t
noncomputable def tw17078092876742672105:=t
noncomputable def tw1118176886773505508:=t
noncomputable def tw13586508851984501230:=t
noncomputable def tw11086188879257651952:=t
noncomputable def tw16406566740290387778:=t
noncomputable def tw2209421739736671497:=t
noncomputable def tw16489615336966403065:=t
noncomputable def tw12519071301337044640:=t
noncomputable def tw6816857376423160647:=t
noncomputable def tw14922648606590582830:=t
noncomputable def tw5044987436942591473:=t
noncomputable def tw5000862699251873349:=t
noncomputable def tw12307922480861928984:=t
noncomputable def tw14937996779785599512:=t
noncomputable def tw18256485416833252437:=t
noncomputable def tw6872496671373344882:=t
noncomputable def tw9410911231148264225:=t
noncomputable def tw5749745622605268252:=t
noncomputable def tw12597932935096359374:=t
noncomputable def tw13141030294996472314:=t
noncomputable def tw694163055492927948:=t
noncomputable def tw12294436292861996053:=t
noncomputable def tw4138479021789659415:=t
noncomputable def tw1936829287474417443:=t
noncomputable def tw8252602079161066197:=t
noncomputable def tw1669373091740578111:=t
noncomputable def tw16193990176430388778:=t
noncomputable def tw9878877655400633016:=t
noncomputable def tw7767366210531991027:=t
noncomputable def tw14098131064659874270:=t
noncomputable def tw5831401846725866960:=t
noncomputable def tw7821404045480481783:=t
noncomputable def tw17707723579106619859:=t
noncomputable def tw8457880628408046387:=t
noncomputable def tw7163363747249656218:=t
noncomputable def tw2277686228537428569:=t
noncomputable def tw4260073294047885837:=t
noncomputable def tw129557022193227666:=t
noncomputable def tw829477153923860959:=t
noncomputable def tw9162731519023017580:=t
noncomputable def tw4040496546277538053:=t
noncomputable def tw11333514339437370416:=t
noncomputable def tw17665776781203656205:=t
noncomputable def tw8488507497837403948:=t
noncomputable def tw10769159130796980910:=t
noncomputable def tw9149159499278465705:=t
noncomputable def tw12256589394585117134:=t
noncomputable def tw14293841636056038098:=t
noncomputable def tw8794077109495004455:=t
noncomputable def tw3809794136828769440:=t
noncomputable def tw16949402883530424090:=t
noncomputable def tw16267619914854134759:=t
noncomputable def tw4045038866710185170:=t
noncomputable def tw6808950045578584684:=t
noncomputable def tw8649876318375702585:=t
noncomputable def tw246267477680489350:=t
noncomputable def tw8775017419871158423:=t
noncomputable def tw17992553433454602483:=t
noncomputable def tw12745944573998752265:=t
noncomputable def tw59072131675368247:=t
noncomputable def tw5840143732118239401:=t
noncomputable def tw989518985744569072:=t
noncomputable def tw14308126385376575523:=t
noncomputable def tw6845702690869389917:=t
noncomputable def tw14781168987424825088:=t
noncomputable def tw11480654510319015101:=t
noncomputable def tw8581114662909002628:=t
noncomputable def tw11202092783988302004:=t
noncomputable def tw6115668459794544301:=t
noncomputable def tw17292224862464781734:=t
noncomputable def tw5129623232350737536:=t
noncomputable def tw13758536814997361851:=t
noncomputable def tw7076841602024631045:=t
noncomputable def tw2533563671643256820:=t
noncomputable def tw2307043702525867257:=t
noncomputable def tw5911218108244446342:=t
noncomputable def tw14380044396659515097:=t
noncomputable def tw11075269767136359831:=t
noncomputable def tw9039657420213891694:=t
noncomputable def tw2965323684051320244:=t
noncomputable def tw14438679834555631317:=t
noncomputable def tw17969549781991347558:=t
noncomputable def tw9650230857241061159:=t
noncomputable def tw11301340367436748748:=t
noncomputable def tw6670579107106388355:=t
noncomputable def tw6749763052520835647:=t
noncomputable def tw3613727408733696414:=t
noncomputable def tw14015687665372806670:=t
noncomputable def tw1587794338210084017:=t
noncomputable def tw5495632092290509641:=t
noncomputable def tw4650948022809380819:=t
noncomputable def tw17236919982667340272:=t
noncomputable def tw17617002619615810426:=t
noncomputable def tw10247132975347279292:=t
noncomputable def tw2731456703493829285:=t
noncomputable def tw1272024573596674259:=t
noncomputable def tw2648253838589659252:=t
noncomputable def tw1976801207878465900:=t
noncomputable def tw5630722357616293804:=t
noncomputable def tw16012420234400479988:=t
noncomputable def tw14224500076383789384:=t
noncomputable def tw15130392927920219735:=t
noncomputable def tw16885801522948320838:=t
noncomputable def tw11951161097782408473:=t
noncomputable def tw6676281766132036196:=t
noncomputable def tw8857612852988670736:=t
noncomputable def tw10728993538132748221:=t
noncomputable def tw17558220307569593489:=t
noncomputable def tw7250213617516552367:=t
noncomputable def tw11655011695056268437:=t
noncomputable def tw3176194965298392763:=t
noncomputable def tw13999912190283289584:=t
noncomputable def tw16079155799261388766:=t
noncomputable def tw16984836574665222649:=t
noncomputable def tw18385353207320041852:=t
noncomputable def tw18315228036508975670:=t
noncomputable def tw14666517971492382716:=t
noncomputable def tw9233015400757164510:=t
noncomputable def tw12673153510395811844:=t
noncomputable def tw14391171921471930770:=t
noncomputable def tw17599930636735760503:=t
noncomputable def tw17767248673051135212:=t
noncomputable def tw4344740282386588179:=t
noncomputable def tw12183924376391121349:=t
noncomputable def tw4835670938919641483:=t
noncomputable def tw14735263510926524020:=t
noncomputable def tw13790795925342138470:=t
noncomputable def tw3144967106105721468:=t
noncomputable def tw9316810690380800900:=t
noncomputable def tw1805056411942442565:=t
noncomputable def tw13164100582795851254:=t
noncomputable def tw14332794983107785170:=t
noncomputable def tw9586739722461794851:=t
noncomputable def tw14059569684509917083:=t
noncomputable def tw15694641620348052181:=t
noncomputable def tw15041134702237562289:=t
noncomputable def tw11351725304184122056:=t
noncomputable def tw16214664583314534400:=t
noncomputable def tw12763160076364613253:=t
noncomputable def tw1227182425660994236:=t
noncomputable def tw5169780616621549042:=t
noncomputable def tw13941887286111703733:=t
noncomputable def tw6851168821725280503:=t
noncomputable def tw4455669635957913403:=t
noncomputable def tw799609501025282976:=t
noncomputable def tw6347570338319482441:=t
noncomputable def tw17224516883186798068:=t
noncomputable def tw9005744279721171514:=t
noncomputable def tw7489166115435405302:=t
noncomputable def tw4705517582702621480:=t
noncomputable def tw2029499668191554250:=t
noncomputable def tw9988190561504205845:=t
noncomputable def tw17921178187139000924:=t
noncomputable def tw4584665104584564297:=t
noncomputable def tw16195486304104248708:=t
noncomputable def tw6515059796671625225:=t
noncomputable def tw12775834581266086964:=t
noncomputable def tw8401005996879486406:=t
noncomputable def tw11365411085529844473:=t
noncomputable def tw18430370191756817477:=t
noncomputable def tw12928369282688787222:=t
noncomputable def tw6432340070497137184:=t
noncomputable def tw3722489907493228213:=t
noncomputable def tw6862227979746783233:=t
noncomputable def tw15291849127146936648:=t
noncomputable def tw15761928977073204171:=t
noncomputable def tw7916348976388840813:=t
noncomputable def tw11432967723593127599:=t
noncomputable def tw4534767071142364091:=t
noncomputable def tw5620677907436834202:=t
noncomputable def tw9603882337226468450:=t
noncomputable def tw17722776579996826625:=t
noncomputable def tw11945567559312833741:=t
noncomputable def tw1867426506190475120:=t
noncomputable def tw16167410612079434241:=t
noncomputable def tw10936169724909606977:=t
noncomputable def tw2565565847727613069:=t
noncomputable def tw7230658294607822770:=t
noncomputable def tw4485220673638711886:=t
noncomputable def tw10691537243909304293:=t
noncomputable def tw10337429351549347073:=t
noncomputable def tw10247628199840590058:=t
noncomputable def tw8160223258324047017:=t
noncomputable def tw4832625097266217804:=t
noncomputable def tw11996363812547459801:=t
noncomputable def tw3720926242562291294:=t
noncomputable def tw9245233779442084802:=t
noncomputable def tw10383777058170953956:=t
noncomputable def tw8933238937972466335:=t
noncomputable def tw17234052545534344438:=t
noncomputable def tw6530502542054387592:=t
noncomputable def tw15437281443623835237:=t
noncomputable def tw16025097389629113390:=t
noncomputable def tw15910656881119029183:=t
noncomputable def tw2047498498837767238:=t
noncomputable def tw1640590860392953680:=t
noncomputable def tw562950743024486462:=t
noncomputable def tw4036351952689593282:=t
noncomputable def tw5403514985258274154:=t
noncomputable def tw13800156898848685398:=t
noncomputable def tw17959057558894759953:=t
noncomputable def tw13496585650581501541:=t
noncomputable def tw18194500872161790621:=t
noncomputable def tw7659081070108539203:=t
noncomputable def tw6429339887890743684:=t
noncomputable def tw16131828678571601659:=t
noncomputable def tw16894385657969594919:=t
noncomputable def tw7909678167838699277:=t
noncomputable def tw4140935754119275798:=t
noncomputable def tw15947851940023356169:=t
noncomputable def tw7953364947154158486:=t
noncomputable def tw12304950628731013851:=t
noncomputable def tw15328326911204832534:=t
noncomputable def tw14732241961452626659:=t
noncomputable def tw14069946613888702890:=t
noncomputable def tw15984969068989083537:=t
noncomputable def tw15564447246228090310:=t
noncomputable def tw5977727681410311731:=t
noncomputable def tw2526046254915609063:=t
noncomputable def tw15460149188906101738:=t
noncomputable def tw1119125332061817500:=t
noncomputable def tw5651696445931740349:=t
noncomputable def tw12345727758883607023:=t
noncomputable def tw13487318035985641813:=t
noncomputable def tw16862060914634843420:=t
noncomputable def tw13703634090649093002:=t
noncomputable def tw6566200211216228952:=t
noncomputable def tw4594938890027702298:=t
noncomputable def tw4756040313841350052:=t
noncomputable def tw519450532604811844:=t
noncomputable def tw5830036527137913622:=t
noncomputable def tw14228965020790063589:=t
noncomputable def tw10899919809698810840:=t
noncomputable def tw4858170703723327282:=t
noncomputable def tw12235628172977732455:=t
noncomputable def tw18431066648139909000:=t
noncomputable def tw401483950994417607:=t
noncomputable def tw12077743346115575889:=t
noncomputable def tw13556570681336159798:=t
noncomputable def tw9187311682635786723:=t
noncomputable def tw13413726738398382088:=t
noncomputable def tw15532538172737926571:=t
noncomputable def tw11117316583405128567:=t
noncomputable def tw13728591445879385240:=t
noncomputable def tw2965198613357087344:=t
noncomputable def tw10570562567335575387:=t
noncomputable def tw13489003220405308082:=t
noncomputable def tw14514606682198803961:=t
noncomputable def tw13304073489237051738:=t
noncomputable def tw106487174261213689:=t
noncomputable def tw9100892867308690456:=t
noncomputable def tw10051755907859693034:=t
noncomputable def tw4528531516816900094:=t
noncomputable def tw7235749244536247606:=t
noncomputable def tw18316375619969760540:=t
noncomputable def tw12190054691738012788:=t
noncomputable def tw8352668882319868688:=t
noncomputable def tw16350988920248949343:=t
noncomputable def tw17212718032380097647:=t
noncomputable def tw284974457453319942:=t
noncomputable def tw1486888459797574106:=t
noncomputable def tw6808893366751363460:=t
noncomputable def tw16578250520886794346:=t
noncomputable def tw12430144629893767250:=t
noncomputable def tw9409505343173553549:=t
noncomputable def tw11667199400700960759:=t
noncomputable def tw4705404060435383495:=t
noncomputable def tw7582552142662424198:=t
noncomputable def tw15695434457022056081:=t
noncomputable def tw7598329383172639747:=t
noncomputable def tw13560837559555771638:=t
noncomputable def tw13877263638807453383:=t
noncomputable def tw18025732437192368604:=t
noncomputable def tw18143351868858765233:=t
noncomputable def tw13121442071763900642:=t
noncomputable def tw4143150795793934622:=t
noncomputable def tw16726094786350122149:=t
noncomputable def tw8939299959181480534:=t
noncomputable def tw4005781443045386952:=t
noncomputable def tw4021528250369991957:=t
noncomputable def tw3598435148017952234:=t
noncomputable def tw12786232068401194615:=t
noncomputable def tw9338974100006069428:=t
noncomputable def tw11574147630968771003:=t
noncomputable def tw409173880474035549:=t
noncomputable def tw3925322057610846042:=t
noncomputable def tw1265468182746733966:=t
noncomputable def tw11760845105460791753:=t
noncomputable def tw4877878183376697762:=t
noncomputable def tw4217675305278531231:=t
noncomputable def tw8214222205830666462:=t
noncomputable def tw1977505451249990450:=t
noncomputable def tw16632618536728685598:=t
noncomputable def tw11812030605059051139:=t
noncomputable def tw7779787031003168135:=t
noncomputable def tw1587265962825462386:=t
noncomputable def tw6252119787477523758:=t
noncomputable def tw4242478459206310674:=t
noncomputable def tw4051916854006160240:=t
noncomputable def tw1600612046787990303:=t
noncomputable def tw17035425564265474001:=t
noncomputable def tw5144544922969099312:=t
noncomputable def tw11948003866789049722:=t
noncomputable def tw5022481377503668241:=t
noncomputable def tw7023792987317438755:=t
noncomputable def tw676932515311304254:=t
noncomputable def tw15039414683296288096:=t
noncomputable def tw4430609000510961033:=t
noncomputable def tw12395219212135516475:=t
noncomputable def tw2678211705683734883:=t
noncomputable def tw3048430192698499314:=t
noncomputable def tw15257389140161365425:=t
noncomputable def tw3860894278164893329:=t
noncomputable def tw16593631095370429014:=t
noncomputable def tw2736926988634377025:=t
noncomputable def tw10900470532689102317:=t
noncomputable def tw17450991127126866831:=t
noncomputable def tw15630539540901555753:=t
noncomputable def tw14112457115229702034:=t
noncomputable def tw18391309728211075030:=t
noncomputable def tw17729514177066901092:=t
noncomputable def tw17446905661970677203:=t
noncomputable def tw6349469476651723815:=t
noncomputable def tw14202228440703144771:=t
noncomputable def tw8902072607602754826:=t
noncomputable def tw4956221362054027941:=t
noncomputable def tw3531338996322399775:=t
noncomputable def tw10990931624238387358:=t
noncomputable def tw7521708487113037233:=t
noncomputable def tw9684218602062727017:=t
noncomputable def tw4161472870466944703:=t
noncomputable def tw9212967222212904861:=t
noncomputable def tw228980201647344548:=t
noncomputable def tw9239376483508096915:=t
noncomputable def tw12329221378057646691:=t
noncomputable def tw8092576000941805689:=t
noncomputable def tw8672846915648927623:=t
noncomputable def tw10834155598690674392:=t
noncomputable def tw598924769037548068:=t
noncomputable def tw240511874177347044:=t
noncomputable def tw15658913588808304104:=t
noncomputable def tw17468728703550914341:=t
noncomputable def tw15881444999732193564:=t
noncomputable def tw2122669361333614789:=t
noncomputable def tw1116787889095865424:=t
noncomputable def tw15780172682998389586:=t
noncomputable def tw1381473897469464344:=t
noncomputable def tw13790606478552985004:=t
noncomputable def tw17591049225266507670:=t
noncomputable def tw998351738841288283:=t
noncomputable def tw8439430597225471327:=t
noncomputable def tw11347981989828543560:=t
noncomputable def tw6256647962360067205:=t
noncomputable def tw8807315494272128223:=t
noncomputable def tw9295410821008196765:=t
noncomputable def tw11451685645269245778:=t
noncomputable def tw12214189577752323638:=t
noncomputable def tw9422022122163349087:=t
noncomputable def tw9443036116955533220:=t
noncomputable def tw18391953150961351919:=t
noncomputable def tw1333748802583692615:=t
noncomputable def tw162474809084679619:=t
noncomputable def tw7724777408923541996:=t
noncomputable def tw6937017103045060961:=t
noncomputable def tw7768314350528198503:=t
noncomputable def tw8083895053758568290:=t
noncomputable def tw2253087615868421133:=t
noncomputable def tw12590560170612204062:=t
noncomputable def tw15366263547525053296:=t
noncomputable def tw6904222750584330733:=t
noncomputable def tw1994539705309671205:=t
noncomputable def tw7149375019768465309:=t
noncomputable def tw10941078322597845585:=t
noncomputable def tw2836661523012915784:=t
noncomputable def tw18283835423466897143:=t
noncomputable def tw13787635345458436710:=t
noncomputable def tw2855748882702793581:=t
noncomputable def tw14485607891149079836:=t
noncomputable def tw6584932944078726406:=t
noncomputable def tw15300617764134484870:=t
noncomputable def tw11453594827403499803:=t
noncomputable def tw14106154908984545426:=t
noncomputable def tw12004669048949428837:=t
noncomputable def tw6195765310596372956:=t
noncomputable def tw4175130334207973491:=t
noncomputable def tw2616591926240410113:=t
noncomputable def tw2769070508301222330:=t
noncomputable def tw17159977556514743545:=t
noncomputable def tw14662281673434738216:=t
noncomputable def tw440521007084378800:=t
noncomputable def tw13334885435011759456:=t
noncomputable def tw13648451445213568320:=t
noncomputable def tw6624373406662352672:=t
noncomputable def tw18343449621555588381:=t
noncomputable def tw12417324058472241229:=t
noncomputable def tw12740568716144563674:=t
noncomputable def tw17902963567672136256:=t
noncomputable def tw522407942127404484:=t
noncomputable def tw14395706883435099106:=t
noncomputable def tw14075885909820886681:=t
noncomputable def tw15702515175120594279:=t
noncomputable def tw8132034056602518590:=t
noncomputable def tw1075418516815390640:=t
noncomputable def tw6549815051515050350:=t
noncomputable def tw9607037722301972753:=t
noncomputable def tw7369983377838711720:=t
noncomputable def tw14655710820281565309:=t
noncomputable def tw14067877606059988584:=t
noncomputable def tw488077942921569282:=t
noncomputable def tw13035487850642413513:=t
noncomputable def tw8273909621564758669:=t
noncomputable def tw6363898966201002023:=t
noncomputable def tw5730504048421729685:=t
noncomputable def tw13501350974177044068:=t
noncomputable def tw6373231211650479504:=t
noncomputable def tw17840725048803888232:=t
noncomputable def tw15147618165498469369:=t
noncomputable def tw13419926057146553705:=t
noncomputable def tw11207199810128459664:=t
noncomputable def tw17742183814844029681:=t
noncomputable def tw3304455425371827135:=t
noncomputable def tw14786563514062262492:=t
noncomputable def tw10652913236416813444:=t
noncomputable def tw1101048800080252545:=t
noncomputable def tw8375675800897969563:=t
noncomputable def tw9897696022808296589:=t
noncomputable def tw3973515610339665952:=t
noncomputable def tw2248795722833509075:=t
noncomputable def tw6908136091980625578:=t
noncomputable def tw10609750825380177236:=t
noncomputable def tw10246023854930856861:=t
noncomputable def tw6628821070936133630:=t
noncomputable def tw14574237763508127039:=t
noncomputable def tw13718845887220277740:=t
noncomputable def tw8930925355320006057:=t
noncomputable def tw9043153617704703115:=t
noncomputable def tw16291354234903174904:=t
noncomputable def tw3811050506536714466:=t
noncomputable def tw3086536981854123966:=t
noncomputable def tw2969624892384890103:=t
noncomputable def tw12721669926265516385:=t
noncomputable def tw10275466445274344883:=t
noncomputable def tw11899432040625382803:=t
noncomputable def tw15222398818959238426:=t
noncomputable def tw47359899662518777:=t
noncomputable def tw1693242658753320544:=t
noncomputable def tw50760661559172701:=t
noncomputable def tw12739604706552475735:=t
noncomputable def tw11900762155067221106:=t
noncomputable def tw14677628634285677434:=t
noncomputable def tw13859301122467120035:=t
noncomputable def tw2625941358589822005:=t
noncomputable def tw4906719614345698709:=t
noncomputable def tw6752808954214427448:=t
noncomputable def tw14719476328915269576:=t
noncomputable def tw17591163555964917342:=t
noncomputable def tw14229847410276273575:=t
noncomputable def tw10499840002208776732:=t
noncomputable def tw17734925214730066259:=t
noncomputable def tw1926846697863822222:=t
noncomputable def tw12939951753008640892:=t
noncomputable def tw6900674522908573303:=t
noncomputable def tw10351115357844813749:=t
noncomputable def tw8724730975339164805:=t
noncomputable def tw4201408839664276175:=t
noncomputable def tw12831322181279468823:=t
noncomputable def tw6035405524801960307:=t
noncomputable def tw6361802813398178990:=t
noncomputable def tw9558713392264361185:=t
noncomputable def tw14041457500744824320:=t
noncomputable def tw18418940116154179640:=t
noncomputable def tw16246408352759564080:=t
noncomputable def tw3060805932041252126:=t
noncomputable def tw203893440781564572:=t
noncomputable def tw4183346087362416240:=t
noncomputable def tw11066907313809436996:=t
noncomputable def tw10785859330502495969:=t
noncomputable def tw11561425789655197567:=t
noncomputable def tw4881664956970282736:=t
noncomputable def tw3068292890299944816:=t
noncomputable def tw17230764575193875726:=t
noncomputable def tw14938804104671775047:=t
noncomputable def tw1857928849634946959:=t
noncomputable def tw9103905871005556825:=t
noncomputable def tw8834431210882625291:=t
noncomputable def tw16262306496748555758:=t
noncomputable def tw15188450442948894224:=t
noncomputable def tw2878564442408476849:=t
noncomputable def tw10982871720704094048:=t
noncomputable def tw7790319636756609634:=t
noncomputable def tw12983220434741328799:=t
noncomputable def tw10450434640743264525:=t
noncomputable def tw1542827514348977001:=t
noncomputable def tw3506564162533350800:=t
noncomputable def tw16255217297153310997:=t
noncomputable def tw175910538155507787:=t
noncomputable def tw10364912044056887133:=t
noncomputable def tw15412878088703531324:=t
noncomputable def tw4783963871573518142:=t
noncomputable def tw14826606092748877183:=t
noncomputable def tw17776148014480256203:=t
noncomputable def tw15274870778130589886:=t
noncomputable def tw9971815997457737867:=t
noncomputable def tw10707507599956062199:=t
noncomputable def tw16388302215551253554:=t
noncomputable def tw4019479899488979575:=t
noncomputable def tw504895941323558670:=t
noncomputable def tw11723422428983509109:=t
noncomputable def tw14084347327208111341:=t
noncomputable def tw15292992629232201313:=t
noncomputable def tw1039760660480395448:=t
noncomputable def tw15664328319337160067:=t
noncomputable def tw2355199972225355203:=t
noncomputable def tw11156726588070048863:=t
noncomputable def tw13673940398748502119:=t
noncomputable def tw11530676887493352633:=t
noncomputable def tw8015820884782610341:=t
noncomputable def tw8148458753223050471:=t
noncomputable def tw12367346759509227922:=t
noncomputable def tw6301634233902047694:=t
noncomputable def tw6632760625798925416:=t
noncomputable def tw12166879392127867888:=t
noncomputable def tw14666669777729465080:=t
noncomputable def tw15598197556659393930:=t
noncomputable def tw15412520501611728314:=t
noncomputable def tw7957946750080071619:=t
noncomputable def tw5654797660550580242:=t
noncomputable def tw2355261267338379200:=t
noncomputable def tw13816459406309926785:=t
noncomputable def tw8530202699691828618:=t
noncomputable def tw16086351169824052367:=t
noncomputable def tw14566804600220125401:=t
noncomputable def tw4072290321934755972:=t
noncomputable def tw4617928763480968664:=t
noncomputable def tw2001540670255706969:=t
noncomputable def tw16795554409141830642:=t
noncomputable def tw15891989131774268194:=t
noncomputable def tw1220374052919260833:=t
noncomputable def tw5681696240097913845:=t
noncomputable def tw12620413258595687575:=t
noncomputable def tw15152517523961147314:=t
noncomputable def tw10605156573289247298:=t
noncomputable def tw2488170063867420341:=t
noncomputable def tw16890673801771299109:=t
noncomputable def tw4067759349385002736:=t
noncomputable def tw15093068639307916355:=t
noncomputable def tw8056571719036401911:=t
noncomputable def tw13485436889543377340:=t
noncomputable def tw10226472855989103760:=t
noncomputable def tw8937934722767235257:=t
noncomputable def tw12942531940329373321:=t
noncomputable def tw5338383977765532592:=t
noncomputable def tw14059938058765644476:=t
noncomputable def tw6649592780262663781:=t
noncomputable def tw535855091290773008:=t
noncomputable def tw8954707157131500020:=t
noncomputable def tw16131216935349854313:=t
noncomputable def tw17529352812951350871:=t
noncomputable def tw13643511096371201531:=t
noncomputable def tw10709231208124663481:=t
noncomputable def tw17144821090885604894:=t
noncomputable def tw15855649022365467830:=t
noncomputable def tw5423302120940289661:=t
noncomputable def tw665551945651390922:=t
noncomputable def tw9691812781787155088:=t
noncomputable def tw4011059628815630778:=t
noncomputable def tw7287329203737529871:=t
noncomputable def tw14033879737814351019:=t
noncomputable def tw14182767578607274350:=t
noncomputable def tw14052724023516103689:=t
noncomputable def tw4313144816723920281:=t
noncomputable def tw12337122128782789991:=t
noncomputable def tw13451099450873365082:=t
noncomputable def tw3214425070462121791:=t
noncomputable def tw9442200531807755493:=t
noncomputable def tw8345890287972162904:=t
noncomputable def tw13394415685406504030:=t
noncomputable def tw9068697536963302284:=t
noncomputable def tw16177281928507449990:=t
noncomputable def tw1585929955205039342:=t
noncomputable def tw17304100125353148986:=t
noncomputable def tw837942360558771337:=t
noncomputable def tw2613852684150234373:=t
noncomputable def tw4993602583556384378:=t
noncomputable def tw569742765539514456:=t
noncomputable def tw9290010491863721988:=t
noncomputable def tw9318657733201826189:=t
noncomputable def tw5542557550491607009:=t
noncomputable def tw15417719535906215494:=t
noncomputable def tw5485882862111876232:=t
noncomputable def tw16807601543522758527:=t
noncomputable def tw1124934632359599724:=t
noncomputable def tw14452516982689472176:=t
noncomputable def tw5623542797830292617:=t
noncomputable def tw17357213955032248887:=t
noncomputable def tw16681922312777817411:=t
noncomputable def tw17481550132774480064:=t
noncomputable def tw8180899315580299163:=t
noncomputable def tw14405373110865373503:=t
noncomputable def tw18016560070647724685:=t
noncomputable def tw13474769804892786687:=t
noncomputable def tw1807057537957074319:=t
noncomputable def tw11486658506118503312:=t
noncomputable def tw2846350725135440924:=t
noncomputable def tw16124214626787098753:=t
noncomputable def tw5141459821267840017:=t
noncomputable def tw13728743717474278611:=t
noncomputable def tw4759262163242412697:=t
noncomputable def tw7583826855514012997:=t
noncomputable def tw9089290936255501024:=t
noncomputable def tw7061115318435259158:=t
noncomputable def tw12311010451252443845:=t
noncomputable def tw11591796936276595824:=t
noncomputable def tw5866202520403425383:=t
noncomputable def tw9772515080766454261:=t
noncomputable def tw16783551678782892558:=t
noncomputable def tw17885168383535981510:=t
noncomputable def tw1176506001811862105:=t
noncomputable def tw11038168557585951070:=t
noncomputable def tw4913484665714276205:=t
noncomputable def tw1460940025512067721:=t
noncomputable def tw12653418208447248703:=t
noncomputable def tw629927873868435627:=t
noncomputable def tw1186491917309939699:=t
noncomputable def tw3248271945135451289:=t
noncomputable def tw1044709239739576906:=t
noncomputable def tw2396471443268605021:=t
noncomputable def tw6550631171468775926:=t
noncomputable def tw2627371589856248174:=t
noncomputable def tw4190640892984560879:=t
noncomputable def tw4716278464228516919:=t
noncomputable def tw14387764799135366575:=t
noncomputable def tw8211329529195589531:=t
noncomputable def tw17054924717491502944:=t
noncomputable def tw5336306189223510856:=t
noncomputable def tw14369850095519007790:=t
noncomputable def tw16532915987679271155:=t
noncomputable def tw2463101492074794085:=t
noncomputable def tw12157611190370043453:=t
noncomputable def tw11348345907615130311:=t
noncomputable def tw17190965366769156730:=t
noncomputable def tw8669243022294250896:=t
noncomputable def tw5856743318014024096:=t
noncomputable def tw14788301685834639859:=t
noncomputable def tw2458408615879107279:=t
noncomputable def tw1215590864349242174:=t
noncomputable def tw17831160036208692730:=t
noncomputable def tw15028808241688526136:=t
noncomputable def tw8530032351355346369:=t
noncomputable def tw2636770029348813127:=t
noncomputable def tw231785168351847179:=t
noncomputable def tw11428180164220941827:=t
noncomputable def tw5844612772891926778:=t
noncomputable def tw277241890089864162:=t
noncomputable def tw13211741091781861069:=t
noncomputable def tw1921461796651483854:=t
noncomputable def tw3625779984774212817:=t
noncomputable def tw1041976212050900095:=t
noncomputable def tw1845564639903697892:=t
noncomputable def tw3956866238471585264:=t
noncomputable def tw16630596794747846850:=t
noncomputable def tw10854801131704073641:=t
noncomputable def tw1932138592996857457:=t
noncomputable def tw15224889242819300139:=t
noncomputable def tw12893917269916650974:=t
noncomputable def tw10390460234772855061:=t
noncomputable def tw814246347310339030:=t
noncomputable def tw9023035287412563906:=t
noncomputable def tw16755921623389764883:=t
noncomputable def tw3713034748595669879:=t
noncomputable def tw3831859949385460046:=t
noncomputable def tw9047534415391994554:=t
noncomputable def tw11715741231309461765:=t
noncomputable def tw12313372437146297579:=t
noncomputable def tw1237435727282144243:=t
noncomputable def tw10824443235870658199:=t
noncomputable def tw13631039878447889442:=t
noncomputable def tw5421604092782513085:=t
noncomputable def tw650351669747448167:=t
noncomputable def tw8843153479402772398:=t
noncomputable def tw6483582493200494138:=t
noncomputable def tw15022045744741133294:=t
noncomputable def tw4332472323799658852:=t
noncomputable def tw8750881726632906694:=t
noncomputable def tw3631147000919492266:=t
noncomputable def tw910591021526304903:=t
noncomputable def tw10889300309411830284:=t
noncomputable def tw9708420211485943711:=t
noncomputable def tw4849957515715712431:=t
noncomputable def tw7544076383805769946:=t
noncomputable def tw938777697732776465:=t
noncomputable def tw8383561367934115022:=t
noncomputable def tw16282365092089613634:=t
noncomputable def tw3783878438257109363:=t
noncomputable def tw8747245401352356217:=t
noncomputable def tw2686275857901701253:=t
noncomputable def tw9016663102652258618:=t
noncomputable def tw3903030789649640702:=t
noncomputable def tw16298149858507348912:=t
noncomputable def tw5559076157542825097:=t
noncomputable def tw4213255642828785019:=t
noncomputable def tw14367583585588820314:=t
noncomputable def tw734089419462327659:=t
noncomputable def tw15307324171363530351:=t
noncomputable def tw5670688114783531015:=t
noncomputable def tw12592573447117071285:=t
noncomputable def tw15291450536887720757:=t
noncomputable def tw16686170451092601295:=t
noncomputable def tw11894553632199637564:=t
noncomputable def tw285741994112488306:=t
noncomputable def tw1664481661781554280:=t
noncomputable def tw15936995799124041435:=t
noncomputable def tw9612318550580147440:=t
noncomputable def tw8049780400924931584:=t
noncomputable def tw12241377209229832676:=t
noncomputable def tw11966120995258912911:=t
noncomputable def tw11805502602034425225:=t
noncomputable def tw9269443133234396361:=t
noncomputable def tw7863500428191863627:=t
noncomputable def tw1537313684708155362:=t
noncomputable def tw7871402601389411494:=t
noncomputable def tw9017656251568234084:=t
noncomputable def tw11851294651220874700:=t
noncomputable def tw5583121194319135235:=t
noncomputable def tw12734590912176378519:=t
noncomputable def tw8765991827593715918:=t
noncomputable def tw13058255069424505358:=t
noncomputable def tw7806264612334957389:=t
noncomputable def tw16101597573858901956:=t
noncomputable def tw17727108298417792676:=t
noncomputable def tw12742345330882291359:=t
noncomputable def tw18136223597966955590:=t
noncomputable def tw4181786163615341148:=t
noncomputable def tw8299744398162509102:=t
noncomputable def tw3236325959482001973:=t
noncomputable def tw14960850716844062771:=t
noncomputable def tw16583997954492629979:=t
noncomputable def tw34625505839934333:=t
noncomputable def tw8181236411641409231:=t
noncomputable def tw18184094155707075250:=t
noncomputable def tw14847339501161457989:=t
noncomputable def tw13030074084387526364:=t
noncomputable def tw9874270172870348203:=t
noncomputable def tw495148334692980536:=t
noncomputable def tw11081804134018896053:=t
noncomputable def tw265574572949345360:=t
noncomputable def tw2880682802802183936:=t
noncomputable def tw13028879021318095067:=t
noncomputable def tw16688502483861254825:=t
noncomputable def tw13846497098394454462:=t
noncomputable def tw15910715912976672248:=t
noncomputable def tw3942221043424618817:=t
noncomputable def tw1994281007285065189:=t
noncomputable def tw15406597570334227935:=t
noncomputable def tw9389939668267889211:=t
noncomputable def tw6399423893176488571:=t
noncomputable def tw2914092811569408452:=t
noncomputable def tw16059726173512971781:=t
noncomputable def tw5764277328251685304:=t
noncomputable def tw2415673652663097605:=t
noncomputable def tw14869169405879350018:=t
noncomputable def tw9805721009937917717:=t
noncomputable def tw11755515892467944087:=t
noncomputable def tw7283609718370370542:=t
noncomputable def tw10951470938186028267:=t
noncomputable def tw10739406080410739614:=t
noncomputable def tw6153607108527746644:=t
noncomputable def tw268285071327033349:=t
noncomputable def tw10757597839109431846:=t
noncomputable def tw1090799125522105438:=t
noncomputable def tw9782106436288005410:=t
end PySem.W.Fast
open PySem PySem.W PyProof.Rows
set_option maxRecDepth 100000 in
set_option maxHeartbeats 0 in
theorem PySem.Challenge.cw_manypurses_k07_whole_letters_holds : PySem.Challenge.rw_manypurses_k07_whole_letters.Holds := by
  w_on; o_law; k_head; (case hw=>w_witness2)
  k_fill
  refine L2.jz1 (l:=PySem.Challenge.rw_manypurses_k07_whole_letters) (n:=63) (k:=12) (x := "_law_script") (CX:=L2.CX0) (sp:=M.jw3) rfl (by decide) rfl ⟨rfl,by decide,by decide⟩ (fun w h Y=>PySem.W.kIn_of Y) ?F ?S ?C
  case F=>
    intro w mg fa h KX G hmg
    refine' M.all_mk KX G hmg ..
    iterate 105 (show _ = _; k_is)
    iterate 1 (show _ = _; kernel_rfl)
    iterate 248 (show _ = _; k_is)
    iterate 3 (show _ = _; kernel_rfl)
    iterate 14 (show _ = _; k_is)
    iterate 4 (show _ = _; kernel_rfl)
    iterate 5 (show _ = _; k_is)
    iterate 4 (show _ = _; kernel_rfl)
    iterate 5 (show _ = _; k_is)
    iterate 3 (show _ = _; kernel_rfl)
    iterate 13 (show _ = _; k_is)
  case S=>exact fun K H a ns hl _ hS=>⟨a,ns,rfl,hS,hl,fun _=>rfl⟩
  case C=>exact fun _ _ _ _ z=>z
