import PyProof.Rows.All
import Wide.All
import OpenK.AllK
import Wide.FinOn
import Lean
import PyProof.EqAt
import PyProof.EqKinds
import PyProof.TupleCall
import PyProof.NeKinds
import PySem.Challenge.RW_manypurses_k09_whole_stuck
open List (mem_filter mem_range filterMap_cons mem_cons_self mem_cons_of_mem mem_cons mem_append mem_append_left getElem?_set_self getElem?_set_ne mem_filterMap mem_append_right size_toArray length_cons map_cons length_map append_nil nodup_cons length_take getElem?_map mem_of_getElem? length_append length_replicate length_drop map_nil length_set any_cons replicate_succ flatten_cons append_assoc foldl_cons find?_cons nodup_nil mem_map lookup_cons all_eq_true mem_singleton getElem?_eq_getElem count_cons map_append getD_eq_getElem?_getD take_length map_map mem_iff_getElem length_eraseIdx_le length_eq_one_iff length_range nodup_range map_set mem_map_of_mem mem_of_find?_eq_some nodup_append length_filter_le filter_append mem_of_mem_erase foldl_append length_erase_of_mem length_pos_of_mem eq_of_mem_replicate find?_some length_pos_iff)
open Nat (lt_of_lt_of_le lt_irrefl ne_of_lt le_trans le_of_lt le_refl zero_le lt_succ_self le_succ lt_of_le_of_lt le_succ_of_le)
set_option Elab.async false
set_option genSizeOf false
set_option genInjectivity false
set_option linter.all false
set_option maxRecDepth 100000
noncomputable section
theorem aP (a:True:=by rfl)(b:True:=by decide)(c:True:=by intro _;rfl)(d:True:=by decide+kernel)(e:True:=by first|exact .inl rfl|exact .inr rfl|assumption)(f:True:=by intro vs H Q E h;repeat(first|(obtain⟨rfl,_⟩:=h;rfl)|(obtain⟨_,h⟩:=h)))(g:True:=by exact True.intro)(h:True:=by exact bX):True:=a
def aP1:=aP._auto_1
def aP2:=aP._auto_2
def aP3:=aP._auto_3
def aP4:=aP._auto_4
def aP5:=aP._auto_5
def aP6:=aP._auto_6
def aP7:=aP._auto_7
def aP8:=aP._auto_8
namespace L2
open PySem PySem.Spec PyProof.Rows
abbrev Key:=Sum Int Str
def oy:Key->Value->Bool
 | .inl k,v=>Value.isInt k v
 | .inr x,v=>Value.isStrOf x v
def QQ (w:World):Key->Int
 | .inl k=>hashInt k
 | .inr x=>hashStr w x
theorem xq:∀{k:Key}{v:Value},oy k v=true->(∃i t,k=Sum.inl i/\v=Value.int i t)\/(∃x t,k=Sum.inr x/\v=Value.str x t)
 | .inl i,v,h=>by obtain⟨t,e⟩:=Value.isInt_shape (k:=i) (v:=v) h;exact .inl ⟨i,t,rfl,e⟩
 | .inr x,v,h=>by obtain⟨t,e⟩:=Value.isStrOf_shape (x:=x) (v:=v) h;exact .inr ⟨x,t,rfl,e⟩
theorem QR (i:Int)(t:Tok):oy (.inl i) (.int i t)=true:=by simp[oy,Value.isInt]
theorem QS (x:Str)(t:Tok):oy (.inr x) (.str x t)=true:=by simp[oy,Value.isStrOf]
theorem QT (a b:Int):decide ((Sum.inl a:Key)=Sum.inl b)=(a==b):=by
 by_cases e:a=b
 .subst e;simp
 .have h:¬(Sum.inl a:Key)=Sum.inl b:=λq=>e (Sum.inl.inj q);rw[decide_eq_false h];exact(beq_eq_false_iff_ne.mpr e).symm
theorem QU (a b:Str):decide ((Sum.inr a:Key)=Sum.inr b)=decide (a=b):=by
 by_cases e:a=b
 .subst e;simp
 .have h:¬(Sum.inr a:Key)=Sum.inr b:=λq=>e (Sum.inr.inj q);rw[decide_eq_false h,decide_eq_false e]
theorem QV (a:Int)(b:Str):decide ((Sum.inl a:Key)=Sum.inr b)=false:=decide_eq_false (λq=>nomatch q)
theorem QW (a:Str)(b:Int):decide ((Sum.inr a:Key)=Sum.inl b)=false:=decide_eq_false (λq=>nomatch q)
noncomputable def za (prog:Program)(w:World):PySem.KeyKind prog w Key where
 is:=oy
 hash:=QQ w
 inj:=λv a b ha hb=>by
  rcases xq ha with⟨i,t,rfl,rfl⟩|⟨x,t,rfl,rfl⟩
  .rcases xq hb with⟨j,u,rfl,e⟩|⟨y,u,rfl,e⟩
   .injection e with e1 _;rw[e1]
   .exact nomatch e
  .rcases xq hb with⟨j,u,rfl,e⟩|⟨y,u,rfl,e⟩
   .exact nomatch e
   .injection e with e1 _;rw[e1]
 byValue:=λk v h=>by rcases xq h with⟨i,t,rfl,rfl⟩|⟨x,t,rfl,rfl⟩<;>rfl
 pyHash:=λhv h=>by
  rcases xq hv with⟨i,t,rfl,rfl⟩|⟨x,t,rfl,rfl⟩
  .exact wpAny_pyHash_int h
  .exact wpAny_pyHash_str h
 eqBool:=λhu hv h=>by
  rcases xq hu with⟨i,t,rfl,rfl⟩|⟨x,t,rfl,rfl⟩
  .rcases xq hv with⟨j,u,rfl,rfl⟩|⟨y,u,rfl,rfl⟩
   .rw[QT]at h;exact wpAny_eqBool_int h
   .rw[QV]at h;exact SeqAt.EqAt.int_str i t y u _ _ _ _ h
  .rcases xq hv with⟨j,u,rfl,rfl⟩|⟨y,u,rfl,rfl⟩
   .rw[QW]at h;exact SeqAt.EqAt.str_int x t j u _ _ _ _ h
   .rw[QU]at h;exact wpAny_eqBool_str h
 «strs»:=λk x t v h=>by
  rcases xq h with⟨i,u,rfl,e⟩|⟨y,u,rfl,e⟩
  .exact nomatch e
  .injection e with e1 _;subst e1;cases v<;>rfl
theorem QX (prog:Program)(w:World)(i:Int)(t:Tok):(za prog w).is (.inl i) (.int i t)=true:=QR i t
theorem QY (prog:Program)(w:World)(x:Str)(t:Tok):(za prog w).is (.inr x) (.str x t)=true:=QS x t
set_option genInjectivity true in
inductive V where
 | aq | bl (b:Bool) | int (i:Int) | str (x:Str) | fH (b:Array UInt8) | mL (b:UInt64) | ref (a:Addr) | ty (n:String)
 deriving DecidableEq
noncomputable def RelV:V->Value->Prop
 | .aq,u=>u=Value.none
 | .bl b,u=>u=Value.bool b
 | .int i,u=>∃t,u=Value.int i t
 | .str x,u=>∃t,u=Value.str x t
 | .fH b,u=>∃t,u=Value.bytes b t
 | .mL b,u=>∃t,u=Value.float b t
 | .ref a,u=>u=Value.ref a
 | .ty n,u=>u=Value.type n
abbrev Vals:List V->List Value->Prop:=Paired RelV
theorem Vals.length {xs:List V}{us:List Value}(r:Vals xs us):xs.length=us.length:=Paired.length r
theorem Vals.get:∀{xs:List V}{us:List Value}{i:Nat}{x:V},Vals xs us->xs[i]?=some x->∃u,us[i]?=some u/\RelV x u
 |_,_,_,_,.nil,e=>by simp at e
 |_,_,0,_,.cons r _,e=>by simp at e;subst e;exact⟨_,rfl,r⟩
 |_,_,i+1,x,.cons _ t,e=>by obtain⟨u,h1,h2⟩:=Vals.get (i:=i) (x:=x) t (by simpa using e);exact⟨u,by simpa using h1,h2⟩
theorem Vals.set {x:V}{u:Value}(r:RelV x u):∀{xs:List V}{us:List Value}(i:Nat),Vals xs us->Vals (xs.set i x) (us.set i u)
 |_,_,_,.nil=>.nil
 |_,_,0,.cons _ t=>.cons r t
 |_,_,i+1,.cons q t=>.cons q (Vals.set r i t)
theorem Vals.append:∀{xs ys:List V}{us ws:List Value},Vals xs us->Vals ys ws->Vals (xs++ys) (us++ws)
 |_,_,_,_,.nil,s=>s
 |_,_,_,_,.cons r t,s=>.cons r (Vals.append t s)
theorem Vals.take:∀{xs:List V}{us:List Value}(n:Nat),Vals xs us->Vals (xs.take n) (us.take n)
 |_,_,0,_=>.nil
 |_,_,_+1,.nil=>.nil
 |_,_,n+1,.cons r t=>.cons r (Vals.take n t)
theorem Vals.drop:∀{xs:List V}{us:List Value}(n:Nat),Vals xs us->Vals (xs.drop n) (us.drop n)
 |_,_,0,r=>r
 |_,_,_+1,.nil=>.nil
 |_,_,n+1,.cons _ t=>Vals.drop n t
def eF:Option V->Option Value->Prop
 |some v,some u=>RelV v u
 |none,none=>True
 |_,_=>False
def KV {B:Type}:List (B×V)->List (B×Value)->Prop:=Paired λ(p:B×V)(q:B×Value)=>p.1=q.1/\RelV p.2 q.2
def kV:Key->V
 | .inl i=>.int i
 | .inr x=>.str x
set_option genInjectivity true in
inductive HO where
  | lst (xs:List V)
  | tup (xs:List V)
  | dK (aa:List (Key × V)) | dT (aa:List (List Key × V))
  | set (S:Int -> Bool) (n:Nat)
  | ins (C dx:Addr) (fs:List (Str × V))
  | own (x:Addr)
  | xd (fs:List (Str × V))
  | met (f x:Addr)
  | lA (lo hi:Int)
  | az (o:Obj) (u:HO)
  | mM (ps:Array Value)
  | ext (φ : Heap -> Prop)
abbrev Hp:=Addr->Option HO
def upd (H:Hp)(a:Addr)(o:HO):Hp:=λb=>if b=a then some o else H b
theorem jc {H:Hp}{a:Addr}{o:HO}:upd H a o a=some o:=by unfold upd;rw[if_pos rfl]
theorem jf {H:Hp}{a b:Addr}{o:HO}(h:b≠a):upd H a o b=H b:=by unfold upd;rw[if_neg h]
theorem Cw {H:Hp}{a:Addr}{o u:HO}:upd (upd H a o) a u=upd H a u:=by funext b;unfold upd;split<;>rfl
theorem vq {H:Hp}{a b:Addr}{o u:HO}(h:H a=some o)(h':H b=some u)(d:o≠u):a≠b:=by intro e;subst e;rw[h]at h';exact d (Option.some.inj h')
theorem jj {H:Hp}{a b:Addr}{o:HO}(h:H a=some o)(h':H b=none):a≠b:=by intro e;subst e;rw[h]at h';cases h'
section
variable (P:Program)(w:World)
noncomputable def vc (H:Hp)(h:Heap)(a:Addr):HO->Prop
 | .lst xs=>xs.length<=sizeLine/\∃(its:List Value)(n:Nat),Vals xs its/\h.get? a=some {cls:=.type "list",data:=.seq its.toArray n}
 | .tup xs=>xs.length<=sizeLine/\∃its:List Value,Vals xs its/\IsTup h a its.toArray
 | .dK aa=>aa.length<=sizeLine/\(a==sysModules)=false/\∃vs,KV aa vs/\h.DictOf (za P w) a vs
 | .dT aa=>aa.length<=sizeLine/\(a==sysModules)=false/\∃xs:List (List Key×Addr×Value),Paired (λ(p:List Key×V)(q:List Key×Addr×Value)=>p.1=q.1/\H q.2.1=some (.tup (p.1.map kV))/\RelV p.2 q.2.2) aa xs/\∃o es ep,h.get? a=some o/\o.ExactDict/\o.data= .dict es ep/\es.toList=xs.map (entryOfKey (tupleKind (za P w)))/\(xs.map (·.1)).Nodup
 | .set S n=>h.SetOf (intKind P w) a S n
 | .ins C dx fs=>H dx=some (.own a)/\fs.length<=1000/\dx≠a/\h.get? a=some (PySem.W.instObj C dx)/\∃mA,h.Ns1 dx mA/\(∀f,eF (fs.lookup f) (mA f))/\PySem.Within mA (fs.map (·.1))
 | .own _=>∃o,h.get? a=some o
 | .xd fs=>∃mA,h.Ns1 a mA/\∀f,eF (fs.lookup f) (mA f)
 | .lA lo hi=>∃t u v,h.get? a=some {cls:=.type "range",data:=.fields #[.int lo t,.int hi u,.int 1 v]}
 | .az o u=>h.get? a=some o/\vc H h a u
 | .mM ps=>h.get? a=some {cls:=.none,data:=.fields ps}
 | .met f x=>h.get? a=some (PySem.W.methodObj (.ref f) (.ref x))
 | .ext φ=>φ h/\(∃o,h.get? a=some o)/\∀h1 h2:Heap,φ h1->(∀o,h1.get? a=some o->h2.get? a=some o)->φ h2
def bJ (H:Hp)(h:Heap):Prop:=∀a o,H a=some o->vc P w H h a o
end
section
variable {P:Program}{w:World}{H H':Hp}{h h':Heap}{a:Addr}{o:HO}
theorem vc.lt (x:vc P w H h a o):a<h.objs.size:=by
 cases o with
 |lst xs=>obtain⟨_,_,_,_,e⟩:=x;exact Heap.lt_size e
 |tup xs=>obtain⟨_,_,_,p⟩:=x;exact p.lt
 |dK aa=>obtain⟨_,_,_,_,o,_,_,e,_⟩:=x;exact Heap.lt_size e
 |dT aa=>obtain⟨_,_,_,_,o,_,_,e,_⟩:=x;exact Heap.lt_size e
 |set S n=>obtain⟨o,_,_,_,e,_⟩:=x;exact Heap.lt_size e
 |ins C dx fs=>obtain⟨_,_,_,e,_⟩:=x;exact Heap.lt_size e
 |own y=>obtain⟨_,e⟩:=x;exact Heap.lt_size e
 |xd fs=>obtain⟨_,⟨_,_,_,e,_⟩,_⟩:=x;exact Heap.lt_size e
 |lA lo hi=>obtain⟨_,_,_,e⟩:=x;exact Heap.lt_size e
 |az ob u=>obtain⟨e,_⟩:=x;exact Heap.lt_size e
 |mM ps=>exact Heap.lt_size (show h.get? a=some _ from x)
 |met f y=>exact Heap.lt_size (show h.get? a=some _ from x)
 |ext φ=>obtain⟨_,⟨_,e⟩,_⟩:=x;exact Heap.lt_size e
theorem Paired.xt {α β:Type}{F G:α->β->Prop}:∀{l₁:List α}{l₂:List β},Paired F l₁ l₂->(∀a b,F a b->G a b)->Paired G l₁ l₂:=λ{l₁ l₂} q f=>by
 induction q with
 |nil=>exact .nil
 |cons r t ih=>exact .cons (f _ _ r) ih
theorem vc.cT (x:vc P w H h a o)(k:∀b u,(b=a\/H b=some (.own a))->h.get? b=some u->h'.get? b=some u)(ho:∀b,H b=some (.own a)->H' b=some (.own a))(ht:∀b xs,H b=some (.tup xs)->H' b=some (.tup xs)):vc P w H' h' a o:=by
 induction o with
 |lst xs=>obtain⟨z,its,n,r,e⟩:=x;exact⟨z,its,n,r,k _ _ (.inl rfl) e⟩
 |tup xs=>obtain⟨z,its,r,ob,e,c⟩:=x;exact⟨z,its,r,ob,k _ _ (.inl rfl) e,c⟩
 |dK aa=>obtain⟨z,y,vs,r,ob,es,ep,e,c⟩:=x;exact⟨z,y,vs,r,ob,es,ep,k _ _ (.inl rfl) e,c⟩
 |dT aa=>obtain⟨z,y,xs,r,ob,es,ep,e,c⟩:=x;exact⟨z,y,xs,Paired.xt r λp q z=>⟨z.1,ht _ _ z.2.1,z.2.2⟩,ob,es,ep,k _ _ (.inl rfl) e,c⟩
 |set S n=>obtain⟨ob,es,ep,t,e,c⟩:=x;exact⟨ob,es,ep,t,k _ _ (.inl rfl) e,c⟩
 |ins C dx fs=>obtain⟨d,z,ne,e,mA,⟨od,es,ep,e2,c⟩,r⟩:=x;exact⟨ho _ d,z,ne,k _ _ (.inl rfl) e,mA,⟨od,es,ep,k _ _ (.inr d) e2,c⟩,r⟩
 |own y=>obtain⟨ob,e⟩:=x;exact⟨ob,k _ _ (.inl rfl) e⟩
 |xd fs=>obtain⟨mA,⟨od,es,ep,e,c⟩,r⟩:=x;exact⟨mA,⟨od,es,ep,k _ _ (.inl rfl) e,c⟩,r⟩
 |lA lo hi=>obtain⟨t,u,v,e⟩:=x;exact⟨t,u,v,k _ _ (.inl rfl) e⟩
 |az ob u ih=>obtain⟨e,q⟩:=x;exact⟨k _ _ (.inl rfl) e,ih q⟩
 |mM ps=>have e:h.get? a=some {cls:=.none,data:=.fields ps}:=x;show h'.get? a=some {cls:=.none,data:=.fields ps};exact k a _ (.inl rfl) e
 |met f y=>have e:h.get? a=some (PySem.W.methodObj (.ref f) (.ref y)):=x;show h'.get? a=some (PySem.W.methodObj (.ref f) (.ref y));exact k a _ (.inl rfl) e
 |ext φ=>obtain⟨p,⟨o,e⟩,st⟩:=x;exact⟨st _ _ p λo q=>k _ _ (.inl rfl) q,⟨o,k _ _ (.inl rfl) e⟩,st⟩
theorem bJ.lt (x:bJ P w H h)(e:H a=some o):a<h.objs.size:=(x a o e).lt
theorem bJ.fresh (x:bJ P w H h)(e:h.objs.size<=a):H a=none:=by
 cases q:H a with
 |none=>rfl
 |some u=>exact absurd (lt_of_lt_of_le (x.lt q) e) (lt_irrefl _)
theorem bJ.kept (x:bJ P w H h)(k:∀b u,h.get? b=some u->h'.get? b=some u):bJ P w H h':=λa o e=>(x a o e).cT (λb u _ q=>k b u q) (λ_ q=>q) λ_ _ q=>q
theorem bJ.laid (x:bJ P w H h)(k:∀b u,h.get? b=some u->h'.get? b=some u)(hp:h.objs.size<=a)(new:vc P w (upd H a o) h' a o):bJ P w (upd H a o) h':=λb u e=>by
 have hn:=x.fresh hp;by_cases hb:b=a
 .subst hb;rw[jc]at e;cases e;exact new
 .rw[jf hb]at e;exact(x b u e).cT (λc v _ q=>k c v q) (λc q=>by rw[jf (jj q hn)];exact q) λc xs q=>by rw[jf (jj q hn)];exact q
end
def Rd (H:Hp)(a:Addr)(u:HO):Prop:=H a=some u\/∃o,H a=some (.az o u)
theorem Rd.ok {P:Program}{w:World}{H:Hp}{h:Heap}{a:Addr}{u:HO}(r:Rd H a u)(x:bJ P w H h):vc P w H h a u:=by
 rcases r with r|⟨o,r⟩
 .exact x a u r
 .obtain⟨_,q⟩:=x a _ r;exact q
noncomputable def gR:Option HO->Prop
 |some (.lst _)=>True
 |some (.dK _)=>True
 |some (.dT _)=>True
 |some (.set _ _)=>True
 |some (.ins _ _ _)=>True
 |some (.ext _)=>True
 |_=>False
section
variable {P:Program}{w:World}{H:Hp}{h h':Heap}{x e:Addr}{o':HO}
theorem bJ.write (ok:bJ P w H h)(mu:gR (H x))(he:e=x\/H e=some (.own x))(k:∀b u,b≠e->h.get? b=some u->h'.get? b=some u)(qJ:∃u,h'.get? e=some u)(new:vc P w (upd H x o') h' x o'):bJ P w (upd H x o') h':=λb u q=>by
 have sJ:∀c y,H c=some (.own y)->c≠x:=λc y r z=>by subst z;rw[r]at mu;exact mu
 have Cy:∀c xs,H c=some (.tup xs)->c≠x:=λc xs r z=>by subst z;rw[r]at mu;exact mu
 by_cases hb:b=x
 .subst hb;rw[jc]at q;cases q;exact new
 .rw[jf hb]at q;by_cases oz:b=e
  .have q':H b=some (.own x):=by
    rcases he with z|z
    .exact absurd (oz.trans z) hb
    .rw[oz];exact z
   rw[q]at q';cases q';obtain⟨v,hv⟩:=qJ;exact⟨v,by rw[oz];exact hv⟩
  .refine(ok b u q).cT (λc v hc r=>k c v ?_ r) (λc r=>by rw[jf (sJ c b r)];exact r) λc xs r=>by rw[jf (Cy c xs r)];exact r
   rcases hc with rfl|hc
   .exact oz
   .rintro rfl
    rcases he with z|z
    .exact sJ c b hc z
    .rw[hc]at z;cases z;exact hb rfl
end
structure Un (fs ex:List Addr)(H H':Hp)(h h':Heap):Prop where
 keep:∀b o,h.get? b=some o->H b=none->b∉fs->b∉ex->h'.get? b=some o
 slot:∀b o,h.get? b=some o->H b=none->b∈fs->b∉ex->∃sl,h'.get? b=some {o with slots:=sl}
 free:∀b o,h.get? b=some o->H b=none->b∉ex->H' b=none
 there:∀b o,h.get? b=some o->b∉ex->∃o',h'.get? b=some o'
 eG:∀b xs,H b=some (.tup xs)->H' b=some (.tup xs)
 dU:∀b o u,H b=some (.az o u)->H' b=some (.az o u)
 eQ:∀b ps,H b=some (.mM ps)->∃more,H' b=some (.mM (ps++more))
section
variable {fs fs' ex JL:List Addr}{H H1 H2:Hp}{h h1 h2 h':Heap}{a x e:Addr}{o:HO}
theorem Un.any (u:Un fs ex H H1 h h1){b:Addr}{ob:Obj}(q:h.get? b=some ob)(n:H b=none)(hx:b∉ex):∃sl,h1.get? b=some {ob with slots:=sl}:=by
 by_cases hb:b∈fs
 .exact u.slot b ob q n hb hx
 .exact⟨ob.slots,u.keep b ob q n hb hx⟩
theorem Un.kept (k:∀b u,h.get? b=some u->h'.get? b=some u):Un fs ex H H h h':=⟨λb ob q _ _ _=>k b ob q,λb ob q _ _ _=>⟨ob.slots,k b ob q⟩,λ_ _ _ n _=>n,λb ob q _=>⟨ob,k b ob q⟩,λ_ _ q=>q,λ_ _ _ q=>q,λ_ ps q=>⟨#[],by rw[q];simp⟩⟩
theorem Un.refl:Un fs ex H H h h:=Un.kept λ_ _ q=>q
theorem Un.laid (k:∀b u,h.get? b=some u->h'.get? b=some u)(hp:h.objs.size<=a)(hn:H a=none):Un fs ex H (upd H a o) h h' where
 keep:=λb u q _ _ _=>k b u q
 slot:=λb u q _ _ _=>⟨u.slots,k b u q⟩
 free:=λb u q n _=>by rw[jf (ne_of_lt (lt_of_lt_of_le (Heap.lt_size q) hp))];exact n
 there:=λb u q _=>⟨u,k b u q⟩
 eG:=λb xs q=>by rw[jf (jj q hn)];exact q
 dU:=λb u xs q=>by rw[jf (jj q hn)];exact q
 eQ:=λb ps q=>⟨#[],by rw[jf (jj q hn),q];simp⟩
theorem Un.write (mu:gR (H x))(he:e=x\/H e=some (.own x))(k:∀b u,b≠e->h.get? b=some u->h'.get? b=some u)(qJ:∃u,h'.get? e=some u):Un fs ex H (upd H x o) h h':=by
 have hx:∀b,H b=none->b≠x:=λb n z=>by subst z;rw[n]at mu;exact mu
 have hb:∀b,H b=none->b≠e:=λb n z=>by
  subst z;rcases he with r|r
  .exact hx b n r
  .rw[n]at r;cases r
 have hm:∀b u,H b=some u->¬gR (some u)->b≠x:=λb u q nm z=>by subst z;rw[q]at mu;exact nm mu
 refine⟨λb u q n _ _=>k b u (hb b n) q,λb u q n _ _=>⟨u.slots,k b u (hb b n) q⟩,λb u q n _=>by rw[jf (hx b n)];exact n,λb u q _=>?_,λb xs q=>by rw[jf (hm b _ q λz=>z)];exact q,λb u xs q=>by rw[jf (hm b _ q λz=>z)];exact q,λb ps q=>⟨#[],by rw[jf (hm b _ q λz=>z),q];simp⟩⟩;by_cases oz:b=e
 .subst oz;exact qJ
 .exact⟨u,k b u oz q⟩
end
def lB (h:Heap)(H:Hp):List Addr:=(List.range h.objs.size).filter λa=>(H a).isSome
def lC (h:Heap)(H:Hp):Heap:=PySem.W.hideAll h (lB h H)
theorem QZ (h:Heap)(H:Hp):(lC h H).objs.size=h.objs.size:=PySem.W.hideAll_size _ _
theorem Q0 {h:Heap}{H:Hp}{b:Addr}{o:Obj}(e:h.get? b=some o)(n:H b=none):(lC h H).get? b=some o:=PySem.W.hideAll_get _ e λhm=>by have q:(H b).isSome=true:=(mem_filter.mp hm).2;rw[n]at q;simp at q
theorem Q1 {h:Heap}{H:Hp}{b:Addr}{o:Obj}(e:(lC h H).get? b=some o):h.get? b=some o/\H b=none:=by
 have e':h.get? b=some o:=PySem.W.of_hideAll (lB h H) e;refine⟨e',?_⟩;cases q:H b with
 |none=>rfl
 |some x=>have hm:b∈lB h H:=mem_filter.mpr ⟨mem_range.mpr (Heap.lt_size e'),by simp[q]⟩;have z:(lC h H).get? b=none:=PySem.W.hideAll_none (lB h H) hm;rw[z]at e;cases e
structure Mod (K:PySem.W.Frag)(mg:Str->Option Value)(base:Heap):Prop where
 eR:K.In base
 glob:base.Ns mainGlobals mg
 blt:∃mb,base.Ns builtinsNs mb/\∀x:Str,x≠"__name__"->mb x=bootBuiltins x
 nolimit:base.NoLimit
structure Cx where
 prog:Program
 w:World
 K:PySem.W.Frag
 mg:Str->Option Value
 base:Heap
 A:Around
 N:List Str
 av:Shared
 bC:Hp
 env:Env
 outer:List Env
 stack:List Env
 ex:List Addr
 fn:Str->Bool
 calm:Bool
 pn:List (Addr×Obj)
 xe:Value->Shared->Prop
def bo (l:List Env):List Addr:=l.filterMap (·.frame)
abbrev Cx.fs (X:Cx):List Addr:=bo X.outer
def sL (sc:Scope)(x:Str):Prop:=sc.names.lookup x=some .local\/sc.names.lookup x=some .cell\/sc.names.lookup x=some .free
def Loc (sc:Scope)(x:Str):Prop:=sc.names.lookup x=some .local\/sc.names.lookup x=some .cell
noncomputable def Look (env:Env)(h:Heap)(m:Str->Option Value)(x:Str)(u:Value):Prop:=(env.kindOf x=some .local/\m x=some u)\/((env.kindOf x=some .cell\/env.kindOf x=some .free)/\∃c,env.cells.lookup x=some c/\h.IsCell c (some u))
structure Cx.Ok (X:Cx):Prop where
 mod:Mod X.K X.mg X.base
 kind:X.env.scope.kind= .function
 glob:X.env.globals=mainGlobals
 blt:X.env.builtins=builtinsNs
 above:X.av.heap.objs.size<=X.env.locals
 inj:∀x y c,X.env.cells.lookup x=some c->X.env.cells.lookup y=some c->x=y
 has:∀x,(X.env.kindOf x=some .cell\/X.env.kindOf x=some .free)->∃c,X.env.cells.lookup x=some c
 iN:∀x c,X.fn x=true->X.env.cells.lookup x=some c->X.av.heap.objs.size<=c
 hd:X.calm=true->X.A.handled=none
 frames:X.A.frames=some X.stack
 dv:X.stack=X.outer\/(X.stack=X.env::X.outer/\X.env.frame=some X.env.locals)
 yA:∀b∈X.ex,b≠X.env.locals/\∀x c,X.env.cells.lookup x=some c->c≠b
 bs:∀b o,X.base.get? b=some o->X.av.heap.get? b=some o/\X.bC b=none
 jZ:X.base.objs.size<=X.av.heap.objs.size
 oA:∀b o,X.base.get? b=some o->b∉X.ex
 qK:∀b∈X.ex,b∉X.fs
 fu:X.av.heap.FunFrames X.base X.outer
 iO:∀b∈X.fs,X.bC b=none
structure Inv (X:Cx)(pins:List (Addr×Obj))(U:List (Option V))(H:Hp)(s:Shared):Prop where
 ok:X.Ok
 os:s.os=X.av.os
 bare:AllBare s.gens
 base:Un X.fs X.ex X.bC H X.av.heap s.heap
 loc:∃m,s.heap.Ns X.env.locals m/\∀(i:Nat)(x:Str)(v:V),X.N[i]?=some x->U[i]?=some (some v)->sL X.env.scope x->∃u,RelV v u/\Look X.env s.heap m x u
 cell:∀x c,X.env.cells.lookup x=some c->∃v,s.heap.IsCell c v
 free:H X.env.locals=none
 dW:∀x c,X.env.cells.lookup x=some c->H c=none
 pin:∀p∈X.pn++pins,s.heap.get? p.1=some p.2/\H p.1=none/\p.1≠X.env.locals/\p.1∉X.fs/\∀v,p.2.data≠.cell v
 ag:bJ X.prog X.w H s.heap
 len:U.length=X.N.length
section
variable {X:Cx}{pins:List (Addr×Obj)}{U:List (Option V)}{H H':Hp}{s:Shared}{h':Heap}
theorem Cx.Ok.Q2 (ok:X.Ok){b:Addr}{o:Obj}(e:X.base.get? b=some o):b∉X.fs:=λhb=>by have:=(ok.fu.mem hb).1;rw[e]at this;cases this
theorem Inv.bs (I:Inv X pins U H s):∀b o,X.base.get? b=some o->s.heap.get? b=some o/\H b=none:=λb o e=>⟨I.base.keep b o (I.ok.bs b o e).1 (I.ok.bs b o e).2 (I.ok.Q2 e) (I.ok.oA b o e),I.base.free b o (I.ok.bs b o e).1 (I.ok.bs b o e).2 (I.ok.oA b o e)⟩
theorem Inv.bk (I:Inv X pins U H s):∀b o,X.base.get? b=some o->s.heap.get? b=some o:=λb o e=>(I.bs b o e).1
theorem Inv.mod (I:Inv X pins U H s):Mod X.K X.mg X.base:=I.ok.mod
theorem Inv.aW (I:Inv X pins U H s):X.K.In s.heap:=I.ok.mod.eR.keeps I.bk
theorem Inv.lt (I:Inv X pins U H s):X.env.locals<s.heap.objs.size:=let⟨_,hn,_⟩:=I.loc;hn.lt
theorem Inv.sz (I:Inv X pins U H s):X.av.heap.objs.size<=s.heap.objs.size:=le_trans I.ok.above (le_of_lt I.lt)
theorem Inv.JM (I:Inv X pins U H s){a:Addr}(h:s.heap.objs.size<=a):a∉X.fs:=λhb=>by obtain⟨_,o,ho,_⟩:=I.ok.fu.mem hb;exact absurd (lt_of_lt_of_le (Heap.lt_size ho) (le_trans I.sz h)) (lt_irrefl _)
theorem Inv.iP (I:Inv X pins U H s):∀x c,X.env.cells.lookup x=some c->c≠X.env.locals:=λx c e z=>by obtain⟨v,o,ho,hd⟩:=I.cell x c e;obtain⟨m,⟨o',es,ep,bh,ba,_⟩,_⟩:=I.loc;rw[z,bh]at ho;cases ho;rw[ba]at hd;cases hd
theorem Inv.fu (I:Inv X pins U H s):s.heap.FunFrames X.base X.outer:=by
 have all:∀(l:List Env),(∀b∈bo l,b∈X.fs)->X.av.heap.FunFrames X.base l->s.heap.FunFrames X.base l:=by
  intro l;induction l with
  |nil=>intro _ _;trivial
  |cons env r ih=>intro hs hl;obtain⟨hk,⟨L,o,hf,hn,ho,hd⟩,hr⟩:=hl;have hL:L∈X.fs:=hs L (by unfold bo;rw[filterMap_cons,hf];exact mem_cons_self);obtain⟨sl,e⟩:=I.base.slot L o ho (I.ok.iO L hL) hL λz=>I.ok.qK L z hL;exact⟨hk,⟨L,_,hf,hn,e,hd⟩,ih (λb hb=>hs b (by unfold bo;rw[filterMap_cons,hf];exact mem_cons_of_mem _ hb)) hr⟩
 exact all X.outer (λ_ hb=>hb) I.ok.fu
theorem Inv.stack (I:Inv X pins U H s):s.heap.FunFrames X.base X.stack:=by
 rcases I.ok.dv with e|⟨e,hf⟩
 .rw[e];exact I.fu
 .rw[e];obtain⟨m,hn,_⟩:=I.loc;refine .cons (by rw[I.ok.kind];decide) hf hn ?_ I.fu;exact Heap.get?_none_of_le (le_trans I.ok.jZ I.ok.above)
theorem Inv.mO (I:Inv X pins U H s):∀b∈bo X.stack,b∈X.env.locals::X.fs:=λb hb=>by
 rcases I.ok.dv with e|⟨e,hf⟩
 .rw[e]at hb;exact mem_cons_of_mem _ hb
 .rw[e]at hb;unfold bo at hb;rw[filterMap_cons,hf]at hb;exact hb
theorem Inv.yB (I:Inv X pins U H s):∀b∈bo X.stack,H b=none:=λb hb=>by
 rcases mem_cons.mp (I.mO b hb)with e|hb
 .rw[e];exact I.free
 .obtain⟨_,o,ho,_⟩:=I.ok.fu.mem hb;exact I.base.free b o ho (I.ok.iO b hb) λz=>I.ok.qK b z hb
theorem Inv.step {g':Array GenState}{t':Nat}{d':Drawn}{ch:List Addr}(I:Inv X pins U H s)(gA:∀b∈ch,(b∈X.ex\/X.av.heap.objs.size<=b)/\b≠X.env.locals/\(∀x c,X.env.cells.lookup x=some c->c≠b)/\∀p∈X.pn++pins,p.1≠b)(keep:∀b o,b≠X.env.locals->b∉X.fs->b∉ch->s.heap.get? b=some o->H b=none->h'.get? b=some o)(slot:∀b o,b≠X.env.locals->b∈X.fs->b∉ch->s.heap.get? b=some o->H b=none->∃sl,h'.get? b=some {o with slots:=sl})(free:∀b o,b∉ch->s.heap.get? b=some o->H b=none->H' b=none)(there:∀b o,b∉ch->s.heap.get? b=some o->∃o',h'.get? b=some o')(eG:∀b xs,H b=some (.tup xs)->H' b=some (.tup xs))(dU:∀b o u,H b=some (.az o u)->H' b=some (.az o u))(eQ:∀b ps,H b=some (.mM ps)->∃more,H' b=some (.mM (ps++more)))(ns:∀m,s.heap.Ns X.env.locals m->h'.Ns X.env.locals m)(ag:bJ X.prog X.w H' h')(hg:AllBare g'):
  Inv X pins U H' {s with heap:=h',gens:=g',drawn:=d',toks:=t'}:=by
 have JN:∀b o,X.av.heap.get? b=some o->b≠X.env.locals:=λb o e=>ne_of_lt (lt_of_lt_of_le (Heap.lt_size e) I.ok.above);have oB:∀b o,X.av.heap.get? b=some o->b∉X.ex->b∉ch:=λb o e hx hb=>by
  rcases(gA b hb).1 with z|z
  .exact hx z
  .exact absurd (lt_of_lt_of_le (Heap.lt_size e) z) (lt_irrefl _)
 have cellK:∀x c,X.env.cells.lookup x=some c->∀v,s.heap.IsCell c v->h'.IsCell c v:=λx c e v ⟨o,ho,hd⟩=>by
  have kA:c∉ch:=λz=>(gA c z).2.2.1 x c e rfl;by_cases hc:c∈X.fs
  .obtain⟨sl,q⟩:=slot c o (I.iP x c e) hc kA ho (I.dW x c e);exact⟨_,q,hd⟩
  .exact⟨o,keep c o (I.iP x c e) hc kA ho (I.dW x c e),hd⟩
 refine⟨I.ok,I.os,hg,⟨λb o e n hb hx=>?_,λb o e n hb hx=>?_,λb o e n hx=>?_,λb o e hx=>?_,λb xs e=>eG b xs (I.base.eG b xs e),λb o xs e=>dU b o xs (I.base.dU b o xs e),λb ps e=>?_⟩,?_,λx c e=>?_,?_,λx c e=>?_,λp hp=>?_,ag,I.len⟩
 .exact keep b o (JN b o e) hb (oB b o e hx) (I.base.keep b o e n hb hx) (I.base.free b o e n hx)
 .obtain⟨sl,e1⟩:=I.base.slot b o e n hb hx;obtain⟨oC,e2⟩:=slot b _ (JN b o e) hb (oB b o e hx) e1 (I.base.free b o e n hx);exact⟨oC,e2⟩
 .obtain⟨o',e1⟩:=I.base.there b o e hx;exact free b o' (oB b o e hx) e1 (I.base.free b o e n hx)
 .obtain⟨o',e1⟩:=I.base.there b o e hx;exact there b o' (oB b o e hx) e1
 .obtain⟨m1,e1⟩:=I.base.eQ b ps e;obtain⟨m2,e2⟩:=eQ b _ e1;exact⟨m1++m2,by rw[e2,Array.append_assoc]⟩
 .obtain⟨m,hn,hl⟩:=I.loc;refine⟨m,ns m hn,λi x v e1 e2 e3=>?_⟩;obtain⟨u,r,l⟩:=hl i x v e1 e2 e3;refine⟨u,r,?_⟩;rcases l with l|⟨k,c,e,z⟩
  .exact .inl l
  .exact .inr ⟨k,c,e,cellK x c e _ z⟩
 .obtain⟨v,z⟩:=I.cell x c e;exact⟨v,cellK x c e v z⟩
 .obtain⟨m,⟨o,_,_,ho,_⟩,_⟩:=I.loc;exact free _ o (λz=>(gA _ z).2.1 rfl) ho I.free
 .obtain⟨v,o,ho,hd⟩:=I.cell x c e;exact free c o (λz=>(gA c z).2.2.1 x c e rfl) ho (I.dW x c e)
 .obtain⟨e,n,ne,nf,d⟩:=I.pin p hp;have kA:p.1∉ch:=λz=>(gA p.1 z).2.2.2 p hp rfl;exact⟨keep p.1 p.2 ne nf kA e n,free p.1 p.2 kA e n,ne,nf,d⟩
theorem Inv.un {t':Nat}(I:Inv X pins U H s)(u:Un X.fs [] H H' s.heap h')(ag:bJ X.prog X.w H' h'):Inv X pins U H' {s with heap:=h',toks:=t'}:=by
 obtain⟨m,⟨o,es,ep,ho,r⟩,_⟩:=id I.loc;obtain⟨sl,hL⟩:=u.any ho I.free (by simp);exact I.step (g':=s.gens) (d':=s.drawn) (ch:=[]) (λ_ z=>nomatch z) (λb o _ hb _ e n=>u.keep b o e n hb (by simp)) (λb o _ hb _ e n=>u.slot b o e n hb (by simp)) (λb o _ e n=>u.free b o e n (by simp)) (λb o _ e=>u.there b o e (by simp)) u.eG u.dU u.eQ (λm' hm=>by obtain⟨o',fJ,dX,bh,r'⟩:=hm;rw[ho]at bh;cases bh;exact⟨_,fJ,dX,hL,r'⟩) ag I.bare
theorem Inv.call {g':Array GenState}{t':Nat}{d':Drawn}{ch:List Addr}(I:Inv X pins U H s)(u:Un (bo X.stack) ch H H' s.heap h')(ag:bJ X.prog X.w H' h')(hg:AllBare g')(gA:∀b∈ch,(b∈X.ex\/X.av.heap.objs.size<=b)/\b≠X.env.locals/\(∀x c,X.env.cells.lookup x=some c->c≠b)/\∀p∈X.pn++pins,p.1≠b):
  Inv X pins U H' {s with heap:=h',gens:=g',drawn:=d',toks:=t'}:=by
 obtain⟨m,⟨o,es,ep,ho,r⟩,_⟩:=id I.loc;obtain⟨sl,hL⟩:=u.any ho I.free λz=>(gA _ z).2.1 rfl;exact I.step (ch:=ch) gA (λb o hL hb hc e n=>u.keep b o e n (λz=>(mem_cons.mp (I.mO b z)).elim hL hb) hc) (λb o _ _ hc e n=>u.any e n hc) (λb o hc e n=>u.free b o e n hc) (λb o hc e=>u.there b o e hc) u.eG u.dU u.eQ (λm' hm=>by obtain⟨o',fJ,dX,bh,r'⟩:=hm;rw[ho]at bh;cases bh;exact⟨_,fJ,dX,hL,r'⟩) ag hg
theorem Inv.turned {t':Nat}{it:Addr}(I:Inv X pins U H s)(k:∀b o,b≠it->s.heap.get? b=some o->h'.get? b=some o)(hn:H it=none)(hL:it≠X.env.locals)(h1:it∈X.ex\/X.av.heap.objs.size<=it)(h2:∀x c,X.env.cells.lookup x=some c->c≠it)(h3:∀p∈X.pn++pins,p.1≠it):Inv X pins U H {s with heap:=h',toks:=t'}:=by
 have JO:∀b u,H b=some u->b≠it:=λb u e z=>by rw[z,hn]at e;cases e
 refine I.step (g':=s.gens) (d':=s.drawn) (ch:=[it]) (λb hb=>?_) (λb o _ _ hc e _=>k b o (λz=>hc (by simp[z])) e) (λb o _ _ hc e _=>⟨o.slots,k b o (λz=>hc (by simp[z])) e⟩) (λ_ _ _ _ n=>n) (λb o hc e=>⟨o,k b o (λz=>hc (by simp[z])) e⟩) (λ_ _ e=>e) (λ_ _ _ e=>e) (λb ps e=>⟨#[],by rw[e];simp⟩) (λm hm=>?_) (λb u e=>?_) I.bare
 .have e:b=it:=by simpa using hb
  subst e;exact⟨h1,hL,h2,h3⟩
 .obtain⟨o,es,ep,ho,r⟩:=hm;exact⟨o,es,ep,k _ o (Ne.symm hL) ho,r⟩
 .refine(I.ag b u e).cT (λc v hc q=>k c v ?_ q) (λ_ q=>q) λ_ _ q=>q;rcases hc with z|z
  .rw[z];exact JO b u e
  .exact JO c _ z
theorem Inv.tok (I:Inv X pins U H s)(t:Nat):Inv X pins U H {s with toks:=t}:=I.un (h':=s.heap) (t':=t) Un.refl I.ag
theorem Inv.kept {t':Nat}(I:Inv X pins U H s)(k:∀b u,s.heap.get? b=some u->h'.get? b=some u):Inv X pins U H {s with heap:=h',toks:=t'}:=I.un (Un.kept k) (I.ag.kept k)
theorem Inv.laid {a:Addr}{o:HO}{t':Nat}(I:Inv X pins U H s)(k:∀b u,s.heap.get? b=some u->h'.get? b=some u)(hp:s.heap.objs.size<=a)(new:vc X.prog X.w (upd H a o) h' a o):Inv X pins U (upd H a o) {s with heap:=h',toks:=t'}:=I.un (Un.laid k hp (I.ag.fresh hp)) (I.ag.laid k hp new)
theorem Inv.write {x e:Addr}{o:HO}{t':Nat}(I:Inv X pins U H s)(mu:gR (H x))(he:e=x\/H e=some (.own x))(k:∀b u,b≠e->s.heap.get? b=some u->h'.get? b=some u)(qJ:∃u,h'.get? e=some u)(new:vc X.prog X.w (upd H x o) h' x o):Inv X pins U (upd H x o) {s with heap:=h',toks:=t'}:=I.un (Un.write mu he k qJ) (I.ag.write mu he k qJ new)
theorem Inv.yC {bG:List (Addr×Obj)}(I:Inv X pins U H s)(h:∀p∈bG,s.heap.get? p.1=some p.2/\H p.1=none/\p.1≠X.env.locals/\p.1∉X.fs/\∀v,p.2.data≠.cell v):Inv X bG U H s:=⟨I.ok,I.os,I.bare,I.base,I.loc,I.cell,I.free,I.dW,λp hp=>(mem_append.mp hp).elim (λz=>I.pin p (mem_append_left _ z)) (h p),I.ag,I.len⟩
theorem Cz {N:List Str}(hN:N.Nodup){i j:Nat}{x:Str}(a:N[i]?=some x)(b:N[j]?=some x):i=j:=by obtain⟨h1,e1⟩:=List.getElem?_eq_some_iff.mp a;obtain⟨h2,e2⟩:=List.getElem?_eq_some_iff.mp b;exact(List.getElem_inj hN).mp (e1.trans e2.symm)
theorem JP {M:Model}{A:Around}{E:Value->Shared->Prop}{i:Nat}{x:Str}{v:V}{u:Value}{Q:Unit->Shared->Prop}(I:Inv X pins U H s)(hN:X.N.Nodup)(hi:X.N[i]?=some x)(hx:Loc X.env.scope x)(r:RelV v u)(h:∀s',Inv X pins (U.set i (some v)) H s'->(∃a,Heap.SameBut a s.heap s'.heap/\(a=X.env.locals\/X.env.cells.lookup x=some a))->Q () s')(hf:autoParam (X.fn x=true\/X.env.scope.names.lookup x=some .local) aP5):wpAny M A (storeName X.env x u) Q E s:=by
 obtain⟨m,hn,hl⟩:=id I.loc;have CA:(X.env.scope.kind== .class||(X.env.scope.kind== .module&&X.env.locals != X.env.globals))=false:=by rw[I.ok.kind];rfl
 have qL:i<U.length:=by rw[I.len];exact(List.getElem?_eq_some_iff.mp hi).1
 have iP:=I.iP;have tracked:∀{a:Addr}{h':Heap},(∃o,s.heap.get? a=some o/\H a=none)->Heap.SameBut a s.heap h'->bJ X.prog X.w H h':=λ{a h'} ha hs b ob e=>by
  obtain⟨_,_,mP⟩:=ha;refine(I.ag b ob e).cT (λc w' hc q=>(hs.2 c ?_).trans q) (λ_ q=>q) λ_ _ q=>q
  rintro rfl
  rcases hc with rfl|hc
  .rw[mP]at e;cases e
  .rw[mP]at hc;cases hc
 rcases hx with hk|hk
 .refine wpAny_storeName_local hk hn (λh' mQ hs=>?_) CA;obtain⟨oL,_,_,JQ,_⟩:=id hn;refine h _ ⟨I.ok,I.os,I.bare,⟨λb o e n hb hx=>?_,λb o e n hb hx=>?_,I.base.free,λb o e hx=>?_,I.base.eG,I.base.dU,I.base.eQ⟩,⟨_,mQ,λj y v' e1 e2 e3=>?_⟩,λy c e=>?_,I.free,I.dW,λp hp=>?_,tracked ⟨oL,JQ,I.free⟩ hs,by simpa using I.len⟩ ⟨_,hs,.inl rfl⟩
  .exact(hs.2 b (ne_of_lt (lt_of_lt_of_le (Heap.lt_size e) I.ok.above))).trans (I.base.keep b o e n hb hx)
  .obtain⟨sl,e1⟩:=I.base.slot b o e n hb hx;exact⟨sl,(hs.2 b (ne_of_lt (lt_of_lt_of_le (Heap.lt_size e) I.ok.above))).trans e1⟩
  .obtain⟨o',e1⟩:=I.base.there b o e hx;exact⟨o',(hs.2 b (ne_of_lt (lt_of_lt_of_le (Heap.lt_size e) I.ok.above))).trans e1⟩
  .by_cases hj:j=i
   .subst hj;rw[hi]at e1;cases e1;rw[getElem?_set_self qL]at e2;cases e2;exact⟨u,r,.inl ⟨hk,by simp⟩⟩
   .rw[getElem?_set_ne (Ne.symm hj)]at e2;obtain⟨u',r',q⟩:=hl j y v' e1 e2 e3;refine⟨u',r',?_⟩;rcases q with⟨k,e⟩|⟨k,c,e,z⟩
    .refine .inl ⟨k,?_⟩;have:y≠x:=λe=>hj (Cz hN e1 (e ▸ hi));simp[this,e]
    .exact .inr ⟨k,c,e,z.sameBut hs (iP y c e)⟩
  .obtain⟨w',z⟩:=I.cell y c e;exact⟨w',z.sameBut hs (iP y c e)⟩
  .obtain⟨e,n,ne,nf,d⟩:=I.pin p hp;exact⟨(hs.2 p.1 ne).trans e,n,ne,nf,d⟩
 .have CB:X.fn x=true:=by
   rcases hf with z|z
   .exact z
   .rw[z]at hk;cases hk
  obtain⟨c,hc⟩:=I.ok.has x (.inl hk);obtain⟨w',z⟩:=I.cell x c hc;refine wpAny_storeName_cell I.ok.kind hk hc z (λh' iQ hs=>?_);obtain⟨oc,yD,CC⟩:=id z;refine h {s with heap:=h'} ⟨I.ok,I.os,I.bare,⟨λb o e n hb hx=>?_,λb o e n hb hx=>?_,I.base.free,λb o e hx=>?_,I.base.eG,I.base.dU,I.base.eQ⟩,⟨m,hn.sameBut hs (Ne.symm (iP x c hc)),λj y v' e1 e2 e3=>?_⟩,λy c' e=>?_,I.free,I.dW,λp hp=>?_,tracked ⟨oc,yD,I.dW x c hc⟩ hs,by simpa using I.len⟩ ⟨c,hs,.inr hc⟩
  .exact(hs.2 b (ne_of_lt (lt_of_lt_of_le (Heap.lt_size e) (I.ok.iN x c CB hc)))).trans (I.base.keep b o e n hb hx)
  .obtain⟨sl,e1⟩:=I.base.slot b o e n hb hx;exact⟨sl,(hs.2 b (ne_of_lt (lt_of_lt_of_le (Heap.lt_size e) (I.ok.iN x c CB hc)))).trans e1⟩
  .obtain⟨o',e1⟩:=I.base.there b o e hx;exact⟨o',(hs.2 b (ne_of_lt (lt_of_lt_of_le (Heap.lt_size e) (I.ok.iN x c CB hc)))).trans e1⟩
  .by_cases hj:j=i
   .subst hj;rw[hi]at e1;cases e1;rw[getElem?_set_self qL]at e2;cases e2;exact⟨u,r,.inr ⟨.inl hk,c,hc,iQ⟩⟩
   .rw[getElem?_set_ne (Ne.symm hj)]at e2;obtain⟨u',r',q⟩:=hl j y v' e1 e2 e3;refine⟨u',r',?_⟩;rcases q with q|⟨k,c',e,z'⟩
    .exact .inl q
    .refine .inr ⟨k,c',e,z'.sameBut hs ?_⟩
     rintro rfl
     exact hj (Cz hN e1 (I.ok.inj _ _ _ e hc ▸ hi))
  .by_cases JR:c'=c
   .subst JR;exact⟨_,iQ⟩
   .obtain⟨w2,z2⟩:=I.cell y c' e;exact⟨w2,z2.sameBut hs JR⟩
  .obtain⟨e,n,ne,nf,d⟩:=I.pin p hp;refine⟨(hs.2 p.1 ?_).trans e,n,ne,nf,d⟩;intro q;rw[q,yD]at e;have q':oc=p.2:=Option.some.inj e;exact d w' (by rw[<-q'];exact CC)
theorem yE {M:Model}{A:Around}{E:Value->Shared->Prop}{i:Nat}{x:Str}{v:V}{u:Value}{Q:Unit->Shared->Prop}(I:Inv X pins U H s)(hN:X.N.Nodup)(hi:X.N[i]?=some x)(hx:Loc X.env.scope x)(r:RelV v u)(h:∀s',Inv X pins (U.set i (some v)) H s'->Q () s')(hf:autoParam (X.fn x=true\/X.env.scope.names.lookup x=some .local) aP5):wpAny M A (storeName X.env x u) Q E s:=
 JP I hN hi hx r (λs' I' _=>h s' I') hf
theorem Inv.CF {s':Shared}{ch:List Addr}(I:Inv X pins U H s)(ho:s'.os=s.os)(u:Un (bo X.stack) ch H H' s.heap s'.heap)(ag:bJ X.prog X.w H' s'.heap)(hg:AllBare s'.gens)(gA:∀b∈ch,(b∈X.ex\/X.av.heap.objs.size<=b)/\b≠X.env.locals/\(∀x c,X.env.cells.lookup x=some c->c≠b)/\∀p∈X.pn++pins,p.1≠b):Inv X pins U H' s':=by
 obtain⟨h',g',d',t',o'⟩:=s';have e:o'=s.os:=ho;subst e;exact I.call (g':=g') (t':=t') (d':=d') u ag hg gA
end
abbrev XK:=Value->Option Addr->Hp->Prop
abbrev St:=List (Option V)
abbrev VK:=V->Hp->Prop
abbrev TE:=St->Hp->VK->Prop
abbrev TT:=St->Hp->(Bool->Hp->Prop)->Prop
abbrev TA:=St->Hp->(List V->Hp->Prop)->Prop
structure Ends where
 nx:St->Hp->Prop
 rt:VK
 bk:St->Hp->Prop:=λ_ _=>False
 ct:St->Hp->Prop:=λ_ _=>False
abbrev TS:=Ends->St->Hp->Prop
def EP (X:Cx)(pins:List (Addr×Obj))(U:St)(Q:VK)(u:Value)(s':Shared):Prop:=∃v H',Inv X pins U H' s'/\RelV v u/\Q v H'
def TP (X:Cx)(pins:List (Addr×Obj))(U:St)(Q:Bool->Hp->Prop)(b:Bool)(s':Shared):Prop:=∃H',Inv X pins U H' s'/\Q b H'
noncomputable def AP (X:Cx)(pins:List (Addr×Obj))(U:St)(Q:List V->Hp->Prop)(us:List Value)(s':Shared):Prop:=∃vs H',Inv X pins U H' s'/\Vals vs us/\Q vs H'
noncomputable def SP (X:Cx)(pins:List (Addr×Obj))(D:Ends)(f:Flow)(s':Shared):Prop:=match f with
 | .next=>∃U' H',Inv X pins U' H' s'/\D.nx U' H'
 | .brk=>∃U' H',Inv X pins U' H' s'/\D.bk U' H'
 | .cont=>∃U' H',Inv X pins U' H' s'/\D.ct U' H'
 | .ret u=>∃v U' H',Inv X pins U' H' s'/\RelV v u/\D.rt v H'
noncomputable def PE (X:Cx)(e:Expr)(t:TE):Prop:=∀(pins:List (Addr×Obj))(s:Shared)(U:St)(H:Hp)(Q:VK),Inv X pins U H s->t U H Q->wpAny (model X.prog X.w) X.A (eval e X.env) (EP X pins U Q) X.xe s
noncomputable def PT (X:Cx)(e:Expr)(t:TT):Prop:=∀(pins:List (Addr×Obj))(s:Shared)(U:St)(H:Hp)(Q:Bool->Hp->Prop),Inv X pins U H s->t U H Q->wpAny (model X.prog X.w) X.A (isTrue e X.env (eval e X.env)) (TP X pins U Q) X.xe s
noncomputable def PW (X:Cx)(e:Expr)(t:TT):Prop:=∀(whole:Sem Value)(pins:List (Addr×Obj))(s:Shared)(U:St)(H:Hp)(Q:Bool->Hp->Prop),Inv X pins U H s->t U H Q->wpAny (model X.prog X.w) X.A (isTrue e X.env whole) (TP X pins U Q) X.xe s
theorem PW.pt {X:Cx}{e:Expr}{t:TT}(h:PW X e t):PT X e t:=h _
noncomputable def PA (X:Cx)(es:List Expr)(t:TA):Prop:=∀(pos:Pos)(pins:List (Addr×Obj))(s:Shared)(U:St)(H:Hp)(Q:List V->Hp->Prop),Inv X pins U H s->t U H Q->wpAny (model X.prog X.w) X.A (spliced (backTo pos (starEach es X.env))) (AP X pins U Q) X.xe s
noncomputable def PS (X:Cx)(st:Stmt)(t:TS):Prop:=∀(pins:List (Addr×Obj))(s:Shared)(U:St)(H:Hp)(D:Ends),Inv X pins U H s->t D U H->wpAny (model X.prog X.w) X.A (exec st X.env) (SP X pins D) X.xe s
noncomputable def dg (X:Cx)(st:List Stmt)(t:TS):Prop:=∀(pins:List (Addr×Obj))(s:Shared)(U:St)(H:Hp)(D:Ends),Inv X pins U H s->t D U H->wpAny (model X.prog X.w) X.A (execs st X.env) (SP X pins D) X.xe s
theorem ai {α:Type}{t:Sem α}{Q Q':α->Shared->Prop}{M:Model}{A:Around}{E:Value->Shared->Prop}{s:Shared}(h:wpAny M A t Q E s)(hQ:∀a s,Q a s->Q' a s):wpAny M A t Q' E s:=wpAny_mono h hQ λ_ _ x=>x
section
variable {X:Cx}
theorem bin {a b:Expr}{ta tb:TE}(ha:PE X a ta)(hb:PE X b tb){pins:List (Addr×Obj)}{s:Shared}{U:St}{H:Hp}{R:V->V->Hp->Prop}(I:Inv X pins U H s)(h:ta U H λx H1=>tb U H1 λy H2=>R x y H2){α:Type}{Q:α->Shared->Prop}{f:Value->Value->Sem α}(hf:∀v u s2 x y H2,Inv X pins U H2 s2->RelV x v->RelV y u->R x y H2->wpAny (model X.prog X.w) X.A (f v u) Q X.xe s2):
  wpAny (model X.prog X.w) X.A (eval a X.env) (λv aj=>wpAny (model X.prog X.w) X.A (eval b X.env) (λu ae=>wpAny (model X.prog X.w) X.A (f v u) Q X.xe ae) X.xe aj) X.xe s:=by
 refine ai (ha pins s U H _ I h) λv s1 zQ=>?_;obtain⟨x,H1,I1,r1,q1⟩:=zQ;refine ai (hb pins s1 U H1 _ I1 q1) λu s2 zQ=>?_;obtain⟨y,H2,I2,r2,q2⟩:=zQ;exact hf v u s2 x y H2 I2 r1 r2 q2
def JS (i:Nat):TE:=λU H Q=>∃v,U[i]?=some (some v)/\Q v H
def tC (v:V):TE:=λ_ H Q=>Q v H
theorem Q3 {i:Nat}{x:Str}{pos:Pos}(hN:X.N[i]?=some x)(hv:sL X.env.scope x)(hd:autoParam ((x==("__debug__":Str))=false) aP2)(eS:autoParam ((x==("__classdict__":Str))=false) aP2):PE X (.Name x pos) (JS i):=by
 intro pins s U H Q I h;obtain⟨v,e,h⟩:=h;obtain⟨m,hn,hl⟩:=I.loc;obtain⟨u,r,l⟩:=hl i x v hN e hv;have fin:EP X pins U Q u s:=⟨v,H,I,r,h⟩;rcases l with⟨hk,hm⟩|⟨hk,c,hc,dN⟩
 .exact wpAny_Name (wpAny_loadName_local I.ok.kind hk hn hm fin) hd
 .rcases hk with hk|hk
  .exact wpAny_Name (wpAny_loadName_cell I.ok.kind hk hc dN fin) hd
  .exact wpAny_Name (wpAny_loadName_free I.ok.kind hk hc dN fin eS) hd
theorem jq {i j pos}:PE X (.Constant (.int i) j pos) (tC (.int i)):=λ_ _ _ H _ I h=>wpAny_Constant_int ⟨.int i,H,I.tok _,⟨_,rfl⟩,h⟩
theorem gB {b j pos}:PE X (.Constant (.bool b) j pos) (tC (.bl b)):=λ_ _ _ H _ I h=>Constant_bool ⟨.bl b,H,I,rfl,h⟩
theorem iR {j pos}:PE X (.Constant .none j pos) (tC .aq):=λ_ _ _ H _ I h=>Constant_none ⟨.aq,H,I,rfl,h⟩
theorem w9 {x j pos}:PE X (.Constant (.str x) j pos) (tC (.str x)):=λ_ _ _ H _ I h=>Calls.Constant_str ⟨.str x,H,I.tok _,⟨_,rfl⟩,h⟩
def Gl (X:Cx)(x:Str):Prop:=X.env.kindOf x=some .globalImplicit
theorem mR {E:Value->Shared->Prop}{pins:List (Addr×Obj)}{s:Shared}{U:St}{H:Hp}{x:Str}{u:Value}{pos:Pos}{Q:Value->Shared->Prop}(I:Inv X pins U H s)(hg:Gl X x)(hm:X.mg x=some u)(h:Q u s)(hd:autoParam ((x==("__debug__":Str))=false) aP2):wpAny (model X.prog X.w) X.A (eval (.Name x pos) X.env) Q E s:=
 Calls.Name_function_global I.ok.kind hg (Calls.loadGlobal_global (by rw[I.ok.glob];exact I.mod.glob.keeps I.bk) hm h) hd
theorem yF {E:Value->Shared->Prop}{pins:List (Addr×Obj)}{s:Shared}{U:St}{H:Hp}{x:Str}{u:Value}{pos:Pos}{Q:Value->Shared->Prop}(I:Inv X pins U H s)(hg:Gl X x)(hm:X.mg x=none)(hv:bootBuiltins x=some u)(h:Q u s)(hn:autoParam (x≠"__name__") aP2)(hd:autoParam ((x==("__debug__":Str))=false) aP2):wpAny (model X.prog X.w) X.A (eval (.Name x pos) X.env) Q E s:=by
 obtain⟨mb,h1,h2⟩:=I.mod.blt;exact Calls.Name_function_global I.ok.kind hg (Calls.loadGlobal_builtin (by rw[I.ok.glob];exact I.mod.glob.keeps I.bk) hm (by rw[I.ok.blt];exact h1.keeps I.bk) ((h2 x hn).trans hv) h) hd
theorem zg {x:Str}{v:V}{u:Value}{pos:Pos}(hg:Gl X x)(hm:X.mg x=some u)(r:RelV v u)(hd:autoParam ((x==("__debug__":Str))=false) aP2):PE X (.Name x pos) (tC v):=λ_ _ _ H _ I h=>mR I hg hm ⟨v,H,I,r,h⟩ hd
theorem kB {x:Str}{v:V}{u:Value}{pos:Pos}(hg:Gl X x)(hm:X.mg x=none)(hv:bootBuiltins x=some u)(r:RelV v u)(hn:autoParam (x≠"__name__") aP2)(hd:autoParam ((x==("__debug__":Str))=false) aP2):PE X (.Name x pos) (tC v):=λ_ _ _ H _ I h=>yF I hg hm hv ⟨v,H,I,r,h⟩ hn hd
variable {a b:Expr}{ta tb:TE}{pos:Pos}
noncomputable def PC (X:Cx)(op:CmpOp)(a b:Expr)(t:TE):Prop:=∀(pins:List (Addr×Obj))(s:Shared)(U:St)(H:Hp)(Q:VK),Inv X pins U H s->t U H Q->wpAny (model X.prog X.w) X.A (eval a X.env) (λv aj=>wpAny (model X.prog X.w) X.A (eval b X.env) (λu ae=>wpAny (model X.prog X.w) X.A (compareOp op v u) (EP X pins U Q) X.xe ae) X.xe aj) X.xe s
def tB (t:TE):TT:=λU H Q=>t U H λx H1=>∃c,x= .bl c/\Q c H1
theorem yG {op:CmpOp}{t:TE}(h:PC X op a b t)(h1:behindInMarks op b=false:=by first|exact sM _ (by decide) (by decide)|rfl):PT X (.Compare a [op] [b] pos) (tB t):=by intro pins s U H Q I hw;refine wpAny_isTrue_Compare1 (ai (h pins s U H _ I hw) λv s1 h1=>ai h1 λu s2 h2=>ai h2 λc s3 zQ=>?_) h1;obtain⟨x,H1,I1,r1,q1⟩:=zQ;obtain⟨d,rfl,q⟩:=q1;cases r1;exact wpAny_truthy_bool ⟨H1,I1,q⟩
theorem zl {e:Expr}{t:TE}(h:PE X e t)(he:autoParam (∀whole,isTrue e X.env whole=(do let v<-whole;standAt e.pos;holding [v] (truthy v))) aP3):PT X e (tB t):=by intro pins s U H Q I hw;refine isTrue_plain (ai (h pins s U H _ I hw) λv s1 zQ=>?_) (he _);obtain⟨x,H1,I1,r1,q1⟩:=zQ;obtain⟨d,rfl,q⟩:=q1;cases r1;exact wpAny_truthy_bool ⟨H1,I1,q⟩
variable {tA yH:TT}{rest:List Expr}
def Q4 (t u:TT):TT:=λU H Q=>t U H λc H1=>if c=true then u U H1 Q else Q false H1
def Q5 (t u:TT):TT:=λU H Q=>t U H λc H1=>if c=true then Q true H1 else u U H1 Q
def Q6 (t:TT):TT:=λU H Q=>t U H λc H1=>Q (!c) H1
theorem mS (ha:PT X a tA):PW X (.BoolOp .And [a] pos) tA:=by
 intro wh pins s U H Q I h;refine isTrue_and (ai (ha pins s U H Q I h) λc s1 e=>?_);cases c with
 |true=>exact isTrue_and_nil e
 |false=>exact e
theorem gS (ha:PT X a tA):PW X (.BoolOp .Or [a] pos) tA:=by
 intro wh pins s U H Q I h;refine isTrue_or (ai (ha pins s U H Q I h) λc s1 e=>?_);cases c with
 |false=>exact isTrue_or_nil e
 |true=>exact e
theorem lE (ha:PT X a tA)(hb:PW X (.BoolOp .And (b::rest) pos) yH):PW X (.BoolOp .And (a::b::rest) pos) (Q4 tA yH):=by
 intro wh pins s U H Q I h;refine isTrue_and (ai (ha pins s U H _ I h) λc s1 zQ=>?_);obtain⟨H1,I1,q1⟩:=zQ;cases c with
 |true=>exact hb wh pins s1 U H1 Q I1 q1
 |false=>exact⟨H1,I1,q1⟩
theorem gC (ha:PT X a tA)(hb:PW X (.BoolOp .Or (b::rest) pos) yH):PW X (.BoolOp .Or (a::b::rest) pos) (Q5 tA yH):=by
 intro wh pins s U H Q I h;refine isTrue_or (ai (ha pins s U H _ I h) λc s1 zQ=>?_);obtain⟨H1,I1,q1⟩:=zQ;cases c with
 |true=>exact⟨H1,I1,q1⟩
 |false=>exact hb wh pins s1 U H1 Q I1 q1
theorem xu (ha:PT X a tA):PT X (.UnaryOp .Not a pos) (Q6 tA):=by intro pins s U H Q I h;exact isTrue_not (ha pins s U H (λc H1=>Q (!c) H1) I h)
def Q7 (ta tb:TE):TE:=λU H Q=>ta U H λx H1=>∃c,x= .bl c/\if c=true then tb U H1 Q else Q (.bl false) H1
def Q8 (ta:TE):TE:=λU H Q=>ta U H λx H1=>∃c,x= .bl c/\Q (.bl (!c)) H1
theorem mT {op}{t:TE}(h:PE X a t):PE X (.BoolOp op [a] pos) t:=λpins s U H Q I hw=>BoolOp_one (h pins s U H Q I hw)
theorem lF (ha:PE X a ta)(hb:PE X (.BoolOp .And (b::rest) pos) tb):PE X (.BoolOp .And (a::b::rest) pos) (Q7 ta tb):=by
 intro pins s U H Q I h;refine BoolOp_and (ai (ha pins s U H _ I h) λv s1 zQ=>?_);obtain⟨x,H1,I1,r1,q1⟩:=zQ;obtain⟨c,rfl,q1⟩:=q1;cases r1;refine wpAny_truthy_bool ?_;cases c with
 |true=>exact hb pins s1 U H1 Q I1 q1
 |false=>exact⟨.bl false,H1,I1,rfl,q1⟩
theorem JT (ha:PE X a ta):PE X (.UnaryOp .Not a pos) (Q8 ta):=by intro pins s U H Q I h;refine UnaryOp_ (ai (ha pins s U H _ I h) λv s1 zQ=>?_);obtain⟨x,H1,I1,r1,q1⟩:=zQ;obtain⟨c,rfl,q1⟩:=q1;cases r1;exact not_of (wpAny_truthy_bool ⟨.bl (!c),H1,I1,rfl,q1⟩)
def Q9 (t:TT)(ta tb:TE):TE:=λU H Q=>t U H λc H1=>if c=true then ta U H1 Q else tb U H1 Q
theorem yI {c:Expr}(hc:PT X c tA)(ha:PE X a ta)(hb:PE X b tb):PE X (.IfExp c a b pos) (Q9 tA ta tb):=by
 intro pins s U H Q I h;refine wpAny_IfExp (ai (hc pins s U H _ I h) λd s1 zQ=>?_);obtain⟨H1,I1,q1⟩:=zQ;cases d with
 |true=>exact ha pins s1 U H1 Q I1 q1
 |false=>exact hb pins s1 U H1 Q I1 q1
end
noncomputable def ah (K:PySem.W.Frag)(H:Hp)(a:Addr)(xs:List V):Prop:=Rd H a (.lst xs)\/∃(o:Obj)(its:Array Value)(n:Nat),K.lookup a=some o/\o.cls= .type "list"/\o.dict=none/\o.data= .seq its n/\its.size<=sizeLine/\Vals xs its.toList
noncomputable def aA (K:PySem.W.Frag)(H:Hp)(a:Addr)(xs:List V):Prop:=Rd H a (.tup xs)\/∃(o:Obj)(its:Array Value)(n:Nat),K.lookup a=some o/\o.cls= .type "tuple"/\o.data= .seq its n/\its.size<=sizeLine/\Vals xs its.toList
noncomputable def Ra:Value->Option V
 | .none=>some .aq
 | .bool b=>some (.bl b)
 | .int i _=>some (.int i)
 | .str x _=>some (.str x)
 | .bytes b _=>some (.fH b)
 | .float b _=>some (.mL b)
 | .ref a=>some (.ref a)
 | .type n=>some (.ty n)
 |_=>none
theorem RelV.abs {x:V}{u:Value}(r:RelV x u):Ra u=some x:=by
 cases x with
 |aq=>cases r;rfl
 |bl _=>cases r;rfl
 |int _=>obtain⟨t,rfl⟩:=r;rfl
 |str _=>obtain⟨t,rfl⟩:=r;rfl
 |fH _=>obtain⟨t,rfl⟩:=r;rfl
 |mL _=>obtain⟨t,rfl⟩:=r;rfl
 |ref _=>cases r;rfl
 |ty _=>cases r;rfl
theorem RelV.inj {x y:V}{u:Value}(r:RelV x u)(q:RelV y u):x=y:=Option.some.inj (r.abs.symm.trans q.abs)
theorem Vals.inj:∀{xs ys:List V}{us:List Value},Vals xs us->Vals ys us->xs=ys:=λ{xs ys us} p q=>by
 induction p generalizing ys with
 |nil=>cases q;rfl
 |cons r t ih=>
  cases q with
  |cons r' t'=>rw[r.inj r',ih t']
section
variable {X:Cx}{pins:List (Addr×Obj)}{U:St}{H:Hp}{s:Shared}{a:Addr}{xs ys:List V}
theorem ah.of {K:PySem.W.Frag}(h:H a=some (.lst xs)):ah K H a xs:=.inl (.inl h)
theorem aA.of {K:PySem.W.Frag}(h:H a=some (.tup xs)):aA K H a xs:=.inl (.inl h)
theorem Inv.list (I:Inv X pins U H s)(h:ah X.K H a xs):∃its:List Value,Vals xs its/\PlainL s.heap a its.toArray/\xs.length<=sizeLine:=by
 rcases h with h|⟨o,its,n,hk,hc,hd,hs,hz,r⟩
 .obtain⟨z,its,n,r,e⟩:=h.ok I.ag;exact⟨its,r,⟨_,n,e,rfl,rfl,rfl⟩,z⟩
 .refine⟨its.toList,r,⟨o,n,I.aW a o hk,hc,hd,by simpa using hs⟩,?_⟩;have e:=r.length;simp only[Array.length_toList]at e;lia
theorem Inv.tuple (I:Inv X pins U H s)(h:aA X.K H a xs):∃its:List Value,Vals xs its/\IsTup s.heap a its.toArray/\xs.length<=sizeLine:=by
 rcases h with h|⟨o,its,n,hk,hc,hs,hz,r⟩
 .obtain⟨z,its,r,p⟩:=h.ok I.ag;exact⟨its,r,p,z⟩
 .refine⟨its.toList,r,⟨o,I.aW a o hk,hc,n,by simpa using hs⟩,?_⟩;have e:=r.length;simp only[Array.length_toList]at e;lia
theorem Inv.JU (I:Inv X pins U H s)(h:ah X.K H a xs)(h':ah X.K H a ys):xs=ys:=by
 obtain⟨its,r,⟨o,n,e,_,_,d⟩,_⟩:=I.list h;obtain⟨its',r',⟨o',n',e',_,_,d'⟩,_⟩:=I.list h';rw[e]at e';cases e';rw[d]at d';injection d' with d1 _;have:its=its':=by simpa using congrArg Array.toList d1
 subst this;exact r.inj r'
theorem Inv.CG (I:Inv X pins U H s)(h:aA X.K H a xs)(h':aA X.K H a ys):xs=ys:=by
 obtain⟨its,r,⟨o,e,_,n,d⟩,_⟩:=I.tuple h;obtain⟨its',r',⟨o',e',_,n',d'⟩,_⟩:=I.tuple h';rw[e]at e';cases e';rw[d]at d';injection d' with d1 _;have:its=its':=by simpa using congrArg Array.toList d1
 subst this;exact r.inj r'
end
abbrev Cx.kC (X:Cx)(E:Value->Shared->Prop):Cx:={X with xe:=E}
abbrev Cx.oE (X:Cx):Cx:=X.kC λ_ _=>False
theorem Cx.Ok.kC {X:Cx}(ok:X.Ok)(E:Value->Shared->Prop):(X.kC E).Ok:=⟨ok.mod,ok.kind,ok.glob,ok.blt,ok.above,ok.inj,ok.has,ok.iN,ok.hd,ok.frames,ok.dv,ok.yA,ok.bs,ok.jZ,ok.oA,ok.qK,ok.fu,ok.iO⟩
theorem Cx.Ok.mU {X:Cx}{E:Value->Shared->Prop}(ok:(X.kC E).Ok):X.Ok:=⟨ok.mod,ok.kind,ok.glob,ok.blt,ok.above,ok.inj,ok.has,ok.iN,ok.hd,ok.frames,ok.dv,ok.yA,ok.bs,ok.jZ,ok.oA,ok.qK,ok.fu,ok.iO⟩
section
variable {X:Cx}{pins:List (Addr×Obj)}{U:St}{H:Hp}{s:Shared}{E:Value->Shared->Prop}
theorem Inv.kC (I:Inv X pins U H s)(E:Value->Shared->Prop):Inv (X.kC E) pins U H s:=⟨I.ok.kC E,I.os,I.bare,I.base,I.loc,I.cell,I.free,I.dW,I.pin,I.ag,I.len⟩
theorem Inv.mU (I:Inv (X.kC E) pins U H s):Inv X pins U H s:=⟨I.ok.mU,I.os,I.bare,I.base,I.loc,I.cell,I.free,I.dW,I.pin,I.ag,I.len⟩
theorem SP.mU {D:Ends}{f:Flow}{s':Shared}(h:SP (X.kC E) pins D f s'):SP X pins D f s':=by
 cases f with
 |next=>obtain⟨U',H',I,q⟩:=h;exact⟨U',H',I.mU,q⟩
 |brk=>obtain⟨U',H',I,q⟩:=h;exact⟨U',H',I.mU,q⟩
 |cont=>obtain⟨U',H',I,q⟩:=h;exact⟨U',H',I.mU,q⟩
 |ret u=>obtain⟨v,U',H',I,r,q⟩:=h;exact⟨v,U',H',I.mU,r,q⟩
theorem dg.oE {st:List Stmt}{t:TS}(h:dg X.oE st t):dg X st t:=λpins s U H D I hw=>wpAny_mono (h pins s U H D (I.kC _) hw) (λ_ _ q=>q.mU) λ_ _ z=>False.elim z
end
section
variable {X:Cx}{st:Stmt}{rest:List Stmt}{t u:TS}{e:Expr}{te:TE}{pos:Pos}
def Rb:TS:=λD U H=>D.nx U H
def JV (t u:TS):TS:=λD U H=>t {D with nx:=u D} U H
theorem qe:dg X [] Rb:=λ_ _ U H _ I h=>wpAny_execs_nil ⟨U,H,I,h⟩
theorem jd (h1:PS X st t)(h2:dg X rest u):dg X (st::rest) (JV t u):=by
 intro pins s U H D I h;refine wpAny_execs_cons (ai (h1 pins s U H {D with nx:=u D} I h) λf s1 q=>?_);cases f with
 |next=>obtain⟨U',H',I',q⟩:=q;exact h2 pins s1 U' H' D I' q
 |ret v=>exact q
 |brk=>exact q
 |cont=>exact q
theorem jg (h1:PS X st t):dg X [st] t:=by
 intro pins s U H D I h;refine wpAny_execs_cons (ai (h1 pins s U H D I h) λf s1 q=>?_);cases f with
 |next=>exact wpAny_execs_nil q
 |ret v=>exact q
 |brk=>exact q
 |cont=>exact q
theorem Inv.quiet {pins:List (Addr×Obj)}{U:St}{H:Hp}{s:Shared}(I:Inv X pins U H s):interactive X.env=false:=by simp[interactive,I.ok.kind]
def Rc (te:TE):TS:=λD U H=>te U H λ_ H1=>D.nx U H1
theorem qb (he:PE X e te)(hs:autoParam (swapsWith e none pos.line X.env=pure false) aP1):PS X (.Expr e pos) (Rc te):=by intro pins s U H D I h;exact wpAny_Expr_any (ai (he pins s U H _ I h) λv s1 ⟨x,H1,I1,r1,q1⟩=>⟨U,H1,I1,q1⟩) I.quiet hs
def Rf (te:TE):TS:=λD U H=>te U H D.rt
theorem j6 (he:PE X e te):PS X (.Return (some e) pos) (Rf te):=by intro pins s U H D I h;exact wpAny_Return_some (ai (he pins s U H _ I h) λv s1 ⟨x,H1,I1,r1,q1⟩=>⟨x,U,H1,I1,r1,q1⟩)
def JW (c:TT)(t u:TS):TS:=λD U H=>c U H λb H1=>if b=true then t D U H1 else u D U H1
theorem zk {c:Expr}{a b:List Stmt}{tc:TT}(hc:PT X c tc)(ha:dg X a t)(hb:dg X b u):PS X (.If c a b pos) (JW tc t u):=by
 intro pins s U H D I h;refine wpAny_If (ai (hc pins s U H _ I h) λd s1 zQ=>?_);obtain⟨H1,I1,q1⟩:=zQ;cases d with
 |true=>exact ha pins s1 U H1 D I1 q1
 |false=>exact hb pins s1 U H1 D I1 q1
def JX:TS:=λ_ _ _=>False
theorem Rg:PS X st JX:=λ_ _ _ _ _ _ h=>h.elim
theorem qw {Rh:List Stmt}:dg X Rh JX:=λ_ _ _ _ _ _ h=>h.elim
end
abbrev TG:=V->St->Hp->(St->Hp->Prop)->Prop
abbrev mV:=List V->St->Hp->(St->Hp->Prop)->Prop
noncomputable def PG (X:Cx)(target:Expr)(t:TG):Prop:=∀(pins:List (Addr×Obj))(s:Shared)(U:St)(H:Hp)(v:V)(u:Value)(Q:St->Hp->Prop),Inv X pins U H s->RelV v u->t v U H Q->wpAny (model X.prog X.w) X.A (assign target X.env u) (λ_ s'=>∃U' H',Inv X pins U' H' s'/\Q U' H') X.xe s
noncomputable def sN (X:Cx)(ts:List Expr)(t:mV):Prop:=∀(pins:List (Addr×Obj))(s:Shared)(U:St)(H:Hp)(vs:List V)(us:List Value)(Q:St->Hp->Prop),Inv X pins U H s->Vals vs us->t vs U H Q->wpAny (model X.prog X.w) X.A (assignInOrder ((assignEach ts X.env).map (·.2)) us) (λ_ s'=>∃U' H',Inv X pins U' H' s'/\Q U' H') X.xe s
abbrev sO:=V->V->V->Hp->(Hp->Prop)->Prop
noncomputable def CH (X:Cx)(t:sO):Prop:=∀(pins:List (Addr×Obj))(s:Shared)(U:St)(H:Hp)(o i v:V)(ov iv u:Value)(Q:Hp->Prop),Inv X pins U H s->RelV o ov->RelV i iv->RelV v u->t o i v H Q->wpAny (model X.prog X.w) X.A (setItem ov iv u) (λ_ s'=>∃H',Inv X pins U H' s'/\Q H') X.xe s
abbrev yJ:=V->V->Hp->VK->Prop
noncomputable def CI (X:Cx)(op:Operator)(t:yJ):Prop:=∀(pins:List (Addr×Obj))(s:Shared)(U:St)(H:Hp)(x y:V)(v u:Value)(Q:VK),Inv X pins U H s->RelV x v->RelV y u->t x y H Q->wpAny (model X.prog X.w) X.A (inplaceOp op v u) (EP X pins U Q) X.xe s
section
variable {X:Cx}{pos:Pos}
def dy (i:Nat):TG:=λv U H Q=>Q (U.set i (some v)) H
theorem jr {i:Nat}{x:Str}(hN:X.N.Nodup)(hi:X.N[i]?=some x)(hx:Loc X.env.scope x)(hf:autoParam (X.fn x=true\/X.env.scope.names.lookup x=some .local) aP5):PG X (.Name x pos) (dy i):=by intro pins s U H v u Q I r h;exact wpAny_assign_Name (yE I hN hi hx r (λs' I'=>⟨_,H,I',h⟩) hf)
def yK:mV:=λvs U H Q=>vs=[]/\Q U H
def oF (t:TG)(u:mV):mV:=λvs U H Q=>∃v r,vs=v::r/\t v U H λU' H'=>u r U' H' Q
theorem kE:sN X [] yK:=by intro pins s U H vs us Q I r h;obtain⟨e,h⟩:=h;subst e;cases r;exact assignInOrder_nil ⟨U,H,I,h⟩
theorem jy {e:Expr}{es:List Expr}{t:TG}{u:mV}(h1:PG X e t)(h2:sN X es u)(hs:autoParam ((assignEach (e::es) X.env).map (·.2)=assign e X.env::(assignEach es X.env).map (·.2)) aP1):sN X (e::es) (oF t u):=by
 intro pins s U H vs us Q I r h;obtain⟨v,vr,e1,h⟩:=h;subst e1;cases r with
 |cons r rr=>rw[hs];refine assignInOrder_cons (ai (h1 pins s U H _ _ _ I r h) λ_ s1 zQ=>?_);obtain⟨U1,H1,I1,q1⟩:=zQ;exact h2 pins s1 U1 H1 _ _ Q I1 rr q1
def CJ (K:PySem.W.Frag)(n:Nat)(t:mV):TG:=λv U H Q=>∃a xs,v= .ref a/\aA K H a xs/\xs.length=n/\t xs U H Q
theorem lG {es:List Expr}{k:Nat}{t:mV}{n:Nat}(hc:X.calm=true)(h:sN X es t)(hn:autoParam ((assignEach es X.env).length=n) aP1)(ig:autoParam ((assignEach es X.env).findIdx? (·.1)=none) aP1):PG X (.Tuple es k pos) (CJ X.K n t):=by
 intro pins s U H v u Q I r hw;obtain⟨a,xs,e1,hq,hl,hw⟩:=hw;subst e1;cases r;obtain⟨its,rv,ht,hz⟩:=I.tuple hq;refine assign_Tuple_tuple (I.ok.hd hc) ht (by simp[hn,<-hl,rv.length]) ig λh' hx=>?_;have I1:Inv X pins U H {s with heap:=h'}:=I.kept (t':=s.toks) λb o e=>hx b o (ne_of_lt (Heap.lt_size e)) e;exact h pins _ U H xs _ Q I1 (by simpa using rv) hw
def Ri (to ti:TE)(t:sO):TG:=λv U H Q=>to U H λo H1=>ti U H1 λi H2=>t o i v H2 λH3=>Q U H3
theorem JY {o i:Expr}{to ti:TE}{t:sO}(ho:PE X o to)(hi:PE X i ti)(hs:CH X t)(ha:autoParam (∀v,assign (.Subscript o i pos) X.env v=(do
   let ov<-holding [v] (eval o X.env);let iv<-holding [v,ov] (eval i X.env)
   standAt pos
   holding [v,ov,iv] (setItem ov iv v)
   release [v,ov,iv] [])) aP3):PG X (.Subscript o i pos) (Ri to ti t):=by
 intro pins s U H v u Q I r h;rw[ha];refine wpAny_bind (wpAny_holding (ai (ho pins s U H _ I h) λov s1 zQ=>?_));obtain⟨x,H1,I1,r1,q1⟩:=zQ;refine wpAny_bind (wpAny_holding (ai (hi pins s1 U H1 _ I1 q1) λiv s2 zQ=>?_));obtain⟨y,H2,I2,r2,q2⟩:=zQ;refine wpAny_bind (wpAny_standAt (wpAny_bind (wpAny_holding (ai (hs pins s2 U H2 x y v ov iv u _ I2 r1 r2 r q2) λ_ s3 zQ=>?_))));obtain⟨H3,I3,q3⟩:=zQ;exact wpAny_release ⟨U,H3,I3,q3⟩
def CK (te:TE)(g:TG):TS:=λD U H=>te U H λx H1=>g x U H1 D.nx
theorem lH {tg e:Expr}{te:TE}{g:TG}(he:PE X e te)(hg:PG X tg g)(hs:autoParam (swapsWithSole [tg] e pos.line X.env=pure false) aP1)(hw:autoParam (swappedStores [tg] e X.env=pure none) aP1)(h1:autoParam ((assignEach [tg] X.env).map (·.2)=[assign tg X.env]) aP1):PS X (.Assign [tg] e pos) (CK te g):=by
 intro pins s U H D I h;refine wpAny_Assign_stores (ai (he pins s U H _ I h) λv s1 zQ=>?_) hs hw;obtain⟨x,H1,I1,r1,q1⟩:=zQ;rw[h1];exact ai (hg pins s1 U H1 x v _ I1 r1 q1) λ_ s2 q=>q
theorem j9 {i:Nat}{x:Str}{e:Expr}{te:TE}{pos':Pos}(hN:X.N.Nodup)(hi:X.N[i]?=some x)(hx:Loc X.env.scope x)(he:PE X e te)(hs:autoParam (swapsWith e (some (.Name x pos')) pos.line X.env=pure false) aP1)(hf:autoParam (X.fn x=true\/X.env.scope.names.lookup x=some .local) aP5):PS X (.Assign [.Name x pos'] e pos) (CK te (dy i)):=by
 intro pins s U H D I h;refine wpAny_Assign_Name (ai (he pins s U H _ I h) λv s1 zQ=>?_) hs;obtain⟨y,H1,I1,r1,q1⟩:=zQ;exact yE I1 hN hi hx r1 (λs2 I2=>⟨_,H1,I2,q1⟩) hf
noncomputable def Rj (to ti te:TE)(lI:V->V->Hp->VK->Prop)(yL:yJ)(lJ:sO):TS:=λD U H=>to U H λo H1=>ti U H1 λi H2=>lI o i H2 λx H3=>te U H3 λy H4=>yL x y H4 λz H5=>lJ o i z H5 λH6=>D.nx U H6
noncomputable def JZ (X:Cx)(t:V->V->Hp->VK->Prop):Prop:=∀(pins:List (Addr×Obj))(s:Shared)(U:St)(H:Hp)(o i:V)(ov iv:Value)(Q:VK),Inv X pins U H s->RelV o ov->RelV i iv->t o i H Q->wpAny (model X.prog X.w) X.A (getItem ov iv) (EP X pins U Q) X.xe s
theorem CL {o i e:Expr}{to ti te:TE}{lI:V->V->Hp->VK->Prop}{yL:yJ}{lJ:sO}{op:Operator}{fK:Pos}(ho:PE X o to)(hi:PE X i ti)(hg:JZ X lI)(he:PE X e te)(hp:CI X op yL)(hs:CH X lJ)(ha:∀ov iv new,augStore i ov iv new=(do holding [new,ov,iv] (setItem ov iv new);release [new,ov,iv] [];pure .next):=by intros;rfl):PS X (.AugAssign (.Subscript o i fK) op e pos) (Rj to ti te lI yL lJ):=by
 intro pins s U H D I h;refine wpAny_AugAssign_SubscriptAny (ai (ho pins s U H _ I h) λov s1 zQ=>?_) ha;obtain⟨x1,H1,I1,r1,q1⟩:=zQ;refine ai (hi pins s1 U H1 _ I1 q1) λiv s2 zQ=>?_;obtain⟨x2,H2,I2,r2,q2⟩:=zQ;refine ai (hg pins s2 U H2 x1 x2 ov iv _ I2 r1 r2 q2) λold s3 zQ=>?_;obtain⟨x3,H3,I3,r3,q3⟩:=zQ;refine ai (he pins s3 U H3 _ I3 q3) λv s4 zQ=>?_;obtain⟨x4,H4,I4,r4,q4⟩:=zQ;refine ai (hp pins s4 U H4 x3 x4 old v _ I4 r3 r4 q4) λnew s5 zQ=>?_;obtain⟨x5,H5,I5,r5,q5⟩:=zQ;exact ai (hs pins s5 U H5 x1 x2 x5 ov iv new _ I5 r1 r2 r5 q5) λ_ s6 ⟨H6,I6,q6⟩=>⟨U,H6,I6,q6⟩
def J1 (f:Int->Int->Int):yJ:=λx y H Q=>∃i j,x= .int i/\y= .int j/\Q (.int (f i j)) H
theorem J2:CI X .Add (J1 λi j=>i+j):=by intro pins s U H x y v u Q I r1 r2 h;obtain⟨i,j,e1,e2,q⟩:=h;subst e1;subst e2;obtain⟨t,rfl⟩:=r1;obtain⟨t',rfl⟩:=r2;exact iadd_int ⟨.int _,H,I.tok _,⟨_,rfl⟩,q⟩
theorem Rk:CI X .Sub (J1 λi j=>i-j):=by intro pins s U H x y v u Q I r1 r2 h;obtain⟨i,j,e1,e2,q⟩:=h;subst e1;subst e2;obtain⟨t,rfl⟩:=r1;obtain⟨t',rfl⟩:=r2;exact isub_int ⟨.int _,H,I.tok _,⟨_,rfl⟩,q⟩
noncomputable def J3 (c:TT)(tb:TS):TS:=λD U H=>∃W:Nat->St->Hp->Prop,(∃m,W m U H)/\∀m U H,W m U H->c U H λb H1=>if b=true then ∃N:St->Hp->Prop,(∀U' H',N U' H'->∃m',m'<m/\W m' U' H')/\tb {D with nx:=N,ct:=N,bk:=D.nx} U H1 else D.nx U H1
theorem Rl {c:Expr}{body:List Stmt}{tc:TT}{tb:TS}(hp:PassesOwn (model X.prog X.w) X.A X.env X.xe)(hc:PT X c tc)(hb:dg X body tb):PS X (.While c body [] pos) (J3 tc tb):=by
 intro pins s U H D I h;obtain⟨W,⟨m0,w0⟩,turn⟩:=h;refine wpAny_While (codeAny_whileLoop (λn s'=>∃U' H',Inv X pins U' H' s'/\W n U' H') ?_ m0 ⟨U,H,I,w0⟩)
 rintro n s1 ⟨U1,H1,I1,w1⟩
 refine wpAny_passesOwn hp (ai (hc pins s1 U1 H1 _ I1 (turn n U1 H1 w1)) λb s2 zQ=>?_);obtain⟨H2,I2,q2⟩:=zQ;cases b with
 |true=>
  obtain⟨N,hN,q2⟩:=q2;rw[if_pos rfl];refine wpAny_passesOwn hp (ai (hb pins s2 U1 H2 _ I2 q2) λf s3 q3=>?_);cases f with
  |next=>obtain⟨iS,H3,I3,n3⟩:=q3;obtain⟨m',hm,w3⟩:=hN iS H3 n3;exact⟨m',hm,iS,H3,I3,w3⟩
  |cont=>obtain⟨iS,H3,I3,n3⟩:=q3;obtain⟨m',hm,w3⟩:=hN iS H3 n3;exact⟨m',hm,iS,H3,I3,w3⟩
  |brk=>exact q3
  |ret v=>exact q3
 |false=>rw[if_neg Bool.false_ne_true];exact wpAny_execs_nil ⟨U1,H2,I2,q2⟩
end
structure It where
 go:Nat->Hp->Prop
 dO:Nat->Hp->V->Hp->Prop
 stop:Nat->Hp->Prop
noncomputable def dP (X:Cx)(pins:List (Addr×Obj))(H:Hp)(b:Addr):Prop:=H b=none/\b≠X.env.locals/\b∉X.fs/\(b∈X.ex\/X.av.heap.objs.size<=b)/\(∀x c,X.env.cells.lookup x=some c->c≠b)/\∀p∈X.pn++pins,p.1≠b
theorem Inv.oG {X:Cx}{pins:List (Addr×Obj)}{U:St}{H H':Hp}{s:Shared}{b:Addr}(I:Inv X pins U H s)(hb:s.heap.objs.size<=b)(hn:H' b=none):dP X pins H' b:=by
 refine⟨hn,Nat.ne_of_gt (lt_of_lt_of_le I.lt hb),I.JM hb,.inr (le_trans I.sz hb),λx c e z=>?_,λp hp z=>?_⟩
 .obtain⟨v,q⟩:=I.cell x c e;exact absurd (lt_of_lt_of_le q.lt (by rw[z];exact hb)) (lt_irrefl _)
 .exact absurd (lt_of_lt_of_le (Heap.lt_size (I.pin p hp).1) (by rw[z];exact hb)) (lt_irrefl _)
structure Turn (P:Program)(w:World)(K:PySem.W.Frag)(tg:Expr)(J:It)(fp:List Addr)(it:Addr)(tn:Nat->Heap->Prop):Prop where
 mem:it∈fp
 obj:∀i h,tn i h->∀b∈fp,∃o,h.get? b=some o/\∀v,o.data≠.cell v
 keep:∀i h h',tn i h->(∀b∈fp,∀o,h.get? b=some o->h'.get? b=some o)->tn i h'
 item:∀(X:Cx),X.prog=P->X.w=w->X.K=K->X.calm=true->∀(i:Nat)(pins:List (Addr×Obj))(s:Shared)(U:St)(H:Hp)(E:Value->Shared->Prop),Inv X pins U H s->(∀b∈fp,dP X pins H b)->tn i s.heap->J.go i H->wpAny (model P w) X.A (pyNext (.ref it)) (λr s1=>∃u,r=some u/\wpAny (model P w) X.A (letOwnedTupleGo tg (.ref it) u) (λ_ s2=>∃x H',Inv X pins U H' s2/\RelV x u/\J.dO i H x H'/\tn (i+1) s2.heap/\∀b∈fp,H' b=none) E s1) E s
 done:∀(X:Cx),X.prog=P->X.w=w->X.K=K->X.calm=true->∀(i:Nat)(pins:List (Addr×Obj))(s:Shared)(U:St)(H:Hp)(E:Value->Shared->Prop),Inv X pins U H s->(∀b∈fp,dP X pins H b)->tn i s.heap->J.stop i H->wpAny (model P w) X.A (pyNext (.ref it)) (λr s1=>r=none/\Inv X pins U H s1) E s
 self:∀(A:Around)(i:Nat)(s:Shared)(Q:Value->Shared->Prop)(E:Value->Shared->Prop),tn i s.heap->Q (.ref it) s->wpAny (model P w) A (pyIter (.ref it)) Q E s
abbrev TI:=St->Hp->(It->Hp->Prop)->Prop
noncomputable def J4 (X:Cx)(pins:List (Addr×Obj))(U:St)(tg:Expr)(R:It->Hp->Prop)(qN:Value)(s2:Shared):Prop:=∃(it:Addr)(fp:List Addr)(tn:Nat->Heap->Prop)(J:It)(H':Hp),qN= .ref it/\Inv X pins U H' s2/\Turn X.prog X.w X.K tg J fp it tn/\tn 0 s2.heap/\(∀b∈fp,dP X pins H' b)/\R J H'
noncomputable def PI (X:Cx)(tg iter:Expr)(wi:TI):Prop:=∀(pins:List (Addr×Obj))(s:Shared)(U:St)(H:Hp)(R:It->Hp->Prop),Inv X pins U H s->wi U H R->wpAny (model X.prog X.w) X.A (eval iter X.env) (λv s1=>wpAny (model X.prog X.w) X.A (pyIter v) (J4 X pins U tg R) X.xe s1) X.xe s
theorem qO {M:Model}{A:Around}{E:Value->Shared->Prop}{s:Shared}{tg:Expr}{it:Addr}{u:Value}{o:Obj}{n:String}{vs:Array Value}{Q:Unit->Shared->Prop}(ho:s.heap.get? it=some o)(hc:o.cls= .type n)(hd:o.data= .fields vs)(hn:["enumerate","zip","dict_itemiterator","dict_reverseitemiterator","odict_iterator","itertools.zip_longest","itertools.pairwise"].contains n=false)(hQ:Q () s):wpAny M A (letOwnedTupleGo tg (.ref it) u) Q E s:=by
  unfold letOwnedTupleGo;cases tg<;>first
    |exact wpAny_pure hQ
    |(cases u<;>first
        |exact wpAny_pure hQ
        | (refine wpAny_bind (wpAny_load ho ?_)
           rw[hc,hd];show wpAny M A (if(["enumerate","zip","dict_itemiterator","dict_reverseitemiterator","odict_iterator","itertools.zip_longest","itertools.pairwise"].contains n&&vs[0]?==some (rawInt _))=true then _ else _) Q E s;rw[if_neg (by intro h;rw[hn,Bool.false_and]at h;cases h)];exact wpAny_pure hQ))
noncomputable def mW (K:PySem.W.Frag)(a:Addr):It:=⟨λi H=>∃xs x,ah K H a xs/\xs[i]?=some x,λi H x H'=>H'=H/\∀xs,ah K H a xs->xs[i]?=some x,λi H=>∃xs,ah K H a xs/\xs.length<=i⟩
noncomputable def sP (K:PySem.W.Frag)(a:Addr):It:=⟨λi H=>∃xs x,aA K H a xs/\xs[i]?=some x,λi H x H'=>H'=H/\∀xs,aA K H a xs->xs[i]?=some x,λi H=>∃xs,aA K H a xs/\xs.length<=i⟩
def kF (lo:Int)(n:Nat):It:=⟨λi _=>i<n,λi H x H'=>H'=H/\x= .int (lo+i),λi _=>n<=i⟩
theorem Rm {P:Program}{w:World}{K:PySem.W.Frag}{tg:Expr}(a it:Addr):Turn P w K tg (mW K a) [it] it (λi h=>h.IsListIter it a i) where
 mem:=by simp
 obj:=λi h st b hb=>by
  have e:b=it:=by simpa using hb
  subst e;obtain⟨o,e,c,d⟩:=st;exact⟨o,e,λv z=>by rw[d]at z;cases z⟩
 keep:=λi h h' st k=>st.at λo e=>k it (by simp) o e
 item:=by intro X hP hw hK hc i pins s U H E I hf st hg;subst hP hw hK;obtain⟨xs,x,hq,hx⟩:=hg;obtain⟨its,rv,p,hz⟩:=I.list hq;obtain⟨u,hu,ru⟩:=rv.get hx;obtain⟨f0,f1,f2,f3,f4,f5⟩:=hf it (by simp);refine wpAny_pyNext_list_item st p.isList (x:=u) (by simpa using hu) λh' bD sb=>?_;have I1:Inv X pins U H {s with heap:=h'}:=I.turned (t':=s.toks) (λb o hb e=>(sb.2 b hb).trans e) f0 f1 f3 f4 f5;obtain⟨o,e,c,d⟩:=id bD;exact⟨u,rfl,qO (s:={s with heap:=h'}) e c d (by decide) ⟨x,H,I1,ru,⟨rfl,λys hy=>by rw[I.JU hy hq];exact hx⟩,bD,λb hb=>(hf b hb).1⟩⟩
 done:=by intro X hP hw hK hc i pins s U H E I hf st hg;subst hP hw hK;obtain⟨xs,hq,hx⟩:=hg;obtain⟨its,rv,p,hz⟩:=I.list hq;obtain⟨f0,f1,f2,f3,f4,f5⟩:=hf it (by simp);have hl:=rv.length;exact wpAny_pyNext_list_end (I.ok.hd hc) st p.isList (by simp;lia) λh' eb=>⟨rfl,I.turned (t':=s.toks) (λb o hb e=>eb b o hb e) f0 f1 f3 f4 f5⟩
 self:=λ_ _ _ _ _ st h=>wpAny_pyIter_listiter st h
theorem Rn {P:Program}{w:World}{K:PySem.W.Frag}{tg:Expr}(a it:Addr):Turn P w K tg (sP K a) [it] it (λi h=>h.IsTupleIter it a i) where
 mem:=by simp
 obj:=λi h st b hb=>by
  have e:b=it:=by simpa using hb
  subst e;obtain⟨o,e,c,d⟩:=st;exact⟨o,e,λv z=>by rw[d]at z;cases z⟩
 keep:=λi h h' st k=>st.at λo e=>k it (by simp) o e
 item:=by intro X hP hw hK hc i pins s U H E I hf st hg;subst hP hw hK;obtain⟨xs,x,hq,hx⟩:=hg;obtain⟨its,rv,p,hz⟩:=I.tuple hq;obtain⟨u,hu,ru⟩:=rv.get hx;obtain⟨f0,f1,f2,f3,f4,f5⟩:=hf it (by simp);refine wpAny_pyNext_tuple_item st (show s.heap.IsTuple a its.toArray from p) (x:=u) (by simpa using hu) λh' bD sb=>?_;have I1:Inv X pins U H {s with heap:=h'}:=I.turned (t':=s.toks) (λb o hb e=>(sb.2 b hb).trans e) f0 f1 f3 f4 f5;obtain⟨o,e,c,d⟩:=id bD;exact⟨u,rfl,qO (s:={s with heap:=h'}) e c d (by decide) ⟨x,H,I1,ru,⟨rfl,λys hy=>by rw[I.CG hy hq];exact hx⟩,bD,λb hb=>(hf b hb).1⟩⟩
 done:=by intro X hP hw hK hc i pins s U H E I hf st hg;subst hP hw hK;obtain⟨xs,hq,hx⟩:=hg;obtain⟨its,rv,p,hz⟩:=I.tuple hq;obtain⟨f0,f1,f2,f3,f4,f5⟩:=hf it (by simp);have hl:=rv.length;exact wpAny_pyNext_tuple_end (I.ok.hd hc) st (show s.heap.IsTuple a its.toArray from p) (by simp;lia) λh' eb=>⟨rfl,I.turned (t':=s.toks) (λb o hb e=>eb b o hb e) f0 f1 f3 f4 f5⟩
 self:=λ_ _ _ _ _ st h=>wpAny_pyIter_tupleiter st h
theorem Ro {P:Program}{w:World}{K:PySem.W.Frag}{tg:Expr}(it:Addr)(lo:Int)(n:Nat):Turn P w K tg (kF lo n) [it] it (λi h=>IsRangeIter h it (lo+(i:Nat)*1) ((n:Int)-(i:Nat)) 1) where
 mem:=by simp
 obj:=λi h st b hb=>by
  have e:b=it:=by simpa using hb
  subst e;exact⟨_,st,λv z=>by have z':Data.fields _=Data.cell v:=z;cases z'⟩
 keep:=λi h h' st k=>k it (by simp) _ st
 item:=by intro X hP hw hK hc i pins s U H E I hf st hg;subst hP hw hK;obtain⟨f0,f1,f2,f3,f4,f5⟩:=hf it (by simp);have W:=Walks.range (prog:=X.prog) (w:=X.w) (I.ok.hd hc) it lo 1 n;refine W.item i s _ _ hg st λv h' tk hv bD kk=>?_;obtain⟨t,rfl⟩:=hv;have I1:Inv X pins U H {s with heap:=h',toks:=tk}:=I.turned (λb o hb e=>kk b o (by simpa using hb) e) f0 f1 f3 f4 f5;refine⟨_,rfl,qO (s:={s with heap:=h',toks:=tk}) (n:="range_iterator") bD rfl rfl (by decide) ⟨.int (lo+i),H,I1,⟨t,?_⟩,⟨rfl,rfl⟩,bD,λb hb=>(hf b hb).1⟩⟩;rw[Int.mul_one]
 done:=by intro X hP hw hK hc i pins s U H E I hf st hg;subst hP hw hK;obtain⟨f0,f1,f2,f3,f4,f5⟩:=hf it (by simp);exact wpAny_pyNext_range_end (I.ok.hd hc) st (by have:n<=i:=hg;lia) λh' eb=>⟨rfl,I.turned (t':=s.toks) (λb o hb e=>eb b o hb e) f0 f1 f3 f4 f5⟩
 self:=λ_ _ _ _ _ st h=>wpAny_pyIter_rangeiter st h
section
variable {X:Cx}{tg:Expr}
def J6 (K:PySem.W.Frag)(tl:TE):TI:=λU H R=>tl U H λx H1=>∃a,x= .ref a/\(∃xs,ah K H1 a xs)/\R (mW K a) H1
def J7 (K:PySem.W.Frag)(tl:TE):TI:=λU H R=>tl U H λx H1=>∃a,x= .ref a/\(∃xs,aA K H1 a xs)/\R (sP K a) H1
theorem gh {l:Expr}{tl:TE}(hl:PE X l tl):PI X tg l (J6 X.K tl):=by
 intro pins s U H R I h;refine ai (hl pins s U H _ I h) λv s1 zQ=>?_;obtain⟨x,H1,I1,r1,q1⟩:=zQ;obtain⟨a,e,⟨xs,hq⟩,q⟩:=q1;subst e;cases r1;obtain⟨its,rv,p,hz⟩:=I1.list hq;refine wpAny_pyIter_list p.isList ?_;refine⟨s1.heap.objs.size,[s1.heap.objs.size],_,_,H1,rfl,I1.kept (t':=s1.toks) λb o e=>Heap.get?_push_of_some _ e,Rm a _,⟨_,Heap.get?_push_size _ rfl,rfl,rfl⟩,λb hb=>?_,q⟩;have e:b=s1.heap.objs.size:=by simpa using hb
 subst e;exact I1.oG (le_refl _) (I1.ag.fresh (le_refl _))
theorem Rp {l:Expr}{tl:TE}(hl:PE X l tl):PI X tg l (J7 X.K tl):=by
 intro pins s U H R I h;refine ai (hl pins s U H _ I h) λv s1 zQ=>?_;obtain⟨x,H1,I1,r1,q1⟩:=zQ;obtain⟨a,e,⟨xs,hq⟩,q⟩:=q1;subst e;cases r1;obtain⟨its,rv,p,hz⟩:=I1.tuple hq;refine wpAny_pyIter_tuple (show s1.heap.IsTuple a its.toArray from p) ?_;refine⟨s1.heap.objs.size,[s1.heap.objs.size],_,_,H1,rfl,I1.kept (t':=s1.toks) λb o e=>Heap.get?_push_of_some _ e,Rn a _,⟨_,Heap.get?_push_size _ rfl,rfl,rfl⟩,λb hb=>?_,q⟩;have e:b=s1.heap.objs.size:=by simpa using hb
 subst e;exact I1.oG (le_refl _) (I1.ag.fresh (le_refl _))
theorem Rq {pins:List (Addr×Obj)}{U:St}{H:Hp}{s:Shared}{R:It->Hp->Prop}{E:Value->Shared->Prop}{lo hi:Int}{t u v:Tok}{tk:Nat}(I:Inv X pins U H s)(h1:-(2^62)<=lo)(h2:lo<2^62)(h3:-(2^62)<=hi)(h4:hi<2^62)(q:R (kF lo (hi-lo).toNat) H):wpAny (model X.prog X.w) X.A (pyIter (.ref s.heap.objs.size)) (J4 X pins U tg R) E {s with heap:=s.heap.push {cls:=.type "range",data:=.fields #[.int lo t,.int hi u,.int 1 v]},toks:=tk}:=by
 refine wpAny_pyIter_range (IsRange.new ..) (small_one h1 h2 h3 h4) ?_;have I1:Inv X pins U H {s with heap:=s.heap.push {cls:=.type "range",data:=.fields #[.int lo t,.int hi u,.int 1 v]},toks:=tk}:=I.kept λb o e=>Heap.get?_push_of_some _ e;refine⟨(s.heap.push {cls:=.type "range",data:=.fields #[.int lo t,.int hi u,.int 1 v]}).objs.size,[(s.heap.push {cls:=.type "range",data:=.fields #[.int lo t,.int hi u,.int 1 v]}).objs.size],_,_,H,rfl,I1.kept (t':=tk) λb o e=>Heap.get?_push_of_some _ e,Ro _ lo (hi-lo).toNat,?_,λb hb=>?_,q⟩
 .have e1:lo+((0:Nat):Int)*1=lo:=by simp
  have e2:(((hi-lo).toNat:Nat):Int)-((0:Nat):Int)=Builtin.Range.rangeSize lo hi 1:=by rw[rangeSize_one];split<;>lia
  show IsRangeIter _ _ (lo+((0:Nat):Int)*1) ((((hi-lo).toNat:Nat):Int)-((0:Nat):Int)) 1;rw[e1,e2];exact Heap.get?_push_size _ rfl
 .have e:b=(s.heap.push {cls:=.type "range",data:=.fields #[.int lo t,.int hi u,.int 1 v]}).objs.size:=by simpa using hb
  subst e;exact I1.oG (le_refl _) (I1.ag.fresh (le_refl _))
def Rr (ta:TA):TI:=λU H R=>ta U H λvs H1=>∃j:Int,vs=[.int j]/\-(2^62)<=j/\j<2^62/\R (kF 0 j.toNat) H1
theorem mX {a:Expr}{ta:TA}{p pos:Pos}(hg:Gl X "range")(hm:X.mg "range"=none)(ha:PA X [a] ta)(hs:autoParam (starEach [a] X.env=[(false,eval a X.env)]) aP1):PI X tg (.Call (.Name "range" p) [a] [] pos) (Rr ta):=by
 intro pins s U H R I h;refine Call_ (yF I hg hm boot_range (PyProof.Rows.callWith_type1 (ai (ha pos pins s U H _ I h) λus s1 zQ=>?_) hs rfl));obtain⟨vs,H1,I1,r1,q1⟩:=zQ;obtain⟨j,e,q1,q2,q⟩:=q1;subst e;cases r1 with
 |cons r rr=>cases rr;obtain⟨t,rfl⟩:=r;exact call_range_1 (Rq I1 (by lia) (by lia) q1 q2 (by simpa using q))
noncomputable def Rt (wi:TI)(g:TG)(tb:TS):TS:=λD U H=>wi U H λJ H1=>∃W:Nat->Nat->St->Hp->Prop,(∃m,W 0 m U H1)/\∀i m U H,W i m U H->(J.stop i H/\D.nx U H)\/(J.go i H/\∃N:St->Hp->Prop,(∀U' H',N U' H'->∃m',m'<m/\W (i+1) m' U' H')/\∀x H',J.dO i H x H'->g x U H' λU2 H2=>tb {D with nx:=N,ct:=N,bk:=D.nx} U2 H2)
def kG (fp:List Addr)(h:Heap):List (Addr×Obj):=fp.filterMap λb=>(h.get? b).map λo=>(b,o)
theorem sQ {fp:List Addr}{h:Heap}{b:Addr}{o:Obj}(hb:b∈fp)(e:h.get? b=some o):(b,o)∈kG fp h:=mem_filterMap.mpr ⟨b,hb,by rw[e];rfl⟩
theorem J8 {fp:List Addr}{h:Heap}{p:Addr×Obj}(hp:p∈kG fp h):p.1∈fp/\h.get? p.1=some p.2:=by
 obtain⟨b,hb,e⟩:=mem_filterMap.mp hp;cases q:h.get? b with
 |none=>rw[q]at e;cases e
 |some o=>rw[q]at e;have e':(b,o)=p:=Option.some.inj e;subst e';exact⟨hb,q⟩
theorem Inv.pinned {pins:List (Addr×Obj)}{U:St}{H:Hp}{s:Shared}{fp:List Addr}(I:Inv X pins U H s)(hf:∀b∈fp,dP X pins H b)(ho:∀b∈fp,∃o,s.heap.get? b=some o/\∀v,o.data≠.cell v):Inv X (pins++kG fp s.heap) U H s:=I.yC λp hp=>(mem_append.mp hp).elim (λz=>I.pin p (mem_append_right _ z)) λz=>by obtain⟨hb,e⟩:=J8 z;obtain⟨f0,f1,f2,_⟩:=hf p.1 hb;obtain⟨o,e',d⟩:=ho p.1 hb;rw[e]at e';cases e';exact⟨e,f0,f1,f2,d⟩
theorem Inv.qP {pins pl:List (Addr×Obj)}{U:St}{H:Hp}{s:Shared}(I:Inv X (pins++pl) U H s):Inv X pins U H s:=I.yC λp hp=>I.pin p (mem_append_right _ (mem_append_left _ hp))
theorem ij {iter:Expr}{body:List Stmt}{wi:TI}{g:TG}{tb:TS}{pos:Pos}(hp:PassesOwn (model X.prog X.w) X.A X.env X.xe)(hc:X.calm=true)(hi:PI X tg iter wi)(hg:PG X tg g)(hb:dg X body tb)(hs:autoParam (∀x,foldedSetIterable iter X.env x=pure x) aP3):PS X (.For tg iter body [] pos) (Rt wi g tb):=by
 intro pins s U H D I h;refine wpAny_For (ai (hi pins s U H _ I h) λv s1 h1=>ai h1 λqN s2 h2=>?_) hs;obtain⟨it,fp,tn,J,H2,e,I2,T,Ru,f2,W,⟨m0,w0⟩,turn⟩:=h2;subst e;have oH:∀{H':Hp},(∀b∈fp,H' b=none)->∀b∈fp,dP X pins H' b:=λhn b hb=>⟨hn b hb,(f2 b hb).2⟩;refine codeAny_forLoop_any (λn s'=>∃i U' H',Inv X pins U' H' s'/\tn i s'.heap/\(∀b∈fp,H' b=none)/\W i n U' H') ?_ m0 ⟨0,U,H2,I2,Ru,λb hb=>(f2 b hb).1,w0⟩
 rintro n s3 ⟨i,iS,H3,I3,sR,J9,w3⟩
 rcases turn i n iS H3 w3 with⟨stop,qn⟩|⟨go,N,hN,step⟩
 .refine wpAny_passesOwn hp (ai (T.done X rfl rfl rfl hc i pins s3 iS H3 X.xe I3 (oH J9) sR stop) λr s4 ⟨hr,I4⟩=>?_);subst hr;exact wpAny_execs_nil ⟨iS,H3,I4,qn⟩
 .refine wpAny_passesOwn hp (ai (T.item X rfl rfl rfl hc i pins s3 iS H3 X.xe I3 (oH J9) sR go) λr s4 zQ=>?_);obtain⟨u,hr,h4⟩:=zQ;subst hr;refine wpAny_passesOwn hp (ai h4 λ_ s5 zQ=>?_);obtain⟨x,H5,I5,r5,y5,eT,oJ⟩:=zQ;have oK:=I5.pinned (oH oJ) (T.obj _ _ eT);refine wpAny_passesOwn hp (ai (hg _ s5 iS H5 x u _ oK r5 (step x H5 y5)) λ_ s6 zQ=>?_);obtain⟨U6,H6,I6,q6⟩:=zQ;refine wpAny_passesOwn hp (ai (hb _ s6 U6 H6 _ I6 q6) λf s7 q7=>?_);have again:∀{U7:St}{H7:Hp},Inv X (pins++kG fp s5.heap) U7 H7 s7->N U7 H7->∃m,m<n/\∃i U' H',Inv X pins U' H' s7/\tn i s7.heap/\(∀b∈fp,H' b=none)/\W i m U' H':=λ{U7 H7} I7 n7=>by
   obtain⟨m',hm,w7⟩:=hN U7 H7 n7;refine⟨m',hm,i+1,U7,H7,I7.qP,T.keep _ _ _ eT λb hb o e=>(I7.pin (b,o) (mem_append_right _ (mem_append_right _ (sQ hb e)))).1,λb hb=>?_,w7⟩;obtain⟨o,e,d⟩:=T.obj _ _ eT b hb;exact(I7.pin (b,o) (mem_append_right _ (mem_append_right _ (sQ hb e)))).2.1
  cases f with
  |next=>obtain⟨U7,H7,I7,n7⟩:=q7;exact again I7 n7
  |cont=>obtain⟨U7,H7,I7,n7⟩:=q7;exact again I7 n7
  |brk=>obtain⟨U7,H7,I7,q7⟩:=q7;exact⟨U7,H7,I7.qP,q7⟩
  |ret v=>obtain⟨x7,U7,H7,I7,r7,q7⟩:=q7;exact⟨x7,U7,H7,I7.qP,r7,q7⟩
end
theorem yM {K:PySem.W.Frag}{a:Addr}{xs:List V}{g:TG}{tb:TS}{D:Ends}{U:St}{H:Hp}(Pv:Nat->St->Hp->Prop)(h0:Pv 0 U H)(hl:∀i U H,i<=xs.length->Pv i U H->ah K H a xs)(hs:∀i x U H,xs[i]?=some x->Pv i U H->g x U H λU2 H2=>tb {D with nx:=Pv (i+1),ct:=Pv (i+1),bk:=D.nx} U2 H2)(hd:∀U H,Pv xs.length U H->D.nx U H):∃W:Nat->Nat->St->Hp->Prop,(∃m,W 0 m U H)/\∀i m U H,W i m U H->((mW K a).stop i H/\D.nx U H)\/((mW K a).go i H/\∃N:St->Hp->Prop,(∀U' H',N U' H'->∃m',m'<m/\W (i+1) m' U' H')/\∀x H',(mW K a).dO i H x H'->g x U H' λU2 H2=>tb {D with nx:=N,ct:=N,bk:=D.nx} U2 H2):=by
 refine⟨λi m U H=>m=xs.length-i/\i<=xs.length/\Pv i U H,⟨xs.length,by simp,zero_le _,h0⟩,?_⟩
 rintro i m U H ⟨rfl,hi,p⟩
 have q:=hl i U H hi p;by_cases ax:i<xs.length
 .refine .inr ⟨⟨xs,xs[i],q,by simp[ax]⟩,Pv (i+1),λU' H' p'=>⟨xs.length-(i+1),by lia,rfl,ax,p'⟩,λx H' y=>?_⟩;obtain⟨e,y⟩:=y;subst e;exact hs i x U _ (y xs q) p
 .have e:i=xs.length:=by lia
  subst e;exact .inl ⟨⟨xs,q,le_refl _⟩,hd U H p⟩
theorem Rv {K:PySem.W.Frag}{a:Addr}{xs:List V}{g:TG}{tb:TS}{D:Ends}{U:St}{H:Hp}(Pv:Nat->St->Hp->Prop)(h0:Pv 0 U H)(hl:∀i U H,i<=xs.length->Pv i U H->aA K H a xs)(hs:∀i x U H,xs[i]?=some x->Pv i U H->g x U H λU2 H2=>tb {D with nx:=Pv (i+1),ct:=Pv (i+1),bk:=D.nx} U2 H2)(hd:∀U H,Pv xs.length U H->D.nx U H):∃W:Nat->Nat->St->Hp->Prop,(∃m,W 0 m U H)/\∀i m U H,W i m U H->((sP K a).stop i H/\D.nx U H)\/((sP K a).go i H/\∃N:St->Hp->Prop,(∀U' H',N U' H'->∃m',m'<m/\W (i+1) m' U' H')/\∀x H',(sP K a).dO i H x H'->g x U H' λU2 H2=>tb {D with nx:=N,ct:=N,bk:=D.nx} U2 H2):=by
 refine⟨λi m U H=>m=xs.length-i/\i<=xs.length/\Pv i U H,⟨xs.length,by simp,zero_le _,h0⟩,?_⟩
 rintro i m U H ⟨rfl,hi,p⟩
 have q:=hl i U H hi p;by_cases ax:i<xs.length
 .refine .inr ⟨⟨xs,xs[i],q,by simp[ax]⟩,Pv (i+1),λU' H' p'=>⟨xs.length-(i+1),by lia,rfl,ax,p'⟩,λx H' y=>?_⟩;obtain⟨e,y⟩:=y;subst e;exact hs i x U _ (y xs q) p
 .have e:i=xs.length:=by lia
  subst e;exact .inl ⟨⟨xs,q,le_refl _⟩,hd U H p⟩
theorem sS {lo:Int}{n:Nat}{g:TG}{tb:TS}{D:Ends}{U:St}{H:Hp}(Pv:Nat->St->Hp->Prop)(h0:Pv 0 U H)(hs:∀i U H,i<n->Pv i U H->g (.int (lo+i)) U H λU2 H2=>tb {D with nx:=Pv (i+1),ct:=Pv (i+1),bk:=D.nx} U2 H2)(hd:∀U H,Pv n U H->D.nx U H):∃W:Nat->Nat->St->Hp->Prop,(∃m,W 0 m U H)/\∀i m U H,W i m U H->((kF lo n).stop i H/\D.nx U H)\/((kF lo n).go i H/\∃N:St->Hp->Prop,(∀U' H',N U' H'->∃m',m'<m/\W (i+1) m' U' H')/\∀x H',(kF lo n).dO i H x H'->g x U H' λU2 H2=>tb {D with nx:=N,ct:=N,bk:=D.nx} U2 H2):=by
 refine⟨λi m U H=>m=n-i/\i<=n/\Pv i U H,⟨n,by simp,zero_le _,h0⟩,?_⟩
 rintro i m U H ⟨rfl,hi,p⟩
 by_cases ax:i<n
 .refine .inr ⟨ax,Pv (i+1),λU' H' p'=>⟨n-(i+1),by lia,rfl,ax,p'⟩,λx H' y=>?_⟩;obtain⟨e,y⟩:=y;subst e y;exact hs i U _ ax p
 .have e:i=n:=by lia
  subst e;exact .inl ⟨le_refl _,hd U H p⟩
theorem Rw {c:TT}{tb:TS}{D:Ends}{U:St}{H:Hp}(Pv:St->Hp->Prop)(μ:St->Hp->Nat)(h0:Pv U H)(hs:∀U H,Pv U H->c U H λb H1=>if b=true then tb {D with nx:=λU' H'=>Pv U' H'/\μ U' H'<μ U H,ct:=λU' H'=>Pv U' H'/\μ U' H'<μ U H,bk:=D.nx} U H1 else D.nx U H1)(mono:∀U H Q Q',(∀b H1,Q b H1->Q' b H1)->c U H Q->c U H Q'):J3 c tb D U H:=by
 refine⟨λm U H=>m=μ U H/\Pv U H,⟨_,rfl,h0⟩,?_⟩
 rintro m U H ⟨rfl,p⟩
 refine mono U H _ _ (λb H1 q=>?_) (hs U H p);cases b with
 |true=>exact⟨_,λU' H' ⟨p',l⟩=>⟨_,l,rfl,p'⟩,q⟩
 |false=>exact q
abbrev R2:=V->V->Hp->VK->Prop
noncomputable def bK (X:Cx)(f:Value->Value->Sem Value)(r:R2):Prop:=∀(pins:List (Addr×Obj))(s:Shared)(U:St)(H:Hp)(x y:V)(v u:Value)(Q:VK),Inv X pins U H s->RelV x v->RelV y u->r x y H Q->wpAny (model X.prog X.w) X.A (f v u) (EP X pins U Q) X.xe s
noncomputable def CM (X:Cx)(f:Value->Sem Value)(r:V->Hp->VK->Prop):Prop:=∀(pins:List (Addr×Obj))(s:Shared)(U:St)(H:Hp)(x:V)(v:Value)(Q:VK),Inv X pins U H s->RelV x v->r x H Q->wpAny (model X.prog X.w) X.A (f v) (EP X pins U Q) X.xe s
noncomputable def fM (X:Cx)(f:Value)(r:List V->Hp->VK->Prop):Prop:=∀(pins:List (Addr×Obj))(s:Shared)(U:St)(H:Hp)(xs:List V)(us:List Value)(Q:VK),Inv X pins U H s->Vals xs us->r xs H Q->wpAny (model X.prog X.w) X.A (call f us) (EP X pins U Q) X.xe s
noncomputable def Rx (X:Cx)(r:V->Hp->(Bool->Hp->Prop)->Prop):Prop:=∀(pins:List (Addr×Obj))(s:Shared)(U:St)(H:Hp)(x:V)(v:Value)(Q:Bool->Hp->Prop),Inv X pins U H s->RelV x v->r x H Q->wpAny (model X.prog X.w) X.A (truthy v) (TP X pins U Q) X.xe s
def yN (r:R2)(ta tb:TE):TE:=λU H Q=>ta U H λx H1=>tb U H1 λy H2=>r x y H2 Q
def Ry (r:V->Hp->VK->Prop)(ta:TE):TE:=λU H Q=>ta U H λx H1=>r x H1 Q
def rI (C:Int->Int->Prop)(g:Int->Int->V):R2:=λx y H Q=>∃i j,x= .int i/\y= .int j/\C i j/\Q (g i j) H
def mY (g:Int->Int->V):R2:=λx y H Q=>∃i j,x= .int i/\y= .int j/\Q (g i j) H
def rU (g:Int->V):V->Hp->VK->Prop:=λx H Q=>∃i,x= .int i/\Q (g i) H
section
variable {X:Cx}{a b c:Expr}{ta tb tc:TE}{pos:Pos}
theorem CN (ha:PE X a ta)(hb:PE X b tb){pins:List (Addr×Obj)}{s:Shared}{U:St}{H:Hp}{R:V->V->Hp->Prop}(I:Inv X pins U H s)(h:ta U H λx H1=>tb U H1 λy H2=>R x y H2){Q:Value->Shared->Prop}{f:Value->Value->Sem Value}(hf:∀v u s2 x y H2,Inv X pins U H2 s2->RelV x v->RelV y u->R x y H2->wpAny (model X.prog X.w) X.A (f v u) Q X.xe s2):
  wpAny (model X.prog X.w) X.A (eval a X.env) (λv aj=>wpAny (model X.prog X.w) X.A (eval b X.env) (λu ae=>wpAny (model X.prog X.w) X.A (f v u) Q X.xe ae) X.xe aj) X.xe s:=by
 refine ai (ha pins s U H _ I h) λv s1 zQ=>?_;obtain⟨x,H1,I1,r1,q1⟩:=zQ;refine ai (hb pins s1 U H1 _ I1 q1) λu s2 zQ=>?_;obtain⟨y,H2,I2,r2,q2⟩:=zQ;exact hf v u s2 x y H2 I2 r1 r2 q2
theorem zt {op:Operator}{r:R2}(ho:bK X (binaryOp op) r)(ha:PE X a ta)(hb:PE X b tb):PE X (.BinOp a op b pos) (yN r ta tb):=by intro pins s U H Q I h;exact wpAny_BinOp (CN ha hb I h λv u s2 x y H2 I2 rx ry q=>ho pins s2 U H2 x y v u Q I2 rx ry q)
theorem Rz {op:UnaryOp}{r:V->Hp->VK->Prop}(ho:CM X (unaryOp op) r)(ha:PE X a ta):PE X (.UnaryOp op a pos) (Ry r ta):=by intro pins s U H Q I h;exact UnaryOp_ (ai (ha pins s U H _ I h) λv s1 ⟨x,H1,I1,r1,q1⟩=>ho pins s1 U H1 x v Q I1 r1 q1)
theorem yO {f:Value->Value->Sem Value}{C:Int->Int->Prop}{g:Int->Int->Int}(rule:∀(i j:Int)(t u:Tok)(s:Shared)(Q:Value->Shared->Prop)(E:Value->Shared->Prop),C i j->Q (.int (g i j) s.toks) {s with toks:=s.toks+1}->wpAny (model X.prog X.w) X.A (f (.int i t) (.int j u)) Q E s):
  bK X f (rI C λi j=>.int (g i j)):=by
 intro pins s U H x y v u Q I rx ry h;obtain⟨i,j,rfl,rfl,hc,q⟩:=h;obtain⟨t,rfl⟩:=rx;obtain⟨t',rfl⟩:=ry;exact rule i j t t' s _ _ hc ⟨.int (g i j),H,I.tok _,⟨_,rfl⟩,q⟩
theorem Ka {f:Value->Value->Sem Value}{g:Int->Int->Int}(rule:∀(i j:Int)(t u:Tok)(s:Shared)(Q:Value->Shared->Prop)(E:Value->Shared->Prop),Q (.int (g i j) s.toks) {s with toks:=s.toks+1}->wpAny (model X.prog X.w) X.A (f (.int i t) (.int j u)) Q E s):
  bK X f (mY λi j=>.int (g i j)):=by
 intro pins s U H x y v u Q I rx ry h;obtain⟨i,j,rfl,rfl,q⟩:=h;obtain⟨t,rfl⟩:=rx;obtain⟨t',rfl⟩:=ry;exact rule i j t t' s _ _ ⟨.int (g i j),H,I.tok _,⟨_,rfl⟩,q⟩
theorem yP {f:Value->Value->Sem Value}{g:Int->Int->Bool}(rule:∀(i j:Int)(t u:Tok)(s:Shared)(Q:Value->Shared->Prop)(E:Value->Shared->Prop),Q (.bool (g i j)) s->wpAny (model X.prog X.w) X.A (f (.int i t) (.int j u)) Q E s):
  bK X f (mY λi j=>.bl (g i j)):=by
 intro pins s U H x y v u Q I rx ry h;obtain⟨i,j,rfl,rfl,q⟩:=h;obtain⟨t,rfl⟩:=rx;obtain⟨t',rfl⟩:=ry;exact rule i j t t' s _ _ ⟨.bl (g i j),H,I,rfl,q⟩
def RA (i j:Int):Prop:=0<j/\j<1073741824
def RB (i j:Int):Prop:=0<=j/\j<=1000000/\i.natAbs<2^64
def CO (i j:Int):Prop:=(-(2^64)<i/\i<2^64)\/(-(2^64)<j/\j<2^64)
theorem CO.ok {i j:Int}(h:CO i j):IntMulOk i j:=by
 rcases h with⟨h1,h2⟩|⟨h1,h2⟩
 .exact .of_left (intBits_le_64 h1 h2)
 .exact .of_right (intBits_le_64 h1 h2)
theorem eU:bK X (binaryOp .Add) (mY λi j=>.int (i+j)):=Ka λ_ _ _ _ _ _ _ q=>add_int q
theorem iT:bK X (binaryOp .Sub) (mY λi j=>.int (i-j)):=Ka λ_ _ _ _ _ _ _ q=>sub_int q
theorem yQ:bK X (binaryOp .Mult) (rI CO λi j=>.int (i*j)):=yO λ_ _ _ _ _ _ _ hc q=>mul_int q hc.ok
theorem CP:bK X (binaryOp .FloorDiv) (rI RA λi j=>.int (i / j)):=yO λi j _ _ _ _ _ hc q=>by have h1:(0:Int)<j:=hc.1;have h2:j<1073741824:=hc.2;exact floordiv_int (by lia) (by rw[Int.fdiv_eq_ediv_of_nonneg i (by lia)];exact q) (.inl (PyProof.noPylong_small (by lia)))
theorem lK:bK X (binaryOp .Mod) (rI (λ_ j=>0<j) λi j=>.int (i%j)):=yO λi j _ _ _ _ _ hc q=>by have h1:(0:Int)<j:=hc;exact mod_int' (by lia) (by rw[Int.fmod_eq_emod_of_nonneg i (by lia)];exact q)
theorem RC:bK X (binaryOp .Pow) (rI RB λi j=>.int (i^j.toNat)):=yO λ_ _ _ _ _ _ _ hc q=>pow_int_small hc.1 hc.2.1 hc.2.2 q
theorem RD {f:Value->Sem Value}{g:Int->Int}(rule:∀(i:Int)(t:Tok)(s:Shared)(Q:Value->Shared->Prop)(E:Value->Shared->Prop),Q (.int (g i) s.toks) {s with toks:=s.toks+1}->wpAny (model X.prog X.w) X.A (f (.int i t)) Q E s):
  CM X f (rU λi=>.int (g i)):=by
 intro pins s U H x v Q I rx h;obtain⟨i,rfl,q⟩:=h;obtain⟨t,rfl⟩:=rx;exact rule i t s _ _ ⟨.int (g i),H,I.tok _,⟨_,rfl⟩,q⟩
theorem RE:CM X (unaryOp .USub) (rU λi=>.int (-i)):=RD λ_ _ _ _ _ q=>neg_int q
end
noncomputable def Kb:V->V->Bool
 | .aq,.aq=>true| .aq,.int _=>true| .int _,.aq=>true| .aq,.bl _=>true| .bl _,.aq=>true| .aq,.str _=>true| .str _,.aq=>true
 | .int _,.int _=>true| .bl _,.bl _=>true| .str _,.str _=>true| .fH _,.fH _=>true
 | .int _,.str _=>true| .str _,.int _=>true| .bl _,.str _=>true| .str _,.bl _=>true
 |_,_=>false
def RF:R2:=λx y H Q=>Kb x y=true/\Q (.bl (decide (x=y))) H
def RG:R2:=λx y H Q=>Kb x y=true/\Q (.bl (!decide (x=y))) H
theorem Kc {i j:Int}:decide (V.int i=V.int j)=(i==j):=by rw[Bool.eq_iff_iff];simp
theorem Kd {i j:Bool}:decide (V.bl i=V.bl j)=(i==j):=by rw[Bool.eq_iff_iff];simp
theorem Ke {i j:Str}:decide (V.str i=V.str j)=(i==j):=by rw[Bool.eq_iff_iff];simp
theorem Kf {i j:Array UInt8}:decide (V.fH i=V.fH j)=(i.toList==j.toList):=by rw[Bool.eq_iff_iff];cases i;cases j;simp
section
variable {X:Cx}{a b c:Expr}{ta tb tc:TE}{pos:Pos}
theorem zw {pins:List (Addr×Obj)}{U:St}{H:Hp}{s:Shared}{Q:VK}{k k':Bool}(I:Inv X pins U H s)(q:Q (.bl k) H)(e:k=k'):EP X pins U Q (.bool k') s:=by subst e;exact⟨.bl k,H,I,rfl,q⟩
theorem gD:bK X (compareOp .Eq) RF:=by
 intro pins s U H x y v u Q I rx ry h;obtain⟨hs,q⟩:=h;cases x with
 |aq=>
  cases rx;cases y with
  |aq=>cases ry;exact PySem.EqNone.eq_none_none (zw I q (by simp))
  |bl j=>cases ry;exact PySem.EqNone.eq_none_bool (zw I q (by simp))
  |int j=>obtain⟨t',rfl⟩:=ry;exact PySem.EqNone.eq_none_int (zw I q (by simp))
  |str j=>obtain⟨t',rfl⟩:=ry;exact PySem.EqNone.eq_none_str (zw I q (by simp))
  |_=>exact absurd (show false=true from hs) Bool.false_ne_true
 |bl i=>
  cases rx;cases y with
  |aq=>cases ry;exact PySem.EqNone.eq_bool_none (zw I q (by simp))
  |bl j=>cases ry;exact eq_bool (zw I q Kd)
  |str j=>obtain⟨t',rfl⟩:=ry;exact PySem.EqMixed.eq_bool_str (zw I q (by simp))
  |_=>exact absurd (show false=true from hs) Bool.false_ne_true
 |int i=>
  obtain⟨t,rfl⟩:=rx;cases y with
  |aq=>cases ry;exact PySem.EqNone.eq_int_none (zw I q (by simp))
  |int j=>obtain⟨t',rfl⟩:=ry;exact eq_int (zw I q Kc)
  |str j=>obtain⟨t',rfl⟩:=ry;exact PySem.EqMixed.eq_int_str (zw I q (by simp))
  |_=>exact absurd (show false=true from hs) Bool.false_ne_true
 |str i=>
  obtain⟨t,rfl⟩:=rx;cases y with
  |aq=>cases ry;exact PySem.EqNone.eq_str_none (zw I q (by simp))
  |bl j=>cases ry;exact PySem.EqMixed.eq_str_bool (zw I q (by simp))
  |int j=>obtain⟨t',rfl⟩:=ry;exact PySem.EqMixed.eq_str_int (zw I q (by simp))
  |str j=>obtain⟨t',rfl⟩:=ry;exact eq_str (zw I q Ke)
  |_=>exact absurd (show false=true from hs) Bool.false_ne_true
 |fH i=>
  obtain⟨t,rfl⟩:=rx;cases y with
  |fH j=>obtain⟨t',rfl⟩:=ry;exact PySem.W.eq_bytes (zw I q Kf)
  |_=>exact absurd (show false=true from hs) Bool.false_ne_true
 |_=>cases y<;>exact absurd (show false=true from hs) Bool.false_ne_true
theorem CQ:bK X (compareOp .NotEq) RG:=by
 intro pins s U H x y v u Q I rx ry h;obtain⟨hs,q⟩:=h;cases x with
 |aq=>
  cases rx;cases y with
  |aq=>cases ry;exact PySem.EqNone.ne_none_none (zw I q (by simp))
  |bl j=>cases ry;exact PySem.EqNone.ne_none_bool (zw I q (by simp))
  |int j=>obtain⟨t',rfl⟩:=ry;exact PySem.EqNone.ne_none_int (zw I q (by simp))
  |str j=>obtain⟨t',rfl⟩:=ry;exact PySem.EqNone.ne_none_str (zw I q (by simp))
  |_=>exact absurd (show false=true from hs) Bool.false_ne_true
 |bl i=>
  cases rx;cases y with
  |aq=>cases ry;exact PySem.EqNone.ne_bool_none (zw I q (by simp))
  |bl j=>cases ry;exact ne_bool (zw I q (congrArg not Kd))
  |str j=>obtain⟨t',rfl⟩:=ry;exact PySem.EqMixed.ne_bool_str (zw I q (by simp))
  |_=>exact absurd (show false=true from hs) Bool.false_ne_true
 |int i=>
  obtain⟨t,rfl⟩:=rx;cases y with
  |aq=>cases ry;exact PySem.EqNone.ne_int_none (zw I q (by simp))
  |int j=>obtain⟨t',rfl⟩:=ry;exact ne_int (zw I q (congrArg not Kc))
  |str j=>obtain⟨t',rfl⟩:=ry;exact PySem.EqMixed.ne_int_str (zw I q (by simp))
  |_=>exact absurd (show false=true from hs) Bool.false_ne_true
 |str i=>
  obtain⟨t,rfl⟩:=rx;cases y with
  |aq=>cases ry;exact PySem.EqNone.ne_str_none (zw I q (by simp))
  |bl j=>cases ry;exact PySem.EqMixed.ne_str_bool (zw I q (by simp))
  |int j=>obtain⟨t',rfl⟩:=ry;exact PySem.EqMixed.ne_str_int (zw I q (by simp))
  |str j=>obtain⟨t',rfl⟩:=ry;exact ne_str (zw I q (congrArg not Ke))
  |_=>exact absurd (show false=true from hs) Bool.false_ne_true
 |fH i=>
  obtain⟨t,rfl⟩:=rx;cases y with
  |fH j=>obtain⟨t',rfl⟩:=ry;exact PySem.W.ne_bytes (zw I q (congrArg not Kf))
  |_=>exact absurd (show false=true from hs) Bool.false_ne_true
 |_=>cases y<;>exact absurd (show false=true from hs) Bool.false_ne_true
theorem qQ:bK X (compareOp .Lt) (mY λi j=>.bl (decide (i<j))):=yP λ_ _ _ _ _ _ _ q=>lt_int q
theorem yR:bK X (compareOp .LtE) (mY λi j=>.bl (decide (i<=j))):=yP λ_ _ _ _ _ _ _ q=>le_int q
theorem sT:bK X (compareOp .Gt) (mY λi j=>.bl (decide (j<i))):=yP λ_ _ _ _ _ _ _ q=>gt_int q
theorem Kg:bK X (compareOp .GtE) (mY λi j=>.bl (decide (j<=i))):=yP λ_ _ _ _ _ _ _ q=>ge_int q
theorem Kh:bK X (compareOp .Is) (λx y H Q=>y= .aq/\Q (.bl (decide (x= .aq))) H):=by
 intro pins s U H x y v u Q I rx ry h;obtain⟨rfl,q⟩:=h;cases ry;refine is_none_gen (zw I q ?_);cases x<;>first
  |(cases rx;rfl)
  |(obtain⟨t,rfl⟩:=rx;rfl)
theorem Ki:bK X (compareOp .IsNot) (λx y H Q=>y= .aq/\Q (.bl (!decide (x= .aq))) H):=by
 intro pins s U H x y v u Q I rx ry h;obtain⟨rfl,q⟩:=h;cases ry;refine isnot_none_gen (zw I q ?_);cases x<;>first
  |(cases rx;rfl)
  |(obtain⟨t,rfl⟩:=rx;rfl)
theorem qi (b:Expr){op:CmpOp}(h:autoParam (op≠.In) aP2)(h2:autoParam (op≠.NotIn) aP2):behindInMarks op b=false:=by
 have e:(op==CmpOp.In||op==CmpOp.NotIn)=false:=by cases op<;>first|rfl|exact absurd rfl h|exact absurd rfl h2
 cases b<;>first|rfl|(show(_&&_&&_)=false;rw[e,Bool.and_false];rfl)
theorem lM {op:CmpOp}{r:R2}(ho:bK X (compareOp op) r)(ha:PE X a ta)(hb:PE X b tb)(hm:behindInMarks op b=false):PE X (.Compare a [op] [b] pos) (yN r ta tb):=by intro pins s U H Q I h;exact wpAny_Compare1 (CN ha hb I h λv u s2 x y H2 I2 rx ry q=>ho pins s2 U H2 x y v u Q I2 rx ry q) hm
def RH (t:TE):TT:=λU H Q=>t U H λx H'=>∃k,x= .bl k/\Q k H'
theorem j3 {op:CmpOp}{r:R2}(ho:bK X (compareOp op) r)(ha:PE X a ta)(hb:PE X b tb)(hm:behindInMarks op b=false):PT X (.Compare a [op] [b] pos) (RH (yN r ta tb)):=by
 intro pins s U H Q I h;refine wpAny_isTrue_Compare1 (ai (ha pins s U H _ I h) λv s1 ⟨x,H1,I1,r1,q1⟩=>ai (hb pins s1 U H1 _ I1 q1) λu s2 ⟨y,H2,I2,r2,q2⟩=>ai (ho pins s2 U H2 x y v u _ I2 r1 r2 q2) λc s3 zQ=>?_) hm;obtain⟨z,H3,I3,r3,k,e,q3⟩:=zQ;subst e;cases r3;exact wpAny_truthy_bool ⟨H3,I3,q3⟩
noncomputable def RI (r r':R2)(ta tb tc:TE):TE:=λU H Q=>ta U H λx H1=>tb U H1 λy H2=>r x y H2 λz H3=>∃k,z= .bl k/\(if k=true then tc U H3 λw' H4=>r' y w' H4 Q else Q (.bl false) H3)
theorem RJ {op CS:CmpOp}{r r':R2}(ho:bK X (compareOp op) r)(bh:bK X (compareOp CS) r')(ha:PE X a ta)(hb:PE X b tb)(hc:PE X c tc)(hm:lastMarks [op,CS] [b,c]=false:=by with_unfolding_all rfl):PE X (.Compare a [op,CS] [b,c] pos) (RI r r' ta tb tc):=by
 intro pins s U H Q I h;refine Compare_chain (ai (ha pins s U H _ I h) λv s1 ⟨x,H1,I1,r1,q1⟩=>chain_link (ai (hb pins s1 U H1 _ I1 q1) λu s2 ⟨y,H2,I2,r2,q2⟩=>ai (ho pins s2 U H2 x y v u _ I2 r1 r2 q2) λd s3 zQ=>?_)) hm;obtain⟨z,H3,I3,r3,k,e,q3⟩:=zQ;subst e;cases r3;refine wpAny_truthy_bool ?_;cases k with
 |false=>exact ite_ff ⟨.bl false,H3,I3,rfl,q3⟩
 |true=>exact ite_tt (chain_last (ai (hc pins s3 U H3 _ I3 q3) λw' s4 ⟨z',H4,I4,r4,q4⟩=>bh pins s4 U H4 y z' u w' Q I4 r2 r4 q4))
noncomputable def Kj (K:PySem.W.Frag)(x:V)(H:Hp)(k:Bool):Prop:=match x with
 | .aq=>k=false
 | .bl b=>k=b
 | .int i=>k=(i != 0)
 | .str y=>y.length<=sizeLine/\k=((y.length:Int) != 0)
 | .fH y=>y.size<=sizeLine/\k=((y.size:Int) != 0)
 | .ref p=>(∃xs,ah K H p xs/\k=!xs.isEmpty)\/(∃xs,aA K H p xs/\k=!xs.isEmpty)\/∃aa,H p=some (.dK aa)/\k=!aa.isEmpty
 |_=>False
theorem RK {B:Type}{aa:List (B×V)}{vs:List (B×Value)}(r:KV aa vs):(!vs.isEmpty)=!aa.isEmpty:=by cases r<;>rfl
theorem Kk {xs:List V}{its:List Value}(r:Vals xs its):(!its.toArray.isEmpty)=!xs.isEmpty:=by cases r<;>simp
theorem oM:(sizeLine:Nat)<2^63:=by rw[sizeLine_eq];decide
theorem RL:Rx X (λx H Q=>∃k,Kj X.K x H k/\Q k H):=by
 intro pins s U H x v Q I rx h;obtain⟨k,e,q⟩:=h;have hl:=oM;have hs:sizeLine=16777216:=sizeLine_eq;cases x with
 |aq=>cases rx;have e':k=false:=e;subst e';exact truthy_none ⟨H,I,q⟩
 |bl b=>cases rx;have e':k=b:=e;subst e';exact wpAny_truthy_bool ⟨H,I,q⟩
 |int i=>obtain⟨t,rfl⟩:=rx;have e':k=(i != 0):=e;subst e';exact PySem.P.truthy_int ⟨H,I,q⟩
 |str y=>obtain⟨t,rfl⟩:=rx;obtain⟨hy,e'⟩:y.length<=sizeLine/\k=((y.length:Int) != 0):=e;subst e';exact PySem.P.truthy_str (by lia) ⟨H,I.tok _,q⟩
 |fH y=>obtain⟨t,rfl⟩:=rx;obtain⟨hy,e'⟩:y.size<=sizeLine/\k=((y.size:Int) != 0):=e;subst e';exact PySem.W.truthy_bytes (by lia) ⟨H,I.tok _,q⟩
 |ref p=>
  cases rx;have e':(∃xs,ah X.K H p xs/\k=!xs.isEmpty)\/(∃xs,aA X.K H p xs/\k=!xs.isEmpty)\/∃aa,H p=some (.dK aa)/\k=!aa.isEmpty:=e;rcases e' with⟨xs,hx,e'⟩|⟨xs,hx,e'⟩|⟨aa,hx,e'⟩
  .subst e';obtain⟨its,r,pl,hz⟩:=I.list hx;have hlen:=r.length;exact wpAny_truthy_list pl.isList (by simp only[size_toArray];lia) ⟨H,I.tok _,by rw[Kk r];exact q⟩
  .subst e';obtain⟨its,r,pl,hz⟩:=I.tuple hx;have hlen:=r.length;exact truthy_tuple pl (by simp only[size_toArray];lia) ⟨H,I.tok _,by rw[Kk r];exact q⟩
  .subst e';obtain⟨hz,hS,vs,r,m⟩:aa.length<=sizeLine/\(p==sysModules)=false/\∃vs,KV aa vs/\s.heap.DictOf (za X.prog X.w) p vs:=I.ag p _ hx;have hlen:aa.length=vs.length:=Paired.length r;exact wpAny_truthy_dict hS m (by lia) ⟨H,I.tok _,by rw[RK r];exact q⟩
 |_=>exact(show False from e).elim
theorem RM (ha:PE X a ta)(he:∀whole,isTrue a X.env whole=(do let v<-whole;standAt a.pos;holding [v] (truthy v))):PT X a (λU H Q=>ta U H λx H'=>∃k,Kj X.K x H' k/\Q k H'):=by
 intro pins s U H Q I h;exact isTrue_plain (ai (ha pins s U H _ I h) λv s1 ⟨x,H1,I1,r1,q1⟩=>RL pins s1 U H1 x v Q I1 r1 q1) (he _)
theorem vals1 {x:V}{us:List Value}(r:Vals [x] us):∃u,us=[u]/\RelV x u:=by
 cases r with
 |cons r1 r2=>cases r2;exact⟨_,rfl,r1⟩
theorem vals2 {x y:V}{us:List Value}(r:Vals [x,y] us):∃u w',us=[u,w']/\RelV x u/\RelV y w':=by
 cases r with
 |cons r1 r2=>
  cases r2 with
  |cons r3 r4=>cases r4;exact⟨_,_,rfl,r1,r3⟩
end
structure oN (h:Heap)(x dx C:Addr)(mA:Str->Option Value):Prop where
 obj:h.get? x=some (PySem.W.instObj C dx)
 ns:h.Ns1 dx mA
 ne:dx≠x
theorem RN {h:Heap}{dx:Addr}{mA:Str->Option Value}(n:h.Ns1 dx mA):∃od,h.get? dx=some od/\∀name,PySem.W.lookIn name od=some (mA name):=by
 obtain⟨o,es,ep,ho,hd,hk,_,hm⟩:=n;refine⟨o,ho,λname=>?_⟩;have e:=hm name;unfold nsFind findBy at e;rw[<-Array.find?_toList]at e;unfold PySem.W.lookIn;rw[hd];dsimp only;split
 .rename_i y q;rw[q]at e;exact congrArg some e
 .rename_i q;rw[q]at e;have a:es.toList.any (·.refKey)=false:=by
   rw[List.any_eq_false];intro y hy;obtain⟨z,t,bY⟩:=hk y (Array.mem_toList_iff.mp hy);simp[DictEntry.refKey,bY]
  have a':¬es.toList.any (·.refKey)=true:=by rw[a];exact Bool.false_ne_true
  rw[if_neg a'];exact congrArg some e
theorem oN.look {h:Heap}{x dx C:Addr}{mA:Str->Option Value}(I:oN h x dx C mA):∃od,PySem.W.InstAt h x (PySem.W.instObj C dx) C (some od)/\∀name,PySem.W.lookIn name od=some (mA name):=
 let⟨od,ho,hl⟩:=RN I.ns
 ⟨od,⟨I.obj,rfl,rfl,ho⟩,hl⟩
section
variable {prog:Program}{w:World}{A:Around}{E:Value->Shared->Prop}{s:Shared}{K:PySem.W.Frag}{x dx C f:Addr}{mA:Str->Option Value}{name:Str}{v:Value}
theorem get_map {expr:Bool}{Q:Value->Shared->Prop}(X:K.In s.heap)(I:oN s.heap x dx C mA)(hg:PySem.W.plainGet K C name=true)(hh:PySem.W.hasDictIn K C=true)(ha:PySem.W.findIn K (.ref C) name=some none)(hv:mA name=some v)(CT:PySem.W.handedIn v=true)(h:Q v {s with toks:=s.toks+1}):
  wpAny (model prog w) A (getAttr (.ref x) name expr) Q E s:=by
 obtain⟨od,J,hl⟩:=I.look;exact PySem.W.get_value X J (PySem.W.plainGet_of hg).1 (PySem.W.findObj_own hh ha rfl (by rw[hl,hv])) CT h
theorem RO {pl:Sem Bool}{Q:Value×List Value->Shared->Prop}(X:K.In s.heap)(I:oN s.heap x dx C mA)(hg:PySem.W.plainGet K C name=true)(hf:PySem.W.findIn K (.ref C) name=some (some (.ref f)))(ht:PySem.W.isFn K (.ref f)=true)(hv:mA name=none)(h:Q (.ref f,[.ref x]) s):
  wpAny (model prog w) A (getMethod (.ref x) name pl) Q E s:=by
 obtain⟨od,J,hl⟩:=I.look;exact PySem.W.method_fn X J (PySem.W.plainGet_of hg).1 (PySem.W.plainGet_of hg).2 hf (beq_iff_eq.mp ht) (by show(PySem.W.lookIn name od).map (·.isSome)=some false;rw[hl,hv];rfl) h
theorem CU {ns:List Str}{Q:Unit->Shared->Prop}(X:K.In s.heap)(I:oN s.heap x dx C mA)(hs:PySem.W.findIn K (.ref C) "__setattr__"=some (some (.builtin "object.__setattr__")))(hp:PySem.W.plainOver K C=true)(ht:PySem.W.takerIn K C name=some none)(hh:PySem.W.hasDictIn K C=true)(hw:PySem.Within mA ns)(hsz:ns.length<=sizeLine)(h:∀h',oN h' x dx C (λy=>if y=name then some v else mA y)->Heap.SameBut dx s.heap h'->Q () {s with heap:=h',toks:=s.toks+2}):
  wpAny (model prog w) A (setAttr (.ref x) name v) Q E s:=by
 obtain⟨od,J,hl⟩:=I.look;refine PySem.W.set_plain X J hs (PySem.W.osa_open (s:={s with toks:=s.toks+1}) (r:=none) X J hp ht λb=>?_);obtain⟨cd,hc,ba⟩:=PySem.W.any_some hh;have hx:s.heap.get? x=some ⟨.ref C,some dx,.plain,#[]⟩:=I.obj;refine wpAny_bind (wpAny_pure (wpAny_bind (wpAny_bind (wpAny_loadPart hx (wpAny_bind (PySem.W.Looks.here (s:={s with toks:=s.toks+1}) (PySem.W.looks_clsIn X hc) ?_))))));rw[ba];refine wpAny_pure (a:=some dx) (wpAny_bind (wpAny_pure (wpAny_bind ?_)));refine wpAny_nsSet1 (s:={s with toks:=s.toks+1}) I.ns λh' lN sU=>?_;obtain⟨oD,RP,RQ,CV,CW,iU⟩:=lN.count (PySem.Within.cons name v hw);refine wpAny_bind (wpAny_lookBehind CV (by rw[CW];exact pastItsLine_dict (le_trans iU (by rw[length_cons];lia))) ?_);exact wpAny_pure (h _ ⟨(sU.2 _ (Ne.symm I.ne)).trans I.obj,lN,I.ne⟩ sU)
theorem Kl {R:Result->Shared->Prop}{vs:List Value}{kw:List (Str×Value)}(X:K.In s.heap)(hm:PySem.W.makesIn K C=true)(hi:PySem.W.findIn K (.ref C) "__init__"=some (some (.ref f)))(hf:PySem.W.typeIn K (.ref f)=some (.type "function"))(h:codeAny (model prog w) (A.under (.builtin "type.__call__" ⟨.ref C::vs,kw⟩)) (.call (.ref f) ⟨.ref (s.heap.objs.size+1)::vs,kw⟩) (PySem.W.InitBack (s.heap.objs.size+1) R) {s with heap:=(s.heap.push PySem.W.emptyDict).push (PySem.W.instObj C s.heap.objs.size)}):
  codeAny (model prog w) A (.call (.ref C) ⟨vs,kw⟩) R s:=by
 obtain⟨hh,g,d,t,os⟩:=s;exact PySem.W.make_core (PySem.W.makes_of X hm) (PySem.W.looks_findIn X hi) (λself=>PySem.W.bind_fn X self hf) (.inl rfl) h
end
def uf (f:Str)(v:V):List (Str×V)->List (Str×V)
 |[]=>[(f,v)]
 |(g,x)::r=>if g=f then(g,v)::r else(g,x)::uf f v r
theorem jm (f g:Str)(v:V):∀fs:List (Str×V),(uf f v fs).lookup g=if g=f then some v else fs.lookup g
 |[]=>by
  show List.lookup g [(f,v)]=_;by_cases h:g=f
  .have hb:(g==f)=true:=beq_iff_eq.mpr h;simp only[List.lookup,hb,if_pos h]
  .have hb:(g==f)=false:=beq_eq_false_iff_ne.mpr h;simp only[List.lookup,hb,if_neg h]
 | (k,x)::r=>by
  have ih:=jm f g v r;rw[show uf f v ((k,x)::r)=(if k=f then(k,v)::r else(k,x)::uf f v r)from rfl];by_cases hk:k=f
  .rw[if_pos hk];by_cases h:g=k
   .have hb:(g==k)=true:=beq_iff_eq.mpr h;simp only[List.lookup,hb,if_pos (h.trans hk)]
   .have hb:(g==k)=false:=beq_eq_false_iff_ne.mpr h;simp only[List.lookup,hb,if_neg (λe:g=f=>h (e.trans hk.symm))]
  .rw[if_neg hk];by_cases h:g=k
   .have hb:(g==k)=true:=beq_iff_eq.mpr h;simp only[List.lookup,hb,if_neg (λe:g=f=>hk (h.symm.trans e))]
   .have hb:(g==k)=false:=beq_eq_false_iff_ne.mpr h;simp only[List.lookup,hb];exact ih
theorem CY (f:Str)(v:V):∀fs:List (Str×V),f∈(uf f v fs).map (·.1)/\∀g,g∈fs.map (·.1)->g∈(uf f v fs).map (·.1)
 |[]=>⟨by simp[uf],λg h=>by simp at h⟩
 | (k,x)::r=>by
  obtain⟨i1,i2⟩:=CY f v r;rw[show uf f v ((k,x)::r)=(if k=f then(k,v)::r else(k,x)::uf f v r)from rfl];by_cases hk:k=f
  .rw[if_pos hk];subst hk;exact⟨by simp,λg h=>by simpa using h⟩
  .rw[if_neg hk];refine⟨?_,λg h=>?_⟩
   .rw[map_cons];exact mem_cons_of_mem _ i1
   .rw[map_cons]at h⊢;rcases mem_cons.mp h with e|e
    .exact mem_cons.mpr (.inl e)
    .exact mem_cons_of_mem _ (i2 g e)
theorem Km (f:Str)(v:V):∀fs:List (Str×V),(uf f v fs).length<=fs.length+1
 |[]=>by simp[uf]
 |(k,x)::r=>by
  have ih:=Km f v r;rw[show uf f v ((k,x)::r)=(if k=f then(k,v)::r else(k,x)::uf f v r)from rfl];by_cases hk:k=f
  .rw[if_pos hk,length_cons,length_cons];lia
  .rw[if_neg hk,length_cons,length_cons];lia
theorem eF.some_of {v:V}{o:Option Value}(r:eF (some v) o):∃u,o=some u/\RelV v u:=by
 cases o with
 |none=>exact(show False from r).elim
 |some u=>exact⟨u,rfl,r⟩
theorem eF.none_of {o:Option Value}(r:eF none o):o=none:=by
 cases o with
 |none=>rfl
 |some u=>exact(show False from r).elim
theorem RS {v:V}{u:Value}(r:RelV v u):PySem.W.handedIn u=true:=by
 cases v with
 |aq=>cases(show u=Value.none from r);rfl
 |bl b=>cases(show u=Value.bool b from r);rfl
 |int i=>obtain⟨t,e⟩:=(show ∃t,u=Value.int i t from r);cases e;rfl
 |str x=>obtain⟨t,e⟩:=(show ∃t,u=Value.str x t from r);cases e;rfl
 |fH b=>obtain⟨t,e⟩:=(show ∃t,u=Value.bytes b t from r);cases e;rfl
 |mL b=>obtain⟨t,e⟩:=(show ∃t,u=Value.float b t from r);cases e;rfl
 |ref a=>cases(show u=Value.ref a from r);rfl
 |ty n=>cases(show u=Value.type n from r);rfl
section
variable {P:Program}{w:World}{H H':Hp}{h h':Heap}{a C dx:Addr}{fs fs':List (Str×V)}
theorem yS (ag:bJ P w H h)(e:H a=some (.ins C dx fs)):∃mA,oN h a dx C mA/\(∀f,eF (fs.lookup f) (mA f))/\PySem.Within mA (fs.map (·.1))/\fs.length<=1000/\H dx=some (.own a):=by obtain⟨d,z,ne,ob,mA,n,r,q⟩:=(show vc P w H h a (.ins C dx fs)from ag a _ e);exact⟨mA,⟨ob,n,ne⟩,r,q,z,d⟩
end
structure eV (K:PySem.W.Frag)(C:Addr):Prop where
 pg:PySem.W.plainGet K C Str.empty=true
 hd:PySem.W.hasDictIn K C=true
 po:PySem.W.plainOver K C=true
 sa:PySem.W.findIn K (.ref C) "__setattr__"=some (some (.builtin "object.__setattr__"))
theorem eV.get {K:PySem.W.Frag}{C:Addr}(c:eV K C)(f:Str):PySem.W.plainGet K C f=true:=c.pg
def yj (K:PySem.W.Frag)(C:Addr)(f:Str):Prop:=PySem.W.findIn K (.ref C) f=some none
theorem yj.RT {K:PySem.W.Frag}{C:Addr}{f:Str}(n:yj K C f):PySem.W.takerIn K C f=some none:=by unfold PySem.W.takerIn;rw[show PySem.W.findIn K (.ref C) f=some none from n];rfl
structure Meth (K:PySem.W.Frag)(C:Addr)(m:Str)(f:Addr):Prop where
 at_:PySem.W.findIn K (.ref C) m=some (some (.ref f))
 fn:PySem.W.isFn K (.ref f)=true
 kp:PySem.W.keepIn K (.ref f)=true
section
variable {X:Cx}{pins:List (Addr×Obj)}{U:St}{H:Hp}{s:Shared}{a C dx:Addr}{fs:List (Str×V)}{f:Str}{v:V}{A:Around}{E:Value->Shared->Prop}
theorem RU {b:Bool}{Q:Value->Shared->Prop}(I:Inv X pins U H s)(e:H a=some (.ins C dx fs))(c:eV X.K C)(n:yj X.K C f)(l:fs.lookup f=some v)(h:∀u s',Inv X pins U H s'->RelV v u->Q u s'):wpAny (model X.prog X.w) A (getAttr (.ref a) f b) Q E s:=by
 obtain⟨mA,O,r,_,_,_⟩:=yS I.ag e;obtain⟨u,hu,ru⟩:=eF.some_of (v:=v) (o:=mA f) (by rw[<-l];exact r f);exact get_map I.aW O (c.get f) c.hd n hu (RS ru) (h u _ (I.tok _) ru)
theorem yT {m:Str}{g:Addr}{pl:Sem Bool}{Q:Value×List Value->Shared->Prop}(I:Inv X pins U H s)(e:H a=some (.ins C dx fs))(c:eV X.K C)(k:Meth X.K C m g)(l:fs.lookup m=none)(h:Q (.ref g,[.ref a]) s):wpAny (model X.prog X.w) A (getMethod (.ref a) m pl) Q E s:=by
 obtain⟨mA,O,r,_,_,_⟩:=yS I.ag e;have hn:mA m=none:=eF.none_of (by rw[<-l];exact r m);exact RO I.aW O (c.get m) k.at_ k.fn hn h
theorem RV {y:V}{u:Value}{Q:Unit->Shared->Prop}(I:Inv X pins U H s)(e:H a=some (.ins C dx fs))(c:eV X.K C)(n:yj X.K C f)(hl:fs.length<1000)(ry:RelV y u)(h:∀s',Inv X pins U (upd H a (.ins C dx (uf f y fs))) s'->Q () s'):wpAny (model X.prog X.w) A (setAttr (.ref a) f u) Q E s:=by
 obtain⟨mA,O,r,wi,_,ho⟩:=yS I.ag e;have hz:(fs.map (·.1)).length<=sizeLine:=by rw[length_map,sizeLine_eq];lia
 refine CU I.aW O c.sa c.po n.RT c.hd wi hz λh' O' sb=>h _ ?_;have hd:∃o,h'.get? dx=some o:=let⟨o,_,_,e',_⟩:=O'.ns;⟨o,e'⟩;refine I.write (x:=a) (e:=dx) (by rw[e];exact True.intro) (.inr ho) (λb q hb z=>(sb.2 b hb).trans z) hd ?_;refine⟨by rw[jf O.ne];exact ho,?_,O.ne,O'.obj,_,O'.ns,λg=>?_,λg hg=>?_⟩
 .have:=Km f y fs;lia
 .show eF ((uf f y fs).lookup g) (if g=f then some u else mA g);rw[jm];by_cases q:g=f
  .rw[if_pos q,if_pos q];exact ry
  .rw[if_neg q,if_neg q];exact r g
 .by_cases q:g=f
  .rw[q];exact(CY f y fs).1
  .refine(CY f y fs).2 g (wi g λz=>hg ?_);show(if g=f then some u else mA g)=none;rw[if_neg q];exact z
theorem Inv.made (I:Inv X pins U H s):Inv X pins U (upd (upd H s.heap.objs.size (.own (s.heap.objs.size+1))) (s.heap.objs.size+1) (.ins C s.heap.objs.size [])) {s with heap:=(s.heap.push PySem.W.emptyDict).push (PySem.W.instObj C s.heap.objs.size)}:=by
 have e1:(s.heap.push PySem.W.emptyDict).get? s.heap.objs.size=some PySem.W.emptyDict:=Heap.get?_push_size s.heap rfl;have e2:((s.heap.push PySem.W.emptyDict).push (PySem.W.instObj C s.heap.objs.size)).get? (s.heap.objs.size+1)=some (PySem.W.instObj C s.heap.objs.size):=by have:=Heap.get?_push_size (s.heap.push PySem.W.emptyDict) (o:=PySem.W.instObj C s.heap.objs.size) rfl;rwa[Heap.size_push]at this
 have e3:(s.heap.push PySem.W.emptyDict).Ns s.heap.objs.size (λ_=>none):=⟨PySem.W.emptyDict,#[],_,e1,rfl,(λe he=>absurd he (by simp)),λ_=>rfl⟩;have I1:=I.laid (a:=s.heap.objs.size) (o:=.own (s.heap.objs.size+1)) (h':=s.heap.push PySem.W.emptyDict) (t':=s.toks) (λb u q=>Heap.get?_push_of_some _ q) (le_refl _) ⟨_,e1⟩;refine I1.laid (a:=s.heap.objs.size+1) (o:=.ins C s.heap.objs.size []) (t':=s.toks) (λb u q=>Heap.get?_push_of_some _ q) (Nat.le_of_eq (Heap.size_push _ _)) ?_;have ne:s.heap.objs.size≠s.heap.objs.size+1:=ne_of_lt (lt_succ_self _);refine⟨by rw[jf ne,jc],zero_le _,ne,e2,λ_=>none,(Heap.Ns1.of_empty e3).at λo q=>Heap.get?_push_of_some _ q,λ_=>True.intro,λy hy=>absurd rfl hy⟩
theorem RW {prog:Program}{w:World}{env:Env}{e:Expr}{f:Str}{pos:Pos}{s:Shared}{Q:Value->Shared->Prop}(hb:attributeBase e f env (eval e env)=eval e env)(h:wpAny (model prog w) A (eval e env) (λo aj=>wpAny (model prog w) A (getAttr o f true) Q E aj) E s):wpAny (model prog w) A (eval (.Attribute e f pos) env) Q E s:=
 Attribute_any_ h (by rw[arm_eval_Attribute,hb])
end
noncomputable def RX (K:PySem.W.Frag)(ta:TE)(f:Str):TE:=λU H Q=>ta U H λx H1=>∃a C dx fs v,x= .ref a/\H1 a=some (.ins C dx fs)/\eV K C/\yj K C f/\fs.lookup f=some v/\Q v H1
noncomputable def RY (K:PySem.W.Frag)(ta tv:TE)(f:Str):TS:=λD U H=>tv U H λy H1=>ta U H1 λx H2=>∃a C dx fs,x= .ref a/\H2 a=some (.ins C dx fs)/\eV K C/\yj K C f/\fs.length<1000/\D.nx U (upd H2 a (.ins C dx (uf f y fs)))
section
variable {X:Cx}{o e value:Expr}{f:Str}{pos pos' fK:Pos}{ta tv:TE}
theorem qd (he:PE X e ta)(hb:attributeBase e f X.env (eval e X.env)=eval e X.env):PE X (.Attribute e f pos) (RX X.K ta f):=by intro pins s U H Q I h;refine RW hb (ai (he pins s U H _ I h) λu s1 zQ=>?_);obtain⟨x,H1,I1,rx,a,C,dx,fs,v,ex,ea,c,n,l,q⟩:=zQ;subst ex;obtain rfl:u=Value.ref a:=rx;exact RU I1 ea c n l λu' s2 I2 ru=>⟨v,H1,I2,ru,q⟩
theorem eI (ha:PE X o ta)(hv:PE X value tv)(hs:swapsWith value (some (.Attribute o f pos')) pos.line X.env=pure false):PS X (.Assign [.Attribute o f pos'] value pos) (RY X.K ta tv f):=by intro pins s U H D I h;refine plainObj_wpAny_Assign_Attribute (ai (hv pins s U H _ I h) λu s1 ⟨y,H1,I1,ry,q⟩=>ai (ha pins s1 U H1 _ I1 q) λov s2 zQ=>?_) hs;obtain⟨x,H2,I2,rx,a,C,dx,fs,ex,ea,c,n,l,q2⟩:=zQ;subst ex;obtain rfl:ov=Value.ref a:=rx;exact RV I2 ea c n l ry λs3 I3=>⟨U,_,I3,q2⟩
theorem j4z {pl:Sem Bool}{m:Str}{apos:Pos}{args:List Expr}{pins:List (Addr×Obj)}{s:Shared}{U:St}{H:Hp}{Q:Value->Shared->Prop}{te:TE}(he:PE X e te)(I:Inv X pins U H s)(h:te U H λx H1=>∃a C dx fs g,x= .ref a/\H1 a=some (.ins C dx fs)/\eV X.K C/\Meth X.K C m g/\fs.lookup m=none/\∀s1,Inv X pins U H1 s1->wpAny (model X.prog X.w) X.A (callWith pos (.ref g) [.ref a] (backTo pos (starEach args X.env)) (backToKw pos (keywordEach [] X.env))) Q X.xe s1)(ht:eval (.Call (.Attribute e m apos) args [] pos) X.env=(do
   let ov<-eval e X.env
   standAt apos.atName
   let(f,first)<-holding [ov] (getMethod ov m pl)
   callWith pos f first (backTo pos (starEach args X.env)) (backToKw pos (keywordEach [] X.env)))) :
  wpAny (model X.prog X.w) X.A (eval (.Call (.Attribute e m apos) args [] pos) X.env) Q X.xe s:=by
 refine PySem.W.methodCall_KW (pl:=pl) (ai (he pins s U H _ I h) λu s1 zQ=>?_) ht;obtain⟨x,H1,I1,rx,a,C,dx,fs,g,ex,ea,c,k,l,q⟩:=zQ;subst ex;obtain rfl:u=Value.ref a:=rx;exact yT I1 ea c k l (q s1 I1)
end
section
variable {X:Cx}{pins:List (Addr×Obj)}{U:St}{H:Hp}{s:Shared}{A:Around}{E:Value->Shared->Prop}{Q:Value->Shared->Prop}{c:Value}{b:Bool}
inductive gT (K:PySem.W.Frag)(H:Hp):V->Value->Prop where
 |aq:gT K H .aq (.type "NoneType")
 |bl (x:Bool):gT K H (.bl x) (.type "bool")
 |int (i:Int):gT K H (.int i) (.type "int")
 |str (x:Str):gT K H (.str x) (.type "str")
 |mL (x:UInt64):gT K H (.mL x) (.type "float")
 |lst {a:Addr} {xs:List V} (e:H a=some (.lst xs)):gT K H (.ref a) (.type "list")
 |az {a:Addr} {o:Obj} {xs:List V} (e:H a=some (.az o (.lst xs))):gT K H (.ref a) (.type "list")
 |tup {a:Addr} {xs:List V} (e:H a=some (.tup xs)):gT K H (.ref a) (.type "tuple")
 |dK {a:Addr} {aa:List (Key×V)} (e:H a=some (.dK aa)):gT K H (.ref a) (.type "dict")
 |dT {a:Addr} {aa:List (List Key×V)} (e:H a=some (.dT aa)):gT K H (.ref a) (.type "dict")
 |ins {a C dx:Addr} {fs:List (Str×V)} (e:H a=some (.ins C dx fs)) (cl:eV K C) (ha:PySem.W.findIn K (.ref C) "__class__"=some (some (.builtin "object.__class__"))) (hn:PySem.W.specialIn K (.builtin "object.__class__") "__get__"=some (some (.builtin "getset_descriptor.__get__"))) (Kn:PySem.W.takesIn K (.builtin "object.__class__")=some true) (hm:PySem.W.mroIn K C (.type "object")=some true):gT K H (.ref a) (.ref C)
theorem Ko {x:V}{u t:Value}(I:Inv X pins U H s)(rx:RelV x u)(ty:gT X.K H x t)(e:PySem.W.kitOne X.K t c=some b)(h:∀tk,Q (.bool b) {s with toks:=tk}):wpAny (model X.prog X.w) A (call (.builtin "isinstance") [u,c]) Q E s:=by
 cases ty with
 |aq=>cases(show u=Value.none from rx);exact PySem.W.kia_one PySem.W.kitx_none I.aW True.intro e (λz=>nomatch z) h
 |bl y=>cases(show u=Value.bool y from rx);exact PySem.W.kia_one PySem.W.kitx_bool I.aW True.intro e (λz=>nomatch z) h
 |int i=>obtain⟨t,q⟩:=(show ∃t,u=Value.int i t from rx);cases q;exact PySem.W.kia_one PySem.W.kitx_int I.aW True.intro e (λz=>nomatch z) h
 |str y=>obtain⟨t,q⟩:=(show ∃t,u=Value.str y t from rx);cases q;exact PySem.W.kia_one PySem.W.kitx_str I.aW True.intro e (λz=>nomatch z) h
 |mL y=>obtain⟨t,q⟩:=(show ∃t,u=Value.float y t from rx);cases q;exact PySem.W.kia_one PySem.W.kitx_float I.aW True.intro e (λz=>nomatch z) h
 |@lst a xs ea=>cases(show u=Value.ref a from rx);obtain⟨_,_,n,_,h1⟩:=(show vc X.prog X.w H s.heap a (.lst xs)from I.ag a _ ea);exact PySem.W.kia_one PySem.W.kitx_list I.aW ⟨_,h1,rfl⟩ e (λz=>nomatch z) h
 |@az a ob xs ea=>cases(show u=Value.ref a from rx);obtain⟨_,_,_,n,_,h1⟩:=(show vc X.prog X.w H s.heap a (.az ob (.lst xs))from I.ag a _ ea);exact PySem.W.kia_one PySem.W.kitx_list I.aW ⟨_,h1,rfl⟩ e (λz=>nomatch z) h
 |@tup a xs ea=>cases(show u=Value.ref a from rx);obtain⟨_,_,_,p⟩:=(show vc X.prog X.w H s.heap a (.tup xs)from I.ag a _ ea);obtain⟨o,h1,h2,_⟩:=p;exact PySem.W.kia_one PySem.W.kitx_tuple I.aW ⟨o,h1,h2⟩ e (λz=>nomatch z) h
 |@dK a aa ea=>cases(show u=Value.ref a from rx);obtain⟨_,_,vs,_,p⟩:=(show vc X.prog X.w H s.heap a (.dK aa)from I.ag a _ ea);obtain⟨o,es,ep,h1,h2,_⟩:=p;exact PySem.W.kia_one PySem.W.kitx_dict I.aW ⟨o,h1,h2.1⟩ e (λz=>nomatch z) h
 |@dT a aa ea=>cases(show u=Value.ref a from rx);obtain⟨_,_,xs,_,o,es,ep,h1,h2,_⟩:=(show vc X.prog X.w H s.heap a (.dT aa)from I.ag a _ ea);exact PySem.W.kia_one PySem.W.kitx_dict I.aW ⟨o,h1,h2.1⟩ e (λz=>nomatch z) h
 |@ins a C dx fs ea cl ha hn Kn hm=>cases(show u=Value.ref a from rx);obtain⟨mA,O,_⟩:=yS I.ag ea;obtain⟨od,J,_⟩:=O.look;exact PySem.W.kia_one (PySem.W.kitx_own (cl.get _) cl.hd ha hn Kn hm) I.aW J e (λz=>nomatch z) h
end
structure aY (k:Nat)(A:Around):Prop where
 hd:A.handled=none
 dp:A.depth+3*k+5<recursionLimit
 un:A.units+16*k+200<cLine
theorem aY.mono {j k:Nat}{A:Around}(r:aY k A)(h:j<=k):aY j A:=⟨r.hd,by have:=r.dp;lia,by have:=r.un;lia⟩
theorem aY.dn {j k:Nat}{A:Around}(r:aY k A)(h:autoParam (j<=k) aP2):aY j A:=r.mono h
theorem aY.deeper {k:Nat}{A:Around}(r:aY (k+1) A)(env:Env):aY k (A.deeper env):=⟨r.hd,by have:=r.dp;show A.depth+1+3*k+5<_;lia,by have:=r.un;show A.units+3+16*k+200<_;lia⟩
theorem RZ {A:Around}{C:Addr}{us:List Value}{kw:List (Str×Value)}:(A.under (.builtin "type.__call__" ⟨.ref C::us,kw⟩)).depth=A.depth+1:=by first|rfl|simp[Around.under,Code.weight,Code.isCreation,Code.isGuard,Code.isCaller,Code.frames,Code.isFrame,guardIds]
theorem R0 {A:Around}{C:Addr}{us:List Value}{kw:List (Str×Value)}:(A.under (.builtin "type.__call__" ⟨.ref C::us,kw⟩)).units=A.units+1:=by first|rfl|simp[Around.under,Code.cUnits,Code.frames,Code.isFrame]
theorem aY.make {k:Nat}{A:Around}(r:aY (k+1) A)(C:Addr)(us:List Value)(kw:List (Str×Value)):aY k (A.under (.builtin "type.__call__" ⟨.ref C::us,kw⟩)):=⟨r.hd,by have:=r.dp;rw[RZ];lia,by have:=r.un;rw[R0];lia⟩
theorem aY.depth {k:Nat}{A:Around}(r:aY k A):A.depth<recursionLimit:=by have:=r.dp;lia
theorem aY.units {k:Nat}{A:Around}(r:aY k A):A.units+64<cLine:=by have:=r.un;lia
def lO:TA:=λ_ H Q=>Q [] H
def vk (ta:TE)(tr:TA):TA:=λU H Q=>ta U H λx H1=>tr U H1 λxs H2=>Q (x::xs) H2
section
variable {X:Cx}{e:Expr}{es:List Expr}{te:TE}{t:TA}{pos:Pos}
theorem ji:PA X [] lO:=λ_ _ _ _ H Q I h=>Calls.spliced_nil ⟨[],H,I,.nil,h⟩
theorem R5 (ha:PE X e te)(hr:PA X es t)(hs:autoParam (starEach (e::es) X.env=(false,eval e X.env)::starEach es X.env) aP1):PA X (e::es) (vk te t):=by intro pos pins s U H Q I h;rw[hs];show wpAny _ _ (spliced ((false,eval e X.env)::backTo pos (starEach es X.env))) _ _ s;refine Calls.spliced_cons (ai (ha pins s U H _ I h) λu s1 zQ=>?_);obtain⟨x,H1,I1,r1,q1⟩:=zQ;exact ai (hr pos pins s1 U H1 _ I1 q1) λus s2 ⟨xs,H2,I2,r2,q2⟩=>⟨x::xs,H2,I2,.cons r1 r2,q2⟩
def R6 (t:TA):TE:=λU H Q=>t U H λxs H1=>xs.length<=sizeLine/\∀p,H1 p=none->Q (.ref p) (upd H1 p (.tup xs))
def R7 (t:TA):TE:=λU H Q=>t U H λxs H1=>xs.length<=sizeLine/\∀p,H1 p=none->Q (.ref p) (upd H1 p (.lst xs))
theorem kH {x1}(h:PA X es t):PE X (.Tuple es x1 pos) (R6 t):=by intro pins s U H Q I hq;refine wpAny_Tuple_spliced (ai (h pos pins s U H _ I hq) λus s1 ⟨xs,H1,I1,r,z,q⟩=>⟨by rw[<-r.length];exact z,?_⟩);have hf:H1 s1.heap.objs.size=none:=I1.ag.fresh (le_refl _);refine⟨.ref s1.heap.objs.size,upd H1 s1.heap.objs.size (.tup xs),I1.laid (t':=s1.toks) (λb u e=>Heap.get?_push_of_some _ e) (le_refl _) ?_,rfl,q _ hf⟩;exact⟨z,us,r,⟨_,Heap.get?_push_size _ rfl,rfl,_,rfl⟩⟩
theorem zh (h:PA X es t):PE X (.List es pos) (R7 t):=by intro pins s U H Q I hq;refine wpAny_List_spliced (ai (h pos pins s U H _ I hq) λus s1 ⟨xs,H1,I1,r,z,q⟩=>⟨by rw[<-r.length];exact z,?_⟩);have hf:H1 s1.heap.objs.size=none:=I1.ag.fresh (le_refl _);refine⟨.ref s1.heap.objs.size,upd H1 s1.heap.objs.size (.lst xs),I1.laid (t':=s1.toks) (λb u e=>Heap.get?_push_of_some _ e) (le_refl _) ?_,rfl,q _ hf⟩;exact⟨z,us,0,r,Heap.get?_push_size _ rfl⟩
end
abbrev Sp:=List V->Hp->VK->XK->Prop
abbrev fw:=List Env->Hp->Shared->XK->Value->Shared->Prop
structure oO (P:Program)(w:World)(K:PySem.W.Frag)(mg:Str->Option Value)(base:Heap)(A:Around)(outer:List Env)(s:Shared)(H:Hp):Prop where
 frames:A.frames=some outer
 mod:Mod K mg base
 bs:∀b o,base.get? b=some o->s.heap.get? b=some o/\H b=none
 jZ:base.objs.size<=s.heap.objs.size
 fu:s.heap.FunFrames base outer
 iO:∀b∈bo outer,H b=none
 ag:bJ P w H s.heap
 bare:AllBare s.gens
noncomputable def CE (outer:List Env)(P:Program)(w:World)(H:Hp)(s:Shared)(Q:VK)(u:Value)(s':Shared):Prop:=∃v H',s'.os=s.os/\AllBare s'.gens/\Un (bo outer) [] H H' s.heap s'.heap/\bJ P w H' s'.heap/\RelV v u/\Q v H'
noncomputable def CR (CX:fw)(outer:List Env)(P:Program)(w:World)(H:Hp)(s:Shared)(Q:VK)(E:XK)(r:Result)(s':Shared):Prop:=match r with
 | .ok (.ret u)=>CE outer P w H s Q u s'
 | .ok _=>False
 | .error e=>CX outer H s E e s'
structure xl (P:Program)(w:World)(K:PySem.W.Frag)(mg:Str->Option Value)(base:Heap)(CX:fw)(k:Nat)(f:Addr)(fd:FuncData)(ps:List Str)(sp:Sp):Prop where
 len:∀vs H Q E,sp vs H Q E->vs.length=ps.length
 run:∀(A:Around)(outer:List Env)(s:Shared)(H:Hp)(args:Args)(us:List Value)(vs:List V)(Q:VK)(E:XK),aY k A->oO P w K mg base A outer s H->BindsTo s fd args (ps.zip us)->Vals vs us->sp vs H Q E->codeAny (model P w) A (.call (.ref f) args) (CR CX outer P w H s Q E) s
theorem oO.make {P:Program}{w:World}{K:PySem.W.Frag}{mg:Str->Option Value}{base:Heap}{A:Around}{outer:List Env}{s:Shared}{H:Hp}(e:oO P w K mg base A outer s H)(C:Addr)(us:List Value)(kw:List (Str×Value)):oO P w K mg base (A.under (.builtin "type.__call__" ⟨.ref C::us,kw⟩)) outer s H:=⟨by first|exact e.frames|(simpa[Around.under,Code.envs,Code.isFrame,pushEnvs]using e.frames),e.mod,e.bs,e.jZ,e.fu,e.iO,e.ag,e.bare⟩
section
variable {X:Cx}{pins:List (Addr×Obj)}{U:St}{H:Hp}{s s':Shared}
theorem Inv.qR (I:Inv X pins U H s):oO X.prog X.w X.K X.mg X.base X.A X.stack s H:=⟨I.ok.frames,I.ok.mod,I.bs,le_trans I.ok.jZ I.sz,I.stack,I.yB,I.ag,I.bare⟩
theorem Inv.after {Q:VK}{u:Value}(I:Inv X pins U H s)(h:CE X.stack X.prog X.w H s Q u s'):EP X pins U Q u s':=by obtain⟨v,H',os,bare,un,ag,r,q⟩:=h;obtain⟨hh,g,d,t,R8⟩:=s';obtain rfl:R8=s.os:=os;exact⟨v,H',I.call (h':=hh) (g':=g) (d':=d) (t':=t) (ch:=[]) un ag bare (λb z=>absurd z (by simp)),r,q⟩
end
def Kq (sp:Sp)(aD:List V)(E:XK)(t:TA):TE:=λU H Q=>t U H λvs H1=>sp (vs++aD) H1 Q E
noncomputable def Kr (C:Addr)(m:Str)(sp:Sp)(aD:List V)(E:XK)(ta:TE)(t:TA):TE:=λU H Q=>ta U H λx H1=>∃a dx fs,x= .ref a/\H1 a=some (.ins C dx fs)/\fs.lookup m=none/\t U H1 λvs H2=>sp (x::(vs++aD)) H2 Q E
noncomputable def R9 (C:Addr)(sp:Sp)(aD:List V)(E:XK)(t:TA):TE:=λU H Q=>t U H λvs H1=>∀x dx,H1 x=none->H1 dx=none->dx≠x->sp (.ref x::(vs++aD)) (upd (upd H1 dx (.own x)) x (.ins C dx [])) (λv H2=>v= .aq/\Q (.ref x) H2) E
noncomputable def Binds (K:PySem.W.Frag)(fd:FuncData)(ps:List Str)(ds:List Value):Prop:=∀(s:Shared)(us:List Value),K.In s.heap->(us++ds).length=ps.length->BindsTo s fd ⟨us,[]⟩ (ps.zip (us++ds))
theorem Binds.all {K:PySem.W.Frag}{fd:FuncData}{ps:List Str}(h:∀us:List Value,us.length=ps.length->bindArgs fd ⟨us,[]⟩=pure (ps.zip us)):Binds K fd ps []:=λs us _ hl=>by rw[append_nil]at hl⊢;exact .of_eq (h us hl)
noncomputable def Passes (CX:fw)(X:Cx)(E:XK):Prop:=∀(pins:List (Addr×Obj))(U:St)(H:Hp)(s:Shared)(e:Value)(s':Shared),Inv X pins U H s->CX X.stack H s E e s'->X.xe e s'
section
variable {X:Cx}{CX:fw}{k:Nat}{f C:Addr}{fd:FuncData}{ps:List Str}{sp:Sp}{aD:List V}{ds:List Value}{E:XK}{x m:Str}{p pos apos:Pos}{e o:Expr}{es:List Expr}{ta:TE}{t:TA}
theorem yU {pins:List (Addr×Obj)}{U:St}{H:Hp}{s:Shared}{Q:VK}{us:List Value}{vs:List V}(F:xl X.prog X.w X.K X.mg X.base CX k f fd ps sp)(hr:aY k X.A)(hb:Binds X.K fd ps ds)(hd:Vals aD ds)(hx:Passes CX X E)(I:Inv X pins U H s)(r:Vals vs us)(h:sp (vs++aD) H Q E):wpAny (model X.prog X.w) X.A (call (.ref f) us) (EP X pins U Q) X.xe s:=by
 have r2:Vals (vs++aD) (us++ds):=r.append hd;have hl:(us++ds).length=ps.length:=by rw[<-r2.length];exact F.len _ _ _ _ h
 refine wpAny_call (codeAny_mono (F.run X.A X.stack s H ⟨us,[]⟩ (us++ds) (vs++aD) Q E hr I.qR (hb s us I.aW hl) r2 h) λr s' hq=>?_);cases r with
 |error e=>exact hx pins U H s e s' I hq
 |ok fl=>
  cases fl with
  |ret u=>exact I.after hq
  |next=>exact False.elim hq
  |brk=>exact False.elim hq
  |cont=>exact False.elim hq
theorem jn (F:xl X.prog X.w X.K X.mg X.base CX k f fd ps sp)(hr:aY k X.A)(hg:Gl X x)(hm:X.mg x=some (.ref f))(hk:PySem.W.keepIn X.K (.ref f)=true)(hb:Binds X.K fd ps ds)(hd:Vals aD ds)(hx:Passes CX X E)(ha:PA X (e::es) t)(cU:autoParam ((x==("__debug__":Str))=false) aP2)(he:autoParam (starEach (e::es) X.env=(false,eval e X.env)::starEach es X.env) aP1)(cw:autoParam ((backTo pos (starEach es X.env)).any (·.1)=false) aP1):
  PE X (.Call (.Name x p) (e::es) [] pos) (Kq sp aD E t):=by
 intro pins s U H Q I h;refine wpAny_Call_Name_kw (mR I hg hm ?_ cU);refine PySem.W.callWith_K (h₀:=X.base) I.ok.mod.eR hk (ai (ha pos pins s U H _ I h) λus s1 ⟨vs,H1,I1,r,q⟩=>⟨I1.aW,?_⟩) he cw;exact yU F hr hb hd hx I1 r q
theorem qj {pl:Sem Bool}(he:PE X o ta)(c:eV X.K C)(hm:Meth X.K C m f)(F:xl X.prog X.w X.K X.mg X.base CX k f fd ps sp)(hr:aY k X.A)(hb:Binds X.K fd ps ds)(hd:Vals aD ds)(hx:Passes CX X E)(ha:PA X (e::es) t)(ig:autoParam (starEach (e::es) X.env=(false,eval e X.env)::starEach es X.env) aP1)(cw:autoParam ((backTo pos (starEach es X.env)).any (·.1)=false) aP1)(ht:autoParam (eval (.Call (.Attribute o m apos) (e::es) [] pos) X.env=(do
   let ov<-eval o X.env
   standAt apos.atName
   let(f,first)<-holding [ov] (getMethod ov m pl)
   callWith pos f first (backTo pos (starEach (e :: es) X.env)) (backToKw pos (keywordEach [] X.env)))) aP1) :
  PE X (.Call (.Attribute o m apos) (e::es) [] pos) (Kr C m sp aD E ta t):=by
 intro pins s U H Q I h;refine PySem.W.methodCall_KW (pl:=pl) (ai (he pins s U H _ I h) λu s1 zQ=>?_) ht;obtain⟨x,H1,I1,rx,a,dx,fs,ex,ea,l,q⟩:=zQ;subst ex;obtain rfl:u=Value.ref a:=rx;refine yT I1 ea c hm l ?_;refine PySem.W.callWith_K (first:=[.ref a]) (h₀:=X.base) I.ok.mod.eR hm.kp (ai (ha pos pins s1 U H1 _ I1 q) λus s2 ⟨vs,H2,I2,r,q2⟩=>⟨I2.aW,?_⟩) ig cw;exact yU (us:=.ref a::us) (vs:=.ref a::vs) F hr hb hd hx I2 (.cons rfl r) q2
theorem gu {pl:Sem Bool}(he:PE X o ta)(c:eV X.K C)(hm:Meth X.K C m f)(F:xl X.prog X.w X.K X.mg X.base CX k f fd ps sp)(hr:aY k X.A)(hb:Binds X.K fd ps ds)(hd:Vals aD ds)(hx:Passes CX X E)(ht:autoParam (eval (.Call (.Attribute o m apos) [] [] pos) X.env=(do
   let ov<-eval o X.env
   standAt apos.atName
   let(f,first)<-holding [ov] (getMethod ov m pl)
   callWith pos f first (backTo pos (starEach [] X.env)) (backToKw pos (keywordEach [] X.env)))) aP1) :
  PE X (.Call (.Attribute o m apos) [] [] pos) (Kr C m sp aD E ta lO):=by
 intro pins s U H Q I h;refine PySem.W.methodCall_KW (pl:=pl) (ai (he pins s U H _ I h) λu s1 zQ=>?_) ht;obtain⟨x,H1,I1,rx,a,dx,fs,ex,ea,l,q⟩:=zQ;subst ex;obtain rfl:u=Value.ref a:=rx;refine yT I1 ea c hm l ?_;exact PySem.W.callWith_K0 (first:=[.ref a]) I1.aW hm.kp (yU (us:=[.ref a]) (vs:=[.ref a]) F hr hb hd hx I1 (.cons rfl .nil) q)
structure Mk (K:PySem.W.Frag)(C f:Addr):Prop where
 makes:PySem.W.makesIn K C=true
 init:PySem.W.findIn K (.ref C) "__init__"=some (some (.ref f))
 fn:PySem.W.isFn K (.ref f)=true
 kp:PySem.W.keepIn K (.ref C)=true
theorem Sa {pins:List (Addr×Obj)}{U:St}{H:Hp}{s:Shared}{Q:VK}{us:List Value}{vs:List V}(M:Mk X.K C f)(F:xl X.prog X.w X.K X.mg X.base CX k f fd ps sp)(hr:aY (k+1) X.A)(hb:Binds X.K fd ps ds)(hd:Vals aD ds)(hx:Passes CX X E)(I:Inv X pins U H s)(r:Vals vs us)(h:∀x dx,H x=none->H dx=none->dx≠x->sp (.ref x::(vs++aD)) (upd (upd H dx (.own x)) x (.ins C dx [])) (λv H2=>v= .aq/\Q (.ref x) H2) E):
  wpAny (model X.prog X.w) X.A (call (.ref C) us) (EP X pins U Q) X.xe s:=by
 have hq:=h (s.heap.objs.size+1) s.heap.objs.size (I.ag.fresh (le_succ _)) (I.ag.fresh (le_refl _)) (ne_of_lt (lt_succ_self _));have I2:=Inv.made (C:=C) I;have r2:Vals (V.ref (s.heap.objs.size+1)::(vs++aD)) (Value.ref (s.heap.objs.size+1)::(us++ds)):=.cons rfl (r.append hd);have hl:(Value.ref (s.heap.objs.size+1)::us++ds).length=ps.length:=by have e:=r2.length;rw[F.len _ _ _ _ hq]at e;exact e.symm
 refine wpAny_call (Kl (f:=f) I.aW M.makes M.init (beq_iff_eq.mp M.fn) (codeAny_mono (F.run _ X.stack _ _ ⟨Value.ref (s.heap.objs.size+1)::us,[]⟩ (Value.ref (s.heap.objs.size+1)::(us++ds)) _ _ E (hr.make C us []) (I2.qR.make C us []) (hb _ (Value.ref (s.heap.objs.size+1)::us) I2.aW hl) r2 hq) λr s' dY=>?_));cases r with
 |error e=>exact hx pins U _ _ e s' I2 dY
 |ok fl=>
  cases fl with
  |ret u=>obtain⟨v,H',I3,rv,ev,q3⟩:=I2.after dY;subst ev;exact⟨rv,⟨V.ref (s.heap.objs.size+1),H',I3,rfl,q3⟩⟩
  |next=>exact False.elim dY
  |brk=>exact False.elim dY
  |cont=>exact False.elim dY
theorem Ks (M:Mk X.K C f)(F:xl X.prog X.w X.K X.mg X.base CX k f fd ps sp)(hr:aY (k+1) X.A)(hg:Gl X x)(hm:X.mg x=some (.ref C))(hb:Binds X.K fd ps ds)(hd:Vals aD ds)(hx:Passes CX X E)(ha:PA X (e::es) t)(cU:autoParam ((x==("__debug__":Str))=false) aP2)(he:autoParam (starEach (e::es) X.env=(false,eval e X.env)::starEach es X.env) aP1)(cw:autoParam ((backTo pos (starEach es X.env)).any (·.1)=false) aP1):
  PE X (.Call (.Name x p) (e::es) [] pos) (R9 C sp aD E t):=by
 intro pins s U H Q I h;refine wpAny_Call_Name_kw (mR I hg hm ?_ cU);refine PySem.W.callWith_K (h₀:=X.base) I.ok.mod.eR M.kp (ai (ha pos pins s U H _ I h) λus s1 ⟨vs,H1,I1,r,q⟩=>⟨I1.aW,?_⟩) he cw;exact Sa M F hr hb hd hx I1 r q
end
noncomputable def PK (X:Cx)(fB:List Keyword)(t:TA):Prop:=∀(pos:Pos)(pins:List (Addr×Obj))(s:Shared)(U:St)(H:Hp)(Q:List V->Hp->Prop),Inv X pins U H s->t U H Q->wpAny (model X.prog X.w) X.A (evalAll ((backToKw pos (keywordEach fB X.env)).map (·.2))) (AP X pins U Q) X.xe s
section
variable {X:Cx}{CX:fw}{k:Nat}{f C:Addr}{fd:FuncData}{ps ks:List Str}{sp:Sp}{E:XK}{x m:Str}{p pos apos CZ:Pos}{e o:Expr}{es:List Expr}{fB:List Keyword}{te ta:TE}{t tk:TA}{nm:Option Str}
theorem oP:PK X [] lO:=λ_ _ _ _ H Q I h=>wpAny_evalAll_nil ⟨[],H,I,.nil,h⟩
theorem iV (ha:PE X e te)(hr:PK X fB t):PK X (⟨nm,e,CZ⟩::fB) (vk te t):=by intro pos pins s U H Q I h;show wpAny _ _ (evalAll ((do let v<-eval e X.env;standAt pos;pure v)::(backToKw pos (keywordEach fB X.env)).map (·.2))) _ _ s;refine wpAny_evalAll_cons (wpAny_bind (ai (ha pins s U H _ I h) λu s1 ⟨x,H1,I1,r1,q1⟩=>wpAny_bind (wpAny_standAt (wpAny_pure ?_))));exact ai (hr pos pins s1 U H1 _ I1 q1) λus s2 ⟨xs,H2,I2,r2,q2⟩=>⟨x::xs,H2,I2,.cons r1 r2,q2⟩
structure ik (K:PySem.W.Frag)(fd:FuncData)(ps ks:List Str)(g:List Value->List Value->List Value)(gV:List V->List V->List V):Prop where
 to:∀(s:Shared)(us ws:List Value),K.In s.heap->(g us ws).length=ps.length->BindsTo s fd ⟨us,ks.zip ws⟩ (ps.zip (g us ws))
 rel:∀{vs:List V}{us:List Value}{zs:List V}{ws:List Value},Vals vs us->Vals zs ws->Vals (gV vs zs) (g us ws)
def Sb (sp:Sp)(gV:List V->List V->List V)(E:XK)(t tk:TA):TE:=λU H Q=>t U H λvs H1=>tk U H1 λzs H2=>sp (gV vs zs) H2 Q E
variable {g:List Value->List Value->List Value}{gV:List V->List V->List V}
theorem Sd {pins:List (Addr×Obj)}{U:St}{H:Hp}{s:Shared}{Q:VK}{us ws:List Value}{vs zs:List V}(F:xl X.prog X.w X.K X.mg X.base CX k f fd ps sp)(hr:aY k X.A)(hb:ik X.K fd ps ks g gV)(hx:Passes CX X E)(I:Inv X pins U H s)(r:Vals vs us)(rz:Vals zs ws)(h:sp (gV vs zs) H Q E):wpAny (model X.prog X.w) X.A (call (.ref f) us (ks.zip ws)) (EP X pins U Q) X.xe s:=by
 have r2:=hb.rel r rz;have hl:(g us ws).length=ps.length:=by rw[<-r2.length];exact F.len _ _ _ _ h
 refine wpAny_call (codeAny_mono (F.run X.A X.stack s H ⟨us,ks.zip ws⟩ (g us ws) (gV vs zs) Q E hr I.qR (hb.to s us ws I.aW hl) r2 h) λr s' hq=>?_);cases r with
 |error e=>exact hx pins U H s e s' I hq
 |ok fl=>
  cases fl with
  |ret u=>exact I.after hq
  |next=>exact False.elim hq
  |brk=>exact False.elim hq
  |cont=>exact False.elim hq
theorem qS (F:xl X.prog X.w X.K X.mg X.base CX k f fd ps sp)(hr:aY k X.A)(hg:Gl X x)(hm:X.mg x=some (.ref f))(hk:PySem.W.keepIn X.K (.ref f)=true)(hb:ik X.K fd ps ks g gV)(hx:Passes CX X E)(ha:PA X (e::es) t)(sV:PK X fB tk)(iW:autoParam ((backToKw pos (keywordEach fB X.env)).all (·.1.isSome)=true) aP1)(C0:autoParam ((backToKw pos (keywordEach fB X.env)).filterMap (·.1)=ks) aP1)(cU:autoParam ((x==("__debug__":Str))=false) aP2)(he:autoParam (starEach (e::es) X.env=(false,eval e X.env)::starEach es X.env) aP1)(cw:autoParam (((backTo pos (starEach (e::es) X.env)).any (·.1)||(backToKw pos (keywordEach fB X.env)).any (·.1.isNone))=false) aP1):
  PE X (.Call (.Name x p) (e::es) fB pos) (Sb sp gV E t tk):=by
 intro pins s U H Q I h;refine wpAny_Call_Name_kw (mR I hg hm ?_ cU);refine PySem.W.callWith_KW (h₀:=X.base) I.ok.mod.eR hk iW (ai (ha pos pins s U H _ I h) λus s1 zQ=>?_) cw he;obtain⟨vs,H1,I1,r,q⟩:=zQ;refine ai (sV pos pins s1 U H1 _ I1 q) λws s2 ⟨zs,H2,I2,rz,q2⟩=>⟨I2.aW,?_⟩;rw[C0];exact Sd F hr hb hx I2 r rz q2
end
structure ql (N P:List Str)(sc:Scope):Prop where
 kind:sc.kind= .function
 co:sc.isCoroutine=false
 gen:sc.isGenerator=false
 nd:N.Nodup
 pre:N.take P.length=P
 par:∀x∈P,sc.names.lookup x=some .local\/sc.names.lookup x=some .cell
 Se:∀y∈sc.names,y.2≠.free
theorem bX {N P:List Str}{sc:Scope}(a:autoParam (sc.kind= .function) aP1)(b:autoParam (sc.isCoroutine=false) aP1)(c:autoParam (sc.isGenerator=false) aP1)(d:autoParam (N.Nodup) aP4)(e:autoParam (N.take P.length=P) aP1)(f:autoParam (∀x∈P,sc.names.lookup x=some .local\/sc.names.lookup x=some .cell) aP4)(g:autoParam (∀y∈sc.names,y.2≠.free) aP4):ql N P sc:=⟨a,b,c,d,e,f,g⟩
theorem Kt {kindOf:Str->Option NameKind}{x:Str}:∀{binds:List (Str×Value)}{m:Str->Option Value},(∀v,(x,v)∉binds)->bindL kindOf binds m x=m x
 |[],_,_=>rfl
 | (n,v)::r,m,h=>by
  unfold bindL;rw[Kt λw hw=>h w (mem_cons_of_mem _ hw)];split
  .have:x≠n:=by rintro rfl;exact h v mem_cons_self
   simp[this]
  .rfl
theorem Ku {kindOf:Str->Option NameKind}{x:Str}:∀{binds:List (Str×Value)}{m:Str->Option Value},(∀v,(x,v)∉binds)->bindC kindOf binds m x=m x
 |[],_,_=>rfl
 | (n,v)::r,m,h=>by
  unfold bindC;rw[Ku λw hw=>h w (mem_cons_of_mem _ hw)];split
  .rfl
  .have:x≠n:=by rintro rfl;exact h v mem_cons_self
   simp[this]
theorem Kv {kindOf:Str->Option NameKind}{x:Str}{v:Value}:∀{P:List Str}{vs:List Value}{i:Nat}{m:Str->Option Value},P.Nodup->P[i]?=some x->vs[i]?=some v->kindOf x=some .local->bindL kindOf (P.zip vs) m x=some v
 |[],_,_,_,_,h,_,_=>by simp at h
 |_::_,[],_,_,_,_,h,_=>by simp at h
 |p::P,w::vs,0,m,nd,h1,h2,hk=>by simp at h1 h2;subst h1;subst h2;show bindL kindOf ((p,w)::P.zip vs) m p=_;unfold bindL;rw[Kt λv hv=>(nodup_cons.mp nd).1 (List.of_mem_zip hv).1,if_pos hk];simp
 |p::P,w::vs,i+1,m,nd,h1,h2,hk=>by show bindL kindOf ((p,w)::P.zip vs) m x=_;unfold bindL;exact Kv (i:=i) (nodup_cons.mp nd).2 (by simpa using h1) (by simpa using h2) hk
theorem Kw {kindOf:Str->Option NameKind}{x:Str}{v:Value}:∀{P:List Str}{vs:List Value}{i:Nat}{m:Str->Option Value},P.Nodup->P[i]?=some x->vs[i]?=some v->kindOf x≠some .local->bindC kindOf (P.zip vs) m x=some v
 |[],_,_,_,_,h,_,_=>by simp at h
 |_::_,[],_,_,_,_,h,_=>by simp at h
 |p::P,w::vs,0,m,nd,h1,h2,hk=>by simp at h1 h2;subst h1;subst h2;show bindC kindOf ((p,w)::P.zip vs) m p=_;unfold bindC;rw[Ku λv hv=>(nodup_cons.mp nd).1 (List.of_mem_zip hv).1,if_neg hk];simp
 |p::P,w::vs,i+1,m,nd,h1,h2,hk=>by show bindC kindOf ((p,w)::P.zip vs) m x=_;unfold bindC;exact Kw (i:=i) (nodup_cons.mp nd).2 (by simpa using h1) (by simpa using h2) hk
def start (N:List Str)(vs:List V):St:=vs.map some++List.replicate (N.length-vs.length) none
noncomputable def dh (CX:fw)(P:Program)(w:World)(K:PySem.W.Frag)(mg:Str->Option Value)(base:Heap)(N:List Str)(qual:Str)(scope:Scope)(f:Addr)(cd:Value)(A:Around)(outer:List Env)(s:Shared)(H:Hp)(E:XK):Cx where
 prog:=P
 w:=w
 K:=K
 mg:=mg
 base:=base
 A:=A.deeper (envOfC qual scope s.heap.objs.size f cd)
 N:=N
 av:=s
 bC:=H
 env:=envOfC qual scope s.heap.objs.size f cd
 outer:=outer
 stack:=envOfC qual scope s.heap.objs.size f cd::outer
 ex:=[]
 calm:=true
 fn:=λ_=>true
 pn:=[]
 xe:=λe s'=>wpAny (model P w) (A.deeper (envOfC qual scope s.heap.objs.size f cd)) (leaving (envOfC qual scope s.heap.objs.size f cd) e) (λ_ bL=>CX outer H s E e bL) (λe' bL=>CX outer H s E e' bL) s'
theorem Kx {sc:Scope}{n:Nat}{x:Str}(h:sc.names.lookup x=some .cell):∃c,(cellsFrom n sc.names []).lookup x=some c:=by have q:=PySem.W.cellsFrom_some sc.names n [] (.inl h);exact Option.isSome_iff_exists.mp q
theorem Sf {CX:fw}{P:Program}{w:World}{K:PySem.W.Frag}{mg:Str->Option Value}{base:Heap}{N ps:List Str}{qual:Str}{scope:Scope}{f:Addr}{cd:Value}{A:Around}{outer:List Env}{s s1:Shared}{H:Hp}{E:XK}{us:List Value}{vs:List V}(S:ql N ps scope)(hd:A.handled=none)(e0:oO P w K mg base A outer s H)(hl:vs.length=ps.length)(r:Vals vs us)(x:InCallC s s.heap.objs.size (bindL (envOfC qual scope s.heap.objs.size f cd).kindOf (ps.zip us) λ_=>none) (cellsFrom (s.heap.objs.size+1) scope.names []) (bindC (envOfC qual scope s.heap.objs.size f cd).kindOf (ps.zip us) λ_=>none) s1):
  Inv (dh CX P w K mg base N qual scope f cd A outer s H E) [] (start N vs) H s1:=by
 have cw:ps.length<=N.length:=by have:=congrArg List.length S.pre;rw[length_take]at this;lia
 obtain⟨h1,tk,rfl,hk⟩:=x.done;have sW:∀b:Addr,b∉(dh CX P w K mg base N qual scope f cd A outer s H E).ex:=λb z=>absurd (show b∈([]:List Addr)from z) (by simp);refine⟨⟨e0.mod,S.kind,rfl,rfl,le_refl _,λy z c h1 h2=>?_,λy hy=>?_,λy c _ h=>?_,λ_=>hd,Around.frames_deeper e0.frames,.inr ⟨rfl,rfl⟩,λb z=>absurd z (sW b),e0.bs,e0.jZ,λb _ _=>sW b,λb z=>absurd z (sW b),e0.fu,e0.iO⟩,rfl,e0.bare,Un.kept hk,⟨_,x.toInCall.ns,λi y v h1 h2 h3=>?_⟩,λy c h=>⟨_,x.cell y c h⟩,e0.ag.fresh (le_refl _),λy c h=>?_,λp hp=>absurd (show p∈([]:List (Addr×Obj))from hp) (by simp),e0.ag.kept hk,?_⟩
 .exact name_of_addr x.apart (PySem.mem_of_lookup h1) (PySem.mem_of_lookup h2)
 .have hy:scope.names.lookup y=some .cell\/scope.names.lookup y=some .free:=hy;rcases hy with hy|hy
  .exact Kx hy
  .exact absurd rfl (S.Se _ (PySem.mem_of_lookup hy))
 .exact le_of_lt (x.above y c (PySem.mem_of_lookup h))
 .have hi:i<vs.length:=by
   unfold start at h2;by_cases hi:i<vs.length
   .exact hi
   .rw[List.getElem?_append_right (by simpa using hi)]at h2;rw[List.getElem?_replicate]at h2;split at h2<;>cases h2
  have ha:vs[i]?=some v:=by
   unfold start at h2;rw[List.getElem?_append_left (by simpa using hi),getElem?_map]at h2;cases e:vs[i]? with
   |none=>rw[e]at h2;cases h2
   |some a=>rw[e]at h2;cases h2;rfl
  obtain⟨u,hu,rv⟩:=r.get ha;have hp:ps[i]?=some y:=by rw[<-S.pre,List.getElem?_take_of_lt (by lia)];exact h1
  have Ky:ps.Nodup:=by rw[<-S.pre];exact S.nd.sublist (List.take_sublist _ _)
  refine⟨u,rv,?_⟩;rcases S.par y (mem_of_getElem? hp)with k|k
  .exact .inl ⟨k,Kv Ky hp hu k⟩
  .obtain⟨c,e⟩:=Kx (n:=s.heap.objs.size+1) k;refine .inr ⟨.inl k,c,e,?_⟩;have q:=x.cell y c e;rw[Kw Ky hp hu (by show scope.names.lookup y≠_;rw[k];decide)]at q;exact q
 .exact e0.ag.fresh (le_of_lt (x.above y c (PySem.mem_of_lookup h)))
 .unfold start;show _=N.length;rw[length_append,length_map,length_replicate];lia
theorem Kz {CX:fw}{P:Program}{w:World}{K:PySem.W.Frag}{mg:Str->Option Value}{base:Heap}{k:Nat}{f:Addr}{name qual:Str}{params:Arguments}{body:List Stmt}{scope:Scope}{dV kV doc pm aJ ct oc:Value}{an od:Option Addr}{kI:Array (Option Value)}{N ps:List Str}{sp:Sp}(lk:K.lookup f=some ⟨oc,od,.func (PySem.W.fnOf name qual params body scope dV kV doc pm an aJ ct),kI⟩)(eS:PySem.W.codeIn K aJ qual=true)(S:ql N ps scope)(len:∀vs H Q E,sp vs H Q E->vs.length=ps.length)(bc:∀(A:Around)(outer:List Env)(s:Shared)(H:Hp)(vs:List V)(Q:VK)(E:XK),aY k (A.deeper (envOfC qual scope s.heap.objs.size f aJ))->sp vs H Q E->∃t,dg (dh CX P w K mg base N qual scope f aJ A outer s H E) body t/\t {nx:=λ_ H'=>Q .aq H',rt:=Q} (start N vs) H):
  xl P w K mg base CX (k+1) f (PySem.W.fnOf name qual params body scope dV kV doc pm an aJ ct) ps sp:=by
 refine⟨len,λA outer s H args us vs Q E hr e0 hb r il=>?_⟩;have hl:=len _ _ _ _ il;have KX:K.In s.heap:=e0.mod.eR.keeps λb o e=>(e0.bs b o e).1;have lim:s.heap.NoLimit:=e0.mod.nolimit.keeps λb o e=>(e0.bs b o e).1;have sX:∀y∈ps.zip us,scope.names.lookup y.1=some .local\/(scope.names.lookup y.1=some .cell/\((cellsFrom (s.heap.objs.size+1) scope.names []).lookup y.1).isSome=true):=λ⟨n,v⟩ hy=>by
  rcases S.par n (List.of_mem_zip hy).1 with q|q
  .exact .inl q
  .exact .inr ⟨q,PySem.W.cellsFrom_some _ _ _ (.inl q)⟩
 refine codeAny_call_function hr.depth (KX _ _ lk) rfl S.co S.gen rfl (PySem.W.codeRec_of KX eS) (hb _ _ _ _ ?_);refine wpAny_newFunctionEnv_cells S.kind sX λenv he s1 x=>?_;subst he;refine⟨lim.keeps x.toInCall.keep,codeAny_func ?_⟩;obtain⟨t,ht,hq⟩:=bc A outer s H vs Q E (hr.deeper _) il;have I:Inv (dh CX P w K mg base N qual scope f aJ A outer s H E) [] (start N vs) H s1:=Sf S hr.hd e0 hl r x;refine wpAny_mono (ht [] s1 (start N vs) H _ I hq) (λfl s' hs=>?_) λe s' hs=>hs;have fin:∀{U':St}{H':Hp}{v:V}{u:Value},Inv (dh CX P w K mg base N qual scope f aJ A outer s H E) [] U' H' s'->RelV v u->Q v H'->CE outer P w H s Q u s':=λ{U' H' v u} J rv q=>⟨v,H',J.os,J.bare,J.base,J.ag,rv,q⟩;cases fl with
 |ret u=>obtain⟨v,U',H',J,rv,q⟩:=hs;exact fin J rv q
 |next=>obtain⟨U',H',J,q⟩:=hs;exact fin (v:=V.aq) (u:=Value.none) J rfl q
 |brk=>obtain⟨_,_,_,q⟩:=hs;exact False.elim q
 |cont=>obtain⟨_,_,_,q⟩:=hs;exact False.elim q
section
variable {X:Cx}{x:Str}{p pos:Pos}{e:Expr}{es:List Expr}{t:TA}{id T:String}{r:List V->Hp->VK->Prop}
def KA (r:List V->Hp->VK->Prop)(t:TA):TE:=λU H Q=>t U H λvs H1=>r vs H1 Q
theorem jo (hc:fM X (.builtin id) r)(hg:Gl X x)(hm:X.mg x=none)(hv:bootBuiltins x=some (.builtin id))(ha:PA X (e::es) t)(hn:autoParam (x≠"__name__") aP2)(cU:autoParam ((x==("__debug__":Str))=false) aP2)(he:autoParam (starEach (e::es) X.env=(false,eval e X.env)::starEach es X.env) aP1)(cw:autoParam ((backTo pos (starEach es X.env)).any (·.1)=false) aP1):PE X (.Call (.Name x p) (e::es) [] pos) (KA r t):=by
 intro pins s U H Q I h;refine wpAny_Call_Name_kw (yF I hg hm hv ?_ hn cU);exact PyProof.Rows.callWith_builtin1 (ai (ha pos pins s U H _ I h) λus s1 ⟨vs,H1,I1,r1,q1⟩=>hc pins s1 U H1 vs us Q I1 r1 q1) he cw
theorem qT (hc:fM X (.type T) r)(hg:Gl X x)(hm:X.mg x=none)(hv:bootBuiltins x=some (.type T))(ha:PA X (e::es) t)(hn:autoParam (x≠"__name__") aP2)(cU:autoParam ((x==("__debug__":Str))=false) aP2)(he:autoParam (starEach (e::es) X.env=(false,eval e X.env)::starEach es X.env) aP1)(cw:autoParam ((backTo pos (starEach es X.env)).any (·.1)=false) aP1):PE X (.Call (.Name x p) (e::es) [] pos) (KA r t):=by
 intro pins s U H Q I h;refine wpAny_Call_Name_kw (yF I hg hm hv ?_ hn cU);exact PyProof.Rows.callWith_type1 (ai (ha pos pins s U H _ I h) λus s1 ⟨vs,H1,I1,r1,q1⟩=>hc pins s1 U H1 vs us Q I1 r1 q1) he cw
end
end L2
namespace HT
open PySem PyProof.Rows
noncomputable def lexLt:List Int->List Int->Bool
 |[],[]=>false
 |[],_::_=>true
 |_::_,[]=>false
 |x::xs,y::ys=>if x=y then lexLt xs ys else decide (x<y)
theorem C1 (x y:Int)(xs ys:List Int):lexLt (x::xs) (y::ys)=if x=y then lexLt xs ys else decide (x<y):=rfl
section
variable {prog:Program}{w:World}{A:Around}{E:Value->Shared->Prop}{s:Shared}
def bf (n d:Nat):Option Int->Nat
 |none=>d
 |some v=>if v<0 then(v+(n:Int)).toNat else min v.toNat n
theorem Sg (n d:Nat)(hd:d<=n)(o:Option Int):bf n d o<=n:=by
 cases o with
 |none=>exact hd
 |some v=>
  show(if v<0 then(v+(n:Int)).toNat else min v.toNat n)<=n;by_cases hv:v<0
  .rw[if_pos hv];lia
  .rw[if_neg hv];exact Nat.min_le_right _ _
theorem KC (v:Int)(n d:Nat):(if v<0 then max (v+(n:Int)) 0 else min v (n:Int))=((bf n d (some v):Nat):Int):=by
 show(if v<0 then max (v+(n:Int)) 0 else min v (n:Int))=(((if v<0 then(v+(n:Int)).toNat else min v.toNat n):Nat):Int);by_cases hv:v<0
 .simp only[if_pos hv];lia
 .simp only[if_neg hv];lia
theorem Sh (lo hi:Option Int)(n:Nat):Builtin.Slice.sliceAdjust lo hi 1 (n:Int)=(((bf n 0 lo:Nat):Int),((bf n n hi:Nat):Int)):=by
 have h1:¬((1:Int)<0):=by lia
 unfold Builtin.Slice.sliceAdjust;simp only[h1,if_false];refine Prod.ext ?_ ?_
 .cases lo with
  |none=>rfl
  |some v=>exact KC v n 0
 .cases hi with
  |none=>rfl
  |some v=>exact KC v n n
theorem Si (i j:Nat):Builtin.Slice.slicePlaces (i:Int) (j:Int) 1=j-i:=by
 unfold Builtin.Slice.slicePlaces;have h1:(1:Int)>0:=by lia
 simp only[h1,if_true,Int.ediv_one];split<;>lia
theorem KG {v:Value}{o:Option Int}{Q:Option Int->Shared->Prop}(p:IsPart v o)(h:Q o s):wpAny (model prog w) A (Builtin.Slice.slicePartIndex v) Q E s:=by
 cases p with
 |none=>exact slicePart_none h
 |int i t=>exact slicePart_int h
theorem Sj {sl:Addr}{vl vu:Value}{lo hi:Option Int}{n:Nat}{Q:Int×Int×Nat->Shared->Prop}(hs:s.heap.IsSliceOf sl vl vu .none)(pl:IsPart vl lo)(pu:IsPart vu hi)(h:Q (((bf n 0 lo:Nat):Int),1,bf n n hi-bf n 0 lo) s):wpAny (model prog w) A (Builtin.Slice.sliceApplied (.ref sl) (pure (n:Int))) Q E s:=by
 obtain⟨os,sY,KH,yV⟩:=id hs;unfold Builtin.Slice.sliceApplied Builtin.Slice.sliceFields;refine wpAny_bind (wpAny_bind (wpAny_field sY yV (x:=vl) rfl (wpAny_bind (wpAny_field sY yV (x:=vu) rfl (wpAny_bind (wpAny_field sY yV (x:=.none) rfl (wpAny_pure ?_)))))));refine wpAny_bind (slicePart_none ?_);show wpAny _ _ (if((1:Int)==0)=true then _ else _) _ _ s;rw[if_neg (by decide)];refine wpAny_bind (KG pl (wpAny_bind (KG pu (wpAny_bind (wpAny_pure ?_)))));show wpAny _ _ (match Builtin.Slice.sliceAdjust lo hi 1 (n:Int)with|(lo,hi)=>pure (lo,(1:Int),Builtin.Slice.slicePlaces lo hi 1)) _ _ s;rw[Sh lo hi n];show wpAny _ _ (pure (((bf n 0 lo:Nat):Int),(1:Int),Builtin.Slice.slicePlaces ((bf n 0 lo:Nat):Int) ((bf n n hi:Nat):Int) 1)) _ _ s;rw[Si];exact wpAny_pure h
theorem Sl (xs:Array Value)(i k:Nat):((List.range k).filterMap λ(m:Nat)=>xs[((i:Int)+(m:Int)*1).toNat]?).toArray=((xs.toList.drop i).take k).toArray:=by
 have e:(λ(m:Nat)=>xs[((i:Int)+(m:Int)*1).toNat]?)=λm=>xs[i+m]?:=by
  funext m;have:((i:Int)+(m:Int)*1).toNat=i+m:=by lia
  rw[this]
 rw[e];have:=pick_run xs i k;rw[List.filterMap_map]at this;have e2:((λx=>xs[x]?)∘λx=>i+x)=λm=>xs[i+m]?:=rfl;rw[e2]at this;rw[this]
theorem Sm {t sl:Addr}{items:Array Value}{vl vu:Value}{lo hi:Option Int}{Q:Value->Shared->Prop}(ht:IsTup s.heap t items)(hs:s.heap.IsSliceOf sl vl vu .none)(pl:IsPart vl lo)(pu:IsPart vu hi)(hw:¬(bf items.size 0 lo=0/\bf items.size items.size hi=items.size))(h:Q (.ref s.heap.objs.size) {s with heap:=s.heap.push {cls:=.type "tuple",data:=.seq ((items.toList.drop (bf items.size 0 lo)).take (bf items.size items.size hi-bf items.size 0 lo)).toArray}})(hsz:items.size<=sizeLine):wpAny (model prog w) A (getItem (.ref t) (.ref sl)) Q E s:=by
 have gE:sizeOk (.seq ((items.toList.drop (bf items.size 0 lo)).take (bf items.size items.size hi-bf items.size 0 lo)).toArray):=by show((items.toList.drop (bf items.size 0 lo)).take (bf items.size items.size hi-bf items.size 0 lo)).toArray.size<=sizeLine;rw[size_toArray,length_take,length_drop,Array.length_toList];lia
 have hj:bf items.size items.size hi<=items.size:=Sg _ _ (le_refl _) hi;obtain⟨os,sY,KH,yV⟩:=id hs;have Sn:s.TypeIs (.ref sl) "slice":=⟨os,sY,KH⟩;unfold getItem;try with_reducible refine wpAny_holding ?_
 first|refine wpAny_bind (wpAny_pure ?_)|skip
 refine wpAny_bind (wpAny_sequenceKey ht.typeIs (by decide) ?_);refine wpAny_bind (wpAny_callSpecial?_slot (name:=Str.ofString "__getitem__") ht.typeIs PyProof.Rows.slot_tuple_getitem (wpAny_call_entry PyProof.Rows.slot_tuple_getitem ht.typeIs entry_tuple_getitem ?_ (args_tuple_getitem _ _)));show wpAny _ _ (Builtin.Tuple.tupleItemsOf (.ref t) >>= _) _ _ s;refine wpAny_bind (tupleItemsOf_ ht ?_);refine wpAny_bind (wpAny_typeOf Sn ?_);rw[if_pos (by decide)];refine wpAny_bind (Sj hs pl pu ?_);have lP:¬((((bf items.size 0 lo:Nat):Int)==0&&(1:Int)==1&&(bf items.size items.size hi-bf items.size 0 lo)==items.size)=true):=by
  intro q;rw[Bool.and_eq_true,Bool.and_eq_true]at q;have q1:((bf items.size 0 lo:Nat):Int)=0:=eq_of_beq q.1.1;have q2:bf items.size items.size hi-bf items.size 0 lo=items.size:=eq_of_beq q.2;exact hw ⟨by lia,by lia⟩
 show wpAny _ _ (if(((bf items.size 0 lo:Nat):Int)==0&&(1:Int)==1&&(bf items.size items.size hi-bf items.size 0 lo)==items.size)=true then _ else _) _ _ s;rw[if_neg lP,Sl];first
  |exact wpAny_bind (m:=Builtin.Tuple.tupleExact _) (wpAny_newObj_type (wpAny_pure ⟨_,rfl,wpAny_pure h⟩) gE)
  |exact wpAny_bind (m:=Builtin.Tuple.tupleExact _) (wpAny_newObj_type (wpAny_bind (wpAny_pure (wpAny_pure ⟨_,rfl,wpAny_pure h⟩))) gE)
  |exact wpAny_bind (wpAny_bind (m:=Builtin.Tuple.tupleExact _) (wpAny_newObj_type (wpAny_pure (wpAny_pure ⟨_,rfl,wpAny_pure h⟩)) gE))
  |exact wpAny_bind (wpAny_bind (m:=Builtin.Tuple.tupleExact _) (wpAny_newObj_type (wpAny_pure ⟨_,rfl,wpAny_pure h⟩) gE))
end
end HT
namespace L2
open PySem PySem.Spec PyProof.Rows
abbrev TO:=St->Hp->(Option Int->Hp->Prop)->Prop
noncomputable def PO (X:Cx)(e:Option Expr)(t:TO):Prop:=∀(pins:List (Addr×Obj))(s:Shared)(U:St)(H:Hp)(Q:Option Int->Hp->Prop),Inv X pins U H s->t U H Q->wpAny (model X.prog X.w) X.A (evalPart e X.env) (λu s'=>∃o H',Inv X pins U H' s'/\IsPart u o/\Q o H') X.xe s
def So:TO:=λ_ H Q=>Q none H
def Sq (t:TE):TO:=λU H Q=>t U H λx H1=>∃i,x= .int i/\Q (some i) H1
theorem intsAre_of {ns:List Int}:∀{us:List Value},Vals (ns.map V.int) us->IntsAre us ns:=by
 induction ns with
 |nil=>intro us r;rw[map_nil]at r;cases r;exact .nil
 |cons n ns ih=>
  intro us r;rw[map_cons]at r;cases r with
  |cons r1 r2=>obtain⟨t,e⟩:=r1;subst e;exact .cons n t (ih r2)
section
variable {X:Cx}{e:Expr}{te:TE}{lo hi:Option Expr}{tl th:TO}{pos p2:Pos}
theorem Sr:PO X none So:=by intro pins s U H Q I h;rw[evalPart_none];exact wpAny_pure ⟨none,H,I,.none,h⟩
theorem Ss (h:PE X e te):PO X (some e) (Sq te):=by intro pins s U H Q I hw;rw[evalPart_some];refine ai (h pins s U H _ I hw) λu s1 zQ=>?_;obtain⟨x,H1,I1,r1,q1⟩:=zQ;obtain⟨i,rfl,q⟩:=q1;obtain⟨t,rfl⟩:=r1;exact⟨some i,H1,I1,.int i t,q⟩
noncomputable def C2 (X:Cx)(r:V->Option Int->Option Int->Hp->VK->Prop):Prop:=∀(pins:List (Addr×Obj))(s:Shared)(U:St)(H:Hp)(x:V)(v vl vu:Value)(lo hi:Option Int)(sl:Addr)(Q:VK),Inv X pins U H s->RelV x v->s.heap.IsSliceOf sl vl vu .none->IsPart vl lo->IsPart vu hi->r x lo hi H Q->∃T id,typeLookup (.type T) "__getitem__"=pure (some (.builtin id))/\s.TypeIs v T/\wpAny (model X.prog X.w) X.A (getItem v (.ref sl)) (EP X pins U Q) X.xe s
noncomputable def Su (r:V->Option Int->Option Int->Hp->VK->Prop)(te:TE)(tl th:TO):TE:=λU H Q=>te U H λx H1=>tl U H1 λl H2=>th U H2 λu H3=>r x l u H3 Q
theorem Sv {r:V->Option Int->Option Int->Hp->VK->Prop}(hr:C2 X r)(he:PE X e te)(hl:PO X lo tl)(hu:PO X hi th):PE X (.Subscript e (.Slice lo hi none p2) pos) (Su r te tl th):=by intro pins s U H Q I h;refine Subscript_ (ai (he pins s U H _ I h) λv s1 zQ=>?_);obtain⟨x,H1,I1,r1,q1⟩:=zQ;refine wpAny_Slice (ai (hl pins s1 U H1 _ I1 q1) λvl s2 ⟨l,H2,I2,pl,q2⟩=>ai (hu pins s2 U H2 _ I2 q2) λvu s3 zQ=>?_);obtain⟨u,H3,I3,pu,q3⟩:=zQ;rw[evalPart_none];refine wpAny_pure ?_;have I4:Inv X pins U H3 {s3 with heap:=s3.heap.push {cls:=.type "slice",data:=.fields #[vl,vu,.none]}}:=I3.kept (t':=s3.toks) λb ob q=>Heap.get?_push_of_some _ q;obtain⟨T,id,hT,ht,hg⟩:=hr pins {s3 with heap:=s3.heap.push {cls:=.type "slice",data:=.fields #[vl,vu,.none]}} U H3 x v vl vu l u s3.heap.objs.size Q I4 r1 (Heap.IsSliceOf.new ..) pl pu q3;show wpAny (model X.prog X.w) X.A (subscriptTail e (.Slice lo hi none p2) v (.ref s3.heap.objs.size)) (EP X pins U Q) X.xe {s3 with heap:=s3.heap.push {cls:=.type "slice",data:=.fields #[vl,vu,.none]}};exact tail_any (ops:=[.ref s3.heap.objs.size,v]) ht hT hg (by with_unfolding_all rfl)
noncomputable def sZ (xs:List V)(lo hi:Option Int):List V:=(xs.drop (HT.bf xs.length 0 lo)).take (HT.bf xs.length xs.length hi-HT.bf xs.length 0 lo)
theorem Sy (xs:List V)(lo hi:Option Int):(sZ xs lo hi).length<=xs.length:=by unfold sZ;rw[length_take,length_drop];lia
noncomputable def KI (K:PySem.W.Frag):V->Option Int->Option Int->Hp->VK->Prop:=λx lo hi H Q=>∃a xs,x= .ref a/\aA K H a xs/\¬(HT.bf xs.length 0 lo=0/\HT.bf xs.length xs.length hi=xs.length)/\∀p,H p=none->Q (.ref p) (upd H p (.tup (sZ xs lo hi)))
theorem SE:C2 X (KI X.K):=by
 intro pins s U H x v vl vu lo hi sl Q I rx hs pl pu h;obtain⟨a,xs,rfl,hx,hw,q⟩:=h;cases rx;obtain⟨its,r,ht,hz⟩:=I.tuple hx;have hlen:its.toArray.size=xs.length:=by rw[size_toArray];exact r.length.symm
 refine⟨"tuple",_,PyProof.Rows.slot_tuple_getitem.lookup,ht.typeIs,?_⟩;refine HT.Sm ht hs pl pu (by rw[hlen];exact hw) ?_ (by rw[hlen];exact hz);rw[hlen];refine⟨.ref s.heap.objs.size,_,I.laid (t':=s.toks) (o:=.tup (sZ xs lo hi)) (λb ob q=>Heap.get?_push_of_some _ q) (le_refl _) ?_,rfl,q _ (I.ag.fresh (le_refl _))⟩;exact⟨le_trans (Sy xs lo hi) hz,_,(r.drop (HT.bf xs.length 0 lo)).take (HT.bf xs.length xs.length hi-HT.bf xs.length 0 lo),IsTup.new _ _⟩
end
noncomputable def mZ (n:Nat)(i:Int):Option Nat:=if 0<=i then(if i<n then some i.toNat else none)else if-(n:Int)<=i then some (i+n).toNat else none
def ni {α:Type}(xs:List α)(i:Int):Option α:=(mZ xs.length i).bind λj=>xs[j]?
theorem KJ {n:Nat}{i:Int}{j:Nat}(h:mZ n i=some j):seqIndex? i n=some j/\j<n/\-(n:Int)<=i/\i<n:=by
 unfold mZ at h;by_cases h0:0<=i
 .rw[if_pos h0]at h;by_cases h1:i<n
  .rw[if_pos h1]at h;have e:i.toNat=j:=Option.some.inj h;exact⟨by rw[seqIndex_of h0 h1,e],by lia,by lia,h1⟩
  .rw[if_neg h1]at h;cases h
 .rw[if_neg h0]at h;by_cases h1:-(n:Int)<=i
  .rw[if_pos h1]at h;have e:(i+n).toNat=j:=Option.some.inj h;exact⟨by rw[seqIndex_neg (by lia) h1,e],by lia,h1,by lia⟩
  .rw[if_neg h1]at h;cases h
theorem KL {α:Type}{xs:List α}{i:Int}{v:α}(h:ni xs i=some v):∃j,seqIndex? i xs.length=some j/\xs[j]?=some v/\j<xs.length/\-(xs.length:Int)<=i/\i<xs.length:=by
 unfold ni at h;cases e:mZ xs.length i with
 |none=>rw[e]at h;cases h
 |some j=>rw[e]at h;obtain⟨h1,h2,h3,h4⟩:=KJ e;exact⟨j,h1,h,h2,h3,h4⟩
def SG (b:Expr):Prop:=∀o i,subscripted b false o i=operate [o,i] (getItem o i)
noncomputable def yW (X:Cx)(r:R2):Prop:=∀(value slice:Expr)(pins:List (Addr×Obj))(s:Shared)(U:St)(H:Hp)(x y:V)(v u:Value)(Q:VK),Inv X pins U H s->RelV x v->RelV y u->r x y H Q->subscripted slice false v u=operate [v,u] (getItem v u)->wpAny (model X.prog X.w) X.A (subscriptTail value slice v u) (EP X pins U Q) X.xe s
noncomputable def lQ (X:Cx)(id:String)(r:V->List V->Hp->VK->Prop):Prop:=∀(pins:List (Addr×Obj))(s:Shared)(U:St)(H:Hp)(x:V)(xs:List V)(v:Value)(us:List Value)(Q:VK),Inv X pins U H s->RelV x v->Vals xs us->r x xs H Q->wpAny (model X.prog X.w) X.A (call (.builtin id) (v::us)) (EP X pins U Q) X.xe s
section
variable {X:Cx}{a b:Expr}{ta tb:TE}{pos:Pos}
theorem cC {r:R2}(hr:yW X r)(ha:PE X a ta)(hb:PE X b tb)(hs:SG b):PE X (.Subscript a b pos) (yN r ta tb):=by intro pins s U H Q I h;exact Subscript_ (CN ha hb I h λv u s2 x y H2 I2 rx ry q=>hr a b pins s2 U H2 x y v u Q I2 rx ry q (hs _ _))
def SH (K:PySem.W.Frag):R2:=λx y H Q=>∃p xs i v,x= .ref p/\y= .int i/\ah K H p xs/\ni xs i=some v/\Q v H
def KN (K:PySem.W.Frag):R2:=λx y H Q=>∃p xs i v,x= .ref p/\y= .int i/\aA K H p xs/\ni xs i=some v/\Q v H
theorem uw:yW X (SH X.K):=by
 intro value slice pins s U H x y v u Q I rx ry h hs;obtain⟨p,xs,i,z,rfl,rfl,hq,he,q⟩:=h;cases rx;obtain⟨t,rfl⟩:=ry;obtain⟨its,r,pl,hz⟩:=I.list hq;obtain⟨j,h1,h2,h3,h4,h5⟩:=KL he;obtain⟨w,ew,cK⟩:=r.get h2;have hl:=r.length;have hn:=oM;have fin:EP X pins U Q w s:=⟨z,H,I,cK,q⟩;by_cases h0:0<=i
 .have hj:i.toNat=j:=by
   rw[seqIndex_of h0 h5]at h1;exact Option.some.inj h1
  exact item_listR pl.isList h0 (by lia) (by rw[hj];simpa using ew) fin hs
 .have hj:(i+(its.toArray.size:Int)).toNat=j:=by
   rw[seqIndex_neg (by lia) h4]at h1;rw[size_toArray,<-hl];exact Option.some.inj h1
  exact subscriptTail_builtinR (x:=w) pl.isList.typeIs slot_list_getitem.lookup (wpAny_getItem_list_neg (Q:=λr s'=>r=w/\EP X pins U Q r s') pl.isList (by lia) (by rw[size_toArray]<;>lia) (by lia) (by rw[hj];simpa using ew) ⟨rfl,fin⟩) hs
theorem kJ:yW X (KN X.K):=by
 intro value slice pins s U H x y v u Q I rx ry h hs;obtain⟨p,xs,i,z,rfl,rfl,hq,he,q⟩:=h;cases rx;obtain⟨t,rfl⟩:=ry;obtain⟨its,r,pl,hz⟩:=I.tuple hq;obtain⟨j,h1,h2,h3,h4,h5⟩:=KL he;obtain⟨w,ew,cK⟩:=r.get h2;have hl:=r.length;have hn:=oM;have fin:EP X pins U Q w s:=⟨z,H,I,cK,q⟩;exact subscriptTail_builtinR (x:=w) pl.typeIs slot_tuple_getitem.lookup (getItem_tuple (j:=j) (Q:=λr s'=>r=w/\EP X pins U Q r s') pl (by lia) (by lia) (by rw[size_toArray,<-hl];exact h1) (by simpa using ew) ⟨rfl,fin⟩) hs
theorem SI (its:List Value)(n j:Nat)(u:Value):Obj.mapSeq (·.setIfInBounds j u) {cls:=.type "list",data:=.seq its.toArray n}={cls:=.type "list",data:=.seq (its.set j u).toArray n}:=by simp[Obj.mapSeq]
theorem Inv.lst {pins:List (Addr×Obj)}{U:St}{H:Hp}{s:Shared}{p:Addr}{xs:List V}(I:Inv X pins U H s)(h:H p=some (.lst xs)):∃(its:List Value)(n:Nat),Vals xs its/\s.heap.get? p=some {cls:=.type "list",data:=.seq its.toArray n}/\xs.length<=sizeLine:=by
 obtain⟨z,its,n,r,e⟩:=I.ag p _ h;exact⟨its,n,r,e,z⟩
theorem Inv.SJ {pins:List (Addr×Obj)}{U:St}{H:Hp}{s:Shared}{p:Addr}{xs ys:List V}{its its':List Value}{n n':Nat}{f:Obj->Obj}(I:Inv X pins U H s)(h:H p=some (.lst xs))(ho:s.heap.get? p=some {cls:=.type "list",data:=.seq its.toArray n})(hf:f {cls:=.type "list",data:=.seq its.toArray n}={cls:=.type "list",data:=.seq its'.toArray n'})(r:Vals ys its')(hz:ys.length<=sizeLine)(t:Nat):
  Inv X pins U (upd H p (.lst ys)) {s with heap:=s.heap.update p f,toks:=t}:=by
 have e:(s.heap.update p f).get? p=some {cls:=.type "list",data:=.seq its'.toArray n'}:=by rw[Heap.get?_update_self f ho (by rw[hf]<;>rfl),hf]
 refine I.write (x:=p) (e:=p) (by rw[h];trivial) (.inl rfl) (λb u hb q=>(Heap.get?_update_other _ _ (Ne.symm hb)).trans q) ⟨_,e⟩ ?_;exact⟨hz,its',n',r,e⟩
noncomputable def SK:V->V->V->Hp->(Hp->Prop)->Prop:=λo i v H Q=>∃p xs k j,o= .ref p/\i= .int k/\H p=some (.lst xs)/\mZ xs.length k=some j/\Q (upd H p (.lst (xs.set j v)))
theorem set_list:CH X SK:=by
 intro pins s U H o i v ov iv u Q I ro ri rv h;obtain⟨p,xs,k,j,rfl,rfl,hp,hj,q⟩:=h;cases ro;obtain⟨t,rfl⟩:=ri;obtain⟨its,n,r,ho,hz⟩:=I.lst hp;obtain⟨h1,h2,h3,h4⟩:=KJ hj;have hl:=r.length;have hn:=oM;have I':Inv X pins U (upd H p (.lst (xs.set j v))) {s with heap:=s.heap.update p (Obj.mapSeq (·.setIfInBounds j u))}:=I.SJ hp ho (SI its n j u) (r.set rv j) (by rw[length_set];exact hz) s.toks;by_cases h0:0<=k
 .have hk:k.toNat=j:=by
   rw[seqIndex_of h0 h4]at h1;exact Option.some.inj h1
  exact PySem.W.ki_setAt ho h0 (by lia) (by rw[size_toArray,<-hl];exact h4) (by rw[hk];exact⟨_,I',q⟩)
 .have hk:(k+(its.toArray.size:Int)).toNat=j:=by
   rw[seqIndex_neg (by lia) h3]at h1;rw[size_toArray,<-hl];exact Option.some.inj h1
  exact PySem.W.ki_setBack ho (by lia) (by rw[size_toArray,<-hl];exact h3) (by lia) (by rw[hk];exact⟨_,I',q⟩)
def lR:V->Bool
 | .aq=>true
 | .bl _=>true
 | .int _=>true
 | .str _=>true
 |_=>false
noncomputable def nj:V->V->Bool
 | .aq,.aq=>true
 | .bl a,.bl b=>a==b
 | .bl a,.int b=>(if a then 1 else 0)==b
 | .int a,.bl b=>a==(if b then 1 else 0)
 | .int a,.int b=>a==b
 | .str a,.str b=>a==b
 |_,_=>false
theorem SM {A:Around}{s:Shared}{y x:V}{u v:Value}(ry:RelV y u)(rx:RelV x v)(fy:lR y=true)(fx:lR x=true):SeqAt.EqAt A s u v (nj y x):=by
 cases y with
 |aq=>
  cases ry;cases x with
  |aq=>cases rx;exact SeqAt.EqAt.same _
  |bl b=>cases rx;exact SeqAt.EqAt.none_bool b
  |int b=>obtain⟨t,rfl⟩:=rx;exact SeqAt.EqAt.none_int b t
  |str b=>obtain⟨t,rfl⟩:=rx;exact SeqAt.EqAt.none_str b t
  |_=>exact absurd (show false=true from fx) Bool.false_ne_true
 |bl a=>
  cases ry;cases x with
  |aq=>cases rx;exact SeqAt.EqAt.bool_none a
  |bl b=>cases rx;exact SeqAt.EqAt.bool_bool a b
  |int b=>obtain⟨t,rfl⟩:=rx;exact SeqAt.EqAt.bool_int a b t
  |str b=>obtain⟨t,rfl⟩:=rx;exact SeqAt.EqAt.bool_str a b t
  |_=>exact absurd (show false=true from fx) Bool.false_ne_true
 |int a=>
  obtain⟨t',rfl⟩:=ry;cases x with
  |aq=>cases rx;exact SeqAt.EqAt.int_none a t'
  |bl b=>cases rx;exact SeqAt.EqAt.int_bool a t' b
  |int b=>obtain⟨t,rfl⟩:=rx;exact SeqAt.EqAt.int_int a t' b t
  |str b=>obtain⟨t,rfl⟩:=rx;exact SeqAt.EqAt.int_str a t' b t
  |_=>exact absurd (show false=true from fx) Bool.false_ne_true
 |str a=>
  obtain⟨t',rfl⟩:=ry;cases x with
  |aq=>cases rx;exact SeqAt.EqAt.str_none a t'
  |bl b=>cases rx;exact SeqAt.EqAt.str_bool a t' b
  |int b=>obtain⟨t,rfl⟩:=rx;exact SeqAt.EqAt.str_int a t' b t
  |str b=>obtain⟨t,rfl⟩:=rx;exact SeqAt.EqAt.str_str a t' b t
  |_=>exact absurd (show false=true from fx) Bool.false_ne_true
 |_=>exact absurd (show false=true from fy) Bool.false_ne_true
noncomputable def fN (x:V)(u:Value):Bool:=match u with
 | .none=>nj .aq x
 | .bool b=>nj (.bl b) x
 | .int i _=>nj (.int i) x
 | .str z _=>nj (.str z) x
 |_=>false
theorem KO {x y:V}{u:Value}(r:RelV y u)(f:lR y=true):fN x u=nj y x:=by
 cases y with
 |aq=>cases r;rfl
 |bl b=>cases r;rfl
 |int i=>obtain⟨t,rfl⟩:=r;rfl
 |str z=>obtain⟨t,rfl⟩:=r;rfl
 |_=>exact absurd (show false=true from f) Bool.false_ne_true
theorem tf {x:V}:∀{xs:List V}{us:List Value},Vals xs us->xs.all lR=true->us.any (fN x)=xs.any λy=>nj y x
 |_,_,.nil,_=>rfl
 |y::xs,u::us,.cons r t,f=>by rw[List.all_cons,Bool.and_eq_true]at f;rw[any_cons,any_cons,KO r f.1,tf t f.2]
theorem tj {A:Around}{s:Shared}{x:V}{v:Value}(rx:RelV x v)(fx:lR x=true):∀{xs:List V}{us:List Value},Vals xs us->xs.all lR=true->∀u∈us,SeqAt.EqAt A s u v (fN x u)
 |_,_,.nil,_=>λu hu=>by cases hu
 |y::xs,u::us,.cons r t,f=>λu' hu=>by
  rw[List.all_cons,Bool.and_eq_true]at f;rcases mem_cons.mp hu with rfl|hu
  .rw[KO r f.1];exact SM r rx f.1 fx
  .exact tj rx fx t f.2 u' hu
def yX (x:V)(xs:List V):Bool:=xs.any λy=>nj y x
noncomputable def C3 (K:PySem.W.Frag)(neg:Bool):R2:=λx y H Q=>∃p xs,y= .ref p/\(ah K H p xs\/aA K H p xs)/\lR x=true/\xs.all lR=true/\Q (.bl (if neg then !yX x xs else yX x xs)) H
theorem KP:bK X (compareOp .In) (C3 X.K false):=by
 intro pins s U H x y v u Q I rx ry h;obtain⟨p,xs,rfl,hq,fx,fs,q⟩:=h;cases ry;rcases hq with hq|hq
 .obtain⟨its,r,pl,hz⟩:=I.list hq;refine SeqAt.in_listAt (fN x) pl.isList (λw hw=>tj rx fx r fs w (by simpa using hw)) ⟨.bl _,H,I,rfl,?_⟩;rw[show its.toArray.any (fN x)=its.any (fN x)by simp,tf r fs];exact q
 .obtain⟨its,r,pl,hz⟩:=I.tuple hq;refine SeqAt.in_tupleAt (fN x) pl (λw hw=>tj rx fx r fs w (by simpa using hw)) ⟨.bl _,H,I,rfl,?_⟩;rw[show its.toArray.any (fN x)=its.any (fN x)by simp,tf r fs];exact q
theorem yY:bK X (compareOp .NotIn) (C3 X.K true):=by
 intro pins s U H x y v u Q I rx ry h;obtain⟨p,xs,rfl,hq,fx,fs,q⟩:=h;cases ry;rcases hq with hq|hq
 .obtain⟨its,r,pl,hz⟩:=I.list hq;refine SeqAt.notIn_listAt (fN x) pl.isList (λw hw=>tj rx fx r fs w (by simpa using hw)) ⟨.bl _,H,I,rfl,?_⟩;rw[show its.toArray.any (fN x)=its.any (fN x)by simp,tf r fs];exact q
 .obtain⟨its,r,pl,hz⟩:=I.tuple hq;refine SeqAt.notIn_tupleAt (fN x) pl (λw hw=>tj rx fx r fs w (by simpa using hw)) ⟨.bl _,H,I,rfl,?_⟩;rw[show its.toArray.any (fN x)=its.any (fN x)by simp,tf r fs];exact q
theorem jw:fM X (.builtin "len") (λxs H Q=>∃p ys,xs=[.ref p]/\(ah X.K H p ys\/aA X.K H p ys)/\Q (.int ys.length) H):=by
 intro pins s U H xs us Q I r h;obtain⟨p,ys,rfl,hq,q⟩:=h;obtain⟨u,rfl,rx⟩:=vals1 r;cases rx;have hn:=oM;rcases hq with hq|hq
 .obtain⟨its,r',pl,hz⟩:=I.list hq;have hlen:=r'.length;exact Calls.call_len_list pl.isList (by simp only[size_toArray]<;>lia) ⟨.int ys.length,H,I.tok _,⟨s.toks+1,by rw[size_toArray,hlen]⟩,q⟩
 .obtain⟨its,r',pl,hz⟩:=I.tuple hq;have hlen:=r'.length;exact len_tuple pl (by simp only[size_toArray]<;>lia) ⟨.int ys.length,H,I.tok _,⟨s.toks+1,by rw[size_toArray,hlen]⟩,q⟩
theorem tm:fM X (.type "list") (λxs H Q=>∃p ys,xs=[.ref p]/\(ah X.K H p ys\/aA X.K H p ys)/\∀l,H l=none->Q (.ref l) (upd H l (.lst ys))):=by
 intro pins s U H xs us Q I r h;obtain⟨p,ys,rfl,hq,q⟩:=h;obtain⟨u,rfl,rx⟩:=vals1 r;cases rx;have fin:∀(its:List Value),Vals ys its->ys.length<=sizeLine->∀(h':Heap)(c':Nat),(∀b o',s.heap.get? b=some o'->h'.get? b=some o')->h'.get? s.heap.objs.size=some {cls:=.type "list",dict:=none,data:=.seq its.toArray c',slots:=#[]}->EP X pins U Q (.ref s.heap.objs.size) {s with heap:=h'}:=λits r' hz h' c' kp e=>⟨.ref s.heap.objs.size,_,I.laid (t':=s.toks) kp (le_refl _) (show vc X.prog X.w _ h' _ (.lst ys)from⟨hz,its,c',r',e⟩),rfl,q _ (I.ag.fresh (le_refl _))⟩;rcases hq with hq|hq
 .obtain⟨its,r',pl,hz⟩:=I.list hq;have hlen:=r'.length;obtain⟨o,ho,hc,n,hd⟩:=pl.isList;exact call_list_seq p (.inl rfl) ho hc hd (λh' c' kp e=>fin its r' hz h' c' kp e) (by simp only[size_toArray]<;>lia)
 .obtain⟨its,r',pl,hz⟩:=I.tuple hq;have hlen:=r'.length;obtain⟨o,ho,hc,n,hd⟩:=pl;exact call_list_seq p (.inr rfl) ho hc hd (λh' c' kp e=>fin its r' hz h' c' kp e) (by simp only[size_toArray]<;>lia)
noncomputable def C4 (K:PySem.W.Frag)(T:String)(x:V)(H:Hp):Prop:=match x with
 | .str _=>T="str"
 | .int _=>T="int"
 | .ref p=>(T="list"/\∃xs,ah K H p xs)\/(T="tuple"/\∃o,K.lookup p=some o/\o.cls= .type "tuple"/\o.dict=none)\/(T="dict"/\((∃aa,H p=some (.dK aa))\/∃aa,H p=some (.dT aa)))\/(T="set"/\∃S n,H p=some (.set S n))
 |_=>False
theorem KQ {pins:List (Addr×Obj)}{U:St}{H:Hp}{s:Shared}{T:String}{x:V}{v:Value}(I:Inv X pins U H s)(r:RelV x v)(ty:C4 X.K T x H):s.TypeIs v T/\∀a,v= .ref a->∃ob,s.heap.get? a=some ob/\ob.dict=none:=by
 cases x with
 |str z=>obtain⟨t,rfl⟩:=r;cases(show T="str"from ty);exact⟨typeIs_str s z t,λ_ e=>nomatch e⟩
 |int i=>obtain⟨t,rfl⟩:=r;cases(show T="int"from ty);exact⟨typeIs_int s i t,λ_ e=>nomatch e⟩
 | ref p=>
  cases r;rcases ty with⟨rfl,xs,hq⟩|⟨rfl,o,hk,hc,hd⟩|⟨rfl,hk⟩|⟨rfl,S,n,hk⟩
  .obtain⟨its,_,pl,_⟩:=I.list hq;refine⟨pl.isList.typeIs,λa e=>?_⟩;cases e;obtain⟨o,n,e,c,hd,_⟩:=pl;exact⟨o,e,hd⟩
  .refine⟨⟨o,I.aW p o hk,hc⟩,λa e=>?_⟩;cases e;exact⟨o,I.aW _ o hk,hd⟩
  .have z:∃o,s.heap.get? p=some o/\o.ExactDict:=by
    rcases hk with⟨aa,hk⟩|⟨aa,hk⟩
    .obtain⟨_,_,_,_,o,_,_,e,ex,_⟩:=I.ag p _ hk;exact⟨o,e,ex⟩
    .obtain⟨_,_,_,_,o,_,_,e,ex,_⟩:=I.ag p _ hk;exact⟨o,e,ex⟩
   obtain⟨o,e,ex⟩:=z;refine⟨⟨o,e,ex.1⟩,λa e2=>?_⟩;cases e2;exact⟨o,e,ex.2.1⟩
  .obtain⟨o,_,_,_,e,ex,_⟩:=I.ag p _ hk;refine⟨⟨o,e,ex.1⟩,λa e2=>?_⟩;cases e2;exact⟨o,e,ex.2.1⟩
 |_=>exact False.elim ty
def SO (K:PySem.W.Frag)(T:String)(r:V->List V->Hp->VK->Prop)(to:TE):TE:=λU H Q=>to U H λx H1=>C4 K T x H1/\r x [] H1 Q
noncomputable def KR (K:PySem.W.Frag)(T:String)(r:V->List V->Hp->VK->Prop)(to:TE)(t:TA):TE:=λU H Q=>to U H λx H1=>C4 K T x H1/\t U H1 λxs H2=>r x xs H2 Q
variable {o e:Expr}{es:List Expr}{to:TE}{t:TA}{name:Str}{apos au:Pos}{T id:String}{r:V->List V->Hp->VK->Prop}
theorem yZ (pa:PlainAttrs T)(slot:Slot T name id)(tq:typeOf (.builtin id)=pure (.type "method_descriptor"))(hm:lQ X id r)(ho:PE X o to)(cV:autoParam (attributeBase o name X.env (eval o X.env)=eval o X.env) aP1)(eW:autoParam ((apos.endLine==au.line)=true) aP1):PE X (.Call (.Attribute o name apos) [] [] au) (SO X.K T r to):=by
 intro pins s U H Q I h;refine wpAny_Call_method0_late cV eW (ai (ho pins s U H _ I h) λv s1 zQ=>?_);obtain⟨x,H1,I1,r1,ty,q1⟩:=zQ;obtain⟨h1,h2⟩:=KQ I1 r1 ty;exact⟨T,id,pa,slot,tq,h1,h2,Calls.callWith_builtin rfl (PySem.evalArgs_none (hm pins s1 U H1 x [] v [] Q I1 r1 .nil q1))⟩
theorem dZ (pa:PlainAttrs T)(slot:Slot T name id)(tq:typeOf (.builtin id)=pure (.type "method_descriptor"))(hm:lQ X id r)(ho:PE X o to)(ha:PA X (e::es) t)(cV:autoParam (attributeBase o name X.env (eval o X.env)=eval o X.env) aP1)(oQ:autoParam (((backTo au (starEach (e::es) X.env)).all (λx=>!x.1)&&(backToKw au (keywordEach [] X.env)).all (λx=>x.1.isSome)&&decide ((e::es).length+([]:List Keyword).length+(if([]:List Keyword).isEmpty then 0 else 1)<30))=true) aP1)(eW:autoParam ((apos.endLine==au.line)=true) aP1)(hs:autoParam (starEach (e::es) X.env=(false,eval e X.env)::starEach es X.env) aP1)(fO:autoParam ((backTo au (starEach es X.env)).any (·.1)=false) aP1):
  PE X (.Call (.Attribute o name apos) (e::es) [] au) (KR X.K T r to t):=by
 intro pins s U H Q I h;refine wpAny_Call_method_late cV oQ eW rfl (ai (ho pins s U H _ I h) λv s1 zQ=>?_);obtain⟨x,H1,I1,r1,ty,q1⟩:=zQ;obtain⟨h1,h2⟩:=KQ I1 r1 ty;refine⟨T,id,pa,slot,tq,h1,h2,?_⟩;have hA:=ha au pins s1 U H1 _ I1 q1;rw[hs]at hA⊢;refine Calls.callWith_builtin (by show(false||(backTo au (starEach es X.env)).any (·.1))=false;rw[fO]<;>rfl) (Calls.evalArgs_plain ?_);exact ai hA λus s2 ⟨vs,H2,I2,r2,q2⟩=>hm pins s2 U H2 x vs v us Q I2 r1 r2 q2
end
noncomputable def C5 (X:Cx)(id:String)(r:V->List V->Hp->VK->Prop):Prop:=∀(pins:List (Addr×Obj))(s:Shared)(U:St)(H:Hp)(x:V)(xs:List V)(v:Value)(us:List Value)(Q:VK),Inv X pins U H s->RelV x v->Vals xs us->r x xs H Q->wpAny (model X.prog X.w) X.A (call (.builtin id) (v::us)) (EP X pins U Q) X.xe s
theorem Vals.one:∀{x:V}{us:List Value},Vals [x] us->∃u,us=[u]/\RelV x u:=λ{x us} p=>by
 cases p with
 |cons r t=>cases t;exact⟨_,rfl,r⟩
theorem Vals.eraseIdx:∀{xs:List V}{us:List Value}(i:Nat),Vals xs us->Vals (xs.eraseIdx i) (us.eraseIdx i)
 |_,_,_,.nil=>.nil
 |_,_,0,.cons _ t=>t
 |_,_,i+1,.cons r t=>.cons r (Vals.eraseIdx i t)
theorem Vals.rep {xs:List V}{us:List Value}(h:Vals xs us):∀k:Nat,Vals (List.replicate k xs).flatten (List.replicate k us).flatten
 |0=>.nil
 |k+1=>by rw[replicate_succ,replicate_succ,flatten_cons,flatten_cons];exact Vals.append h (Vals.rep h k)
theorem KS {α:Type}:∀(l:List α)(i:Nat),(l.eraseIdx i).length<=l.length
 |[],_=>le_refl _
 |_::_,0=>le_succ _
 |_::r,i+1=>Nat.succ_le_succ (KS r i)
theorem foldl_rep (its:List Value):∀(k:Nat)(acc:List Value),List.foldl (λx1 x2=>x1++x2) acc.toArray (List.replicate k its.toArray)=(acc++(List.replicate k its).flatten).toArray
 |0,acc=>by simp
 |k+1,acc=>by
  have e:acc.toArray++its.toArray=(acc++its).toArray:=by simp
  have e2:(acc++its)++(List.replicate k its).flatten=acc++(List.replicate (k+1) its).flatten:=by rw[replicate_succ,flatten_cons,append_assoc]
  rw[<-e2,<-foldl_rep its k (acc++its),<-e,replicate_succ,foldl_cons]
section
variable {X:Cx}{pins:List (Addr×Obj)}{U:St}{H:Hp}{s:Shared}{l b:Addr}{xs ys zs:List V}
theorem Inv.C6 {its its':List Value}{n:Nat}{f:Array Value->Array Value}{t':Nat}(I:Inv X pins U H s)(hH:H l=some (.lst xs))(e:s.heap.get? l=some {cls:=.type "list",data:=.seq its.toArray n})(hf:f its.toArray=its'.toArray)(hv:Vals ys its')(hz:ys.length<=sizeLine):
  Inv X pins U (upd H l (.lst ys)) {s with heap:=s.heap.update l (Obj.mapSeq f),toks:=t'}:=by
 have q:=PySem.IsL.update e f;rw[hf]at q;refine I.write (x:=l) (e:=l) (by rw[hH];exact trivial) (.inl rfl) (λb' u hb hu=>(Heap.get?_update_other s.heap (Obj.mapSeq f) (Ne.symm hb)).trans hu) ⟨_,q⟩ ?_;exact⟨hz,its',_,hv,q⟩
theorem Inv.KU {its:List Value}{t':Nat}(I:Inv X pins U H s)(hv:Vals ys its)(hz:ys.length<=sizeLine):Inv X pins U (upd H s.heap.objs.size (.lst ys)) {s with heap:=s.heap.push {cls:=.type "list",data:=.seq its.toArray},toks:=t'}:=
 I.laid (λ_ _ q=>Heap.get?_push_of_some _ q) (le_refl _) ⟨hz,its,0,hv,Heap.get?_push_size _ rfl⟩
theorem Inv.fresh (I:Inv X pins U H s):H s.heap.objs.size=none:=I.ag.fresh (le_refl _)
theorem Inv.qU (I:Inv X pins U H s)(hH:H l=some (.lst xs)):xs.length<=sizeLine/\∃(its:List Value)(n:Nat),Vals xs its/\xs.length=its.length/\s.heap.get? l=some {cls:=.type "list",data:=.seq its.toArray n}:=by obtain⟨z,its,n,r,e⟩:=I.ag l _ hH;exact⟨z,its,n,r,r.length,e⟩
theorem SQ {n:Nat}(h:n<=sizeLine):Builtin.List.listTooLong n=false:=by unfold Builtin.List.listTooLong;exact decide_eq_false (by lia)
end
section
variable {X:Cx}
noncomputable def SR:V->List V->Hp->VK->Prop:=λx vs H Q=>∃l xs y,x= .ref l/\vs=[y]/\H l=some (.lst xs)/\xs.length<sizeLine/\Q .aq (upd H l (.lst (xs++[y])))
theorem yg:C5 X "list.append" SR:=by intro pins s U H x vs v us Q I rx rv h;obtain⟨l,xs,y,rfl,rfl,hH,hz,q⟩:=h;cases rx;obtain⟨u,rfl,ru⟩:=rv.one;obtain⟨z,its,n,r,hl,e⟩:=I.qU hH;refine call_meets F.slot_list_append ⟨_,e,rfl⟩ F.entry_list_append (F.args_list_append_2 _ _) (PySem.list_append l its.toArray n u (by rw[size_toArray];lia)) ⟨e,?_⟩;refine⟨.aq,_,I.C6 (its':=its++[u]) hH e (by simp) (r.append (.cons ru .nil)) ?_,rfl,q⟩;rw[length_append,List.length_singleton];lia
noncomputable def SS:V->List V->Hp->VK->Prop:=λx vs H Q=>∃l xs i k y,x= .ref l/\vs=[.int i]/\H l=some (.lst xs)/\-(2^63)<=i/\i<2^63/\seqIndex? i xs.length=some k/\xs[k]?=some y/\Q y (upd H l (.lst (xs.eraseIdx k)))
theorem SU:C5 X "list.pop" SS:=by
 intro pins s U H x vs v us Q I rx rv h;obtain⟨l,xs,i,k,y,rfl,rfl,hH,h1,h2,hk,hy,q⟩:=h;cases rx;obtain⟨u,rfl,ru⟩:=rv.one;obtain⟨t,rfl⟩:=ru;obtain⟨z,its,n,r,hl,e⟩:=I.qU hH;obtain⟨w,hw,cK⟩:=r.get hy;refine call_meets F.slot_list_pop ⟨_,e,rfl⟩ F.entry_list_pop (F.args_list_pop_2 _ _) (MeetsSeq.list_pop_at l its.toArray n i t k w (fitsIndex_both h1 h2) (by rw[size_toArray,<-hl];exact hk) (by rw[<-Array.getElem?_toList];exact hw) (by rw[size_toArray];lia)) ⟨e,?_⟩;refine⟨y,_,I.C6 (its':=its.eraseIdx k) hH e ?_ (r.eraseIdx k) ?_,cK,q⟩
 .show its.toArray.eraseIdxIfInBounds k=(its.eraseIdx k).toArray;rw[List.eraseIdxIfInBounds_toArray]
 .have:=KS xs k;lia
noncomputable def SV:R2:=λx y H Q=>∃l b xs zs,x= .ref l/\y= .ref b/\H l=some (.lst xs)/\H b=some (.lst zs)/\xs.length+zs.length<=sizeLine/\∀p,H p=none->Q (.ref p) (upd H p (.lst (xs++zs)))
theorem C7:bK X (binaryOp .Add) SV:=by
 intro pins s U H x y v u Q I rx ry h;obtain⟨l,b,xs,zs,rfl,rfl,hH,hB,hz,q⟩:=h;cases rx;cases ry;obtain⟨z,its,n,r,hl,e⟩:=I.qU hH;obtain⟨z2,tw,n2,r2,KW,e2⟩:=I.qU hB;refine PySem.P.add_list e e2 ?_ (by rw[size_toArray,size_toArray];lia);have ea:its.toArray++tw.toArray=(its++tw).toArray:=by simp
 rw[ea];exact⟨.ref _,_,I.KU (t':=s.toks) (r.append r2) (by rw[length_append];lia),rfl,q _ I.fresh⟩
noncomputable def SW:R2:=λx y H Q=>∃l k xs,x= .ref l/\y= .int k/\H l=some (.lst xs)/\-(2^63)<=k/\k<2^63/\xs.length*k.toNat<=sizeLine/\∀p,H p=none->Q (.ref p) (upd H p (.lst (List.replicate k.toNat xs).flatten))
theorem len_rep {α:Type}(xs:List α)(k:Nat):(List.replicate k xs).flatten.length=k*xs.length:=by
 induction k with
 |zero=>simp
 |succ k ih=>rw[replicate_succ,flatten_cons,length_append,ih,Nat.succ_mul,Nat.add_comm]
theorem SX:bK X (binaryOp .Mult) SW:=by
 intro pins s U H x y v u Q I rx ry h;obtain⟨l,k,xs,rfl,rfl,hH,h1,h2,hz,q⟩:=h;cases rx;obtain⟨t,rfl⟩:=ry;obtain⟨z,its,n,r,hl,e⟩:=I.qU hH;have hlen:its.toArray.size*k.toNat<=sizeLine:=by rw[size_toArray,<-hl];exact hz
 have C8:¬its.toArray.size*k.toNat>(2^63-1) / 8:=by
  have:(sizeLine:Nat)<=(2^63-1) / 8:=by decide
  lia
 have C9:¬(!Builtin.List.listFitsIndex k)=true:=by rw[fitsIndex_both h1 h2];exact Bool.false_ne_true
 have tD:¬Builtin.List.listTooLong (its.toArray.size*k.toNat)=true:=by rw[SQ hlen];exact Bool.false_ne_true
 have oR:List.foldl (λx1 x2=>x1++x2) #[] (List.replicate (if its.toArray.isEmpty=true then 0 else k.toNat) its.toArray)=(List.replicate k.toNat its).flatten.toArray:=by
  have f0:∀m:Nat,List.foldl (λx1 x2=>x1++x2) #[] (List.replicate m its.toArray)=(List.replicate m its).flatten.toArray:=λm=>by have:=foldl_rep its m [];rw[List.nil_append]at this;exact this
  rw[f0];cases its with
  |nil=>simp
  |cons a r'=>rw[if_neg (by simp)]
 refine wpAny_binaryOp_repeat_ref (T:="list") (U:="int") (by decide) ⟨_,e,rfl⟩ (λs'=>typeIs_int s' k t) noFill_list_mul F.fills_int_mul F.slot_int_rmul repeat_list F.slot_int_index.lookup (call_meets F.slot_int_rmul (typeIs_int s k t) F.entry_int_rmul (F.args_int_rmul_2 _ _) (int___rmul___int_list k t l its.toArray n) ⟨e,rfl,⟨_,e,rfl⟩,call_meets F.slot_list_mul ⟨_,e,rfl⟩ F.entry_list_mul (F.args_list_mul_2 _ _) (AutoListH.list___mul___list_int_3 l its.toArray n k t C9 C8 tD) ⟨e,?_⟩⟩);rw[oR];exact⟨.ref _,_,I.KU (t':=s.toks) (r.rep k.toNat) (by rw[len_rep,Nat.mul_comm];exact hz),rfl,q _ I.fresh⟩
end
end L2
namespace KY
open PySem PySem.W PySem.Calls PyProof.Rows
theorem SY {P:Params}{h:Heap}:∀(ns:List Int)(vs:List Value),WellAll P h vs (ns.map WData.int)->IntsAre vs ns:=by
 intro ns;induction ns with
 |nil=>intro vs w;rw[map_nil]at w;cases w;exact .nil
 |cons n ns ih=>
  intro vs w;rw[map_cons]at w;cases w with
  |cons a b=>cases a;exact .cons _ _ (ih _ b)
theorem Ta {l:OpenLaw}{n:Nat}(hn:l.most=some n){P:Params}{h:Heap}{args:List WData}{vals:List Value}(lS:l.row.toRowW.claim.pre args=true)(Dc:WellAll P h vals args):∃a vs ns,vals=[Value.ref a]/\args=[WData.list (ns.map WData.int)]/\h.get? a=some {cls:=.type "list",data:=.seq vs.toArray}/\IntsAre vs ns/\ns.length<=n:=by
 have Tb:WShape.hasAll [] args [.list .int]=true:=(pre_splitW lS).1;have hc:l.pre.holds [] {args:=args}=true:=(pre_splitW lS).2;obtain⟨d,r,rfl,h1,h2⟩:=hasAllW_cons Tb;obtain rfl:=hasAllW_nil h2;obtain⟨xs,rfl,h3⟩:=hasW_list h1;obtain⟨ns,rfl⟩:=items_int h3;have hlen:ns.length<=n:=by
  unfold OpenLaw.pre at hc;have h4:(WTm.not (.lt (.lit (.int (n:Int))) (.len (.arg 0)))).holds [] {args:=[.list (ns.map .int)]}=true:=by have h4:=(holds_andW hc).1;rw[hn]at h4;exact h4
  have h5:=condW_of h4 (w_not (w_lt w_lit (w_len_list (w_arg rfl))));rw[length_map]at h5;refine Nat.le_of_not_lt λq=>?_;have q':(n:Int)<((ns.length:Nat):Int):=by lia
  first
   |(rw[decide_eq_true q']at h5;exact absurd h5 (by decide))
   |(simp at h5;lia)
 cases Dc with
 |cons w1 w2=>
  cases w2;cases w1 with
  |list ho iW=>exact⟨_,_,ns,rfl,rfl,ho,SY ns _ iW,hlen⟩
theorem Tc (l:OpenLaw)(args:List WData):l.row.toRowW.claim.post args (.bool true) args=true:=postW_of (r:=l.row.toRowW) (X:=(true==true)) (show WShape.has [] (.bool true) .bool=true by first|rfl|decide|simp[WShape.has,WShape.arms,WShape.armsAll]) (show(WTm.eq .res (.lit (.bool true))).value [] {args:=args,res:=some (.bool true),after:=args}=some (.bool (true==true))from w_eq_bool (w_res rfl) w_lit) rfl
theorem Td {l:OpenLaw}{n:Nat}{q:Program}{loose:List Str}{XP:(Str->Option Value)->Heap->Prop}{YP:World->Heap->Prop}{d:DefRec}(hn:l.most=some n)(tE:d.params.defaults=[])(call:∀(w:World)(av aj:Shared)(mg mb:Str->Option Value)(fa:Addr)(o:Obj)(pm cd doc:Value)(a:Addr)(vs:List Value)(ns:List Int),Ground q loose [] XP w av mg mb aj.heap->YP w aj.heap->
   aj.heap.get? fa=some o->o.data= .func (docDef d.name d.params d.body d.scope pm cd doc)->aj.heap.CodeRec cd d.name->mg d.name=some (.ref fa)->
   aj.heap.get? a=some {cls:=.type "list",data:=.seq vs.toArray}->IntsAre vs ns->ns.length<=n->aj.gens=#[]->
   codeAny (model l.prog w) callerA (.call (.ref fa) ⟨[.ref a],[]⟩) (λr s'=>r= .ok (.ret (.bool true))/\OldK aj.heap s'.heap/\s'.os=aj.os/\AllBare s'.gens) aj):
  WalkO q loose XP YP l.row.toRowW d [] (λf vs=>PySem.call f vs):=by
 intro w av aj mg mb G Yq fa o pm cd doc dV kV ho hd eS hD hmg hg args vals as lS tF hrd Dc hlo;obtain rfl:dV= .none:=Dflts.none hD tE;obtain rfl:kV= .none:=Dflts.noKw hD;obtain⟨a,vs,ns,rfl,rfl,oS,hints,hlen⟩:=Ta hn lS Dc;refine enter_call (codeAny_mono (call w av aj mg mb fa o pm cd doc a vs ns G Yq ho (fd_plain hd) eS hmg oS hints hlen hg) λr s' hq=>?_);obtain⟨rfl,h2,h3,h4⟩:=hq;exact⟨.inl ⟨.bool true,.bool true,[],rfl,λ_=>rfl,.bool true,Tc l _,λ_=>⟨List.Pairwise.nil,λ_ hm=>(nomatch hm)⟩⟩,h2,h3,h4⟩
end KY
namespace L2
open PySem PySem.Spec PyProof.Rows
theorem KZ:∀{vs:List Value}{ns:List Int},IntsAre vs ns->Vals (ns.map V.int) vs
 |_,_,.nil=>.nil
 |_,_,.cons n t h=>.cons ⟨t,rfl⟩ (KZ h)
def zA (H:Hp):Prop:=∀b,H b=none\/∃o xs,H b=some (.az o (.lst xs))
theorem Te {P:Program}{w:World}{K:PySem.W.Frag}{mg mb:Str->Option Value}{CX:fw}{k:Nat}{fa a:Addr}{fd:FuncData}{x:Str}{sp:Sp}{aj:Shared}{vs:List Value}{ns:List Int}(KX:K.In aj.heap)(qV:aj.heap.Ns mainGlobals mg)(hb:aj.heap.Ns builtinsNs mb)(Tf:∀x:Str,x≠"__name__"->mb x=bootBuiltins x)(Dd:aj.heap.NoLimit)(hg:aj.gens=#[])(ha:aj.heap.get? a=some {cls:=.type "list",data:=.seq vs.toArray})(hi:IntsAre vs ns)(hl:ns.length<=sizeLine)(hr:aY k callerA)(F:∀base:Heap,K.In base->base.Ns mainGlobals mg->xl P w K mg base CX k fa fd [x] sp)(tG:∀(s:Shared)(u:Value),BindsTo s fd ⟨[u],[]⟩ [(x,u)])(il:∀H:Hp,zA H->ah K H a (ns.map V.int)->sp [.ref a] H (λv _=>v= .bl true) λ_ _ _=>False)(tH:∀H e s',CX [] H aj (λ_ _ _=>False) e s'->False):
  codeAny (model P w) callerA (.call (.ref fa) ⟨[.ref a],[]⟩) (λr s'=>r= .ok (.ret (.bool true))/\OldK aj.heap s'.heap/\s'.os=aj.os/\AllBare s'.gens) aj:=by
 have rv:=KZ hi;have De:=hi.length;have core:∀H:Hp,zA H->ah K H a (ns.map V.int)->bJ P w H aj.heap->(∀b,H b≠none->b=a)->(H a≠none->K.lookup a=none)->codeAny (model P w) callerA (.call (.ref fa) ⟨[.ref a],[]⟩) (λr s'=>r= .ok (.ret (.bool true))/\OldK aj.heap s'.heap/\s'.os=aj.os/\AllBare s'.gens) aj:=by
  intro H hO hS ag hA hK;have gF:∀{b:Addr}{o:Obj},aj.heap.get? b=some o->H b=none->(lC aj.heap H).get? b=some o:=λe n=>Q0 e n;have sW:∀{b:Addr}{o:Obj}{es:Array DictEntry}{ep:Nat},aj.heap.get? b=some o->o.data= .dict es ep->H b=none:=λ{b o es ep} e d=>by
   cases q:H b with
   |none=>rfl
   |some u=>have e':b=a:=hA b (by rw[q];simp);subst e';rw[ha]at e;cases e;have d':Data.seq vs.toArray _=Data.dict es ep:=d;cases d'
  have zB:∀{b:Addr}{m:Str->Option Value},aj.heap.Ns b m->(lC aj.heap H).Ns b m:=λ{b m} ⟨o,es,ep,e,d,r⟩=>⟨o,es,ep,gF e (sW e d),d,r⟩;have K0:K.In (lC aj.heap H):=λb o e=>gF (KX b o e) (by
   cases q:H b with
   |none=>rfl
   |some u=>have e':b=a:=hA b (by rw[q];simp);subst e';rw[hK (by rw[q];simp)]at e;cases e)
  have hM:Mod K mg (lC aj.heap H):=⟨K0,zB qV,⟨mb,zB hb,Tf⟩,let⟨mc,h1,h2⟩:=Dd;⟨mc,zB h1,h2⟩⟩;have e0:oO P w K mg (lC aj.heap H) callerA [] aj H:=⟨rfl,hM,λb o e=>Q1 e,Nat.le_of_eq (QZ _ _),trivial,λb hb=>absurd (show b∈([]:List Addr)from hb) (by simp),ag,.of_eq hg⟩;refine codeAny_mono ((F _ K0 (zB qV)).run callerA [] aj H ⟨[.ref a],[]⟩ [.ref a] [.ref a] _ _ hr e0 (tG aj (.ref a)) (.cons rfl .nil) (il H hO hS)) λr s' h=>?_;cases r with
  |error e=>exact(tH H e s' h).elim
  | ok fl=>
   cases fl with
   |next=>exact False.elim h
   |brk=>exact False.elim h
   |cont=>exact False.elim h
   | ret u=>
    obtain⟨v,H',os,bare,un,Df,r',q⟩:=h;have q':v= .bl true:=q;subst q';obtain rfl:u=Value.bool true:=r';refine⟨rfl,OldK.of_keep λb o e=>?_,os,bare⟩;cases q:H b with
    |none=>exact un.keep b o e q (by intro z;exact absurd (show b∈([]:List Addr)from z) (by simp)) (by simp)
    |some u=>
     rcases hO b with z|⟨ob,xs,z⟩
     .rw[q]at z;cases z
     .have z2:=un.dU b ob _ z;obtain⟨e1,_⟩:=ag b _ z;obtain⟨e2,_⟩:=Df b _ z2;rw[e]at e1;cases e1;exact e2
 cases hk:K.lookup a with
 |some o=>have e:=KX a o hk;rw[ha]at e;cases e;refine core (λ_=>none) (λ_=>.inl rfl) (.inr ⟨_,vs.toArray,_,hk,rfl,rfl,rfl,by rw[size_toArray,De];exact hl,by simpa using rv⟩) (λb u z=>by have z':(none:Option HO)=some u:=z;cases z') (λb z=>absurd rfl z) λz=>absurd rfl z
 | none=>
  refine core (λb=>if b=a then some (.az {cls:=.type "list",data:=.seq vs.toArray} (.lst (ns.map V.int)))else none) (λb=>?_) (.inl (.inr ⟨{cls:=.type "list",data:=.seq vs.toArray},if_pos rfl⟩)) (λb u z=>?_) (λb z=>?_) λ_=>hk
  .by_cases hb:b=a
   .exact .inr ⟨_,_,if_pos hb⟩
   .exact .inl (if_neg hb)
  .by_cases hb:b=a
   .have z':=(if_pos hb).symm.trans z;cases z';subst hb;exact⟨ha,by rw[length_map];exact hl,vs,_,rv,ha⟩
   .have z':=(if_neg hb).symm.trans z;cases z'
  .by_cases hb:b=a
   .exact hb
   .exact absurd (if_neg hb) z
theorem Tg {l:PySem.W.OpenLaw}{n k:Nat}{q:Program}{loose:List Str}{XP:(Str->Option Value)->Heap->Prop}{YP:World->Heap->Prop}{d:DefRec}{K:Params->PySem.W.Frag}{CX:World->fw}{sp:World->Sp}{x:Str}(hn:l.most=some n)(lN:n<=sizeLine)(tE:d.params.defaults=[])(hr:aY k callerA)(hY:∀(w:World)(h:Heap),YP w h->(K w.params).In h)(F:∀(w:World)(mg:Str->Option Value)(fa:Addr)(h:Heap),(K w.params).In h->h.Ns mainGlobals mg->mg d.name=some (.ref fa)->∃fd:FuncData,(∀(s:Shared)(u:Value),BindsTo s fd ⟨[u],[]⟩ [(x,u)])/\∀base:Heap,(K w.params).In base->base.Ns mainGlobals mg->xl l.prog w (K w.params) mg base (CX w) k fa fd [x] (sp w))(il:∀(w:World)(H:Hp)(a:Addr)(ns:List Int),ns.length<=n->zA H->ah (K w.params) H a (ns.map V.int)->sp w [.ref a] H (λv _=>v= .bl true) λ_ _ _=>False)(tH:∀(w:World)(H:Hp)(s:Shared)(e:Value)(s':Shared),CX w [] H s (λ_ _ _=>False) e s'->False):
  PySem.W.WalkO q loose XP YP l.row.toRowW d [] (λf vs=>PySem.call f vs):=by
 refine KY.Td hn tE λw av aj mg mb fa o pm cd doc a vs ns G Yq ho hd eS hmg oS hints hlen hg=>?_;have KX:=hY w _ Yq;obtain⟨fd,hb,hF⟩:=F w mg fa _ KX G.T.g hmg;exact Te KX G.T.g G.T.b G.T.builtins G.T.nolimit hg oS hints (le_trans hlen lN) hr hF hb (λH hO hS=>il w H a ns hlen hO hS) λH e s'=>tH w H aj e s'
theorem j1o {l:PySem.W.OpenLaw}{n k:Nat}{q:Program}{loose:List Str}{XP:(Str->Option Value)->Heap->Prop}{YP:World->Heap->Prop}{d:DefRec}{K:Params->PySem.W.Frag}{CX:fw}{sp:PySem.W.Frag->Sp}{x:Str}(hn:l.most=some n)(lN:n<=sizeLine)(tE:d.params.defaults=[])(hr:aY k callerA)(hY:∀(w:World)(h:Heap),YP w h->(K w.params).In h)(F:∀(w:World)(mg:Str->Option Value)(fa:Addr)(h:Heap),(K w.params).In h->h.Ns mainGlobals mg->mg d.name=some (.ref fa)->∃fd:FuncData,(∀(s:Shared)(u:Value),BindsTo s fd ⟨[u],[]⟩ [(x,u)])/\∀base:Heap,(K w.params).In base->base.Ns mainGlobals mg->xl l.prog w (K w.params) mg base CX k fa fd [x] (sp (K w.params)))(il:∀(K:PySem.W.Frag)(H:Hp)(a:Addr)(ns:List Int),ns.length<=n->zA H->ah K H a (ns.map V.int)->sp K [.ref a] H (λv _=>v= .bl true) λ_ _ _=>False)(tH:∀(H:Hp)(s:Shared)(e:Value)(s':Shared),CX [] H s (λ_ _ _=>False) e s'->False):
  PySem.W.WalkO q loose XP YP l.row.toRowW d [] (λf vs=>PySem.call f vs):=
 Tg (K:=K) (CX:=λ_=>CX) (sp:=λw=>sp (K w.params)) hn lN tE hr hY F (λw H a ns h1 h2 h3=>il (K w.params) H a ns h1 h2 h3) λ_ H s e s'=>tH H s e s'
noncomputable def inClass (s:Stmt)(j:Nat):Stmt:=match s with
 | .ClassDef _ _ _ body _ _ _ _ _ _ _=>body.getD j (.Pass ⟨0,0,0,0⟩)
 |_=>.Pass ⟨0,0,0,0⟩
noncomputable def qW (s:Stmt):Arguments:=match s with
 | .FunctionDef _ a _ _ _ _ _ _ _ _=>a
 |_=>{posonlyargs:=[],args:=[],vararg:=none,kwonlyargs:=[],kw_defaults:=[],kwarg:=none,defaults:=[]}
def ip (s:Stmt):List Stmt:=match s with
 | .FunctionDef _ _ b _ _ _ _ _ _ _=>b
 |_=>[]
noncomputable def jv (s:Stmt):Scope:=match s with
 | .FunctionDef _ _ _ _ _ _ sc _ _ _=>sc
 |_=>{kind:=.function,names:=[],isGenerator:=false,isCoroutine:=false}
abbrev CX0:fw:=λ_ _ _ _ _ _=>False
abbrev E0:XK:=λ_ _ _=>False
theorem ju {X:Cx}:Passes CX0 X E0:=λ_ _ _ _ _ _ _ h=>h.elim
structure aw (K:PySem.W.Frag)(x qual:Str)(st:Stmt)(f:Addr)(fd:FuncData):Prop where
 ex:∃(oc:Value)(od:Option Addr)(kV doc pm:Value)(an:Option Addr)(aJ ct:Value)(kI:Array (Option Value)),fd=PySem.W.fnOf x qual (qW st) (ip st) (jv st) .none kV doc pm an aJ ct/\K.lookup f=some ⟨oc,od,.func fd,kI⟩/\PySem.W.codeIn K aJ qual=true
 kp:PySem.W.keepIn K (.ref f)=true
section
variable {P:Program}{w:World}{K:PySem.W.Frag}{mg:Str->Option Value}{base:Heap}
theorem aw.ok {x qual:Str}{st:Stmt}{f:Addr}{fd:FuncData}{N ps:List Str}{k:Nat}{sp:Sp}(F:aw K x qual st f fd)(S:ql N ps (jv st))(len:∀vs H Q E,sp vs H Q E->vs.length=ps.length)(bc:∀(aJ:Value)(A:Around)(outer:List Env)(s:Shared)(H:Hp)(vs:List V)(Q:VK)(E:XK),aY k (A.deeper (envOfC qual (jv st) s.heap.objs.size f aJ))->sp vs H Q E->∃t,dg (dh CX0 P w K mg base N qual (jv st) f aJ A outer s H E).oE (ip st) t/\t {nx:=λ_ H'=>Q .aq H',rt:=Q} (start N vs) H):xl P w K mg base CX0 (k+1) f fd ps sp:=by
 obtain⟨oc,od,kV,doc,pm,an,aJ,ct,kI,rfl,lk,eS⟩:=F.ex;refine Kz lk eS S len λA outer s H vs Q E hr il=>?_;obtain⟨t,h,q⟩:=bc aJ A outer s H vs Q E hr il;exact⟨t,h.oE,q⟩
theorem aw.cL {x qual:Str}{st:Stmt}{f:Addr}{fd:FuncData}{N ps:List Str}{k:Nat}{sp:Sp}(F:aw K x qual st f fd)(S:ql N ps (jv st))(bc:∀(aJ:Value)(A:Around)(outer:List Env)(s:Shared)(H:Hp)(vs:List V)(Q:VK)(E:XK),aY k (A.deeper (envOfC qual (jv st) s.heap.objs.size f aJ))->sp vs H Q E->∃t,dg (dh CX0 P w K mg base N qual (jv st) f aJ A outer s H E).oE (ip st) t/\t {nx:=λ_ H'=>Q .aq H',rt:=Q} (start N vs) H)(len:autoParam (∀vs H Q E,sp vs H Q E->vs.length=ps.length) aP6):xl P w K mg base CX0 (k+1) f fd ps sp:=F.ok S len bc
theorem aw.bj {x qual:Str}{st:Stmt}{f:Addr}{fd:FuncData}{N ps:List Str}{k:Nat}{sp:Sp}(F:aw K x qual st f fd)(bc:∀(aJ:Value)(A:Around)(outer:List Env)(s:Shared)(H:Hp)(vs:List V)(Q:VK)(E:XK),aY k (A.deeper (envOfC qual (jv st) s.heap.objs.size f aJ))->sp vs H Q E->∃t,dg (dh CX0 P w K mg base N qual (jv st) f aJ A outer s H E).oE (ip st) t/\t {nx:=λ_ H'=>Q .aq H',rt:=Q} (start N vs) H)(S:autoParam (ql N ps (jv st)) aP8)(len:autoParam (∀vs H Q E,sp vs H Q E->vs.length=ps.length) aP6):xl P w K mg base CX0 (k+1) f fd ps sp:=F.ok S len bc
theorem aw.binds {x qual:Str}{st:Stmt}{f:Addr}{fd:FuncData}{ps:List Str}(F:aw K x qual st f fd)(h:∀(kV doc pm:Value)(an:Option Addr)(aJ ct:Value)(us:List Value),us.length=ps.length->bindArgs (PySem.W.fnOf x qual (qW st) (ip st) (jv st) .none kV doc pm an aJ ct) ⟨us,[]⟩=pure (ps.zip us)):Binds K fd ps []:=by
 obtain⟨oc,od,kV,doc,pm,an,aJ,ct,kI,rfl,lk,eS⟩:=F.ex;exact .all (h kV doc pm an aJ ct)
theorem jk {x qual:Str}{st:Stmt}{f:Addr}{oc:Value}{od an:Option Addr}{kI:Array (Option Value)}{kV doc pm aJ ct:Value}(l:K.lookup f=some ⟨oc,od,.func (PySem.W.fnOf x qual (qW st) (ip st) (jv st) .none kV doc pm an aJ ct),kI⟩)(c:PySem.W.codeIn K aJ qual=true)(k:PySem.W.keepIn K (.ref f)=true):aw K x qual st f (PySem.W.fnOf x qual (qW st) (ip st) (jv st) .none kV doc pm an aJ ct):=⟨⟨oc,od,kV,doc,pm,an,aJ,ct,kI,rfl,l,c⟩,k⟩
end
theorem gU {A:Around}{k:Nat}(hr:aY k A):A.units+1<cLine:=lt_of_le_of_lt (Nat.add_le_add_left (by decide:1<=64) _) hr.units
theorem ze {n:Nat}(h:n<=1000):n<sizeLine:=lt_of_le_of_lt h (by decide)
section
variable {X:Cx}
theorem pv (i:Nat){x:Str}{pos:Pos}(hN:autoParam (X.N[i]?=some x) aP1)(hv:sL X.env.scope x:=by first|exact Or.inl rfl|exact Or.inr (Or.inl rfl)|exact Or.inr (Or.inr rfl))(hd:autoParam ((x==("__debug__":Str))=false) aP2)(eS:autoParam ((x==("__classdict__":Str))=false) aP2):PE X (.Name x pos) (JS i):=Q3 hN hv hd eS
end
theorem ka {A Bq:Prop}(h:Bq):if false=true then A else Bq:=by rw[if_neg Bool.false_ne_true];exact h
theorem bT {A Bq:Prop}(h:A):if true=true then A else Bq:=by rw[if_pos rfl];exact h
theorem bp {c A Bq:Prop}[Decidable c](h1:c->A)(h2:¬c->Bq):if c then A else Bq:=by
 by_cases h:c
 .rw[if_pos h];exact h1 h
 .rw[if_neg h];exact h2 h
def yi (H H':Hp):Prop:=∀b o,H b=some o->H' b=some o
theorem yi.refl (H:Hp):yi H H:=λ_ _ h=>h
theorem yi.trans {H H1 H2:Hp}(a:yi H H1)(b:yi H1 H2):yi H H2:=λc o h=>b c o (a c o h)
theorem yi.free {H H':Hp}(e:yi H H'){l:Addr}(h:H' l=Option.none):H l=Option.none:=by
 cases q:H l with
 |none=>rfl
 |some o=>rw[e l o q]at h;cases h
theorem yi.seq {K:PySem.W.Frag}{H H':Hp}{a:Addr}{xs:List V}(e:yi H H')(h:ah K H a xs):ah K H' a xs:=by
 rcases h with(h|⟨o,h⟩)|h
 .exact .inl (.inl (e _ _ h))
 .exact .inl (.inr ⟨o,e _ _ h⟩)
 .exact .inr h
section
variable {B:Type}[DecidableEq B]
def aX (aa:List (B×V))(k:B):Option V:=(aa.find? λkv=>decide (kv.1=k)).map (·.2)
noncomputable def putK (aa:List (B×V))(k:B)(v:V):List (B×V):=if(aa.any λkv=>decide (kv.1=k))=true then aa.map (λkv=>if kv.1=k then(kv.1,v)else kv)else aa++[(k,v)]
theorem w6 {p:B×V}{r:List (B×V)}{k:B}(e:p.1=k):aX (p::r) k=some p.2:=by simp[aX,find?_cons,e]
theorem wg {p:B×V}{r:List (B×V)}{k:B}(e:¬p.1=k):aX (p::r) k=aX r k:=by simp[aX,find?_cons,e]
theorem zC (k:B):∀aa:List (B×V),(aa.any λkv=>decide (kv.1=k))=(aX aa k).isSome
 |[]=>rfl
 |p::r=>by
  rw[any_cons];by_cases e:p.1=k
  .simp only[w6 e,decide_eq_true e,Bool.true_or,Option.isSome_some]
  .rw[wg e,decide_eq_false e,Bool.false_or];exact zC k r
theorem tI (aa:List (B×V))(k:B)(v:V):(putK aa k v).length<=aa.length+1:=by
 unfold putK;split
 .rw[length_map];lia
 .rw[length_append,length_cons,List.length_nil];lia
theorem tJ {aa:List (B×V)}{k:B}(v:V)(h:aX aa k=none):putK aa k v=aa++[(k,v)]:=by unfold putK;rw[zC,h];exact if_neg (by decide)
theorem eF.tK {o:Option V}{u:Option Value}(r:eF o u):o.isSome=u.isSome:=by
 cases o with
 |none=>cases u with
  |none=>rfl
  |some _=>exact(show False from r).elim
 |some _=>cases u with
  |none=>exact(show False from r).elim
  |some _=>rfl
theorem eF.getD {o:Option V}{u:Option Value}{d:V}{d':Value}(r:eF o u)(rd:RelV d d'):RelV (o.getD d) (u.getD d'):=by
 cases o with
 |none=>cases u with
  |none=>exact rd
  |some _=>exact(show False from r).elim
 |some _=>cases u with
  |none=>exact(show False from r).elim
  |some _=>exact r
theorem KV.val {aa:List (B×V)}{vs:List (B×Value)}(r:KV aa vs)(k:B):eF (aX aa k) (valueAt vs k):=by
 unfold KV at r;induction r with
 |nil=>exact True.intro
 | @cons p q ps qs h t ih=>
  obtain⟨h1,h2⟩:=h;by_cases e:p.1=k
  .have e':q.1=k:=h1.symm.trans e;have b:valueAt (q::qs) k=some q.2:=by simp[valueAt,find?_cons,e']
   rw[w6 e,b];exact h2
  .have e':¬q.1=k:=λz=>e (h1.trans z);have b:valueAt (q::qs) k=valueAt qs k:=by simp[valueAt,find?_cons,e']
   rw[wg e,b];exact ih
theorem KV.any {aa:List (B×V)}{vs:List (B×Value)}(r:KV aa vs)(k:B):(aa.any λkv=>decide (kv.1=k))=vs.any λkv=>decide (kv.1=k):=by
 unfold KV at r;induction r with
 |nil=>rfl
 |cons h t ih=>rw[any_cons,any_cons,ih,h.1]
theorem KV.Dg {aa:List (B×V)}{vs:List (B×Value)}(r:KV aa vs)(k:B){y:V}{u:Value}(ry:RelV y u):KV (aa.map λkv=>if kv.1=k then(kv.1,y)else kv) (vs.map λkv=>if kv.1=k then(kv.1,u)else kv):=by
 unfold KV at r⊢;induction r with
 |nil=>exact .nil
 |@cons p q ps qs h t ih=>
  rw[map_cons,map_cons];refine .cons ?_ ih;obtain⟨h1,h2⟩:=h;by_cases e:p.1=k
  .rw[if_pos e,if_pos (h1.symm.trans e)];exact⟨h1,ry⟩
  .rw[if_neg e,if_neg (λz=>e (h1.trans z))];exact⟨h1,h2⟩
theorem KV.put {aa:List (B×V)}{vs:List (B×Value)}(r:KV aa vs)(k:B){y:V}{u:Value}(ry:RelV y u):KV (putK aa k y) (stored vs k u):=by
 unfold putK stored;rw[r.any k];by_cases e:(vs.any λkv=>decide (kv.1=k))=true
 .rw[if_pos e,if_pos e];exact r.Dg k ry
 .rw[if_neg e,if_neg e];exact Paired.snoc r ⟨rfl,ry⟩
theorem KV.length {aa:List (B×V)}{vs:List (B×Value)}(r:KV aa vs):aa.length=vs.length:=Paired.length r
end
theorem ny {P:Program}{w:World}{k:Key}{u:Value}(r:RelV (kV k) u):(za P w).is k u=true:=by
 cases k with
 |inl i=>obtain⟨t,e⟩:=(show ∃t,u=Value.int i t from r);subst e;exact QX P w i t
 |inr x=>obtain⟨t,e⟩:=(show ∃t,u=Value.str x t from r);subst e;exact QY P w x t
theorem K1 {P:Program}{w:World}:∀{ks:List Key}{us:List Value},Vals (ks.map kV) us->ItemsAre (za P w) ks us
 |[],_,r=>by rw[map_nil]at r;cases r;exact .nil
 |k::ks,_,r=>by
  rw[map_cons]at r;cases r with
  |cons h t=>exact .cons (ny h) (K1 t)
noncomputable abbrev KT (H:Hp):List (List Key×V)->List (List Key×Addr×Value)->Prop:=Paired λp q=>p.1=q.1/\H q.2.1=some (.tup (p.1.map kV))/\RelV p.2 q.2.2
theorem KT.val {H:Hp}{aa:List (List Key×V)}{xs:List (List Key×Addr×Value)}(r:KT H aa xs)(k:List Key):eF (aX aa k) ((atKey xs k).map (·.2)):=by
 induction r with
 |nil=>exact True.intro
 | @cons p q ps qs h t ih=>
  obtain⟨h1,_,h2⟩:=h;by_cases e:p.1=k
  .have e':q.1=k:=h1.symm.trans e;have b:atKey (q::qs) k=some q.2:=by simp[atKey,find?_cons,e']
   rw[w6 e,b];exact h2
  .have e':¬q.1=k:=λz=>e (h1.trans z);have b:atKey (q::qs) k=atKey qs k:=by simp[atKey,find?_cons,e']
   rw[wg e,b];exact ih
theorem KT.Dg {H:Hp}{aa:List (List Key×V)}{xs:List (List Key×Addr×Value)}(r:KT H aa xs)(k:List Key){y:V}{u:Value}(ry:RelV y u):KT H (aa.map λkv=>if kv.1=k then(kv.1,y)else kv) (xs.map (putAt k u)):=by
 induction r with
 |nil=>exact .nil
 |@cons p q ps qs h t ih=>
  rw[map_cons,map_cons];refine .cons ?_ ih;obtain⟨h1,h2,h3⟩:=h;unfold putAt;by_cases e:p.1=k
  .rw[if_pos e,if_pos (h1.symm.trans e)];exact⟨h1,h2,ry⟩
  .rw[if_neg e,if_neg (λz=>e (h1.trans z))];exact⟨h1,h2,h3⟩
theorem KT.put {H:Hp}{aa:List (List Key×V)}{xs:List (List Key×Addr×Value)}(r:KT H aa xs)(k:List Key){b:Addr}{y:V}{u:Value}(hb:H b=some (.tup (k.map kV)))(ry:RelV y u):KT H (putK aa k y) (storedH xs k b u):=by
 have e:(aa.any λkv=>decide (kv.1=k))=(atKey xs k).isSome:=by rw[zC,(r.val k).tK,Option.isSome_map]
 unfold putK storedH;rw[e];by_cases q:(atKey xs k).isSome=true
 .rw[if_pos q,if_pos q];exact r.Dg k ry
 .rw[if_neg q,if_neg q];exact Paired.snoc r ⟨rfl,hb,ry⟩
theorem KT.keeps {H H':Hp}{aa:List (List Key×V)}{xs:List (List Key×Addr×Value)}(r:KT H aa xs)(ht:∀b ys,H b=some (.tup ys)->H' b=some (.tup ys)):KT H' aa xs:=Paired.xt r λ_ _ z=>⟨z.1,ht _ _ z.2.1,z.2.2⟩
section
variable {P:Program}{w:World}{H:Hp}{h:Heap}{a:Addr}
theorem K2 {u:HO}(ok:bJ P w H h)(e:Rd H a u):vc P w H h a u:=e.ok ok
theorem lT {aa:List (Key×V)}(ok:bJ P w H h)(e:Rd H a (.dK aa)):aa.length<=sizeLine/\(a==sysModules)=false/\∃vs,KV aa vs/\h.DictOf (za P w) a vs:=show vc P w H h a (.dK aa)from K2 ok e
theorem K3 {aa:List (Key×V)}(ok:bJ P w H h)(e:H a=some (.dK aa)):aa.length<=sizeLine/\(a==sysModules)=false/\∃vs,KV aa vs/\h.DictOf (za P w) a vs:=lT ok (.inl e)
theorem lU {ks:List Key}(ok:bJ P w H h)(e:H a=some (.tup (ks.map kV))):(tupleKind (za P w)).is h ks a:=by obtain⟨_,its,r,o,h1,h2,n,h3⟩:=(show vc P w H h a (.tup (ks.map kV))from ok a _ e);exact⟨o,its.toArray,n,h1,h2,h3,by simpa using K1 r⟩
theorem nA {aa:List (List Key×V)}(ok:bJ P w H h)(e:Rd H a (.dT aa)):aa.length<=sizeLine/\(a==sysModules)=false/\∃xs,KT H aa xs/\h.DictOfH (tupleKind (za P w)) a xs:=by
 obtain⟨z,y,xs,r,o,es,ep,h1,h2,h3,h4,h5⟩:=(show vc P w H h a (.dT aa)from K2 ok e);refine⟨z,y,xs,r,o,es,ep,h1,h2,h3,h4,λx hx=>?_,h5⟩;have all:∀{l:List (List Key×V)}{m:List (List Key×Addr×Value)},KT H l m->∀x∈m,(tupleKind (za P w)).is h x.1 x.2.1:=by
  intro l m q;induction q with
  |nil=>intro x hx;exact nomatch hx
  |@cons p q ps qs hq t ih=>
   intro x hx;rcases mem_cons.mp hx with e|hx
   .subst e;exact lU ok (by rw[<-hq.1];exact hq.2.1)
   .exact ih x hx
 exact all r x hx
theorem Dh {aa:List (List Key×V)}(ok:bJ P w H h)(e:H a=some (.dT aa)):aa.length<=sizeLine/\(a==sysModules)=false/\∃xs,KT H aa xs/\h.DictOfH (tupleKind (za P w)) a xs:=nA ok (.inl e)
end
noncomputable def iX (H:Hp)(a:Addr)(y:V)(r:Option V):Prop:=(∃aa k,Rd H a (.dK aa)/\y=kV k/\r=aX aa k)\/∃aa k b,Rd H a (.dT aa)/\y= .ref b/\H b=some (.tup (k.map kV))/\r=aX aa k
noncomputable def iq (H:Hp)(a:Addr)(y v:V)(H':Hp):Prop:=(∃aa k,H a=some (.dK aa)/\y=kV k/\aa.length<sizeLine/\H'=upd H a (.dK (putK aa k v)))\/∃aa k b,H a=some (.dT aa)/\y= .ref b/\H b=some (.tup (k.map kV))/\aa.length<sizeLine/\H'=upd H a (.dT (putK aa k v))
theorem iq.k {H:Hp}{a:Addr}{aa:List (Key×V)}{k:Key}{v:V}(e:H a=some (.dK aa))(hl:aa.length<sizeLine):iq H a (kV k) v (upd H a (.dK (putK aa k v))):=.inl ⟨aa,k,e,rfl,hl,rfl⟩
theorem iq.t {H:Hp}{a b:Addr}{aa:List (List Key×V)}{k:List Key}{v:V}(e:H a=some (.dT aa))(eb:H b=some (.tup (k.map kV)))(hl:aa.length<sizeLine):iq H a (.ref b) v (upd H a (.dT (putK aa k v))):=.inr ⟨aa,k,b,e,rfl,eb,hl,rfl⟩
section
variable {X:Cx}{pins:List (Addr×Obj)}{U:St}{H:Hp}{s:Shared}{a:Addr}{y v:V}{u r:Value}{o:Option V}{A:Around}{E:Value->Shared->Prop}
theorem Inv.big (I:Inv X pins U H s):sysModules<s.heap.objs.size:=by have h:mainGlobals<s.heap.objs.size:=(I.mod.glob.keeps I.bk).lt;exact Nat.lt_trans (by decide) h
theorem Th {Q:Value->Shared->Prop}(hu:A.units+1<cLine)(I:Inv X pins U H s)(g:iX H a y (some v))(ry:RelV y u)(h:∀w' s',Inv X pins U H s'->RelV v w'->Q w' s'):wpAny (model X.prog X.w) A (getItem (.ref a) u) Q E s:=by
 rcases g with⟨aa,k,e,ey,l⟩|⟨aa,k,b,e,ey,eb,l⟩
 .subst ey;obtain⟨z,hd,vs,rel,dd⟩:=lT I.ag e;obtain⟨w',hw,cK⟩:=eF.some_of (v:=v) (o:=valueAt vs k) (by rw[l];exact rel.val k);exact wpAny_getItem_of (ny ry) dd.mapOf hw (h w' _ (I.tok _) cK)
 .subst ey;cases(show u=Value.ref b from ry);obtain⟨z,hd,xs,rel,dd⟩:=nA I.ag e;obtain⟨w',hw,cK⟩:=eF.some_of (v:=v) (o:=(atKey xs k).map (·.2)) (by rw[l];exact rel.val k);obtain⟨p,hp,Ti⟩:=Option.map_eq_some_iff.mp hw;refine wpAny_getItem_heap (tupleKind_room_in1 hu) (lU I.ag eb) dd hp ?_;rw[Ti];exact h w' _ (I.tok _) cK
theorem Tj {Q:Value->Shared->Prop}(hu:A.units+1<cLine)(I:Inv X pins U H s)(g:iX H a y o)(ry:RelV y u)(h:∀s',Inv X pins U H s'->Q (.bool o.isSome) s'):wpAny (model X.prog X.w) A (compareOp .In u (.ref a)) Q E s:=by
 rcases g with⟨aa,k,e,ey,l⟩|⟨aa,k,b,e,ey,eb,l⟩
 .subst ey;obtain⟨z,hd,vs,rel,dd⟩:=lT I.ag e;refine wpAny_in_of (ny ry) hd dd.mapOf ?_;rw[<-(rel.val k).tK,<-l];exact h _ (I.tok _)
 .subst ey;cases(show u=Value.ref b from ry);obtain⟨z,hd,xs,rel,dd⟩:=nA I.ag e;refine wpAny_in_heap (tupleKind_room_in1 hu) (lU I.ag eb) hd dd ?_;have q:=(rel.val k).tK;rw[Option.isSome_map]at q;rw[<-q,<-l];exact h _ (I.tok _)
theorem Tn {Q:Value->Shared->Prop}(hu:A.units+1<cLine)(I:Inv X pins U H s)(g:iX H a y o)(ry:RelV y u)(h:∀s',Inv X pins U H s'->Q (.bool (!o.isSome)) s'):wpAny (model X.prog X.w) A (compareOp .NotIn u (.ref a)) Q E s:=by
 rcases g with⟨aa,k,e,ey,l⟩|⟨aa,k,b,e,ey,eb,l⟩
 .subst ey;obtain⟨z,hd,vs,rel,dd⟩:=lT I.ag e;refine wpAny_notIn_of (ny ry) hd dd.mapOf ?_;rw[<-(rel.val k).tK,<-l];exact h _ (I.tok _)
 .subst ey;cases(show u=Value.ref b from ry);obtain⟨z,hd,xs,rel,dd⟩:=nA I.ag e;refine wpAny_notIn_heap (tupleKind_room_in1 hu) (lU I.ag eb) hd dd ?_;have q:=(rel.val k).tK;rw[Option.isSome_map]at q;rw[<-q,<-l];exact h _ (I.tok _)
theorem qX {h':Heap}{t':Nat}{ob:HO}(I:Inv X pins U H s)(mu:gR (H a))(hs:Heap.SameBut a s.heap h')(he:∃q,h'.get? a=some q)(new:vc X.prog X.w (upd H a ob) h' a ob):Inv X pins U (upd H a ob) {s with heap:=h',toks:=t'}:=
 I.write (x:=a) (e:=a) mu (.inl rfl) (λb q hb z=>(hs.2 b hb).trans z) he new
theorem K4 {P:Program}{w:World}{H':Hp}{h':Heap}{aa:List (Key×V)}{vs:List (Key×Value)}(z:aa.length<=sizeLine)(hd:(a==sysModules)=false)(rel:KV aa vs)(dd:h'.DictOf (za P w) a vs):vc P w H' h' a (.dK aa):=⟨z,hd,vs,rel,dd⟩
theorem Tp {H':Hp}{Q:Unit->Shared->Prop}(hu:A.units+1<cLine)(I:Inv X pins U H s)(g:iq H a y v H')(ry:RelV y u)(rv:RelV v r)(h:∀s',Inv X pins U H' s'->Q () s'):wpAny (model X.prog X.w) A (setItem (.ref a) u r) Q E s:=by
 rcases g with⟨aa,k,e,ey,l,eH⟩|⟨aa,k,b,e,ey,eb,l,eH⟩
 .subst ey eH;obtain⟨z,hd,vs,rel,dd⟩:=K3 I.ag e;have hz:vs.length<=sizeLine:=by rw[<-rel.length];exact z
  have hl:(putK aa k v).length<=sizeLine:=by have:=tI aa k v;lia
  refine wpAny_setItem_pairs (hsz:=hz) (ny ry) dd λh' iY hs=>h _ ?_;have he:∃q,h'.get? a=some q:=let⟨q,_,_,hq,_⟩:=iY;⟨q,hq⟩;exact qX I (by rw[e];exact True.intro) hs he (K4 hl hd (rel.put k rv) iY)
 .subst ey eH;cases(show u=Value.ref b from ry);obtain⟨z,hd,xs,rel,dd⟩:=Dh I.ag e;have hz:xs.length<=sizeLine:=by rw[<-Paired.length rel];exact z
  have hl:(putK aa k v).length<=sizeLine:=by have:=tI aa k v;lia
  refine wpAny_setItem_heap (hsz:=hz) (tupleKind_room_in1 hu) (lU I.ag eb) dd λh' iY hs=>h _ ?_;obtain⟨q,es,ep,hq,h2,h3,h4,_,h5⟩:=iY;refine qX I (by rw[e];exact True.intro) hs ⟨q,hq⟩ ⟨hl,hd,_,(rel.put k eb rv).keeps λc ys ec=>?_,q,es,ep,hq,h2,h3,h4,h5⟩;rw[jf (vq ec e (λz=>nomatch z))];exact ec
end
section
variable {X:Cx}{pins:List (Addr×Obj)}{U:St}{H:Hp}{s:Shared}{a:Addr}{aa:List (Key×V)}{k:Key}{u:Value}{A:Around}{E:Value->Shared->Prop}
theorem Tr {Q:Value->Shared->Prop}(I:Inv X pins U H s)(e:Rd H a (.dK aa))(h:∀t s',Inv X pins U H s'->Q (.int aa.length t) s'):wpAny (model X.prog X.w) A (call (.builtin "len") [.ref a]) Q E s:=by obtain⟨z,hd,vs,rel,dd⟩:=lT I.ag e;refine call_len_dict hd dd (by rw[<-rel.length];rw[sizeLine_eq]at z;lia) ?_;rw[<-rel.length];exact h _ _ (I.tok _)
end
def K5 (i:Expr):Prop:=∀ov iv,subscripted i false ov iv=operate [ov,iv] (getItem ov iv)
theorem Ts {prog:Program}{w:World}{A:Around}{E:Value->Shared->Prop}{s:Shared}{env:Env}{value slice:Expr}{pos:Pos}{T id:String}{Q:Value->Shared->Prop}(hl:typeLookup (.type T) "__getitem__"=pure (some (.builtin id)))(hs:K5 slice)(h:wpAny (model prog w) A (eval value env) (λo aj=>wpAny (model prog w) A (eval slice env) (λi ae=>ae.TypeIs o T/\wpAny (model prog w) A (getItem o i) Q E ae) E aj) E s):
  wpAny (model prog w) A (eval (.Subscript value slice pos) env) Q E s:=by
 refine Subscript_ (wpAny_mono h (λo aj h₁=>wpAny_mono h₁ (λi ae bA=>?_) λ_ _ x=>x) λ_ _ x=>x);obtain⟨hT,bA⟩:=bA;unfold subscriptTail;refine wpAny_bind ?_;rw[getitemInPython_of_ne hT.not_modules];refine wpAny_bind (wpAny_specialOf hT hl ?_);have fin:wpAny (model prog w) A (subscripted slice false o i) (λr aB=>wpAny (model prog w) A (letTemporaryGo value o r >>= λ_=>pure r) Q E aB) E ae:=by rw[hs o i];exact wpAny_operating (wpAny_mono bA (λr aB dz=>wpAny_bind (wpAny_letTemporaryGo (wpAny_pure dz))) λ_ _ x=>x)
 first
  |exact wpAny_pure (wpAny_bind fin)
  |exact wpAny_bind (wpAny_pure (wpAny_bind fin))
  |exact wpAny_bind fin
theorem Tt {X:Cx}{pins:List (Addr×Obj)}{U:St}{H:Hp}{s:Shared}{a:Addr}{y:V}{o:Option V}(I:Inv X pins U H s)(g:iX H a y o):s.TypeIs (.ref a) "dict":=by
 rcases g with⟨aa,k,e,_,_⟩|⟨aa,k,b,e,_,_,_⟩
 .obtain⟨_,_,vs,_,dd⟩:=lT I.ag e;exact dd.typeIs
 .obtain⟨_,_,xs,_,dd⟩:=nA I.ag e;exact dd.typeIs
def Tu (td ty:TE):TE:=λU H Q=>td U H λx H1=>ty U H1 λy H2=>∃a v,x= .ref a/\iX H2 a y (some v)/\Q v H2
def Tv (ty td:TE):TE:=λU H Q=>ty U H λy H1=>td U H1 λx H2=>∃a o,x= .ref a/\iX H2 a y o/\Q (.bl o.isSome) H2
def Tx (ty td:TE):TE:=λU H Q=>ty U H λy H1=>td U H1 λx H2=>∃a o,x= .ref a/\iX H2 a y o/\Q (.bl (!o.isSome)) H2
def Tz (td ty tv:TE):TS:=λD U H=>tv U H λv H1=>td U H1 λx H2=>ty U H2 λy H3=>∃a H4,x= .ref a/\iq H3 a y v H4/\D.nx U H4
section
variable {X:Cx}{o i e value:Expr}{pos pos' fK:Pos}{td ty tv:TE}
theorem K6 (hu:X.A.units+1<cLine)(ho:PE X o td)(hi:PE X i ty)(hs:K5 i):PE X (.Subscript o i pos) (Tu td ty):=by intro pins s U H Q I h;refine Ts PySem.F.slot_dict_getitem.lookup hs (ai (ho pins s U H _ I h) λu s1 ⟨x,H1,I1,rx,q1⟩=>ai (hi pins s1 U H1 _ I1 q1) λiv s2 zQ=>?_);obtain⟨y,H2,I2,ry,a,v,ex,g,q2⟩:=zQ;subst ex;obtain rfl:u=Value.ref a:=rx;exact⟨Tt I2 g,Th hu I2 g ry λw' s3 I3 cK=>⟨v,H2,I3,cK,q2⟩⟩
theorem TB (hu:X.A.units+1<cLine)(hi:PE X i ty)(ho:PE X o td):PC X .In i o (Tv ty td):=by intro pins s U H Q I h;refine ai (hi pins s U H _ I h) λiv s1 ⟨y,H1,I1,ry,q1⟩=>ai (ho pins s1 U H1 _ I1 q1) λu s2 zQ=>?_;obtain⟨x,H2,I2,rx,a,ov,ex,g,q2⟩:=zQ;subst ex;obtain rfl:u=Value.ref a:=rx;exact Tj hu I2 g ry λs3 I3=>⟨.bl ov.isSome,H2,I3,rfl,q2⟩
theorem Di (hu:X.A.units+1<cLine)(hi:PE X i ty)(ho:PE X o td):PC X .NotIn i o (Tx ty td):=by intro pins s U H Q I h;refine ai (hi pins s U H _ I h) λiv s1 ⟨y,H1,I1,ry,q1⟩=>ai (ho pins s1 U H1 _ I1 q1) λu s2 zQ=>?_;obtain⟨x,H2,I2,rx,a,ov,ex,g,q2⟩:=zQ;subst ex;obtain rfl:u=Value.ref a:=rx;exact Tn hu I2 g ry λs3 I3=>⟨.bl (!ov.isSome),H2,I3,rfl,q2⟩
theorem K7 (hu:X.A.units+1<cLine)(ho:PE X o td)(hi:PE X i ty)(hv:PE X value tv)(hs:swapsWith value (some (.Subscript o i pos')) pos.line X.env=pure false):PS X (.Assign [.Subscript o i pos'] value pos) (Tz td ty tv):=by
 intro pins s U H D I h;refine wpAny_Assign_Subscript (ai (hv pins s U H _ I h) λr s1 ⟨v,H1,I1,rv,q1⟩=>ai (ho pins s1 U H1 _ I1 q1) λu s2 ⟨x,H2,I2,rx,q2⟩=>ai (hi pins s2 U H2 _ I2 q2) λiv s3 zQ=>?_) hs;obtain⟨y,H3,I3,ry,a,H4,ex,g,q3⟩:=zQ;subst ex;obtain rfl:u=Value.ref a:=rx;exact Tp hu I3 g ry rv λs4 I4=>⟨U,H4,I4,q3⟩
end
theorem TC {P:Program}{w:World}{H:Hp}(h:Heap)(hb:sysModules<h.objs.size):vc P w H (h.push {cls:=.type "dict",data:=.dict #[]}) h.objs.size (.dK []):=⟨zero_le _,beq_eq_false_iff_ne.mpr (Ne.symm (ne_of_lt hb)),[],.nil,Heap.DictOf.new h⟩
theorem K8 {P:Program}{w:World}{H:Hp}(h:Heap)(hb:sysModules<h.objs.size):vc P w H (h.push {cls:=.type "dict",data:=.dict #[]}) h.objs.size (.dT []):=⟨zero_le _,beq_eq_false_iff_ne.mpr (Ne.symm (ne_of_lt hb)),[],.nil,_,#[],0,Heap.get?_push_size _ rfl,⟨rfl,rfl,rfl⟩,rfl,rfl,nodup_nil⟩
def TF:TE:=λ_ H Q=>∀p,H p=none->Q (.ref p) (upd H p (.dT []))
section
variable {X:Cx}{pos:Pos}
theorem zE:PE X (.Dict [] [] pos) TF:=λpins s U H Q I h=>wpAny_Dict_empty ⟨.ref s.heap.objs.size,_,I.laid (a:=s.heap.objs.size) (o:=.dT []) (t':=s.toks) (λ_ _ q=>Heap.get?_push_of_some _ q) (le_refl _) (K8 s.heap I.big),rfl,h _ (I.ag.fresh (le_refl _))⟩
end
structure M1 (X:Cx)(o:Expr)(m:Str)(apos:Pos)(e:Expr)(au:Pos):Prop where
 base:attributeBase o m X.env (eval o X.env)=eval o X.env
 few:((backTo au (starEach [e] X.env)).all (λx=>!x.1)&&(backToKw au (keywordEach [] X.env)).all (λx=>x.1.isSome)&&decide (([e]:List Expr).length+([]:List Keyword).length+(if([]:List Keyword).isEmpty then 0 else 1)<30))=true
 line:(apos.endLine==au.line)=true
 trees:backTo au (starEach [e] X.env)=[(false,eval e X.env)]
structure M2 (X:Cx)(o:Expr)(m:Str)(apos:Pos)(e f:Expr)(au:Pos):Prop where
 base:attributeBase o m X.env (eval o X.env)=eval o X.env
 few:((backTo au (starEach [e,f] X.env)).all (λx=>!x.1)&&(backToKw au (keywordEach [] X.env)).all (λx=>x.1.isSome)&&decide (([e,f]:List Expr).length+([]:List Keyword).length+(if([]:List Keyword).isEmpty then 0 else 1)<30))=true
 line:(apos.endLine==au.line)=true
 trees:backTo au (starEach [e,f] X.env)=[(false,eval e X.env),(false,eval f X.env)]
def zF (H:Hp)(a:Addr):Prop:=(∃aa,Rd H a (.dK aa))\/∃aa,Rd H a (.dT aa)
theorem Dj {X:Cx}{pins:List (Addr×Obj)}{U:St}{H:Hp}{s:Shared}{a:Addr}(I:Inv X pins U H s)(d:zF H a):s.TypeIs (.ref a) "dict"/\(∀b,Value.ref a= .ref b->∃ob,s.heap.get? b=some ob/\ob.dict=none)/\(a==sysModules)=false:=by
 rcases d with⟨aa,e⟩|⟨aa,e⟩
 .obtain⟨_,hd,vs,_,dd⟩:=lT I.ag e;refine⟨dd.typeIs,λb q=>?_,hd⟩;cases q;obtain⟨ob,_,_,h1,h2,_⟩:=dd;exact⟨ob,h1,h2.2.1⟩
 .obtain⟨_,hd,xs,_,dd⟩:=nA I.ag e;refine⟨dd.typeIs,λb q=>?_,hd⟩;cases q;obtain⟨ob,_,_,h1,h2,_⟩:=dd;exact⟨ob,h1,h2.2.1⟩
section
variable {X:Cx}{pins:List (Addr×Obj)}{U:St}{H:Hp}{s:Shared}{a:Addr}{y d:V}{u r:Value}{o:Option V}{A:Around}{E:Value->Shared->Prop}
theorem TH {Q:Value->Shared->Prop}(hu:A.units+1<cLine)(I:Inv X pins U H s)(g:iX H a y o)(ry:RelV y u)(h:∀w' s',Inv X pins U H s'->RelV (o.getD .aq) w'->Q w' s'):wpAny (model X.prog X.w) A (call (.builtin "dict.get") [.ref a,u]) Q E s:=by
 rcases g with⟨aa,k,e,ey,l⟩|⟨aa,k,b,e,ey,eb,l⟩
 .subst ey;obtain⟨z,hd,vs,rel,dd⟩:=lT I.ag e;refine call_meetsIn PySem.F.slot_dict_get dd.typeIs PySem.F.entry_dict_get (PySem.F.args_dict_get_2 _ _) (meets_dict_get (za X.prog X.w) a (ny ry) hd) ⟨_,dd.mapOf,h _ _ (I.tok _) ?_⟩;rw[l];exact(rel.val k).getD rfl
 .subst ey;cases(show u=Value.ref b from ry);obtain⟨z,hd,xs,rel,dd⟩:=nA I.ag e;refine call_meetsIn PySem.F.slot_dict_get dd.typeIs PySem.F.entry_dict_get (PySem.F.args_dict_get_2 _ _) (meetsH_dict_get (tupleKind (za X.prog X.w)) a b hd) ⟨tupleKind_room_in1 hu,k,xs,lU I.ag eb,dd,h _ _ (I.tok _) ?_⟩;rw[l];exact(rel.val k).getD rfl
theorem TJ {Q:Value->Shared->Prop}(hu:A.units+1<cLine)(I:Inv X pins U H s)(g:iX H a y o)(ry:RelV y u)(rd:RelV d r)(h:∀w' s',Inv X pins U H s'->RelV (o.getD d) w'->Q w' s'):wpAny (model X.prog X.w) A (call (.builtin "dict.get") [.ref a,u,r]) Q E s:=by
 rcases g with⟨aa,k,e,ey,l⟩|⟨aa,k,b,e,ey,eb,l⟩
 .subst ey;obtain⟨z,hd,vs,rel,dd⟩:=lT I.ag e;refine call_meetsIn PySem.F.slot_dict_get dd.typeIs PySem.F.entry_dict_get (PySem.F.args_dict_get_3 _ _ _) (meets_dict_get_default (za X.prog X.w) a (ny ry) hd r) ⟨_,dd.mapOf,h _ _ (I.tok _) ?_⟩;rw[l];exact(rel.val k).getD rd
 .subst ey;cases(show u=Value.ref b from ry);obtain⟨z,hd,xs,rel,dd⟩:=nA I.ag e;refine call_meetsIn PySem.F.slot_dict_get dd.typeIs PySem.F.entry_dict_get (PySem.F.args_dict_get_3 _ _ _) (meetsH_dict_get_default (tupleKind (za X.prog X.w)) a b hd r) ⟨tupleKind_room_in1 hu,k,xs,lU I.ag eb,dd,h _ _ (I.tok _) ?_⟩;rw[l];exact(rel.val k).getD rd
end
def TK (td ty:TE):TE:=λU H Q=>td U H λx H1=>∃a,x= .ref a/\zF H1 a/\ty U H1 λy H2=>∃o,iX H2 a y o/\Q (o.getD .aq) H2
noncomputable def TL (td ty tx:TE):TE:=λU H Q=>td U H λx H1=>∃a,x= .ref a/\zF H1 a/\ty U H1 λy H2=>tx U H2 λz H3=>∃o,iX H3 a y o/\Q (o.getD z) H3
section
variable {X:Cx}{o e f:Expr}{apos au:Pos}{td ty tx:TE}
theorem TM (hu:X.A.units+1<cLine)(ho:PE X o td)(he:PE X e ty)(m:M1 X o "get" apos e au):PE X (.Call (.Attribute o "get" apos) [e] [] au) (TK td ty):=by intro pins s U H Q I h;refine wpAny_Call_method m.base m.few m.line PySem.F.plainAttrs_dict PySem.F.slot_dict_get PySem.F.type_dict_get (ai (ho pins s U H _ I h) λu s1 zQ=>?_);obtain⟨x,H1,I1,rx,a,ex,d,q1⟩:=zQ;subst ex;obtain rfl:u=Value.ref a:=rx;obtain⟨t1,t2,_⟩:=Dj I1 d;refine⟨t1,t2,?_⟩;rw[m.trees];refine Calls.callWith_builtin rfl (Calls.evalArgs_plain (Calls.spliced_cons (ai (he pins s1 U H1 _ I1 q1) λiv s2 ⟨y,H2,I2,ry,ov,g,q2⟩=>Calls.spliced_nil ?_)));exact TH hu I2 g ry λw' s3 I3 cK=>⟨_,H2,I3,cK,q2⟩
theorem TN (hu:X.A.units+1<cLine)(ho:PE X o td)(he:PE X e ty)(hf:PE X f tx)(m:M2 X o "get" apos e f au):PE X (.Call (.Attribute o "get" apos) [e,f] [] au) (TL td ty tx):=by
 intro pins s U H Q I h;refine wpAny_Call_method m.base m.few m.line PySem.F.plainAttrs_dict PySem.F.slot_dict_get PySem.F.type_dict_get (ai (ho pins s U H _ I h) λu s1 zQ=>?_);obtain⟨x,H1,I1,rx,a,ex,d,q1⟩:=zQ;subst ex;obtain rfl:u=Value.ref a:=rx;obtain⟨t1,t2,_⟩:=Dj I1 d;refine⟨t1,t2,?_⟩;rw[m.trees];refine Calls.callWith_builtin rfl (Calls.evalArgs_plain (Calls.spliced_cons (ai (he pins s1 U H1 _ I1 q1) λiv s2 ⟨y,H2,I2,ry,q2⟩=>Calls.spliced_cons (ai (hf pins s2 U H2 _ I2 q2) λfv s3 ⟨z,H3,I3,rz,ov,g,q3⟩=>Calls.spliced_nil ?_))));exact TJ hu I3 g ry rz λw' s4 I4 cK=>⟨_,H3,I4,cK,q3⟩
end
section
variable {X:Cx}
theorem TQ:fM X (.builtin "len") (λxs H Q=>∃a aa,xs=[V.ref a]/\H a=some (.dK aa)/\Q (.int aa.length) H):=by intro pins s U H xs us Q I r h;obtain⟨a,aa,rfl,ha,q⟩:=h;obtain⟨u,rfl,ru⟩:=vals1 r;cases ru;exact Tr I (.inl ha) λt s' I'=>⟨.int aa.length,H,I',⟨t,rfl⟩,q⟩
end
section
variable {B:Type}[DecidableEq B]
theorem TR {aa:List (B×V)}{k:B}{v:V}(h:aX aa k=some v):k∈aa.map (·.1):=by
 have q:(aa.any λkv=>decide (kv.1=k))=true:=by rw[zC,h];all_goals rfl
 obtain⟨p,hp,e⟩:=List.any_eq_true.mp q;exact mem_map.mpr ⟨p,hp,of_decide_eq_true e⟩
end
noncomputable def fP (scope:Scope)(env:Env):List (Str×Addr):=(scope.names.filterMap λp=>if p.2=NameKind.free then(env.cells.lookup p.1).map λc=>(p.1,c)else none).reverse
theorem Dk {α:Type}{x:Str}{c:α}:∀{l:List (Str×α)},l.lookup x=some c->(x,c)∈l
 |[],h=>by simp at h
 |(y,d)::r,h=>by
  rw[lookup_cons]at h;cases e:x==y with
  |true=>rw[e]at h;have h':d=c:=Option.some.inj h;rw[h',eq_of_beq e];exact mem_cons_self
  |false=>rw[e]at h;exact mem_cons_of_mem _ (Dk h)
theorem K9 {α:Type}{x:Str}{c:α}:∀{l:List (Str×α)},(x,c)∈l->∃d,l.lookup x=some d
 |[],h=>by simp at h
 | (y,d)::r,h=>by
  rw[lookup_cons];cases e:x==y with
  |true=>exact⟨d,rfl⟩
  |false=>
   rcases mem_cons.mp h with z|z
   .have z1:x=y:=congrArg Prod.fst z;rw[z1,beq_self_eq_true]at e;cases e
   .exact K9 z
theorem La {scope:Scope}{env:Env}{x:Str}{c:Addr}:(x,c)∈fP scope env↔(x,NameKind.free)∈scope.names/\env.cells.lookup x=some c:=by
 unfold fP;rw[List.mem_reverse,mem_filterMap];constructor
 .rintro⟨⟨y,k⟩,hm,e⟩
  by_cases hk:k=NameKind.free
  .subst hk;rw[if_pos rfl]at e;cases q:env.cells.lookup y with
   |none=>rw[q]at e;cases e
   |some d=>rw[q]at e;have e':(y,d)=(x,c):=Option.some.inj e;cases e';exact⟨hm,q⟩
  .rw[if_neg hk]at e;cases e
 .rintro⟨hm,q⟩
  exact⟨(x,NameKind.free),hm,by rw[if_pos rfl];rw[q];rfl⟩
theorem kh {scope:Scope}{env:Env}{x:Str}{c:Addr}(h:(fP scope env).lookup x=some c):env.cells.lookup x=some c:=(La.mp (Dk h)).2
theorem Dl {scope:Scope}{env:Env}{x:Str}{c:Addr}(hm:(x,NameKind.free)∈scope.names)(h:env.cells.lookup x=some c):(fP scope env).lookup x=some c:=by obtain⟨d,e⟩:=K9 (La.mpr ⟨hm,h⟩);rw[e,<-h];exact(kh e).symm
theorem Dm {env:Env}:∀(names:List (Str×NameKind))(cs:List (Str×Addr)),(∀p∈names,p.2= .free->∃c,env.cells.lookup p.1=some c)->(forIn names cs λ(x:Str×NameKind)(cs:List (Str×Addr))=>(match x with
   |(name,kind)=>if(kind== .free)=true then(do let a<-cellOf env name;pure (ForInStep.yield ((name,a)::cs)))else pure (ForInStep.yield cs):Sem (ForInStep (List (Str×Addr)))))
   =pure ((names.filterMap λp=>if p.2=NameKind.free then(env.cells.lookup p.1).map λc=>(p.1,c)else none).reverse++cs)
 |[],cs,_=>rfl
 | (n,k)::r,cs,h=>by
  rw[List.forIn_cons];have hr:∀p∈r,p.2= .free->∃c,env.cells.lookup p.1=some c:=λp hp=>h p (mem_cons_of_mem _ hp);by_cases hk:k=NameKind.free
  .subst hk;obtain⟨c,hc⟩:=h (n,.free) mem_cons_self rfl;have e1:cellOf env n=pure c:=by unfold cellOf;rw[show env.cells.lookup n=some c from hc]
   show((do let a<-cellOf env n;pure (ForInStep.yield ((n,a)::cs)):Sem (ForInStep (List (Str×Addr)))) >>= _)=_;rw[e1];simp only[pure_bind];rw[Dm r ((n,c)::cs) hr,filterMap_cons,if_pos rfl,show env.cells.lookup n=some c from hc];simp
  .have hb:(k==NameKind.free)=false:=by simpa using hk
   show((if(k==NameKind.free)=true then(do let a<-cellOf env n;pure (ForInStep.yield ((n,a)::cs)))else pure (ForInStep.yield cs):Sem (ForInStep (List (Str×Addr)))) >>= _)=_;rw[hb,if_neg Bool.false_ne_true];simp only[pure_bind];rw[Dm r cs hr,filterMap_cons,if_neg hk]
theorem TU {scope:Scope}{env:Env}(h:∀p∈scope.names,p.2= .free->∃c,env.cells.lookup p.1=some c):closureFor scope env=pure (fP scope env):=by have e:=Dm scope.names [] h;rw[append_nil]at e;unfold closureFor fP;simp only[bind_pure];exact e
theorem gp {env:Env}{x:Str}:∀{names:List (Str×NameKind)}{k:NameKind},(names.map λ(n,k)=>if(k==NameKind.free&&env.scope.kind== .function&&env.kindOf n==some .cell)then(n,NameKind.cell)else(n,k)).lookup x=some k->∃k',(x,k')∈names/\(k'=k\/(k'= .free/\k= .cell))
 |[],_,h=>by simp at h
 | (n,j)::r,k,h=>by
  by_cases hc:(j==NameKind.free&&env.scope.kind== .function&&env.kindOf n==some .cell)=true
  .rw[map_cons]at h;have h':List.lookup x ((if(j==NameKind.free&&env.scope.kind== .function&&env.kindOf n==some .cell)=true then(n,NameKind.cell)else(n,j))::_)=some k:=h;rw[if_pos hc,lookup_cons]at h';cases e:x==n with
   |true=>
    rw[e]at h';have h2:NameKind.cell=k:=Option.some.inj h';have hj:j=NameKind.free:=by have:=hc;rw[Bool.and_eq_true,Bool.and_eq_true]at this;exact eq_of_beq this.1.1
    exact⟨j,by rw[eq_of_beq e];exact mem_cons_self,.inr ⟨hj,h2.symm⟩⟩
   |false=>rw[e]at h';obtain⟨k',hm,q⟩:=gp h';exact⟨k',mem_cons_of_mem _ hm,q⟩
  .rw[map_cons]at h;have h':List.lookup x ((if(j==NameKind.free&&env.scope.kind== .function&&env.kindOf n==some .cell)=true then(n,NameKind.cell)else(n,j))::_)=some k:=h;rw[if_neg hc,lookup_cons]at h';cases e:x==n with
   |true=>rw[e]at h';exact⟨j,by rw[eq_of_beq e];exact mem_cons_self,.inl (Option.some.inj h')⟩
   |false=>rw[e]at h';obtain⟨k',hm,q⟩:=gp h';exact⟨k',mem_cons_of_mem _ hm,q⟩
noncomputable def Lb (N:List Str)(sc scope:Scope)(N':List Str)(ix:List (Option Nat)):Bool:=scope.kind== .function&&scope.names.all (λy=>y.2 != .cell)&&scope.names.all (λy=>y.2 != .local||scope.names.lookup y.1==some .local)&&
 scope.names.all (λy=>y.2 != .free||sc.names.lookup y.1==some .cell||sc.names.lookup y.1==some .free)&&
 decide (ix.length=N'.length)&&decide N'.Nodup&&(N'.zip ix).all λp=>match p.2 with
  |none=>scope.names.all λy=>y.1 != p.1||y.2== .local
  |some k=>N[k]?==some p.1&&scope.names.lookup p.1==some .free&&scope.names.all λy=>y.1 != p.1||y.2== .free
structure ir (N:List Str)(sc scope:Scope)(N':List Str)(ix:List (Option Nat)):Prop where
 kind:scope.kind= .function
 zG:∀y∈scope.names,y.2≠.cell
 names:∀y∈scope.names,y.2= .local->scope.names.lookup y.1=some .local
 frees:∀y∈scope.names,y.2= .free->sc.names.lookup y.1=some .cell\/sc.names.lookup y.1=some .free
 len:ix.length=N'.length
 nd:N'.Nodup
 own:∀(i:Nat)(x:Str),N'[i]?=some x->ix[i]?=some none->∀y∈scope.names,y.1=x->y.2= .local
 out:∀(i:Nat)(x:Str)(k:Nat),N'[i]?=some x->ix[i]?=some (some k)->N[k]?=some x/\(x,NameKind.free)∈scope.names/\∀y∈scope.names,y.1=x->y.2= .free
theorem zd {N:List Str}{sc scope:Scope}{N':List Str}{ix:List (Option Nat)}(h:Lb N sc scope N' ix=true):ir N sc scope N' ix:=by
 unfold Lb at h;simp only[Bool.and_eq_true,all_eq_true,Bool.or_eq_true,bne_iff_ne,beq_iff_eq,decide_eq_true_eq,ne_eq]at h;obtain⟨⟨⟨⟨⟨⟨h1,h2⟩,h3⟩,h4⟩,h5⟩,h6⟩,h7⟩:=h;have nB:∀{i:Nat}{x:Str}{o:Option Nat},N'[i]?=some x->ix[i]?=some o->(x,o)∈N'.zip ix:=λ{i x o} a b=>by refine mem_of_getElem? (i:=i) ?_;rw[List.getElem?_zip_eq_some];exact⟨a,b⟩
 refine⟨h1,λy hy=>h2 y hy,λy hy e=>?_,λy hy e=>?_,h5,h6,λi x a b y hy e=>?_,λi x k a b=>?_⟩
 .rcases h3 y hy with z|z
  .exact absurd e z
  .exact z
 .rcases h4 y hy with(z|z)|z
  .exact absurd e z
  .exact .inl z
  .exact .inr z
 .have q:=h7 _ (nB a b);simp only[all_eq_true,Bool.or_eq_true,bne_iff_ne,beq_iff_eq,ne_eq]at q;rcases q y hy with z|z
  .exact absurd e z
  .exact z
 .have q:=h7 _ (nB a b);simp only[Bool.and_eq_true,all_eq_true,Bool.or_eq_true,bne_iff_ne,beq_iff_eq,ne_eq]at q;obtain⟨⟨q1,q2⟩,q3⟩:=q;refine⟨q1,Dk q2,λy hy e=>?_⟩;rcases q3 y hy with z|z
  .exact absurd e z
  .exact z
def fQ (ix:List (Option Nat))(U:St):St:=ix.map λo=>match o with
 |some k=>(U[k]?).join
 |none=>none
noncomputable def aE (X:Cx)(scope:Scope)(N':List Str)(C:Addr)(fp:List Addr)(ae:Shared)(af:Hp):Cx:={X with N:=N',av:=ae,bC:=af,env:=compEnvC scope (fP scope X.env) C X.env,outer:=X.stack,stack:=X.stack,ex:=fp,fn:=λ_=>false,pn:=[],xe:=λ_ _=>False}
abbrev eX (its:List Value)(n:Nat):Obj:={cls:=.type "list",data:=.seq its.toArray n}
section
variable {X:Cx}{scope:Scope}{N':List Str}{ix:List (Option Nat)}{C:Addr}{fp:List Addr}{ae:Shared}{af:Hp}{pins:List (Addr×Obj)}{U:St}
theorem TV (I:Inv X pins U af ae){x:Str}{c:Addr}(h:(fP scope X.env).lookup x=some c):c<ae.heap.objs.size:=by obtain⟨v,q⟩:=I.cell x c (kh h);exact q.lt
theorem Lc (I:Inv X pins U af ae)(co:ir X.N X.env.scope scope N' ix)(hC:@LE.le Nat _ ae.heap.objs.size C)(hf:∀b∈fp,dP X pins af b)(ax:∀b∈fp,b<ae.heap.objs.size):(aE X scope N' C fp ae af).Ok where
 mod:=I.ok.mod
 kind:=co.kind
 glob:=I.ok.glob
 blt:=I.ok.blt
 above:=hC
 inj:=λx y c e1 e2=>I.ok.inj x y c (kh e1) (kh e2)
 has:=λx h=>by
  have h1:∃k,(relabel scope X.env).names.lookup x=some k/\(k= .cell\/k= .free):=by
   rcases h with h|h
   .exact⟨_,h,.inl rfl⟩
   .exact⟨_,h,.inr rfl⟩
  obtain⟨k,h1,h2⟩:=h1;obtain⟨k',hm,q⟩:=gp h1;have hk:k'= .free:=by
   rcases q with q|⟨q,_⟩
   .rcases h2 with z|z
    .exact absurd (q.trans z) (co.zG _ hm)
    .exact q.trans z
   .exact q
  rw[hk]at hm;obtain⟨c,hc⟩:=I.ok.has x (co.frees _ hm rfl);exact⟨c,Dl hm hc⟩
 iN:=λx c h=>by have h':false=true:=h;cases h'
 hd:=I.ok.hd
 frames:=I.ok.frames
 dv:=.inl rfl
 yA:=λb hb=>⟨ne_of_lt (lt_of_lt_of_le (ax b hb) hC),λx c e=>(hf b hb).2.2.2.2.1 x c (kh e)⟩
 bs:=I.bs
 jZ:=le_trans I.ok.jZ I.sz
 oA:=λb o e hb=>by
  rcases(hf b hb).2.2.2.1 with z|z
  .exact I.ok.oA b o e z
  .exact absurd (lt_of_lt_of_le (Heap.lt_size (I.ok.bs b o e).1) z) (lt_irrefl _)
 qK:=λb hb z=>by
  rcases mem_cons.mp (I.mO b z)with e|e
  .exact(hf b hb).2.1 e
  .exact(hf b hb).2.2.1 e
 fu:=I.stack
 iO:=I.yB
theorem TX (I:Inv X pins U af ae){b:Addr}(h:ae.heap.objs.size<=b):b∉bo X.stack:=λz=>by
 rcases mem_cons.mp (I.mO b z)with e|e
 .rw[e]at h;exact absurd (lt_of_lt_of_le I.lt h) (lt_irrefl _)
 .exact I.JM h e
theorem TY (I:Inv X pins U af ae)(co:ir X.N X.env.scope scope N' ix){D:Addr}{h₁:Heap}{t':Nat}(hD:@Eq Nat D ae.heap.objs.size)(hC:@Eq Nat C (ae.heap.objs.size+1))(hf:∀b∈fp,dP X pins af b)(ax:∀b∈fp,b<ae.heap.objs.size)(old:∀b o,ae.heap.get? b=some o->h₁.get? b=some o)(eY:h₁.get? D=some (eX [] 0)){m:Str->Option Value}(qV:h₁.Ns C m):
  Inv (aE X scope N' C fp ae af) [(D,eX [] 0)] (fQ ix U) af {ae with heap:=h₁,toks:=t'} where
 ok:=Lc I co (by lia) hf ax
 os:=rfl
 bare:=I.bare
 base:=Un.kept old
 loc :=by
  refine⟨m,qV,λi x v e1 e2 e3=>?_⟩;unfold fQ at e2;rw[getElem?_map]at e2;cases q:ix[i]? with
  |none=>rw[q]at e2;cases e2
  | some o=>
   rw[q]at e2;cases o with
   |none=>cases e2
   | some k=>
    have gG:(U[k]?).join=some v:=Option.some.inj e2;have oT:U[k]?=some (some v):=by
     cases z:U[k]? with
     |none=>rw[z]at gG;cases gG
     |some o=>rw[z]at gG;exact congrArg some gG
    obtain⟨o1,o2,o3⟩:=co.out i x k e1 q;have hk:X.env.kindOf x=some .cell\/X.env.kindOf x=some .free:=co.frees _ o2 rfl;have TZ:sL X.env.scope x:=.inr hk;obtain⟨m0,_,hl⟩:=I.loc;obtain⟨u,r,l⟩:=hl k x v o1 oT TZ;refine⟨u,r,?_⟩;rcases l with⟨l,_⟩|⟨_,c,ec,dN⟩
    .rcases hk with z|z
     .rw[z]at l;cases l
     .rw[z]at l;cases l
    .refine .inr ⟨?_,c,Dl o2 ec,?_⟩
     .rcases e3 with z|z|z
      .obtain⟨k',hm,q⟩:=gp z;rcases q with q|⟨_,q⟩
       .have:=o3 _ hm rfl;rw[show k'=NameKind.local from q]at this;cases this
       .cases q
      .exact .inl z
      .exact .inr z
     .obtain⟨o,ho,hd⟩:=dN;exact⟨o,old _ _ ho,hd⟩
 cell:=λx c e=>by obtain⟨v,o,ho,hd⟩:=I.cell x c (kh e);exact⟨v,o,old _ _ ho,hd⟩
 free:=I.ag.fresh (by show@LE.le Nat _ ae.heap.objs.size C;lia)
 dW:=λx c e=>I.dW x c (kh e)
 pin:=λp hp=>by
  have e:p=(D,eX [] 0):=by simpa[aE]using hp
  subst e;refine⟨eY,I.ag.fresh (by show@LE.le Nat _ ae.heap.objs.size D;lia),by show¬@Eq Nat D C;lia,TX I (by show@LE.le Nat _ ae.heap.objs.size D;lia),λv z=>?_⟩;have z':Data.seq _ _=Data.cell v:=z;cases z'
 ag:=I.ag.kept old
 len:=by unfold fQ;rw[length_map];exact co.len
theorem T1 (I:Inv X pins U af ae){D:Addr}(hD:@Eq Nat D ae.heap.objs.size)(hf:∀b∈fp,dP X pins af b){ys:List V}{its:List Value}{n:Nat}{U':St}{H':Hp}{s':Shared}(I':Inv (aE X scope N' C fp ae af) [(D,eX its n)] U' H' s')(hv:Vals ys its)(hz:ys.length<=sizeLine):Inv X pins U (upd H' D (.lst ys)) s':=by
 obtain⟨dp,dn,_,_,_⟩:=I'.pin (D,eX its n) (by simp);have T3:s'.heap.get? D=some (eX its n):=dp;have Ld:H' D=none:=dn;have u:=I'.base;have ne:∀b o,ae.heap.get? b=some o->b≠D:=λb o e z=>by have h1:@LT.lt Nat _ b ae.heap.objs.size:=Heap.lt_size e;have h2:@Eq Nat b D:=z;lia
 have nC:∀b o,af b=some o->b≠D:=λb o e z=>by have h1:@LT.lt Nat _ b ae.heap.objs.size:=I.ag.lt e;have h2:@Eq Nat b D:=z;lia
 refine I.CF (ch:=fp) I'.os ⟨u.keep,u.slot,λb o e q hb=>?_,u.there,λb xs q=>?_,λb o xs q=>?_,λb ps q=>?_⟩ (λb o e=>?_) I'.bare λb hb=>?_
 .rw[jf (ne b o e)];exact u.free b o e q hb
 .rw[jf (nC b _ q)];exact u.eG b xs q
 .rw[jf (nC b _ q)];exact u.dU b o xs q
 .rw[jf (nC b _ q)];exact u.eQ b ps q
 .by_cases hb:b=D
  .subst hb;rw[jc]at e;cases e;exact⟨hz,its,n,hv,T3⟩
  .rw[jf hb]at e;exact(I'.ag b o e).cT (λc v _ q=>q) (λc q=>by rw[jf (jj q Ld)];exact q) λc xs q=>by rw[jf (jj q Ld)];exact q
 .obtain⟨_,f1,_,f3,f4,f5⟩:=hf b hb;exact⟨f3,f1,f4,f5⟩
end
abbrev bZ:Value->Shared->Prop:=λ_ _=>False
section
variable {prog:Program}{w:World}{A:Around}{R:Result->Shared->Prop}{s:Shared}
theorem T4 {elt target iter:Expr}{ifs:List Expr}{scope:Scope}{pos:Pos}{it acc:Value}{env:Env}(I:Nat->Shared->Prop)(turn:∀n s,I n s->wpAny (model prog w) A (pyNext it) (λr aj=>match r with
   |none=>R (.ok .next) aj
   |some v=>wpAny (model prog w) A (letOwnedTupleGo target it v) (λ_ aj=>wpAny (model prog w) A (assign target env v) (λ_ ae=>wpAny (model prog w) A (forIn ifs true λc r=>if r=true then do let ok<-isTrue c env (eval c env);pure (ForInStep.yield ok)else pure (ForInStep.yield r)) (λok aB=>if ok=true then wpAny (model prog w) A (eval elt env) (λx bQ=>wpAny (model prog w) A (call (.builtin "list.append") [acc,x]) (λ_ iZ=>∃m,m<n/\I m iZ) bZ bQ) bZ aB
      else ∃m,m<n/\I m aB) bZ ae) bZ aj) bZ aj) bZ s)(n:Nat)(h:I n s):codeAny (model prog w) A (.compLoop (.ListComp elt [⟨target,iter,ifs,0⟩] scope pos) 0 it acc env) R s:=by
 refine codeAny_loop rfl I (λn s hI=>?_) n h;show wpAny _ A ((compTurn (.ListComp elt [⟨target,iter,ifs,0⟩] scope pos) 0 it acc env).onRaise (λx=>do noteFrame x env;theTreesLotGoes x)) _ _ s;refine wpAny_noted ?_;rw[compTurn_list];refine wpAny_bind (wpAny_standAt (wpAny_bind (wpAny_mono (turn n s hI) (λr aj h₁=>?_) λ_ _ h'=>h'.elim)));cases r with
 |none=>exact wpAny_pure h₁
 |some v=>
  refine wpAny_bind (wpAny_mono h₁ (λ_ aj h₁=>?_) λ_ _ h'=>h'.elim);refine wpAny_bind (wpAny_mono h₁ (λ_ ae bA=>wpAny_bind (wpAny_mono bA (λok aB dz=>?_) λ_ _ h'=>h'.elim)) λ_ _ h'=>h'.elim);cases ok with
  |false=>exact wpAny_pure ⟨rfl,dz⟩
  |true=>exact wpAny_bind (wpAny_bind (wpAny_mono dz (λx bQ cg=>wpAny_bind (wpAny_mono cg (λ_ iZ bg=>wpAny_pure (wpAny_pure ⟨rfl,bg⟩)) λ_ _ h'=>h'.elim)) λ_ _ h'=>h'.elim))
end
noncomputable def lV (X:Cx)(ifs:List Expr)(t:TT):Prop:=∀(pins:List (Addr×Obj))(s:Shared)(U:St)(H:Hp)(Q:Bool->Hp->Prop),Inv X pins U H s->t U H Q->wpAny (model X.prog X.w) X.A (forIn ifs true λc r=>if r=true then do let ok<-isTrue c X.env (eval c X.env);pure (ForInStep.yield ok)else pure (ForInStep.yield r)) (TP X pins U Q) X.xe s
def kK:TT:=λ_ H Q=>Q true H
theorem lW {X:Cx}:lV X [] kK:=λ_ _ _ H _ I h=>wpAny_tests_nil ⟨H,I,h⟩
theorem lX {X:Cx}{c:Expr}{t:TT}(h:PT X c t):lV X [c] t:=λpins s U H Q I q=>wpAny_tests_one (h pins s U H Q I q)
def tL (Q:VK)(ys:List V)(H:Hp):Prop:=∀p,H p=none->Q (.ref p) (upd H p (.lst ys))
noncomputable def Le (ix:List (Option Nat))(wi:TI)(g:TG)(ti:TT)(te:TE):TE:=λU H Q=>wi U H λJ H1=>∃W:Nat->Nat->List V->St->Hp->Prop,(∃m,W 0 m [] (fQ ix U) H1)/\∀i m ys U H,W i m ys U H->ys.length<=sizeLine/\((J.stop i H/\tL Q ys H)\/(J.go i H/\∃N:List V->St->Hp->Prop,(∀cD U' H',N cD U' H'->∃m',m'<m/\W (i+1) m' cD U' H')/\∀x H',J.dO i H x H'->g x U H' λU2 H2=>ti U2 H2 λb H3=>if b=true then te U2 H3 λy H4=>N (ys++[y]) U2 H4 else N ys U2 H3))
structure qY (X:Cx)(pins:List (Addr×Obj))(H:Hp)(s:Shared)(C:Addr):Prop where
 ns:∃m,s.heap.Ns C m
 fr:H C=none
 nl:C≠X.env.locals
 ab:X.av.heap.objs.size<=C
 nc:∀x c,X.env.cells.lookup x=some c->c≠C
 np:∀p∈X.pn++pins,p.1≠C
section
variable {X:Cx}
theorem Lf {scope:Scope}{N':List Str}{ix:List (Option Nat)}{pins:List (Addr×Obj)}{U:St}{tg iter elt:Expr}{ifs:List Expr}{pos:Pos}{g:TG}{ti:TT}{te:TE}{E:Value->Shared->Prop}(co:ir X.N X.env.scope scope N' ix)(hc:X.calm=true)(hg:∀C fp ae af,PG (aE X scope N' C fp ae af) tg g)(hi:∀C fp ae af,lV (aE X scope N' C fp ae af) ifs ti)(he:∀C fp ae af,PE (aE X scope N' C fp ae af) elt te){af:Hp}{ae:Shared}{J:It}{fp:List Addr}{it:Addr}{tn:Nat->Heap->Prop}{QF:List V->Hp->Prop}(I:Inv X pins U af ae)(T:Turn X.prog X.w X.K tg J fp it tn)(st:tn 0 ae.heap)(hf:∀b∈fp,dP X pins af b){W:Nat->Nat->List V->St->Hp->Prop}(w0:∃m,W 0 m [] (fQ ix U) af)(hW:∀i m ys U H,W i m ys U H->ys.length<=sizeLine/\((J.stop i H/\QF ys H)\/(J.go i H/\∃N:List V->St->Hp->Prop,(∀cD U' H',N cD U' H'->∃m',m'<m/\W (i+1) m' cD U' H')/\∀x H',J.dO i H x H'->g x U H' λU2 H2=>ti U2 H2 λb H3=>if b=true then te U2 H3 λy H4=>N (ys++[y]) U2 H4 else N ys U2 H3))){RR:Value->Addr->Result->Shared->Prop}(tM:∀D C ys H' s',Inv X pins U (upd H' D (.lst ys)) s'->H' D=none->QF ys H'->qY X pins (upd H' D (.lst ys)) s' C->RR (.ref D) C (.ok .next) s'):
  wpAny (model X.prog X.w) X.A (newList []) (λacc aB=>wpAny (model X.prog X.w) X.A (newFunctionEnv scope X.env.globals (fP scope X.env) [] X.env.qual none .none (some X.env)) (λfb bQ=>codeAny (model X.prog X.w) X.A (.compStart (.ListComp elt [⟨tg,iter,ifs,0⟩] scope pos) 0 (.ref it) acc {fb with scope:=relabel scope X.env}) (RR acc fb.locals) bQ) E aB) E ae:=by
 have ax:∀b∈fp,@LT.lt Nat _ b ae.heap.objs.size:=λb hb=>by obtain⟨o,e,_⟩:=T.obj _ _ st b hb;exact Heap.lt_size e
 refine wpAny_newObj_type (wpAny_newFunctionEnv co.zG (by intro y hy;simp at hy) (λh₁ aZ aV=>?_) co.kind);dsimp only at aZ aV⊢;generalize qZ:ae.heap.push {cls:=.type "list",dict:=none,data:=.seq ([]:List Value).toArray}=H2 at aZ aV⊢;have hC:@Eq Nat H2.objs.size (ae.heap.objs.size+1):=by rw[<-qZ,Heap.size_push]
 have below:∀b:Nat,b<ae.heap.objs.size->¬@Eq Nat b H2.objs.size:=λb hb=>by lia
 have zH:¬@Eq Nat ae.heap.objs.size H2.objs.size:=by lia
 have old:∀b o,ae.heap.get? b=some o->h₁.get? b=some o:=λb o e=>aV.extBut b o (below b (Heap.lt_size e)) (Heap.get?_push_of_some _ (qZ ▸ Heap.get?_push_of_some _ e));have eY:h₁.get? ae.heap.objs.size=some (eX [] 0):=aV.extBut _ _ zH (Heap.get?_push_of_some _ (qZ ▸ Heap.get?_push_size _ rfl));have cx:tn 0 h₁:=T.keep _ _ _ st λb _ o e=>old b o e;generalize rh:H2.objs.size=C at aZ aV hC below zH⊢;generalize Lg:ae.heap.objs.size=D at eY zH⊢;have loop:∀aB:Shared,aB={ae with heap:=h₁,toks:=ae.toks+([]:List (Str×Value)).length}->codeAny (model X.prog X.w) X.A (.compLoop (.ListComp elt [⟨tg,iter,ifs,0⟩] scope pos) 0 (.ref it) (.ref D) (compEnvC scope (fP scope X.env) C X.env)) (RR (.ref D) C) aB:=by
  rintro aB rfl
  obtain⟨m0,w0⟩:=w0;have I3:Inv (aE X scope N' C fp ae af) [(D,eX [] 0)] (fQ ix U) af {ae with heap:=h₁,toks:=ae.toks+([]:List (Str×Value)).length}:=TY I co Lg.symm hC hf ax old eY aZ;refine T4 (λk s'=>∃i ys its n U' H',Inv (aE X scope N' C fp ae af) [(D,eX its n)] U' H' s'/\Vals ys its/\tn i s'.heap/\(∀b∈fp,H' b=none)/\W i k ys U' H') ?_ m0 ⟨0,[],[],0,_,_,I3,.nil,cx,λb hb=>(hf b hb).1,w0⟩
  rintro k s' ⟨i,ys,its,n,U',H',I',hv,bD,kM,w'⟩
  have cW:∀{H':Hp}{o:Obj},(∀b∈fp,H' b=none)->∀b∈fp,dP (aE X scope N' C fp ae af) [(D,o)] H' b:=λ{H' o} hn b hb=>by
   refine⟨hn b hb,below b (ax b hb),λz=>?_,.inl hb,λx c e=>(hf b hb).2.2.2.2.1 x c (kh e),λp hp z=>?_⟩
   .rcases mem_cons.mp (I.mO b z)with e|e
    .exact(hf b hb).2.1 e
    .exact(hf b hb).2.2.1 e
   .have e:p=(D,o):=by simpa[aE]using hp
    subst e;have z':@Eq Nat D b:=z;have z2:=ax b hb;lia
  obtain⟨hz,T5⟩:=hW i k ys U' H' w';rcases T5 with⟨stop,q⟩|⟨go,N,hN,step⟩
  .refine ai (T.done (aE X scope N' C fp ae af) rfl rfl rfl hc i _ s' U' H' bZ I' (cW kM) bD stop) λr s4 ⟨hr,I4⟩=>?_;subst hr;obtain⟨_,dn,_⟩:=I4.pin (D,eX its n) (by simp);have cf:H' C=none:=I4.free;refine tM D C ys H' s4 (T1 I Lg.symm hf I4 hv hz) dn q ⟨?_,by rw[jf (Ne.symm zH)];exact cf,?_,?_,λx c e=>?_,λp hp=>?_⟩
   .obtain⟨m,hn,_⟩:=I4.loc;exact⟨m,hn⟩
   .have z:@LT.lt Nat _ X.env.locals ae.heap.objs.size:=I.lt;show¬@Eq Nat C X.env.locals;lia
   .have z:@LE.le Nat _ X.av.heap.objs.size ae.heap.objs.size:=I.sz;show@LE.le Nat _ X.av.heap.objs.size C;lia
   .obtain⟨v,z⟩:=I.cell x c e;have z2:@LT.lt Nat _ c ae.heap.objs.size:=z.lt;show¬@Eq Nat c C;lia
   .have z2:@LT.lt Nat _ p.1 ae.heap.objs.size:=Heap.lt_size (I.pin p hp).1;show¬@Eq Nat p.1 C;lia
  .refine ai (T.item (aE X scope N' C fp ae af) rfl rfl rfl hc i _ s' U' H' bZ I' (cW kM) bD go) λr s4 zQ=>?_;obtain⟨u,hr,h4⟩:=zQ;subst hr;refine ai h4 λ_ s5 zQ=>?_;obtain⟨x,H5,I5,r5,y5,eT,oJ⟩:=zQ;have oK:=I5.pinned (cW oJ) (T.obj _ _ eT);refine ai (hg C fp ae af _ s5 U' H5 x u _ oK r5 (step x H5 y5)) λ_ s6 zQ=>?_;obtain⟨U6,H6,I6,q6⟩:=zQ;refine ai (hi C fp ae af _ s6 U6 H6 _ I6 q6) λok s7 zQ=>?_;obtain⟨H7,I7,q7⟩:=zQ;have dA:∀{U8:St}{H8:Hp}{s8:Shared},Inv (aE X scope N' C fp ae af) ([(D,eX its n)]++kG fp s5.heap) U8 H8 s8->∀b∈fp,∀o,s5.heap.get? b=some o->s8.heap.get? b=some o/\H8 b=none:=λ{U8 H8 s8} I8 b hb o e=>by
    have z:=I8.pin (b,o) (mem_append_right _ (mem_append_right _ (sQ hb e)));exact⟨z.1,z.2.1⟩
   cases ok with
   |false=>
    have dB:N ys U6 H7:=by have dB:=q7;rw[if_neg Bool.false_ne_true]at dB;exact dB
    obtain⟨m',hm,w7⟩:=hN _ _ _ dB;refine⟨m',hm,i+1,ys,its,n,U6,H7,I7.qP,hv,T.keep _ _ _ eT λb hb o e=>(dA I7 b hb o e).1,λb hb=>?_,w7⟩;obtain⟨o,e,_⟩:=T.obj _ _ eT b hb;exact(dA I7 b hb o e).2
   | true=>
    have dB:te U6 H7 λy H4=>N (ys++[y]) U6 H4:=by have dB:=q7;rw[if_pos rfl]at dB;exact dB
    show wpAny _ _ _ _ _ _;refine ai (he C fp ae af _ s7 U6 H7 _ I7 dB) λyv s8 zQ=>?_;obtain⟨y,H8,I8,r8,q8⟩:=zQ;obtain⟨m',hm,w8⟩:=hN _ _ _ q8;obtain⟨z1,z2,z3,z4,z5⟩:=I8.pin (D,eX its n) (by simp);have zD:s8.heap.get? D=some (eX its n):=z1;have tN:=hv.length;refine append_at (hsz:=by rw[size_toArray];lia) zD λh9 Lh T6=>?_;have T7:Inv (aE X scope N' C fp ae af) (kG fp s5.heap) U6 H8 s8:=I8.yC λp hp=>I8.pin p (mem_append_right _ (mem_append_right _ hp));have I9:Inv (aE X scope N' C fp ae af) (kG fp s5.heap) U6 H8 {s8 with heap:=h9}:=T7.turned (it:=D) (t':=s8.toks) (λb o hb e=>(Lh.2 b hb).trans e) z2 z3 (.inr (by show ae.heap.objs.size<=D;lia)) (λx c e=>by have z:@LT.lt Nat _ c ae.heap.objs.size:=TV (scope:=scope) I e;show¬@Eq Nat c D;lia) (λp hp=>by
      have i0:p∈kG fp s5.heap:=by simpa[aE]using hp
      have z:=ax _ (J8 i0).1;show¬@Eq Nat p.1 D;lia);have Dn:h9.get? D=some (eX (its++[yv]) (n+1)):=by
     rw[T6];simp[eX]
    have gH:Inv (aE X scope N' C fp ae af) [(D,eX (its++[yv]) (n+1))] U6 H8 {s8 with heap:=h9}:=I9.yC λp hp=>by
     have e:p=(D,eX (its++[yv]) (n+1)):=by simpa using hp
     subst e;refine⟨Dn,z2,z3,z4,λv z=>?_⟩;have z':Data.seq _ _=Data.cell v:=z;cases z'
    refine⟨m',hm,i+1,ys++[y],its++[yv],n+1,U6,H8,gH,hv.append (.cons r8 .nil),T.keep _ _ _ eT λb hb o e=>?_,λb hb=>?_,w8⟩
    .have T8:b≠D:=by
      have z:=ax b hb;show¬@Eq Nat b D;lia
     exact(Lh.2 b T8).trans (dA I8 b hb o e).1
    .obtain⟨o,e,_⟩:=T.obj _ _ eT b hb;exact(dA I8 b hb o e).2
 exact codeAny_compStart_list (loop _ rfl) (T.self _ 0 _ _ _ cx (loop _ rfl))
theorem qY.go {pins:List (Addr×Obj)}{U:St}{H:Hp}{s:Shared}{C:Addr}{h':Heap}(G:qY X pins H s C)(I:Inv X pins U H s)(hs:Heap.SameBut C s.heap h'):Inv X pins U H {s with heap:=h'}:=I.turned (it:=C) (t':=s.toks) (λb o hb e=>(hs.2 b hb).trans e) G.fr G.nl (.inr G.ab) G.nc G.np
variable {scope:Scope}{N':List Str}{ix:List (Option Nat)}{tg iter elt:Expr}{ifs:List Expr}{pos:Pos}{wi:TI}{g:TG}{ti:TT}{te:TE}
theorem zI (co:ir X.N X.env.scope scope N' ix){pins:List (Addr×Obj)}{U:St}{H:Hp}{s:Shared}(I:Inv X pins U H s):closureFor scope X.env=pure (fP scope X.env):=TU λp hp e=>I.ok.has p.1 (co.frees p hp e)
theorem y9 (co:ir X.N X.env.scope scope N' ix)(hc:X.calm=true)(hit:PI X tg iter wi)(hg:∀C fp ae af,PG (aE X scope N' C fp ae af) tg g)(hi:∀C fp ae af,lV (aE X scope N' C fp ae af) ifs ti)(he:∀C fp ae af,PE (aE X scope N' C fp ae af) elt te)(hs:autoParam (∀x,foldedSetIterable iter X.env x=pure x) aP3):
  PE X (.ListComp elt [⟨tg,iter,ifs,0⟩] scope pos) (Le ix wi g ti te):=by
 intro pins s U H Q I h;rw[eval_ListComp];refine wpAny_comprehension_free (use:=none) rfl hs (zI co I) co.kind co.names (ai (hit pins s U H _ I h) λxv aj h₁=>ai h₁ λqN ae bA=>?_);obtain⟨it,fp,tn,J,af,e,cX,T,st,hf,W,w0,hW⟩:=bA;subst e;refine Lf co hc hg hi he cX T st hf w0 hW (RR:=λacc C=>compPost (model X.prog X.w) X.A X.xe none (EP X pins U Q) acc C) λD C ys H' s' I' dn q G=>?_;obtain⟨m,hn⟩:=G.ns;exact⟨m,hn,λh' iu=>⟨.ref D,_,G.go I' iu,rfl,q D dn⟩⟩
theorem Li {i:Nat}{y:Str}{py tO:Pos}(hN:X.N.Nodup)(T9:X.N[i]?=some y)(hy:X.env.scope.names.lookup y=some .local)(co:ir X.N X.env.scope scope N' ix)(hc:X.calm=true)(hit:PI X tg iter wi)(hg:∀C fp ae af,PG (aE X scope N' C fp ae af) tg g)(hi:∀C fp ae af,lV (aE X scope N' C fp ae af) ifs ti)(he:∀C fp ae af,PE (aE X scope N' C fp ae af) elt te)(hs:autoParam (∀x,foldedSetIterable iter X.env x=pure x) aP3)(Ua:autoParam (swapsWith (.ListComp elt [⟨tg,iter,ifs,0⟩] scope pos) (some (.Name y py)) tO.line X.env=pure true) aP1):
  PS X (.Assign [.Name y py] (.ListComp elt [⟨tg,iter,ifs,0⟩] scope pos) tO) (CK (Le ix wi g ti te) (dy i)):=by
 intro pins s U H D I h;rw[exec_Assign_Name_used _ _ _ _ Ua];refine wpAny_bind (wpAny_standAt (wpAny_bind ?_));show wpAny _ X.A (do let _<-comprehension (.ListComp elt [⟨tg,iter,ifs,0⟩] scope pos) scope X.env _ (newList []) false (eval iter X.env) (some (assign (.Name y py) X.env))) _ _ s;refine wpAny_bind (wpAny_mono (wpAny_comprehension_free (use:=some (assign (.Name y py) X.env)) (Q:=λ_ s'=>SP X pins D .next s') rfl hs (zI co I) co.kind co.names (ai (hit pins s U H _ I h) λxv aj h₁=>ai h₁ λqN ae bA=>?_)) (λ_ s' hq=>wpAny_pure (wpAny_pure hq)) λ_ _ e=>e);obtain⟨it,fp,tn,J,af,e,cX,T,st,hf,W,w0,hW⟩:=bA;subst e;refine Lf co hc hg hi he cX T st hf w0 hW (RR:=λacc C=>compPost (model X.prog X.w) X.A X.xe (some (assign (.Name y py) X.env)) (λ_ s'=>SP X pins D .next s') acc C) λDa C ys H' s' I' dn q G=>?_;show wpAny _ _ (assign (.Name y py) X.env (.ref Da)) _ _ s';refine wpAny_assign_Name (JP (v:=.ref Da) I' hN T9 (.inl hy) rfl (λbL Ub zQ=>?_) (.inr hy));obtain⟨a,sb,ha⟩:=zQ;have Uc:C≠a:=by
  rcases ha with z|z
  .rw[z];exact G.nl
  .exact Ne.symm (G.nc _ _ z)
 obtain⟨m,hn⟩:=G.ns;have lN:=hn.sameBut sb Uc;have G2:qY X pins (upd H' Da (.lst ys)) bL C:=⟨⟨m,lN⟩,G.fr,G.nl,G.ab,G.nc,G.np⟩;exact⟨m,lN,λh' iu=>⟨_,_,G2.go Ub iu,q Da dn⟩⟩
end
theorem iw {K:PySem.W.Frag}{a:Addr}{xs:List V}{g:TG}{ti:TT}{te:TE}{U0:St}{H0:Hp}{Q:VK}(Pv:Nat->List V->St->Hp->Prop)(h0:Pv 0 [] U0 H0)(hl:∀i ys U H,i<=xs.length->Pv i ys U H->ah K H a xs/\ys.length<=sizeLine)(hs:∀i x ys U H,xs[i]?=some x->Pv i ys U H->g x U H λU2 H2=>ti U2 H2 λb H3=>if b=true then te U2 H3 λy H4=>Pv (i+1) (ys++[y]) U2 H4 else Pv (i+1) ys U2 H3)(hd:∀ys U H,Pv xs.length ys U H->∀p,H p=none->Q (.ref p) (upd H p (.lst ys))):∃W:Nat->Nat->List V->St->Hp->Prop,(∃m,W 0 m [] U0 H0)/\∀i m ys U H,W i m ys U H->ys.length<=sizeLine/\(((mW K a).stop i H/\tL Q ys H)\/((mW K a).go i H/\∃N:List V->St->Hp->Prop,(∀cD U' H',N cD U' H'->∃m',m'<m/\W (i+1) m' cD U' H')/\∀x H',(mW K a).dO i H x H'->g x U H' λU2 H2=>ti U2 H2 λb H3=>if b=true then te U2 H3 λy H4=>N (ys++[y]) U2 H4 else N ys U2 H3)):=by
 refine⟨λi m ys U H=>m=xs.length-i/\i<=xs.length/\Pv i ys U H,⟨xs.length,by simp,zero_le _,h0⟩,?_⟩
 rintro i m ys U H ⟨rfl,hi,p⟩
 obtain⟨q,hz⟩:=hl i ys U H hi p;refine⟨hz,?_⟩;by_cases ax:i<xs.length
 .refine .inr ⟨⟨xs,xs[i],q,by simp[ax]⟩,Pv (i+1),λcD U' H' p'=>⟨xs.length-(i+1),by lia,rfl,ax,p'⟩,λx H' y=>?_⟩;obtain⟨e,y⟩:=y;subst e;exact hs i x ys U _ (y xs q) p
 .have e:i=xs.length:=by lia
  subst e;exact .inl ⟨⟨xs,q,le_refl _⟩,hd ys U H p⟩
theorem Lj {lo:Int}{n:Nat}{g:TG}{ti:TT}{te:TE}{U0:St}{H0:Hp}{Q:VK}(Pv:Nat->List V->St->Hp->Prop)(h0:Pv 0 [] U0 H0)(hl:∀i ys U H,i<=n->Pv i ys U H->ys.length<=sizeLine)(hs:∀i ys U H,i<n->Pv i ys U H->g (.int (lo+i)) U H λU2 H2=>ti U2 H2 λb H3=>if b=true then te U2 H3 λy H4=>Pv (i+1) (ys++[y]) U2 H4 else Pv (i+1) ys U2 H3)(hd:∀ys U H,Pv n ys U H->∀p,H p=none->Q (.ref p) (upd H p (.lst ys))):∃W:Nat->Nat->List V->St->Hp->Prop,(∃m,W 0 m [] U0 H0)/\∀i m ys U H,W i m ys U H->ys.length<=sizeLine/\(((kF lo n).stop i H/\tL Q ys H)\/((kF lo n).go i H/\∃N:List V->St->Hp->Prop,(∀cD U' H',N cD U' H'->∃m',m'<m/\W (i+1) m' cD U' H')/\∀x H',(kF lo n).dO i H x H'->g x U H' λU2 H2=>ti U2 H2 λb H3=>if b=true then te U2 H3 λy H4=>N (ys++[y]) U2 H4 else N ys U2 H3)):=by
 refine⟨λi m ys U H=>m=n-i/\i<=n/\Pv i ys U H,⟨n,by simp,zero_le _,h0⟩,?_⟩
 rintro i m ys U H ⟨rfl,hi,p⟩
 refine⟨hl i ys U H hi p,?_⟩;by_cases ax:i<n
 .refine .inr ⟨ax,Pv (i+1),λcD U' H' p'=>⟨n-(i+1),by lia,rfl,ax,p'⟩,λx H' y=>?_⟩;obtain⟨e,y⟩:=y;subst e y;exact hs i ys U _ ax p
 .have e:i=n:=by lia
  subst e;exact .inl ⟨le_refl _,hd ys U H p⟩
section
variable {X:Cx}
theorem ph:fM X (.builtin "isinstance") (λxs H Q=>∃x t T b,xs=[x,.ty T]/\gT X.K H x t/\PySem.W.kitOne X.K t (.type T)=some b/\Q (.bl b) H):=by intro pins s U H xs us Q I r h;obtain⟨x,t,T,b,rfl,ty,e,q⟩:=h;obtain⟨u,w,rfl,r1,r2⟩:=vals2 r;obtain rfl:w=Value.type T:=r2;exact Ko I r1 ty e λtk=>⟨.bl b,H,I.tok tk,rfl,q⟩
theorem Ud {A:Around}{s:Shared}{p:Addr}{its:List Value}(hh:A.handled=none)(hl:s.heap.IsList p its.toArray):∃(fp:List Addr),(∀b∈fp,b<s.heap.objs.size+1)/\Walks X.prog X.w A s.heap.objs.size fp [s.heap.objs.size] its.toArray.size (λi v=>its.toArray[i]?=some v) (λi h=>h.IsListIter s.heap.objs.size p i/\h.IsList p its.toArray)/\((s.heap.push {cls:=.type "list_iterator",data:=.fields #[.ref p,.int 0 0]}).IsListIter s.heap.objs.size p 0/\(s.heap.push {cls:=.type "list_iterator",data:=.fields #[.ref p,.int 0 0]}).IsList p its.toArray):=by
 have ax:p<s.heap.objs.size:=by obtain⟨_,e,_⟩:=hl;exact Heap.lt_size e
 refine⟨[s.heap.objs.size,p],λb hb=>?_,Walks.list (A:=A) hh _ p (ne_of_lt ax) its.toArray,⟨_,Heap.get?_push_size _ rfl,rfl,rfl⟩,hl.push _⟩;rcases mem_cons.mp hb with e|e
 .rw[e];exact lt_succ_self _
 .rw[mem_singleton.mp e];exact Nat.lt_succ_of_lt ax
theorem Ue {s:Shared}{h':Heap}{o:Obj}(hk:∀b x,b∉[s.heap.objs.size]->(s.heap.push o).get? b=some x->h'.get? b=some x):∀b x,s.heap.get? b=some x->h'.get? b=some x:=λb x e=>hk b x (λhm=>by rw[mem_singleton.mp hm]at e;exact lt_irrefl _ (Heap.lt_size e)) (Heap.get?_push_of_some _ e)
theorem zJ:∀{bs:List Bool}{us:List Value},Vals (bs.map V.bl) us->us=bs.map Value.bool
 |[],us,h=>by rw[map_nil]at h;cases h;rfl
 |b::bs,us,h=>by
  rw[map_cons]at h;cases h with
  |cons r1 r2=>cases r1;rw[zJ r2,map_cons]
theorem Ug {A:Around}(bs:List Bool)(d:Bool):∀(i:Nat)(v:Value)(s':Shared)(Q':Bool->Shared->Prop)(E':Value->Shared->Prop),(bs.map Value.bool).toArray[i]?=some v->Q' ((bs[i]?).getD d) s'->wpAny (model X.prog X.w) A (truthy v) Q' E' s':=λi v s' Q' E' hP hQ=>by
  have e:(bs.map Value.bool)[i]?=some v:=by simpa using hP
  rw[getElem?_map]at e;cases q:bs[i]? with
  |none=>rw[q]at e;cases e
  |some b=>rw[q]at e hQ;have e':Value.bool b=v:=Option.some.inj e;subst e';exact wpAny_truthy_bool hQ
theorem Lk (hc:X.calm=true):fM X (.builtin "all") (λxs H Q=>∃(p:Addr)(bs:List Bool),xs=[.ref p]/\ah X.K H p (bs.map V.bl)/\Q (.bl (bs.all id)) H):=by
 intro pins s U H xs us Q I r h;obtain⟨p,bs,rfl,hq,q⟩:=h;obtain⟨u,rfl,rx⟩:=vals1 r;cases rx;obtain⟨its,r',pl,hz⟩:=I.list hq;have ei:=zJ r';subst ei;obtain⟨fp,hfp,W,st⟩:=Ud (X:=X) (A:=X.A.in1) (s:=s) (I.ok.hd hc) pl.isList;refine call_all_walk (wpAny_pyIter_list pl.isList ⟨_,fp,_,_,_,_,λi=>(bs[i]?).getD true,rfl,W,st,Ug bs true,λh' tk hk=>?_⟩);have e:((List.range (bs.map Value.bool).toArray.size).all λi=>(bs[i]?).getD true)=bs.all id:=by rw[size_toArray,length_map];exact LSm.range_all bs
 rw[e];exact⟨.bl (bs.all id),H,I.kept (t':=tk) (Ue hk),rfl,q⟩
theorem Ll (hc:X.calm=true):fM X (.builtin "sum") (λxs H Q=>∃(p:Addr)(ns:List Int),xs=[.ref p]/\ah X.K H p (ns.map V.int)/\Q (.int ns.sum) H):=by
 intro pins s U H xs us Q I r h;obtain⟨p,ns,rfl,hq,q⟩:=h;obtain⟨u,rfl,rx⟩:=vals1 r;cases rx;obtain⟨its,r',pl,hz⟩:=I.list hq;have hi:=intsAre_of r';obtain⟨ms,hx⟩:=hi.allInts.items;have lY:s.heap.IsList p (intItems ms):=hx ▸ pl.isList;refine sum_intListG (I.ok.hd hc) lY λh' tk t' hk=>?_;have e1:ns=ms.toList.map (·.1):=by rw[<-nums_intItems,<-hx];exact(show numsOf its.toArray.toList=ns from hi.numsOf).symm
 have e2:preSum (numAt ms) ms.size=ns.sum:=by rw[preSum_eq,List.take_of_length_le (by simp),e1]
 rw[e2];exact⟨.int ns.sum,H,I.kept (t':=tk) hk,⟨t',rfl⟩,q⟩
end
inductive Dt where
 |aq|bl (b:Bool)|int (i:Int)|str (x:Str)|tup (ds:List Dt)|lst (ds:List Dt)
mutual
def zj (K:PySem.W.Frag) (H:Hp):Dt->V->Prop
 | .aq,v=>v= .aq
 | .bl b,v=>v= .bl b
 | .int i,v=>v= .int i
 | .str x,v=>v= .str x
 | .tup ds,v=>∃a xs,v= .ref a/\aA K H a xs/\yc K H ds xs
 | .lst ds,v=>∃a xs,v= .ref a/\ah K H a xs/\yc K H ds xs
def yc (K:PySem.W.Frag) (H:Hp):List Dt->List V->Prop
 |[],xs=>xs=[]
 |d::ds,xs=>∃x r,xs=x::r/\zj K H d x/\yc K H ds r
end
mutual
def bq:Dt->Dt->Bool
 | .aq,.aq=>true
 | .bl a,.bl b=>a==b
 | .bl a,.int b=>(if a then 1 else 0)==b
 | .int a,.bl b=>a==(if b then 1 else 0)
 | .int a,.int b=>a==b
 | .str a,.str b=>a==b
 | .tup as,.tup bs=>cY as bs
 | .lst as,.lst bs=>cY as bs
 |_,_=>false
def cY:List Dt->List Dt->Bool
 |[],[]=>true
 |a::as,b::bs=>bq a b&&cY as bs
 |_,_=>false
end
mutual
def bO:Dt->Nat
 | .tup ds=>dm ds+1
 | .lst ds=>dm ds+1
 |_=>0
def dm:List Dt->Nat
 |[]=>0
 |d::ds=>max (bO d) (dm ds)
end
def kN (ds es:List Dt)(j:Nat):Bool:=match ds[j]?,es[j]? with
 |some a,some b=>bq a b
 |_,_=>true
theorem tP:∀(ds es:List Dt),((List.range (min ds.length es.length)).all (kN ds es)&&(ds.length==es.length))=cY ds es
 |[],[]=>by simp[cY]
 |[],e::es=>by simp[cY]
 |d::ds,[]=>by simp[cY]
 |d::ds,e::es=>by
  have ih:=tP ds es;have e1:min (d::ds).length (e::es).length=min ds.length es.length+1:=by simp only[length_cons];lia
  have e2:((d::ds).length==(e::es).length)=(ds.length==es.length):=by simp
  have e3:(kN (d::ds) (e::es)∘Nat.succ)=kN ds es:=by funext j;simp[kN,Function.comp]
  have e4:kN (d::ds) (e::es) 0=bq d e:=by simp[kN]
  rw[e1,e2,List.range_succ_eq_map,List.all_cons,List.all_map,e3,e4,Bool.and_assoc,ih,cY]
theorem yc.length {K:PySem.W.Frag}{H:Hp}:∀{ds:List Dt}{xs:List V},yc K H ds xs->ds.length=xs.length
 |[],xs,h=>by rw[yc]at h;rw[h];rfl
 |d::ds,xs,h=>by rw[yc]at h;obtain⟨x,r,rfl,_,h2⟩:=h;rw[length_cons,length_cons,yc.length h2]
theorem yc.get {K:PySem.W.Frag}{H:Hp}:∀{ds:List Dt}{xs:List V}{j:Nat}{x:V},yc K H ds xs->xs[j]?=some x->∃d,ds[j]?=some d/\zj K H d x
 |[],xs,j,x,h,e=>by rw[yc]at h;subst h;simp at e
 | d::ds,xs,j,x,h,e=>by
  rw[yc]at h;obtain⟨y,r,rfl,h1,h2⟩:=h;cases j with
  |zero=>
   have e':y=x:=by simpa using e
   subst e';exact⟨d,by simp,h1⟩
  |succ j=>obtain⟨d',q1,q2⟩:=yc.get (j:=j) h2 (by simpa using e);exact⟨d',by simpa using q1,q2⟩
theorem Lm:∀{ds:List Dt}{j:Nat}{d:Dt},ds[j]?=some d->bO d<=dm ds
 |[],j,d,e=>by simp at e
 | c::ds,j,d,e=>by
  rw[dm];cases j with
  |zero=>
   have e':c=d:=by simpa using e
   subst e';exact Nat.le_max_left _ _
  |succ j=>exact le_trans (Lm (j:=j) (by simpa using e)) (Nat.le_max_right _ _)
section
variable {X:Cx}{pins:List (Addr×Obj)}{U:St}{H:Hp}{s:Shared}
theorem Lo (I:Inv X pins U H s){a:Addr}{xs ys:List V}(h:ah X.K H a xs)(h':aA X.K H a ys):False:=by obtain⟨_,_,p,_⟩:=I.list h;obtain⟨_,_,q,_⟩:=I.tuple h';obtain⟨o,e,c,_⟩:=p.isList;obtain⟨o',e',c',_⟩:=q;rw[e]at e';cases e';rw[c]at c';exact absurd c' (by decide)
mutual
theorem Dp (I:Inv X pins U H s):∀(d e:Dt)(x:V),zj X.K H d x->zj X.K H e x->bq d e=true
 | .aq,e,x,h,k=>by rw[zj]at h;subst h;cases e<;>rw[zj]at k<;>first|(obtain⟨_,_,z,_⟩:=k;cases z)|rfl|cases k
 | .bl b,e,x,h,k=>by rw[zj]at h;subst h;cases e<;>rw[zj]at k<;>first|(obtain⟨_,_,z,_⟩:=k;cases z)|(cases k;simp[bq];done)|cases k
 | .int b,e,x,h,k=>by rw[zj]at h;subst h;cases e<;>rw[zj]at k<;>first|(obtain⟨_,_,z,_⟩:=k;cases z)|(cases k;simp[bq];done)|cases k
 | .str b,e,x,h,k=>by rw[zj]at h;subst h;cases e<;>rw[zj]at k<;>first|(obtain⟨_,_,z,_⟩:=k;cases z)|(cases k;simp[bq];done)|cases k
 | .tup ds,e,x,h,k=>by
  rw[zj]at h;obtain⟨a,xs,rfl,h1,h2⟩:=h;cases e with
  |tup es=>rw[zj]at k;obtain⟨b,ys,z,k1,k2⟩:=k;cases z;have e:=I.CG k1 h1;subst e;rw[bq];exact Dq I ds es _ h2 k2
  |lst es=>rw[zj]at k;obtain⟨b,ys,z,k1,k2⟩:=k;cases z;exact(Lo I k1 h1).elim
  |aq=>rw[zj]at k;cases k
  |bl b=>rw[zj]at k;cases k
  |int b=>rw[zj]at k;cases k
  |str b=>rw[zj]at k;cases k
 | .lst ds,e,x,h,k=>by
  rw[zj]at h;obtain⟨a,xs,rfl,h1,h2⟩:=h;cases e with
  |lst es=>rw[zj]at k;obtain⟨b,ys,z,k1,k2⟩:=k;cases z;have e:=I.JU k1 h1;subst e;rw[bq];exact Dq I ds es _ h2 k2
  |tup es=>rw[zj]at k;obtain⟨b,ys,z,k1,k2⟩:=k;cases z;exact(Lo I h1 k1).elim
  |aq=>rw[zj]at k;cases k
  |bl b=>rw[zj]at k;cases k
  |int b=>rw[zj]at k;cases k
  |str b=>rw[zj]at k;cases k
theorem Dq (I:Inv X pins U H s):∀(ds es:List Dt)(xs:List V),yc X.K H ds xs->yc X.K H es xs->cY ds es=true
 |[],es,xs,h,k=>by
  rw[yc]at h;subst h;cases es with
  |nil=>rw[cY]
  |cons e es=>rw[yc]at k;obtain⟨_,_,z,_⟩:=k;cases z
 |d::ds,es,xs,h,k=>by
  rw[yc]at h;obtain⟨x,r,rfl,h1,h2⟩:=h;cases es with
  |nil=>rw[yc]at k;cases k
  |cons e es=>rw[yc]at k;obtain⟨y,r',z,k1,k2⟩:=k;cases z;rw[cY,Dp I d e _ h1 k1,Dq I ds es _ h2 k2];rfl
end
theorem items_eqAt {A:Around}{ds es:List Dt}{xs ys:List V}{is js:List Value}(hd:yc X.K H ds xs)(he:yc X.K H es ys)(vi:Vals xs is)(vj:Vals ys js)(rec:∀d e x y u v,d∈ds->bO d<=dm ds->zj X.K H d x->zj X.K H e y->RelV x u->RelV y v->SeqAt.EqAt A s u v (bq d e)):∀j (h1:j<is.toArray.size)(h2:j<js.toArray.size),SeqAt.EqAt A s is.toArray[j] js.toArray[j] (kN ds es j):=λj h1 h2=>by
 have nE:j<is.length:=by simpa using h1
 have nF:j<js.length:=by simpa using h2
 have lx:j<xs.length:=by rw[vi.length];exact nE
 have ly:j<ys.length:=by rw[vj.length];exact nF
 obtain⟨u,eu,ru⟩:=vi.get (i:=j) (x:=xs[j]) (by simp[lx]);obtain⟨v,ev,rv⟩:=vj.get (i:=j) (x:=ys[j]) (by simp[ly]);obtain⟨d,ed,kd⟩:=hd.get (j:=j) (x:=xs[j]) (by simp[lx]);obtain⟨e,ee,ke⟩:=he.get (j:=j) (x:=ys[j]) (by simp[ly]);have e1:is.toArray[j]=u:=by rw[getElem?_eq_getElem nE]at eu;simpa using eu
 have e2:js.toArray[j]=v:=by rw[getElem?_eq_getElem nF]at ev;simpa using ev
 have e3:kN ds es j=bq d e:=by simp[kN,ed,ee]
 rw[e1,e2,e3];exact rec d e _ _ u v (mem_of_getElem? ed) (Lm ed) kd ke ru rv
theorem zK {ds es:List Dt}{xs ys:List V}{is js:List Value}(hd:yc X.K H ds xs)(he:yc X.K H es ys)(vi:Vals xs is)(vj:Vals ys js):ds.length=is.toArray.size/\es.length=js.toArray.size:=by rw[hd.length,he.length,vi.length,vj.length];simp
theorem Lp {ds es:List Dt}(h:ds.length=es.length):(List.range ds.length).all (kN ds es)=cY ds es:=by have q:=tP ds es;rw[<-h,Nat.min_self,beq_self_eq_true,Bool.and_true]at q;exact q
theorem Lq {ds es:List Dt}(h:ds.length≠es.length):cY ds es=false:=by have q:=tP ds es;rw[show(ds.length==es.length)=false from by simpa using h,Bool.and_false]at q;exact q.symm
theorem zL (I:Inv X pins U H s):∀(n:Nat)(d e:Dt)(x y:V)(u v:Value)(A:Around),bO d<=n->A.units+n<cLine->zj X.K H d x->zj X.K H e y->RelV x u->RelV y v->SeqAt.EqAt A s u v (bq d e):=by
 intro n;induction n with
 | zero=>
  intro d e x y u v A hn hu hd he ru rv;have aS:A.units<cLine:=by lia
  cases d with
  |tup ds=>rw[bO]at hn;lia
  |lst ds=>rw[bO]at hn;lia
  |aq=>
   rw[zj]at hd;subst hd;cases ru;cases e<;>rw[zj]at he;case aq=>subst he;cases rv;exact SeqAt.EqAt.same _
   case bl b=>subst he;cases rv;exact SeqAt.EqAt.none_bool b
   case int b=>subst he;obtain⟨t,rfl⟩:=rv;exact SeqAt.EqAt.none_int b t
   case str b=>subst he;obtain⟨t,rfl⟩:=rv;exact SeqAt.EqAt.none_str b t
   case tup es=>obtain⟨b,ys,rfl,k1,k2⟩:=he;cases rv;obtain⟨js,vj,pj,_⟩:=I.tuple k1;exact SeqAt.EqAt.none_tuple pj aS
   case lst es=>obtain⟨b,ys,rfl,k1,k2⟩:=he;cases rv;obtain⟨js,vj,pj,_⟩:=I.list k1;exact SeqAt.EqAt.none_list pj.isList aS
  |bl a=>
   rw[zj]at hd;subst hd;cases ru;cases e<;>rw[zj]at he;case aq=>subst he;cases rv;exact SeqAt.EqAt.bool_none a
   case bl b=>subst he;cases rv;exact SeqAt.EqAt.bool_bool a b
   case int b=>subst he;obtain⟨t,rfl⟩:=rv;exact SeqAt.EqAt.bool_int a b t
   case str b=>subst he;obtain⟨t,rfl⟩:=rv;exact SeqAt.EqAt.bool_str a b t
   case tup es=>obtain⟨b,ys,rfl,k1,k2⟩:=he;cases rv;obtain⟨js,vj,pj,_⟩:=I.tuple k1;exact SeqAt.EqAt.bool_tuple a pj aS
   case lst es=>obtain⟨b,ys,rfl,k1,k2⟩:=he;cases rv;obtain⟨js,vj,pj,_⟩:=I.list k1;exact SeqAt.EqAt.bool_list a pj.isList aS
  |int a=>
   rw[zj]at hd;subst hd;obtain⟨t0,rfl⟩:=ru;cases e<;>rw[zj]at he;case aq=>subst he;cases rv;exact SeqAt.EqAt.int_none a t0
   case bl b=>subst he;cases rv;exact SeqAt.EqAt.int_bool a t0 b
   case int b=>subst he;obtain⟨t,rfl⟩:=rv;exact SeqAt.EqAt.int_int a t0 b t
   case str b=>subst he;obtain⟨t,rfl⟩:=rv;exact SeqAt.EqAt.int_str a t0 b t
   case tup es=>obtain⟨b,ys,rfl,k1,k2⟩:=he;cases rv;obtain⟨js,vj,pj,_⟩:=I.tuple k1;exact SeqAt.EqAt.int_tuple a t0 pj aS
   case lst es=>obtain⟨b,ys,rfl,k1,k2⟩:=he;cases rv;obtain⟨js,vj,pj,_⟩:=I.list k1;exact SeqAt.EqAt.int_list a t0 pj.isList aS
  |str a=>
   rw[zj]at hd;subst hd;obtain⟨t0,rfl⟩:=ru;cases e<;>rw[zj]at he;case aq=>subst he;cases rv;exact SeqAt.EqAt.str_none a t0
   case bl b=>subst he;cases rv;exact SeqAt.EqAt.str_bool a t0 b
   case int b=>subst he;obtain⟨t,rfl⟩:=rv;exact SeqAt.EqAt.str_int a t0 b t
   case str b=>subst he;obtain⟨t,rfl⟩:=rv;exact SeqAt.EqAt.str_str a t0 b t
   case tup es=>obtain⟨b,ys,rfl,k1,k2⟩:=he;cases rv;obtain⟨js,vj,pj,_⟩:=I.tuple k1;exact SeqAt.EqAt.str_tuple a t0 pj aS
   case lst es=>obtain⟨b,ys,rfl,k1,k2⟩:=he;cases rv;obtain⟨js,vj,pj,_⟩:=I.list k1;exact SeqAt.EqAt.str_list a t0 pj.isList aS
 | succ n ih=>
  intro d e x y u v A hn hu hd he ru rv;have aS:A.units<cLine:=by lia
  have rj:A.in1.units+n<cLine:=by rw[units_in1];lia
  cases d with
  | tup ds=>
   rw[bO]at hn;have rl:=hd;rw[zj]at hd;obtain⟨a,xs,rfl,k1,k2⟩:=hd;cases ru;obtain⟨is,vi,pi,_⟩:=I.tuple k1;cases e with
   |tup es=>
    have Dr:=he;rw[zj]at he;obtain⟨b,ys,rfl,l1,l2⟩:=he;cases rv;obtain⟨js,vj,pj,_⟩:=I.tuple l1;by_cases fR:a=b
    .subst fR;rw[Dp I _ _ _ rl Dr];exact SeqAt.EqAt.same _
    .have q:=SeqAt.RcAt.tuples (A:=A) pi pj aS (items_eqAt k2 l2 vi vj λd e x y u v _ bU=>ih d e x y u v A.in1 (by lia) rj);obtain⟨z1,z2⟩:=zK k2 l2 vi vj;rw[<-z1,<-z2,tP]at q;rw[bq];exact SeqAt.EqAt.of_refs fR q
   |lst es=>rw[zj]at he;obtain⟨b,ys,rfl,l1,l2⟩:=he;cases rv;obtain⟨js,vj,pj,_⟩:=I.list l1;exact SeqAt.EqAt.tuple_list pi pj.isList aS
   |aq=>rw[zj]at he;subst he;cases rv;exact SeqAt.EqAt.tuple_none pi aS
   |bl b=>rw[zj]at he;subst he;cases rv;exact SeqAt.EqAt.tuple_bool b pi aS
   |int b=>rw[zj]at he;subst he;obtain⟨t,rfl⟩:=rv;exact SeqAt.EqAt.tuple_int b t pi aS
   |str b=>rw[zj]at he;subst he;obtain⟨t,rfl⟩:=rv;exact SeqAt.EqAt.tuple_str b t pi aS
  | lst ds=>
   rw[bO]at hn;have rl:=hd;rw[zj]at hd;obtain⟨a,xs,rfl,k1,k2⟩:=hd;cases ru;obtain⟨is,vi,pi,_⟩:=I.list k1;cases e with
   | lst es=>
    have Dr:=he;rw[zj]at he;obtain⟨b,ys,rfl,l1,l2⟩:=he;cases rv;obtain⟨js,vj,pj,_⟩:=I.list l1;obtain⟨z1,z2⟩:=zK k2 l2 vi vj;by_cases fR:a=b
    .subst fR;rw[Dp I _ _ _ rl Dr];exact SeqAt.EqAt.same _
    .rw[bq];by_cases hsz:ds.length=es.length
     .have q:=SeqAt.RcAt.lists (A:=A) pi.isList pj.isList (by lia) aS (items_eqAt k2 l2 vi vj λd e x y u v _ bU=>ih d e x y u v A.in1 (by lia) rj);rw[<-z1,Lp hsz]at q;exact SeqAt.EqAt.of_refs fR q
     .rw[Lq hsz];exact SeqAt.EqAt.of_refs fR (SeqAt.RcAt.lists_lengths pi.isList pj.isList (by rw[<-z1,<-z2];simpa using hsz) aS)
   |tup es=>rw[zj]at he;obtain⟨b,ys,rfl,l1,l2⟩:=he;cases rv;obtain⟨js,vj,pj,_⟩:=I.tuple l1;exact SeqAt.EqAt.list_tuple pi.isList pj aS
   |aq=>rw[zj]at he;subst he;cases rv;exact SeqAt.EqAt.list_none pi.isList aS
   |bl b=>rw[zj]at he;subst he;cases rv;exact SeqAt.EqAt.list_bool b pi.isList aS
   |int b=>rw[zj]at he;subst he;obtain⟨t,rfl⟩:=rv;exact SeqAt.EqAt.list_int b t pi.isList aS
   |str b=>rw[zj]at he;subst he;obtain⟨t,rfl⟩:=rv;exact SeqAt.EqAt.list_str b t pi.isList aS
  |aq=>exact ih _ _ _ _ _ _ _ (zero_le n) (by lia) hd he ru rv
  |bl b=>exact ih _ _ _ _ _ _ _ (zero_le n) (by lia) hd he ru rv
  |int b=>exact ih _ _ _ _ _ _ _ (zero_le n) (by lia) hd he ru rv
  |str b=>exact ih _ _ _ _ _ _ _ (zero_le n) (by lia) hd he ru rv
theorem Uh (I:Inv X pins U H s){n:Nat}{d e:Dt}{x y:V}{u v:Value}{A:Around}(hn:bO d<=n)(hu:A.units+n<cLine)(hd:zj X.K H d x)(he:zj X.K H e y)(ru:RelV x u)(rv:RelV y v):SeqAt.RcNeAt A s u v (!(bq d e)):=by
 have aS:A.units<cLine:=by lia
 cases d with
 |aq=>
  rw[zj]at hd;subst hd;cases ru;cases e<;>rw[zj]at he;case aq=>subst he;cases rv;exact SeqAt.RcNeAt.none_none
  case bl b=>subst he;cases rv;exact SeqAt.RcNeAt.none_bool b
  case int b=>subst he;obtain⟨t,rfl⟩:=rv;exact SeqAt.RcNeAt.none_int b t
  case str b=>subst he;obtain⟨t,rfl⟩:=rv;exact SeqAt.RcNeAt.none_str b t
  case tup es=>obtain⟨b,ys,rfl,k1,k2⟩:=he;cases rv;obtain⟨js,vj,pj,_⟩:=I.tuple k1;exact SeqAt.RcNeAt.none_tuple pj aS
  case lst es=>obtain⟨b,ys,rfl,k1,k2⟩:=he;cases rv;obtain⟨js,vj,pj,_⟩:=I.list k1;exact SeqAt.RcNeAt.none_list pj.isList aS
 |bl a=>
  rw[zj]at hd;subst hd;cases ru;cases e<;>rw[zj]at he;case aq=>subst he;cases rv;exact SeqAt.RcNeAt.bool_none a
  case bl b=>subst he;cases rv;exact SeqAt.RcNeAt.bool_bool a b
  case int b=>subst he;obtain⟨t,rfl⟩:=rv;exact SeqAt.RcNeAt.bool_int a b t
  case str b=>subst he;obtain⟨t,rfl⟩:=rv;exact SeqAt.RcNeAt.bool_str a b t
  case tup es=>obtain⟨b,ys,rfl,k1,k2⟩:=he;cases rv;obtain⟨js,vj,pj,_⟩:=I.tuple k1;exact SeqAt.RcNeAt.bool_tuple a pj aS
  case lst es=>obtain⟨b,ys,rfl,k1,k2⟩:=he;cases rv;obtain⟨js,vj,pj,_⟩:=I.list k1;exact SeqAt.RcNeAt.bool_list a pj.isList aS
 |int a=>
  rw[zj]at hd;subst hd;obtain⟨t0,rfl⟩:=ru;cases e<;>rw[zj]at he;case aq=>subst he;cases rv;exact SeqAt.RcNeAt.int_none a t0
  case bl b=>subst he;cases rv;exact SeqAt.RcNeAt.int_bool a t0 b
  case int b=>subst he;obtain⟨t,rfl⟩:=rv;exact SeqAt.RcNeAt.int_int a t0 b t
  case str b=>subst he;obtain⟨t,rfl⟩:=rv;exact SeqAt.RcNeAt.int_str a t0 b t
  case tup es=>obtain⟨b,ys,rfl,k1,k2⟩:=he;cases rv;obtain⟨js,vj,pj,_⟩:=I.tuple k1;exact SeqAt.RcNeAt.int_tuple a t0 pj aS
  case lst es=>obtain⟨b,ys,rfl,k1,k2⟩:=he;cases rv;obtain⟨js,vj,pj,_⟩:=I.list k1;exact SeqAt.RcNeAt.int_list a t0 pj.isList aS
 |str a=>
  rw[zj]at hd;subst hd;obtain⟨t0,rfl⟩:=ru;cases e<;>rw[zj]at he;case aq=>subst he;cases rv;exact SeqAt.RcNeAt.str_none a t0
  case bl b=>subst he;cases rv;exact SeqAt.RcNeAt.str_bool a t0 b
  case int b=>subst he;obtain⟨t,rfl⟩:=rv;exact SeqAt.RcNeAt.str_int a t0 b t
  case str b=>subst he;obtain⟨t,rfl⟩:=rv;exact SeqAt.RcNeAt.str_str a t0 b t
  case tup es=>obtain⟨b,ys,rfl,k1,k2⟩:=he;cases rv;obtain⟨js,vj,pj,_⟩:=I.tuple k1;exact SeqAt.RcNeAt.str_tuple a t0 pj aS
  case lst es=>obtain⟨b,ys,rfl,k1,k2⟩:=he;cases rv;obtain⟨js,vj,pj,_⟩:=I.list k1;exact SeqAt.RcNeAt.str_list a t0 pj.isList aS
 |tup ds=>
  rw[bO]at hn;have rj:A.in1.units+(n-1)<cLine:=by rw[units_in1];lia
  rw[zj]at hd;obtain⟨a,xs,rfl,k1,k2⟩:=hd;cases ru;obtain⟨is,vi,pi,_⟩:=I.tuple k1;cases e with
  |tup es=>rw[zj]at he;obtain⟨b,ys,rfl,l1,l2⟩:=he;cases rv;obtain⟨js,vj,pj,_⟩:=I.tuple l1;have q:=SeqAt.RcNeAt.tuples (A:=A) pi pj aS (items_eqAt k2 l2 vi vj λd e x y u v _ bU=>zL I (n-1) d e x y u v A.in1 (by lia) rj);obtain⟨z1,z2⟩:=zK k2 l2 vi vj;rw[<-z1,<-z2,tP]at q;rw[bq];exact q
  |lst es=>rw[zj]at he;obtain⟨b,ys,rfl,l1,l2⟩:=he;cases rv;obtain⟨js,vj,pj,_⟩:=I.list l1;exact SeqAt.RcNeAt.tuple_list pi pj.isList aS
  |aq=>rw[zj]at he;subst he;cases rv;exact SeqAt.RcNeAt.tuple_none pi aS
  |bl b=>rw[zj]at he;subst he;cases rv;exact SeqAt.RcNeAt.tuple_bool b pi aS
  |int b=>rw[zj]at he;subst he;obtain⟨t,rfl⟩:=rv;exact SeqAt.RcNeAt.tuple_int b t pi aS
  |str b=>rw[zj]at he;subst he;obtain⟨t,rfl⟩:=rv;exact SeqAt.RcNeAt.tuple_str b t pi aS
 | lst ds=>
  rw[bO]at hn;have rj:A.in1.units+(n-1)<cLine:=by rw[units_in1];lia
  rw[zj]at hd;obtain⟨a,xs,rfl,k1,k2⟩:=hd;cases ru;obtain⟨is,vi,pi,_⟩:=I.list k1;cases e with
  |lst es=>
   rw[zj]at he;obtain⟨b,ys,rfl,l1,l2⟩:=he;cases rv;obtain⟨js,vj,pj,_⟩:=I.list l1;obtain⟨z1,z2⟩:=zK k2 l2 vi vj;rw[bq];by_cases hsz:ds.length=es.length
   .have q:=SeqAt.RcNeAt.lists (A:=A) pi.isList pj.isList (by lia) aS (items_eqAt k2 l2 vi vj λd e x y u v _ bU=>zL I (n-1) d e x y u v A.in1 (by lia) rj);rw[<-z1,Lp hsz]at q;exact q
   .rw[Lq hsz];exact SeqAt.RcNeAt.lists_lengths pi.isList pj.isList (by rw[<-z1,<-z2];simpa using hsz) aS
  |tup es=>rw[zj]at he;obtain⟨b,ys,rfl,l1,l2⟩:=he;cases rv;obtain⟨js,vj,pj,_⟩:=I.tuple l1;exact SeqAt.RcNeAt.list_tuple pi.isList pj aS
  |aq=>rw[zj]at he;subst he;cases rv;exact SeqAt.RcNeAt.list_none pi.isList aS
  |bl b=>rw[zj]at he;subst he;cases rv;exact SeqAt.RcNeAt.list_bool b pi.isList aS
  |int b=>rw[zj]at he;subst he;obtain⟨t,rfl⟩:=rv;exact SeqAt.RcNeAt.list_int b t pi.isList aS
  |str b=>rw[zj]at he;subst he;obtain⟨t,rfl⟩:=rv;exact SeqAt.RcNeAt.list_str b t pi.isList aS
end
def Ui (K:PySem.W.Frag):R2:=λx y H Q=>∃d e,zj K H d x/\zj K H e y/\bO d<=60/\Q (.bl (!bq d e)) H
section
variable {X:Cx}
theorem i4 (hu:X.A.units+64<cLine):bK X (compareOp .NotEq) (Ui X.K):=by intro pins s U H x y v u Q I rx ry h;obtain⟨d,e,hd,he,hn,q⟩:=h;exact Uh I hn (by lia) hd he rx ry _ _ _ _ ⟨.bl _,H,I,rfl,q⟩
end
theorem Du (K:PySem.W.Frag)(H:Hp):∀ns:List Int,yc K H (ns.map Dt.int) (ns.map V.int)
 |[]=>by rw[map_nil,map_nil,yc]
 |n::ns=>by rw[map_cons,map_cons,yc];exact⟨_,_,rfl,by rw[zj],Du K H ns⟩
theorem oU {K:PySem.W.Frag}{H:Hp}{a:Addr}{ns:List Int}(h:ah K H a (ns.map V.int)):zj K H (.lst (ns.map Dt.int)) (.ref a):=by rw[zj];exact⟨a,_,rfl,h,Du K H ns⟩
theorem Dv {K:PySem.W.Frag}{H:Hp}{a:Addr}{ns:List Int}(h:aA K H a (ns.map V.int)):zj K H (.tup (ns.map Dt.int)) (.ref a):=by rw[zj];exact⟨a,_,rfl,h,Du K H ns⟩
theorem Dw:∀ns:List Int,dm (ns.map Dt.int)=0
 |[]=>by rw[map_nil,dm]
 |n::ns=>by show max (bO (Dt.int n)) (dm (ns.map Dt.int))=0;rw[Dw ns];rfl
theorem Dx:∀ms ns:List Int,cY (ms.map Dt.int) (ns.map Dt.int)=decide (ms=ns)
 |[],[]=>by simp[cY]
 |[],n::ns=>by simp[cY]
 |m::ms,[]=>by simp[cY]
 |m::ms,n::ns=>by
  rw[map_cons,map_cons,cY,Dx ms ns,bq];by_cases h:m=n
  .subst h;simp
  .simp[h]
theorem Lr (ms ns:List Int):bq (.lst (ms.map Dt.int)) (.lst (ns.map Dt.int))=decide (ms=ns):=by rw[bq,Dx]
theorem Lu (ms ns:List Int):bq (.tup (ms.map Dt.int)) (.tup (ns.map Dt.int))=decide (ms=ns):=by rw[bq,Dx]
theorem tQ (ns:List Int):bO (.lst (ns.map Dt.int))<=60:=by rw[bO,Dw];decide
theorem Lv (ns:List Int):bO (.tup (ns.map Dt.int))<=60:=by rw[bO,Dw];decide
section
variable {X:Cx}
def Uj (K:PySem.W.Frag):R2:=λx y H Q=>∃p xs i v,x= .ref p/\y= .int i/\ah K H p xs/\0<=i/\xs[i.toNat]?=some v/\Q v H
theorem Dy:JZ X (Uj X.K):=by intro pins s U H o i ov iv Q I ro ri h;obtain⟨p,xs,k,z,rfl,rfl,hq,h0,he,q⟩:=h;cases ro;obtain⟨t,rfl⟩:=ri;obtain⟨its,r,pl,hz⟩:=I.list hq;obtain⟨w,ew,cK⟩:=r.get he;have hl:=r.length;have hn:=oM;have hk:k.toNat<its.length:=(List.getElem?_eq_some_iff.mp ew).1;exact wpAny_getItem_list pl.isList h0 (by lia) (by simpa using ew) ⟨z,H,I,cK,q⟩
end
def iy {α:Type}:List α->List α->List α
 |[u0],[w0]=>[u0,w0]
 |_,_=>[]
theorem Uk {vs:List V}{us:List Value}{zs:List V}{ws:List Value}(r1:Vals vs us)(r2:Vals zs ws):Vals (iy vs zs) (iy us ws):=by
 cases r1 with
 |nil=>exact .nil
 | cons a ra=>
  cases ra with
  | nil=>
   cases r2 with
   |nil=>exact .nil
   |cons b rb=>
    cases rb with
    |nil=>exact .cons a (.cons b .nil)
    |cons _ _=>exact .nil
  |cons _ _=>exact .nil
theorem Ul {K:PySem.W.Frag}{fd:FuncData}{p k:Str}{kd:Addr}{v:Value}(e:PySem.W.nsIn K kd k=some (some v))(hp:fd.params.posonlyargs=[])(ha:fd.params.args.map (·.arg)=[p])(hv:fd.params.vararg=none)(hk:fd.params.kwonlyargs.map (·.arg)=[k])(sV:fd.params.kwarg=none)(hd:fd.defaults= .none)(tR:fd.kwdefaults= .ref kd)(Lw:(k==p)=false):Binds K fd [p,k] [v]:=by
 intro s us KX hl;obtain⟨u,rfl⟩:∃u,us=[u]:=by match us,hl with
  |[u],_=>exact⟨u,rfl⟩
  |_::_::_,hl=>simp at hl
 intro Mo A E Q hq;have L:=PySem.W.looks_nsIn (M:=Mo) KX e;unfold bindArgs;have hz:seqItems? Value.none=pure none:=rfl;simp only[hp,ha,hv,hk,sV,hd,tR,hz,map_nil,List.nil_append,length_cons,List.length_nil,List.zip_cons_cons,List.zip_nil_right,pure_bind,Option.getD_none,List.forIn_nil];simp[lookup_cons,Lw];refine wpAny_bind (L A _ E s (λ_ _ h=>h) ?_);simp[lookup_cons,Lw];exact wpAny_pure hq
theorem vc.there {P:Program}{w:World}{H:Hp}{h:Heap}{a:Addr}{o:HO}(x:vc P w H h a o):∃ob,h.get? a=some ob:=by
 cases o with
 |lst xs=>obtain⟨_,_,_,_,e⟩:=x;exact⟨_,e⟩
 |tup xs=>obtain⟨_,_,_,p⟩:=x;obtain⟨o,e,_⟩:=p;exact⟨_,e⟩
 |dK aa=>obtain⟨_,_,_,_,o,_,_,e,_⟩:=x;exact⟨_,e⟩
 |dT aa=>obtain⟨_,_,_,_,o,_,_,e,_⟩:=x;exact⟨_,e⟩
 |set S n=>obtain⟨o,_,_,_,e,_⟩:=x;exact⟨_,e⟩
 |ins C dx fs=>obtain⟨_,_,_,e,_⟩:=x;exact⟨_,e⟩
 |own y=>obtain⟨_,e⟩:=x;exact⟨_,e⟩
 |xd fs=>obtain⟨_,⟨_,_,_,e,_⟩,_⟩:=x;exact⟨_,e⟩
 |lA lo hi=>obtain⟨_,_,_,e⟩:=x;exact⟨_,e⟩
 |az ob u=>obtain⟨e,_⟩:=x;exact⟨_,e⟩
 |mM ps=>exact⟨_,(show h.get? a=some _ from x)⟩
 |met f y=>exact⟨_,(show h.get? a=some _ from x)⟩
 |ext φ=>obtain⟨_,⟨_,e⟩,_⟩:=x;exact⟨_,e⟩
structure rm (P:Program)(w:World)(l:List Env)(H H':Hp)(s s':Shared)(ea:Addr)(cls:Value):Prop where
 os:s'.os=s.os
 bare:AllBare s'.gens
 un:Un (bo l) [] H H' s.heap s'.heap
 ag:bJ P w H' s'.heap
 Lx:∃(Bq:Heap)(t:Addr),Heap.FlyingW Bq l ea cls (.ref t) s'.heap/\(∀b o o',s.heap.get? b=some o->s'.heap.get? b=some o'->b∉bo l->Bq.get? b=some o')/\(∀b u o',H' b=some u->s'.heap.get? b=some o'->Bq.get? b=some o')
 new:s.heap.get? ea=none
section
variable {X:Cx}{pins:List (Addr×Obj)}{U:St}{H H':Hp}{s s':Shared}{ea:Addr}{cls:Value}
theorem Inv.kO (I:Inv X pins U H s){b:Addr}{o:Obj}(e:X.av.heap.get? b=some o)(hb:b∉X.fs):b∉bo X.stack:=λz=>by
 rcases mem_cons.mp (I.mO b z)with q|q
 .have h1:@LT.lt Nat _ b X.av.heap.objs.size:=Heap.lt_size e;have h2:@LE.le Nat _ X.av.heap.objs.size X.env.locals:=I.ok.above;have h3:@Eq Nat b X.env.locals:=q;lia
 .exact hb q
theorem Inv.Um (I:Inv X pins U H s){b:Addr}(hb:b∈X.fs):b∈bo X.stack:=by
 rcases I.ok.dv with e|⟨e,hf⟩
 .rw[e];exact hb
 .rw[e];unfold bo;rw[filterMap_cons,hf];exact mem_cons_of_mem _ hb
theorem Uo (I:Inv X pins U H s)(hex:X.ex=[])(F:rm X.prog X.w X.stack H H' s s' ea cls){h':Heap}{Bq:Heap}{t:Addr}(hf:Heap.FlyingW Bq X.outer ea cls (.ref t) h')(hu:s'.heap.UpToSlots h')(k1:∀b o o',s.heap.get? b=some o->s'.heap.get? b=some o'->b∉bo X.stack->Bq.get? b=some o')(k2:∀b u o',H' b=some u->s'.heap.get? b=some o'->Bq.get? b=some o'):
  rm X.prog X.w X.outer X.bC H' X.av {s' with heap:=h'} ea cls:=by
 have base:=I.base;rw[hex]at base;have cE:∀b:Addr,b∉([]:List Addr):=λb=>by simp
 have lift:∀b o,X.av.heap.get? b=some o->b∉X.fs->∃o1 o2,s.heap.get? b=some o1/\s'.heap.get? b=some o2/\h'.get? b=some o2:=λb o e hb=>by obtain⟨o1,e1⟩:=base.there b o e (cE b);obtain⟨o2,e2⟩:=F.un.there b o1 e1 (cE b);exact⟨o1,o2,e1,e2,hf.1 _ _ (k1 b o1 o2 e1 e2 (I.kO e hb))⟩
 have slots:∀b o,X.av.heap.get? b=some o->X.bC b=none->b∈X.fs->∃sl,h'.get? b=some {o with slots:=sl}:=λb o e n hb=>by obtain⟨sl,e1⟩:=base.slot b o e n hb (cE b);obtain⟨Up,e2⟩:=F.un.slot b _ e1 (base.free b o e n (cE b)) (I.Um hb) (cE b);obtain⟨_,o3,e3,nf⟩:=I.ok.fu.mem hb;rw[e]at e3;cases e3;obtain⟨tS,e4⟩:=hu b _ e2 nf;exact⟨tS,e4⟩
 refine⟨F.os.trans I.os,F.bare,⟨λb o e n hb _=>?_,λb o e n hb _=>slots b o e n hb,λb o e n _=>?_,λb o e _=>?_,λb xs q=>F.un.eG b xs (base.eG b xs q),λb o xs q=>F.un.dU b o xs (base.dU b o xs q),λb ps q=>?_⟩,λb u e=>?_,⟨Bq,t,hf,λb o o' e e' hb=>?_,λb u o' q e'=>?_⟩,?_⟩
 .have e1:=base.keep b o e n hb (cE b);have e2:=F.un.keep b o e1 (base.free b o e n (cE b)) (I.kO e hb) (cE b);exact hf.1 _ _ (k1 b o o e1 e2 (I.kO e hb))
 .obtain⟨o1,e1⟩:=base.there b o e (cE b);exact F.un.free b o1 e1 (base.free b o e n (cE b)) (cE b)
 .by_cases hb:b∈X.fs
  .obtain⟨sl,q⟩:=slots b o e (I.ok.iO b hb) hb;exact⟨_,q⟩
  .obtain⟨_,o2,_,_,q⟩:=lift b o e hb;exact⟨o2,q⟩
 .obtain⟨m1,e1⟩:=base.eQ b ps q;obtain⟨m2,e2⟩:=F.un.eQ b _ e1;exact⟨m1++m2,by rw[e2,Array.append_assoc]⟩
 .refine(F.ag b u e).cT (λc v hc q=>?_) (λ_ q=>q) λ_ _ q=>q;rcases hc with z|z
  .subst z;exact hf.1 _ _ (k2 _ _ _ e q)
  .exact hf.1 _ _ (k2 _ _ _ z q)
 .by_cases Dz:b∈X.fs
  .exact absurd Dz hb
  .obtain⟨o1,o2,e1,e2,q⟩:=lift b o e Dz;have q':h'.get? b=some o':=e';rw[q]at q';cases q';exact k1 b o1 _ e1 e2 (I.kO e Dz)
 .obtain⟨o2,e2⟩:=(F.ag b u q).there;have z:=k2 b u o2 q e2;have q':h'.get? b=some o':=e';rw[hf.1 _ _ z]at q';cases q';exact z
 .cases q:X.av.heap.get? ea with
  |none=>rfl
  |some o=>obtain⟨o1,e1⟩:=base.there ea o q (cE ea);rw[F.new]at e1;cases e1
end
def tT:List Value:=[.type "ValueError",.type "Exception",.type "BaseException",.type "object"]
def zM (K:PySem.W.Frag)(C:Addr):Prop:=PySem.W.excIn K C tT "ValueError.__new__"=true
theorem Ur {K:PySem.W.Frag}{h:Heap}{C:Addr}{oV:List Value}{newId:String}(X:K.In h)(q:PySem.W.excIn K C oV newId=true):∃bm N nm qn bs hdct sn sub ab col dd k0 k1 k2 k3 k5 mN,h.get? C=some (excClassObj nm qn C N bs bm hdct sn sub ab col dd k0 k1 k2 k3 k5 newId)/\h.Ns N mN/\mN "__init__"=none/\OwnTail h oV bm:=by
 unfold PySem.W.excIn at q;split at q
 .rename_i dd cd sl ho;split at q
  .rename_i C' bm k0 k1 k2 k3 n k5 hm hs;simp only[Bool.and_eq_true,beq_iff_eq,Bool.not_eq_true']at q;obtain⟨⟨⟨⟨⟨rfl,rfl⟩,i5⟩,ht⟩,ag⟩,zN⟩:=q;obtain⟨nm,bs,mro,ns,qn,hd,sn,sub,ab,col,del⟩:=cd;dsimp only at hm i5 ag zN;subst hm i5;have lZ:sl=#[k0,k1,k2,k3,some (.builtin n),k5]:=by
    obtain⟨l⟩:=sl;simp only at hs;rw[hs]
   subst lZ;exact⟨bm,ns,nm,qn,bs,hd,sn,sub,ab,col,dd,k0,k1,k2,k3,k5,_,X _ _ ho,.of_isNs (PySem.W.isNs_of_in X ag),PySem.W.nsMap_none_of_in X ag zN,PySem.W.tail_of_in X ht⟩
  .cases q
 .cases q
theorem Us {K:PySem.W.Frag}{M:Model}{h:Heap}{ea C Pc:Addr}{oe:Obj}{b:Bool}(X:K.In h)(he:h.get? ea=some oe)(hc:oe.cls= .ref C)(m:PySem.W.kitCls K (.ref C) (.ref Pc)=some b)(hb:PySem.W.mroIn K Pc (.type "BaseException")=some true):PySem.W.Looks M h (excMatches (.ref ea) (.ref Pc)) b:=by
 obtain⟨L1,L2,L3⟩:=PySem.W.kit_cls (M:=M) X m;have L4:=PySem.W.looks_mroIn (M:=M) X hb;have L5:PySem.W.Looks M h (typeOf (.ref ea)) (.ref C):=hc ▸ (PySem.W.Looks.ld he).andThen .now;have f:=tc_notTuple;intro A Q E s k q;unfold excMatches isInstance isExcClass;simp only[bind_assoc];refine wpAny_bind (L1 A _ E s k ?_);rw[f];simp only[pure_bind,Bool.false_eq_true,if_false,List.forIn_cons,List.forIn_nil,bind_assoc];refine wpAny_bind (L2 A _ E s k ?_);simp only[if_true];refine wpAny_bind (L4 A _ E s k ?_);simp only[Bool.not_true,Bool.false_eq_true,if_false,pure_bind];refine wpAny_bind (L5 A _ E s k ?_);refine wpAny_bind (L3 A _ E s k ?_);cases b
 .exact wpAny_pure q
 .exact wpAny_pure q
def Ly (W:Hp->Prop)(t:TA):TS:=λ_ U H=>t U H λvs H1=>vs.length<=sizeLine/\W H1
section
variable {X:Cx}
theorem Ut {x:Str}{C:Addr}{e:Expr}{es:List Expr}{t:TA}{np au pos:Pos}{W:Hp->Prop}(hc:X.calm=true)(hg:Gl X x)(hm:X.mg x=some (.ref C))(hC:zM X.K C)(ha:PA X (e::es) t)(DA:∀{pins:List (Addr×Obj)}{U:St}{H:Hp}{s:Shared}{ea:Addr}{vs:List Value}{h1:Heap},Inv X pins U H s->Heap.MadeExcOf s.heap h1 ea (.ref C) vs->W H->X.xe (.ref ea) {s with heap:=h1})(cU:autoParam ((x==("__debug__":Str))=false) aP2)(he:autoParam (starEach (e::es) X.env=(false,eval e X.env)::starEach es X.env) aP1)(cw:autoParam ((backTo au (starEach es X.env)).any (·.1)=false) aP1):
  PS X (.Raise (some (.Call (.Name x np) (e::es) [] au)) none pos) (Ly W t):=by
 intro pins s U H D I h;obtain⟨bm,N,nm,qn,bs,hdct,sn,sub,ab,col,dd,k0,k1,k2,k3,k5,mN,hC,hN,zN,T⟩:=Ur I.mod.eR hC;have FB:=F.excBase_ValueError;refine wpAny_Raise_call_subT (C:=C) (nm:=nm) (q:=qn) (N:=N) (bs:=bs) (bm:=bm) (hdct:=hdct) (sn:=sn) (sub:=sub) (ab:=ab) (col:=col) (dd:=dd) (k0:=k0) (k1:=k1) (k2:=k2) (k3:=k3) (k5:=k5) FB (mN:=mN) (T.hasType FB.hasBase) (I.ok.hd hc) (by rw[he];show(false||(backTo au (starEach es X.env)).any (·.1))=false;rw[cw];rfl) zN (mR I hg hm ⟨rfl,?_⟩ cU);have hA:=ha au pins s U H _ I h;rw[he]at hA⊢;exact Calls.evalArgs_plain (ai hA λus s2 ⟨vs,H2,I2,r2,hz,q2⟩=>⟨rfl,by rw[<-r2.length];exact hz,I2.bk _ _ hC,hN.keeps I2.bk,T.keeps I2.bk,λh' e hm=>DA I2 hm q2⟩)
end
def rn (X:Cx)(ea:Addr):Cx:={X with A:=X.A.mark (some (.ref ea)),calm:=false,xe:=λ_ _=>False}
def nG (ea:Addr)(cls:Value):HO:=.ext λh=>∃o vs,h.get? ea=some o/\o.cls=cls/\o.data= .fields vs
section
variable {X:Cx}{pins pn:List (Addr×Obj)}{U:St}{H H':Hp}{s s':Shared}
theorem Inv.kP {X Yq:Cx}(I:Inv X pins U H s)(ok:Yq.Ok)(hs:Yq.av=X.av)(hH:Yq.bC=X.bC)(he:Yq.env=X.env)(ho:Yq.outer=X.outer)(hx:Yq.ex=X.ex)(hN:Yq.N=X.N)(hp:Yq.prog=X.prog)(hw:Yq.w=X.w){bG:List (Addr×Obj)}(DB:∀p∈Yq.pn++bG,p∈X.pn++pins):Inv Yq bG U H s:=by
 obtain⟨prog,w,K,mg,base,A,N,av,bC,env,outer,stack,ex,fn,calm,Uu,xe⟩:=X;obtain⟨tU,w',K',Uv,tV,A',N',tW,tX,DC,oW,oX,JL,Uw,tY,Uy,Uz⟩:=Yq;dsimp only at hs hH he ho hx hN hp hw;subst hs hH he ho hx hN hp hw;exact⟨ok,I.os,I.bare,I.base,I.loc,I.cell,I.free,I.dW,λp hp=>I.pin p (DB p hp),I.ag,I.len⟩
theorem Cx.Ok.kP {X Yq:Cx}(ok:X.Ok)(hm:Yq.K=X.K/\Yq.mg=X.mg/\Yq.base=X.base)(he:Yq.env=X.env)(hs:Yq.av=X.av)(hH:Yq.bC=X.bC)(ho:Yq.outer=X.outer)(ig:Yq.stack=X.stack)(hx:Yq.ex=X.ex)(hf:Yq.fn=X.fn)(hd:Yq.calm=true->Yq.A.handled=none)(nH:Yq.A.frames=some Yq.stack):Yq.Ok:=by
 obtain⟨prog,w,K,mg,base,A,N,av,bC,env,outer,stack,ex,fn,calm,Uu,xe⟩:=X;obtain⟨tU,w',K',Uv,tV,A',N',tW,tX,DC,oW,oX,JL,Uw,tY,Uy,Uz⟩:=Yq;obtain⟨zO,Lz,zP⟩:=hm;dsimp only at zO Lz zP he hs hH ho ig hx hf;subst zO Lz zP he hs hH ho ig hx hf;exact⟨ok.mod,ok.kind,ok.glob,ok.blt,ok.above,ok.inj,ok.has,ok.iN,hd,nH,ok.dv,ok.yA,ok.bs,ok.jZ,ok.oA,ok.qK,ok.fu,ok.iO⟩
theorem Inv.LA {bG:List (Addr×Obj)}(I:Inv {X with pn:=pn} bG U H s)(h:∀p∈X.pn++pins,p∈pn):Inv X pins U H s:=I.kP (Yq:=X) (I.ok.kP (Yq:=X) ⟨rfl,rfl,rfl⟩ rfl rfl rfl rfl rfl rfl rfl I.ok.hd I.ok.frames) rfl rfl rfl rfl rfl rfl rfl rfl λp hp=>mem_append_left _ (h p hp)
theorem Inv.UA {ea:Addr}(I:Inv X pins U H s):Inv (rn X ea) pins U H s:=I.kP (Yq:=rn X ea) (I.ok.kP (Yq:=rn X ea) ⟨rfl,rfl,rfl⟩ rfl rfl rfl rfl rfl rfl rfl (λz=>by have z':false=true:=z;cases z') I.ok.frames) rfl rfl rfl rfl rfl rfl rfl rfl λ_ hp=>hp
theorem Inv.zQ {ea:Addr}(ok:X.Ok)(I:Inv (rn X ea) pins U H s):Inv X pins U H s:=I.kP (Yq:=X) ok rfl rfl rfl rfl rfl rfl rfl rfl λ_ hp=>hp
theorem UB {CX:fw}{k:Nat}{f:Addr}{fd:FuncData}{ps:List Str}{sp:Sp}{aD:List V}{ds:List Value}{E:XK}{Q:VK}{us:List Value}{vs:List V}(F:xl X.prog X.w X.K X.mg X.base CX k f fd ps sp)(hr:aY k X.A)(hb:Binds X.K fd ps ds)(hd:Vals aD ds)(I:Inv X pins U H s)(hx:∀e s',CX X.stack H s E e s'->X.xe e s')(r:Vals vs us)(h:sp (vs++aD) H Q E):wpAny (model X.prog X.w) X.A (call (.ref f) us) (EP X pins U Q) X.xe s:=by
 have r2:Vals (vs++aD) (us++ds):=r.append hd;have hl:(us++ds).length=ps.length:=by rw[<-r2.length];exact F.len _ _ _ _ h
 refine wpAny_call (codeAny_mono (F.run X.A X.stack s H ⟨us,[]⟩ (us++ds) (vs++aD) Q E hr I.qR (hb s us I.aW hl) r2 h) λr s' hq=>?_);cases r with
 |error e=>exact hx e s' hq
 |ok fl=>
  cases fl with
  |ret u=>exact I.after hq
  |next=>exact False.elim hq
  |brk=>exact False.elim hq
  |cont=>exact False.elim hq
theorem LB {ea:Addr}{cls:Value}(I:Inv X pins U H s)(F:rm X.prog X.w X.stack H H' s s' ea cls){h':Heap}{Bq:Heap}{t:Addr}(hf:Heap.FlyingW Bq X.stack ea cls (.ref t) h')(hu:s'.heap.UpToSlots h')(k1:∀b o o',s.heap.get? b=some o->s'.heap.get? b=some o'->b∉bo X.stack->Bq.get? b=some o')(k2:∀b u o',H' b=some u->s'.heap.get? b=some o'->Bq.get? b=some o'):
  Inv X pins U H' {s' with heap:=h'}:=by
 have cE:∀b:Addr,b∉([]:List Addr):=λb=>by simp
 have slots:∀b o,s.heap.get? b=some o->H b=none->b∈bo X.stack->∃sl,h'.get? b=some {o with slots:=sl}:=λb o e n hb=>by obtain⟨Up,e2⟩:=F.un.slot b _ e n hb (cE b);obtain⟨_,o3,e3,nf⟩:=I.stack.mem hb;rw[e]at e3;cases e3;obtain⟨tS,e4⟩:=hu b _ e2 nf;exact⟨tS,e4⟩
 refine I.CF (ch:=[]) F.os ⟨λb o e n hb _=>?_,λb o e n hb _=>slots b o e n hb,λb o e n _=>F.un.free b o e n (cE b),λb o e _=>?_,F.un.eG,F.un.dU,F.un.eQ⟩ (λb u e=>?_) F.bare λb z=>absurd z (cE b)
 .have e2:=F.un.keep b o e n hb (cE b);exact hf.1 _ _ (k1 b o o e e2 hb)
 .by_cases hb:b∈bo X.stack
  .obtain⟨sl,q⟩:=slots b o e (I.yB b hb) hb;exact⟨_,q⟩
  .obtain⟨o2,e2⟩:=F.un.there b o e (cE b);exact⟨o2,hf.1 _ _ (k1 b o o2 e e2 hb)⟩
 .refine(F.ag b u e).cT (λc v hc q=>?_) (λ_ q=>q) λ_ _ q=>q;rcases hc with z|z
  .subst z;exact hf.1 _ _ (k2 _ _ _ e q)
  .exact hf.1 _ _ (k2 _ _ _ z q)
theorem Inv.DD {a:Addr}{o:HO}(I:Inv X pins U H s)(hex:X.ex=[])(hn:H a=none)(h0:X.av.heap.get? a=none)(hL:a≠X.env.locals)(hc:∀x c,X.env.cells.lookup x=some c->c≠a)(hp:∀p∈X.pn++pins,p.1≠a)(new:vc X.prog X.w (upd H a o) s.heap a o):Inv X pins U (upd H a o) s:=by
 have gW:∀b ob,X.av.heap.get? b=some ob->b≠a:=λb ob e z=>by rw[z,h0]at e;cases e
 refine⟨I.ok,I.os,I.bare,⟨I.base.keep,I.base.slot,λb ob e n hx=>?_,I.base.there,λb xs q=>?_,λb ob u q=>?_,λb ps q=>?_⟩,I.loc,I.cell,?_,λx c e=>?_,λp LC=>?_,λb u e=>?_,I.len⟩
 .rw[jf (gW b ob e)];exact I.base.free b ob e n hx
 .rw[jf (jj (I.base.eG b xs q) hn)];exact I.base.eG b xs q
 .rw[jf (jj (I.base.dU b ob u q) hn)];exact I.base.dU b ob u q
 .obtain⟨more,z⟩:=I.base.eQ b ps q;exact⟨more,by rw[jf (jj z hn)];exact z⟩
 .rw[jf (Ne.symm hL)];exact I.free
 .rw[jf (hc x c e)];exact I.dW x c e
 .obtain⟨q1,q2,q3⟩:=I.pin p LC;exact⟨q1,by rw[jf (hp p LC)];exact q2,q3⟩
 .by_cases hb:b=a
  .subst hb;rw[jc]at e;cases e;exact new
  .rw[jf hb]at e;exact(I.ag b u e).cT (λ_ _ _ q=>q) (λc q=>by rw[jf (jj q hn)];exact q) λc xs q=>by rw[jf (jj q hn)];exact q
theorem Inv.unset {i:Nat}{n:Str}(I:Inv X pins U H s)(hN:X.N.Nodup)(hi:X.N[i]?=some n){m:Str->Option Value}(hm:s.heap.Ns X.env.locals m)(hl:∀(i:Nat)(x:Str)(v:V),X.N[i]?=some x->U[i]?=some (some v)->sL X.env.scope x->∃u,RelV v u/\Look X.env s.heap m x u){h':Heap}{u:Option Value}(mQ:h'.Ns X.env.locals (λx=>if x=n then u else m x))(hs:Heap.SameBut X.env.locals s.heap h'):Inv X pins (U.set i none) H {s with heap:=h'}:=by
 obtain⟨oL,_,_,JQ,_⟩:=id hm;have qL:i<U.length:=by rw[I.len];exact(List.getElem?_eq_some_iff.mp hi).1
 have iP:=I.iP;refine⟨I.ok,I.os,I.bare,⟨λb o e n hb hx=>?_,λb o e n hb hx=>?_,I.base.free,λb o e hx=>?_,I.base.eG,I.base.dU,I.base.eQ⟩,⟨_,mQ,λj y v' e1 e2 e3=>?_⟩,λy c e=>?_,I.free,I.dW,λp hp=>?_,λb ob e=>?_,by simpa using I.len⟩
 .exact(hs.2 b (ne_of_lt (lt_of_lt_of_le (Heap.lt_size e) I.ok.above))).trans (I.base.keep b o e n hb hx)
 .obtain⟨sl,e1⟩:=I.base.slot b o e n hb hx;exact⟨sl,(hs.2 b (ne_of_lt (lt_of_lt_of_le (Heap.lt_size e) I.ok.above))).trans e1⟩
 .obtain⟨o',e1⟩:=I.base.there b o e hx;exact⟨o',(hs.2 b (ne_of_lt (lt_of_lt_of_le (Heap.lt_size e) I.ok.above))).trans e1⟩
 .by_cases hj:j=i
  .subst hj;rw[getElem?_set_self qL]at e2;cases e2
  .rw[getElem?_set_ne (Ne.symm hj)]at e2;obtain⟨u',r',q⟩:=hl j y v' e1 e2 e3;refine⟨u',r',?_⟩;rcases q with⟨k,e⟩|⟨k,c,e,z⟩
   .refine .inl ⟨k,?_⟩;have:y≠n:=λe=>hj (Cz hN e1 (e ▸ hi));simp[this,e]
   .exact .inr ⟨k,c,e,z.sameBut hs (iP y c e)⟩
 .obtain⟨w',z⟩:=I.cell y c e;exact⟨w',z.sameBut hs (iP y c e)⟩
 .obtain⟨e,n,ne,nf,d⟩:=I.pin p hp;exact⟨(hs.2 p.1 ne).trans e,n,ne,nf,d⟩
 .refine(I.ag b ob e).cT (λc w' hc q=>(hs.2 c ?_).trans q) (λ_ q=>q) λ_ _ q=>q;have fr:=I.free
  rintro rfl
  rcases hc with rfl|hc
  .rw[fr]at e;cases e
  .rw[fr]at hc;cases hc
end
structure iz (K:PySem.W.Frag)(C:Addr):Prop where
 ga:PySem.W.findIn K (.ref C) "__getattribute__"=some (some (.builtin "BaseException.__getattribute__"))
 gn:PySem.W.findIn K (.ref C) "__getattr__"=some none
 cl:PySem.W.findIn K (.ref C) "__class__"=some (some (.builtin "object.__class__"))
 be:PySem.W.mroIn K C (.type "BaseException")=some true
 ob:PySem.W.mroIn K C (.type "object")=some true
 is:(PySem.W.clsIn K C).isSome=true
section
variable {prog:Program}{w:World}{A:Around}{E:Value->Shared->Prop}{K:PySem.W.Frag}{h:Heap}{g:Array GenState}{d:Drawn}{t:Nat}{os:OsState}{a C:Addr}{o:Obj}
theorem UC {M:Model}(hx:h.get? a=some o)(hc:o.cls= .ref C):PySem.W.Looks M h (typeOf (.ref a)) (.ref C):=hc ▸ (PySem.W.Looks.ld hx).andThen .now
theorem UD {R:Result->Shared->Prop}{tp:Value}(X:K.In h)(I:iz K C)(hx:h.get? a=some o)(hc:o.cls= .ref C)(hq:R (.ok (.ret (.ref C))) ⟨h,g,d,t,os⟩):codeAny (model prog w) A (.call (.builtin "getset_descriptor.__get__") ⟨[.builtin "object.__class__",.ref a,tp],[]⟩) R ⟨h,g,d,t,os⟩:=by
 have L1:=PySem.W.looks_mroIn (M:=model prog w) X I.ob;have zR:(⟨h,g,d,t,os⟩:Shared).TypeIs (.builtin "object.__class__") "getset_descriptor":=F.typeOf_object_class;refine codeAny_call_builtin F.slot_gs_get.plain F.entry_gs_get (F.slot_gs_get.check _ _ _ _ _ _ _ _ zR (F.args_gs_get _ _ _) ?_);have ow:=F.owner_object_class;repeat(any_goals (first|assumption|(with_reducible refine wpAny_loadPart_at hx ?_;rw[hc])|(rw[ow];with_reducible refine L1.at ?_)|(with_reducible refine L1.at ?_)|wp_step))
 refine⟨Code.quiet_builtin _ (by decide+kernel),codeAny_builtin F.entry_object_class ?_⟩;repeat(any_goals (first|assumption|(with_reducible refine wpAny_loadPart_at hx ?_;rw[hc])|wp_step))
theorem UE {tk:Tok}{Q:Fin->Shared->Prop}(X:K.In h)(I:iz K C)(hx:h.get? a=some o)(hc:o.cls= .ref C)(hq:Q (.done (.ret (.ref C))) ⟨h,g,d,t,os⟩):wpAny (model prog w) A (Builtin.«object.__getattribute__» ⟨[.ref a,.str "__class__" tk],[]⟩) Q E ⟨h,g,d,t,os⟩:=by
 have zR:(⟨h,g,d,t,os⟩:Shared).TypeIs (.builtin "object.__class__") "getset_descriptor":=F.typeOf_object_class;have f5:=F.typeOf_object_class;have f6:=F.slot_gs_get.lookup;have f7:=F.slot_gs_set.lookup;have L1:=PySem.W.looks_findIn (M:=model prog w) X I.cl;repeat(any_goals (first|assumption|(with_reducible refine wpAny_loadPart_at hx ?_;rw[hc])|(with_reducible refine L1.at ?_)|wp_step))
 refine UD X I hx hc ?_;repeat(any_goals (first|assumption|wp_step))
theorem UG {M:Model}{fc:Value}{Q:Unit->Shared->Prop}(X:K.In h)(I:iz K C)(hx:h.get? a=some o)(hc:o.cls= .ref C)(hq:Q () ⟨h,g,d,t,os⟩):wpAny M A (checkBuiltinCall "BaseException.__getattribute__" ⟨[.ref a,fc],[]⟩) Q E ⟨h,g,d,t,os⟩:=by
 have hk:builtinKind "BaseException.__getattribute__"=some .slot:=by decide+kernel
 have oY:splitId "BaseException.__getattribute__"=some ("BaseException","__getattribute__"):=by decide+kernel
 have L1:=PySem.W.looks_mroIn (M:=M) X I.be;have ha:=F.args_bexc_ga (.ref a) fc;simp only[checkBuiltinCall,hk,oY];refine wpAny_bind ?_
 .unfold isInstance;repeat(first|(with_reducible refine wpAny_loadPart_at hx ?_;rw[hc])|(with_reducible refine L1.at ?_)|wp_step)
  exact hq
theorem UH {tk:Tok}{R:Result->Shared->Prop}(X:K.In h)(I:iz K C)(hx:h.get? a=some o)(hc:o.cls= .ref C)(hq:R (.ok (.ret (.ref C))) ⟨h,g,d,t,os⟩):codeAny (model prog w) A (.call (.builtin "BaseException.__getattribute__") ⟨[.ref a,.str "__class__" tk],[]⟩) R ⟨h,g,d,t,os⟩:=
 codeAny_call_builtin F.attr_ValueError.ga.plain F.entry_bexc_ga (UG X I hx hc (UE X I hx hc hq))
theorem UI {tk:Tok}{Q:Value->Shared->Prop}(X:K.In h)(I:iz K C)(hx:h.get? a=some o)(hc:o.cls= .ref C)(hq:Q (.ref C) ⟨h,g,d,t,os⟩):wpAny (model prog w) A (getAttrBy (.ref a) (.str "__class__" tk) false) Q E ⟨h,g,d,t,os⟩:=by
 have f3:=F.attr_ValueError.ga.bind (.ref a);have L1:=PySem.W.looks_findIn (M:=model prog w) X I.ga;have L2:=PySem.W.looks_findIn (M:=model prog w) X I.gn;have UJ:(Value.builtin "BaseException.__getattribute__"==Value.builtin "object.__getattribute__")=false:=by decide+kernel
 have tZ:(onTheHeap (Value.ref C)&&Value.builtin "BaseException.__getattribute__"==Value.builtin "object.__getattribute__")=false:=by rw[UJ];rfl
 repeat(any_goals (first|assumption|(with_reducible refine wpAny_loadPart_at hx ?_;rw[hc])|(with_reducible refine L1.at ?_)|(with_reducible refine L2.at ?_)|wp_step))
 refine UH X I hx hc ?_;repeat(any_goals (first|assumption|wp_step))
theorem UK {Q:Option Value->Shared->Prop}(X:K.In h)(I:iz K C)(hx:h.get? a=some o)(hc:o.cls= .ref C)(hq:Q (some (.ref C)) ⟨h,g,d,t+1,os⟩):wpAny (model prog w) A (getAttr? (.ref a) "__class__") Q E ⟨h,g,d,t,os⟩:=by unfold getAttr? getAttrBy?;repeat(any_goals (first|assumption|with_reducible apply UI X I hx hc|wp_step))
end
theorem UL {K:PySem.W.Frag}{ea C:Addr}(I:iz K C):PySem.W.KitX K (.ref ea) (.ref C) (λh=>∃o vs,h.get? ea=some o/\o.cls= .ref C/\o.data= .fields vs) where
 ty:=λ_ _ _ ⟨o,_,h1,h2,_⟩=>UC h1 h2
 it:=λ_ _ X _=>by
  have iU:=I.is;unfold PySem.W.clsIn at iU;split at iU
  .rename_i c' d' UM oC ho;intro A' Q' E' s' k q;unfold isType loadHead;exact wpAny_bind (wpAny_loadPart (k _ _ (X _ _ ho)) (wpAny_pure q))
  .cases iU
 ne:=λh tp dd its n sl X UN=>by
  refine Bool.eq_false_iff.mpr λq=>?_;have e:C=tp:=Value.ref.inj (beq_iff_eq.mp q);subst e;have iU:=I.is;unfold PySem.W.clsIn at iU;split at iU
  .rename_i c' d' UM oC ho;have z:=(X _ _ ho).symm.trans UN;cases z
  .cases iU
 ca:=λ{_ _ _ _ _ s} X ⟨o,_,h1,h2,_⟩ k=>by obtain⟨hh,g,d,t,os⟩:=s;exact UK X I h1 h2 k
section
variable {X:Cx}
theorem zy:fM X (.builtin "isinstance") (λxs H Q=>∃ea C y c b,xs=[.ref ea,y]/\H ea=some (nG ea (.ref C))/\iz X.K C/\RelV y c/\PySem.W.kitOne X.K (.ref C) c=some b/\Q (.bl b) H):=by
 intro pins s U H xs us Q I r h;obtain⟨ea,C,y,c,b,rfl,hH,hX,ry,hk,q⟩:=h;obtain⟨u,w,rfl,r1,r2⟩:=vals2 r;obtain rfl:u=Value.ref ea:=r1;have hw:w=c:=by
  cases y with
  |ref z=>exact(show w=Value.ref z from r2).trans (show c=Value.ref z from ry).symm
  |ty z=>exact(show w=Value.type z from r2).trans (show c=Value.type z from ry).symm
  |aq=>exact(show w=Value.none from r2).trans (show c=Value.none from ry).symm
  |bl z=>exact(show w=Value.bool z from r2).trans (show c=Value.bool z from ry).symm
  |int z=>exfalso;obtain⟨_,rfl⟩:=ry;unfold PySem.W.kitOne PySem.W.kitCls at hk;simp at hk
  |str z=>exfalso;obtain⟨_,rfl⟩:=ry;unfold PySem.W.kitOne PySem.W.kitCls at hk;simp at hk
  |fH z=>exfalso;obtain⟨_,rfl⟩:=ry;unfold PySem.W.kitOne PySem.W.kitCls at hk;simp at hk
  |mL z=>exfalso;obtain⟨_,rfl⟩:=ry;unfold PySem.W.kitOne PySem.W.kitCls at hk;simp at hk
 subst hw;obtain⟨p,_,_⟩:=(show vc X.prog X.w H s.heap ea (nG ea (.ref C))from I.ag ea _ hH);exact PySem.W.kia_one (UL hX) I.aW p hk (λz=>nomatch z) λtk=>⟨.bl b,H,I.tok tk,rfl,q⟩
end
theorem LF {A:Around}{s:Shared}(k:Bool)(bs:List Bool):∀y,y∈(bs.map Value.bool).toArray->SeqAt.EqAt A s y (.bool k) (isBoolOf k y):=λy hy=>by
 have UO:y∈bs.map Value.bool:=by simpa using hy
 obtain⟨b,_,rfl⟩:=mem_map.mp UO;exact SeqAt.EqAt.bool_bool b k
theorem LG (k:Bool):∀bs:List Bool,(bs.map Value.bool).countP (isBoolOf k)=bs.count k
 |[]=>rfl
 |b::bs=>by rw[map_cons,List.countP_cons,count_cons,LG k bs];rfl
noncomputable def UP (K:PySem.W.Frag):V->List V->Hp->VK->Prop:=λx vs H Q=>∃(l:Addr)(bs:List Bool)(k:Bool),x= .ref l/\vs=[.bl k]/\ah K H l (bs.map V.bl)/\Q (.int (bs.count k)) H
noncomputable def UQ (K:PySem.W.Frag):V->List V->Hp->VK->Prop:=λx vs H Q=>∃(l:Addr)(bs:List Bool)(k:Bool),x= .ref l/\vs=[.bl k]/\ah K H l (bs.map V.bl)/\k∈bs/\Q (.int (bs.idxOf k)) H
section
variable {X:Cx}
theorem UR:lQ X "list.count" (UP X.K):=by intro pins s U H x vs v us Q I rx rv h;obtain⟨l,bs,k,rfl,rfl,hH,q⟩:=h;cases rx;obtain⟨u,rfl,ru⟩:=rv.one;obtain rfl:u=Value.bool k:=ru;obtain⟨its,r,pl,hz⟩:=I.list hH;have e:=zJ r;subst e;obtain⟨⟨cls,dd,data,sl⟩,ho,hc,n,hd⟩:=pl.isList;simp only at hc hd;subst hc hd;refine call_meets PySem.F.slot_list_count ⟨_,ho,rfl⟩ PySem.F.entry_list_count (PySem.F.args_list_count_2 _ _) (SeqAt.list_countAt l _ n dd sl (.bool k) (isBoolOf k)) ⟨ho,λy hy=>LF k bs y hy,?_⟩;rw[show(bs.map Value.bool).toArray.toList=bs.map Value.bool from rfl,LG k bs];exact⟨.int (bs.count k),H,I.tok _,⟨_,rfl⟩,q⟩
theorem US:lQ X "list.index" (UQ X.K):=by
 intro pins s U H x vs v us Q I rx rv h;obtain⟨l,bs,k,rfl,rfl,hH,hk,q⟩:=h;cases rx;obtain⟨u,rfl,ru⟩:=rv.one;obtain rfl:u=Value.bool k:=ru;obtain⟨its,r,pl,hz⟩:=I.list hH;have e:=zJ r;subst e;obtain⟨⟨cls,dd,data,sl⟩,ho,hc,n,hd⟩:=pl.isList;simp only at hc hd;subst hc hd;have hj:bs.idxOf k<bs.length:=List.idxOf_lt_length_iff.mpr hk;have LH:bs.length<=sizeLine:=by rw[length_map]at hz;exact hz
 have hs:(sizeLine:Int)<2^63-1:=by decide
 refine call_meets PySem.F.slot_list_index ⟨_,ho,rfl⟩ PySem.F.entry_list_index (PySem.F.args_list_index_2 _ _) (SeqAt.list_indexAt l _ n dd sl (.bool k) (isBoolOf k) (bs.idxOf k) (by simpa using hj) (by lia) ?_ ?_) ⟨ho,λy hy=>LF k bs y hy,?_⟩
 .have e:(bs.map Value.bool).toArray[bs.idxOf k]'(by simpa using hj)=Value.bool (bs[bs.idxOf k]):=by simp
  rw[e];show(bs[bs.idxOf k]==k)=true;simpa using List.getElem_idxOf hj
 .intro j bE ax;have hjl:j<bs.length:=by simpa using bE
  have e:(bs.map Value.bool).toArray[j]'bE=Value.bool (bs[j]):=by simp
  rw[e];show(bs[j]==k)=false;exact Bool.eq_false_iff.mpr λz=>by simpa[z]using List.not_of_lt_findIdx (p:=(·==k)) (xs:=bs) (i:=j) ax
 .exact⟨.int (bs.idxOf k),H,I.tok _,⟨_,rfl⟩,q⟩
end
end L2
namespace L2
open PySem
def kinds (K:PySem.W.Frag)(C:Value)(Ds:List Value):List (Option Bool):=Ds.map (PySem.W.kitOne K C)
end L2
namespace L2
open PySem PySem.Spec PyProof.Rows
def isStar:Expr->Bool
 | .Starred _ _=>true
 |_=>false
theorem UT {e:Expr}{es:List Expr}{env:Env}(h:isStar e=false):starEach (e::es) env=(false,eval e env)::starEach es env:=by cases e<;>first|rfl|cases h
section
variable {X:Cx}{e:Expr}{es:List Expr}{te:TE}{t:TA}
theorem je (ha:PE X e te)(hr:PA X es t)(h:autoParam (isStar e=false) aP1):PA X (e::es) (vk te t):=R5 ha hr (UT h)
end
def rq {α:Type}:List α->List α->List α
 |[u0],[w0,w1]=>[u0,w0,w1]
 |_,_=>[]
theorem UU {vs:List V}{us:List Value}{zs:List V}{ws:List Value}(r1:Vals vs us)(r2:Vals zs ws):Vals (rq vs zs) (rq us ws):=by rcases r1 with _|⟨a,_|⟨_,_⟩⟩<;>rcases r2 with _|⟨b,_|⟨c,_|⟨_,_⟩⟩⟩;all_goals first|exact .nil|exact .cons a (.cons b (.cons c .nil))
section
variable {X:Cx}{pins:List (Addr×Obj)}{U:St}{H:Hp}{s:Shared}{a:Addr}{o:Obj}{u:HO}
theorem Inv.freeze (I:Inv X pins U H s)(hm:gR (some u))(ha:H a=some u)(ho:s.heap.get? a=some o):Inv X pins U (upd H a (.az o u)) s:=by
 have new:vc X.prog X.w (upd H a (.az o u)) s.heap a (.az o u):=by
  refine⟨ho,(I.ag a u ha).cT (λ_ _ _ q=>q) (λc q=>?_) λc xs q=>?_⟩
  .have hc:c≠a:=λz=>by
    subst z;rw[ha]at q;cases q;exact hm
   rw[jf hc];exact q
  .have hc:c≠a:=λz=>by
    subst z;rw[ha]at q;cases q;exact hm
   rw[jf hc];exact q
 exact I.write (t':=s.toks) (x:=a) (e:=a) (o:=.az o u) (h':=s.heap) (by rw[ha];exact hm) (.inl rfl) (λb v _ q=>q) ⟨o,ho⟩ new
theorem Inv.DE (I:Inv X pins U H s)(ha:H a=some (.az o u))(h0:∀o' u',X.bC a≠some (.az o' u'))(hm:gR (some u)):Inv X pins U (upd H a u) s:=by
 have ne:∀{b:Addr}{v:HO},H b=some v->(∀o' u',v≠.az o' u')->b≠a:=λ{b v} e h z=>by subst z;rw[ha]at e;exact h _ _ (Option.some.inj e).symm
 have zS:∀{b:Addr},H b=none->b≠a:=λ{b} e z=>by subst z;rw[ha]at e;cases e
 refine⟨I.ok,I.os,I.bare,⟨I.base.keep,I.base.slot,λb ob e n hx=>?_,I.base.there,λb xs q=>?_,λb ob v q=>?_,λb ps q=>?_⟩,I.loc,I.cell,?_,λx c e=>?_,λp hp=>?_,λb v e=>?_,I.len⟩
 .have q:=I.base.free b ob e n hx;rw[jf (zS q)];exact q
 .have q':=I.base.eG b xs q;rw[jf (ne q' λ_ _ z=>nomatch z)];exact q'
 .have hb:b≠a:=λz=>by
   subst z;exact h0 _ _ q
  rw[jf hb];exact I.base.dU b ob v q
 .obtain⟨more,z⟩:=I.base.eQ b ps q;exact⟨more,by rw[jf (ne z λ_ _ z=>nomatch z)];exact z⟩
 .rw[jf (zS I.free)];exact I.free
 .rw[jf (zS (I.dW x c e))];exact I.dW x c e
 .obtain⟨q1,q2,q3⟩:=I.pin p hp;exact⟨q1,by rw[jf (zS q2)];exact q2,q3⟩
 .have own:∀(c y:Addr),H c=some (.own y)->upd H a u c=some (.own y):=λc y q=>by
   rw[jf (ne q λ_ _ z=>nomatch z)];exact q
  have tup:∀(c:Addr)(xs:List V),H c=some (.tup xs)->upd H a u c=some (.tup xs):=λc xs q=>by rw[jf (ne q λ_ _ z=>nomatch z)];exact q
  by_cases hb:b=a
  .subst hb;rw[jc]at e;cases e;obtain⟨_,q⟩:=I.ag _ _ ha;exact q.cT (λ_ _ _ q=>q) (λc q=>own c _ q) tup
  .rw[jf hb]at e;exact(I.ag b v e).cT (λ_ _ _ q=>q) (λc q=>own c _ q) tup
noncomputable def UW (H0:Hp)(t:TS):TS:=λD U H=>
 let un:(Hp->Prop)->Hp->Prop:=λQ H'=>∃a o u,H' a=some (.az o u)/\(∀o' u',H0 a≠some (.az o' u'))/\gR (some u)/\Q (upd H' a u)
 t {nx:=λU' H'=>un (D.nx U') H',rt:=λv H'=>un (D.rt v) H',bk:=D.bk,ct:=D.ct} U H
theorem DF {st:Stmt}{t:TS}(h:PS X st t):PS X st (UW X.bC t):=by
 intro pins s U H D I q;refine ai (h pins s U H _ I q) λf s1 q1=>?_;cases f with
 |next=>obtain⟨U1,H1,I1,a,o,u,ha,h0,hm,q⟩:=q1;exact⟨U1,_,I1.DE ha h0 hm,q⟩
 |ret v=>obtain⟨x,U1,H1,I1,r,a,o,u,ha,h0,hm,q⟩:=q1;exact⟨x,U1,_,I1.DE ha h0 hm,r,q⟩
 |brk=>exact q1
 |cont=>exact q1
noncomputable def UX (H0:Hp)(t:TE):TE:=λU H Q=>t U H λv H'=>∃a o u,H' a=some (.az o u)/\(∀o' u',H0 a≠some (.az o' u'))/\gR (some u)/\Q v (upd H' a u)
theorem DG {e:Expr}{t:TE}(h:PE X e t):PE X e (UX X.bC t):=by intro pins s U H Q I q;refine ai (h pins s U H _ I q) λv s1 zQ=>?_;obtain⟨x,H1,I1,r,a,o,u,ha,h0,hm,q⟩:=zQ;exact⟨x,_,I1.DE ha h0 hm,r,q⟩
end
theorem UY {k:Key}{v:Value}(h:oy k v=true):RelV (kV k) v:=by
 rcases xq h with⟨i,t,rfl,rfl⟩|⟨x,t,rfl,rfl⟩
 .exact⟨t,rfl⟩
 .exact⟨t,rfl⟩
noncomputable def uA (a:Addr)(o:Obj)(aa:List (Key×V)):It where
 go:=λi H=>i<aa.length/\H a=some (.az o (.dK aa))
 dO:=λi H x H'=>H'=H/\∃kv,aa[i]?=some kv/\x=kV kv.1
 stop:=λi H=>aa.length<=i/\H a=some (.az o (.dK aa))
theorem LI {aa:List (Key×V)}{vs:List (Key×Value)}:∀{i:Nat}{kv:Key×V},KV aa vs->aa[i]?=some kv->∃v,vs[i]?=some (kv.1,v)/\RelV kv.2 v:=by
 intro i kv r;unfold KV at r;induction r generalizing i with
 |nil=>intro e;simp at e
 |@cons p q ps qs h t ih=>
  intro e;cases i with
  |zero=>have e':=Option.some.inj e;subst e';exact⟨q.2,by rw[h.1];rfl,h.2⟩
  |succ i=>exact ih e
theorem UZ {P:Program}{w:World}{K:PySem.W.Frag}{tg:Expr}(a it:Addr)(o:Obj)(aa:List (Key×V))(es:Array DictEntry)(ep:Nat)(hd:o.data= .dict es ep):Turn P w K tg (uA a o aa) [it] it (λi h=>h.IsKeyIter it a i aa.length ep) where
 mem:=by simp
 obj:=λi h st b hb=>by
  have e:b=it:=by simpa using hb
  subst e;obtain⟨o,e,c,d⟩:=st;exact⟨o,e,λv z=>by rw[d]at z;cases z⟩
 keep:=λi h h' st k=>st.at λo e=>k it (by simp) o e
 item:=by
  intro X hP hw hK hc i pins s U H E I hf st hg;subst hP hw hK;obtain⟨hi,hq⟩:=hg;obtain⟨ho,hz,hs,vs,r,o',fJ,dX,bh,fe,ba,r1,r2,r3⟩:=I.ag a _ hq;have eo:o'=o:=Option.some.inj (bh.symm.trans ho);subst eo;have ee:dX=ep:=by rw[hd]at ba;cases ba;rfl
  subst ee;have hlen:aa.length=vs.length:=Paired.length r;have hm:s.heap.DictAt (za X.prog X.w) a vs dX:=⟨o',fJ,ho,fe,ba,r1,r2,r3⟩;obtain⟨kv,i6⟩:∃kv,aa[i]?=some kv:=⟨aa[i],by simp[hi]⟩;obtain⟨v,ev,rv⟩:=LI r i6;obtain⟨f0,f1,f2,f3,f4,f5⟩:=hf it (by simp);rw[hlen]at st;refine wpAny_pyNext_dict_item st hm ev λkey h' hk bD sb=>?_;have I1:Inv X pins U H {s with heap:=h'}:=I.turned (t':=s.toks) (λb o hb e=>(sb.2 b hb).trans e) f0 f1 f3 f4 f5;rw[<-hlen]at bD;obtain⟨oi,ei,ci,di⟩:=id bD;exact⟨key,rfl,qO (s:={s with heap:=h'}) ei ci di (by decide) ⟨kV kv.1,H,I1,UY hk,⟨rfl,kv,i6,rfl⟩,bD,λb hb=>(hf b hb).1⟩⟩
 done:=by
  intro X hP hw hK hc i pins s U H E I hf st hg;subst hP hw hK;obtain⟨hi,hq⟩:=hg;obtain⟨ho,hz,hs,vs,r,o',fJ,dX,bh,fe,ba,r1,r2,r3⟩:=I.ag a _ hq;have eo:o'=o:=Option.some.inj (bh.symm.trans ho);subst eo;have ee:dX=ep:=by rw[hd]at ba;cases ba;rfl
  subst ee;have hlen:aa.length=vs.length:=Paired.length r;have hm:s.heap.DictAt (za X.prog X.w) a vs dX:=⟨o',fJ,ho,fe,ba,r1,r2,r3⟩;obtain⟨f0,f1,f2,f3,f4,f5⟩:=hf it (by simp);rw[hlen]at st;exact wpAny_pyNext_dict_end (I.ok.hd hc) st hm (List.getElem?_eq_none_iff.mpr (by lia)) λh' eb=>⟨rfl,I.turned (t':=s.toks) (λb o hb e=>eb b o hb e) f0 f1 f3 f4 f5⟩
 self:=λ_ _ _ _ _ st h=>wpAny_pyIter_keyiter st h
def U5 (tl:TE):TI:=λU H R=>tl U H λx H1=>∃a aa,x= .ref a/\H1 a=some (.dK aa)/\∀o,R (uA a o aa) (upd H1 a (.az o (.dK aa)))
theorem Va {X:Cx}{tg l:Expr}{tl:TE}(hl:PE X l tl):PI X tg l (U5 tl):=by
 intro pins s U H R I h;refine ai (hl pins s U H _ I h) λv s1 zQ=>?_;obtain⟨x,H1,I1,r1,q1⟩:=zQ;obtain⟨a,aa,e,hq,q⟩:=q1;subst e;cases r1;obtain⟨hz,hs,vs,r,o,es,ep,ho,hx,hd,r1,r2,r3⟩:=I1.ag a _ hq;have hlen:aa.length=vs.length:=Paired.length r;have hm:s1.heap.DictAt (za X.prog X.w) a vs ep:=⟨o,es,ho,hx,hd,r1,r2,r3⟩;refine wpAny_pyIter_dict hs hm ?_;have I2:=I1.freeze (show gR (some (HO.dK aa))from True.intro) hq ho;have hn:upd H1 a (.az o (.dK aa)) s1.heap.objs.size=none:=I2.ag.fresh (le_refl _);refine⟨s1.heap.objs.size,[s1.heap.objs.size],_,_,_,rfl,I2.kept (t':=s1.toks) λb o e=>Heap.get?_push_of_some _ e,UZ a _ o aa es ep hd,?_,λb hb=>?_,q o⟩
 .rw[hlen];exact⟨_,Heap.get?_push_size _ rfl,rfl,rfl⟩
 .have e:b=s1.heap.objs.size:=by simpa using hb
  subst e;exact I2.oG (le_refl _) hn
def fE (v d:Addr):HO:=.ext λh=>h.IsValuesView v d
noncomputable def nI (a:Addr)(o:Obj)(aa:List (Key×V)):It where
 go:=λi H=>i<aa.length/\H a=some (.az o (.dK aa))
 dO:=λi H x H'=>H'=H/\∃kv,aa[i]?=some kv/\x=kv.2
 stop:=λi H=>aa.length<=i/\H a=some (.az o (.dK aa))
section
variable {X:Cx}
theorem LJ:lQ X "dict.values" (λx xs H Q=>∃d aa,x= .ref d/\xs=[]/\H d=some (.dK aa)/\∀p,H p=none->Q (.ref p) (upd H p (fE p d))):=by intro pins s U H x xs v us Q I rx rs h;obtain⟨d,aa,rfl,rfl,hq,q⟩:=h;cases rx;cases rs;obtain⟨hz,hs,vs,r,hd⟩:=I.ag d _ hq;refine call_meetsIn PySem.F.slot_dict_values hd.typeIs PySem.F.entry_dict_values (PySem.F.args_dict_values_1 _) (meets_dict_values (za X.prog X.w) d hs) ⟨⟨vs,hd⟩,?_⟩;refine⟨.ref s.heap.objs.size,_,I.laid (t':=s.toks) (o:=fE s.heap.objs.size d) (λb ob q=>Heap.get?_push_of_some _ q) (le_refl _) ?_,rfl,q _ I.fresh⟩;refine⟨⟨_,Heap.get?_push_size _ rfl,rfl,rfl⟩,⟨_,Heap.get?_push_size _ rfl⟩,λh1 h2 p k=>?_⟩;obtain⟨o,e,c,d⟩:=p;exact⟨o,k o e,c,d⟩
end
theorem Vb {P:Program}{w:World}{K:PySem.W.Frag}{tg:Expr}(a it:Addr)(o:Obj)(aa:List (Key×V))(es:Array DictEntry)(ep:Nat)(hd:o.data= .dict es ep):Turn P w K tg (nI a o aa) [it] it (λi h=>h.IsValIter it a i aa.length ep) where
 mem:=by simp
 obj:=λi h st b hb=>by
  have e:b=it:=by simpa using hb
  subst e;obtain⟨o,e,c,d⟩:=st;exact⟨o,e,λv z=>by rw[d]at z;cases z⟩
 keep:=λi h h' st k=>st.at λo e=>k it (by simp) o e
 item:=by
  intro X hP hw hK hc i pins s U H E I hf st hg;subst hP hw hK;obtain⟨hi,hq⟩:=hg;obtain⟨ho,hz,hs,vs,r,o',fJ,dX,bh,fe,ba,r1,r2,r3⟩:=I.ag a _ hq;have eo:o'=o:=Option.some.inj (bh.symm.trans ho);subst eo;have ee:dX=ep:=by rw[hd]at ba;cases ba;rfl
  subst ee;have hlen:aa.length=vs.length:=Paired.length r;have hm:s.heap.DictAt (za X.prog X.w) a vs dX:=⟨o',fJ,ho,fe,ba,r1,r2,r3⟩;obtain⟨kv,i6⟩:∃kv,aa[i]?=some kv:=⟨aa[i],by simp[hi]⟩;obtain⟨v,ev,rv⟩:=LI r i6;obtain⟨f0,f1,f2,f3,f4,f5⟩:=hf it (by simp);rw[hlen]at st;refine wpAny_pyNext_values_item st hm ev λh' bD sb=>?_;have I1:Inv X pins U H {s with heap:=h'}:=I.turned (t':=s.toks) (λb o hb e=>(sb.2 b hb).trans e) f0 f1 f3 f4 f5;rw[<-hlen]at bD;obtain⟨oi,ei,ci,di⟩:=id bD;exact⟨v,rfl,qO (s:={s with heap:=h'}) ei ci di (by decide) ⟨kv.2,H,I1,rv,⟨rfl,kv,i6,rfl⟩,bD,λb hb=>(hf b hb).1⟩⟩
 done:=by
  intro X hP hw hK hc i pins s U H E I hf st hg;subst hP hw hK;obtain⟨hi,hq⟩:=hg;obtain⟨ho,hz,hs,vs,r,o',fJ,dX,bh,fe,ba,r1,r2,r3⟩:=I.ag a _ hq;have eo:o'=o:=Option.some.inj (bh.symm.trans ho);subst eo;have ee:dX=ep:=by rw[hd]at ba;cases ba;rfl
  subst ee;have hlen:aa.length=vs.length:=Paired.length r;have hm:s.heap.DictAt (za X.prog X.w) a vs dX:=⟨o',fJ,ho,fe,ba,r1,r2,r3⟩;obtain⟨f0,f1,f2,f3,f4,f5⟩:=hf it (by simp);rw[hlen]at st;exact wpAny_pyNext_values_end (I.ok.hd hc) st hm (List.getElem?_eq_none_iff.mpr (by lia)) λh' eb=>⟨rfl,I.turned (t':=s.toks) (λb o hb e=>eb b o hb e) f0 f1 f3 f4 f5⟩
 self:=λ_ _ _ _ _ st h=>wpAny_pyIter_valiter st h
noncomputable def Vc (tl:TE):TI:=λU H R=>tl U H λx H1=>∃v a aa,x= .ref v/\H1 v=some (fE v a)/\H1 a=some (.dK aa)/\∀o,R (nI a o aa) (upd H1 a (.az o (.dK aa)))
theorem LK {X:Cx}{tg l:Expr}{tl:TE}(hl:PE X l tl):PI X tg l (Vc tl):=by
 intro pins s U H R I h;refine ai (hl pins s U H _ I h) λv s1 zQ=>?_;obtain⟨x,H1,I1,r1,q1⟩:=zQ;obtain⟨v,a,aa,e,hv,hq,q⟩:=q1;subst e;cases r1;obtain⟨hz,hs,vs,r,o,es,ep,ho,hx,hd,r1,r2,r3⟩:=I1.ag a _ hq;have hlen:aa.length=vs.length:=Paired.length r;have hm:s1.heap.DictAt (za X.prog X.w) a vs ep:=⟨o,es,ho,hx,hd,r1,r2,r3⟩;obtain⟨DH,_,_⟩:=(show vc X.prog X.w H1 s1.heap v (fE v a)from I1.ag v _ hv);refine wpAny_pyIter_values DH hm ?_;have I2:=I1.freeze (show gR (some (HO.dK aa))from True.intro) hq ho;have hn:upd H1 a (.az o (.dK aa)) s1.heap.objs.size=none:=I2.ag.fresh (le_refl _);refine⟨s1.heap.objs.size,[s1.heap.objs.size],_,_,_,rfl,I2.kept (t':=s1.toks) λb o e=>Heap.get?_push_of_some _ e,Vb a _ o aa es ep hd,?_,λb hb=>?_,q o⟩
 .rw[hlen];exact⟨_,Heap.get?_push_size _ rfl,rfl,rfl⟩
 .have e:b=s1.heap.objs.size:=by simpa using hb
  subst e;exact I2.oG (le_refl _) hn
end L2
namespace L2
open PySem PySem.Spec PyProof.Rows PySem.W
section
variable {prog:Program}{w:World}{A:Around}{E:Value->Shared->Prop}{s:Shared}
theorem LL {Q:Bool->Shared->Prop}:∀{vs us:List Value}{ns ms:List Int}(i:Nat),IntsAre vs ns->IntsAre us ms->Q (HT.lexLt ns ms) s->KatLex prog w A true (decide (ns.length<ms.length)) Q (vs.zip us) i s
 |[],[],[],[],_,_,_,q=>kat_nil (by simpa[HT.lexLt]using q)
 |[],_::_,[],_::_,_,_,_,q=>kat_nil (by simpa[HT.lexLt]using q)
 |_::_,[],_::_,[],_,_,_,q=>kat_nil (by simpa[HT.lexLt]using q)
 | _::vs,_::us,n::ns,m::ms,i,.cons _ t hv,.cons _ t' hu,q=>by
  rw[HT.C1]at q;refine kat_cons (wpAny_eqBool_int (kat_go (λe=>?_) λe=>?_))
  .have e':n=m:=by simpa using e
   rw[if_pos e']at q;refine kat_yes ?_;show KatLex prog w A true _ Q (vs.zip us) (i+1) s;have h:=LL (i+1) hv hu q;rw[show decide ((n::ns).length<(m::ms).length)=decide (ns.length<ms.length)by simp];exact h
  .have e':¬n=m:=by simpa using e
   rw[if_neg e']at q;refine kat_no ?_;cases i with
   |zero=>exact oneLt_int q
   |succ i=>exact kat_one _ _ (PyProof.Rows.lt_int q)
theorem Vd {a:Addr}{vs:List Value}{n:Nat}{R:PySem.Fin->Shared->Prop}{Good:Array Nat->Prop}(ho:s.heap.get? a=some (seqObj "list" vs.toArray n))(zT:vs.length<64)(ask:2<=vs.length->∀s':Shared,(∀b o,b≠a->s.heap.get? b=some o->s'.heap.get? b=some o)->wpAny (model prog w) A (keyKind' vs.toArray) (λ B s1=>s1=s'/\(kas_sort vs.length).kasWp (kas_ask prog w A B vs) (λp s2=>s2=s'/\Good p) s') (λ_ _=>False) s')(one:vs.length<2->R (.done (.ret .none)) {s with heap:=sortedHeap s.heap a vs vs.toArray})(more:∀p:Array Nat,p.size=vs.length->Good p->R (.done (.ret .none)) {s with heap:=sortedHeap s.heap a vs (List.toArray (p.toList.map λi=>vs.getD i Value.none))}):
  wpAny (model prog w) A (Builtin.«list.sort» ⟨[.ref a],[]⟩) R E s:=by
 have big:(64:Nat)<=sizeLine:=by decide
 obtain⟨e1,iA⟩:∃e1,(s.heap.update a (Obj.mapSeq λ_=>#[])).get? a=some (seqObj "list" #[] e1):=⟨_,get?_update_seq ho (λ_=>#[])⟩;have la:a<(s.heap.update a (Obj.mapSeq λ_=>(#[]:Array Value))).objs.size:=Heap.lt_size iA;have zU:=Heap.get?_push_of_some (seqObj "list" #[] 0) (Heap.get?_push_of_some (seqObj "tuple" vs.toArray 0) iA);have old:∀b o,b≠a->s.heap.get? b=some o->(((s.heap.update a (Obj.mapSeq λ_=>#[])).push (seqObj "tuple" vs.toArray 0)).push (seqObj "list" #[] 0)).get? b=some o:=λb o hb e=>Heap.get?_push_of_some _ (Heap.get?_push_of_some _ ((Heap.get?_update_ne _ _ _ _ hb).trans e));rw[list_sort_plain];refine wpAny_bind (listItems_at ho rfl (wpAny_bind (listUpdate_at ho rfl (wpAny_bind (seqEpoch_at iA rfl (wpAny_bind (wpAny_newTuple (wpAny_bind (wpAny_newList (wpAny_holding ?_) (zero_le _))) (by show vs.length<=_;lia))))) (by show vs.toArray.size<=_;simp;lia) (zero_le _))));by_cases h2:vs.length<2
 .have nF:vs.toArray.size<2:=by simpa using h2
  have e:((vs.toArray.zip vs.toArray).map λx:Value×Value=>x.2)=vs.toArray:=by apply Array.toList_inj.mp;simp;exact List.map_snd_zip (le_refl _)
  dsimp only;rw[if_pos nF,if_pos nF];refine wpAny_bind (wpAny_pure ?_);rw[StateT.run_pure];refine wpAny_bind (wpAny_pure (wpAny_bind (seqEpoch_at zU rfl (wpAny_bind (listUpdate_at zU rfl ?_ (zero_le _) ?_)))))
  .simp only[bne_self_eq_false,Bool.false_eq_true,if_false];have q:=one h2;rw[<-e]at q;exact wpAny_pure q
  .show((vs.toArray.zip vs.toArray).map λx:Value×Value=>x.2).size<=_;rw[e];simp;lia
 .have nF:¬vs.toArray.size<2:=by simpa using h2
  dsimp only;rw[if_neg nF,if_neg nF];refine wpAny_bind (wpAny_mono (ask (by lia) _ old) (λ B s1 hk=>?_) λ_ _ z=>z.elim);obtain⟨rfl,hk⟩:=hk;refine wpAny_bind (wpAny_mono (kat_run (ks:=vs) (vs:=vs) (Q:=λbD s2=>∃p:Array Nat,p.size=vs.length/\arrOf bD=p.map (kas_item (vs.toArray.zip vs.toArray))/\failedOf bD=none/\s2=_/\Good p) rfl (by lia) zT (λp bD s2 a1 a2 a3 a4=>⟨p,a1,a2,a3,a4⟩) hk) ?_ λ_ _ z=>z)
  rintro⟨⟨⟩,st⟩ s2 ⟨p,hp,Ve,hf,rfl,good⟩
  have e:=kat_snds (ks:=vs) (vs:=vs) rfl Ve;dsimp only;rw[e];refine wpAny_bind (seqEpoch_at zU rfl (wpAny_bind (listUpdate_at zU rfl ?_ (zero_le _) ?_)))
  .rw[hf];simp only[bne_self_eq_false,Bool.false_eq_true,if_false];exact wpAny_pure (more p hp good)
  .rw[size_toArray,length_map,Array.length_toList,hp];lia
theorem Vf {l:Addr}{vs:List Value}{Q:Value->Shared->Prop}{Good:Array Nat->Prop}(hl:s.heap.IsList l vs.toArray)(zT:vs.length<64)(ask:2<=vs.length->∀s':Shared,(∀b o,s.heap.get? b=some o->s'.heap.get? b=some o)->wpAny (model prog w) A.in1.in1 (keyKind' vs.toArray) (λ B s1=>s1=s'/\(kas_sort vs.length).kasWp (kas_ask prog w A.in1.in1 B vs) (λp s2=>s2=s'/\Good p) s') (λ_ _=>False) s')(one:vs.length<2->Q (.ref (s.heap.objs.size+1)) {s with heap:=sortedAll s.heap vs vs.toArray})(more:∀p:Array Nat,p.size=vs.length->Good p->Q (.ref (s.heap.objs.size+1)) {s with heap:=sortedAll s.heap vs (List.toArray (p.toList.map λi=>vs.getD i Value.none))}):
  wpAny (model prog w) A (call (.builtin "sorted") [.ref l]) Q E s:=by
 have big:(64:Nat)<=sizeLine:=by decide
 have sz:((s.heap.push (seqObj "list" #[] 0)).update s.heap.objs.size (Obj.mapSeq (·++vs.toArray))).objs.size=s.heap.objs.size+1:=(Heap.size_update ..).trans (size_push' ..);have rA:(((s.heap.push (seqObj "list" #[] 0)).update s.heap.objs.size (Obj.mapSeq (·++vs.toArray))).push (seqObj "list" vs.toArray 0)).get? (s.heap.objs.size+1)=some (seqObj "list" vs.toArray 0):=sz ▸ Heap.get?_push_size _ rfl;have old:∀b o,s.heap.get? b=some o->(((s.heap.push (seqObj "list" #[] 0)).update s.heap.objs.size (Obj.mapSeq (·++vs.toArray))).push (seqObj "list" vs.toArray 0)).get? b=some o:=λb o e=>Heap.get?_push_of_some _ ((Heap.get?_update_ne _ _ _ _ (ne_of_lt (Heap.lt_size e))).trans (Heap.get?_push_of_some _ e));have body:=Vd (prog:=prog) (w:=w) (A:=A.in1.in1) (E:=E) (a:=s.heap.objs.size+1) (Good:=Good) (R:=λf s'=>f= .done (.ret .none)/\Q (.ref (s.heap.objs.size+1)) s') (s:={s with heap:=((s.heap.push (seqObj "list" #[] 0)).update s.heap.objs.size (Obj.mapSeq (·++vs.toArray))).push (seqObj "list" vs.toArray 0)}) rA zT (λh2 s' k=>ask h2 s' λb o e=>k b o (ne_of_lt (Nat.lt_succ_of_lt (Heap.lt_size e))) (old b o e)) (λh=>⟨rfl,one h⟩) (λp hp g=>⟨rfl,more p hp g⟩);refine Calls.call_function_entry kind_sorted plain_sorted entry_sorted (args_sorted1 _) ?_;show wpAny (model prog w) A.in1 (do checkCount "sorted" 1 1 _;_) _ _ s;refine wpAny_bind (m:=checkCount "sorted" 1 1 _) (wpAny_pure (wpAny_bind (collect_list hl (wpAny_bind (wpAny_newList ?_ (by lia))) (by lia))));show wpAny (model prog w) A.in1 _ _ E {s with heap:=((s.heap.push (seqObj "list" #[] 0)).update s.heap.objs.size (Obj.mapSeq (·++vs.toArray))).push (seqObj "list" vs.toArray 0)};rw[sz];exact wpAny_bind (wpAny_holding (wpAny_call_entry slot_list_sort ⟨_,rA,rfl⟩ entry_list_sort (wpAny_mono body (λf s' z=>⟨_,z.1,wpAny_pure ⟨_,rfl,z.2⟩⟩) λ_ _ z=>z) (args_list_sort _)))
end
theorem LM:∀{a b:List Int},a≠b->HT.lexLt a b=false->HT.lexLt b a=true
 |[],[],h,_=>absurd rfl h
 |[],_::_,_,h=>by cases h
 |_::_,[],_,_=>rfl
 |x::a,y::b,h,h'=>by
  rw[HT.C1]at h'⊢;by_cases e:x=y
  .subst e;rw[if_pos rfl]at h'⊢;exact LM (λz=>h (by rw[z])) h'
  .rw[if_neg e]at h';rw[if_neg (λz=>e z.symm)];have:=of_decide_eq_false h';exact decide_eq_true (by lia)
theorem LN:∀{a b c:List Int},HT.lexLt a b=true->HT.lexLt b c=true->HT.lexLt a c=true
 |[],[],_,h,_=>by cases h
 |[],_::_,[],_,h=>by cases h
 |[],_::_,_::_,_,_=>rfl
 |_::_,[],_,h,_=>by cases h
 |_::_,_::_,[],_,h=>by cases h
 | x::a,y::b,z::c,h,h'=>by
  rw[HT.C1]at h h'⊢;by_cases e:x=y
  .subst e;rw[if_pos rfl]at h;by_cases e2:x=z
   .rw[if_pos e2]at h'⊢;exact LN h h'
   .rw[if_neg e2]at h'⊢;exact h'
  .rw[if_neg e]at h;have h1:=of_decide_eq_true h;by_cases e2:y=z
   .subst e2;rw[if_neg e];exact h
   .rw[if_neg e2]at h';have h2:=of_decide_eq_true h';rw[if_neg (by lia)];exact decide_eq_true (by lia)
theorem range_getD {α:Type}(d:α)(l:List α):(List.range l.length).map (λi=>l.getD i d)=l:=by
 apply List.ext_getElem
 .simp
 .intro i h1 h2;simp[h2]
section
variable {X:Cx}{pins:List (Addr×Obj)}{U:St}{H:Hp}{s:Shared}
theorem zV {α β:Type}{F:α->β->Prop}{d:α}{e:β}:∀{xs:List α}{ys:List β}{i:Nat},Paired F xs ys->i<xs.length->F (xs.getD i d) (ys.getD i e)
 |_,_,_,.nil,h=>absurd h (Nat.not_lt_zero _)
 |_,_,0,.cons h _,_=>h
 |_,_,i+1,.cons _ r,h=>zV (i:=i) r (by simpa using h)
theorem DI {α β:Type}{F:α->β->Prop}{d:α}{e:β}{xs:List α}{ys:List β}(h:Paired F xs ys):∀{l:List Nat},(∀i∈l,i<xs.length)->Paired F (l.map λi=>xs.getD i d) (l.map λi=>ys.getD i e)
 |[],_=>.nil
 |i::l,q=>.cons (zV h (q i (by simp))) (DI h λj hj=>q j (by simp[hj]))
def zW (K:PySem.W.Frag)(H:Hp)(vs:List V)(ts:List (List Int)):Prop:=Paired (λv t=>∃a,v= .ref a/\aA K H a (t.map V.int)) vs ts
theorem Vg:∀{h:Heap}{its:List Value}{ts:List (List Int)},Paired (λu t=>∃a xs,u=Value.ref a/\IsTup h a xs/\IntsAre xs.toList t) its ts->(∀t∈ts,t≠[])->∃fs,KatTups h its fs/\fs.length=its.length/\∀v∈fs,∃i k,v=Value.int i k:=λ{h its ts} q ne=>by
 induction q with
 |nil=>exact⟨[],KatTups.nil,rfl,λ_ z=>by cases z⟩
 | @cons _ t _ ts a r ih=>
  obtain⟨a,xs,e,⟨o,ho,hc,n,hd⟩,hi⟩:=a;subst e;obtain⟨fs,k,l,q⟩:=ih λz hz=>ne z (by simp[hz]);obtain⟨x,hx⟩:∃x r,xs.toList=x::r:=by
   cases uB:xs.toList with
   |nil=>rw[uB]at hi;cases hi;exact absurd rfl (ne [] (by simp))
   |cons x r=>exact⟨x,r,rfl⟩
  obtain⟨rr,hx⟩:=hx;have h0:xs[0]?=some x:=by rw[<-Array.getElem?_toList,hx];rfl
  rw[hx]at hi;refine⟨x::fs,KatTups.cons ho hc hd h0 k,by simp[l],λv hv=>?_⟩;rcases mem_cons.mp hv with rfl|hv
  .cases hi with|cons i k _=>exact⟨i,k,rfl⟩
  .exact q v hv
theorem Vh {α β γ:Type}{F:α->β->Prop}{G:α->γ->Prop}{L:β->γ->Prop}(h:∀v u t,F v u->G v t->L u t):∀{vs:List α}{us:List β}{ts:List γ},Paired F vs us->Paired G vs ts->Paired L us ts:=λ{vs us ts} p q=>by
 induction p generalizing ts with
 |nil=>cases q;exact .nil
 |cons a r ih=>
  cases q with
  |cons b s=>exact .cons (h _ _ _ a b) (ih s)
theorem DJ:∀{vs:List Value}{ns:List Int},IntsAre vs ns->vs.length=ns.length
 |_,_,.nil=>rfl
 |_,_,.cons _ _ r=>by rw[length_cons,length_cons,DJ r]
end
end L2
namespace L2
open PySem PySem.Spec PyProof.Rows
def iB (K:PySem.W.Frag)(H:Hp)(x:V)(ns:List Int):Prop:=∃a,x= .ref a/\aA K H a (ns.map V.int)
noncomputable def fg (K:PySem.W.Frag)(H:Hp)(n:List Int)(u:Value):Bool:=@decide (∃a,u= .ref a/\aA K H a (n.map V.int)) (Classical.propDecidable _)
theorem Vi {ns ms:List Int}(h:ns.map V.int=ms.map V.int):ns=ms:=by
 induction ns generalizing ms with
 |nil=>cases ms with
  |nil=>rfl
  |cons _ _=>cases h
 |cons n ns ih=>cases ms with
  |nil=>cases h
  |cons m ms=>rw[map_cons,map_cons]at h;injection h with h1 h2;injection h1 with h1;rw[h1,ih h2]
section
variable {X:Cx}{pins:List (Addr×Obj)}{U:St}{H:Hp}{s:Shared}
theorem zX (I:Inv X pins U H s){x:V}{u:Value}{ns n:List Int}(h:iB X.K H x ns)(r:RelV x u):fg X.K H n u=decide (ns=n):=by
 obtain⟨a,rfl,ha⟩:=h;cases r;unfold fg;by_cases e:ns=n
 .subst e;rw[decide_eq_true rfl];exact@decide_eq_true _ (Classical.propDecidable _) ⟨a,rfl,ha⟩
 .rw[decide_eq_false e];refine@decide_eq_false _ (Classical.propDecidable _) λzQ=>?_;obtain⟨b,z,hb⟩:=zQ;cases z;exact e (Vi (I.CG ha hb))
theorem DL (I:Inv X pins U H s){A:Around}(hu:A.units+60<cLine){x:V}{v:Value}{n:List Int}(hx:iB X.K H x n)(rx:RelV x v):∀{xs:List V}{us:List Value}{bV:List (List Int)},Vals xs us->Paired (iB X.K H) xs bV->∀u∈us,SeqAt.EqAt A s u v (fg X.K H n u):=λ{xs us bV} p q=>by
 induction p generalizing bV with
 |nil=>exact λu hu=>by cases hu
 | @cons y w xs us r t ih=>
  cases q with
  |@cons _ m _ bV h hs=>
   intro u hm;rcases mem_cons.mp hm with rfl|hm
   .rw[zX I h r];obtain⟨a,rfl,ha⟩:=h;obtain⟨b,rfl,hb⟩:=hx;have q:=zL I 60 (.tup (m.map Dt.int)) (.tup (n.map Dt.int)) (.ref a) (.ref b) u v A (Lv _) hu (Dv ha) (Dv hb) r rx;rw[Lu]at q;exact q
   .exact ih hs u hm
theorem LO (I:Inv X pins U H s){n:List Int}:∀{xs:List V}{us:List Value}{bV:List (List Int)},Vals xs us->Paired (iB X.K H) xs bV->us.any (fg X.K H n)=decide (n∈bV):=λ{xs us bV} p q=>by
 induction p generalizing bV with
 |nil=>cases q;simp
 | @cons y w xs us r t ih=>
  cases q with
  |@cons _ m _ bV h hs=>
   rw[any_cons,zX I h r,ih hs];by_cases e:m=n
   .subst e;simp
   .have e':¬n=m:=λz=>e z.symm;simp[e,e']
noncomputable def DM (K:PySem.W.Frag)(neg:Bool):R2:=λx y H Q=>∃p xs n bV,y= .ref p/\ah K H p xs/\iB K H x n/\Paired (iB K H) xs bV/\Q (.bl (if neg then !decide (n∈bV)else decide (n∈bV))) H
end
section
variable {X:Cx}
theorem LP (hu:X.A.units+64<cLine):bK X (compareOp .In) (DM X.K false):=by
 intro pins s U H x y v u Q I rx ry h;obtain⟨p,xs,n,bV,rfl,hq,hx,hs,q⟩:=h;cases ry;obtain⟨its,r,pl,hz⟩:=I.list hq;refine SeqAt.in_listAt (fg X.K H n) pl.isList (λw hw=>DL I ?_ hx rx r hs w (by simpa using hw)) ⟨.bl _,H,I,rfl,?_⟩
 .first|(have e:X.A.in1.units=X.A.units+1:=rfl;lia)|(have e:X.A.in1.units=X.A.units:=rfl;lia)|(have e:=Around.units_in1 X.A;lia)
 .rw[show its.toArray.any (fg X.K H n)=its.any (fg X.K H n)by simp,LO I r hs];exact q
theorem Vj (hu:X.A.units+64<cLine):bK X (compareOp .NotIn) (DM X.K true):=by
 intro pins s U H x y v u Q I rx ry h;obtain⟨p,xs,n,bV,rfl,hq,hx,hs,q⟩:=h;cases ry;obtain⟨its,r,pl,hz⟩:=I.list hq;refine SeqAt.notIn_listAt (fg X.K H n) pl.isList (λw hw=>DL I ?_ hx rx r hs w (by simpa using hw)) ⟨.bl _,H,I,rfl,?_⟩
 .first|(have e:X.A.in1.units=X.A.units+1:=rfl;lia)|(have e:X.A.in1.units=X.A.units:=rfl;lia)|(have e:=Around.units_in1 X.A;lia)
 .rw[show its.toArray.any (fg X.K H n)=its.any (fg X.K H n)by simp,LO I r hs];exact q
end
section
variable {X:Cx}{scope:Scope}{N':List Str}{ix:List (Option Nat)}{C:Addr}{fp:List Addr}{ae:Shared}{af:Hp}{pins:List (Addr×Obj)}{U:St}
theorem LQ (I:Inv X pins U af ae)(hf:∀b∈fp,dP X pins af b){ps:List (Addr×Obj)}{U':St}{H':Hp}{s':Shared}(I':Inv (aE X scope N' C fp ae af) ps U' H' s'):Inv X pins U H' s':=I.CF (ch:=fp) I'.os I'.base I'.ag I'.bare λb hb=>by obtain⟨_,f1,_,f3,f4,f5⟩:=hf b hb;exact⟨f3,f1,f4,f5⟩
end
section
variable {X:Cx}{pins:List (Addr×Obj)}{U:St}{H:Hp}{s:Shared}{a:Addr}{y v:V}{u r:Value}{A:Around}{E:Value->Shared->Prop}
theorem Vl {H':Hp}{Q:Unit->Shared->Prop}(hu:A.units<cLine)(I:Inv X pins U H s)(g:iq H a y v H')(ry:RelV y u)(rv:RelV v r)(h:∀s',Inv X pins U H' s'->Q () s'):wpAny (model X.prog X.w) A (dictSet a u r) Q E s:=by
 rcases g with⟨aa,k,e,ey,l,eH⟩|⟨aa,k,b,e,ey,eb,l,eH⟩
 .subst ey eH;obtain⟨z,hd,vs,rel,dd⟩:=K3 I.ag e;have hz:vs.length<=sizeLine:=by rw[<-rel.length];exact z
  have hl:(putK aa k v).length<=sizeLine:=by have:=tI aa k v;lia
  refine wpAny_dictSet_pairs (hsz:=hz) (ny ry) dd λh' iY hs=>h _ ?_;have he:∃q,h'.get? a=some q:=let⟨q,_,_,hq,_⟩:=iY;⟨q,hq⟩;exact qX I (by rw[e];exact True.intro) hs he (K4 hl hd (rel.put k rv) iY)
 .subst ey eH;cases(show u=Value.ref b from ry);obtain⟨z,hd,xs,rel,dd⟩:=Dh I.ag e;have hz:xs.length<=sizeLine:=by rw[<-Paired.length rel];exact z
  have hl:(putK aa k v).length<=sizeLine:=by have:=tI aa k v;lia
  refine wpAny_dictSet_heap (hsz:=hz) (knd:=tupleKind (za X.prog X.w)) hu (lU I.ag eb) dd λh' iY hs=>h _ ?_;obtain⟨q,es,ep,hq,h2,h3,h4,_,h5⟩:=iY;refine qX I (by rw[e];exact True.intro) hs ⟨q,hq⟩ ⟨hl,hd,_,(rel.put k eb rv).keeps λc ys ec=>?_,q,es,ep,hq,h2,h3,h4,h5⟩;rw[jf (vq ec e (λz=>nomatch z))];exact ec
end
section
variable {prog:Program}{w:World}{A:Around}{R:Result->Shared->Prop}{s:Shared}
theorem Vm {kx vx target iter:Expr}{ifs:List Expr}{scope:Scope}{pos:Pos}{it:Value}{D:Addr}{env:Env}(I:Nat->Shared->Prop)(turn:∀n s,I n s->wpAny (model prog w) A (pyNext it) (λr aj=>match r with
   |none=>R (.ok .next) aj
   |some v=>wpAny (model prog w) A (letOwnedTupleGo target it v) (λ_ aj=>wpAny (model prog w) A (assign target env v) (λ_ ae=>wpAny (model prog w) A (forIn ifs true λc r=>if r=true then do let ok<-isTrue c env (eval c env);pure (ForInStep.yield ok)else pure (ForInStep.yield r)) (λok aB=>if ok=true then wpAny (model prog w) A (eval kx env) (λkv bQ=>wpAny (model prog w) A (eval vx env) (λvv iZ=>wpAny (model prog w) A (dictSet D kv vv) (λ_ i7=>∃m,m<n/\I m i7) bZ iZ) bZ bQ) bZ aB
      else ∃m,m<n/\I m aB) bZ ae) bZ aj) bZ aj) bZ s)(n:Nat)(h:I n s):codeAny (model prog w) A (.compLoop (.DictComp kx vx [⟨target,iter,ifs,0⟩] scope pos) 0 it (.ref D) env) R s:=by
 refine codeAny_loop rfl I (λn s hI=>?_) n h;have no:∀{α:Type}{t:Sem α}{Q:α->Shared->Prop}{E:Value->Shared->Prop}{s:Shared},wpAny (model prog w) A t Q bZ s->wpAny (model prog w) A t Q E s:=λh=>wpAny_mono h (λ_ _ q=>q) λ_ _ z=>z.elim;show wpAny _ A ((compTurn (.DictComp kx vx [⟨target,iter,ifs,0⟩] scope pos) 0 it (.ref D) env).onRaise (λx=>do noteFrame x env;theTreesLotGoes x)) _ _ s;rw[compTurn_dict];refine wpAny_noted (wpAny_bind (wpAny_standAt (wpAny_bind (no (ai (turn n s hI) λr aj h₁=>?_)))));cases r with
 |none=>exact wpAny_pure h₁
 |some v=>
  refine wpAny_bind (no (ai h₁ λ_ aj h₁=>wpAny_bind (no (ai h₁ λ_ ae bA=>wpAny_bind (no (ai bA λok aB dz=>?_))))));cases ok with
  |false=>exact wpAny_pure ⟨rfl,dz⟩
  |true=>refine wpAny_bind (wpAny_bind (no (ai dz λkv bQ cg=>wpAny_bind (wpAny_holding (no (ai cg λvv iZ bg=>?_))))));exact wpAny_bind (wpAny_standAt (wpAny_holding (no (ai bg λ_ i7 cj=>wpAny_pure ⟨rfl,cj⟩))))
end
section
variable {X:Cx}{scope:Scope}{N':List Str}{ix:List (Option Nat)}{C:Addr}{fp:List Addr}{ae:Shared}{af:Hp}{pins:List (Addr×Obj)}{U:St}
theorem LR (I:Inv X pins U af ae)(co:ir X.N X.env.scope scope N' ix){h₁:Heap}{t':Nat}(hC:@Eq Nat C ae.heap.objs.size)(hf:∀b∈fp,dP X pins af b)(ax:∀b∈fp,b<ae.heap.objs.size)(old:∀b o,ae.heap.get? b=some o->h₁.get? b=some o){m:Str->Option Value}(qV:h₁.Ns C m):
  Inv (aE X scope N' C fp ae af) [] (fQ ix U) af {ae with heap:=h₁,toks:=t'} where
 ok:=Lc I co (by lia) hf ax
 os:=rfl
 bare:=I.bare
 base:=Un.kept old
 loc :=by
  refine⟨m,qV,λi x v e1 e2 e3=>?_⟩;unfold fQ at e2;rw[getElem?_map]at e2;cases q:ix[i]? with
  |none=>rw[q]at e2;cases e2
  | some o=>
   rw[q]at e2;cases o with
   |none=>cases e2
   | some k=>
    have gG:(U[k]?).join=some v:=Option.some.inj e2;have oT:U[k]?=some (some v):=by
     cases z:U[k]? with
     |none=>rw[z]at gG;cases gG
     |some o=>rw[z]at gG;exact congrArg some gG
    obtain⟨o1,o2,o3⟩:=co.out i x k e1 q;have hk:X.env.kindOf x=some .cell\/X.env.kindOf x=some .free:=co.frees _ o2 rfl;obtain⟨m0,_,hl⟩:=I.loc;obtain⟨u,r,l⟩:=hl k x v o1 oT (.inr hk);refine⟨u,r,?_⟩;rcases l with⟨l,_⟩|⟨_,c,ec,dN⟩
    .rcases hk with z|z
     .rw[z]at l;cases l
     .rw[z]at l;cases l
    .refine .inr ⟨?_,c,Dl o2 ec,?_⟩
     .rcases e3 with z|z|z
      .obtain⟨k',hm,q⟩:=gp z;rcases q with q|⟨_,q⟩
       .have:=o3 _ hm rfl;rw[show k'=NameKind.local from q]at this;cases this
       .cases q
      .exact .inl z
      .exact .inr z
     .obtain⟨o,ho,hd⟩:=dN;exact⟨o,old _ _ ho,hd⟩
 cell:=λx c e=>by obtain⟨v,o,ho,hd⟩:=I.cell x c (kh e);exact⟨v,o,old _ _ ho,hd⟩
 free:=I.ag.fresh (by show@LE.le Nat _ ae.heap.objs.size C;lia)
 dW:=λx c e=>I.dW x c (kh e)
 pin:=λp hp=>by
  have i0:p∈([]:List (Addr×Obj)):=by simpa[aE]using hp
  cases i0
 ag:=I.ag.kept old
 len:=by unfold fQ;rw[length_map];exact co.len
end
noncomputable def DN (J:It)(g:TG)(ti:TT)(tk tv:TE)(D:Addr)(QF:Hp->Prop)(W:Nat->Nat->St->Hp->Prop):Prop:=∀i m U H,W i m U H->(J.stop i H/\QF H)\/(J.go i H/\∃N:St->Hp->Prop,(∀U' H',N U' H'->∃m',m'<m/\W (i+1) m' U' H')/\∀x H',J.dO i H x H'->g x U H' λU2 H2=>ti U2 H2 λb H3=>if b=true then tk U2 H3 λy H4=>tv U2 H4 λz H5=>∃H6,iq H5 D y z H6/\N U2 H6 else N U2 H3)
noncomputable def Vn (new:HO)(ix:List (Option Nat))(wi:TI)(g:TG)(ti:TT)(tk tv:TE):TE:=λU H Q=>wi U H λJ H1=>∀D,H1 D=none->∃W:Nat->Nat->St->Hp->Prop,(∃m,W 0 m (fQ ix U) (upd H1 D new))/\DN J g ti tk tv D (λH=>Q (.ref D) H) W
section
variable {X:Cx}
theorem Vo {scope:Scope}{N':List Str}{ix:List (Option Nat)}{pins:List (Addr×Obj)}{U:St}{tg iter kx vx:Expr}{ifs:List Expr}{pos:Pos}{g:TG}{ti:TT}{tk tv:TE}{E:Value->Shared->Prop}{D:Addr}(co:ir X.N X.env.scope scope N' ix)(hc:X.calm=true)(hu:X.A.units<cLine)(hg:∀C fp ae af,PG (aE X scope N' C fp ae af) tg g)(hi:∀C fp ae af,lV (aE X scope N' C fp ae af) ifs ti)(hk:∀C fp ae af,PE (aE X scope N' C fp ae af) kx tk)(hv:∀C fp ae af,PE (aE X scope N' C fp ae af) vx tv){af:Hp}{ae:Shared}{J:It}{fp:List Addr}{it:Addr}{tn:Nat->Heap->Prop}{QF:Hp->Prop}{W:Nat->Nat->St->Hp->Prop}(I:Inv X pins U af ae)(T:Turn X.prog X.w X.K tg J fp it tn)(st:tn 0 ae.heap)(hf:∀b∈fp,dP X pins af b)(w0:∃m,W 0 m (fQ ix U) af)(hW:DN J g ti tk tv D QF W){RR:Addr->Result->Shared->Prop}(tM:∀C H' s',Inv X pins U H' s'->QF H'->qY X pins H' s' C->RR C (.ok .next) s'):
  wpAny (model X.prog X.w) X.A (newFunctionEnv scope X.env.globals (fP scope X.env) [] X.env.qual none .none (some X.env)) (λfb bQ=>codeAny (model X.prog X.w) X.A (.compStart (.DictComp kx vx [⟨tg,iter,ifs,0⟩] scope pos) 0 (.ref it) (.ref D) {fb with scope:=relabel scope X.env}) (RR fb.locals) bQ) E ae:=by
 have ax:∀b∈fp,@LT.lt Nat _ b ae.heap.objs.size:=λb hb=>by obtain⟨o,e,_⟩:=T.obj _ _ st b hb;exact Heap.lt_size e
 refine wpAny_newFunctionEnv co.zG (by intro y hy;simp at hy) (λh₁ aZ aV=>?_) co.kind;have below:∀b:Nat,b<ae.heap.objs.size->¬@Eq Nat b ae.heap.objs.size:=λb hb=>by lia
 have old:∀b o,ae.heap.get? b=some o->h₁.get? b=some o:=λb o e=>aV.extBut b o (below b (Heap.lt_size e)) (Heap.get?_push_of_some _ e);have cx:tn 0 h₁:=T.keep _ _ _ st λb _ o e=>old b o e;generalize rh:ae.heap.objs.size=C at aZ aV below⊢;have loop:∀aB:Shared,aB={ae with heap:=h₁,toks:=ae.toks+([]:List (Str×Value)).length}->codeAny (model X.prog X.w) X.A (.compLoop (.DictComp kx vx [⟨tg,iter,ifs,0⟩] scope pos) 0 (.ref it) (.ref D) (compEnvC scope (fP scope X.env) C X.env)) (RR C) aB:=by
  rintro aB rfl
  obtain⟨m0,w0⟩:=w0;have I3:Inv (aE X scope N' C fp ae af) [] (fQ ix U) af {ae with heap:=h₁,toks:=ae.toks+([]:List (Str×Value)).length}:=LR I co rh.symm hf ax old aZ;refine Vm (λk s'=>∃i U' H',Inv (aE X scope N' C fp ae af) [] U' H' s'/\tn i s'.heap/\(∀b∈fp,H' b=none)/\W i k U' H') ?_ m0 ⟨0,_,_,I3,cx,λb hb=>(hf b hb).1,w0⟩
  rintro k s' ⟨i,U',H',I',bD,kM,w'⟩
  have cW:∀{H':Hp},(∀b∈fp,H' b=none)->∀b∈fp,dP (aE X scope N' C fp ae af) [] H' b:=λ{H'} hn b hb=>by
   refine⟨hn b hb,below b (rh ▸ ax b hb),λz=>?_,.inl hb,λx c e=>(hf b hb).2.2.2.2.1 x c (kh e),λp hp=>?_⟩
   .rcases mem_cons.mp (I.mO b z)with e|e
    .exact(hf b hb).2.1 e
    .exact(hf b hb).2.2.1 e
   .have i0:p∈([]:List (Addr×Obj)):=by simpa[aE]using hp
    cases i0
  rcases hW i k U' H' w' with⟨stop,q⟩|⟨go,N,hN,step⟩
  .refine ai (T.done (aE X scope N' C fp ae af) rfl rfl rfl hc i _ s' U' H' bZ I' (cW kM) bD stop) λr s4 ⟨hr,I4⟩=>?_;subst hr;have cf:H' C=none:=I4.free;refine tM C H' s4 (LQ I hf I4) q ⟨?_,cf,?_,?_,λx c e=>?_,λp hp=>?_⟩
   .obtain⟨m,hn,_⟩:=I4.loc;exact⟨m,hn⟩
   .have z:@LT.lt Nat _ X.env.locals ae.heap.objs.size:=I.lt;show¬@Eq Nat C X.env.locals;lia
   .have z:@LE.le Nat _ X.av.heap.objs.size ae.heap.objs.size:=I.sz;show@LE.le Nat _ X.av.heap.objs.size C;lia
   .obtain⟨v,z⟩:=I.cell x c e;have z2:@LT.lt Nat _ c ae.heap.objs.size:=z.lt;show¬@Eq Nat c C;lia
   .have z2:@LT.lt Nat _ p.1 ae.heap.objs.size:=Heap.lt_size (I.pin p hp).1;show¬@Eq Nat p.1 C;lia
  .refine ai (T.item (aE X scope N' C fp ae af) rfl rfl rfl hc i _ s' U' H' bZ I' (cW kM) bD go) λr s4 zQ=>?_;obtain⟨u,hr,h4⟩:=zQ;subst hr;refine ai h4 λ_ s5 zQ=>?_;obtain⟨x,H5,I5,r5,y5,eT,oJ⟩:=zQ;have oK:=I5.pinned (cW oJ) (T.obj _ _ eT);refine ai (hg C fp ae af _ s5 U' H5 x u _ oK r5 (step x H5 y5)) λ_ s6 zQ=>?_;obtain⟨U6,H6,I6,q6⟩:=zQ;refine ai (hi C fp ae af _ s6 U6 H6 _ I6 q6) λok s7 zQ=>?_;obtain⟨H7,I7,q7⟩:=zQ;have back:∀{U8:St}{H8:Hp}{s8:Shared},Inv (aE X scope N' C fp ae af) ([]++kG fp s5.heap) U8 H8 s8->N U8 H8->∃m',m'<k/\∃i U' H',Inv (aE X scope N' C fp ae af) [] U' H' s8/\tn i s8.heap/\(∀b∈fp,H' b=none)/\W i m' U' H':=λ{U8 H8 s8} I8 n8=>by
    obtain⟨m',hm,w8⟩:=hN _ _ n8;have dA:∀b∈fp,∀o,s5.heap.get? b=some o->s8.heap.get? b=some o/\H8 b=none:=λb hb o e=>by have z:=I8.pin (b,o) (mem_append_right _ (mem_append_right _ (sQ hb e)));exact⟨z.1,z.2.1⟩
    refine⟨m',hm,i+1,U8,H8,I8.qP,T.keep _ _ _ eT λb hb o e=>(dA b hb o e).1,λb hb=>?_,w8⟩;obtain⟨o,e,_⟩:=T.obj _ _ eT b hb;exact(dA b hb o e).2
   cases ok with
   |false=>have dB:=q7;rw[if_neg Bool.false_ne_true]at dB;exact back I7 dB
   |true=>have dB:=q7;rw[if_pos rfl]at dB;show wpAny _ _ _ _ _ _;refine ai (hk C fp ae af _ s7 U6 H7 _ I7 dB) λkv s8 zQ=>?_;obtain⟨y,H8,I8,r8,q8⟩:=zQ;refine ai (hv C fp ae af _ s8 U6 H8 _ I8 q8) λvv s9 zQ=>?_;obtain⟨z,H9,I9,r9,H10,dp,q9⟩:=zQ;exact Vl (X:=aE X scope N' C fp ae af) (A:=X.A) hu I9 dp r8 r9 λfS gH=>back gH q9
 exact codeAny_compStart_dict (loop _ rfl) (T.self _ 0 _ _ _ cx (loop _ rfl))
variable {scope:Scope}{N':List Str}{ix:List (Option Nat)}{tg iter kx vx:Expr}{ifs:List Expr}{pos:Pos}{wi:TI}{g:TG}{ti:TT}{tk tv:TE}
theorem Vp (new:HO)(oR:new= .dK []\/new= .dT [])(hu:X.A.units+1<cLine)(co:ir X.N X.env.scope scope N' ix)(hc:X.calm=true)(hit:PI X tg iter wi)(hg:∀C fp ae af,PG (aE X scope N' C fp ae af) tg g)(hi:∀C fp ae af,lV (aE X scope N' C fp ae af) ifs ti)(hk:∀C fp ae af,PE (aE X scope N' C fp ae af) kx tk)(hv:∀C fp ae af,PE (aE X scope N' C fp ae af) vx tv)(hs:autoParam (∀x,foldedSetIterable iter X.env x=pure x) aP3):
  PE X (.DictComp kx vx [⟨tg,iter,ifs,0⟩] scope pos) (Vn new ix wi g ti tk tv):=by
 intro pins s U H Q I h;show wpAny _ _ (comprehension (.DictComp kx vx [⟨tg,iter,ifs,0⟩] scope pos) scope X.env _ newDict false (eval iter X.env)) _ _ s;refine wpAny_comprehension_free (use:=none) rfl hs (zI co I) co.kind co.names (ai (hit pins s U H _ I h) λxv aj h₁=>ai h₁ λqN ae bA=>?_);obtain⟨it,fp,tn,J,af,e,cX,T,st,hf,hq⟩:=bA;subst e;refine wpAny_newObj_type ?_;have hn:af ae.heap.objs.size=none:=cX.ag.fresh (le_refl _);have Vq:vc X.prog X.w (upd af ae.heap.objs.size new) (ae.heap.push {cls:=.type "dict",dict:=none,data:=.dict #[]}) ae.heap.objs.size new:=by
  rcases oR with z|z
  .rw[z];exact TC ae.heap cX.big
  .rw[z];exact K8 ae.heap cX.big
 have oZ:Inv X pins U (upd af ae.heap.objs.size new) {ae with heap:=ae.heap.push {cls:=.type "dict",dict:=none,data:=.dict #[]}}:=cX.laid (a:=ae.heap.objs.size) (o:=new) (t':=ae.toks) (λ_ _ q=>Heap.get?_push_of_some _ q) (le_refl _) Vq;obtain⟨W,w0,hW⟩:=hq ae.heap.objs.size hn;have cM:∀b∈fp,dP X pins (upd af ae.heap.objs.size new) b:=λb hb=>by obtain⟨f0,f⟩:=hf b hb;obtain⟨o,e,_⟩:=T.obj _ _ st b hb;exact⟨by rw[jf (ne_of_lt (Heap.lt_size e))];exact f0,f⟩
 refine Vo co hc (Nat.lt_of_succ_lt hu) hg hi hk hv oZ T (T.keep _ _ _ st λb _ o e=>Heap.get?_push_of_some _ e) cM w0 hW (RR:=λC=>compPost (model X.prog X.w) X.A X.xe none (EP X pins U Q) (.ref ae.heap.objs.size) C) λC H' s' I' q G=>?_;obtain⟨m,hn⟩:=G.ns;exact⟨m,hn,λh' iu=>⟨.ref ae.heap.objs.size,_,G.go I' iu,rfl,q⟩⟩
end
section
variable {X:Cx}{pins:List (Addr×Obj)}{U:St}{H:Hp}{s:Shared}{h':Heap}
theorem Inv.Vr {t':Nat}{ch:List Addr}{p:Addr}{o':HO}(I:Inv X pins U H s)(gA:∀b∈ch,dP X pins H b)(k:∀b o,b∉ch->s.heap.get? b=some o->h'.get? b=some o)(hp:s.heap.objs.size<=p)(new:vc X.prog X.w (upd H p o') h' p o'):Inv X pins U (upd H p o') {s with heap:=h',toks:=t'}:=by
 have neT:∀{b:Addr}{u:HO},H b=some u->b≠p:=λ{b u} e=>ne_of_lt (lt_of_lt_of_le (I.ag.lt e) hp);have oB:∀{b:Addr}{u:HO},H b=some u->b∉ch:=λ{b u} e z=>by rw[(gA b z).1]at e;cases e
 refine I.step (g':=s.gens) (d':=s.drawn) (ch:=ch) (λb hb=>?_) (λb o _ _ hc e _=>k b o hc e) (λb o _ _ hc e _=>⟨o.slots,k b o hc e⟩) (λb o _ e n=>?_) (λb o hc e=>⟨o,k b o hc e⟩) (λb xs e=>by rw[jf (neT e)];exact e) (λb o u e=>by rw[jf (neT e)];exact e) (λb ps e=>⟨#[],by rw[jf (neT e),e];simp⟩) (λm hm=>?_) (λb u e=>?_) I.bare
 .obtain⟨_,f1,_,f3,f4,f5⟩:=gA b hb;exact⟨f3,f1,f4,f5⟩
 .rw[jf (ne_of_lt (lt_of_lt_of_le (Heap.lt_size e) hp))];exact n
 .obtain⟨o,es,ep,ho,r⟩:=hm;exact⟨o,es,ep,k _ o (λz=>(gA _ z).2.1 rfl) ho,r⟩
 .by_cases hb:b=p
  .subst hb;rw[jc]at e;cases e;exact new
  .rw[jf hb]at e;refine(I.ag b u e).cT (λc v hc q=>k c v ?_ q) (λc q=>by rw[jf (neT q)];exact q) λc xs q=>by rw[jf (neT q)];exact q
   rcases hc with z|z
   .rw[z];exact oB e
   .exact oB z
end
theorem LS (bt:Nat->Nat->Bool):∀k,argBest bt k<=k
 |0=>le_refl _
 |k+1=>by have:=LS bt k;unfold argBest;split<;>lia
section
variable {prog:Program}{w:World}{A:Around}{s:Shared}{l it S:Addr}{vs:List Value}{bt:Nat->Nat->Bool}{R:Result->Shared->Prop}
theorem Vs {id:String}{args:Args}{b:Builtin}(hb:entryFor table id=some b):(model prog w).den (.builtin id args)=b args:=by show(match entryFor table id with|some b=>b args|none=>unsupported ((withoutEnding? id "#data").getD id))=_;rw[hb]
end
theorem LU:∀{vs:List Value}{ns:List Int},IntsAre vs ns->Vals (ns.map V.int) vs
 |_,_,.nil=>.nil
 |_,_,.cons n t r=>.cons ⟨t,rfl⟩ (LU r)
section
variable {X:Cx}{K:PySem.W.Frag}
theorem LW {es:List Expr}{k:Nat}{pos:Pos}{t:mV}(hK:X.K=K)(hc:X.calm=true)(n:Nat)(h:sN X es t)(hn:(assignEach es X.env).length=n)(ig:(assignEach es X.env).findIdx? (·.1)=none):PG X (.Tuple es k pos) (CJ K n t):=by subst hK;exact lG hc h hn ig
theorem LX (hK:X.K=K):yW X (KN K):=by subst hK;exact kJ
end
end L2
namespace PySem
section
variable {prog:Program}{w:World}{K:Type}[DecidableEq K]{knd:HeapKind prog w K}{A:Around}{E:Value->Shared->Prop}{s:Shared}
theorem Vu {h:Heap}{d a:Addr}{xs:List (K×Addr×Value)}{k:K}{v:Value}{o:Obj}{es:Array DictEntry}{ep:Nat}(ho:h.get? d=some o)(hc:o.ExactDict)(hd:o.data= .dict es ep)(he:es.toList=xs.map (entryOfKey knd))(zY:∀x∈xs,knd.is h x.1 x.2.1)(hn:(xs.map (·.1)).Nodup)(bY:knd.is h k a)(DO:k∉xs.map (·.1)):(h.update d (Obj.mapDictKeys (·.push ⟨knd.hash k,.ref a,v⟩))).DictOfH knd d (xs++[(k,a,v)]):=by
 refine⟨_,_,ep+1,Heap.get?_update_self _ ho (Obj.isFreed_of_dict (Obj.data_mapDictKeys hd _)),hc.mapDictKeys _,Obj.data_mapDictKeys hd _,by simp[he,entryOfKey],λx hx=>?_,?_⟩
 .have old:knd.is h x.1 x.2.1:=(mem_append.mp hx).elim (zY x) λz=>by
   rw[mem_singleton.mp z];exact bY
  exact knd.keeps old ho hd (Heap.SameBut.update ..)
 .have p:((xs++[(k,a,v)]).map (·.1)).Perm (k::xs.map (·.1)):=by
   rw[map_append];exact List.perm_append_comm
  exact p.nodup_iff.mpr (nodup_cons.mpr ⟨DO,hn⟩)
theorem Vv {d a:Addr}{xs:List (K×Addr×Value)}{k:K}{dflt:Value}{Q:Value->Shared->Prop}(hu:knd.room A)(bY:knd.is s.heap k a)(hm:s.heap.DictOfH knd d xs)(hsz:xs.length<=sizeLine)(h1:∀p,atKey xs k=some p->Q p.2 {s with toks:=s.toks+knd.draws k})(h2:atKey xs k=none->∀h',h'.DictOfH knd d (xs++[(k,a,dflt)])->Heap.SameBut d s.heap h'->Q dflt {s with heap:=h',toks:=s.toks+knd.draws k}):
  wpAny (model prog w) A (dictSetDefault d (.ref a) dflt) Q E s:=by
 obtain⟨o,es,ep,ho,hc,hd,he,zY,hn⟩:=hm;have sz:es.size=xs.length:=by have:=congrArg List.length he;simpa using this
 unfold dictSetDefault;refine wpAny_holding (wpAny_bind (knd.pyHash hu bY (wpAny_bind (wpAny_dictFind_heap (s:={s with toks:=s.toks+knd.draws k}) hu bY ho hd he zY hn (λlP=>?_) (λj p hj=>?_)))))
 .refine wpAny_bind (wpAny_rule (wpAny_bind (wpAny_updateDictKeys (hz:=by lia) (s:={s with toks:=s.toks+knd.draws k}) ho hd (wpAny_pure (h2 (atKey_none_of_get lP) _ (Vu ho hc hd he zY hn bY (not_mem_keys_of_get lP)) (Heap.SameBut.update ..))))))
 .refine wpAny_bind (wpAny_dictEntries (s:={s with toks:=s.toks+knd.draws k}) ho hd ?_);rw[entry_at he j,hj];exact wpAny_bind (wpAny_rule (wpAny_pure (h1 _ (atKey_of_get hn hj))))
theorem Vw (knd:HeapKind prog w K)(d a:Addr)(hd:(d==sysModules)=false)(dflt:Value):MeetsIn prog w (Builtin.«dict.setdefault» ⟨[.ref d,.ref a,dflt],[]⟩) (λA R s=>knd.room A.in1/\∃k xs,knd.is s.heap k a/\s.heap.DictOfH knd d xs/\xs.length<=sizeLine/\(∀p,atKey xs k=some p->R (.ok (.ret p.2)) {s with toks:=s.toks+knd.draws k})/\(atKey xs k=none->∀h',h'.DictOfH knd d (xs++[(k,a,dflt)])->Heap.SameBut d s.heap h'->R (.ok (.ret dflt)) {s with heap:=h',toks:=s.toks+knd.draws k})):=
 .of_wp λA R s ⟨hu,k,xs,bY,hm,hz,h1,h2⟩=>by have run:=Vv (prog:=prog) (w:=w) (E:=λe s'=>R (.error e) s') (Q:=λv s'=>R (.ok (.ret v)) s') hu bY hm hz h1 h2;unfold Builtin.«dict.setdefault» Builtin.Dict.keyAndDefault;refine wpAny_bind (wpAny_bind (wpAny_notOrdered_dict hm.typeIs ?_));show wpAny _ _ (pure (d,Value.ref a,some dflt)) _ _ s;refine wpAny_pure ?_;show wpAny _ _ (if(d==sysModules)=true then _ else(dictSetDefault d (.ref a) dflt >>= _)) _ _ s;rw[if_neg (by rw[hd];exact Bool.false_ne_true)];exact wpAny_bind (wpAny_mono run (λv s' q=>wpAny_pure ⟨v,rfl,q⟩) λ_ _ z=>z)
end
end PySem
namespace L2
open PySem PySem.Spec PyProof.Rows
noncomputable def Vx (td ty tx:TE):TE:=λU H Q=>td U H λx H1=>∃a,x= .ref a/\zF H1 a/\ty U H1 λy H2=>tx U H2 λz H3=>∃aa k b,H3 a=some (.dT aa)/\y= .ref b/\H3 b=some (.tup (k.map kV))/\aa.length<sizeLine/\(∀v,aX aa k=some v->Q v H3)/\(aX aa k=none->Q z (upd H3 a (.dT (putK aa k z))))
section
variable {X:Cx}{o e f:Expr}{apos au:Pos}{td ty tx:TE}
theorem LY (hu:X.A.units+1<cLine)(ho:PE X o td)(he:PE X e ty)(hf:PE X f tx)(m:M2 X o "setdefault" apos e f au):PE X (.Call (.Attribute o "setdefault" apos) [e,f] [] au) (Vx td ty tx):=by
 intro pins s U H Q I h;refine wpAny_Call_method m.base m.few m.line PySem.F.plainAttrs_dict PySem.F.slot_dict_setdefault PySem.F.type_dict_setdefault (ai (ho pins s U H _ I h) λu s1 zQ=>?_);obtain⟨x,H1,I1,rx,a,ex,d,q1⟩:=zQ;subst ex;obtain rfl:u=Value.ref a:=rx;obtain⟨t1,t2,_⟩:=Dj I1 d;refine⟨t1,t2,?_⟩;rw[m.trees];refine Calls.callWith_builtin rfl (Calls.evalArgs_plain (Calls.spliced_cons (ai (he pins s1 U H1 _ I1 q1) λiv s2 ⟨y,H2,I2,ry,q2⟩=>Calls.spliced_cons (ai (hf pins s2 U H2 _ I2 q2) λfv s3 ⟨z,H3,I3,rz,aa,k,b,ea,ey,eb,hl,g1,g2⟩=>Calls.spliced_nil ?_))));subst ey;cases(show iv=Value.ref b from ry);obtain⟨hz,hd,xs,rel,dd⟩:=Dh I3.ag ea;have LH:xs.length<=sizeLine:=by rw[<-Paired.length rel];exact hz
 refine call_meetsIn PySem.F.slot_dict_setdefault dd.typeIs PySem.F.entry_dict_setdefault (PySem.F.args_dict_setdefault_3 _ _ _) (Vw (tupleKind (za X.prog X.w)) a b hd fv) ⟨tupleKind_room_in1 hu,k,xs,lU I3.ag eb,dd,LH,λp hp=>?_,λhn h' iY hs=>?_⟩
 .have rv:=rel.val k;rw[hp]at rv;cases hv:aX aa k with
  |none=>rw[hv]at rv;cases rv
  |some v=>rw[hv]at rv;exact⟨v,H3,I3.tok _,rv,g1 v hv⟩
 .have rv:=rel.val k;rw[hn]at rv;have hv:aX aa k=none:=by
   cases hv:aX aa k with
   |none=>rfl
   |some v=>rw[hv]at rv;cases rv
  have KW:(putK aa k z).length<=sizeLine:=by have:=tI aa k z;lia
  have uC:=rel.put k eb rz;rw[storedH_new hn]at uC;obtain⟨q,es,ep,hq,h2,h3,h4,_,h5⟩:=iY;refine⟨z,_,qX (ob:=.dT (putK aa k z)) I3 (by rw[ea];exact True.intro) hs ⟨q,hq⟩ ⟨KW,hd,_,uC.keeps λc ys ec=>?_,q,es,ep,hq,h2,h3,h4,h5⟩,rz,g2 hv⟩;rw[jf (vq ec ea (λz=>nomatch z))];exact ec
end
end L2
namespace PySem
section
variable {prog:Program}{w:World}{A:Around}{E:Value->Shared->Prop}{s:Shared}
theorem Vy {it d:Addr}{i ep:Nat}{es:Array DictEntry}{od:Obj}{Q:Option Value->Shared->Prop}(hit:s.heap.IsKeyIter it d i es.size ep)(eJ:s.heap.get? d=some od)(bU:od.data= .dict es ep)(ax:i<es.size)(hQ:∀h',h'.IsKeyIter it d (i+1) es.size ep->Heap.SameBut it s.heap h'->Q (some es[i].key) {s with heap:=h'}):wpAny (model prog w) A (pyNext (.ref it)) Q E s:=by
 obtain⟨o,ho,hc,hd⟩:=id hit;have hT:=hit.typeIs;unfold pyNext;refine wpAny_bind (wpAny_attempt ?_);refine wpAny_callSpecial?_slot hT F.slot_dict_keyiterator_next ?_;refine wpAny_call_entry F.slot_dict_keyiterator_next hT F.entry_dict_keyiterator_next ?_ (F.args_dict_keyiterator_next_1 _);unfold Builtin.«dict_keyiterator.__next__»;wp_walk using wpAny_typeNameOfWhole_keyiter hT,wpAny_fieldsOf ho hd,wpAny_dictEntries eJ bU,wpAny_dictEpoch eJ bU,wpAny_isOneOf_keyiter hT;rw[if_neg (show¬(i:Int)<0 by lia),Int.toNat_natCast,Array.getElem?_eq_getElem ax];have Vz:Builtin.Dict_items.ownsTuple "dict_keyiterator"=false:=by decide
 have uD:(s.heap.update it (Obj.mapFields (·.setIfInBounds 1 (rawInt ((i:Int)+1))))).IsKeyIter it d (i+1) es.size ep:=⟨_,Heap.get?_update_self _ ho (Obj.isFreed_of_fields (Obj.data_mapFields hd _)),(Obj.cls_mapFields ..).trans hc,by rw[Obj.data_mapFields hd];simp[rawInt]⟩;refine wpAny_bind ?_;wp_walk using wpAny_typeNameOfWhole_keyiter hT;rw[hd];show wpAny _ _ (update it (Obj.mapFields (·.setIfInBounds 1 (rawInt ((i:Int)+1))))) _ _ s;refine wpAny_update ho (wpAny_bind (wpAny_holding ?_));wp_walk using wpAny_isOneOf_keyiter (s:={s with heap:=s.heap.update it (Obj.mapFields (·.setIfInBounds 1 (rawInt ((i:Int)+1))))}) uD.typeIs;exact⟨_,rfl,wpAny_pure (hQ _ uD (Heap.SameBut.update ..))⟩
theorem VA {it d:Addr}{i ep:Nat}{es:Array DictEntry}{od:Obj}{Q:Option Value->Shared->Prop}(hh:A.handled=none)(hit:s.heap.IsKeyIter it d i es.size ep)(eJ:s.heap.get? d=some od)(bU:od.data= .dict es ep)(DP:es.size<=i)(hQ:∀h',Heap.ExtBut it s.heap h'->Q none {s with heap:=h'}):wpAny (model prog w) A (pyNext (.ref it)) Q E s:=by
  obtain⟨o,ho,hc,hd⟩:=id hit;have hT:=hit.typeIs;unfold pyNext;refine wpAny_bind (wpAny_attempt ?_);refine wpAny_callSpecial?_slot hT F.slot_dict_keyiterator_next ?_;refine wpAny_call_entry F.slot_dict_keyiterator_next hT F.entry_dict_keyiterator_next ?_ (F.args_dict_keyiterator_next_1 _);unfold Builtin.«dict_keyiterator.__next__»;wp_walk using wpAny_typeNameOfWhole_keyiter hT,wpAny_fieldsOf ho hd,wpAny_dictEntries eJ bU,wpAny_dictEpoch eJ bU,wpAny_isOneOf_keyiter hT;rw[if_neg (show¬(i:Int)<0 by lia),Int.toNat_natCast,Array.getElem?_eq_none DP];wp_walk using wpAny_typeNameOfWhole_keyiter hT;rw[hd];show wpAny _ _ (update it (Obj.mapFields (·.setIfInBounds 0 .none))) _ _ s;refine wpAny_update ho ?_;unfold newExc raiseNew newTuple firstArgMember;wp_walk using wpAny_newObj_type;all_goals first
    | (show wpAny _ _ (isSubtype (.type "StopIteration") (.type "StopIteration")) _ _ _
       rw[isSubtype_stop];exact wpAny_pure (wpAny_pure (hQ _ (((Heap.SameBut.update ..).extBut.push _).push _))))
    |(unfold autoParam;size_fits)
    |size_fits
theorem VB {d:Addr}{es:Array DictEntry}{ep:Nat}{od:Obj}{Q:Value->Shared->Prop}(hd:(d==sysModules)=false)(eJ:s.heap.get? d=some od)(hx:od.ExactDict)(bU:od.data= .dict es ep)(hQ:Q (.ref s.heap.objs.size) {s with heap:=s.heap.push {cls:=.type "dict_keyiterator",data:=.fields #[.ref d,.int 0 0,.int es.size 0,.int ep 0]}}):wpAny (model prog w) A (pyIter (.ref d)) Q E s:=by
 have hT:s.TypeIs (.ref d) "dict":=⟨od,eJ,hx.1⟩;have run:wpAny (model prog w) A.in1 (Builtin.«dict.__iter__» ⟨[.ref d],[]⟩) (λfin s'=>fin= .done (.ret (.ref s.heap.objs.size))/\s'={s with heap:=s.heap.push {cls:=.type "dict_keyiterator",data:=.fields #[.ref d,.int 0 0,.int es.size 0,.int ep 0]}}) E s:=by unfold Builtin.«dict.__iter__» Builtin.Dict.dictSlotNone Builtin.Dict.showsAll;wp_walk using wpAny_notOrdered_dict hT,wpAny_dictEntries eJ bU,wpAny_dictEpoch eJ bU;exact⟨rfl,rfl⟩
 refine wpAny_pyIter_slot hT F.slot_dict_iter (wpAny_call_entry F.slot_dict_iter hT F.entry_dict_iter (wpAny_mono run (λf s' z=>?_) λ_ _ z=>z) (F.args_dict_iter_1 _));obtain⟨rfl,rfl⟩:=z;exact⟨_,rfl,"dict_keyiterator",_,⟨_,Heap.get?_push_size _ rfl,rfl⟩,F.slot_dict_keyiterator_next.lookup,hQ⟩
theorem VC {v d:Addr}{es:Array DictEntry}{ep:Nat}{od:Obj}{Q:Value->Shared->Prop}(hv:s.heap.IsItemsView v d)(eJ:s.heap.get? d=some od)(bU:od.data= .dict es ep)(hQ:Q (.ref s.heap.objs.size) {s with heap:=s.heap.push {cls:=.type "dict_itemiterator",data:=.fields #[.none,.bool false,.ref d,.int 0 0,.int es.size 0,.int ep 0,.none,.none]}}):wpAny (model prog w) A (pyIter (.ref v)) Q E s:=by
 obtain⟨ov,VD,hcv,VE⟩:=id hv;have hT:=hv.typeIs;have run:wpAny (model prog w) A.in1 (Builtin.«dict_items.__iter__» ⟨[.ref v],[]⟩) (λfin s'=>fin= .done (.ret (.ref s.heap.objs.size))/\s'={s with heap:=s.heap.push {cls:=.type "dict_itemiterator",data:=.fields #[.none,.bool false,.ref d,.int 0 0,.int es.size 0,.int ep 0,.none,.none]}}) E s:=by unfold Builtin.«dict_items.__iter__» Builtin.Dict_items.dictOf Builtin.Dict_items.newIterator;wp_walk using wpAny_field VD VE (x:=.ref d) rfl,wpAny_dictEntries eJ bU,wpAny_dictEpoch eJ bU;exact⟨rfl,by simp[rawInt,Builtin.Dict_items.ownedTupleFields,show Builtin.Dict_items.ownsTuple "dict_itemiterator"=true by decide]⟩
 refine wpAny_pyIter_slot hT F.slot_dict_items_iter (wpAny_call_entry F.slot_dict_items_iter hT F.entry_dict_items_iter (wpAny_mono run (λf s' z=>?_) λ_ _ z=>z) (F.args_dict_items_iter_1 _));obtain⟨rfl,rfl⟩:=z;exact⟨_,rfl,"dict_itemiterator",_,⟨_,Heap.get?_push_size _ rfl,rfl⟩,F.slot_dict_itemiterator_next.lookup,hQ⟩
end
end PySem
namespace L2
open PySem PySem.Spec PyProof.Rows
noncomputable def uE (a:Addr)(o:Obj)(aa:List (List Key×V)):It where
 go:=λi H=>i<aa.length/\H a=some (.az o (.dT aa))
 dO:=λi H x H'=>H'=H/\∃kv b,aa[i]?=some kv/\x= .ref b/\H b=some (.tup (kv.1.map kV))
 stop:=λi H=>aa.length<=i/\H a=some (.az o (.dT aa))
theorem j7 {α β:Type}{F:α->β->Prop}:∀{xs:List α}{ys:List β}{i:Nat}{x:α},Paired F xs ys->xs[i]?=some x->∃y,ys[i]?=some y/\F x y:=λ{xs ys i x} q e=>by
 induction q generalizing i with
 |nil=>simp at e
 |cons h _ ih=>
  cases i with
  |zero=>cases Option.some.inj e;exact⟨_,rfl,h⟩
  |succ i=>exact ih (i:=i) e
theorem VF {P:Program}{w:World}{K:PySem.W.Frag}{tg:Expr}(a it:Addr)(o:Obj)(aa:List (List Key×V))(es:Array DictEntry)(ep:Nat)(hd:o.data= .dict es ep):Turn P w K tg (uE a o aa) [it] it (λi h=>h.IsKeyIter it a i aa.length ep) where
 mem:=by simp
 obj:=λi h st b hb=>by
  have e:b=it:=by simpa using hb
  subst e;obtain⟨o,e,c,d⟩:=st;exact⟨o,e,λv z=>by rw[d]at z;cases z⟩
 keep:=λi h h' st k=>st.at λo e=>k it (by simp) o e
 item:=by
  intro X hP hw hK hc i pins s U H E I hf st hg;subst hP hw hK;obtain⟨hi,hq⟩:=hg;obtain⟨ho,hz,hs,xs,r,o',fJ,dX,bh,fe,ba,he,nd⟩:=I.ag a _ hq;cases Option.some.inj (bh.symm.trans ho);rw[hd]at ba;cases ba;have hsz:es.size=aa.length:=by have e1:=congrArg List.length he;rw[length_map,<-Paired.length r]at e1;simpa using e1
  obtain⟨kv,i6⟩:∃kv,aa[i]?=some kv:=⟨aa[i],by simp[hi]⟩;obtain⟨x,ex,e1,e2,e3⟩:=j7 r i6;have ax:i<es.size:=by lia
  have bY:es[i].key= .ref x.2.1:=by
   have h1:es.toList[i]?=some es[i]:=by simp[ax]
   rw[he,getElem?_map,ex]at h1;rw[<-Option.some.inj h1];rfl
  obtain⟨f0,f1,f2,f3,f4,f5⟩:=hf it (by simp);rw[<-hsz]at st;refine Vy st ho hd ax λh' bD sb=>?_;have I1:Inv X pins U H {s with heap:=h'}:=I.turned (t':=s.toks) (λb o hb e=>(sb.2 b hb).trans e) f0 f1 f3 f4 f5;rw[hsz]at bD;rw[bY];obtain⟨oi,ei,ci,di⟩:=id bD;exact⟨_,rfl,qO (s:={s with heap:=h'}) ei ci di (by decide) ⟨.ref x.2.1,H,I1,rfl,⟨rfl,kv,x.2.1,i6,rfl,by rw[e1];rw[e1]at e2;exact e2⟩,bD,λb hb=>(hf b hb).1⟩⟩
 done:=by
  intro X hP hw hK hc i pins s U H E I hf st hg;subst hP hw hK;obtain⟨hi,hq⟩:=hg;obtain⟨ho,hz,hs,xs,r,o',fJ,dX,bh,fe,ba,he,nd⟩:=I.ag a _ hq;cases Option.some.inj (bh.symm.trans ho);rw[hd]at ba;cases ba;have hsz:es.size=aa.length:=by have e1:=congrArg List.length he;rw[length_map,<-Paired.length r]at e1;simpa using e1
  obtain⟨f0,f1,f2,f3,f4,f5⟩:=hf it (by simp);rw[<-hsz]at st;exact VA (I.ok.hd hc) st ho hd (by lia) λh' eb=>⟨rfl,I.turned (t':=s.toks) (λb o hb e=>eb b o hb e) f0 f1 f3 f4 f5⟩
 self:=λ_ _ _ _ _ st h=>wpAny_pyIter_keyiter st h
def VG (tl:TE):TI:=λU H R=>tl U H λx H1=>∃a aa,x= .ref a/\H1 a=some (.dT aa)/\∀o,R (uE a o aa) (upd H1 a (.az o (.dT aa)))
theorem VH {X:Cx}{tg l:Expr}{tl:TE}(hl:PE X l tl):PI X tg l (VG tl):=by
 intro pins s U H R I h;refine ai (hl pins s U H _ I h) λv s1 zQ=>?_;obtain⟨x,H1,I1,r1,q1⟩:=zQ;obtain⟨a,aa,e,hq,q⟩:=q1;subst e;cases r1;obtain⟨hz,hs,xs,r,o,es,ep,ho,hx,hd,he,nd⟩:=I1.ag a _ hq;have hsz:es.size=aa.length:=by have e1:=congrArg List.length he;rw[length_map,<-Paired.length r]at e1;simpa using e1
 refine VB hs ho hx hd ?_;have I2:=I1.freeze (show gR (some (HO.dT aa))from True.intro) hq ho;have hn:upd H1 a (.az o (.dT aa)) s1.heap.objs.size=none:=I2.ag.fresh (le_refl _);refine⟨s1.heap.objs.size,[s1.heap.objs.size],_,_,_,rfl,I2.kept (t':=s1.toks) λb o e=>Heap.get?_push_of_some _ e,VF a _ o aa es ep hd,?_,λb hb=>?_,q o⟩
 .rw[<-hsz];exact⟨_,Heap.get?_push_size _ rfl,rfl,rfl⟩
 .have e:b=s1.heap.objs.size:=by simpa using hb
  subst e;exact I2.oG (le_refl _) hn
end L2
namespace PySem
theorem VI {h:Heap}{it d:Addr}{i n ep:Nat}{ok ov:Value}(hit:IsItemIter h it d i n ep ok ov)(k v:Value):
  let h':=(((((h.update it (Obj.mapFields λx=>x.setIfInBounds 3 (rawInt ((i:Int)+1)))).push {cls:=.type "tuple",data:=.seq #[k,v]}).update it (Obj.mapFields λx=>x.setIfInBounds 6 k)).update it (Obj.mapFields λx=>x.setIfInBounds 7 v)).update it (Obj.mapFields λx=>x.setIfInBounds 0 (rawInt (h.objs.size:Int)))).update it (Obj.mapFields λx=>x.setIfInBounds 1 (.bool false))
  IsItemIterOut h' it d (i+1) n ep k v h.objs.size/\h'.get? h.objs.size=some {cls:=.type "tuple",data:=.seq #[k,v]}/\∀b o,b≠it->h.get? b=some o->h'.get? b=some o:=by
 have ne:h.objs.size≠it:=Ne.symm (ne_of_lt (Heap.lt_size hit));have up:∀{g:Heap}{vs:Array Value}(j:Nat)(x:Value),g.get? it=some {cls:=.type "dict_itemiterator",dict:=none,data:=.fields vs,slots:=#[]}->(g.update it (Obj.mapFields λy=>y.setIfInBounds j x)).get? it=some {cls:=.type "dict_itemiterator",dict:=none,data:=.fields (vs.setIfInBounds j x),slots:=#[]}:=λ{g vs} j x e=>
  Heap.get?_update_self _ e (Obj.isFreed_of_fields (Obj.data_mapFields rfl _));have h1:=up 3 (rawInt ((i:Int)+1)) hit;have h2:=Heap.get?_push_of_some ({cls:=.type "tuple",data:=.seq #[k,v]}:Obj) h1;have h3:=up 1 (.bool false) (up 0 (rawInt (h.objs.size:Int)) (up 7 v (up 6 k h2)));refine⟨?_,?_,λb o hb e=>?_⟩
 .refine h3.trans ?_;simp[rawInt]
 .simp only[Heap.get?_update_ne _ _ _ _ ne];have sz:(h.update it (Obj.mapFields λx=>x.setIfInBounds 3 (rawInt ((i:Int)+1)))).objs.size=h.objs.size:=Heap.size_update ..;rw[<-sz];exact Heap.get?_push_size _ rfl
 .simp only[Heap.get?_update_ne _ _ _ _ hb];exact Heap.get?_push_of_some _ ((Heap.get?_update_ne _ _ _ _ hb).trans e)
section
variable {prog:Program}{w:World}{A:Around}{E:Value->Shared->Prop}{s:Shared}
set_option maxHeartbeats 0 in
theorem next_item {it d:Addr} {i ep:Nat} {es:Array DictEntry} {od:Obj} {ok ov:Value} {Q:Option Value -> Shared -> Prop} (hit:IsItemIter s.heap it d i es.size ep ok ov) (eJ:s.heap.get? d = some od) (bU:od.data = .dict es ep) (ax:i < es.size)
  (hQ : ∀ h',IsItemIterOut h' it d (i + 1) es.size ep es[i].key es[i].val s.heap.objs.size -> h'.get? s.heap.objs.size = some { cls:=.type "tuple",data:=.seq #[es[i].key,es[i].val] } ->
   (∀ b o,b ≠ it -> s.heap.get? b = some o -> h'.get? b = some o) -> Q (some (.ref s.heap.objs.size)) { s with heap:=h' }) : wpAny (model prog w) A (pyNext (.ref it)) Q E s:=by
 have hT:s.TypeIs (.ref it) "dict_itemiterator" := ⟨_,hit,rfl⟩
 unfold pyNext
 refine wpAny_bind (wpAny_attempt ?_)
 refine wpAny_callSpecial?_slot hT F.slot_dict_itemiterator_next ?_
 refine wpAny_call_entry F.slot_dict_itemiterator_next hT F.entry_dict_itemiterator_next ?_ (F.args_dict_itemiterator_next_1 _)
 unfold Builtin.«dict_itemiterator.__next__»
 have fl : ∀ {Q':Array Value -> Shared -> Prop} {E':Value -> Shared -> Prop},Q' #[.none,.bool false,.ref d,.int i 0,.int es.size 0,.int ep 0,ok,ov] s -> wpAny (model prog w) A.in1 (fieldsOf (.ref it)) Q' E' s:=λh=>wpAny_fieldsOf hit rfl h
 wp_walk using wpAny_typeNameOfWhole_itemiter hT,fl,wpAny_dictEntries eJ bU,wpAny_dictEpoch eJ bU
 rw [if_neg (show ¬ (i:Int) < 0 by lia),Int.toNat_natCast,Array.getElem?_eq_getElem ax]
 refine wpAny_bind ?_
 wp_walk using wpAny_typeNameOfWhole_itemiter hT
 refine ⟨_,rfl,wpAny_pure ?_⟩
 rw [Heap.size_update]
 obtain ⟨f1,f2,f3⟩:=VI hit es[i].key es[i].val
 exact hQ _ f1 f2 f3
set_option maxHeartbeats 0 in
theorem VJ {it d:Addr} {i ep:Nat} {es:Array DictEntry} {od:Obj} {ok ov:Value} {Q:Option Value -> Shared -> Prop} (hh:A.handled = none) (hit:IsItemIter s.heap it d i es.size ep ok ov) (eJ:s.heap.get? d = some od) (bU:od.data = .dict es ep) (DP:es.size <= i)
    (hQ : ∀ h',Heap.ExtBut it s.heap h' -> Q none { s with heap:=h' }) : wpAny (model prog w) A (pyNext (.ref it)) Q E s:=by
  have hT:s.TypeIs (.ref it) "dict_itemiterator" := ⟨_,hit,rfl⟩
  unfold pyNext
  refine wpAny_bind (wpAny_attempt ?_)
  refine wpAny_callSpecial?_slot hT F.slot_dict_itemiterator_next ?_
  refine wpAny_call_entry F.slot_dict_itemiterator_next hT F.entry_dict_itemiterator_next ?_ (F.args_dict_itemiterator_next_1 _)
  have VL:A.in1.handled = none:=hh
  unfold Builtin.«dict_itemiterator.__next__»
  have fl : ∀ {Q':Array Value -> Shared -> Prop} {E':Value -> Shared -> Prop},Q' #[.none,.bool false,.ref d,.int i 0,.int es.size 0,.int ep 0,ok,ov] s -> wpAny (model prog w) A.in1 (fieldsOf (.ref it)) Q' E' s:=λh=>wpAny_fieldsOf hit rfl h
  wp_walk using wpAny_typeNameOfWhole_itemiter hT,fl,wpAny_dictEntries eJ bU,wpAny_dictEpoch eJ bU
  rw [if_neg (show ¬ (i:Int) < 0 by lia),Int.toNat_natCast,Array.getElem?_eq_none DP]
  wp_walk using wpAny_typeNameOfWhole_itemiter hT
  all_goals (try (unfold raiseNew; refine wpAny_bind (wpAny_handled ?_); rw [VL]))
  all_goals (try wp_walk)
  all_goals first
    | (show wpAny _ _ (isSubtype (.type "StopIteration") (.type "StopIteration")) _ _ _
       rw [isSubtype_stop]
       exact wpAny_pure (wpAny_pure (hQ _ (((Heap.SameBut.update ..).extBut.push _).push _))))
    | (unfold autoParam; size_fits)
    | size_fits
end
end PySem
namespace L2
open PySem PySem.Spec PyProof.Rows
def cy:List (List Nat):=[]::(List.range 8).flatMap λa=>[a]::(List.range a).map λb=>[b,a]
noncomputable def dC (led:Bool)(js:List Nat):SetTable:={mask:=if js.length<5 then 7 else 31,place:=js.toArray,dummies:=#[],finger:=0,led:=led,moves:=if js.length<5 then 0 else 1,plain:=true}
noncomputable def ma (led:Bool)(js:List Nat)(n:Nat):SetTable:={mask:=if n<5 then 7 else 31,place:=js.toArray,dummies:=#[],finger:=0,led:=led,moves:=if n<5 then 0 else 1,plain:=true}
def i8 (j:Nat)(js:List Nat):Nat:=(js.filter (·<j)).length
def bB (j:Nat)(js:List Nat):List Nat:=js.take (i8 j js)++j::js.drop (i8 j js)
noncomputable def LZ (led:Bool)(js:List Nat)(j:Nat):Bool:=
 decide ((dC led js).freeSlot (j:Int)=some (j,false))&&decide ((dC led js).put j=(ma led (bB j js) js.length,i8 j js))&&decide ((ma led (bB j js) js.length).fits (js.length+1)=true)&&decide (bB j js∈cy)&&decide (i8 j js<=js.length)&&decide (if(ma led (bB j js) js.length).tooFull=true then(ma led (bB j js) js.length).relaid ((bB j js).map λ(k:Nat)=>(k:Int)).toArray (SetTable.grown (js.length+1))=some (dC led (bB j js),Array.range (js.length+1))/\coversAll (Array.range (js.length+1)) (js.length+1)=true/\(dC led (bB j js)).fits (js.length+1)=true else ma led (bB j js) js.length=dC led (bB j js))
set_option maxRecDepth 100000 in
theorem VM : ∀ led ∈ [true,false],∀ js ∈ cy,∀ j ∈ List.range 8,j ∈ js \/ 2 <= js.length \/ LZ led js j = true:=by decide +kernel
noncomputable def L0 (led:Bool)(js:List Nat)(i:Nat):Bool:=decide (SetTable.below (dC led js).place (if i=0 then 0 else js.getD (i-1) 0+1)=i)
set_option maxRecDepth 100000 in
theorem nJ : ∀ led ∈ [true,false],∀ js ∈ cy,(dC led js).fits js.length = true /\ js.length <= 2 /\ js.Pairwise (· < ·) /\ (∀ j ∈ js,j < 8) /\ ∀ i ∈ List.range (js.length + 1),L0 led js i = true:=by decide +kernel
theorem L6:∀j∈List.range 8,hashInt (j:Int)=(j:Int):=by decide+kernel
def aT (tk:Nat->Tok)(js:List Nat):List (Int×Value):=js.map λ(j:Nat)=>((j:Int),Value.int (j:Int) (tk j))
def cF (w:World):Bool:=!w.params.followText "set-order"
noncomputable def iC (w:World)(h:Heap)(a:Addr)(js:List Nat):Prop:=∃o tk ep,h.get? a=some o/\o.ExactSet/\o.data= .set (aT tk js).toArray ep (dC (cF w) js)
theorem md (b:Bool):b∈[true,false]:=by cases b<;>simp
theorem nK (tk:Nat->Tok)(js:List Nat):(aT tk js).toArray.size=js.length:=by simp[aT]
section
variable {prog:Program}{w:World}{A:Around}{E:Value->Shared->Prop}{s:Shared}{a:Addr}{js:List Nat}
theorem VN (tk:Nat->Tok)(h:∀j∈js,j<8):ElemsOf (intKind prog w) (aT tk js).toArray.toList:=by intro e he;simp only[aT,mem_map]at he;obtain⟨j,hj,rfl⟩:=he;exact⟨⟨(j:Int),intKind_is _ _ _ _,(L6 j (mem_range.mpr (h j hj))).symm⟩,rfl⟩
theorem VO (tk:Nat->Tok){j:Nat}:((aT tk js).findIdx? (λe=>(intKind prog w).is (j:Int) e.2)).isSome=decide (j∈js):=by
 rw[List.findIdx?_isSome,Bool.eq_iff_iff];simp only[aT,List.any_map,List.any_eq_true,decide_eq_true_eq,Function.comp];constructor
 .rintro⟨k,hk,e⟩
  have:(k:Int)=j:=by simpa[intKind,Value.isInt]using e.symm
  have:j=k:=by lia
  rw[this];exact hk
 .intro hj;exact⟨j,hj,intKind_is _ _ _ _⟩
theorem VP (tk:Nat->Tok){j:Nat}{t:Tok}(hj:j∉js)(hp:i8 j js<=js.length):(SetTable.insertAt (aT tk js).toArray (i8 j js) ((j:Int),Value.int (j:Int) t)).toList=aT (λk=>if k=j then t else tk k) (bB j js):=by
 have same:∀l:List Nat,(∀k∈l,k∈js)->aT (λk=>if k=j then t else tk k) l=aT tk l:=λl hl=>List.map_congr_left λk hk=>by have:k≠j:=λz=>hj (z ▸ hl k hk);simp[this]
 rw[SetTable.toList_insertAt];unfold bB;have e1:=same _ λk hk=>List.mem_of_mem_take (i:=i8 j js) hk;have e2:=same _ λk hk=>List.mem_of_mem_drop (i:=i8 j js) hk;simp only[aT,map_append,map_cons,List.map_take,List.map_drop,if_true]at e1 e2⊢;rw[e1,e2]
theorem L7 {j k:Nat}:k∈bB j js↔k∈js\/k=j:=by
 unfold bB;rw[mem_append,mem_cons];constructor
 .rintro(h|h|h)
  .exact .inl (List.mem_of_mem_take h)
  .exact .inr h
  .exact .inl (List.mem_of_mem_drop h)
 .rintro(h|h)
  .rw[<-List.take_append_drop (i8 j js) js,mem_append]at h;rcases h with h|h
   .exact .inl h
   .exact .inr (.inr h)
  .exact .inr (.inl h)
theorem L8 {j:Nat}(hp:i8 j js<=js.length):(bB j js).length=js.length+1:=by unfold bB;rw[length_append,length_cons,length_take,length_drop];lia
theorem L9 {j:Nat}{t:Tok}{Q:Bool->Shared->Prop}(hS:iC w s.heap a js)(bE:js∈cy)(hj:j<8)(uF:j∈js\/js.length<2)(h:∀b h' bM,Heap.SameBut a s.heap h'->bM∈cy->(∀k,k∈bM↔k∈js\/k=j)->iC w h' a bM->Q b {s with heap:=h'}):
  wpAny (model prog w) A (setAddHashed a (.int (j:Int) t) (hashInt (j:Int))) Q E s:=by
 obtain⟨o,tk,ep,ho,hex,hd⟩:=id hS;obtain⟨hf,uG,rB,ax,_⟩:=nJ _ (md (cF w)) js bE;have hz:=nK tk js;have cM:(dC (cF w) js).fits (aT tk js).toArray.size=true:=by rw[hz];exact hf
 have Ma:=VN (prog:=prog) (w:=w) tk ax;have VQ:byScan (.int (j:Int) t) (aT tk js).toArray=true:=byScan_of (knd:=intKind prog w) rfl (by rw[hz];unfold scanBound;lia) Ma;have line:∀n:Nat,n<=7->n<=sizeLine:=λn hn=>by rw[sizeLine_eq];lia
 refine wpAny_holding (wpAny_bind (wpAny_setState_of ho hd cM ?_));dsimp only;rw[if_pos VQ];unfold setAddByScan;refine wpAny_bind (wpAny_bind (wpAny_rule (wpAny_bind (wpAny_setScan_of (knd:=intKind prog w) (k:=(j:Int)) (intKind_is _ _ _ _) ho hd cM Ma ?_))));have zZ:=VO (prog:=prog) (w:=w) (js:=js) tk (j:=j);rw[List.toList_toArray];cases hr:List.findIdx? (λe=>(intKind prog w).is (j:Int) e.2) (aT tk js)with
 |some i=>
  rw[hr]at zZ;have hm:j∈js:=by simpa using zZ.symm
  refine wpAny_pure (wpAny_pure ?_);have:=h false s.heap js (Heap.SameBut.refl a s.heap) bE (λk=>⟨.inl,λz=>z.elim id λz=>z ▸ hm⟩) hS;exact this
 | none=>
  rw[hr]at zZ;have hm:j∉js:=by simpa using zZ.symm
  have ag:=((VM _ (md (cF w)) js bE j (mem_range.mpr hj)).resolve_left hm).resolve_left (Nat.not_le.mpr (uF.resolve_left hm));simp only[LZ,Bool.and_eq_true,decide_eq_true_eq]at ag;obtain⟨⟨⟨⟨⟨k1,k2⟩,k3⟩,k4⟩,k5⟩,k6⟩:=ag;rw[L6 j (mem_range.mpr hj)];have hn:=layNew (dC (cF w) js) (aT tk js).toArray (j:Int) (Value.int (j:Int) t);have tF:layNew (dC (cF w) js) (aT tk js).toArray (j:Int) (Value.int (j:Int) t)=((aT (λk=>if k=j then t else tk k) (bB j js)).toArray,ma (cF w) (bB j js) js.length,false,false):=by
   have e1:SetTable.insertAt (aT tk js).toArray (i8 j js) ((j:Int),Value.int (j:Int) t)=(aT (λk=>if k=j then t else tk k) (bB j js)).toArray:=by rw[<-VP tk hm k5]
   unfold layNew;rw[k1];dsimp only;rw[k2];dsimp only;rw[e1,nK,L8 k5];unfold SetTable.orStandIn;rw[k3];rfl
  rw[tF];have VR:hashByValue 8 (Value.int (j:Int) t)=pure true:=hashByValue_scannable 8 rfl;have i9:=L8 k5;have uH:=nK (λk=>if k=j then t else tk k) (bB j js);refine wpAny_bind (wpAny_pure (wpAny_bind (wpAny_of_eq VR ?_)));dsimp only;refine wpAny_bind (wpAny_storeSet_of ho hd ?_ (line _ (by rw[uH,i9];lia)));have iA:=Heap.get?_update_self (Obj.putSet (aT (λk=>if k=j then t else tk k) (bB j js)).toArray (ma (cF w) (bB j js) js.length)) ho (by rw[putSet_of _ _ hd];rfl);rw[putSet_of _ _ hd]at iA;simp only[if_true,Bool.not_false,Bool.true_and];by_cases gJ:(ma (cF w) (bB j js) js.length).tooFull=true
  .rw[if_pos gJ]at k6;obtain⟨q1,q2,q3⟩:=k6;have VS:relayAll (ma (cF w) (bB j js) js.length) (aT (λk=>if k=j then t else tk k) (bB j js)).toArray (SetTable.grown (js.length+1))=((aT (λk=>if k=j then t else tk k) (bB j js)).toArray,dC (cF w) (bB j js),false):=by
    have e1:(aT (λk=>if k=j then t else tk k) (bB j js)).toArray.map (·.1)=((bB j js).map λ(k:Nat)=>(k:Int)).toArray:=by rw[List.map_toArray];simp[aT,Function.comp_def]
    have e2:(Array.range (js.length+1)).filterMap ((aT (λk=>if k=j then t else tk k) (bB j js)).toArray[·]?)=(aT (λk=>if k=j then t else tk k) (bB j js)).toArray:=by refine Array.toList_inj.mp ?_;rw[Array.toList_filterMap,Array.toList_range,<-i9,<-uH];exact filterMap_getElem?_range _
    unfold relayAll;rw[e1,q1];dsimp only;rw[e2,uH,i9,q2,q3];rfl
   rw[if_pos gJ,uH,i9,VS];dsimp only;refine wpAny_bind (wpAny_pure (wpAny_bind (wpAny_storeSet_of iA rfl ?_ (line _ (by rw[uH,i9];lia)))));have nM:=Heap.get?_update_self (Obj.putSet (aT (λk=>if k=j then t else tk k) (bB j js)).toArray (dC (cF w) (bB j js))) iA (by rw[putSet_of _ _ rfl];rfl);rw[putSet_of _ _ rfl]at nM;exact wpAny_pure (wpAny_pure (h true _ (bB j js) ((Heap.SameBut.update _ a _).trans (Heap.SameBut.update _ a _)) k4 (λk=>L7) ⟨_,_,_,nM,hex,rfl⟩))
  .rw[if_neg gJ]at k6;rw[if_neg gJ];rw[k6]at iA⊢;exact wpAny_pure (wpAny_pure (h true _ (bB j js) (Heap.SameBut.update _ a _) k4 (λk=>L7) ⟨_,_,_,iA,hex,rfl⟩))
theorem Mb:∀{vs:List Value}{ns:List Int},IntsAre vs ns->vs.length=ns.length
 |_,_,.nil=>rfl
 |_,_,.cons _ _ r=>by rw[length_cons,length_cons,Mb r]
theorem gK {js:List Nat}(bE:js∈cy){a b j:Nat}(h:∀k∈js,k=a\/k=b)(hj:j=a\/j=b):j∈js\/js.length<2:=by
 obtain⟨_,l2,up,_,_⟩:=nJ true (md true) js bE
 match js,l2,up,h with
 |[],_,_,_=>exact .inr (by decide)
 |[_],_,_,_=>exact .inr (by show 1<2;decide)
 |[x,y],_,up,h=>
  have h1:=h x (by simp);have h2:=h y (by simp);have h3:x<y:=by simpa using up
  refine .inl ?_;rw[mem_cons,mem_singleton];lia
structure DQ (s:Shared)(l it S:Addr)(w:World)(ns:List Int)(i:Nat)(s':Shared):Prop where
 same:s'={s with heap:=s'.heap,toks:=s'.toks}
 it:s'.heap.IsListIter it l i
 old:∀b o,s.heap.get? b=some o->s'.heap.get? b=some o
 le:i<=ns.length
 set:∃js,js∈cy/\(∀k:Nat,k∈js↔(k:Int)∈ns.take i)/\iC w s'.heap S js
theorem iC.keep {h h':Heap}(x:iC w h a js)(k:∀o,h.get? a=some o->h'.get? a=some o):iC w h' a js:=by obtain⟨o,tk,ep,e,r⟩:=x;exact⟨o,tk,ep,k o e,r⟩
theorem VT {l it S:Addr}{vs:List Value}{ns:List Int}{R:Result->Shared->Prop}(hh:A.handled=none)(hl:s.heap.IsList l vs.toArray)(hI:IntsAre vs ns)(h6:∃a b:Nat,a<8/\b<8/\∀z∈ns,z=(a:Int)\/z=(b:Int))(hit:∀o,s.heap.get? it≠some o)(hS:∀o,s.heap.get? S≠some o)(DR:it≠S)(hR:∀h' tk js,js∈cy->(∀k:Nat,k∈js↔(k:Int)∈ns)->iC w h' S js->(∀b o,s.heap.get? b=some o->h'.get? b=some o)->R (.ok (.ret .none)) {s with heap:=h',toks:=tk}){s1:Shared}(h1:DQ s l it S w ns 0 s1):
  codeAny (model prog w) A (.builtin "set.update.loop" ⟨[.ref S,.ref it],[]⟩) R s1:=by
 have tN:vs.length=ns.length:=Mb hI;refine codeAny_loop (plainId_quiet F.plain_set_update_loop _) (λn s'=>∃i,n=ns.length-i/\DQ s l it S w ns i s') (λn s' ⟨i,en,M⟩=>?_) ns.length ⟨0,by simp,h1⟩;rw[Around.under_plainId F.plain_set_update_loop,Vs F.entry_set_update_loop];have lY:s'.heap.IsList l vs.toArray:=by obtain⟨o,ho,r⟩:=hl;exact⟨o,M.old l o ho,r⟩
 obtain⟨js,bE,gX,uI⟩:=M.set;show wpAny _ A.in1 (pyNext (.ref it) >>= _) _ _ s';by_cases hi:i<ns.length
 .obtain⟨v,hv⟩:∃v,vs[i]?=some v:=⟨vs[i]'(by lia),by simp[tN,hi]⟩;obtain⟨t,ev⟩:=hI.int_at i v hv;obtain⟨z,hz⟩:∃z,ns[i]?=some z:=⟨ns[i],by simp[hi]⟩;have VU:z∈ns:=mem_of_getElem? hz;obtain⟨ja,jb,la,lb,fR⟩:=id h6;obtain⟨j,rfl,hj⟩:∃j:Nat,z=(j:Int)/\(j=ja\/j=jb):=by
   rcases fR z VU with e|e
   .exact⟨ja,e,.inl rfl⟩
   .exact⟨jb,e,.inr rfl⟩
  have few:=gK bE (λk hk=>by have:=fR _ (List.mem_of_mem_take ((gX k).mp hk));lia) hj;rw[getD_eq_getElem?_getD,hz]at ev;have VV:v=Value.int (j:Int) t:=ev;subst VV;refine wpAny_bind (wpAny_pyNext_list_item M.it lY (by simpa using hv) λh2 i2 sb=>?_);have DS:∀b o,s.heap.get? b=some o->h2.get? b=some o:=λb o e=>(sb.2 b (λq=>hit o (by rw[<-q];exact e))).trans (M.old b o e);show wpAny _ A.in1 (holding [Value.int (j:Int) t] (setAdd S (.int (j:Int) t)) >>= _) _ _ _;refine wpAny_bind (wpAny_holding (wpAny_holding (wpAny_bind ((intKind prog w).pyHash (k:=(j:Int)) (intKind_is _ _ _ _) ?_))));refine L9 (js:=js) (uI.keep λo e=>(sb.2 S (Ne.symm DR)).trans e) bE (by lia) few λb h3 bM Mc jA zP VW=>?_;refine wpAny_pure ⟨rfl,ns.length-(i+1),by lia,i+1,rfl,?_,i2.at λo q=>(Mc.2 it DR).trans q,λb o e=>(Mc.2 b (λq=>hS o (by rw[<-q];exact e))).trans (DS b o e),hi,bM,jA,λk=>?_,VW⟩
  .rw[M.same]
  .rw[zP k,gX k,List.take_succ,hz];rw[mem_append];simp only[Option.toList_some,mem_singleton,Int.ofNat_inj]
 .have ei:i=ns.length:=by have:=M.le;lia
  subst ei;refine wpAny_bind (wpAny_pyNext_list_end hh M.it lY (by simp;lia) λh2 eb=>?_);refine wpAny_pure ?_;have:=hR h2 s'.toks js bE (λk=>by rw[gX k,take_length]) (uI.keep λo e=>eb S o (Ne.symm DR) e) (λb o e=>eb b o (λq=>hit o (by rw[<-q];exact e)) (M.old b o e));rw[M.same];exact this
abbrev gY (w:World):Obj:={cls:=.type "set",dict:=none,data:=.set #[] 0 (dC (cF w) [])}
theorem VX {v:Value}{R:Result->Shared->Prop}(h:R (.ok (.ret (.ref s.heap.objs.size))) {s with heap:=s.heap.push (gY w)}):codeAny (model prog w) A (.call (.builtin "set.__new__") ⟨[.type "set",v],[]⟩) R s:=by
 refine codeAny_call_builtin F.plain_set_new F.entry_set_new (wpAny_of_eq (F.newCall_set_1 v) ?_);unfold Builtin.«set.__new__» Builtin.Frozenset.newClass;have i1:=sub_set_self;obtain⟨hp,g,d,tk,os⟩:=s;wp_walk;refine wpAny_askSetting (wpAny_pure ?_);exact wpAny_newObj_type (wpAny_pure h)
set_option maxHeartbeats 4000000 in
theorem VY {l:Addr} {vs:List Value} {ns:List Int} {Q:Value -> Shared -> Prop} (hh:A.handled = none) (hl:s.heap.IsList l vs.toArray) (hI:IntsAre vs ns) (h6 : ∃ a b:Nat,a < 8 /\ b < 8 /\ ∀ z ∈ ns,z = (a:Int) \/ z = (b:Int))
  (h : ∀ h' tk js,js ∈ cy -> (∀ k:Nat,k ∈ js ↔ (k:Int) ∈ ns) -> iC w h' s.heap.objs.size js -> (∀ b o,s.heap.get? b = some o -> h'.get? b = some o) -> Q (.ref s.heap.objs.size) { s with heap:=h',toks:=tk }) :
  wpAny (model prog w) A (call (.type "set") [.ref l]) Q E s:=by
 have cs:=F.called_set
 obtain ⟨c,tl,m1⟩:=cs.mro
 have m2:=cs.made
 have m3:=cs.sub
 have m4:=cs.notType
 have m5:=cs.canCreate
 have m6:=F.typeCall_set_1 (.ref l)
 refine wpAny_call (codeAny_of_tree ?_)
 refine wpAny_pure ⟨Code.quiet_builtin _ (by decide +kernel),codeAny_builtin F.entry_type_call ?_⟩
 rw [Around.under_plain (weight_type_call_type "set" [.ref l] []) rfl]
 repeat (any_goals (first | assumption | wp_step))
 refine VX ?_
 have uJ:(s.heap.push (gY w)).get? s.heap.objs.size = some (gY w):=Heap.get?_push_size _ rfl
 have hT:Shared.TypeIs { s with heap:=s.heap.push (gY w) } (.ref s.heap.objs.size) "set" := ⟨_,uJ,rfl⟩
 have m7:=cs.init.lookup
 have m8:=cs.init.bind (.ref s.heap.objs.size)
 dsimp only
 repeat (any_goals (first | assumption | wp_step))
 refine codeAny_call_builtin cs.init.plain F.entry_set_init (check_set_init_1 hT ?_)
 obtain ⟨ol,VZ,V0,nl,hdl⟩:=id hl
 have V1:(s.heap.push (gY w)).IsList l vs.toArray:=hl.push _
 have V2:Shared.TypeIs { s with heap:=s.heap.push (gY w) } (.ref l) "list" := ⟨ol,Heap.get?_push_of_some _ VZ,V0⟩
 have n1:=F.sub_list_set
 have n2:=F.sub_list_frozenset
 unfold Builtin.«set.__init__» noKeywords Builtin.Frozenset.updateFrom
 generalize V3:pyIter = PI
 wp_walk using wpAny_typeOf V2
 subst V3
 have hsz:(s.heap.push (gY w)).objs.size = s.heap.objs.size + 1:=Heap.size_push ..
 refine wpAny_pyIter_list V1 (wpAny_bind (wpAny_runValue ?_))
 show codeAny (model prog w) A.in1.in1 (.builtin "set.update.loop" ⟨[.ref s.heap.objs.size,.ref (s.heap.push (gY w)).objs.size],[]⟩) _ _
 rw [hsz]
 have fr : ∀ {b:Addr},s.heap.objs.size <= b -> ∀ o,s.heap.get? b ≠ some o:=λ{b} z o e=>absurd (Heap.lt_size e) (Nat.not_lt.mpr z)
 have Ux:DQ s l (s.heap.objs.size + 1) s.heap.objs.size w ns 0 { s with heap:=(s.heap.push (gY w)).push { cls:=.type "list_iterator",data:=.fields #[.ref l,.int 0 0] } }:=
  ⟨rfl,⟨_,hsz ▸ Heap.get?_push_size _ rfl,rfl,rfl⟩,λb o e=>Heap.get?_push_of_some _ (Heap.get?_push_of_some _ e),zero_le _,[],by decide,λk=>by simp,⟨_,λ_=>0,0,Heap.get?_push_of_some _ uJ,⟨rfl,rfl,rfl⟩,rfl⟩⟩
 refine VT (A:=A.in1.in1) (prog:=prog) (s:=s) (show A.in1.in1.handled = none from hh) hl hI h6 (fr (le_succ _)) (fr (le_refl _)) (Nat.ne_of_gt (lt_succ_self _)) (λh' tk js a1 a2 a3 a4=>?_) Ux
 exact wpAny_pure (wpAny_pure (wpAny_pure (wpAny_pure (h h' tk js a1 a2 a3 a4))))
theorem rC:Slot "set_iterator" "__next__" "set_iterator.__next__":=
 .of (owner:="set_iterator") (n:="__next__") (by rw[typeLookup_type,builtinLookup_eq_fast];kernel_rfl) (by decide+kernel) (by decide+kernel) (by decide+kernel) (by first|exact .inl (by decide+kernel)|exact .inr (by decide+kernel)) (by rw[isSubtype_type];kernel_rfl)
theorem Md:entryFor table "set_iterator.__next__"=some Builtin.«set_iterator.__next__»:=entryFor_of_tree (by kernel_rfl)
theorem Me:Manifest.owners.lookup (String.ofList ['r','o','t','a','r','e','t','i','_','t','e','s'].reverse)=some Manifest.sig_set_iterator:=by kernel_rfl
theorem Mf (a:Value):argsOk "set_iterator.__next__" ⟨[a],[]⟩:=by unfold argsOk;rw[signature?_of (id:="set_iterator.__next__") (n:=['_','_','t','x','e','n','_','_']) (o:=['r','o','t','a','r','e','t','i','_','t','e','s']) (by kernel_rfl) Me];kernel_rfl
theorem V4:entryFor table "set.__iter__"=some Builtin.«frozenset.__iter__»:=entryFor_alias (id':="frozenset.__iter__") (by kernel_rfl) rfl (by decide+kernel) (by kernel_rfl)
noncomputable def gZ (w:World)(a:Addr)(ep:Nat)(es:Array (Int×Value)):Array (Int×Value):=if w.params.followText "set-order"=true then pickOrder (w.params.setOrder a ep) es else es
noncomputable def pA (w:World)(h:Heap)(it a:Addr)(js:List Nat)(ep i:Nat):Prop:=∃o,∃slot:Nat,h.get? it=some o/\o.cls= .type "set_iterator"/\o.data= .fields #[.int (slot:Int) 0,.int i 0,.ref a,.int js.length 0,.int ep 0]/\(w.params.followText "set-order"=false->slot=if i=0 then 0 else js.getD (i-1) 0+1)
noncomputable def me (w:World)(h:Heap)(a:Addr)(js:List Nat)(tk:Nat->Tok)(ep:Nat):Prop:=∃o,h.get? a=some o/\o.ExactSet/\o.data= .set (aT tk js).toArray ep (dC (cF w) js)
theorem V5 {tk:Nat->Tok}{ep:Nat}{Q:Value->Shared->Prop}(hS:me w s.heap a js tk ep)(bE:js∈cy)(hQ:Q (.ref s.heap.objs.size) {s with heap:=s.heap.push {cls:=.type "set_iterator",data:=.fields #[.int 0 0,.int 0 0,.ref a,.int js.length 0,.int ep 0]}}):wpAny (model prog w) A (pyIter (.ref a)) Q E s:=by
 obtain⟨o,ho,hex,hd⟩:=hS;obtain⟨hf,uG,rB,ax,_⟩:=nJ _ (md (cF w)) js bE;have hz:=nK tk js;have cM:(dC (cF w) js).fits (aT tk js).toArray.size=true:=by rw[hz];exact hf
 have hT:s.TypeIs (.ref a) "set":=⟨o,ho,hex.1⟩;have run:wpAny (model prog w) A.in1 (Builtin.«frozenset.__iter__» ⟨[.ref a],[]⟩) (λfin s'=>fin= .done (.ret (.ref s.heap.objs.size))/\s'={s with heap:=s.heap.push {cls:=.type "set_iterator",data:=.fields #[.int 0 0,.int 0 0,.ref a,.int js.length 0,.int ep 0]}}) E s:=by
  unfold Builtin.«frozenset.__iter__» Builtin.Frozenset.sizeOf setDrawn setsByText;wp_walk using wpAny_setEntries_of ho hd cM,wpAny_setState_of ho hd cM,wpAny_setEpoch_of ho hd cM;refine wpAny_askSetting (wpAny_pure (wpAny_pure ?_));refine wpAny_ite_split (λz=>?_) λ_=>?_
  .rw[Bool.and_eq_true]at z;exact absurd (show false=true from z.2) (by decide)
  .wp_walk using wpAny_setEpoch_of ho hd cM;rw[hz];exact⟨rfl,rfl⟩
 refine wpAny_pyIter_slot hT F.slot_set_iter (wpAny_call_entry F.slot_set_iter hT V4 (wpAny_mono run (λf s' z=>?_) λ_ _ z=>z) (F.args_set_iter_1 _));obtain⟨rfl,rfl⟩:=z;exact⟨_,rfl,"set_iterator",_,⟨_,Heap.get?_push_size _ rfl,rfl⟩,rC.lookup,hQ⟩
theorem Mg {tk:Nat->Tok}{slot ep i:Nat}{Q:Option (Value×Nat)->Shared->Prop}(hS:me w s.heap a js tk ep)(bE:js∈cy)(hi:i<=js.length)(lZ:w.params.followText "set-order"=false->slot=if i=0 then 0 else js.getD (i-1) 0+1)(h:Q ((gZ w a ep (aT tk js).toArray)[i]?.map λe=>(e.2,if w.params.followText "set-order"=true then slot else js.getD i 0+1)) s):wpAny (model prog w) A (setNext a slot i ep) Q E s:=by
 obtain⟨o,ho,hex,hd⟩:=hS;obtain⟨hf,uG,rB,ax,Aa⟩:=nJ _ (md (cF w)) js bE;have hz:=nK tk js;have cM:(dC (cF w) js).fits (aT tk js).toArray.size=true:=by rw[hz];exact hf
 unfold setNext setsByText;refine wpAny_bind (wpAny_setState_of ho hd cM (wpAny_bind (wpAny_bind (wpAny_askSetting (wpAny_pure ?_)))));dsimp only;refine wpAny_ite_split (λhb=>?_) λhb=>?_
 .have dD:w.params.followText "set-order"=true:=hb;refine wpAny_ite_split (λz=>absurd z (by simp)) λ_=>?_;refine wpAny_bind ?_;unfold setWalk setsByText;refine wpAny_bind (wpAny_setState_of ho hd cM (wpAny_bind (wpAny_bind (wpAny_askSetting (wpAny_pure ?_)))));dsimp only;refine wpAny_ite_split (λ_=>?_) λz=>absurd hb z;refine wpAny_bind (wpAny_askSetting (wpAny_pure (wpAny_pure ?_)));rw[if_pos dD]at h;unfold gZ at h;rw[if_pos dD]at h;exact h
 .have dD:w.params.followText "set-order"=false:=by
   cases z:w.params.followText "set-order"with
   |false=>rfl
   |true=>exact absurd z hb
  have DT:cF w=true:=by unfold cF;rw[dD];rfl
  refine wpAny_ite_split (λz=>absurd (show false=true from z) (by decide)) λ_=>?_;rw[DT]at Aa⊢;refine wpAny_bind ?_;show wpAny _ _ (pure ()) _ _ _;refine wpAny_pure (wpAny_pure ?_);have e1:=Aa i (mem_range.mpr (by lia));simp only[L0,decide_eq_true_eq]at e1;rw[lZ dD,e1];have e2:gZ w a ep (aT tk js).toArray=(aT tk js).toArray:=by unfold gZ;rw[dD];rfl
  rw[e2]at h;simp only[dD,Bool.false_eq_true,if_false]at h;by_cases pB:i<js.length
  .have e3:(dC true js).place[i]?=some js[i]:=by simp[dC,pB]
   have e4:(aT tk js).toArray[i]?=some ((js[i]:Int),Value.int (js[i]:Int) (tk js[i])):=by simp[aT,pB]
   rw[e4]at h⊢;rw[e3];have e5:js.getD i 0=js[i]:=by simp[getD_eq_getElem?_getD,pB]
   rw[e5]at h;exact h
  .have e4:(aT tk js).toArray[i]?=none:=by simp[aT];lia
   rw[e4]at h⊢;exact h
end
theorem Mh {α:Type}(next:Nat->Nat):∀(fuel k:Nat)(left:List α)(out:Array α),left.length=fuel->(pickOrder.go next fuel k left out).toList.Perm (out.toList++left)
 |0,k,left,out,h=>by have:left=[]:=List.length_eq_zero_iff.mp h;subst this;simp[pickOrder.go]
 |fuel+1,k,left,out,h=>by
  have hp:0<left.length:=by lia
  have ax:next k%left.length<left.length:=Nat.mod_lt _ hp;have he:left[next k%left.length]?=some left[next k%left.length]:=by simp[ax]
  unfold pickOrder.go;rw[he];dsimp only;refine(Mh next fuel (k+1) _ _ (by rw[List.length_eraseIdx_of_lt ax];lia)).trans ?_;rw[Array.toList_push,append_assoc];refine List.Perm.append_left _ ?_;rw[List.eraseIdx_eq_take_drop_succ];have e:=List.take_append_drop (next k%left.length) left;rw[List.drop_eq_getElem_cons ax]at e;refine(List.perm_middle (a:=left[next k%left.length]) (l₁:=left.take (next k%left.length)) (l₂:=left.drop (next k%left.length+1))).symm.trans ?_;rw[e]
theorem Mi (w:World)(a:Addr)(ep:Nat)(es:Array (Int×Value)):(gZ w a ep es).toList.Perm es.toList:=by
 unfold gZ;split
 .have:=Mh (w.params.setOrder a ep) es.size 0 es.toList #[] (by simp);simpa[pickOrder]using this
 .exact List.Perm.refl _
section
variable {prog:Program}{w:World}{A:Around}{E:Value->Shared->Prop}{s:Shared}{a:Addr}{js:List Nat}
theorem DU (tk:Nat->Tok)(ep:Nat):(gZ w a ep (aT tk js).toArray).size=js.length:=by have:=(Mi w a ep (aT tk js).toArray).length_eq;rw[Array.length_toList,Array.length_toList,nK]at this;exact this
theorem V6 {tk:Nat->Tok}{it:Addr}{ep i:Nat}{Q:Option Value->Shared->Prop}(hit:pA w s.heap it a js ep i)(hS:me w s.heap a js tk ep)(bE:js∈cy)(hi:i<js.length)(hQ:∀v h',(gZ w a ep (aT tk js).toArray)[i]?.map (·.2)=some v->pA w h' it a js ep (i+1)->Heap.SameBut it s.heap h'->Q (some v) {s with heap:=h'}):wpAny (model prog w) A (pyNext (.ref it)) Q E s:=by
 obtain⟨oi,slot,nN,Ab,pD,lZ⟩:=hit;obtain⟨o,ho,hex,hd⟩:=hS;obtain⟨hf,uG,rB,ax,Aa⟩:=nJ _ (md (cF w)) js bE;have hz:=nK tk js;have cM:(dC (cF w) js).fits (aT tk js).toArray.size=true:=by rw[hz];exact hf
 have hT:s.TypeIs (.ref it) "set_iterator":=⟨oi,nN,Ab⟩;unfold pyNext;refine wpAny_bind (wpAny_attempt (wpAny_callSpecial?_slot hT rC (wpAny_call_entry rC hT Md ?_ (Mf _))));unfold Builtin.«set_iterator.__next__»;generalize hN:setNext=SN;wp_walk using wpAny_fieldsOf nN pD,wpAny_setEntries_of ho hd cM;subst hN;rw[Int.toNat_natCast,Int.toNat_natCast,Int.toNat_natCast];refine Mg (tk:=tk) ⟨o,ho,hex,hd⟩ bE (le_of_lt hi) lZ ?_;have Ac:=DU (w:=w) (a:=a) (js:=js) tk ep;obtain⟨e,he⟩:∃e,(gZ w a ep (aT tk js).toArray)[i]?=some e:=⟨(gZ w a ep (aT tk js).toArray)[i]'(by lia),by simp[Ac,hi]⟩;rw[he];have iA:=Heap.get?_update_self (Obj.mapFields (·.setIfInBounds 0 (rawInt ((if w.params.followText "set-order"=true then slot else js.getD i 0+1:Nat):Int)))) nN (Obj.isFreed_of_fields (Obj.data_mapFields pD _));have nO:=Obj.data_mapFields pD (·.setIfInBounds 0 (rawInt ((if w.params.followText "set-order"=true then slot else js.getD i 0+1:Nat):Int)));have nM:=Heap.get?_update_self (Obj.mapFields (·.setIfInBounds 1 (rawInt ((i:Int)+1)))) iA (Obj.isFreed_of_fields (Obj.data_mapFields nO _));have hd2:=Obj.data_mapFields nO (·.setIfInBounds 1 (rawInt ((i:Int)+1)));refine wpAny_bind (wpAny_setField nN pD (by simp) ?_);refine wpAny_bind (wpAny_setField iA nO (by simp) ?_);refine wpAny_pure ⟨_,rfl,wpAny_pure (hQ _ _ (by rw[he];rfl) ⟨_,if w.params.followText "set-order"=true then slot else js.getD i 0+1,nM,?_,?_,λz=>?_⟩ ((Heap.SameBut.update ..).trans (Heap.SameBut.update ..)))⟩
 .rw[Obj.cls_mapFields,Obj.cls_mapFields];exact Ab
 .rw[hd2];simp[rawInt]
 .rw[z];simp
theorem V7 {tk:Nat->Tok}{it:Addr}{ep:Nat}{Q:Option Value->Shared->Prop}(hh:A.handled=none)(hit:pA w s.heap it a js ep js.length)(hS:me w s.heap a js tk ep)(bE:js∈cy)(hQ:∀h',Heap.ExtBut it s.heap h'->Q none {s with heap:=h'}):wpAny (model prog w) A (pyNext (.ref it)) Q E s:=by
  obtain⟨oi,slot,nN,Ab,pD,lZ⟩:=hit;obtain⟨o,ho,hex,hd⟩:=hS;obtain⟨hf,uG,rB,ax,Aa⟩:=nJ _ (md (cF w)) js bE;have hz:=nK tk js;have cM:(dC (cF w) js).fits (aT tk js).toArray.size=true:=by rw[hz];exact hf
  have hT:s.TypeIs (.ref it) "set_iterator":=⟨oi,nN,Ab⟩;unfold pyNext;refine wpAny_bind (wpAny_attempt (wpAny_callSpecial?_slot hT rC (wpAny_call_entry rC hT Md ?_ (Mf _))));unfold Builtin.«set_iterator.__next__»;generalize hN:setNext=SN;wp_walk using wpAny_fieldsOf nN pD,wpAny_setEntries_of ho hd cM;subst hN;rw[Int.toNat_natCast,Int.toNat_natCast,Int.toNat_natCast];refine Mg (tk:=tk) ⟨o,ho,hex,hd⟩ bE (le_refl _) lZ ?_;have Ac:=DU (w:=w) (a:=a) (js:=js) tk ep;have he:(gZ w a ep (aT tk js).toArray)[js.length]?=none:=by simp[Ac]
  rw[he];refine wpAny_bind (wpAny_setField nN pD (by simp) ?_);unfold newExc raiseNew newTuple firstArgMember;wp_walk using wpAny_newObj_type;all_goals first
    | (show wpAny _ _ (isSubtype (.type "StopIteration") (.type "StopIteration")) _ _ _
       rw[isSubtype_stop];exact wpAny_pure (wpAny_pure (hQ _ (((Heap.SameBut.update ..).extBut.push _).push _))))
    |(unfold autoParam;size_fits)
    |size_fits
theorem V8 {Q:Bool->Shared->Prop}(hT:s.TypeIs (.ref a) "set")(h:Q false s):wpAny (model prog w) A (Builtin.List.listLengthHint (.ref a)) Q E s:=by
 have i2:splitId "set.__len__"=some ("set","__len__"):=by decide+kernel
 unfold Builtin.List.listLengthHint;refine wpAny_bind (wpAny_specialOf hT F.slot_set_len.lookup ?_);dsimp only;rw[i2];refine wpAny_bind (wpAny_isInstance (T:="set") (b:=true) hT sub_set_self (wpAny_ite_split (λz=>absurd z (by decide)) λ_=>?_));refine wpAny_ite_split (λ_=>wpAny_bind (wpAny_typeOf hT (wpAny_pure h))) λz=>absurd (by decide+kernel) z
theorem me.keep {tk:Nat->Tok}{ep:Nat}{h h':Heap}(x:me w h a js tk ep)(k:∀o,h.get? a=some o->h'.get? a=some o):me w h' a js tk ep:=by obtain⟨o,e,r⟩:=x;exact⟨o,k o e,r⟩
theorem pA.keep {it:Addr}{ep i:Nat}{h h':Heap}(x:pA w h it a js ep i)(k:∀o,h.get? it=some o->h'.get? it=some o):pA w h' it a js ep i:=by obtain⟨o,sl,e,r⟩:=x;exact⟨o,sl,k o e,r⟩
theorem Mj:Slot "set_iterator" "__iter__" "set_iterator.__iter__":=
 .of (owner:="set_iterator") (n:="__iter__") (by rw[typeLookup_type,builtinLookup_eq_fast];kernel_rfl) (by decide+kernel) (by decide+kernel) (by decide+kernel) (by first|exact .inl (by decide+kernel)|exact .inr (by decide+kernel)) (by rw[isSubtype_type];kernel_rfl)
theorem V9:entryFor table "set_iterator.__iter__"=some Builtin.«dict_keyiterator.__iter__»:=entryFor_alias (id':="dict_keyiterator.__iter__") (by kernel_rfl) rfl (by decide+kernel) (by kernel_rfl)
theorem Wa (a:Value):argsOk "set_iterator.__iter__" ⟨[a],[]⟩:=by unfold argsOk;rw[signature?_of (id:="set_iterator.__iter__") (n:=['_','_','r','e','t','i','_','_']) (o:=['r','o','t','a','r','e','t','i','_','t','e','s']) (by kernel_rfl) Me];kernel_rfl
theorem Wb {it:Addr}{Q:Value->Shared->Prop}(hT:s.TypeIs (.ref it) "set_iterator")(hQ:Q (.ref it) s):wpAny (model prog w) A (pyIter (.ref it)) Q E s:=by refine wpAny_pyIter_slot hT Mj (wpAny_call_entry Mj hT V9 ?_ (Wa _));unfold Builtin.«dict_keyiterator.__iter__»;wp_walk;exact⟨_,rfl,"set_iterator",_,hT,rC.lookup,hQ⟩
theorem Wc {tk:Nat->Tok}{ep:Nat}(bE:js∈cy):PySem.W.KdlSrc prog w "set" a a js.length (λi v=>(gZ w a ep (aT tk js).toArray)[i]?.map (·.2)=some v) (λh=>me w h a js tk ep) where
 type:=λ_ ⟨o,ho,hex,_⟩=>⟨o,ho,hex.1⟩
 there:=λ_ ⟨o,ho,_⟩=>⟨Heap.lt_size ho,Heap.lt_size ho⟩
 keep:=λ_ _ hm hk=>hm.keep λo e=>hk a (.inl rfl) o e
 notList:=by decide
 notTuple:=by decide
 hint:=λ_ _ _ _ ⟨o,ho,hex,_⟩ hq=>V8 ⟨o,ho,hex.1⟩ hq
 iter:=λA s hh hm=>⟨_,λi h=>pA w h s.heap.objs.size a js ep i/\me w h a js tk ep,λ_ _ hq=>V5 hm bE hq,by
  obtain⟨o,ho,hr⟩:=id hm;have ne:a≠s.heap.objs.size:=ne_of_lt (Heap.lt_size ho);refine⟨λb hb=>mem_cons.mpr (.inl (mem_singleton.mp hb)),λi h h' ⟨x,y⟩ k=>⟨x.keep λo e=>k _ (by simp) o e,y.keep λo e=>k _ (by simp) o e⟩,λi s' Q E hi ⟨x,y⟩ hQ=>?_,λs' Q E ⟨x,y⟩ hQ=>?_,λi s' Q E ⟨x,y⟩ hQ=>?_⟩
  .refine V6 x y bE hi λv h' hv x' sb=>?_;exact hQ v h' s'.toks hv ⟨x',y.keep λo e=>(sb.2 a ne).trans e⟩ λb o hb e=>(sb.2 b (λz=>hb (by simp[z]))).trans e
  .exact V7 hh x y bE λh' eb=>hQ h' s'.toks λb o hb e=>eb b o (λz=>hb (by simp[z])) e
  .obtain⟨o,sl,e,c,_⟩:=x;exact Wb ⟨o,e,c⟩ hQ,⟨⟨_,0,Heap.get?_push_size _ rfl,rfl,rfl,λ_=>by simp⟩,hm.keep λo e=>Heap.get?_push_of_some _ e⟩⟩
end
def gL (w:World)(a:Addr)(js:List Nat):HO:=.ext λh=>iC w h a js
section
variable {X:Cx}
theorem up_eq {js:List Nat}(up:js.Pairwise (·<·)){ns:List Int}(hp:ns.Perm (js.map λ(j:Nat)=>(j:Int)))(hs:ns.Pairwise (·<=·)):ns=js.map λ(j:Nat)=>(j:Int):=by
 have We:(js.map λ(j:Nat)=>(j:Int)).Pairwise (·<=·):=by rw[List.pairwise_map];exact up.imp λh=>by lia
 exact List.Perm.eq_of_pairwise (λa b _ _ h1 h2=>Int.le_antisymm h1 h2) hs We hp
theorem Wf {tk:Nat->Tok}{l:List Nat}{vs:List Value}(h:vs.Perm (l.map λ(j:Nat)=>Value.int (j:Int) (tk j))):∃ns,IntsAre vs ns/\ns.Perm (l.map λ(j:Nat)=>(j:Int)):=by
 have all:∀v∈vs,∃(z:Int)(t:Tok),v=Value.int z t:=λv hv=>by obtain⟨j,_,rfl⟩:=mem_map.mp (h.mem_iff.mp hv);exact⟨_,_,rfl⟩
 let f:Value->Int:=λv=>match v with| .int z _=>z|_=>0;refine⟨vs.map f,?_,?_⟩
 .clear h;induction vs with
  |nil=>exact .nil
  |cons v r ih=>obtain⟨z,t,rfl⟩:=all v (mem_cons_self ..);exact .cons z t (ih λu hu=>all u (mem_cons_of_mem _ hu))
 .have:=h.map f;rw[map_map]at this;exact this
theorem Wg (hc:X.calm=true):fM X (.type "set") (λxs H Q=>∃(p:Addr)(ns:List Int),xs=[.ref p]/\ah X.K H p (ns.map V.int)/\(∃a b:Nat,a<8/\b<8/\∀z∈ns,z=(a:Int)\/z=(b:Int))/\∀(q:Addr)(js:List Nat),H q=none->js∈cy->(∀k:Nat,k∈js↔(k:Int)∈ns)->Q (.ref q) (upd H q (gL X.w q js))):=by
 intro pins s U H xs us Q I r h;obtain⟨p,ns,rfl,hq,h6,q⟩:=h;obtain⟨u,rfl,rx⟩:=vals1 r;cases rx;obtain⟨its,r',pl,hz⟩:=I.list hq;refine VY (I.ok.hd hc) pl.isList (intsAre_of r') h6 λh' tk js a1 a2 a3 a4=>?_;have hn:H s.heap.objs.size=none:=I.fresh;obtain⟨o,_,_,ho,_⟩:=id a3;exact⟨.ref s.heap.objs.size,_,I.laid (a:=s.heap.objs.size) (o:=gL X.w s.heap.objs.size js) (t':=tk) a4 (le_refl _) ⟨a3,⟨o,ho⟩,λh1 h2 x k=>x.keep k⟩,rfl,q _ js hn a1 a2⟩
theorem Ml (hc:X.calm=true):fM X (.builtin "sorted") (λxs H Q=>∃(p:Addr)(js:List Nat),xs=[.ref p]/\H p=some (gL X.w p js)/\js∈cy/\∀q:Addr,H q=none->Q (.ref q) (upd H q (.lst (js.map λ(j:Nat)=>V.int j)))):=by
 intro pins s U H xs us Q I r h;obtain⟨p,js,rfl,hq,bE,q⟩:=h;obtain⟨u,rfl,rx⟩:=vals1 r;cases rx;obtain⟨hS,_,_⟩:=I.ag p _ hq;obtain⟨o,tk,ep,ho,hex,hd⟩:=hS;obtain⟨hf,uG,rB,ax,_⟩:=nJ _ (md (cF X.w)) js bE;have line:js.length<=sizeLine:=by rw[sizeLine_eq];lia
 refine Calls.call_function_entry kind_sorted plain_sorted entry_sorted (args_sorted1 _) ?_;show wpAny (model X.prog X.w) X.A.in1 (do checkCount "sorted" 1 1 _;_) _ _ s;refine wpAny_bind (m:=checkCount "sorted" 1 1 _) (wpAny_pure (wpAny_bind (PySem.W.kdu_collect (A:=X.A.in1) (Wc (tk:=tk) (ep:=ep) bE) (I.ok.hd hc) ⟨o,ho,hex,hd⟩ line λh' iD acc hk eY=>?_)));have hl:acc.toList.length=js.length:=by rw[Array.length_toList];exact eY.1
 refine wpAny_bind (wpAny_newList ?_ (by rw[hl];exact line));have Ac:=DU (w:=X.w) (a:=p) (js:=js) tk ep;have DV:acc.toList=(gZ X.w p ep (aT tk js).toArray).toList.map (·.2):=by
  refine List.ext_getElem? λi=>?_;rw[getElem?_map,Array.getElem?_toList,Array.getElem?_toList];cases e:acc[i]? with
  |some v=>rw[eY.2 i v e]
  |none=>
   have:js.length<=i:=by rw[<-eY.1];exact Array.getElem?_eq_none_iff.mp e
   rw[Array.getElem?_eq_none (by lia)];rfl
 have rA:(h'.push (seqObj "list" acc.toList.toArray 0)).get? h'.objs.size=some (seqObj "list" acc.toList.toArray 0):=Heap.get?_push_size _ rfl;have hI:∃ns,IntsAre acc.toList ns/\ns.Perm (js.map λ(j:Nat)=>(j:Int)):=by have Mm:=(Mi X.w p ep (aT tk js).toArray).map (·.2);rw[<-DV,List.toList_toArray]at Mm;exact Wf (l:=js) (tk:=tk) (by simpa[aT,Function.comp_def]using Mm)
 obtain⟨ns,hI,uK⟩:=hI;refine wpAny_bind (wpAny_holding (wpAny_call_entry slot_list_sort ⟨_,rA,rfl⟩ entry_list_sort (list_sort_tree rA hI (by rw[hl];lia) λout ns' a1 a2 a3=>⟨_,rfl,?_⟩) (args_list_sort _)));have I1:Inv X pins U H {s with heap:=h',toks:=iD}:=I.kept hk;obtain⟨e,he⟩:=sortedHeap_at (out:=out) rA;have old:∀b o,h'.get? b=some o->(sortedHeap (h'.push (seqObj "list" acc.toList.toArray 0)) h'.objs.size acc.toList out).get? b=some o:=λb o z=>(sortedHeap_old (ne_of_lt (Heap.lt_size z)) (Heap.lt_size (Heap.get?_push_of_some _ z))).trans (Heap.get?_push_of_some _ z);have hn:H h'.objs.size=none:=I1.ag.fresh (le_refl _);have e3:=up_eq rB (a2.trans uK) a3;refine wpAny_pure ⟨_,rfl,.ref h'.objs.size,_,I1.laid (a:=h'.objs.size) (o:=.lst (js.map λ(j:Nat)=>V.int j)) (t':=iD) old (le_refl _) ⟨?_,out.toList,e,?_,he⟩,rfl,q _ hn⟩
 .rw[length_map];exact line
 .have:=LU a1;rw[e3,map_map]at this;exact this
end
section
variable {X:Cx}{K:PySem.W.Frag}
theorem Wh (hK:X.K=K):C2 X (KI K):=by subst hK;exact SE
end
def jB (v d:Addr):HO:=.ext λh=>h.IsItemsView v d
theorem Wi (d:Addr)(hd:(d==sysModules)=false):Meets (Builtin.«dict.items» ⟨[.ref d],[]⟩) (λ_ R s=>(∃o es ep,s.heap.get? d=some o/\o.ExactDict/\o.data= .dict es ep)/\R (.ok (.ret (.ref s.heap.objs.size))) {s with heap:=s.heap.push {cls:=.type "dict_items",data:=.fields #[.ref d]}}):=
 .of_wp λprog w A R s h=>by obtain⟨hp,g,dr,tk,os⟩:=s;obtain⟨⟨o,es,ep,ho,hx,bU⟩,h⟩:=h;have hT:Shared.TypeIs ⟨hp,g,dr,tk,os⟩ (.ref d) "dict":=⟨o,ho,hx.1⟩;unfold Builtin.«dict.items» Builtin.Dict.showsAll;wp_walk using wpAny_notOrdered_dict hT;exact⟨_,rfl,h⟩
noncomputable def rE (a:Addr)(o:Obj)(aa:List (List Key×V)):It where
 go:=λi H=>i<aa.length/\H a=some (.az o (.dT aa))
 dO:=λi H x H'=>∃p kv b,H p=none/\x= .ref p/\aa[i]?=some kv/\H b=some (.tup (kv.1.map kV))/\H'=upd H p (.tup [.ref b,kv.2])
 stop:=λi H=>aa.length<=i/\H a=some (.az o (.dT aa))
section
variable {X:Cx}
theorem Mn:lQ X "dict.items" (λx xs H Q=>∃d aa,x= .ref d/\xs=[]/\H d=some (.dT aa)/\∀p,H p=none->Q (.ref p) (upd H p (jB p d))):=by intro pins s U H x xs v us Q I rx rs h;obtain⟨d,aa,rfl,rfl,hq,q⟩:=h;cases rx;cases rs;obtain⟨hz,hs,xs,r,o,es,ep,ho,hx,hd,he,nd⟩:=I.ag d _ hq;refine call_meets PySem.F.slot_dict_items ⟨o,ho,hx.1⟩ PySem.F.entry_dict_items (PySem.F.args_dict_items_1 _) (Wi d hs) ⟨⟨o,es,ep,ho,hx,hd⟩,?_⟩;refine⟨.ref s.heap.objs.size,_,I.laid (t':=s.toks) (o:=jB s.heap.objs.size d) (λb ob q=>Heap.get?_push_of_some _ q) (le_refl _) ?_,rfl,q _ I.fresh⟩;refine⟨⟨_,Heap.get?_push_size _ rfl,rfl,rfl⟩,⟨_,Heap.get?_push_size _ rfl⟩,λh1 h2 p k=>?_⟩;obtain⟨o,e,c,d⟩:=p;exact⟨o,k o e,c,d⟩
end
theorem Wj:entryFor table "dict_itemiterator.__iter__"=some Builtin.«dict_keyiterator.__iter__»:=entryFor_alias (id':="dict_keyiterator.__iter__") (by kernel_rfl) rfl (by decide+kernel) (by kernel_rfl)
theorem Wk {prog:Program}{w:World}{A:Around}{E:Value->Shared->Prop}{s:Shared}{it d:Addr}{i n ep:Nat}{ok ov:Value}{Q:Value->Shared->Prop}(hit:IsItemIter s.heap it d i n ep ok ov)(h:Q (.ref it) s):wpAny (model prog w) A (pyIter (.ref it)) Q E s:=by have hT:s.TypeIs (.ref it) "dict_itemiterator":=⟨_,hit,rfl⟩;refine wpAny_pyIter_slot hT F.slot_dict_itemiterator_iter (wpAny_call_entry F.slot_dict_itemiterator_iter hT Wj ?_ (F.args_dict_itemiterator_iter_1 _));unfold Builtin.«dict_keyiterator.__iter__»;wp_walk;exact⟨_,rfl,"dict_itemiterator",_,hT,F.slot_dict_itemiterator_next.lookup,h⟩
theorem Wm {P:Program}{w:World}{K:PySem.W.Frag}{elts:List Expr}{k:Nat}{fK:Pos}(a it:Addr)(o:Obj)(aa:List (List Key×V))(es:Array DictEntry)(ep:Nat)(hd:o.data= .dict es ep):Turn P w K (.Tuple elts k fK) (rE a o aa) [it] it (λi h=>∃ok ov,IsItemIter h it a i aa.length ep ok ov) where
 mem:=by simp
 obj:=λi h st b hb=>by
  have e:b=it:=by simpa using hb
  subst e;obtain⟨ok,ov,st⟩:=st;exact⟨_,st,λv z=>by have z':Data.fields _=Data.cell v:=z;cases z'⟩
 keep:=λi h h' st k=>st.imp λok=>Exists.imp λov st=>k it (by simp) _ st
 item:=by
  intro X hP hw hK hc i pins s U H E I hf st hg;subst hP hw hK;obtain⟨hi,hq⟩:=hg;obtain⟨ho,hz,hs,xs,r,o',fJ,dX,bh,fe,ba,he,nd⟩:=I.ag a _ hq;cases Option.some.inj (bh.symm.trans ho);rw[hd]at ba;cases ba;have hsz:es.size=aa.length:=by have e1:=congrArg List.length he;rw[length_map,<-Paired.length r]at e1;simpa using e1
  obtain⟨kv,i6⟩:∃kv,aa[i]?=some kv:=⟨aa[i],by simp[hi]⟩;obtain⟨x,ex,e1,e2,e3⟩:=j7 r i6;have ax:i<es.size:=by lia
  have uM:es[i]=entryOfKey (tupleKind (za X.prog X.w)) x:=by
   have h1:es.toList[i]?=some es[i]:=by simp[ax]
   rw[he,getElem?_map,ex]at h1;exact(Option.some.inj h1).symm
  have bY:es[i].key= .ref x.2.1:=by rw[uM];rfl
  have DW:es[i].val=x.2.2:=by rw[uM];rfl
  obtain⟨ok,ov,st⟩:=st;rw[<-hsz]at st;refine next_item st ho hd ax λh' io ht hk=>?_;rw[bY,DW]at ht;refine⟨_,rfl,wpAny_letOwnedTupleGo_items io λh'' Ae sb=>?_⟩;have ne:s.heap.objs.size≠it:=Ne.symm (ne_of_lt (Heap.lt_size st));have DX:=(sb.2 s.heap.objs.size ne).trans ht;have hb:H x.2.1=some (.tup (kv.1.map kV)):=by rw[e1];rw[e1]at e2;exact e2
  refine⟨.ref s.heap.objs.size,upd H s.heap.objs.size (.tup [.ref x.2.1,kv.2]),?_,rfl,⟨_,kv,x.2.1,I.fresh,rfl,i6,hb,rfl⟩,⟨_,_,by rw[<-hsz];exact Ae⟩,λb dD=>?_⟩
  .refine I.Vr (ch:=[it]) (t':=s.toks) hf (λb o hb q=>?_) (le_refl _) ⟨(by show 2<=sizeLine;decide),[.ref x.2.1,x.2.2],.cons rfl (.cons e3 .nil),_,DX,rfl,_,rfl⟩;have Mp:b≠it:=λz=>hb (by simp[z]);exact(sb.2 b Mp).trans (hk b o Mp q)
  .have e:b=it:=by simpa using dD
   subst e;rw[jf (Ne.symm ne)];exact(hf b (by simp)).1
 done:=by
  intro X hP hw hK hc i pins s U H E I hf st hg;subst hP hw hK;obtain⟨hi,hq⟩:=hg;obtain⟨ho,hz,hs,xs,r,o',fJ,dX,bh,fe,ba,he,nd⟩:=I.ag a _ hq;cases Option.some.inj (bh.symm.trans ho);rw[hd]at ba;cases ba;have hsz:es.size=aa.length:=by have e1:=congrArg List.length he;rw[length_map,<-Paired.length r]at e1;simpa using e1
  obtain⟨ok,ov,st⟩:=st;rw[<-hsz]at st;obtain⟨f0,f1,f2,f3,f4,f5⟩:=hf it (by simp);exact VJ (I.ok.hd hc) st ho hd (by lia) λh' eb=>⟨rfl,I.turned (t':=s.toks) (λb o hb e=>eb b o hb e) f0 f1 f3 f4 f5⟩
 self:=λ_ _ _ _ _ ⟨_,_,st⟩ h=>Wk st h
noncomputable def Wn (tl:TE):TI:=λU H R=>tl U H λx H1=>∃v a aa,x= .ref v/\H1 v=some (jB v a)/\H1 a=some (.dT aa)/\∀o,R (rE a o aa) (upd H1 a (.az o (.dT aa)))
theorem Mq {X:Cx}{elts:List Expr}{k:Nat}{fK:Pos}{l:Expr}{tl:TE}(hl:PE X l tl):PI X (.Tuple elts k fK) l (Wn tl):=by
 intro pins s U H R I h;refine ai (hl pins s U H _ I h) λv s1 zQ=>?_;obtain⟨x,H1,I1,r1,q1⟩:=zQ;obtain⟨v,a,aa,e,hv,hq,q⟩:=q1;subst e;cases r1;obtain⟨hz,hs,xs,r,o,es,ep,ho,hx,hd,he,nd⟩:=I1.ag a _ hq;have hsz:es.size=aa.length:=by have e1:=congrArg List.length he;rw[length_map,<-Paired.length r]at e1;simpa using e1
 obtain⟨DH,_,_⟩:=(show vc X.prog X.w H1 s1.heap v (jB v a)from I1.ag v _ hv);refine VC DH ho hd ?_;have I2:=I1.freeze (show gR (some (HO.dT aa))from True.intro) hq ho;have hn:upd H1 a (.az o (.dT aa)) s1.heap.objs.size=none:=I2.ag.fresh (le_refl _);refine⟨s1.heap.objs.size,[s1.heap.objs.size],_,_,_,rfl,I2.kept (t':=s1.toks) λb o e=>Heap.get?_push_of_some _ e,Wm a _ o aa es ep hd,⟨.none,.none,?_⟩,λb hb=>?_,q o⟩
 .rw[<-hsz];exact Heap.get?_push_size _ rfl
 .have e:b=s1.heap.objs.size:=by simpa using hb
  subst e;exact I2.oG (le_refl _) hn
section
variable {X:Cx}
theorem Wo:fM X (.builtin "isinstance") (λxs H Q=>∃x q,xs=[.ref x,.ref q]/\H q=some (.tup [.ty "list",.ty "tuple"])/\((∃ys,ah X.K H x ys)\/∃ys,aA X.K H x ys)/\Q (.bl true) H):=by
 intro pins s U H xs us Q I r h;obtain⟨x,q,rfl,hq,hx,k⟩:=h;obtain⟨u,w,rfl,r1,r2⟩:=vals2 r;cases r1;cases r2;obtain⟨ts,rt,ht,_⟩:=I.tuple (aA.of hq);obtain⟨a,b,rfl,ra,rb⟩:=vals2 rt;obtain rfl:a=Value.type "list":=ra;obtain rfl:b=Value.type "tuple":=rb;obtain⟨⟨c,dd,dt,sl⟩,ho,hc,n,hd⟩:=ht;simp only at hc hd;subst hc hd;have fin:∀tk,EP X pins U Q (.bool true) {s with toks:=tk}:=λtk=>⟨.bl true,H,I.tok tk,rfl,k⟩;rcases hx with⟨ys,hy⟩|⟨ys,hy⟩
 .obtain⟨its,_,pl,_⟩:=I.list hy;obtain⟨o,nM,uN,_⟩:=pl.isList;exact PySem.W.kia_tup (its:=[.type "list",.type "tuple"]) PySem.W.kitx_list I.aW ⟨o,nM,uN⟩ ho rfl (λz=>nomatch z) fin
 .obtain⟨its,_,⟨o,nM,uN,_⟩,_⟩:=I.tuple hy;exact PySem.W.kia_tup (its:=[.type "list",.type "tuple"]) PySem.W.kitx_tuple I.aW ⟨o,nM,uN⟩ ho rfl (λz=>nomatch z) fin
def Mr (a b:TI):TI:=λU H R=>a U H R\/b U H R
theorem Wr {tg l:Expr}{a b:TI}(h1:PI X tg l a)(h2:PI X tg l b):PI X tg l (Mr a b):=by
 intro pins s U H R I h;rcases h with h|h
 .exact h1 pins s U H R I h
 .exact h2 pins s U H R I h
theorem Ws {tg l:Expr}{tl:TE}(hl:PE X l tl):PI X tg l (Mr (J6 X.K tl) (J7 X.K tl)):=Wr (gh hl) (Rp hl)
end
section
variable {X:Cx}{CX:fw}{k:Nat}{C f:Addr}{fd:FuncData}{ps ks:List Str}{sp:Sp}{E:XK}{g:List Value->List Value->List Value}{gV:List V->List V->List V}{x:Str}{p pos:Pos}{e:Expr}{es:List Expr}{fB:List Keyword}{t tk:TA}
theorem Wt {pins:List (Addr×Obj)}{U:St}{H:Hp}{s:Shared}{Q:VK}{us ws:List Value}{vs zs:List V}(M:Mk X.K C f)(F:xl X.prog X.w X.K X.mg X.base CX k f fd ps sp)(hr:aY (k+1) X.A)(hb:ik X.K fd ps ks g gV)(hx:Passes CX X E)(I:Inv X pins U H s)(r:Vals vs us)(rz:Vals zs ws)(h:∀x dx,H x=none->H dx=none->dx≠x->sp (gV (.ref x::vs) zs) (upd (upd H dx (.own x)) x (.ins C dx [])) (λv H2=>v= .aq/\Q (.ref x) H2) E):
  wpAny (model X.prog X.w) X.A (call (.ref C) us (ks.zip ws)) (EP X pins U Q) X.xe s:=by
 have hq:=h (s.heap.objs.size+1) s.heap.objs.size (I.ag.fresh (le_succ _)) (I.ag.fresh (le_refl _)) (ne_of_lt (lt_succ_self _));have I2:=Inv.made (C:=C) I;have r2:=hb.rel (Paired.cons (show RelV (V.ref (s.heap.objs.size+1)) (Value.ref (s.heap.objs.size+1))from rfl) r) rz;have hl:(g (Value.ref (s.heap.objs.size+1)::us) ws).length=ps.length:=by rw[<-Paired.length r2];exact F.len _ _ _ _ hq
 refine wpAny_call (Kl (f:=f) I.aW M.makes M.init (beq_iff_eq.mp M.fn) (codeAny_mono (F.run _ X.stack _ _ ⟨Value.ref (s.heap.objs.size+1)::us,ks.zip ws⟩ _ _ _ E (hr.make C us (ks.zip ws)) (I2.qR.make C us (ks.zip ws)) (hb.to _ _ _ I2.aW hl) r2 hq) λr s' dY=>?_));cases r with
 |error e=>exact hx pins U _ _ e s' I2 dY
 |ok fl=>
  cases fl with
  |ret u=>obtain⟨v,H',I3,rv,ev,q3⟩:=I2.after dY;subst ev;exact⟨rv,⟨V.ref (s.heap.objs.size+1),H',I3,rfl,q3⟩⟩
  |next=>exact False.elim dY
  |brk=>exact False.elim dY
  |cont=>exact False.elim dY
noncomputable def Wu (C:Addr)(sp:Sp)(gV:List V->List V->List V)(E:XK)(t tk:TA):TE:=λU H Q=>t U H λvs H1=>tk U H1 λzs H2=>∀x dx,H2 x=none->H2 dx=none->dx≠x->sp (gV (.ref x::vs) zs) (upd (upd H2 dx (.own x)) x (.ins C dx [])) (λv H3=>v= .aq/\Q (.ref x) H3) E
theorem Wv (M:Mk X.K C f)(F:xl X.prog X.w X.K X.mg X.base CX k f fd ps sp)(hr:aY (k+1) X.A)(hg:Gl X x)(hm:X.mg x=some (.ref C))(hb:ik X.K fd ps ks g gV)(hx:Passes CX X E)(ha:PA X (e::es) t)(sV:PK X fB tk)(iW:autoParam ((backToKw pos (keywordEach fB X.env)).all (·.1.isSome)=true) aP1)(C0:autoParam ((backToKw pos (keywordEach fB X.env)).filterMap (·.1)=ks) aP1)(cU:autoParam ((x==("__debug__":Str))=false) aP2)(he:autoParam (starEach (e::es) X.env=(false,eval e X.env)::starEach es X.env) aP1)(cw:autoParam (((backTo pos (starEach (e::es) X.env)).any (·.1)||(backToKw pos (keywordEach fB X.env)).any (·.1.isNone))=false) aP1):
  PE X (.Call (.Name x p) (e::es) fB pos) (Wu C sp gV E t tk):=by
 intro pins s U H Q I h;refine wpAny_Call_Name_kw (mR I hg hm ?_ cU);refine PySem.W.callWith_KW (h₀:=X.base) I.ok.mod.eR M.kp iW (ai (ha pos pins s U H _ I h) λus s1 zQ=>?_) cw he;obtain⟨vs,H1,I1,r,q⟩:=zQ;refine ai (sV pos pins s1 U H1 _ I1 q) λws s2 ⟨zs,H2,I2,rz,q2⟩=>⟨I2.aW,?_⟩;rw[C0];exact Wt M F hr hb hx I2 r rz q2
end
section
variable {X:Cx}{K:PySem.W.Frag}
theorem Af (hK:X.K=K):bK X (compareOp .NotIn) (C3 K true):=by subst hK;exact yY
end
noncomputable def DK {α:Type}:Sem α->Prop
 | .pure _=>True
 | .raise _=>True
 | .unsupported _=>True
 | .finish _=>True
 | .rule _ k=>DK (k ())
 | .at _ k=>DK (k ())
 | .load _ _ k=>∀o,DK (k o)
 | .update _ _ f k=>(∀o:Obj,(f o).dict=o.dict/\(o.isFreed=false->(f o).isFreed=false))/\DK (k ())
 | .loadIfAlive _ k=>∀o,DK (k o)
 | .point _ k=>DK (k ())
 | .register _ _=>True
 | .alloc _ k=>∀a,DK (k a)
 | .fresh k=>∀t,DK (k t)
 | .ask k=>∀x,DK (k x)
 | .handled _ k=>∀x,DK (k x)
 | .stack k=>∀x,DK (k x)
 |_=>False
theorem Ww {α β:Type}{f:α->Sem β}(hf:∀a,DK (f a))(m:Sem α)(h:DK m):DK (m.bind f):=by
 induction m with
 |pure a=>exact hf a
 |raise _=>exact True.intro
 |unsupported _=>exact True.intro
 |finish _=>exact True.intro
 |rule _ k ih=>exact ih () h
 |«at» _ k ih=>exact ih () h
 |load _ _ k ih=>exact λo=>ih o (h o)
 |update _ _ _ k ih=>exact⟨h.1,ih () h.2⟩
 |loadIfAlive _ k ih=>exact λo=>ih o (h o)
 |point _ k ih=>exact ih () h
 |register _ _ _=>exact True.intro
 |alloc _ k ih=>exact λa=>ih a (h a)
 |fresh k ih=>exact λa=>ih a (h a)
 |ask k ih=>exact λa=>ih a (h a)
 |handled _ k ih=>exact λa=>ih a (h a)
 |stack k ih=>exact λa=>ih a (h a)
 |choose _ _ _ _=>exact False.elim h
 |os _ _ _ _=>exact False.elim h
 |call _ _ _ _ _ _=>exact False.elim h
 |newGen _ _ _=>exact False.elim h
 |genState _ _ _=>exact False.elim h
 |resume _ _ _ _ _=>exact False.elim h
 |yield _ _ _ _ _=>exact False.elim h
 |fork _ _ _=>exact False.elim h
 |thread _ _=>exact False.elim h
 |await _ _ _ _ _ _=>exact False.elim h
theorem zm {α β:Type}{m:Sem α}{f:α->Sem β}(hm:DK m)(hf:∀a,DK (f a)):DK (m >>= f):=Ww hf m hm
theorem DY {a:Addr}:DK (load a):=λ_=>True.intro
theorem Wx {o:Obj}:DK (alloc o):=λ_=>True.intro
theorem DZ:DK stack:=λ_=>True.intro
theorem Ms {a:Addr}{f:Obj->Obj}(h:∀o:Obj,(f o).dict=o.dict/\(o.isFreed=false->(f o).isFreed=false)):DK (update a f):=⟨h,True.intro⟩
def KD (h h':Heap):Prop:=∀b o,h.get? b=some o->∃o',h'.get? b=some o'/\o'.dict=o.dict
theorem KD.refl (h:Heap):KD h h:=λ_ o e=>⟨o,e,rfl⟩
theorem KD.trans {a b c:Heap}(x:KD a b)(y:KD b c):KD a c:=λi o e=>by obtain⟨o1,e1,d1⟩:=x i o e;obtain⟨o2,e2,d2⟩:=y i o1 e1;exact⟨o2,e2,d2.trans d1⟩
theorem KD.push (h:Heap)(o:Obj):KD h (h.push o):=λ_ o' e=>⟨o',Heap.get?_push_of_some o e,rfl⟩
theorem KD.update {h:Heap}{a:Addr}{f:Obj->Obj}(hf:∀o:Obj,(f o).dict=o.dict/\(o.isFreed=false->(f o).isFreed=false)):KD h (h.update a f):=λb o e=>by
 by_cases z:a=b
 .subst z;exact⟨f o,Heap.get?_update_self f e ((hf o).2 (Heap.get?_some_iff.mp e).2),(hf o).1⟩
 .exact⟨o,by rw[Heap.get?_update_other h f z];exact e,rfl⟩
theorem Wy {α:Type}{M:Model}{Γ:PySem.Ctx}{Q:α->Pos->Shared->Prop}{E:Value->Pos->Shared->Prop}(t:Sem α)(p:Pos)(s:Shared)(d:DK t)(h:Sem.wp M Γ t Q E p s):Sem.wp M Γ t (λa p' s'=>Q a p' s'/\KD s.heap s'.heap) (λe p' s'=>E e p' s'/\KD s.heap s'.heap) p s:=by
 induction t generalizing p s with
 |pure a=>rw[Sem.wp]at h⊢;exact⟨h,KD.refl _⟩
 |raise _=>rw[Sem.wp]at h⊢;exact⟨h,KD.refl _⟩
 |unsupported _=>rw[Sem.wp]at h;exact h.elim
 |finish _=>rw[Sem.wp]at h;exact h.elim
 |rule _ k ih=>rw[Sem.wp]at h⊢;exact ih () p s d h
 |«at» p' k ih=>rw[Sem.wp]at h⊢;exact ih () p' s d h
 |load a x k ih=>rw[Sem.wp]at h⊢;obtain⟨o,e,h⟩:=h;exact⟨o,e,ih o p s (d o) h⟩
 |update a x f k ih=>rw[Sem.wp]at h⊢;obtain⟨e,h⟩:=h;exact⟨e,Sem.wp_mono M Γ (k ()) (λ_ _ s' q=>⟨q.1,(KD.update d.1).trans q.2⟩) (λ_ _ s' q=>⟨q.1,(KD.update d.1).trans q.2⟩) p _ (ih () p _ d.2 h)⟩
 |loadIfAlive a k ih=>rw[Sem.wp]at h⊢;exact ih _ p s (d _) h
 |point _ k ih=>rw[Sem.wp]at h⊢;exact ih () p s d h
 |register _ _ _=>rw[Sem.wp]at h;exact h.elim
 |alloc o k ih=>rw[Sem.wp]at h⊢;exact Sem.wp_mono M Γ (k s.heap.objs.size) (λ_ _ s' q=>⟨q.1,(KD.push _ o).trans q.2⟩) (λ_ _ s' q=>⟨q.1,(KD.push _ o).trans q.2⟩) p _ (ih _ p _ (d _) h)
 |fresh k ih=>rw[Sem.wp]at h⊢;exact ih _ p _ (d _) h
 |ask k ih=>rw[Sem.wp]at h⊢;exact ih _ p s (d _) h
 |handled own k ih=>rw[Sem.wp]at h⊢;exact ih _ p s (d _) h
 |stack k ih=>rw[Sem.wp]at h⊢;exact ih _ p s (d _) h
 |choose _ _ _ _=>exact False.elim d
 |os _ _ _ _=>exact False.elim d
 |call _ _ _ _ _ _=>exact False.elim d
 |newGen _ _ _=>exact False.elim d
 |genState _ _ _=>exact False.elim d
 |resume _ _ _ _ _=>exact False.elim d
 |yield _ _ _ _ _=>exact False.elim d
 |fork _ _ _=>exact False.elim d
 |thread _ _=>exact False.elim d
 |await _ _ _ _ _ _=>exact False.elim d
theorem uO {α:Type}{M:Model}{A:Around}{t:Sem α}{Q:α->Shared->Prop}{E:Value->Shared->Prop}{s:Shared}(d:DK t)(h:wpAny M A t Q E s):wpAny M A t (λa s'=>Q a s'/\KD s.heap s'.heap) (λe s'=>E e s'/\KD s.heap s'.heap) s:=λΓ p Wz=>Wy t p s d (h Γ p Wz)
theorem WB {v:Value}:DK (fieldsOf v):=by
 unfold fieldsOf;split
 .refine zm DY λo=>?_;split<;>exact True.intro
 .exact True.intro
theorem Ag {v:Value}{i:Nat}:DK (field v i):=by unfold field;refine zm WB λvs=>?_;split<;>exact True.intro
theorem WC (f:Array Value->Array Value)(o:Obj):(Obj.mapFields f o).dict=o.dict/\(o.isFreed=false->(Obj.mapFields f o).isFreed=false):=by obtain⟨c,d,dt,sl⟩:=o;cases dt<;>exact⟨rfl,λh=>h⟩
theorem D0 {v x:Value}{i:Nat}:DK (setField v i x):=by
 unfold setField;split
 .unfold updateField;refine zm DY λo=>?_;split
  .split
   .exact Ms (WC _)
   .exact True.intro
  .exact True.intro
 .exact True.intro
theorem D1 {e:Value}{f:Option Addr}:DK (setFlight e f):=by
 unfold setFlight;refine zm Ag λtb=>?_;split
 .exact D0
 .exact True.intro
theorem Mt:∀l:List Env,DK (readyFrames l)
 |[]=>True.intro
 | env::outer=>by
  unfold readyFrames;split
  .refine zm DY λo=>?_;split
   .exact True.intro
   .refine zm ?_ λim=>zm ?_ λback=>zm (Ms λo=>⟨rfl,λh=>?_⟩) λ_=>Mt outer
    .unfold behindIsImport;split
     .exact True.intro
     .split
      .exact True.intro
      .exact zm Ag λ_=>True.intro
    .unfold keptBack;split
     .split
      .exact True.intro
      .refine zm ?_ λ_=>True.intro;unfold underTheClaimsCaller;exact zm DZ λ_=>True.intro
     .exact True.intro
    .obtain⟨c,d,dt,sl⟩:=o;cases dt<;>exact h
  .exact True.intro
theorem WD {env:Env}:DK (PySem.frameOf env):=by
 unfold PySem.frameOf;refine zm (zm DZ λ_=>True.intro) λes=>zm ?_ λr=>?_
 .cases es.dropWhile (·.frame != env.frame)with
  |nil=>exact True.intro
  |cons e r=>unfold frameObject;exact zm (Mt _) λ_=>True.intro
 .split<;>exact True.intro
theorem WE {ty:String}{vs:List Value}:DK (newFields ty vs):=by
 unfold newFields newObj;dsimp only;have rest:DK (newObjAsIs (Value.type ty) (Data.fields vs.toArray)):=by unfold newObjAsIs;exact zm Wx λ_=>True.intro
 split
 .exact zm True.intro λ_=>rest
 .exact rest
theorem WH {f:Addr}{b:Bool}:DK (entryPlaceOf f b):=by unfold entryPlaceOf;refine zm DZ λWI=>?_;split<;>exact True.intro
theorem Mu {e:Value}{env:Env}:DK (noteFrame e env):=by
 unfold noteFrame;split
 .have rest:∀{head:Value}{f:Addr},DK (do setField e 1 (<-EntryCells.newEntry head (<-PySem.frameOf env) .none (rawInt f) .none (<-entryPlaceOf f (head != .none)))):=λ{head f}=>zm WD λa=>zm WH λpl=>zm WE λb=>D0;refine zm Ag λhead=>?_;split
  .refine zm Ag λx=>?_;split
   .exact True.intro
   .exact zm D0 λ_=>rest
  .exact rest
 .exact True.intro
theorem Mv {env:Env}{e:Value}:DK (leaving env e):=zm Mu λ_=>D1
end L2
namespace PySem
section
variable {prog:Program}{w:World}{A:Around}{E:Value->Shared->Prop}{h:Heap}{g:Array GenState}{d:Drawn}{t:Nat}{os:OsState}
variable {nm q:Str}{C N:Addr}{bs bm oV:List Value}{hdct:Bool}{sn:List Str}{sub:List Value}{ab:Bool}{col:Option Bool}{dd:Option Addr}{k0 k1 k2 k3 k5:Option Value}{Bq newId jC:String}
theorem WJ (F:ExcBaseFacts Bq newId jC oV)(T:OwnTail h oV bm){rest:List Value}{fI:Addr}{oI:Obj}{Q:Fin->Shared->Prop}(hC:h.get? C=some (excClassObj nm q C N bs bm hdct sn sub ab col dd k0 k1 k2 k3 k5 newId))(L:PySem.W.Looks (model prog w) h (typeLookup (.ref C) "__init__") (some (.ref fI)))(D2:h.get? fI=some oI)(D3:oI.cls= .type "function")(jD:rest.length<=sizeLine)(hq:∀h' e,Heap.MadeExcOf h h' e (.ref C) rest->wpAny (model prog w) A (call (.ref fI) (.ref e::rest)) (λr s'=>r= .none/\Q (.done (.ret (.ref e))) s') E ⟨h',g,d,t,os⟩):
  wpAny (model prog w) A (Builtin.«type.__call__» ⟨.ref C::rest,[]⟩) Q E ⟨h,g,d,t,os⟩:=by
 repeat(first|with_reducible refine wpAny_loadPart_at hC ?_|with_reducible refine wpAny_madeBy_exc hC ?_|wp_step)
 refine codeAny_call_builtin_code (Code.quiet_builtin _ F.quiet) (wpAny_check_new_subT F T hC (codeAny_exc_new_subT F T hC ?_ jD));show wpAny _ _ _ _ _ _;have hk:∀b o,h.get? b=some o->((h.push {cls:=.type "tuple",data:=.seq rest.toArray}).push {cls:=.ref C,data:=.fields #[.ref h.objs.size,.none,.none,.none,.bool false,.none]}).get? b=some o:=λb o e=>Heap.get?_push_of_some _ (Heap.get?_push_of_some _ e);have uP:((h.push {cls:=.type "tuple",data:=.seq rest.toArray}).push {cls:=.ref C,data:=.fields #[.ref h.objs.size,.none,.none,.none,.bool false,.none]}).get? (h.objs.size+1)=some {cls:=.ref C,data:=.fields #[.ref h.objs.size,.none,.none,.none,.bool false,.none]}:=by heap_get
 have hm:Heap.MadeExcOf h ((h.push {cls:=.type "tuple",data:=.seq rest.toArray}).push {cls:=.ref C,data:=.fields #[.ref h.objs.size,.none,.none,.none,.bool false,.none]}) (h.objs.size+1) (.ref C) rest:=⟨hk,Heap.get?_none_of_le (le_succ _),h.objs.size,uP,Heap.get?_none_of_le (le_refl _),Heap.get?_push_of_some _ (Heap.get?_push_at rfl rfl)⟩;have dY:=hq _ _ hm;have WK:=hk _ _ hC;have D4:=hk _ _ D2;have WL:(Value.ref C::bm).contains (.ref C)=true:=by simp
 unfold isInstance;repeat(first|with_reducible refine wpAny_loadPart_at uP ?_|(with_reducible refine wpAny_isSubtype_exc WK ?_;rw[WL])|wp_step)
 show wpAny _ _ (typeLookup (.ref C) _) _ _ _;refine L _ _ _ _ hk (wpAny_holding (wpAny_bind ?_));unfold bindSpecial;refine wpAny_bind (wpAny_typeOf (T:="function") ⟨_,D4,D3⟩ ?_);rw[if_pos (by decide)];refine wpAny_pure (wpAny_bind (wpAny_mono dY (λr s' hr=>?_) λ_ _ x=>x));obtain⟨rfl,hQ⟩:=hr;wp_walk;exact hQ
theorem WM (F:ExcBaseFacts Bq newId jC oV)(T:OwnTail h oV bm){rest:List Value}{fI:Addr}{oI:Obj}{Q:Value->Shared->Prop}(hC:h.get? C=some (excClassObj nm q C N bs bm hdct sn sub ab col dd k0 k1 k2 k3 k5 newId))(L:PySem.W.Looks (model prog w) h (typeLookup (.ref C) "__init__") (some (.ref fI)))(D2:h.get? fI=some oI)(D3:oI.cls= .type "function")(jD:rest.length<=sizeLine)(hq:∀h' e,Heap.MadeExcOf h h' e (.ref C) rest->wpAny (model prog w) (A.under (.builtin "type.__call__" ⟨.ref C::rest,[]⟩)) (call (.ref fI) (.ref e::rest)) (λr s'=>r= .none/\Q (.ref e) s') E ⟨h',g,d,t,os⟩):
  wpAny (model prog w) A (call (.ref C) rest) Q E ⟨h,g,d,t,os⟩:=by
 have f1:=tc_lookup;have f2:=tc_bind (.ref C);have hT:(⟨h,g,d,t,os⟩:Shared).TypeIs (.ref C) "type":=⟨_,hC,rfl⟩;refine wpAny_call (codeAny_of_tree ?_);show wpAny _ _ (callAny (.ref C) _) _ _ _;repeat(any_goals (first|assumption|with_reducible refine wpAny_loadPart_at hC ?_|wp_step))
 refine⟨rfl,?_⟩;exact codeAny_call_builtin_at (Code.quiet_builtin _ (by decide+kernel)) entry_typeCall (wpAny_check_type_call_sub hC (WJ F T hC L D2 D3 jD λh' e hm=>hq h' e hm))
theorem WN {s:Shared}{env:Env}{x:Sem Value}{Q:Flow->Shared->Prop}(cV:bm.contains (.type "BaseException")=true)(hh:A.handled=none)(hx:wpAny (model prog w) A x (λv s1=>∃e oe t,v= .ref e/\s1.heap.get? C=some (excClassObj nm q C N bs bm hdct sn sub ab col dd k0 k1 k2 k3 k5 newId)/\s1.heap.get? e=some oe/\oe.cls= .ref C/\oe.data= .fields #[.ref t,.none,.none,.none,.bool false,.none]/\E (.ref e) s1) E s):
  wpAny (model prog w) A (raiseStmt env (some x) none) Q E s:=by
 have D5:(Value.ref C::bm).contains (.type "BaseException")=true:=by rw[List.contains_cons,cV,Bool.or_true]
 unfold raiseStmt;refine wpAny_bind (wpAny_mono hx (λv s1 q1=>?_) λ_ _ z=>z);obtain⟨e,oe,t,rfl,hC,he,hc,hd,hE⟩:=q1;obtain⟨hp,g,dr,tk,os⟩:=s1;obtain⟨c0,di,da,sl⟩:=oe;dsimp only at hc hd;subst hc hd;repeat(first|with_reducible refine wpAny_loadPart_at he ?_|with_reducible refine wpAny_loadPart_at hC ?_|(with_reducible refine wpAny_isSubtype_exc hC ?_;rw[D5])|wp_step)
 exact wpAny_raiseNew_none hh hE
end
end PySem
namespace PySem
open Builtin Builtin.ObjectAttr
abbrev Ah:List Value:=[.type "ValueError",.type "Exception",.type "BaseException",.type "object"]
section
variable {prog:Program}{w:World}{A:Around}{E:Value->Shared->Prop}{h:Heap}{g:Array GenState}{d:Drawn}{t:Nat}{os:OsState}
variable {nm q:Str}{C N x:Addr}{bs bm:List Value}{hdct:Bool}{sn:List Str}{sub:List Value}{ab:Bool}{col:Option Bool}{dd:Option Addr}{k0 k1 k2 k3 k5:Option Value}{newId:String}{name:Str}{v:Value}{o:Obj}
theorem Mw {M:Model}{α:Type}{p:Sem α}{r:α}{Q:α->Shared->Prop}(L:PySem.W.Looks M h p r)(hq:Q r ⟨h,g,d,t,os⟩):wpAny M A p Q E ⟨h,g,d,t,os⟩:=L _ _ _ _ (λ_ _ e=>e) hq
theorem WO {self:Value}(T:OwnTail h Ah bm):refuseLoop self "__setattr__" bm=pure ():=by
 induction T with
 |base=>exact F.store_ValueError.passes self
 |own _ _ _ _ ih=>rw[refuseLoop_ref];exact ih
theorem WQ {tk:Tok}{Q:Fin->Shared->Prop}(T:OwnTail h Ah bm)(hC:h.get? C=some (excClassObj nm q C N bs bm true sn sub ab col dd k0 k1 k2 k3 k5 newId))(Ln:PySem.W.Looks (model prog w) h (typeLookup (.ref C) name) none)(hx:h.get? x=some o)(hc:o.cls= .ref C)(D6:∀c,o.data≠.cls c)(D7:o.dict=none)(hq:∀h' iD dx,h.get? dx=none->dx≠x->h'.get? x=some {o with dict:=some dx}->h'.Ns1 dx (λy=>if y=name then some v else none)->(∀b ob,b≠x->h.get? b=some ob->h'.get? b=some ob)->Q (.done (.ret .none)) ⟨h',g,d,iD,os⟩):
  wpAny (model prog w) A (Builtin.«object.__setattr__» ⟨[.ref x,.str name tk,v],[]⟩) Q E ⟨h,g,d,t,os⟩:=by
 have uQ:=WO (self:=.ref x) T;unfold Builtin.«object.__setattr__»;repeat(first|rw[refuse_eq]|(rw[refuseLoop_ref,uQ])|(with_reducible refine wpAny_loadPart_at hx ?_;rw[hc])|with_reducible refine wpAny_mroOf_exc hC ?_|with_reducible refine Mw Ln ?_|wp_step)
 rw[D7,if_neg (by simp[typeHasDict])];split
 .rename_i eS;cases eS
 split
 .rename_i c eS;exact absurd eS (D6 c)
 have tZ:(h.push {cls:=.type "dict",data:=.dict #[]}).get? x=some o:=Heap.get?_push_of_some _ hx;have uB:x≠h.objs.size:=ne_of_lt (Heap.lt_size hx);refine wpAny_bind (wpAny_alloc' (wpAny_bind (wpAny_update' tZ (wpAny_pure ?_))));have WR:((h.push {cls:=.type "dict",data:=.dict #[]}).update x λo=>{cls:=o.cls,dict:=some h.objs.size,data:=o.data,slots:=o.slots}).get? h.objs.size=some {cls:=.type "dict",data:=.dict #[]}:=(Heap.get?_update_ne _ _ _ _ uB.symm).trans (Heap.get?_push_at rfl rfl);show wpAny _ _ (storeInDict h.objs.size (.str name tk) name v) _ _ _;unfold storeInDict newKeyGuard;refine wpAny_bind (wpAny_pure (wpAny_bind (wpAny_nsSet1 (Heap.Ns1.of_empty ⟨_,#[],_,WR,rfl,λe he=>absurd he (by simp),λ_=>rfl⟩) λh' mQ hs=>?_)));obtain⟨oD,RP,RQ,CV,CW,iU⟩:=mQ.count (Within.cons name v Within.nil);refine wpAny_bind (wpAny_lookBehind CV (by rw[CW];exact pastItsLine_dict (le_trans iU (by rw[length_cons,List.length_nil,sizeLine_eq];lia))) ?_);wp_walk;refine hq h' _ h.objs.size (Heap.get?_none_of_le (le_refl _)) uB.symm ?_ mQ λb ob WS hb=>(hs.2 b (ne_of_lt (Heap.lt_size hb))).trans ((Heap.get?_update_ne _ _ _ _ WS).trans (Heap.get?_push_of_some _ hb));refine(hs.2 x uB).trans (Heap.get?_update_self _ tZ ?_);have nH:=(Heap.get?_some_iff.mp hx).2;obtain⟨oc,od,WT,kI⟩:=o;cases WT<;>first|rfl|exact nH
theorem WU {M:Model}{fc:Value}{Q:Unit->Shared->Prop}(T:OwnTail h Ah bm)(hC:h.get? C=some (excClassObj nm q C N bs bm hdct sn sub ab col dd k0 k1 k2 k3 k5 newId))(hx:h.get? x=some o)(hc:o.cls= .ref C)(hq:Q () ⟨h,g,d,t,os⟩):wpAny M A (checkBuiltinCall "object.__setattr__" ⟨[.ref x,fc,v],[]⟩) Q E ⟨h,g,d,t,os⟩:=by
 have D5:(Value.ref C::bm).contains (.type "object")=true:=by rw[List.contains_cons,T.hasType F.store_ValueError.hasOwner,Bool.or_true]
 have ha:=F.store_ValueError.args (.ref x) fc v;simp only[checkBuiltinCall,F.store_ValueError.kind,F.store_ValueError.split];refine wpAny_bind ?_;unfold isInstance;repeat(first|(with_reducible refine wpAny_loadPart_at hx ?_;rw[hc])|(with_reducible refine wpAny_isSubtype_exc hC ?_;rw[D5])|wp_step)
 exact hq
theorem WV {Q:Unit->Shared->Prop}(T:OwnTail h Ah bm)(hC:h.get? C=some (excClassObj nm q C N bs bm true sn sub ab col dd k0 k1 k2 k3 k5 newId))(Ls:PySem.W.Looks (model prog w) h (typeLookup (.ref C) "__setattr__") (some (.builtin "object.__setattr__")))(Ln:PySem.W.Looks (model prog w) h (typeLookup (.ref C) name) none)(hx:h.get? x=some o)(hc:o.cls= .ref C)(D6:∀c,o.data≠.cls c)(D7:o.dict=none)(hq:∀h' iD dx,h.get? dx=none->dx≠x->h'.get? x=some {o with dict:=some dx}->h'.Ns1 dx (λy=>if y=name then some v else none)->(∀b ob,b≠x->h.get? b=some ob->h'.get? b=some ob)->Q () ⟨h',g,d,iD,os⟩):
  wpAny (model prog w) A (setAttr (.ref x) name v) Q E ⟨h,g,d,t,os⟩:=by
 have f3:=F.store_ValueError.slot.bind (.ref x);unfold setAttr callSpecial? specialOf;repeat(any_goals (first|assumption|(with_reducible refine wpAny_loadPart_at hx ?_;rw[hc])|with_reducible refine Mw Ls ?_|wp_step))
 refine codeAny_call_builtin F.store_ValueError.slot.plain F.store_ValueError.entry (WU T hC hx hc (WQ T hC Ln hx hc D6 D7 λh' iD dx a1 a2 a3 a4 a5=>?_));repeat(any_goals (first|assumption|wp_step))
 exact hq h' iD dx a1 a2 a3 a4 a5
end
end PySem
namespace L2
open PySem PySem.Spec PyProof.Rows
noncomputable def Ai (K:PySem.W.Frag)(C f:Addr):Bool:=(match K.lookup f with
 |some o=>o.cls== .type "function"
 |none=>false)&&match K.lookup C with
 |some ⟨.type "type",_,.cls cd,sl⟩=>(match cd.mro,sl.toList with
  | .ref C'::bm,[_,_,_,_,some (.builtin n),_]=>C'==C&&n=="ValueError.__new__"&&!cd.hasDel&&cd.hasDict&&PySem.W.tailIn K tT bm
  |_,_=>false)
 |_=>false
theorem D8 {K:PySem.W.Frag}{h:Heap}{C f:Addr}(X:K.In h)(q:Ai K C f=true):(∃oI,h.get? f=some oI/\oI.cls= .type "function")/\∃bm N nm qn bs sn sub ab col dd k0 k1 k2 k3 k5,h.get? C=some (excClassObj nm qn C N bs bm true sn sub ab col dd k0 k1 k2 k3 k5 "ValueError.__new__")/\OwnTail h tT bm:=by
 unfold Ai at q;rw[Bool.and_eq_true]at q;obtain⟨q0,q⟩:=q;refine⟨?_,?_⟩
 .split at q0
  .rename_i o ho;exact⟨o,X _ _ ho,beq_iff_eq.mp q0⟩
  .cases q0
 split at q
 .rename_i dd cd sl ho;split at q
  .rename_i C' bm k0 k1 k2 k3 n k5 hm hs;simp only[Bool.and_eq_true,beq_iff_eq,Bool.not_eq_true']at q;obtain⟨⟨⟨⟨rfl,rfl⟩,i5⟩,My⟩,ht⟩:=q;obtain⟨nm,bs,mro,ns,qn,hd,sn,sub,ab,col,del⟩:=cd;dsimp only at hm i5 My;subst hm i5 My;have lZ:sl=#[k0,k1,k2,k3,some (.builtin "ValueError.__new__"),k5]:=by
    obtain⟨l⟩:=sl;simp only at hs;rw[hs]
   subst lZ;exact⟨bm,ns,nm,qn,bs,sn,sub,ab,col,dd,k0,k1,k2,k3,k5,X _ _ ho,PySem.W.tail_of_in X ht⟩
  .cases q
 .cases q
structure Aj (K:PySem.W.Frag)(C f:Addr)(x:Str):Prop where
 cls:Ai K C f=true
 WW:PySem.W.findIn K (.ref C) "__init__"=some (some (.ref f))
 sa:PySem.W.findIn K (.ref C) "__setattr__"=some (some (.builtin "object.__setattr__"))
 ga:PySem.W.findIn K (.ref C) "__getattribute__"=some (some (.builtin "BaseException.__getattribute__"))
 gn:PySem.W.findIn K (.ref C) "__getattr__"=some none
 no:PySem.W.findIn K (.ref C) x=some none
def uR (ea C:Addr):HO:=.ext λh=>∃t sl,h.get? ea=some ⟨.ref C,none,.fields #[.ref t,.none,.none,.none,.bool false,.none],sl⟩
noncomputable def pE (ea C d:Addr):HO:=.ext λh=>∃t sl,h.get? ea=some ⟨.ref C,some d,.fields #[.ref t,.none,.none,.none,.bool false,.none],sl⟩
section
variable {X:Cx}{pins:List (Addr×Obj)}{U:St}{H:Hp}{s:Shared}
theorem Inv.uS (I:Inv X pins U H s)(hex:X.ex=[]){b:Addr}(e:s.heap.get? b=none):X.av.heap.get? b=none:=by
 cases q:X.av.heap.get? b with
 |none=>rfl
 |some o=>have base:=I.base;rw[hex]at base;obtain⟨o1,e1⟩:=base.there b o q (by simp);rw[e]at e1;cases e1
noncomputable def WX (C:Addr)(ta tv:TE)(f:Str):TS:=λD U H=>tv U H λy H1=>ta U H1 λx H2=>∃a,x= .ref a/\H2 a=some (uR a C)/\∀d,H2 d=none->D.nx U (upd (upd H2 a (pE a C d)) d (.xd [(f,y)]))
theorem WY {C fi:Addr}{o value:Expr}{f:Str}{pos pos':Pos}{ta tv:TE}(hI:Aj X.K C fi f)(hex:X.ex=[])(ha:PE X o ta)(hv:PE X value tv)(hs:swapsWith value (some (.Attribute o f pos')) pos.line X.env=pure false):PS X (.Assign [.Attribute o f pos'] value pos) (WX C ta tv f):=by
 intro pins s U H D I h;refine plainObj_wpAny_Assign_Attribute (ai (hv pins s U H _ I h) λu s1 ⟨y,H1,I1,ry,q⟩=>ai (ha pins s1 U H1 _ I1 q) λov s2 zQ=>?_) hs;obtain⟨x,H2,I2,rx,a,ex,ea,q2⟩:=zQ;subst ex;obtain rfl:ov=Value.ref a:=rx;obtain⟨⟨t,sl,hx⟩,_,_⟩:=I2.ag a _ ea;obtain⟨_,bm,N,nm,qn,bs,sn,sub,ab,col,dd,k0,k1,k2,k3,k5,hC,T⟩:=D8 I2.aW hI.cls;obtain⟨hp,g,dr,tk,os⟩:=s2;refine WV T hC (PySem.W.looks_findIn I2.aW hI.sa) (PySem.W.looks_findIn I2.aW hI.no) hx rfl (λc z=>by cases z) rfl λh' iD d n1 n2 e1 e2 kp=>?_;have rl:H2 d=none:=by
  cases z:H2 d with
  |none=>rfl
  |some u=>obtain⟨o',e'⟩:=(I2.ag d u z).there;rw[show hp.get? d=none from n1]at e';cases e'
 have I3:Inv X pins U (upd H2 a (pE a C d)) ⟨h',g,dr,iD,os⟩:=by refine I2.write (x:=a) (e:=a) (h':=h') (t':=iD) (by rw[ea];exact True.intro) (.inl rfl) (λb u hb e=>kp b u hb e) ⟨_,e1⟩ ⟨⟨t,sl,e1⟩,⟨_,e1⟩,λh1 h2 p k=>?_⟩;obtain⟨t',oC,e'⟩:=p;exact⟨t',oC,k _ e'⟩
 have nO:hp.get? d=none:=n1;have gW:∀b o,hp.get? b=some o->b≠d:=λb o e z=>by rw[z,nO]at e;cases e
 have I4:Inv X pins U (upd (upd H2 a (pE a C d)) d (.xd [(f,y)])) ⟨h',g,dr,iD,os⟩:=by
  refine I3.DD hex (by rw[jf n2];exact rl) (I2.uS hex nO) ?_ (λz c e=>?_) (λp i0=>?_) ⟨_,e2,λz=>?_⟩
  .obtain⟨m,⟨o',_,_,bh,_⟩,_⟩:=I2.loc;exact(gW _ _ bh).symm
  .obtain⟨v',o',bh,_⟩:=I2.cell z c e;exact gW _ _ bh
  .exact gW _ _ (I2.pin p i0).1
  .rw[lookup_cons];by_cases hz:z=f
   .subst hz;simp only[beq_self_eq_true,if_true];exact ry
   .have:(z==f)=false:=by simpa using hz
    rw[this,if_neg hz];exact True.intro
 exact⟨U,_,I4,q2 d rl⟩
theorem Inv.drop {a:Addr}{φ:Heap->Prop}(I:Inv X pins U H s)(ha:H a=some (.ext φ)):Inv X pins U (λb=>if b=a then none else H b) s:=by
 have ne:∀{b:Addr}{u:HO},H b=some u->(∀ψ,u≠.ext ψ)->b≠a:=λ{b u} e h z=>by subst z;rw[ha]at e;exact h _ (Option.some.inj e).symm
 have at_:∀{b:Addr},b≠a->(λb=>if b=a then none else H b) b=H b:=λh=>if_neg h;have nn:∀{b:Addr},H b=none->(λb=>if b=a then none else H b) b=none:=λ{b} h=>by
  by_cases z:b=a
  .exact if_pos z
  .exact(if_neg z).trans h
 refine⟨I.ok,I.os,I.bare,⟨I.base.keep,I.base.slot,λb ob e n hx=>nn (I.base.free b ob e n hx),I.base.there,λb xs q=>?_,λb ob v q=>?_,λb ps q=>?_⟩,I.loc,I.cell,nn I.free,λx c e=>nn (I.dW x c e),λp hp=>?_,λb v e=>?_,I.len⟩
 .have q':=I.base.eG b xs q;exact(at_ (ne q' λ_ z=>nomatch z)).trans q'
 .have q':=I.base.dU b ob v q;exact(at_ (ne q' λ_ z=>nomatch z)).trans q'
 .obtain⟨more,z⟩:=I.base.eQ b ps q;exact⟨more,(at_ (ne z λ_ z=>nomatch z)).trans z⟩
 .obtain⟨q1,q2,q3⟩:=I.pin p hp;exact⟨q1,nn q2,q3⟩
 .by_cases z:b=a
  .have e':(if b=a then none else H b)=some v:=e;rw[if_pos z]at e';cases e'
  .have e':H b=some v:=(at_ z).symm.trans e;exact(I.ag b v e').cT (λ_ _ _ q=>q) (λc q=>(at_ (ne q λ_ z=>nomatch z)).trans q) λc xs q=>(at_ (ne q λ_ z=>nomatch z)).trans q
end
noncomputable def dE (P:Program)(w:World):fw:=λl H s E e s'=>∃ea cls dd H',e= .ref ea/\rm P w l H H' s s' ea cls/\(∃oe,s'.heap.get? ea=some oe/\oe.dict=dd)/\E cls dd H'
section
variable {P:Program}{w:World}{K:PySem.W.Frag}{mg:Str->Option Value}{base:Heap}{N:List Str}{qual:Str}{scope:Scope}{f:Addr}{cd:Value}{A:Around}{outer:List Env}{s:Shared}{H:Hp}{E:XK}
theorem WZ:Passes (dE P w) (dh (dE P w) P w K mg base N qual scope f cd A outer s H E) E:=by
 intro pins U H1 s1 e s' I h;obtain⟨ea,cls,dd,H',rfl,F,⟨oe,he,bU⟩,q⟩:=h;obtain⟨Bq,t,hf,k1,k2⟩:=F.Lx;show wpAny (model P w) (A.deeper (envOfC qual scope s.heap.objs.size f cd)) (leaving (envOfC qual scope s.heap.objs.size f cd) (.ref ea)) _ _ s';refine wpAny_mono (uO Mv (wpAny_leaves_onW (E:=λ_ _=>False) (Q:=λ_ bL=>∃h',bL={s' with heap:=h'}/\Heap.FlyingW Bq outer ea cls (.ref t) h'/\s'.heap.UpToSlots h') I.ok.frames (L:=s.heap.objs.size) rfl hf λh' cM hu=>⟨h',rfl,cM,hu⟩)) (λ_ bL zQ=>?_) (λ_ _ c=>c.1.elim);obtain⟨⟨h',e1,cM,hu⟩,kd⟩:=zQ;subst e1;obtain⟨o2,e2,d2⟩:=kd ea oe he;exact⟨ea,cls,dd,H',rfl,Uo I rfl F cM hu k1 k2,⟨o2,e2,d2.trans bU⟩,q⟩
theorem Mz {pins:List (Addr×Obj)}{U:St}{H1:Hp}{s1:Shared}{ea t:Addr}{oe:Obj}(I:Inv (dh (dE P w) P w K mg base N qual scope f cd A outer s H E) pins U H1 s1)(he:s1.heap.get? ea=some oe)(hd:oe.data= .fields #[.ref t,.none,.none,.none,.bool false,.none])(new:s.heap.get? ea=none)(hn:H1 ea=none)(q:E oe.cls oe.dict H1):(dh (dE P w) P w K mg base N qual scope f cd A outer s H E).xe (.ref ea) s1:=by
 have cE:∀b:Addr,b∉([]:List Addr):=λb=>by simp
 have ib:Un (bo outer) [] H H1 s.heap s1.heap:=I.base;obtain⟨dv,mf⟩:∃dv,dv=envOfC qual scope s.heap.objs.size f cd::outer:=⟨_,rfl⟩;have Ak:∀env∈dv,∀b,env.frame=some b->b∈ea::bo dv:=λenv he b hb=>mem_cons_of_mem _ (mem_filterMap.mpr ⟨env,he,hb⟩);have jE:∀b o,s1.heap.get? b=some o->b≠ea->b∉bo dv->(PySem.W.hideAll s1.heap (ea::bo dv)).get? b=some o:=λb o e h1 h2=>PySem.W.hideAll_get _ e λz=>(mem_cons.mp z).elim h1 h2;have kO:∀b o,s.heap.get? b=some o->b∉bo outer->b∉bo dv:=λb o e hb=>by rw[mf];exact I.kO e hb
 have Al:∀b o,s.heap.get? b=some o->b≠ea:=λb o e z=>by rw[z,new]at e;cases e
 have nC:∀b u,H1 b=some u->b≠ea:=λb u e z=>by rw[z,hn]at e;cases e
 have lB:∀b u,H1 b=some u->b∉bo dv:=λb u e z=>by rw[mf]at z;have:=I.yB b z;rw[e]at this;cases this
 have IS:s1.heap.FunFrames (PySem.W.hideAll s1.heap (ea::bo dv)) (envOfC qual scope s.heap.objs.size f cd::outer):=by rw[mf];exact PySem.W.funFrames_hide I.stack (by rw[mf]at Ak;exact Ak)
 show wpAny (model P w) (A.deeper (envOfC qual scope s.heap.objs.size f cd)) (leaving (envOfC qual scope s.heap.objs.size f cd) (.ref ea)) _ _ s1;refine wpAny_mono (uO Mv (wpAny_leaving_firstW (E:=λ_ _=>False) (base:=PySem.W.hideAll s1.heap (ea::bo dv)) (a0:=.ref t) (Q:=λ_ bL=>∃h',bL={s1 with heap:=h'}/\Heap.LeftW (PySem.W.hideAll s1.heap (ea::bo dv)) (envOfC qual scope s.heap.objs.size f cd::outer) ea oe.cls (.ref t) s1.heap h') I.ok.frames IS rfl he (λb o q=>PySem.W.of_hideAll _ q) (PySem.W.hideAll_none _ (by simp)) hd rfl rfl λh' hL=>⟨h',rfl,hL⟩)) (λ_ bL ⟨⟨h',e1,hL⟩,kd⟩=>?_) (λ_ _ c=>c.1.elim);subst e1;obtain⟨o2,e2,d2⟩:=kd ea oe he;obtain⟨x1,⟨_,_,x2⟩,x3,x4⟩:=hL;have cT:∀b o,s1.heap.get? b=some o->b≠ea->b∉bo dv->h'.get? b=some o:=λb o e h1 h2=>x1 _ _ (jE b o e h1 h2);have slots:∀b o,s.heap.get? b=some o->H b=none->b∈bo outer->∃sl,h'.get? b=some {o with slots:=sl}:=λb o e n hb=>by
  obtain⟨sl,e1⟩:=ib.slot b o e n hb (cE b);obtain⟨_,o3,e3,nf⟩:=I.ok.fu.mem hb;have MA:s.heap.get? b=some o3:=e3;rw[e]at MA;cases MA;obtain⟨tS,e4⟩:=x4 b _ e1 nf;exact⟨tS,e4⟩
 refine⟨ea,oe.cls,oe.dict,H1,rfl,⟨I.os,I.bare,⟨λb o e n hb _=>?_,λb o e n hb _=>slots b o e n hb,λb o e n _=>ib.free b o e n (cE b),λb o e _=>?_,ib.eG,ib.dU,ib.eQ⟩,λb u e=>?_,⟨PySem.W.hideAll s1.heap (ea::bo dv),t,⟨x1,PySem.W.hideAll_none _ (by simp),x2,x3⟩,λb o o' e e' hb=>?_,λb u o' q e'=>?_⟩,new⟩,⟨o2,e2,d2⟩,q⟩
 .exact cT b o (ib.keep b o e n hb (cE b)) (Al b o e) (kO b o e hb)
 .by_cases hb:b∈bo outer
  .obtain⟨sl,q⟩:=slots b o e (I.ok.iO b hb) hb;exact⟨_,q⟩
  .obtain⟨o1,e1⟩:=ib.there b o e (cE b);exact⟨o1,cT b o1 e1 (Al b o e) (kO b o e hb)⟩
 .refine(I.ag b u e).cT (λc v hc q=>?_) (λ_ q=>q) λ_ _ q=>q;rcases hc with z|z
  .subst z;exact cT _ _ q (nC _ _ e) (lB _ _ e)
  .exact cT _ _ q (nC _ _ z) (lB _ _ z)
 .obtain⟨o1,e1⟩:=ib.there b o e (cE b);have z:=cT b o1 e1 (Al b o e) (kO b o e hb);have e2:h'.get? b=some o':=e';rw[z]at e2;cases e2;exact jE b _ e1 (Al b o e) (kO b o e hb)
 .obtain⟨o1,e1⟩:=(I.ag b u q).there;have z:=cT b o1 e1 (nC _ _ q) (lB _ _ q);have e2:h'.get? b=some o':=e';rw[z]at e2;cases e2;exact jE b _ e1 (nC _ _ q) (lB _ _ q)
end
section
variable {P:Program}{w:World}{K:PySem.W.Frag}{mg:Str->Option Value}{base:Heap}
theorem aw.MB {x qual:Str}{st:Stmt}{f:Addr}{fd:FuncData}{N ps:List Str}{k:Nat}{sp:Sp}(F:aw K x qual st f fd)(S:ql N ps (jv st))(len:∀vs H Q E,sp vs H Q E->vs.length=ps.length)(bc:∀(aJ:Value)(A:Around)(outer:List Env)(s:Shared)(H:Hp)(vs:List V)(Q:VK)(E:XK),aY k (A.deeper (envOfC qual (jv st) s.heap.objs.size f aJ))->sp vs H Q E->∃t,dg (dh (dE P w) P w K mg base N qual (jv st) f aJ A outer s H E) (ip st) t/\t {nx:=λ_ H'=>Q .aq H',rt:=Q} (start N vs) H):xl P w K mg base (dE P w) (k+1) f fd ps sp:=by
 obtain⟨oc,od,kV,doc,pm,an,aJ,ct,kI,rfl,lk,eS⟩:=F.ex;exact Kz lk eS S len λA outer s H vs Q E hr il=>bc aJ A outer s H vs Q E hr il
theorem aw.W0 {x qual:Str}{st:Stmt}{f:Addr}{fd:FuncData}{N ps:List Str}{k:Nat}{sp:Sp}(F:aw K x qual st f fd)(S:ql N ps (jv st))(bc:∀(aJ:Value)(A:Around)(outer:List Env)(s:Shared)(H:Hp)(vs:List V)(Q:VK)(E:XK),aY k (A.deeper (envOfC qual (jv st) s.heap.objs.size f aJ))->sp vs H Q E->∃t,dg (dh (dE P w) P w K mg base N qual (jv st) f aJ A outer s H E) (ip st) t/\t {nx:=λ_ H'=>Q .aq H',rt:=Q} (start N vs) H)(len:autoParam (∀vs H Q E,sp vs H Q E->vs.length=ps.length) aP6):xl P w K mg base (dE P w) (k+1) f fd ps sp:=F.MB S len bc
theorem aw.W2 {x qual:Str}{st:Stmt}{f:Addr}{fd:FuncData}{N ps:List Str}{k:Nat}{sp:Sp}(F:aw K x qual st f fd)(bc:∀(aJ:Value)(A:Around)(outer:List Env)(s:Shared)(H:Hp)(vs:List V)(Q:VK)(E:XK),aY k (A.deeper (envOfC qual (jv st) s.heap.objs.size f aJ))->sp vs H Q E->∃t,dg (dh (dE P w) P w K mg base N qual (jv st) f aJ A outer s H E) (ip st) t/\t {nx:=λ_ H'=>Q .aq H',rt:=Q} (start N vs) H)(S:autoParam (ql N ps (jv st)) aP8)(len:autoParam (∀vs H Q E,sp vs H Q E->vs.length=ps.length) aP6):xl P w K mg base (dE P w) (k+1) f fd ps sp:=F.MB S len bc
theorem Inv.MC {X:Cx}{pins:List (Addr×Obj)}{U:St}{H:Hp}{s:Shared}(I:Inv X pins U H s){a:Addr}(e:s.heap.get? a=none):H a=none:=by
 cases z:H a with
 |none=>rfl
 |some u=>obtain⟨o,q⟩:=(I.ag a u z).there;rw[e]at q;cases q
theorem MD {N:List Str}{qual:Str}{scope:Scope}{f:Addr}{cd:Value}{A:Around}{outer:List Env}{s:Shared}{H:Hp}{E:XK}{x:Str}{C:Addr}{e:Expr}{es:List Expr}{t:TA}{np au pos:Pos}(hg:Gl (dh (dE P w) P w K mg base N qual scope f cd A outer s H E) x)(hm:mg x=some (.ref C))(hC:zM K C)(ha:PA (dh (dE P w) P w K mg base N qual scope f cd A outer s H E) (e::es) t)(cU:autoParam ((x==("__debug__":Str))=false) aP2)(he:autoParam (starEach (e::es) (envOfC qual scope s.heap.objs.size f cd)=(false,eval e (envOfC qual scope s.heap.objs.size f cd))::starEach es (envOfC qual scope s.heap.objs.size f cd)) aP1)(cw:autoParam ((backTo au (starEach es (envOfC qual scope s.heap.objs.size f cd))).any (·.1)=false) aP1):
  PS (dh (dE P w) P w K mg base N qual scope f cd A outer s H E) (.Raise (some (.Call (.Name x np) (e::es) [] au)) none pos) (Ly (E (.ref C) none) t):=
 Ut rfl hg hm hC ha (λ{pins U H1 s1 ea vs h1} I hx q=>by obtain⟨t,h2,_,_⟩:=hx.there;exact Mz (I.kept (t':=s1.toks) hx.keeps) h2 rfl (I.uS rfl hx.new) (I.MC hx.new) q) cU he cw
end
noncomputable def ME (C:Addr)(sp:Sp)(W:Option Addr->Hp->Prop)(t:TA):TS:=λ_ U H=>t U H λvs H1=>vs.length<=sizeLine/\∀ea,H1 ea=none->sp (.ref ea::vs) (upd H1 ea (uR ea C)) (λv H2=>v= .aq/\∃d,H2 ea=some (pE ea C d)/\W (some d) (λb=>if b=ea then none else H2 b)) E0
section
variable {X:Cx}
theorem W3 {k:Nat}{fI C:Addr}{fd:FuncData}{ps:List Str}{sp:Sp}{fld x:Str}{e:Expr}{es:List Expr}{t:TA}{np au pos:Pos}{W:Option Addr->Hp->Prop}(hc:X.calm=true)(hex:X.ex=[])(hg:Gl X x)(hm:X.mg x=some (.ref C))(hI:Aj X.K C fI fld)(Fn:xl X.prog X.w X.K X.mg X.base CX0 k fI fd ps sp)(hr:aY (k+1) X.A)(hb:Binds X.K fd ps [])(ha:PA X (e::es) t)(DA:∀{pins:List (Addr×Obj)}{U:St}{H:Hp}{s:Shared}{ea t:Addr}{oe:Obj},Inv X pins U H s->s.heap.get? ea=some oe->oe.data= .fields #[.ref t,.none,.none,.none,.bool false,.none]->X.av.heap.get? ea=none->H ea=none->oe.cls= .ref C->W oe.dict H->X.xe (.ref ea) s)(cU:autoParam ((x==("__debug__":Str))=false) aP2)(he:autoParam (starEach (e::es) X.env=(false,eval e X.env)::starEach es X.env) aP1)(cw:autoParam ((backTo au (starEach es X.env)).any (·.1)=false) aP1):
  PS X (.Raise (some (.Call (.Name x np) (e::es) [] au)) none pos) (ME C sp W t):=by
 intro pins s U H D I h;have FB:=F.excBase_ValueError;obtain⟨_,bm,N,nm,qn,bs,sn,sub,ab,col,dd,k0,k1,k2,k3,k5,MF,T0⟩:=D8 I.mod.eR hI.cls;have D9:((backTo au (starEach (e::es) X.env)).any λx=>x.fst)=false:=by rw[he];show(false||(backTo au (starEach es X.env)).any (·.1))=false;rw[cw];rfl
 rw[arm_exec_Raise];refine wpAny_bind (wpAny_standAt ?_);refine WN (C:=C) (nm:=nm) (q:=qn) (N:=N) (bs:=bs) (bm:=bm) (hdct:=true) (sn:=sn) (sub:=sub) (ab:=ab) (col:=col) (dd:=dd) (k0:=k0) (k1:=k1) (k2:=k2) (k3:=k3) (k5:=k5) (newId:="ValueError.__new__") (T0.hasType FB.hasBase) (I.ok.hd hc) (wpAny_bind (wpAny_mono (wpAny_Call_ofName (mR I hg hm ?_ cU)) (λv s3 h3=>wpAny_bind (wpAny_standAt (wpAny_pure h3))) λ_ _ x=>x));have h1:wpAny (model X.prog X.w) X.A (evalArgs (.ref C) true (backTo au (starEach (e::es) X.env)) []) (λa s2=>∃us vs H2,a=⟨us,[]⟩/\Inv X pins U H2 s2/\Vals vs us/\vs.length<=sizeLine/\∀ea,H2 ea=none->sp (.ref ea::vs) (upd H2 ea (uR ea C)) (λv H3=>v= .aq/\∃d,H3 ea=some (pE ea C d)/\W (some d) (λb=>if b=ea then none else H3 b)) E0) X.xe s:=by
  have hA:=ha au pins s U H _ I h;rw[he]at hA⊢;exact Calls.evalArgs_plain (ai hA λus s2 ⟨vs,H2,I2,r2,hz,q2⟩=>⟨us,vs,H2,rfl,I2,r2,hz,q2⟩)
 delta callWith;refine wpAny_bind (wpAny_holding (wpAny_mono h1 (λa s2 h2=>wpAny_bind (wpAny_standAt ?_)) λ_ _ x=>x));obtain⟨us,vs,H2,rfl,I2,r2,hz,q2⟩:=h2;have hC:=I2.bk _ _ MF;have T:=T0.keeps I2.bk;obtain⟨⟨oI,W4,yD⟩,_⟩:=D8 I2.aW hI.cls;obtain⟨hp,g,dr,tk,os⟩:=s2;simp only[D9];refine wpAny_bind (wpAny_keeperOf_exc hC ?_);refine wpAny_bind (WM FB T hC (PySem.W.looks_findIn I2.aW hI.WW) W4 yD (by show us.length<=sizeLine;rw[<-r2.length];exact hz) λh' ea Ea=>?_);have Am:hp.get? ea=none:=Ea.new;have gW:∀b o,hp.get? b=some o->b≠ea:=λb o e z=>by rw[z,Am]at e;cases e
 obtain⟨t0,het,_,_⟩:=Ea.there;have I3:Inv X pins U H2 ⟨h',g,dr,tk,os⟩:=I2.kept (t':=tk) Ea.keeps;have qZ:H2 ea=none:=I2.MC Am;have I4:Inv X pins U (upd H2 ea (uR ea C)) ⟨h',g,dr,tk,os⟩:=by
  refine I3.DD hex qZ (I2.uS hex Am) ?_ (λz c e=>?_) (λp i0=>?_) ⟨⟨t0,_,het⟩,⟨_,het⟩,λh1 h2 p k=>?_⟩
  .obtain⟨m,⟨o',_,_,bh,_⟩,_⟩:=I2.loc;exact(gW _ _ bh).symm
  .obtain⟨v',o',bh,_⟩:=I2.cell z c e;exact gW _ _ bh
  .exact gW _ _ (I2.pin p i0).1
  .obtain⟨t',oC,e'⟩:=p;exact⟨t',oC,k _ e'⟩
 have hq:=q2 ea qZ;have r3:Vals (V.ref ea::vs) (Value.ref ea::us):=.cons rfl r2;have hl:(Value.ref ea::us++[]).length=ps.length:=by have e:=r3.length;rw[Fn.len _ _ _ _ hq]at e;rw[append_nil];exact e.symm
 have MG:=hb ⟨h',g,dr,tk,os⟩ (Value.ref ea::us) I4.aW hl;rw[append_nil]at MG;refine wpAny_call (codeAny_mono (Fn.run _ X.stack _ _ ⟨Value.ref ea::us,[]⟩ (Value.ref ea::us) _ _ E0 (hr.make C us []) (I4.qR.make C us []) MG r3 hq) λr s' dY=>?_);cases r with
 |error e'=>exact False.elim dY
 |ok fl=>
  cases fl with
  |ret u=>obtain⟨v,H5,I5,rv,⟨ev,d,MH,w5⟩⟩:=I4.after dY;subst ev;refine⟨rv,wpAny_bind (wpAny_holding (wpAny_point (wpAny_pure ?_)))⟩;obtain⟨⟨t5,sl5,uT⟩,_,_⟩:=I5.ag ea _ MH;exact⟨ea,_,t5,rfl,I5.bk _ _ MF,uT,rfl,rfl,DA (I5.drop MH) uT rfl (I2.uS hex Am) (if_pos rfl) rfl w5⟩
  |next=>exact False.elim dY
  |brk=>exact False.elim dY
  |cont=>exact False.elim dY
end
def nP (ea:Addr)(cls:Value)(dd:Option Addr):HO:=.ext λh=>∃o vs,h.get? ea=some o/\o.cls=cls/\o.data= .fields vs/\o.dict=dd
noncomputable def jF (X:Cx)(pn:List (Addr×Obj))(W:St->Value->Option Addr->Hp->Prop):Cx:={X with pn:=pn,xe:=λe s'=>∃(pins:List (Addr×Obj))(U:St)(H:Hp)(s0:Shared)(ea:Addr)(cls:Value)(dd:Option Addr)(H':Hp),e= .ref ea/\Inv {X with pn:=pn} pins U H s0/\rm X.prog X.w X.stack H H' s0 s' ea cls/\(∃oe,s'.heap.get? ea=some oe/\oe.dict=dd)/\W U cls dd H'}
section
variable {X:Cx}{pins pn:List (Addr×Obj)}{U:St}{H H':Hp}{s s':Shared}
theorem Inv.W5 {W:St->Value->Option Addr->Hp->Prop}(I:Inv X pins U H s)(h:∀p∈pn,p∈X.pn++pins):Inv (jF X pn W) pins U H s:=I.kP (Yq:=jF X pn W) (I.ok.kP (Yq:=jF X pn W) ⟨rfl,rfl,rfl⟩ rfl rfl rfl rfl rfl rfl rfl I.ok.hd I.ok.frames) rfl rfl rfl rfl rfl rfl rfl rfl λp hp=>(mem_append.mp hp).elim (h p) λz=>mem_append_right _ z
theorem Inv.MI {W:St->Value->Option Addr->Hp->Prop}(I:Inv (jF X pn W) pins U H s):Inv {X with pn:=pn} pins U H s:=I.kP (Yq:={X with pn:=pn}) (I.ok.kP (Yq:={X with pn:=pn}) ⟨rfl,rfl,rfl⟩ rfl rfl rfl rfl rfl rfl rfl I.ok.hd I.ok.frames) rfl rfl rfl rfl rfl rfl rfl rfl λ_ hp=>hp
theorem W6 {W:St->Value->Option Addr->Hp->Prop}(I:Inv (jF X pn W) pins U H s)(e:Value)(s':Shared)(h:dE X.prog X.w X.stack H s (λcls dd H'=>W U cls dd H') e s'):(jF X pn W).xe e s':=by obtain⟨ea,cls,dd,H',rfl,F,hd,q⟩:=h;exact⟨pins,U,H,s,ea,cls,dd,H',rfl,I.MI,F,hd,q⟩
theorem Inv.less {a:Addr}{φ ψ:Heap->Prop}(I:Inv X pins U H s)(ha:H a=some (.ext φ))(h:∀h,φ h->ψ h)(st:∀h1 h2:Heap,ψ h1->(∀o,h1.get? a=some o->h2.get? a=some o)->ψ h2):Inv X pins U (upd H a (.ext ψ)) s:=by obtain⟨p,⟨o,e⟩,_⟩:=I.ag a _ ha;exact I.write (t':=s.toks) (x:=a) (e:=a) (h':=s.heap) (by rw[ha];exact True.intro) (.inl rfl) (λb u _ q=>q) ⟨o,e⟩ ⟨h _ p,⟨o,e⟩,st⟩
noncomputable def MJ (D:Ends)(i:Nat)(ea:Addr)(cls:Value)(dd:Option Addr):Ends:=
  { nx:=λU2 H2=>H2 ea=some (nP ea cls dd)/\D.nx (U2.set i none) (upd H2 ea (nG ea cls))
    rt:=λv H2=>H2 ea=some (nP ea cls dd)/\D.rt v (upd H2 ea (nG ea cls))
    bk:=λU2 H2=>H2 ea=some (nP ea cls dd)/\D.bk (U2.set i none) (upd H2 ea (nG ea cls))
    ct:=λU2 H2=>H2 ea=some (nP ea cls dd)/\D.ct (U2.set i none) (upd H2 ea (nG ea cls))}
theorem W7 {s0 s1:Shared}{H1:Hp}{D:Ends}{x n:Str}{i:Nat}{np uU:Pos}{uV:Stmt}{nQ:List Stmt}{rest:List ExceptHandler}{Pc C ea t:Addr}{dd:Option Addr}{ts:TS}{bg Bq:Heap}{U':St}(jG:X.stack=X.env::X.outer)(hex:X.ex=[])(hg:Gl X x)(hm:X.mg x=some (.ref Pc))(hB:PySem.W.mroIn X.K Pc (.type "BaseException")=some true)(hN:X.N.Nodup)(hi:X.N[i]?=some n)(hn:X.env.scope.names.lookup n=some .local)(hs:∀ea,dg (rn X ea) (uV::nQ) ts)(cU:(x==("__debug__":Str))=false)(IX:Inv X pins U' H1 s0)(F:rm X.prog X.w X.stack H1 H' s0 s1 ea (.ref C))(jH:Heap.FlyingW Bq X.stack ea (.ref C) (.ref t) bg)(hu:s1.heap.UpToSlots bg)(k1:∀b o o',s0.heap.get? b=some o->s1.heap.get? b=some o'->b∉bo X.stack->Bq.get? b=some o')(k2:∀b u o',H' b=some u->s1.heap.get? b=some o'->Bq.get? b=some o')(nU:H' ea=none)(bU:∃oe,bg.get? ea=some oe/\oe.dict=dd)(Eb:PySem.W.kitCls X.K (.ref C) (.ref Pc)=some true)(W8:ts (MJ D i ea (.ref C) dd) (U'.set i (some (.ref ea))) (upd H' ea (nP ea (.ref C) dd))):
  wpAny (model X.prog X.w) X.A (handleBy (.ref ea) X.env (.ExceptHandler (some (.Name x np)) (some n) (uV::nQ) uU::rest)) (SP X pins D) X.xe {s1 with heap:=bg}:=by
 have cE:∀b:Addr,b∉([]:List Addr):=λb=>by simp
 have I5:Inv X pins U' H' {s1 with heap:=bg}:=LB IX F jH hu k1 k2;obtain⟨oe,ve,Ec,Ed,W9,_⟩:=jH.first;refine wpAny_handleBy_cons (codeAny_handlers_test (Calls.Name_function_global I5.ok.kind hg (Calls.loadGlobal_global (by rw[I5.ok.glob];exact I5.mod.glob.keeps I5.bk) hm ?_) cU)) (by intro q;cases q);refine Us (K:=X.K) (h:=bg) I5.aW Ec Ed Eb hB _ _ _ _ (λ_ _ q=>q) ?_;show codeAny _ _ _ _ _;refine codeAny_handlers_suite_as ?_;refine wpAny_mono (uO D1 (lands_againW (E:=λ_ _=>False) (Q:=λ_ bL=>∃cj,bL={s1 with heap:=cj}/\Heap.FlyingW Bq X.stack ea (.ref C) (.ref t) cj/\bg.UpToSlots cj) jH λcj ef fT=>⟨cj,rfl,ef,fT⟩)) (λ_ bL zQ=>?_) (λ_ _ z=>z.1.elim);obtain⟨⟨cj,e6,ef,fT⟩,kd⟩:=zQ;subst e6;have I6:Inv X pins U' H' {s1 with heap:=cj}:=LB IX F ef (hu.trans fT) k1 k2;obtain⟨Ee,Xa,pF,uW,uX,_⟩:=ef.first;have Xb:Ee.dict=dd:=by obtain⟨o5,e5,d5⟩:=bU;obtain⟨o6,e6,d6⟩:=kd ea o5 e5;have MK:cj.get? ea=some o6:=e6;rw[pF]at MK;cases MK;exact d6.trans d5
 have Ef:X.av.heap.get? ea=none:=IX.uS hex F.new;have gW:∀b o,s0.heap.get? b=some o->b≠ea:=λb o e z=>by rw[z,F.new]at e;cases e
 have I7:Inv X pins U' (upd H' ea (nP ea (.ref C) dd)) {s1 with heap:=cj}:=by
  refine I6.DD hex nU Ef ?_ (λy c e=>?_) (λp hp=>?_) ⟨⟨Ee,Xa,pF,uW,uX,Xb⟩,⟨Ee,pF⟩,λh1 h2 p k=>?_⟩
  .obtain⟨m,⟨o,_,_,ho,_⟩,_⟩:=IX.loc;exact(gW _ _ ho).symm
  .obtain⟨v,o,ho,_⟩:=IX.cell y c e;exact gW _ _ ho
  .exact gW _ _ (IX.pin p hp).1
  .obtain⟨o,vs,e1,e2,e3,e4⟩:=p;exact⟨o,vs,k o e1,e2,e3,e4⟩
 refine yE (v:=.ref ea) I7 hN hi (.inl hn) rfl (λs8 I8=>?_) (.inr hn);refine wpAny_mono (hs ea pins s8 _ _ _ I8.UA W8) (λf s9 q=>?_) (λ_ _ z=>z.elim);have wk:∀{U9:St}{H9:Hp},Inv X pins U9 H9 s9->H9 ea=some (nP ea (.ref C) dd)->Inv X pins U9 (upd H9 ea (nG ea (.ref C))) s9:=λJ e=>J.less e (λh ⟨o,vs,a1,a2,a3,_⟩=>⟨o,vs,a1,a2,a3⟩) λh1 h2 p k=>by obtain⟨o,vs,e1,e2,e3⟩:=p;exact⟨o,vs,k o e1,e2,e3⟩
 have behind:∀{U9:St}{H9:Hp},Inv X pins U9 H9 s9->(∀fS,Inv X pins (U9.set i none) H9 fS->SP X pins D f fS)->wpAny (model X.prog X.w) X.A (do bindName X.env n .none;unbindBehindTheSuite X.env n uU) (λ_ aB=>SP X pins D f aB) X.xe s9:=λ{U9 H9} J k=>by
  refine wpAny_bind (wpAny_bindName (yE (v:=.aq) J hN hi (.inl hn) rfl (λfS gH=>?_) (.inr hn)));obtain⟨m,uY,uZ⟩:=id gH.loc;have qL:i<U9.length:=by rw[J.len];exact(List.getElem?_eq_some_iff.mp hi).1
  obtain⟨u,ru,lk⟩:=uZ i n .aq hi (by rw[getElem?_set_self qL]) (.inl hn);have Xc:m n=some u:=by
   rcases lk with⟨_,q⟩|⟨q,_⟩
   .exact q
   .rcases q with q|q
    .have q':X.env.scope.names.lookup n=some .cell:=q;rw[hn]at q';cases q'
    .have q':X.env.scope.names.lookup n=some .free:=q;rw[hn]at q';cases q'
  unfold unbindBehindTheSuite;refine wpAny_onRaise (wpAny_unbindName_local (env:=X.env) hn uY Xc (by rw[J.ok.kind];rfl) λh' u' mQ iu=>?_);have ML:=gH.unset hN hi uY uZ mQ iu;rw[List.set_set]at ML;exact k _ ML
 show wpAny _ _ _ _ _ _;cases f with
 |next=>obtain⟨U9,H9,I9,e9,q⟩:=q;exact behind (wk (I9.zQ I8.ok) e9) λfS gH=>⟨_,_,gH,q⟩
 |brk=>obtain⟨U9,H9,I9,e9,q⟩:=q;exact behind (wk (I9.zQ I8.ok) e9) λfS gH=>⟨_,_,gH,q⟩
 |cont=>obtain⟨U9,H9,I9,e9,q⟩:=q;exact behind (wk (I9.zQ I8.ok) e9) λfS gH=>⟨_,_,gH,q⟩
 |ret u=>obtain⟨v,U9,H9,I9,r,e9,q⟩:=q;exact behind (wk (I9.zQ I8.ok) e9) λfS gH=>⟨v,_,_,gH,r,q⟩
end
theorem Xd {P:Program}{w:World}{K:PySem.W.Frag}{mg:Str->Option Value}{base:Heap}{N:List Str}{qual:Str}{scope:Scope}{f:Addr}{cd:Value}{A:Around}{outer:List Env}{s:Shared}{H:Hp}{E:XK}{k:Nat}{fI C:Addr}{fd:FuncData}{ps:List Str}{sp:Sp}{fld x:Str}{e:Expr}{es:List Expr}{t:TA}{np au pos:Pos}(hg:Gl (dh (dE P w) P w K mg base N qual scope f cd A outer s H E) x)(hm:mg x=some (.ref C))(hI:Aj K C fI fld)(Fn:xl P w K mg base CX0 k fI fd ps sp)(hr:aY (k+1) (dh (dE P w) P w K mg base N qual scope f cd A outer s H E).A)(hb:Binds K fd ps [])(ha:PA (dh (dE P w) P w K mg base N qual scope f cd A outer s H E) (e::es) t)(cU:autoParam ((x==("__debug__":Str))=false) aP2)(he:autoParam (starEach (e::es) (envOfC qual scope s.heap.objs.size f cd)=(false,eval e (envOfC qual scope s.heap.objs.size f cd))::starEach es (envOfC qual scope s.heap.objs.size f cd)) aP1)(cw:autoParam ((backTo au (starEach es (envOfC qual scope s.heap.objs.size f cd))).any (·.1)=false) aP1):
  PS (dh (dE P w) P w K mg base N qual scope f cd A outer s H E) (.Raise (some (.Call (.Name x np) (e::es) [] au)) none pos) (ME C sp (E (.ref C)) t):=
 W3 rfl rfl hg hm hI Fn hr hb ha (λI he hd new hn hc q=>Mz I he hd new hn (by rw[hc];exact q)) cU he cw
section
variable {X:Cx}{pn:List (Addr×Obj)}
noncomputable def Xe (C:Addr)(m:Str)(sp:Sp)(aD:List V)(W:St->Value->Option Addr->Hp->Prop)(ta:TE)(t:TA):TE:=λU H Q=>ta U H λx H1=>∃a dx fs,x= .ref a/\H1 a=some (.ins C dx fs)/\fs.lookup m=none/\t U H1 λvs H2=>sp (x::(vs++aD)) H2 Q λcls dd H'=>W U cls dd H'
theorem MM {W:St->Value->Option Addr->Hp->Prop}{k:Nat}{f C:Addr}{fd:FuncData}{ps:List Str}{sp:Sp}{aD:List V}{ds:List Value}{m:Str}{apos pos:Pos}{o e:Expr}{es:List Expr}{ta:TE}{t:TA}{pl:Sem Bool}(he:PE (jF X pn W) o ta)(c:eV X.K C)(hm:Meth X.K C m f)(F:xl X.prog X.w X.K X.mg X.base (dE X.prog X.w) k f fd ps sp)(hr:aY k X.A)(hb:Binds X.K fd ps ds)(hd:Vals aD ds)(ha:PA (jF X pn W) (e::es) t)(ig:autoParam (starEach (e::es) X.env=(false,eval e X.env)::starEach es X.env) aP1)(cw:autoParam ((backTo pos (starEach es X.env)).any (·.1)=false) aP1)(ht:autoParam (eval (.Call (.Attribute o m apos) (e::es) [] pos) X.env=(do
   let ov<-eval o X.env
   standAt apos.atName
   let(f,first)<-holding [ov] (getMethod ov m pl)
   callWith pos f first (backTo pos (starEach (e :: es) X.env)) (backToKw pos (keywordEach [] X.env)))) aP1) :
  PE (jF X pn W) (.Call (.Attribute o m apos) (e::es) [] pos) (Xe C m sp aD W ta t):=by
 intro pins s U H Q I h;refine PySem.W.methodCall_KW (pl:=pl) (ai (he pins s U H _ I h) λu s1 zQ=>?_) ht;obtain⟨x,H1,I1,rx,a,dx,fs,ex,ea,l,q⟩:=zQ;subst ex;obtain rfl:u=Value.ref a:=rx;refine yT I1 ea c hm l ?_;refine PySem.W.callWith_K (first:=[.ref a]) (h₀:=X.base) I.ok.mod.eR hm.kp (ai (ha pos pins s1 U H1 _ I1 q) λus s2 ⟨vs,H2,I2,r,q2⟩=>⟨I2.aW,?_⟩) ig cw;exact UB (us:=.ref a::us) (vs:=.ref a::vs) F hr hb hd I2 (W6 I2) (.cons rfl r) q2
end
noncomputable def Xf (K:PySem.W.Frag)(P1:Addr)(i:Nat)(tb:(St->Value->Option Addr->Hp->Prop)->TS)(ts:TS):TS:=λD U H=>∃W:St->Value->Option Addr->Hp->Prop,tb W D U H/\∀U' cls dd H' ea,W U' cls dd H'->H' ea=none->∃C,cls= .ref C/\PySem.W.kitCls K (.ref C) (.ref P1)=some true/\ts (MJ D i ea cls dd) (U'.set i (some (.ref ea))) (upd H' ea (nP ea cls dd))
section
variable {X:Cx}
theorem MN {body:List Stmt}{x1 n:Str}{i:Nat}{Xg Xh pos:Pos}{b1:Stmt}{MO:List Stmt}{P1:Addr}{tb:(St->Value->Option Addr->Hp->Prop)->TS}{MP:TS}(jG:X.stack=X.env::X.outer)(nH:X.env.frame=some X.env.locals)(hex:X.ex=[])(Xi:Gl X x1)(zO:X.mg x1=some (.ref P1))(Xj:PySem.W.mroIn X.K P1 (.type "BaseException")=some true)(hN:X.N.Nodup)(hi:X.N[i]?=some n)(hn:X.env.scope.names.lookup n=some .local)(hb:∀pn W,dg (jF X pn W) body (tb W))(An:∀ea,dg (rn X ea) (b1::MO) MP)(nO:autoParam ((x1==("__debug__":Str))=false) aP2):
  PS X (.Try body [.ExceptHandler (some (.Name x1 Xg)) (some n) (b1::MO) Xh] [] [] pos) (Xf X.K P1 i tb MP):=by
 intro pins s U H D I h;obtain⟨W,h1,h2⟩:=h;refine wpAny_Try_except ?_;have back:∀{bG:List (Addr×Obj)}{U':St}{H':Hp}{s':Shared},Inv (jF X (X.pn++pins) W) bG U' H' s'->Inv X pins U' H' s':=λJ=>J.MI.LA λ_ hp=>hp;refine wpAny_mono (hb (X.pn++pins) W pins s U H D (I.W5 λ_ hp=>hp) h1) (λf s1 q=>?_) (λe s1 q=>?_)
 .cases f with
  |next=>obtain⟨U1,H1,I1,q⟩:=q;exact wpAny_execs_nil ⟨U1,H1,back I1,q⟩
  |brk=>obtain⟨U1,H1,I1,q⟩:=q;exact⟨U1,H1,back I1,q⟩
  |cont=>obtain⟨U1,H1,I1,q⟩:=q;exact⟨U1,H1,back I1,q⟩
  |ret u=>obtain⟨v,U1,H1,I1,r,q⟩:=q;exact⟨v,U1,H1,back I1,r,q⟩
 .obtain⟨bG,U',H1,s0,ea,cls,dd,H',rfl,I0,F,⟨oe,Ec,bU⟩,wW⟩:=q;have IX:Inv X pins U' H1 s0:=I0.LA λ_ hp=>hp;obtain⟨Bq,t,hf,k1,k2⟩:=F.Lx;have nU:H' ea=none:=by
   cases q:H' ea with
   |none=>rfl
   |some u=>obtain⟨o,e⟩:=(F.ag ea u q).there;have z:=k2 ea u o q e;rw[hf.2.1]at z;cases z
  obtain⟨C,rfl,m1,q1⟩:=h2 U' cls dd H' ea wW nU;have frames:X.A.frames=some (X.env::X.outer):=by rw[IX.ok.frames,jG]
  have cM:Heap.FlyingW Bq (X.env::X.outer) ea (.ref C) (.ref t) s1.heap:=by rw[<-jG];exact hf
  refine wpAny_mono (uO Mu (wpAny_looks_onW (E:=λ_ _=>False) (Q:=λ_ bL=>∃cg,bL={s1 with heap:=cg}/\Heap.HeldW Bq (X.env::X.outer) ea (.ref C) (.ref t) X.env.locals cg/\s1.heap.UpToSlots cg) frames nH cM λcg a b=>⟨cg,rfl,a,b⟩)) (λ_ bL zQ=>?_) (λ_ _ z=>z.1.elim);obtain⟨⟨cg,e4,jI,pG⟩,Xk⟩:=zQ;subst e4;refine wpAny_mono (uO D1 (wpAny_landsW (E:=λ_ _=>False) (Q:=λ_ bL=>∃bg,bL={s1 with heap:=bg}/\Heap.FlyingW Bq (X.env::X.outer) ea (.ref C) (.ref t) bg/\cg.UpToSlots bg) jI λbg a b=>⟨bg,rfl,a,b⟩)) (λ_ bL zQ=>?_) (λ_ _ z=>z.1.elim);obtain⟨⟨bg,e5,pH,pI⟩,Xl⟩:=zQ;subst e5;have jH:Heap.FlyingW Bq X.stack ea (.ref C) (.ref t) bg:=by rw[jG];exact pH
  obtain⟨o4,e4,d4⟩:=Xk ea oe Ec;obtain⟨o5,e5,d5⟩:=Xl ea o4 e4;exact W7 jG hex Xi zO Xj hN hi hn An nO IX F jH (pG.trans pI) k1 k2 nU ⟨o5,e5,(d5.trans d4).trans bU⟩ m1 q1
end
def Ao {α:Type}:List α->List α->List α
 |[a,b],[c,d,e,f]=>[a,b,c,d,e,f]
 |_,_=>[]
theorem Xm {vs:List V}{us:List Value}{zs:List V}{ws:List Value}(r1:Vals vs us)(r2:Vals zs ws):Vals (Ao vs zs) (Ao us ws):=by
 cases r1 with
 |nil=>exact .nil
 | cons a r1=>
  cases r1 with
  |nil=>exact .nil
  | cons b r1=>
   cases r1 with
   |cons _ _=>exact .nil
   | nil=>
    cases r2 with
    |nil=>exact .nil
    | cons c r2=>
     cases r2 with
     |nil=>exact .nil
     | cons d r2=>
      cases r2 with
      |nil=>exact .nil
      | cons e r2=>
       cases r2 with
       |nil=>exact .nil
       |cons f r2=>
        cases r2 with
        |nil=>exact .cons a (.cons b (.cons c (.cons d (.cons e (.cons f .nil)))))
        |cons _ _=>exact .nil
theorem Xn {lo:Int}{n:Nat}{D:Addr}{g:TG}{ti:TT}{tk tv:TE}{U0:St}{H0:Hp}{QF:Hp->Prop}(Pv:Nat->St->Hp->Prop)(h0:Pv 0 U0 H0)(hs:∀i U H,i<n->Pv i U H->g (.int (lo+i)) U H λU2 H2=>ti U2 H2 λb H3=>if b=true then tk U2 H3 λy H4=>tv U2 H4 λz H5=>∃H6,iq H5 D y z H6/\Pv (i+1) U2 H6 else Pv (i+1) U2 H3)(hd:∀U H,Pv n U H->QF H):∃W:Nat->Nat->St->Hp->Prop,(∃m,W 0 m U0 H0)/\DN (kF lo n) g ti tk tv D QF W:=by
 refine⟨λi m U H=>m=n-i/\i<=n/\Pv i U H,⟨n,by simp,zero_le _,h0⟩,?_⟩
 rintro i m U H ⟨rfl,hi,p⟩
 by_cases ax:i<n
 .refine .inr ⟨ax,Pv (i+1),λU' H' p'=>⟨n-(i+1),by lia,rfl,ax,p'⟩,λx H' y=>?_⟩;obtain⟨e,y⟩:=y;subst e y;exact hs i U _ ax p
 .have e:i=n:=by lia
  subst e;exact .inl ⟨le_refl _,hd U H p⟩
theorem MQ (val:Nat->Int):∀k i,i<=k->val i<=val (argBest (λi j=>decide (val i>val j)) k)
 |0,i,h=>by
  have:i=0:=by lia
  subst this;exact Int.le_refl _
 | k+1,i,h=>by
  have ih:=MQ val k;unfold argBest;by_cases z:val (k+1)>val (argBest (λi j=>decide (val i>val j)) k)
  .rw[if_pos (decide_eq_true z)];by_cases q:i=k+1
   .rw[q];exact Int.le_refl _
   .have:=ih i (by lia);lia
  .rw[if_neg (by simpa using z)];by_cases q:i=k+1
   .rw[q];lia
   .exact ih i (by lia)
theorem Ap {α β:Type}{R:α->β->Prop}:∀{xs:List α}{ys:List β}{i:Nat}{y:β},Paired R xs ys->ys[i]?=some y->∃x,xs[i]?=some x/\R x y:=λ{xs ys i y} q e=>by
 induction q generalizing i with
 |nil=>simp at e
 |cons h _ ih=>
  cases i with
  |zero=>cases Option.some.inj e;exact⟨_,rfl,h⟩
  |succ i=>exact ih (i:=i) e
section
variable {X:Cx}
theorem Eg (hc:X.calm=true):fM X (.builtin "max") (λxs H Q=>∃(p:Addr)(ns:List Int),xs=[.ref p]/\ah X.K H p (ns.map V.int)/\0<ns.length/\∀M,M∈ns->(∀a∈ns,a<=M)->Q (.int M) H):=by
 intro pins s U H xs us Q I r h;obtain⟨p,ns,rfl,hq,hne,q⟩:=h;obtain⟨u,rfl,rx⟩:=vals1 r;cases rx;obtain⟨its,r',pl,hz⟩:=I.list hq;have hlen:ns.length=its.length:=by have:=r'.length;rw[length_map]at this;exact this
 have hv:∀i v,its.toArray[i]?=some v->∃t,v=Value.int (ns.getD i 0) t:=λi v e=>by
  have e':its[i]?=some v:=by simpa using e
  obtain⟨y,ey,ry⟩:=Ap r' e';rw[getElem?_map]at ey;cases hn:ns[i]? with
  |none=>rw[hn]at ey;cases ey
  |some n=>rw[hn]at ey;cases ey;obtain⟨t,et⟩:=ry;refine⟨t,?_⟩;rw[et,getD_eq_getElem?_getD,hn];rfl
 have hp:p≠s.heap.objs.size:=by obtain⟨o,ho,_⟩:=pl.isList;exact ne_of_lt (Heap.lt_size ho)
 refine call_max_walk (wpAny_pyIter_list pl.isList ⟨s.heap.objs.size,_,_,_,_,_,_,rfl,Walks.list (A:=X.A.in1) (show X.A.in1.handled=none from I.ok.hd hc) s.heap.objs.size p hp its.toArray,⟨⟨_,Heap.get?_push_size _ rfl,rfl,rfl⟩,?_⟩,λb hb=>?_,by simpa using(by lia:0<its.length),CmpOf.ints_gt (λi=>ns.getD i 0) hv,λv h' tk hP hk=>?_⟩)
 .obtain⟨o,ho,hr⟩:=pl.isList;exact⟨o,Heap.get?_push_of_some _ ho,hr⟩
 .rw[Heap.size_push];rcases mem_cons.mp hb with rfl|hb
  .exact lt_succ_self _
  .rw[mem_singleton.mp hb];obtain⟨o,ho,_⟩:=pl.isList;exact Nat.lt_succ_of_lt (Heap.lt_size ho)
 .obtain⟨t,rfl⟩:=hv _ _ hP;refine⟨V.int (ns.getD (argBest (λi j=>decide (ns.getD i 0>ns.getD j 0)) (its.toArray.size-1)) 0),H,I.kept (t':=tk) λb o e=>hk b o (λz=>?_) (Heap.get?_push_of_some _ e),⟨t,rfl⟩,q _ ?_ λa ha=>?_⟩
  .have:b=s.heap.objs.size:=by simpa using z
   have lt:=Heap.lt_size e;rw[this]at lt;exact lt_irrefl _ lt
  .have hb:=LS (λi j=>decide (ns.getD i 0>ns.getD j 0)) (its.toArray.size-1);have hs:its.toArray.size=its.length:=by simp
   generalize argBest (λi j=>decide (ns.getD i 0>ns.getD j 0)) (its.toArray.size-1)=j at hb;have hj:j<ns.length:=by lia
   rw[getD_eq_getElem?_getD,getElem?_eq_getElem hj];exact List.getElem_mem hj
  .obtain⟨i,hi,rfl⟩:=mem_iff_getElem.mp ha;have:=MQ (λi=>ns.getD i 0) (its.toArray.size-1) i (by simp;lia);rw[show ns.getD i 0=ns[i]by rw[getD_eq_getElem?_getD,getElem?_eq_getElem hi];rfl]at this;exact this
end
structure MR (K:PySem.W.Frag)(C:Addr)(m:Str)(f:Addr):Prop where
 sp:PySem.W.specialIn K (.ref C) "__getattribute__"=some (some (.builtin "type.__getattribute__"))
 rd:PySem.W.readsIn K C (.type "type")=true
 at_:PySem.W.findCls K (.ref C) (.type "type") m=some (.val (.ref f))
 kp:PySem.W.keepIn K (.ref f)=true
section
variable {X:Cx}{CX:fw}{E:XK}{k:Nat}{f C:Addr}{fd:FuncData}{ps:List Str}{sp:Sp}{aD:List V}{ds:List Value}{x m:Str}{p apos pos:Pos}{e:Expr}{es:List Expr}{t:TA}
theorem Xo {pl:Sem Bool}(hg:Gl X x)(hC:X.mg x=some (.ref C))(hm:MR X.K C m f)(F:xl X.prog X.w X.K X.mg X.base CX k f fd ps sp)(hr:aY k X.A)(hb:Binds X.K fd ps ds)(hd:Vals aD ds)(hx:Passes CX X E)(ha:PA X (e::es) t)(cU:autoParam ((x==("__debug__":Str))=false) aP2)(ig:autoParam (starEach (e::es) X.env=(false,eval e X.env)::starEach es X.env) aP1)(cw:autoParam ((backTo pos (starEach es X.env)).any (·.1)=false) aP1)(ht:autoParam (eval (.Call (.Attribute (.Name x p) m apos) (e::es) [] pos) X.env=(do
   let ov<-eval (.Name x p) X.env
   standAt apos.atName
   let(f,first)<-holding [ov] (getMethod ov m pl)
   callWith pos f first (backTo pos (starEach (e :: es) X.env)) (backToKw pos (keywordEach [] X.env)))) aP1) :
  PE X (.Call (.Attribute (.Name x p) m apos) (e::es) [] pos) (Kq sp aD E t):=by
 intro pins s U H Q I h;refine PySem.W.methodCall_KW (pl:=pl) (ai (mR (Q:=EP X pins U λv H'=>v=V.ref C/\H'=H) I hg hC ⟨V.ref C,H,I,rfl,rfl,rfl⟩ cU) λu s1 zQ=>?_) ht;obtain⟨y,H1,I1,ry,ey,eH⟩:=zQ;subst ey eH;obtain rfl:u=Value.ref C:=ry;refine PySem.W.method_cls I1.aW hm.sp (PySem.W.cls_value I1.aW hm.rd hm.at_ rfl ?_);have I2:=I1.tok (s1.toks+1);refine PySem.W.callWith_K (first:=[]) (h₀:=X.base) I.ok.mod.eR hm.kp (ai (ha pos pins _ U H1 _ I2 h) λus s2 ⟨vs,H2,I3,r,q2⟩=>⟨I3.aW,?_⟩) ig cw;exact yU F hr hb hd hx I3 r q2
end
open AutoSeq1 (wpAny_loadPart')
theorem MS {l:Addr}{its:List Value}{n:Nat}{x:Value}{e:Value->Bool}{j:Nat}{y:Value}(hj:its[j]?=some y)(hit:e y=true)(hz:its.length<=sizeLine):∀(d i:Nat),i+d=j->(∀m z,i<=m->m<j->its[m]?=some z->e z=false)->Meets (Builtin.«list.remove.loop» ⟨[.ref l,x,rawInt i],[]⟩) (λA R s=>s.heap.get? l=some {cls:=.type "list",dict:=none,data:=.seq its.toArray n,slots:=#[]}/\(∀u∈its,SeqAt.EqAt A.in1 s u x (e u))/\R (.ok (.ret .none)) {s with heap:=s.heap.update l (Obj.mapSeq λxs=>xs.eraseIdxIfInBounds j)})
 | d,i,hd,lP=>by
  intro prog w A R s h;obtain⟨hp,g,dp,tk,os⟩:=s;obtain⟨hl,he,h⟩:=h;have lt:i<its.length:=by have:=(List.getElem?_eq_some_iff.mp hj).1;lia
  obtain⟨v,hv⟩:∃v,its[i]?=some v:=⟨_,getElem?_eq_getElem lt⟩;have hi:its.toArray[((i:Nat):Int).toNat]?=some v:=by simpa using hv
  have An:its.toArray.size<=sizeLine:=by rw[size_toArray];exact hz
  wp_walk using wpAny_loadPart' hl;rw[hi];refine wpAny_bind (he v (mem_of_getElem? hv) prog w _ _ ?_);cases d with
  |zero=>
   have e1:i=j:=by lia
   subst e1;rw[hj]at hv;cases hv;rw[hit];wp_walk using wpAny_loadPart' hl;have small:(Obj.mapSeq (λx=>x.eraseIdxIfInBounds ((i:Nat):Int).toNat) {cls:=Value.type "list",data:=Data.seq its.toArray n}).data.pastItsLine=none:=by refine pastItsLine_seq (le_trans ?_ (le_succ_of_le hz));show(its.toArray.eraseIdxIfInBounds ((i:Nat):Int).toNat).size<=its.length;rw[List.eraseIdxIfInBounds_toArray,size_toArray];exact length_eraseIdx_le _ _
   rw[small];wp_walk;exact h
  |succ d=>
   rw[lP i v (le_refl _) (by lia) hv];wp_walk;have ec:((i:Int)+1)=((i+1:Nat):Int):=by push_cast;rfl
   rw[ec];refine⟨plainId_quiet MeetsSeq.plain_remove_loop _,codeAny_builtin MeetsSeq.entry_remove_loop ?_⟩;rw[Around.under_plainId MeetsSeq.plain_remove_loop _];exact MS hj hit hz d (i+1) (by lia) (λm z h1 h2=>lP m z (by lia) h2) prog w A R _ ⟨hl,he,h⟩
theorem Xp {l:Addr}{its:List Value}{n:Nat}{x:Value}{e:Value->Bool}{j:Nat}{y:Value}(hj:its[j]?=some y)(hit:e y=true)(hz:its.length<=sizeLine)(lP:∀m z,m<j->its[m]?=some z->e z=false):Meets (Builtin.«list.remove» ⟨[.ref l,x],[]⟩) (λA R s=>s.heap.get? l=some {cls:=.type "list",dict:=none,data:=.seq its.toArray n,slots:=#[]}/\(∀u∈its,SeqAt.EqAt A.in1 s u x (e u))/\R (.ok (.ret .none)) {s with heap:=s.heap.update l (Obj.mapSeq λxs=>xs.eraseIdxIfInBounds j)}):=by
 intro prog w A R s h;obtain⟨hp,g,dp,tk,os⟩:=s;have go:=MS (l:=l) (n:=n) (x:=x) hj hit hz j 0 (Nat.zero_add j) (λm z _ h2=>lP m z h2) prog w A R _ h;wp_walk using wpAny_loadPart' h.1;refine⟨plainId_quiet MeetsSeq.plain_remove_loop _,codeAny_builtin MeetsSeq.entry_remove_loop ?_⟩;rw[Around.under_plainId MeetsSeq.plain_remove_loop _];exact go
noncomputable def Xq (K:PySem.W.Frag):V->List V->Hp->VK->Prop:=λx vs H Q=>∃l xs y n bV,x= .ref l/\vs=[y]/\H l=some (.lst xs)/\iB K H y n/\Paired (iB K H) xs bV/\n∈bV/\Q .aq (upd H l (.lst (xs.eraseIdx (bV.idxOf n))))
section
variable {X:Cx}
theorem Xr (hu:X.A.units+64<cLine):C5 X "list.remove" (Xq X.K):=by
 intro pins s U H x vs v us Q I rx rv h;obtain⟨l,xs,y,n,bV,rfl,rfl,hH,hy,hs,hm,q⟩:=h;cases rx;obtain⟨u,rfl,ru⟩:=rv.one;obtain⟨z,its,k,r,hl,e⟩:=I.qU hH;have lx:=Paired.length hs;have hi:bV.idxOf n<bV.length:=List.idxOf_lt_length_iff.mpr hm;obtain⟨w,hw,cK⟩:=r.get (getElem?_eq_getElem (show bV.idxOf n<xs.length by lia));have is:∀(m:Nat)(v:Value),its[m]?=some v->∃t,bV[m]?=some t/\fg X.K H n v=decide (t=n):=λm v hv=>by obtain⟨x',fe,Xs⟩:=Ap r hv;obtain⟨t,ht,q'⟩:=j7 hs fe;exact⟨t,ht,zX I q' Xs⟩
 have yes:fg X.K H n w=true:=by obtain⟨t,ht,q'⟩:=is _ _ hw;rw[getElem?_eq_getElem hi,List.getElem_idxOf hi]at ht;rw[q',<-Option.some.inj ht];exact decide_eq_true rfl
 refine call_meets F.slot_list_remove ⟨_,e,rfl⟩ F.entry_list_remove (F.args_list_remove_2 _ _) (Xp (e:=fg X.K H n) hw yes (by lia) (λm v ax hv=>?_)) ⟨e,λv hv=>DL I ?_ hy ru r hs v hv,?_⟩
 .obtain⟨t,ht,q'⟩:=is _ _ hv;rw[q'];refine decide_eq_false λz=>?_;subst z;obtain⟨a1,b1⟩:=List.getElem?_eq_some_iff.mp ht;have no:=List.not_of_lt_findIdx (p:=(·==t)) (xs:=bV) (i:=m) ax;rw[b1]at no;simp at no
 .first|(have e:X.A.in1.units=X.A.units+1:=rfl;lia)|(have e:X.A.in1.units=X.A.units:=rfl;lia)|(have e:=Around.units_in1 X.A;lia)
 .refine⟨.aq,_,I.C6 (its':=its.eraseIdx (bV.idxOf n)) hH e ?_ (r.eraseIdx _) ?_,rfl,q⟩
  .show its.toArray.eraseIdxIfInBounds _=(its.eraseIdx _).toArray;rw[List.eraseIdxIfInBounds_toArray]
  .have:=length_eraseIdx_le xs (bV.idxOf n);lia
end
structure MT (K:PySem.W.Frag)(C:Addr):Prop where
 ha:PySem.W.findIn K (.ref C) "__class__"=some (some (.builtin "object.__class__"))
 hn:PySem.W.specialIn K (.builtin "object.__class__") "__get__"=some (some (.builtin "getset_descriptor.__get__"))
 tk:PySem.W.takesIn K (.builtin "object.__class__")=some true
 hm:PySem.W.mroIn K C (.type "object")=some true
 ki:PySem.W.kitOne K (.ref C) (.ref C)=some true
section
variable {X:Cx}
theorem Xt:fM X (.builtin "isinstance") (λxs H Q=>∃a C dx fs,xs=[.ref a,.ref C]/\H a=some (.ins C dx fs)/\eV X.K C/\MT X.K C/\Q (.bl true) H):=by intro pins s U H xs us Q I r h;obtain⟨a,C,dx,fs,rfl,ha,cl,io,q⟩:=h;obtain⟨u,w,rfl,r1,r2⟩:=vals2 r;cases r2;exact Ko I r1 (.ins ha cl io.ha io.hn io.tk io.hm) io.ki λtk=>⟨.bl true,H,I.tok tk,rfl,q⟩
theorem Xu {K:PySem.W.Frag}(hK:X.K=K)(hu:X.A.units+64<cLine):bK X (compareOp .In) (DM K false):=by subst hK;exact LP hu
end
section
variable {K:PySem.W.Frag}{x qual:Str}{st:Stmt}{f:Addr}{fd:FuncData}{p1 p2 p3 p4 p5:Str}
noncomputable abbrev vA (x qual:Str)(st:Stmt)(ps:List Str)(us:List Value):Prop:=∀(kV doc pm:Value)(an:Option Addr)(aJ ct:Value),bindArgs (PySem.W.fnOf x qual (qW st) (ip st) (jv st) .none kV doc pm an aJ ct) ⟨us,[]⟩=pure (ps.zip us)
theorem cZ (F:aw K x qual st f fd)(h:∀a,vA x qual st [p1] [a]:=by exact λ_ _ _ _ _ _ _=>rfl):Binds K fd [p1] []:=F.binds λkV doc pm an aJ ct us hl=>by obtain⟨a,rfl⟩:=length_eq_one_iff.mp hl;exact h a kV doc pm an aJ ct
theorem kQ {us:List Value}{n:Nat}(h:us.length=n+1):∃a r,us=a::r/\r.length=n:=by
 cases us with
 |nil=>cases h
 |cons a r=>exact⟨a,r,rfl,Nat.succ.inj h⟩
theorem dF (F:aw K x qual st f fd)(h:∀a b,vA x qual st [p1,p2] [a,b]:=by exact λ_ _ _ _ _ _ _ _=>rfl):Binds K fd [p1,p2] []:=F.binds λkV doc pm an aJ ct us hl=>by obtain⟨a,r1,rfl,h1⟩:=kQ hl;obtain⟨b,rfl⟩:=length_eq_one_iff.mp h1;exact h a b kV doc pm an aJ ct
theorem iE (F:aw K x qual st f fd)(h:∀a b c,vA x qual st [p1,p2,p3] [a,b,c]:=by exact λ_ _ _ _ _ _ _ _ _=>rfl):Binds K fd [p1,p2,p3] []:=F.binds λkV doc pm an aJ ct us hl=>by obtain⟨a,r1,rfl,h1⟩:=kQ hl;obtain⟨b,r2,rfl,h2⟩:=kQ h1;obtain⟨c,rfl⟩:=length_eq_one_iff.mp h2;exact h a b c kV doc pm an aJ ct
theorem MU (F:aw K x qual st f fd)(h:∀a b c d,vA x qual st [p1,p2,p3,p4] [a,b,c,d]:=by exact λ_ _ _ _ _ _ _ _ _ _=>rfl):Binds K fd [p1,p2,p3,p4] []:=F.binds λkV doc pm an aJ ct us hl=>by obtain⟨a,r1,rfl,h1⟩:=kQ hl;obtain⟨b,r2,rfl,h2⟩:=kQ h1;obtain⟨c,r3,rfl,h3⟩:=kQ h2;obtain⟨d,rfl⟩:=length_eq_one_iff.mp h3;exact h a b c d kV doc pm an aJ ct
theorem Xv (F:aw K x qual st f fd)(h:∀a b c d e,vA x qual st [p1,p2,p3,p4,p5] [a,b,c,d,e]:=by exact λ_ _ _ _ _ _ _ _ _ _ _=>rfl):Binds K fd [p1,p2,p3,p4,p5] []:=F.binds λkV doc pm an aJ ct us hl=>by obtain⟨a,r1,rfl,h1⟩:=kQ hl;obtain⟨b,r2,rfl,h2⟩:=kQ h1;obtain⟨c,r3,rfl,h3⟩:=kQ h2;obtain⟨d,r4,rfl,h4⟩:=kQ h3;obtain⟨e,rfl⟩:=length_eq_one_iff.mp h4;exact h a b c d e kV doc pm an aJ ct
theorem Aq {k1:Str}(h:∀(s:Shared) a b,BindsTo s fd ⟨[a],[(k1,b)]⟩ [(p1,a),(p2,b)]):ik K fd [p1,p2] [k1] iy iy:=⟨λs us ws _ hl=>by rcases us with _|⟨a,_|⟨_,_⟩⟩<;>rcases ws with _|⟨b,_|⟨_,_⟩⟩;all_goals first|exact h s a b|(cases hl),λr1 r2=>Uk r1 r2⟩
theorem Xw {k1 k2:Str}(h:∀(s:Shared) a b c,BindsTo s fd ⟨[a],[(k1,b),(k2,c)]⟩ [(p1,a),(p2,b),(p3,c)]):ik K fd [p1,p2,p3] [k1,k2] rq rq:=⟨λs us ws _ hl=>by rcases us with _|⟨a,_|⟨_,_⟩⟩<;>rcases ws with _|⟨b,_|⟨c,_|⟨_,_⟩⟩⟩;all_goals first|exact h s a b c|(cases hl),λr1 r2=>UU r1 r2⟩
end
end L2
namespace fh
open PySem PyProof.Rows PySem.W
noncomputable def Wq (f:Nat->Nat->Bool)(n:Nat){α:Type}:KasT α->(α->Prop)->Prop
 | .ret a,R=>R a
 | .ask i j k,R=>i<n/\j<n/\i≠j/\Wq f n (k (f i j)) R
theorem Wq.mono {f:Nat->Nat->Bool}{n:Nat}{α:Type}{R R':α->Prop}(h:∀a,R a->R' a):∀{t:KasT α},Wq f n t R->Wq f n t R'
 | .ret a,q=>h a q
 | .ask _ _ _,⟨a,b,c,q⟩=>⟨a,b,c,Wq.mono h q⟩
theorem Wq.bind {f:Nat->Nat->Bool}{n:Nat}{α β:Type}{g:α->KasT β}{R:β->Prop}:∀{t:KasT α},Wq f n t (λa=>Wq f n (g a) R)->Wq f n (t.bind g) R
 | .ret _,q=>q
 | .ask _ _ _,⟨a,b,c,q⟩=>⟨a,b,c,Wq.bind q⟩
structure Tq (f:Nat->Nat->Bool)(n:Nat):Prop where
 bR:∀i j,i<n->j<n->i≠j->f i j=false->f j i=true
 tr:∀i j k,i<n->j<n->k<n->f i j=true->f j k=true->f i k=true
def Pq (n:Nat)(p:Array Nat):Prop:=p.toList.Perm (List.range n)
section
variable {n:Nat}{p:Array Nat}
theorem Pq.size (h:Pq n p):p.size=n:=by have:=h.length_eq;rw[length_range]at this;simpa using this
theorem Eh {k:Nat}(h:k<p.size):p.getD k 0=p[k]:=by simp[Array.getD,h]
theorem Pq.lt (h:Pq n p){k:Nat}(hk:k<n):p.getD k 0<n:=by have hs:=h.size;rw[Eh (by lia)];exact mem_range.mp (h.mem_iff.mp (by simp))
theorem Pq.inj (h:Pq n p){a b:Nat}(ha:a<n)(hb:b<n)(e:p.getD a 0=p.getD b 0):a=b:=by have hs:=h.size;rw[Eh (by lia),Eh (by lia)]at e;have nd:p.toList.Nodup:=h.nodup_iff.mpr nodup_range;exact(List.getElem_inj (h₀:=by simp;lia) (h₁:=by simp;lia) nd).mp (by simpa using e)
def Uq (f:Nat->Nat->Bool)(p:Array Nat)(m:Nat):Prop:=∀a b,a<b->b<m->f (p.getD a 0) (p.getD b 0)=true
variable {f:Nat->Nat->Bool}
theorem Uq.more (T:Tq f n)(hp:Pq n p){m:Nat}(h1:1<=m)(hm:m<n)(u:Uq f p m)(h:f (p.getD (m-1) 0) (p.getD m 0)=true):Uq f p (m+1):=by
 intro a b ab bm;by_cases e:b=m
 .subst e;by_cases e2:a=b-1
  .subst e2;exact h
  .exact T.tr _ _ _ (hp.lt (by lia)) (hp.lt (by lia)) (hp.lt hm) (u a (b-1) (by lia) (by lia)) h
 .exact u a b ab (by lia)
theorem MV (T:Tq f n)(hp:Pq n p):∀(c m:Nat),1<=m->m+c<=n->Uq f p m->Wq f n (kas_asc p c m) λr=>m<=r/\r<=m+c/\Uq f p r/\(r<m+c->f (p.getD r 0) (p.getD (r-1) 0)=true)
 |0,m,_,_,u=>⟨le_refl _,le_refl _,u,λh=>absurd h (by lia)⟩
 |c+1,m,h1,hm,u=>by
  refine⟨hp.lt (by lia),hp.lt (by lia),λe=>?_,?_⟩
  .have:=hp.inj (by lia) (by lia) e;lia
  cases h:f (p.getD m 0) (p.getD (m-1) 0)with
  |true=>exact⟨le_refl _,by lia,u,λ_=>h⟩
  |false=>have u':=u.more T hp h1 (by lia) (T.bR _ _ (hp.lt (by lia)) (hp.lt (by lia)) (λe=>by have:=hp.inj (by lia) (by lia) e;lia) h);show Wq f n (kas_asc p c (m+1)) _;refine(MV T hp c (m+1) (by lia) (by lia) u').mono λr q=>?_;exact⟨by lia,by lia,q.2.2.1,λz=>q.2.2.2 (by lia)⟩
theorem MW (T:Tq f n)(hp:Pq n p):∀(c m:Nat),2<=m->m+c<=n->Wq f n (kas_desc c p m 0) λr=>r.1=p/\r.2.2=0/\m<=r.2.1/\r.2.1<=m+c
 |0,m,_,_=>⟨rfl,rfl,le_refl _,le_refl _⟩
 | c+1,m,h1,hm=>by
  refine⟨hp.lt (by lia),hp.lt (by lia),λe=>?_,?_⟩
  .have:=hp.inj (by lia) (by lia) e;lia
  cases h:f (p.getD m 0) (p.getD (m-1) 0)with
  |true=>show Wq f n (kas_desc c p (m+1) 0) _;refine(MW T hp c (m+1) (by lia) (by lia)).mono λr q=>?_;exact⟨q.1,q.2.1,by lia,by lia⟩
  |false=>
   have h':=T.bR _ _ (hp.lt (by lia)) (hp.lt (by lia)) (λe=>by have:=hp.inj (by lia) (by lia) e;lia) h;refine⟨hp.lt (by lia),hp.lt (by lia),λe=>?_,?_⟩
   .have:=hp.inj (by lia) (by lia) e;lia
   rw[h'];exact⟨rfl,rfl,le_refl _,Nat.le_add_right _ _⟩
theorem MX (hp:Pq n p):∀(c m:Nat),1<=m->m+c<=n->Wq f n (kas_asc p c m) λr=>m<=r/\r<=m+c
 |0,m,_,_=>⟨le_refl _,le_refl _⟩
 |c+1,m,h1,hm=>by
  refine⟨hp.lt (by lia),hp.lt (by lia),λe=>?_,?_⟩
  .have:=hp.inj (by lia) (by lia) e;lia
  cases h:f (p.getD m 0) (p.getD (m-1) 0)with
  |true=>exact⟨le_refl _,by lia⟩
  |false=>show Wq f n (kas_asc p c (m+1)) _;exact(MX hp c (m+1) (by lia) (by lia)).mono λr q=>⟨by lia,by lia⟩
theorem MY (hp:Pq n p)(m:Nat):Pq n (kas_rev p 0 m):=(Array.perm_iff_toList_perm.mp (mirror_perm p 0 m _)).trans hp
theorem Xx (hp:Pq n p){m:Nat}(h1:1<=m)(hm:m<=n):Wq f n (kas_tail3 m n p) λr=>1<=r.1/\r.1<=n/\Pq n r.2:=Wq.bind ((MX (MY hp m) (n-m) m h1 (by lia)).mono λr q=>⟨by lia,by lia,MY hp m⟩)
theorem Xy (T:Tq f n)(hp:Pq n p)(h1:1<=n):Wq f n (kas_count n p) λr=>1<=r.1/\r.1<=n/\Pq n r.2:=by
 refine Wq.bind ((MV T hp (n-1) 1 (le_refl _) (by lia) (λa b ab hb=>absurd hb (by lia))).mono λm q=>?_);obtain⟨q1,q2,q3,q4⟩:=q;by_cases e:m=n
 .rw[if_pos (by simp[e])];exact⟨q1,by lia,hp⟩
 .rw[if_neg (by simp[e])];by_cases e2:m>1
  .rw[if_pos e2];refine⟨hp.lt (by lia),hp.lt (by lia),λz=>?_,?_⟩
   .have:=hp.inj (by lia) (by lia) z;lia
   rw[q3 0 (m-1) (by lia) (by lia)];exact⟨q1,by lia,hp⟩
  .rw[if_neg e2];have e3:m=1:=by lia
   subst e3;refine Wq.bind ((MW T hp (n-2) 2 (le_refl _) (by lia)).mono λr q=>?_);obtain⟨r1,r2,r3,r4⟩:=q;rw[if_neg (by lia),r1];exact Xx hp (by lia) (by lia)
theorem Ei (hp:Pq n p){k:Nat}(hk:k<n):∀(c l r:Nat),l<=r->r<=k->r-l<=c->Wq f n (kas_place p k c l r) λq=>q<=k
 |0,l,r,h1,h2,h3=>by show l<=k;lia
 | c+1,l,r,h1,h2,h3=>by
  show Wq f n (if l>=r then .ret l else _) _;by_cases e:l>=r
  .rw[if_pos e];show l<=k;lia
  .rw[if_neg e];refine⟨hp.lt hk,hp.lt (by lia),λz=>?_,?_⟩
   .have:=hp.inj hk (by lia) z;lia
   cases h:f (p.getD k 0) (p.getD ((l+r) / 2) 0)with
   |true=>show Wq f n (kas_place p k c l ((l+r) / 2)) _;exact Ei hp hk c l _ (by lia) (by lia) (by lia)
   |false=>show Wq f n (kas_place p k c ((l+r) / 2+1) r) _;exact Ei hp hk c _ r (by lia) h2 (by lia)
theorem Xz (hp:Pq n p)(k d:Nat):Pq n (bubble p k d):=(Array.perm_iff_toList_perm.mp (bubble_perm p k d)).trans hp
end
theorem MZ {f:Nat->Nat->Bool}{n:Nat}:∀(c:Nat)(p:Array Nat)(k:Nat),Pq n p->k+c<=n->Wq f n (kas_bin c p k) (Pq n)
 |0,_,_,hp,_=>hp
 |c+1,p,k,hp,hk=>Wq.bind ((Ei hp (k:=k) (by lia) k 0 k (zero_le _) (le_refl _) (by lia)).mono λl _=>MZ c _ (k+1) (Xz hp k _) (by lia))
theorem XA (n:Nat):Pq n (List.toArray (List.range n)):=by unfold Pq;rw[List.toList_toArray]
theorem XB {f:Nat->Nat->Bool}{n:Nat}(T:Tq f n)(h1:1<=n):Wq f n (kas_sort n) (Pq n):=by
 refine Wq.bind ((Xy T (XA n) h1).mono λr q=>?_);by_cases e:r.1<n
 .rw[if_pos e];exact MZ _ _ _ q.2.2 (by lia)
 .rw[if_neg e];exact q.2.2
end fh
namespace L2
open PySem PySem.Spec PyProof.Rows PySem.W
theorem M0 {f:Nat->Nat->Bool}{n:Nat}{s:Shared}{cmp:Nat->Nat->(Bool->Shared->Prop)->Shared->Prop}{α:Type}{R:α->Prop}(hc:∀i j C,i<n->j<n->C (f i j) s->cmp i j C s):∀{t:KasT α},fh.Wq f n t R->t.kasWp cmp (λp s2=>s2=s/\R p) s
 | .ret _,h=>⟨rfl,h⟩
 | .ask i j _,⟨a,b,_,h⟩=>hc i j _ a b (M0 hc h)
section
variable {X:Cx}{pins:List (Addr×Obj)}{U:St}{H:Hp}{s:Shared}
theorem XC {ts:List (List Int)}(nd:ts.Nodup):fh.Tq (λi j=>HT.lexLt (ts.getD i []) (ts.getD j [])) ts.length where
 bR:=λi j hi hj ne h=>LM (λe=>ne (by rw[getD_eq_getElem?_getD,getD_eq_getElem?_getD,getElem?_eq_getElem hi,getElem?_eq_getElem hj]at e;exact(List.getElem_inj nd).mp e)) h
 tr:=λ_ _ _ _ _ _ h1 h2=>LN h1 h2
theorem XD:fM X (.builtin "sorted") (λxs H Q=>∃(p:Addr)(vs:List V)(ts:List (List Int)),xs=[.ref p]/\ah X.K H p vs/\zW X.K H vs ts/\vs.length<64/\ts.Nodup/\(∀t∈ts,t≠[])/\∀(q:Addr)(bH:List V)(eA:List (List Int))(ix:List Nat),H q=none->ix.Perm (List.range vs.length)->bH=ix.map (λi=>vs.getD i .aq)->eA=ix.map (λi=>ts.getD i [])->bH.Perm vs->eA.Perm ts->zW X.K H bH eA->Q (.ref q) (upd H q (.lst bH))):=by
 intro pins s U H xs us Q I r h;obtain⟨p,vs,ts,rfl,hq,ht,zT,nd,ne,q⟩:=h;obtain⟨u,rfl,rx⟩:=vals1 r;cases rx;obtain⟨its,r',pl,hz⟩:=I.list hq;have l1:vs.length=its.length:=r'.length;have l2:vs.length=ts.length:=Paired.length ht;have hn:H (s.heap.objs.size+1)=none:=I.ag.fresh (le_succ _);have end_:∀(out:List Value)(bH:List V)(eA:List (List Int))(ix:List Nat),ix.Perm (List.range vs.length)->bH=ix.map (λi=>vs.getD i .aq)->eA=ix.map (λi=>ts.getD i [])->Vals bH out->bH.Perm vs->eA.Perm ts->zW X.K H bH eA->EP X pins U Q (.ref (s.heap.objs.size+1)) {s with heap:=sortedAll s.heap its out.toArray}:=λout bH eA ix b1 b2 b3 a1 a2 a3 a4=>by
  obtain⟨e,he⟩:=sortedAll_at s.heap its out.toArray;refine⟨.ref (s.heap.objs.size+1),_,I.laid (a:=s.heap.objs.size+1) (o:=.lst bH) (t':=s.toks) (λb o z=>sortedAll_old z) (le_succ _) ⟨?_,out,e,a1,he⟩,rfl,q _ bH eA ix hn b1 b2 b3 a2 a3 a4⟩;rw[a2.length_eq];exact hz
 have tt:Paired (λu t=>∃a xs,u=Value.ref a/\IsTup s.heap a xs/\IntsAre xs.toList t) its ts:=Vh (λv u t hv hu=>by obtain⟨a,rfl,ha⟩:=hu;cases hv;obtain⟨ys,ry,hy,_⟩:=I.tuple ha;exact⟨a,ys.toArray,rfl,hy,intsAre_of ry⟩) r' ht;refine Vf pl.isList (by lia) (Good:=fh.Pq its.length) (λh2 s' k=>?_) (λh=>?_) (λp hp g=>?_)
 .have Ej:Paired (λu t=>∃a xs,u=Value.ref a/\IsTup s'.heap a xs/\IntsAre xs.toList t) its ts:=Paired.xt tt λu t ⟨a,xs,e,⟨o,ho,hr⟩,hi⟩=>⟨a,xs,e,⟨o,k a o ho,hr⟩,hi⟩;obtain⟨fs,kt,lf,hf⟩:=Vg Ej ne;refine kat_kind (T:=Value.type "int") kt (by lia) (λv hv=>?_) rfl ⟨rfl,?_⟩
  .obtain⟨i,t,rfl⟩:=hf v hv;exact .now
  have hs:=fh.XB (XC nd) (by lia);rw[<-l2,l1]at hs;refine M0 (λi j C hi hj c=>?_) hs;obtain⟨a,xs,ea,⟨o,ho,hc,n,hd⟩,ia⟩:=zV (d:=Value.none) (e:=[]) Ej hi;obtain⟨b,ys,eb,⟨o',bh,iQ,n',ba⟩,ib⟩:=zV (d:=Value.none) (e:=[]) Ej hj;unfold kas_ask;rw[ea,eb];have q:=LL (prog:=X.prog) (w:=X.w) (A:=X.A.in1.in1) 0 ia ib c;rw[<-DJ ia,<-DJ ib]at q;refine kat_lt ho hd bh ba ?_;rw[show(Value.type "int" != Value.type "tuple")=true from rfl];simpa using q
 .refine end_ its vs ts (List.range vs.length) (List.Perm.refl _) (range_getD ..).symm (by rw[l2];exact(range_getD ..).symm) r' (List.Perm.refl _) (List.Perm.refl _) ht
 .have g1:=g;have hm:∀i∈p.toList,i<vs.length:=λi hi=>by
   rw[l1];exact mem_range.mp (g1.mem_iff.mp hi)
  refine end_ _ (p.toList.map λi=>vs.getD i .aq) (p.toList.map λi=>ts.getD i []) p.toList (by rw[l1];exact g1) rfl rfl (DI r' hm) ?_ ?_ (DI ht hm)
  .refine(g1.map _).trans ?_;rw[<-l1,range_getD]
  .refine(g1.map _).trans ?_;rw[<-l1,l2,range_getD]
end
end L2
namespace L2
open PySem PySem.Spec PyProof.Rows
section
variable {prog:Program}{w:World}{A:Around}{E:Value->Shared->Prop}{R:Result->Shared->Prop}{s:Shared}
theorem XE {D:Addr}{js:List Nat}{j:Nat}{t:Tok}{Q:Value->Shared->Prop}(hS:iC w s.heap D js)(bE:js∈cy)(hj:j<8)(uF:j∈js\/js.length<2)(h:∀h' tk bM,Heap.SameBut D s.heap h'->bM∈cy->(∀k,k∈bM↔k∈js\/k=j)->iC w h' D bM->Q .none {s with heap:=h',toks:=tk}):
  wpAny (model prog w) A (call (.builtin "set.add") [.ref D,.int (j:Int) t]) Q E s:=by
 have hT:s.TypeIs (.ref D) "set":=by obtain⟨o,_,_,ho,hex,_⟩:=hS;exact⟨o,ho,hex.1⟩
 refine wpAny_call_entry F.slot_set_add hT F.entry_set_add ?_ (F.args_set_add_2 _ _);show wpAny _ _ (setAdd D (.int (j:Int) t) >>= _) _ _ s;refine wpAny_bind (wpAny_holding (wpAny_bind ((intKind prog w).pyHash (k:=(j:Int)) (intKind_is _ _ _ _) ?_)));refine L9 (js:=js) hS bE hj uF λb h' bM sb jA hm hs=>?_;exact wpAny_pure ⟨_,rfl,h _ _ bM sb jA hm hs⟩
theorem XF (el target iter:Expr)(ifs:List Expr)(scope:Scope)(pos:Pos)(it:Value)(D:Addr)(env:Env):compTurn (.SetComp el [⟨target,iter,ifs,0⟩] scope pos) 0 it (.ref D) env=(do
   standAt iter.pos
   match<-pyNext it with
   |none=>pure (.done .next)
   |some v=>
    letOwnedTupleGo target it v
    assign target env v
    let mut ok:=true
    for c in ifs do if ok then ok<-isTrue c env (eval c env)
    if ok then(do let v<-eval el env;standAt el.pos;let _<-call (.builtin "set.add") [.ref D,v])
    again (.compLoop (.SetComp el [⟨target,iter,ifs,0⟩] scope pos) 0 it (.ref D) env)):=by rfl
theorem XG {el target iter ifs rest scope pos it acc env}(h0:codeAny (model prog w) A (.compLoop (.SetComp el (⟨target,iter,ifs,0⟩::rest) scope pos) 0 it acc env) R s)(h:wpAny (model prog w) A (pyIter it) (λAe s'=>codeAny (model prog w) A (.compLoop (.SetComp el (⟨target,iter,ifs,0⟩::rest) scope pos) 0 Ae acc env) R s') (notedBy (model prog w) A env λx s'=>R (.error x) s') s):
  codeAny (model prog w) A (.compStart (.SetComp el (⟨target,iter,ifs,0⟩::rest) scope pos) 0 it acc env) R s:=by
 refine codeAny_of_tree ?_;show wpAny _ A ((compStart _ 0 it acc env).onRaise _) _ _ s;refine wpAny_notedAt ?_;delta compStart;show wpAny _ _ (ask >>= _) _ _ s;refine wpAny_bind (wpAny_askSetting (wpAny_ite ?_));split
 .exact wpAny_pure ⟨rfl,h0⟩
 .refine wpAny_bind (wpAny_rule ?_);show wpAny _ _ (standAt iter.pos >>= _) _ _ s;exact wpAny_bind (wpAny_standAt (wpAny_bind (ai h λAe s' h'=>wpAny_pure ⟨rfl,h'⟩)))
theorem XH {el target iter:Expr}{ifs:List Expr}{scope:Scope}{pos:Pos}{it:Value}{D:Addr}{env:Env}(I:Nat->Shared->Prop)(turn:∀n s,I n s->wpAny (model prog w) A (pyNext it) (λr aj=>match r with
   |none=>R (.ok .next) aj
   |some v=>wpAny (model prog w) A (letOwnedTupleGo target it v) (λ_ aj=>wpAny (model prog w) A (assign target env v) (λ_ ae=>wpAny (model prog w) A (forIn ifs true λc r=>if r=true then do let ok<-isTrue c env (eval c env);pure (ForInStep.yield ok)else pure (ForInStep.yield r)) (λok aB=>if ok=true then wpAny (model prog w) A (eval el env) (λkv bQ=>wpAny (model prog w) A (call (.builtin "set.add") [.ref D,kv]) (λ_ i7=>∃m,m<n/\I m i7) bZ bQ) bZ aB
      else ∃m,m<n/\I m aB) bZ ae) bZ aj) bZ aj) bZ s)(n:Nat)(h:I n s):codeAny (model prog w) A (.compLoop (.SetComp el [⟨target,iter,ifs,0⟩] scope pos) 0 it (.ref D) env) R s:=by
 refine codeAny_loop rfl I (λn s hI=>?_) n h;have no:∀{α:Type}{t:Sem α}{Q:α->Shared->Prop}{E:Value->Shared->Prop}{s:Shared},wpAny (model prog w) A t Q bZ s->wpAny (model prog w) A t Q E s:=λh=>wpAny_mono h (λ_ _ q=>q) λ_ _ z=>z.elim;show wpAny _ A ((compTurn (.SetComp el [⟨target,iter,ifs,0⟩] scope pos) 0 it (.ref D) env).onRaise (λx=>do noteFrame x env;theTreesLotGoes x)) _ _ s;rw[XF];refine wpAny_noted (wpAny_bind (wpAny_standAt (wpAny_bind (no (ai (turn n s hI) λr aj h₁=>?_)))));cases r with
 |none=>exact wpAny_pure h₁
 |some v=>
  refine wpAny_bind (no (ai h₁ λ_ aj h₁=>wpAny_bind (no (ai h₁ λ_ ae bA=>wpAny_bind (no (ai bA λok aB dz=>?_))))));cases ok with
  |false=>exact wpAny_pure ⟨rfl,dz⟩
  |true=>exact wpAny_bind (wpAny_bind (no (ai dz λkv bQ cg=>wpAny_bind (wpAny_standAt (wpAny_bind (no (ai cg λ_ i7 cj=>wpAny_pure (wpAny_pure ⟨rfl,cj⟩))))))))
end
noncomputable def Ek (w:World)(H:Hp)(D:Addr)(y:V)(N:Hp->Prop):Prop:=∃(js:List Nat)(j:Nat),H D=some (gL w D js)/\js∈cy/\y= .int (j:Int)/\j<8/\(j∈js\/js.length<2)/\∀bM,bM∈cy->(∀k,k∈bM↔k∈js\/k=j)->N (upd H D (gL w D bM))
theorem XI {X:Cx}{pins:List (Addr×Obj)}{U:St}{H:Hp}{s:Shared}{D:Addr}{y:V}{u:Value}{A:Around}{E:Value->Shared->Prop}{N:Hp->Prop}{Q:Value->Shared->Prop}(I:Inv X pins U H s)(g:Ek X.w H D y N)(ry:RelV y u)(h:∀H' s',Inv X pins U H' s'->N H'->Q .none s'):wpAny (model X.prog X.w) A (call (.builtin "set.add") [.ref D,u]) Q E s:=by
 obtain⟨js,j,e,bE,rfl,hj,uF,k⟩:=g;obtain⟨t,rfl⟩:=ry;obtain⟨hS,_,_⟩:=I.ag D _ e;refine XE hS bE hj uF λh' tk bM sb jA hm iu=>?_;have he:∃q,h'.get? D=some q:=let⟨q,_,_,hq,_⟩:=iu;⟨q,hq⟩;exact h _ _ (qX (ob:=gL X.w D bM) I (by rw[e];exact True.intro) sb he ⟨iu,he,λh1 h2 x z=>x.keep z⟩) (k bM jA hm)
noncomputable def El (w:World)(J:It)(g:TG)(ti:TT)(te:TE)(D:Addr)(QF:Hp->Prop)(W:Nat->Nat->St->Hp->Prop):Prop:=∀i m U H,W i m U H->(J.stop i H/\QF H)\/(J.go i H/\∃N:St->Hp->Prop,(∀U' H',N U' H'->∃m',m'<m/\W (i+1) m' U' H')/\∀x H',J.dO i H x H'->g x U H' λU2 H2=>ti U2 H2 λb H3=>if b=true then te U2 H3 λy H4=>Ek w H4 D y (N U2)else N U2 H3)
noncomputable def XJ (w:World)(ix:List (Option Nat))(wi:TI)(g:TG)(ti:TT)(te:TE):TE:=λU H Q=>wi U H λJ H1=>∀D,H1 D=none->∃W:Nat->Nat->St->Hp->Prop,(∃m,W 0 m (fQ ix U) (upd H1 D (gL w D [])))/\El w J g ti te D (λH=>Q (.ref D) H) W
section
variable {X:Cx}
theorem XM {scope:Scope}{N':List Str}{ix:List (Option Nat)}{pins:List (Addr×Obj)}{U:St}{tg iter el:Expr}{ifs:List Expr}{pos:Pos}{g:TG}{ti:TT}{te:TE}{E:Value->Shared->Prop}{D:Addr}(co:ir X.N X.env.scope scope N' ix)(hc:X.calm=true)(hg:∀C fp ae af,PG (aE X scope N' C fp ae af) tg g)(hi:∀C fp ae af,lV (aE X scope N' C fp ae af) ifs ti)(hk:∀C fp ae af,PE (aE X scope N' C fp ae af) el te){af:Hp}{ae:Shared}{J:It}{fp:List Addr}{it:Addr}{tn:Nat->Heap->Prop}{QF:Hp->Prop}{W:Nat->Nat->St->Hp->Prop}(I:Inv X pins U af ae)(T:Turn X.prog X.w X.K tg J fp it tn)(st:tn 0 ae.heap)(hf:∀b∈fp,dP X pins af b)(w0:∃m,W 0 m (fQ ix U) af)(hW:El X.w J g ti te D QF W){RR:Addr->Result->Shared->Prop}(tM:∀C H' s',Inv X pins U H' s'->QF H'->qY X pins H' s' C->RR C (.ok .next) s'):
  wpAny (model X.prog X.w) X.A (newFunctionEnv scope X.env.globals (fP scope X.env) [] X.env.qual none .none (some X.env)) (λfb bQ=>codeAny (model X.prog X.w) X.A (.compStart (.SetComp el [⟨tg,iter,ifs,0⟩] scope pos) 0 (.ref it) (.ref D) {fb with scope:=relabel scope X.env}) (RR fb.locals) bQ) E ae:=by
 have ax:∀b∈fp,@LT.lt Nat _ b ae.heap.objs.size:=λb hb=>by obtain⟨o,e,_⟩:=T.obj _ _ st b hb;exact Heap.lt_size e
 refine wpAny_newFunctionEnv co.zG (by intro y hy;simp at hy) (λh₁ aZ aV=>?_) co.kind;have below:∀b:Nat,b<ae.heap.objs.size->¬@Eq Nat b ae.heap.objs.size:=λb hb=>by lia
 have old:∀b o,ae.heap.get? b=some o->h₁.get? b=some o:=λb o e=>aV.extBut b o (below b (Heap.lt_size e)) (Heap.get?_push_of_some _ e);have cx:tn 0 h₁:=T.keep _ _ _ st λb _ o e=>old b o e;generalize rh:ae.heap.objs.size=C at aZ aV below⊢;have loop:∀aB:Shared,aB={ae with heap:=h₁,toks:=ae.toks+([]:List (Str×Value)).length}->codeAny (model X.prog X.w) X.A (.compLoop (.SetComp el [⟨tg,iter,ifs,0⟩] scope pos) 0 (.ref it) (.ref D) (compEnvC scope (fP scope X.env) C X.env)) (RR C) aB:=by
  rintro aB rfl
  obtain⟨m0,w0⟩:=w0;have I3:Inv (aE X scope N' C fp ae af) [] (fQ ix U) af {ae with heap:=h₁,toks:=ae.toks+([]:List (Str×Value)).length}:=LR I co rh.symm hf ax old aZ;refine XH (λk s'=>∃i U' H',Inv (aE X scope N' C fp ae af) [] U' H' s'/\tn i s'.heap/\(∀b∈fp,H' b=none)/\W i k U' H') ?_ m0 ⟨0,_,_,I3,cx,λb hb=>(hf b hb).1,w0⟩
  rintro k s' ⟨i,U',H',I',bD,kM,w'⟩
  have cW:∀{H':Hp},(∀b∈fp,H' b=none)->∀b∈fp,dP (aE X scope N' C fp ae af) [] H' b:=λ{H'} hn b hb=>by
   refine⟨hn b hb,below b (rh ▸ ax b hb),λz=>?_,.inl hb,λx c e=>(hf b hb).2.2.2.2.1 x c (kh e),λp hp=>?_⟩
   .rcases mem_cons.mp (I.mO b z)with e|e
    .exact(hf b hb).2.1 e
    .exact(hf b hb).2.2.1 e
   .have i0:p∈([]:List (Addr×Obj)):=by simpa[aE]using hp
    cases i0
  rcases hW i k U' H' w' with⟨stop,q⟩|⟨go,N,hN,step⟩
  .refine ai (T.done (aE X scope N' C fp ae af) rfl rfl rfl hc i _ s' U' H' bZ I' (cW kM) bD stop) λr s4 ⟨hr,I4⟩=>?_;subst hr;have cf:H' C=none:=I4.free;refine tM C H' s4 (LQ I hf I4) q ⟨?_,cf,?_,?_,λx c e=>?_,λp hp=>?_⟩
   .obtain⟨m,hn,_⟩:=I4.loc;exact⟨m,hn⟩
   .have z:@LT.lt Nat _ X.env.locals ae.heap.objs.size:=I.lt;show¬@Eq Nat C X.env.locals;lia
   .have z:@LE.le Nat _ X.av.heap.objs.size ae.heap.objs.size:=I.sz;show@LE.le Nat _ X.av.heap.objs.size C;lia
   .obtain⟨v,z⟩:=I.cell x c e;have z2:@LT.lt Nat _ c ae.heap.objs.size:=z.lt;show¬@Eq Nat c C;lia
   .have z2:@LT.lt Nat _ p.1 ae.heap.objs.size:=Heap.lt_size (I.pin p hp).1;show¬@Eq Nat p.1 C;lia
  .refine ai (T.item (aE X scope N' C fp ae af) rfl rfl rfl hc i _ s' U' H' bZ I' (cW kM) bD go) λr s4 zQ=>?_;obtain⟨u,hr,h4⟩:=zQ;subst hr;refine ai h4 λ_ s5 zQ=>?_;obtain⟨x,H5,I5,r5,y5,eT,oJ⟩:=zQ;have oK:=I5.pinned (cW oJ) (T.obj _ _ eT);refine ai (hg C fp ae af _ s5 U' H5 x u _ oK r5 (step x H5 y5)) λ_ s6 zQ=>?_;obtain⟨U6,H6,I6,q6⟩:=zQ;refine ai (hi C fp ae af _ s6 U6 H6 _ I6 q6) λok s7 zQ=>?_;obtain⟨H7,I7,q7⟩:=zQ;have back:∀{U8:St}{H8:Hp}{s8:Shared},Inv (aE X scope N' C fp ae af) ([]++kG fp s5.heap) U8 H8 s8->N U8 H8->∃m',m'<k/\∃i U' H',Inv (aE X scope N' C fp ae af) [] U' H' s8/\tn i s8.heap/\(∀b∈fp,H' b=none)/\W i m' U' H':=λ{U8 H8 s8} I8 n8=>by
    obtain⟨m',hm,w8⟩:=hN _ _ n8;have dA:∀b∈fp,∀o,s5.heap.get? b=some o->s8.heap.get? b=some o/\H8 b=none:=λb hb o e=>by have z:=I8.pin (b,o) (mem_append_right _ (mem_append_right _ (sQ hb e)));exact⟨z.1,z.2.1⟩
    refine⟨m',hm,i+1,U8,H8,I8.qP,T.keep _ _ _ eT λb hb o e=>(dA b hb o e).1,λb hb=>?_,w8⟩;obtain⟨o,e,_⟩:=T.obj _ _ eT b hb;exact(dA b hb o e).2
   cases ok with
   |false=>have dB:=q7;rw[if_neg Bool.false_ne_true]at dB;exact back I7 dB
   |true=>have dB:=q7;rw[if_pos rfl]at dB;show wpAny _ _ _ _ _ _;refine ai (hk C fp ae af _ s7 U6 H7 _ I7 dB) λkv s8 zQ=>?_;obtain⟨y,H8,I8,r8,q8⟩:=zQ;exact XI (X:=aE X scope N' C fp ae af) (A:=X.A) I8 q8 r8 λH9 s9 I9 n9=>back I9 n9
 exact XG (loop _ rfl) (T.self _ 0 _ _ _ cx (loop _ rfl))
variable {scope:Scope}{N':List Str}{ix:List (Option Nat)}{tg iter el:Expr}{ifs:List Expr}{pos:Pos}{wi:TI}{g:TG}{ti:TT}{te:TE}
theorem XN (co:ir X.N X.env.scope scope N' ix)(hc:X.calm=true)(hit:PI X tg iter wi)(hg:∀C fp ae af,PG (aE X scope N' C fp ae af) tg g)(hi:∀C fp ae af,lV (aE X scope N' C fp ae af) ifs ti)(hk:∀C fp ae af,PE (aE X scope N' C fp ae af) el te)(hs:autoParam (∀x,foldedSetIterable iter X.env x=pure x) aP3):
  PE X (.SetComp el [⟨tg,iter,ifs,0⟩] scope pos) (XJ X.w ix wi g ti te):=by
 intro pins s U H Q I h;show wpAny _ _ (comprehension (.SetComp el [⟨tg,iter,ifs,0⟩] scope pos) scope X.env _ (newSet (.type "set")) false (eval iter X.env)) _ _ s;refine wpAny_comprehension_free (use:=none) rfl hs (zI co I) co.kind co.names (ai (hit pins s U H _ I h) λxv aj h₁=>ai h₁ λqN ae bA=>?_);obtain⟨it,fp,tn,J,af,e,cX,T,st,hf,hq⟩:=bA;subst e;delta newSet setsByText;refine wpAny_bind (wpAny_bind (wpAny_askSetting (wpAny_pure (wpAny_newObj_type ?_))));have hn:af ae.heap.objs.size=none:=cX.ag.fresh (le_refl _);have uJ:(ae.heap.push (gY X.w)).get? ae.heap.objs.size=some (gY X.w):=Heap.get?_push_size _ rfl;have hS:iC X.w (ae.heap.push (gY X.w)) ae.heap.objs.size []:=⟨_,λ_=>0,0,uJ,⟨rfl,rfl,rfl⟩,rfl⟩;have oZ:Inv X pins U (upd af ae.heap.objs.size (gL X.w ae.heap.objs.size [])) {ae with heap:=ae.heap.push (gY X.w)}:=cX.laid (a:=ae.heap.objs.size) (o:=gL X.w ae.heap.objs.size []) (t':=ae.toks) (λ_ _ q=>Heap.get?_push_of_some _ q) (le_refl _) ⟨hS,⟨_,uJ⟩,λh1 h2 x z=>x.keep z⟩;obtain⟨W,w0,hW⟩:=hq ae.heap.objs.size hn;have cM:∀b∈fp,dP X pins (upd af ae.heap.objs.size (gL X.w ae.heap.objs.size [])) b:=λb hb=>by obtain⟨f0,f⟩:=hf b hb;obtain⟨o,e,_⟩:=T.obj _ _ st b hb;exact⟨by rw[jf (ne_of_lt (Heap.lt_size e))];exact f0,f⟩
 refine XM co hc hg hi hk oZ T (T.keep _ _ _ st λb _ o e=>Heap.get?_push_of_some _ e) cM w0 hW (RR:=λC=>compPost (model X.prog X.w) X.A X.xe none (EP X pins U Q) (.ref ae.heap.objs.size) C) λC H' s' I' q G=>?_;obtain⟨m,hn⟩:=G.ns;exact⟨m,hn,λh' iu=>⟨.ref ae.heap.objs.size,_,G.go I' iu,rfl,q⟩⟩
end
def iF (K:PySem.W.Frag)(H:Hp)(x:V):Option (List Int)->Prop
 |none=>x= .aq
 |some ns=>iB K H x ns
noncomputable def Ar (K:PySem.W.Frag)(H:Hp)(t:Option (List Int))(u:Value):Bool:=match t with
 |none=>@decide (u=Value.none) (Classical.propDecidable _)
 |some n=>fg K H n u
noncomputable def M3 (K:PySem.W.Frag):V->List V->Hp->VK->Prop:=λx vs H Q=>∃l xs y t ts,x= .ref l/\vs=[y]/\ah K H l xs/\iF K H y t/\Paired (iF K H) xs ts/\Q (.int (ts.count t)) H
section
variable {X:Cx}{pins:List (Addr×Obj)}{U:St}{H:Hp}{s:Shared}
theorem M4 (I:Inv X pins U H s){x:V}{u:Value}{t' t:Option (List Int)}(h:iF X.K H x t')(r:RelV x u):Ar X.K H t u=decide (t'=t):=by
 cases t' with
 |none=>
  have hx:x= .aq:=h;subst hx;have hu:u=Value.none:=r;subst hu;cases t with
  |none=>exact@decide_eq_true _ (Classical.propDecidable _) rfl
  |some n=>show fg X.K H n Value.none=_;unfold fg;rw[show decide ((none:Option (List Int))=some n)=false by simp];exact@decide_eq_false _ (Classical.propDecidable _) λ⟨b,z,_⟩=>by cases z
 |some ns=>
  cases t with
  |none=>obtain⟨a,rfl,ha⟩:=h;cases r;rw[show decide (some ns=(none:Option (List Int)))=false by simp];exact@decide_eq_false _ (Classical.propDecidable _) λz=>by cases z
  |some n=>show fg X.K H n u=_;rw[zX I h r];simp
theorem M5 {K:PySem.W.Frag}{x:V}{t:Option (List Int)}(h:iF K H x t):∃d,zj K H d x/\bO d<=60/\d=(match t with|none=>Dt.aq|some ns=>.tup (ns.map Dt.int)):=by
 cases t with
 |none=>exact⟨.aq,by rw[zj];exact h,by simp[bO],rfl⟩
 |some ns=>obtain⟨a,rfl,ha⟩:=h;exact⟨_,Dv ha,Lv _,rfl⟩
theorem XO (I:Inv X pins U H s){A:Around}(hu:A.units+60<cLine){x y:V}{u v:Value}{t' t:Option (List Int)}(hx:iF X.K H x t')(rx:RelV x u)(hy:iF X.K H y t)(ry:RelV y v):SeqAt.EqAt A s u v (Ar X.K H t u):=by
 rw[M4 I hx rx];obtain⟨d,hd,ld,ed⟩:=M5 hx;obtain⟨e,he,_,ee⟩:=M5 hy;have q:=zL I 60 d e x y u v A ld hu hd he rx ry;have z:bq d e=decide (t'=t):=by
  subst ed ee;cases t'<;>cases t
  .simp[bq]
  .simp[bq]
  .simp[bq]
  .dsimp only;rw[Lu];simp
 rw[z]at q;exact q
theorem M6 (hu:X.A.units+64<cLine):lQ X "list.count" (M3 X.K):=by
 intro pins s U H x vs v us Q I rx rv h;obtain⟨l,xs,y,t,ts,rfl,rfl,hH,hy,hs,q⟩:=h;cases rx;obtain⟨u,rfl,ru⟩:=rv.one;obtain⟨its,r,pl,hz⟩:=I.list hH;obtain⟨⟨cls,dd,data,sl⟩,ho,hc,n,hd⟩:=pl.isList;simp only at hc hd;subst hc hd;have cnt:∀{xs:List V}{its:List Value}{ts:List (Option (List Int))},Vals xs its->Paired (iF X.K H) xs ts->its.countP (Ar X.K H t)=ts.count t/\∀w∈its,∃x t',iF X.K H x t'/\RelV x w:=λ{xs its ts} r p=>by
  induction p generalizing its with
  |nil=>cases r;exact⟨rfl,λ_ z=>by cases z⟩
  | cons h _ ih=>
   cases r with
   | cons ra rr=>
    obtain⟨i1,i2⟩:=ih rr;refine⟨?_,λw hw=>?_⟩
    .rw[List.countP_cons,i1,M4 I h ra,count_cons];simp
    .rcases mem_cons.mp hw with rfl|hw
     .exact⟨_,_,h,ra⟩
     .exact i2 w hw
 obtain⟨c1,c2⟩:=cnt r hs;refine call_meets PySem.F.slot_list_count ⟨_,ho,rfl⟩ PySem.F.entry_list_count (PySem.F.args_list_count_2 _ _) (SeqAt.list_countAt l _ n dd sl u (Ar X.K H t)) ⟨ho,λw hw=>?_,?_⟩
 .obtain⟨x,t',h1,h2⟩:=c2 w (by simpa using hw);refine XO I ?_ h1 h2 hy ru;first|(have e:X.A.in1.in1.units=X.A.units+2:=rfl;lia)|(have e:X.A.in1.in1.units=X.A.units:=rfl;lia)|(have e:X.A.in1.units=X.A.units+1:=rfl;lia)|(have e:X.A.in1.units=X.A.units:=rfl;lia)
 .rw[show its.toArray.toList=its from rfl,c1];exact⟨.int (ts.count t),H,I.tok _,⟨_,rfl⟩,q⟩
theorem M7 {K:PySem.W.Frag}(hK:X.K=K)(hu:X.A.units+64<cLine):lQ X "list.count" (M3 K):=by subst hK;exact M6 hu
theorem M8 {K:PySem.W.Frag}{o e:Expr}{es:List Expr}{to:TE}{t:TA}{name:Str}{apos au:Pos}{T id:String}{r:V->List V->Hp->VK->Prop}(hK:X.K=K)(pa:PlainAttrs T)(slot:Slot T name id)(tq:typeOf (.builtin id)=pure (.type "method_descriptor"))(hm:lQ X id r)(ho:PE X o to)(ha:PA X (e::es) t)(cV:autoParam (attributeBase o name X.env (eval o X.env)=eval o X.env) aP1)(oQ:autoParam (((backTo au (starEach (e::es) X.env)).all (λx=>!x.1)&&(backToKw au (keywordEach [] X.env)).all (λx=>x.1.isSome)&&decide ((e::es).length+([]:List Keyword).length+(if([]:List Keyword).isEmpty then 0 else 1)<30))=true) aP1)(eW:autoParam ((apos.endLine==au.line)=true) aP1)(hs:autoParam (starEach (e::es) X.env=(false,eval e X.env)::starEach es X.env) aP1)(fO:autoParam ((backTo au (starEach es X.env)).any (·.1)=false) aP1):
  PE X (.Call (.Attribute o name apos) (e::es) [] au) (KR K T r to t):=by
 subst hK;exact dZ pa slot tq hm ho ha cV oQ eW hs fO
end
theorem XQ {a:Addr}{o:Obj}{aa:List (List Key×V)}{g:TG}{tb:TS}{D:Ends}{U:St}{H:Hp}(Pv:Nat->St->Hp->Prop)(h0:Pv 0 U H)(hl:∀i U H,i<=aa.length->Pv i U H->H a=some (.az o (.dT aa)))(hs:∀i kv b p U H,aa[i]?=some kv->H b=some (.tup (kv.1.map kV))->H p=none->Pv i U H->g (.ref p) U (upd H p (.tup [.ref b,kv.2])) λU2 H2=>tb {D with nx:=Pv (i+1),ct:=Pv (i+1),bk:=D.nx} U2 H2)(hd:∀U H,Pv aa.length U H->D.nx U H):∃W:Nat->Nat->St->Hp->Prop,(∃m,W 0 m U H)/\∀i m U H,W i m U H->((rE a o aa).stop i H/\D.nx U H)\/((rE a o aa).go i H/\∃N:St->Hp->Prop,(∀U' H',N U' H'->∃m',m'<m/\W (i+1) m' U' H')/\∀x H',(rE a o aa).dO i H x H'->g x U H' λU2 H2=>tb {D with nx:=N,ct:=N,bk:=D.nx} U2 H2):=by
 refine⟨λi m U H=>m=aa.length-i/\i<=aa.length/\Pv i U H,⟨aa.length,by simp,zero_le _,h0⟩,?_⟩
 rintro i m U H ⟨rfl,hi,p⟩
 have q:=hl i U H hi p;by_cases ax:i<aa.length
 .refine .inr ⟨⟨ax,q⟩,Pv (i+1),λU' H' p'=>⟨aa.length-(i+1),by lia,rfl,ax,p'⟩,λx H' y=>?_⟩;obtain⟨c,kv,b,hc,rfl,ek,eb,rfl⟩:=y;exact hs i kv b c U H ek eb hc p
 .have e:i=aa.length:=by lia
  subst e;exact .inl ⟨⟨le_refl _,q⟩,hd U H p⟩
theorem XR {w:World}{a D:Addr}{o:Obj}{aa:List (List Key×V)}{g:TG}{ti:TT}{te:TE}{U0:St}{H0:Hp}{QF:Hp->Prop}(Pv:Nat->St->Hp->Prop)(h0:Pv 0 U0 H0)(hl:∀i U H,i<=aa.length->Pv i U H->H a=some (.az o (.dT aa)))(hs:∀i kv b p U H,aa[i]?=some kv->H b=some (.tup (kv.1.map kV))->H p=none->Pv i U H->g (.ref p) U (upd H p (.tup [.ref b,kv.2])) λU2 H2=>ti U2 H2 λb H3=>if b=true then te U2 H3 λy H4=>Ek w H4 D y (Pv (i+1) U2)else Pv (i+1) U2 H3)(hd:∀U H,Pv aa.length U H->QF H):∃W:Nat->Nat->St->Hp->Prop,(∃m,W 0 m U0 H0)/\El w (rE a o aa) g ti te D QF W:=by
 refine⟨λi m U H=>m=aa.length-i/\i<=aa.length/\Pv i U H,⟨aa.length,by simp,zero_le _,h0⟩,?_⟩
 rintro i m U H ⟨rfl,hi,p⟩
 have q:=hl i U H hi p;by_cases ax:i<aa.length
 .refine .inr ⟨⟨ax,q⟩,Pv (i+1),λU' H' p'=>⟨aa.length-(i+1),by lia,rfl,ax,p'⟩,λx H' y=>?_⟩;obtain⟨c,kv,b,hc,rfl,ek,eb,rfl⟩:=y;exact hs i kv b c U H ek eb hc p
 .have e:i=aa.length:=by lia
  subst e;exact .inl ⟨⟨le_refl _,q⟩,hd U H p⟩
end L2
set_option Elab.async false
set_option linter.all false
set_option maxRecDepth 100000
namespace M
structure O where
 p:Int
 n:Int
 g:Int
 m:Int
 deriving DecidableEq
def yy (q:Int)(o:O):Bool:=decide (0<=o.p/\o.p<=q-1/\0<=o.g/\o.g<=q-1/\o.p≠o.g/\0<=o.n/\o.n<=99/\1<=o.m/\o.m<=1000)
theorem uh {q:Int}{o:O}:yy q o=true↔(0<=o.p/\o.p<=q-1/\0<=o.g/\o.g<=q-1/\o.p≠o.g/\0<=o.n/\o.n<=99/\1<=o.m/\o.m<=1000):=by unfold yy;rw[decide_eq_true_iff]
end M
namespace M
open PySem L2
theorem cG:0<=sizeLine:=by decide
theorem pJ:1<=sizeLine:=by decide
theorem pK:2<=sizeLine:=by decide
theorem nW:3<=sizeLine:=by decide
theorem M9:4<=sizeLine:=by decide
theorem XS:5<=sizeLine:=by decide
theorem XT:6<=sizeLine:=by decide
theorem XU:7<=sizeLine:=by decide
theorem XW:9<=sizeLine:=by decide
theorem Na:11<=sizeLine:=by decide
theorem vd {X:Cx}{e0 e1:Expr}{t0 t1:TE}(h0:PE X e0 t0)(h1:PE X e1 t1)(s0:autoParam (isStar e0=false) aP1)(s1:autoParam (isStar e1=false) aP1):PA X [e0,e1] (vk t0 (vk t1 lO)):=by refine je h0 ?_ s0;refine je h1 ?_ s1;exact ji
theorem cq {X:Cx}{e0 e1 e2:Expr}{t0 t1 t2:TE}(h0:PE X e0 t0)(h1:PE X e1 t1)(h2:PE X e2 t2)(s0:autoParam (isStar e0=false) aP1)(s1:autoParam (isStar e1=false) aP1)(s2:autoParam (isStar e2=false) aP1):PA X [e0,e1,e2] (vk t0 (vk t1 (vk t2 lO))):=by refine je h0 ?_ s0;refine je h1 ?_ s1;refine je h2 ?_ s2;exact ji
theorem Nb {X:Cx}{e0 e1 e2 e3:Expr}{t0 t1 t2 t3:TE}(h0:PE X e0 t0)(h1:PE X e1 t1)(h2:PE X e2 t2)(h3:PE X e3 t3)(s0:autoParam (isStar e0=false) aP1)(s1:autoParam (isStar e1=false) aP1)(s2:autoParam (isStar e2=false) aP1)(s3:autoParam (isStar e3=false) aP1):PA X [e0,e1,e2,e3] (vk t0 (vk t1 (vk t2 (vk t3 lO)))):=by refine je h0 ?_ s0;refine je h1 ?_ s1;refine je h2 ?_ s2;refine je h3 ?_ s3;exact ji
theorem Em {X:Cx}{e0 e1 e2 e3 e4:Expr}{t0 t1 t2 t3 t4:TE}(h0:PE X e0 t0)(h1:PE X e1 t1)(h2:PE X e2 t2)(h3:PE X e3 t3)(h4:PE X e4 t4)(s0:autoParam (isStar e0=false) aP1)(s1:autoParam (isStar e1=false) aP1)(s2:autoParam (isStar e2=false) aP1)(s3:autoParam (isStar e3=false) aP1)(s4:autoParam (isStar e4=false) aP1):PA X [e0,e1,e2,e3,e4] (vk t0 (vk t1 (vk t2 (vk t3 (vk t4 lO))))):=by refine je h0 ?_ s0;refine je h1 ?_ s1;refine je h2 ?_ s2;refine je h3 ?_ s3;refine je h4 ?_ s4;exact ji
theorem XX {X:Cx}{e0 e1 e2 e3 e4 e5 e6:Expr}{t0 t1 t2 t3 t4 t5 t6:TE}(h0:PE X e0 t0)(h1:PE X e1 t1)(h2:PE X e2 t2)(h3:PE X e3 t3)(h4:PE X e4 t4)(h5:PE X e5 t5)(h6:PE X e6 t6)(s0:autoParam (isStar e0=false) aP1)(s1:autoParam (isStar e1=false) aP1)(s2:autoParam (isStar e2=false) aP1)(s3:autoParam (isStar e3=false) aP1)(s4:autoParam (isStar e4=false) aP1)(s5:autoParam (isStar e5=false) aP1)(s6:autoParam (isStar e6=false) aP1):PA X [e0,e1,e2,e3,e4,e5,e6] (vk t0 (vk t1 (vk t2 (vk t3 (vk t4 (vk t5 (vk t6 lO))))))):=by refine je h0 ?_ s0;refine je h1 ?_ s1;refine je h2 ?_ s2;refine je h3 ?_ s3;refine je h4 ?_ s4;refine je h5 ?_ s5;refine je h6 ?_ s6;exact ji
theorem XY {X:Cx}{e0 e1 e2 e3 e4 e5 e6 e7 e8 e9 En:Expr}{t0 t1 t2 t3 t4 t5 t6 t7 t8 t9 Eo:TE}(h0:PE X e0 t0)(h1:PE X e1 t1)(h2:PE X e2 t2)(h3:PE X e3 t3)(h4:PE X e4 t4)(h5:PE X e5 t5)(h6:PE X e6 t6)(h7:PE X e7 t7)(h8:PE X e8 t8)(h9:PE X e9 t9)(XZ:PE X En Eo)(s0:autoParam (isStar e0=false) aP1)(s1:autoParam (isStar e1=false) aP1)(s2:autoParam (isStar e2=false) aP1)(s3:autoParam (isStar e3=false) aP1)(s4:autoParam (isStar e4=false) aP1)(s5:autoParam (isStar e5=false) aP1)(s6:autoParam (isStar e6=false) aP1)(s7:autoParam (isStar e7=false) aP1)(s8:autoParam (isStar e8=false) aP1)(s9:autoParam (isStar e9=false) aP1)(fS:autoParam (isStar En=false) aP1):PA X [e0,e1,e2,e3,e4,e5,e6,e7,e8,e9,En] (vk t0 (vk t1 (vk t2 (vk t3 (vk t4 (vk t5 (vk t6 (vk t7 (vk t8 (vk t9 (vk Eo lO))))))))))):=by refine je h0 ?_ s0;refine je h1 ?_ s1;refine je h2 ?_ s2;refine je h3 ?_ s3;refine je h4 ?_ s4;refine je h5 ?_ s5;refine je h6 ?_ s6;refine je h7 ?_ s7;refine je h8 ?_ s8;refine je h9 ?_ s9;refine je XZ ?_ fS;exact ji
def top (i:Nat):Stmt:=PySem.Challenge.pw_manypurses_k09_whole_stuck.main.body.getD i (.Pass ⟨0,0,0,0⟩)
abbrev As:Stmt:=top 15
abbrev Au:Stmt:=top 16
abbrev Av:Stmt:=top 30
abbrev Aw:Stmt:=top 31
abbrev vB:Stmt:=top 17
abbrev uy:Stmt:=top 18
abbrev gs:Stmt:=top 22
abbrev Ax:Stmt:=top 23
abbrev Ep:Stmt:=top 24
abbrev Er:Stmt:=top 25
abbrev Ay:Stmt:=top 41
abbrev kg:Stmt:=top 42
abbrev y0:Stmt:=inClass (top 7) 0
abbrev Es:Stmt:=top 46
abbrev Et:Stmt:=top 47
abbrev Az:Stmt:=top 48
abbrev gz:Stmt:=inClass (top 33) 0
abbrev va:Stmt:=inClass (top 33) 4
abbrev vC:Stmt:=inClass (top 33) 1
abbrev ur:Stmt:=inClass (top 33) 5
abbrev AA:Stmt:=inClass (top 35) 0
abbrev AB:Stmt:=inClass (top 35) 1
abbrev vD:Stmt:=inClass (top 35) 2
abbrev vE:Stmt:=inClass (top 35) 3
abbrev wu:Stmt:=inClass (top 37) 0
abbrev kb:Stmt:=inClass (top 37) 2
abbrev xc:Stmt:=inClass (top 37) 8
abbrev xp:Stmt:=inClass (top 37) 7
abbrev gq:Stmt:=inClass (top 37) 6
abbrev AD:Stmt:=inClass (top 37) 3
abbrev yn:Stmt:=inClass (top 37) 4
abbrev Eu:Stmt:=inClass (top 49) 0
abbrev AE:Stmt:=inClass (top 49) 7
abbrev AF:Stmt:=inClass (top 49) 1
abbrev AG:Stmt:=inClass (top 49) 13
abbrev vz:Stmt:=inClass (top 49) 20
abbrev vF:Stmt:=inClass (top 49) 12
abbrev yq:Stmt:=inClass (top 49) 22
abbrev yk:Stmt:=inClass (top 49) 23
abbrev yp:Stmt:=inClass (top 49) 24
abbrev y7:Stmt:=inClass (top 49) 21
abbrev zq:Stmt:=inClass (top 49) 19
abbrev x9:Stmt:=inClass (top 49) 18
abbrev vG:Stmt:=inClass (top 49) 3
abbrev AH:Stmt:=inClass (top 49) 4
abbrev AI:Stmt:=inClass (top 49) 5
abbrev AJ:Stmt:=inClass (top 49) 6
abbrev vH:Stmt:=inClass (top 49) 8
abbrev yt:Stmt:=top 52
abbrev vI:Stmt:=top 53
abbrev gk:Stmt:=top 51
abbrev AK:Stmt:=top 55
abbrev vJ:Stmt:=top 56
abbrev AL:Stmt:=top 57
abbrev AM:Stmt:=top 58
abbrev wa:Stmt:=top 59
abbrev gm:Stmt:=top 60
abbrev vK:Stmt:=top 61
abbrev vL:Stmt:=top 62
abbrev vM:Stmt:=top 63
abbrev vN:Stmt:=top 64
abbrev vO:Stmt:=top 65
abbrev vP:Stmt:=top 66
abbrev vQ:Stmt:=top 67
abbrev vR:Stmt:=top 68
theorem vS:ql ["thing","purses","purse","number","goal","much"] ["thing","purses"] (jv Av):=bX
theorem AN:ql ["things","bound","least","thing"] ["things","bound"] (jv vB):=bX
theorem Nc:ql ["self","house","thing","houses"] ["self","house","thing"] (jv vC):=bX
theorem gr:ql ["self","order","purse","number","goal","much"] ["self","order"] (jv vD):=bX
theorem gj:ql ["self","order","purse","number","goal","much"] ["self","order"] (jv vE):=bX
theorem xw:ql ["self","votes","later","order"] ["self"] (jv xc):=bX
theorem Nd:ql ["self","order"] ["self"] (jv xp):=bX
theorem Ew:ql ["self","order"] ["self"] (jv gq):=bX
theorem Nf:ql ["self","house","purse","number","keeper"] ["self","house","purse","number"] (jv vF):=bX
theorem Ng:ql ["self","word","order","house"] ["self","word","order"] (jv zq):=bX
theorem Nh:ql ["self","house","orders","order"] ["self","house","orders"] (jv x9):=bX
theorem Ex:ql ["self","purse","goal","much","asked","order"] ["self","purse","goal","much"] (jv vG):=bX
theorem we:ql ["self","at","letter","word","house","order","keeper"] ["self","at"] (jv vH):=bX
theorem yb:ql ["world","choices","keeper","place","order"] ["world"] (jv yt):=bX
theorem Ey:ql ["world","orders","most","silent"] ["world","orders"] (jv vI):=bX
theorem Ni:ql ["world","choices"] ["world"] (jv gk):=bX
theorem ue:ql ["_law_town_here","_law_many","_law_row","_law_at","_law_cell","_law_mixed"] ["_law_town_here","_law_many"] (jv vJ):=bX
theorem ya:ql ["_law_caught","_law_kinds","_law_words"] ["_law_caught"] (jv gm):=bX
theorem Ez:ql ["_law_town_here","_law_size","_law_most","_law_found","_law_one"] ["_law_town_here","_law_size","_law_most"] (jv vK):=bX
theorem yo:ql ["_law_town_here","_law_some_here","_law_crew","_law_foes","_law_begin","_law_rogues","_law_world_here"] ["_law_town_here"] (jv vL):=bX
theorem qr:ql ["_law_kind","_law_world_here","_law_one","_law_two","_law_three","_law_told_here","_law_caught","e"] ["_law_kind","_law_world_here","_law_one","_law_two","_law_three"] (jv vM):=bX
theorem Nj:ql ["_law_town_here","_law_world_here","_law_there"] ["_law_town_here","_law_world_here"] (jv vN):=bX
theorem EA:ql ["_law_town_here","_law_parts","_law_purse","_law_many","_law_goal"] ["_law_town_here","_law_parts","_law_purse"] (jv vO):=bX
theorem zx:ql ["_law_town_here","_law_parts","_law_share","_law_world_here","_law_crew","_law_some_here","_law_foes","_law_honest","_law_begin","_law_rogues","_law_many","_law_kind","_law_order_here","_law_purse","_law_goal"] ["_law_town_here","_law_parts","_law_share"] (jv vP):=bX
theorem qh:ql ["_law_parts","_law_world_here","_law_crew","_law_some_here","_law_foes","_law_honest","_law_begin","_law_rogues","_law_found","_law_purse","_law_number","_law_votes","_law_orders","_law_best"] ["_law_parts"] (jv vQ):=bX
theorem gM:ql ["_law_script","_law_town_here","_law_parts","_law_world_here","_law_crew","_law_some_here","_law_foes","_law_honest","_law_begin","_law_rogues","_law_turn","_law_places","_law_told_here"] ["_law_script"] (jv vR):=bX
theorem X0:(["thing","self"]:List Str).Nodup:=by decide+kernel
theorem X1:(["order","self"]:List Str).Nodup:=by decide+kernel
theorem X2:(["keeper","purse","asked"]:List Str).Nodup:=by decide+kernel
theorem X3:(["each"]:List Str).Nodup:=by decide+kernel
theorem X4:(["each"]:List Str).Nodup:=by decide+kernel
theorem X5:(["house","sums","liars"]:List Str).Nodup:=by decide+kernel
theorem X6:(["_law_k","_law_foes"]:List Str).Nodup:=by decide+kernel
theorem X7:(["_law_k","_law_town_here"]:List Str).Nodup:=by decide+kernel
theorem X8:(["order","orders"]:List Str).Nodup:=by decide+kernel
theorem EB:(["purse","number","orders","world"]:List Str).Nodup:=by decide+kernel
theorem X9:(["_law_order_here","_law_votes"]:List Str).Nodup:=by decide+kernel
theorem Ya:(["_law_order_here"]:List Str).Nodup:=by decide+kernel
theorem Yb:(["_law_house","_law_purse","_law_number","_law_world_here"]:List Str).Nodup:=by decide+kernel
theorem Yc:(["_law_one"]:List Str).Nodup:=by decide+kernel
theorem Yd:(["_law_purse","_law_world_here"]:List Str).Nodup:=by decide+kernel
theorem Ye:(["_law_order_here","_law_places"]:List Str).Nodup:=by decide+kernel
theorem Yf:(["_law_purse","_law_rogues"]:List Str).Nodup:=by decide+kernel
theorem Yg:(["_law_place"]:List Str).Nodup:=by decide+kernel
theorem boot_isinstance:bootBuiltins "isinstance"=some (.builtin "isinstance"):=by decide+kernel
theorem boot_bool:bootBuiltins "bool"=some (.type "bool"):=by decide+kernel
theorem boot_int:bootBuiltins "int"=some (.type "int"):=by decide+kernel
theorem boot_len:bootBuiltins "len"=some (.builtin "len"):=by decide+kernel
theorem boot_tuple:bootBuiltins "tuple"=some (.type "tuple"):=by decide+kernel
theorem boot_sorted:bootBuiltins "sorted"=some (.builtin "sorted"):=by decide+kernel
theorem boot_list:bootBuiltins "list"=some (.type "list"):=by decide+kernel
theorem boot_sum:bootBuiltins "sum"=some (.builtin "sum"):=by decide+kernel
theorem boot_max:bootBuiltins "max"=some (.builtin "max"):=by decide+kernel
theorem boot_all:bootBuiltins "all"=some (.builtin "all"):=by decide+kernel
theorem Yh:bootBuiltins "ValueError"=some (.type "ValueError"):=by decide+kernel
theorem boot_set:bootBuiltins "set"=some (.type "set"):=by decide+kernel
set_option genInjectivity false in
structure Ad where
 EC:Addr
 ED:FuncData
 EE:Addr
 EF:FuncData
 EG:Addr
 AO:FuncData
 EH:Addr
 EI:FuncData
 EJ:Addr
 EK:FuncData
 EL:Addr
 EM:FuncData
 EN:Addr
 EO:FuncData
 ER:Addr
 ES:FuncData
 ET:Addr
 EU:FuncData
 EV:Addr
 EW:FuncData
 EX:Addr
 EY:FuncData
 EZ:Addr
 E1:FuncData
 uk:Addr
 E2:FuncData
 E3:Addr
 E4:FuncData
 E5:Addr
 E6:FuncData
 E7:Addr
 E8:FuncData
 gw:Addr
 E9:FuncData
 Fb:Addr
 uv:FuncData
 Fc:Addr
 Fd:FuncData
 Fe:Addr
 Ff:FuncData
 vh:Addr
 Fg:FuncData
 AQ:Addr
 Fh:FuncData
 AR:Addr
 Fi:FuncData
 AS:Addr
 Fj:FuncData
 wz:Addr
 Fl:FuncData
 Fm:Addr
 Fo:FuncData
 kl:Addr
 ua:FuncData
 Fp:Addr
 uj:FuncData
 Fq:Addr
 Fs:FuncData
 Ft:Addr
 Fu:FuncData
 kq:Addr
 ku:FuncData
 g6:Addr
 Fv:FuncData
 Fw:Addr
 Fx:FuncData
 Nk:Addr
 Nl:FuncData
 Fy:Addr
 Fz:FuncData
 FA:Addr
 FC:FuncData
 FD:Addr
 FE:FuncData
 kj:Addr
 ub:FuncData
 ko:Addr
 ky:FuncData
 pd:Addr
 pe:FuncData
 uz:Addr
 FF:FuncData
 gg:Addr
 gf:FuncData
 FG:Addr
 FH:FuncData
 FI:Addr
 FJ:FuncData
 FK:Addr
 FL:FuncData
 FN:Addr
 FO:FuncData
 FP:Addr
 FQ:FuncData
 FR:Addr
 FT:FuncData
 FU:Addr
 FV:FuncData
 FW:Addr
 FX:FuncData
 FY:Addr
 FZ:FuncData
 F0:Addr
 F1:FuncData
 F8:Addr
 F9:FuncData
 Ga:Addr
 Gb:FuncData
 Gd:Addr
 Ge:FuncData
 Gf:Addr
 Gg:FuncData
 Gh:Addr
 Gi:FuncData
 Gj:Addr
 Gk:FuncData
 Gm:Addr
 Gp:FuncData
 Gq:Addr
 Gr:FuncData
 Gs:Addr
 Gu:FuncData
 Gw:Addr
 Gx:FuncData
 Gy:Addr
 Gz:FuncData
 GA:Addr
 GB:FuncData
 GC:Addr
 GD:FuncData
 hG:Addr
 j5:Addr
 j4:Addr
 jJ:Addr
 xf:Addr
 vm:Addr
 jK:Addr
 vp:Addr
 GF:Addr
 GG:Addr
 GH:Addr
 GI:Addr
 GJ:Addr
 GK:Addr
 GL:Addr
 GN:Addr
noncomputable def asked (t:Ad):List Value:=[.ref t.GK,.ref t.GL,.ref t.GN,.ref t.GI,.ref t.xf,.ref t.GJ,.ref t.jK,.ref t.vm,.ref t.GH,.ref t.GF,.ref t.GG,.ref t.vp,.type "ValueError"]
structure Txt (K:W.Frag)(mg:Str->Option Value)(t:Ad):Prop where
 vT:aw K "is_whole" "is_whole" As t.EC t.ED
 AU:mg "is_whole"=some (.ref t.EC)
 AV:Binds K t.ED ["thing"] []
 qv:aw K "is_between" "is_between" Au t.EE t.EF
 qy:mg "is_between"=some (.ref t.EE)
 qz:Binds K t.EF ["thing","low","high"] []
 AW:aw K "is_order" "is_order" Av t.EG t.AO
 GO:mg "is_order"=some (.ref t.EG)
 Nm:ik K t.AO ["thing","purses"] ["purses"] iy iy
 Yi:∃tk,Binds K t.AO ["thing","purses"] [.int 8 tk]
 AX:aw K "place_of" "place_of" Aw t.EH t.EI
 GP:mg "place_of"=some (.ref t.EH)
 GQ:Binds K t.EI ["order"] []
 Nn:aw K "are_rising" "are_rising" vB t.EJ t.EK
 Yj:mg "are_rising"=some (.ref t.EJ)
 Yk:Binds K t.EK ["things","bound"] []
 GR:aw K "is_rising_row" "is_rising_row" uy t.EL t.EM
 Np:mg "is_rising_row"=some (.ref t.EL)
 Nq:Binds K t.EM ["thing","bound"] []
 Nr:aw K "is_house_count" "is_house_count" gs t.EN t.EO
 Yl:mg "is_house_count"=some (.ref t.EN)
 Ym:Binds K t.EO ["thing"] []
 Nt:aw K "is_few" "is_few" Ax t.ER t.ES
 Yn:mg "is_few"=some (.ref t.ER)
 Yo:Binds K t.ES ["thing"] []
 Nu:aw K "outnumber" "outnumber" Ep t.ET t.EU
 Yp:mg "outnumber"=some (.ref t.ET)
 Yr:ik K t.EU ["houses","few"] ["few"] iy iy
 Nv:aw K "enough_of" "enough_of" Er t.EV t.EW
 Ys:mg "enough_of"=some (.ref t.EV)
 Yt:ik K t.EW ["houses","few"] ["few"] iy iy
 Nw:aw K "are_sums" "are_sums" Ay t.EX t.EY
 Yu:mg "are_sums"=some (.ref t.EX)
 Yv:Binds K t.EY ["thing"] []
 Nx:aw K "are_first_sums" "are_first_sums" kg t.EZ t.E1
 Yw:mg "are_first_sums"=some (.ref t.EZ)
 Yx:Binds K t.E1 ["thing"] []
 Yy:aw K "__init__" "NoPurse.__init__" y0 t.uk t.E2
 Ny:Aj K t.xf t.uk "purse"
 Yz:Binds K t.E2 ["self","purse"] []
 Nz:aw K "check_houses" "check_houses" Es t.E3 t.E4
 YA:mg "check_houses"=some (.ref t.E3)
 YB:ik K t.E4 ["houses","few","liars"] ["few","liars"] rq rq
 NA:aw K "check_purses" "check_purses" Et t.E5 t.E6
 YC:mg "check_purses"=some (.ref t.E5)
 YD:ik K t.E6 ["sums","cheats"] ["cheats"] iy iy
 NB:aw K "check_world" "check_world" Az t.E7 t.E8
 YE:mg "check_world"=some (.ref t.E7)
 YF:Binds K t.E8 ["thing"] []
 YG:aw K "__init__" "Board.__init__" gz t.gw t.E9
 jnc:Meth K t.hG "__init__" t.gw
 YH:Mk K t.hG t.gw
 YI:Binds K t.E9 ["self","enough"] []
 YJ:aw K "is_carried" "Board.is_carried" va t.Fb t.uv
 ym:Meth K t.hG "is_carried" t.Fb
 y4:Binds K t.uv ["self","thing"] []
 YK:aw K "put" "Board.put" vC t.Fc t.Fd
 YL:Meth K t.hG "put" t.Fc
 YM:Binds K t.Fd ["self","house","thing"] []
 YN:aw K "carried" "Board.carried" ur t.Fe t.Ff
 YO:Meth K t.hG "carried" t.Fe
 YQ:Binds K t.Ff ["self"] []
 YR:aw K "__init__" "Book.__init__" AA t.vh t.Fg
 jok:Meth K t.jJ "__init__" t.vh
 j40:Mk K t.jJ t.vh
 YS:Binds K t.Fg ["self","sums"] []
 YT:aw K "is_past" "Book.is_past" AB t.AQ t.Fh
 jph:Meth K t.jJ "is_past" t.AQ
 GS:Binds K t.Fh ["self","order"] []
 YU:aw K "is_due" "Book.is_due" vD t.AR t.Fi
 jqv:Meth K t.jJ "is_due" t.AR
 NC:Binds K t.Fi ["self","order"] []
 YV:aw K "settle" "Book.settle" vE t.AS t.Fj
 jqw:Meth K t.jJ "settle" t.AS
 YW:Binds K t.Fj ["self","order"] []
 YX:aw K "__init__" "Keeper.__init__" wu t.wz t.Fl
 jle:Meth K t.j5 "__init__" t.wz
 YY:Mk K t.j5 t.wz
 YZ:Binds K t.Fl ["self","sums"] []
 Y2:aw K "left_of" "Keeper.left_of" kb t.Fm t.Fo
 Y3:Meth K t.j5 "left_of" t.Fm
 Y4:Binds K t.Fo ["self","purse","orders"] []
 Y5:aw K "give_votes" "Keeper.give_votes" xc t.kl t.ua
 gi:Meth K t.j5 "give_votes" t.kl
 ud:Binds K t.ua ["self"] []
 Y6:aw K "first_due" "Keeper.first_due" xp t.Fp t.uj
 pf:Meth K t.j5 "first_due" t.Fp
 uu:Binds K t.uj ["self"] []
 Y7:aw K "go_on" "Keeper.go_on" gq t.Fq t.Fs
 Y8:Meth K t.j5 "go_on" t.Fq
 Y9:Binds K t.Fs ["self"] []
 Za:aw K "hear" "Keeper.hear" AD t.Ft t.Fu
 Zb:Meth K t.j5 "hear" t.Ft
 Zc:Binds K t.Fu ["self","order"] []
 Zd:aw K "take_paper" "Keeper.take_paper" yn t.kq t.ku
 Ze:Meth K t.j5 "take_paper" t.kq
 Zf:Binds K t.ku ["self","order"] []
 Zg:aw K "__init__" "World.__init__" Eu t.g6 t.Fv
 jm5:Meth K t.j4 "__init__" t.g6
 Zh:Mk K t.j4 t.g6
 Zi:ik K t.Fv ["self","houses","few","sums","liars","cheats"] ["few","sums","liars","cheats"] Ao Ao
 Zj:aw K "letters" "World.letters" AE t.Fw t.Fx
 gy:Meth K t.j4 "letters" t.Fw
 GU:Binds K t.Fx ["self"] []
 jq2:aw K "honest" "World.honest" AF t.Nk t.Nl
 jpg:Meth K t.j4 "honest" t.Nk
 jq8:Binds K t.Nl ["self"] []
 Zk:aw K "papers" "World.papers" AG t.Fy t.Fz
 GV:Meth K t.j4 "papers" t.Fy
 GW:Binds K t.Fz ["self"] []
 Zl:aw K "keeper_of" "World.keeper_of" vz t.FA t.FC
 y8:Meth K t.j4 "keeper_of" t.FA
 vy:Binds K t.FC ["self","house"] []
 Zm:aw K "voted" "World.voted" vF t.FD t.FE
 Zn:Meth K t.j4 "voted" t.FD
 Zo:Binds K t.FE ["self","house","purse","number"] []
 Zp:aw K "check_purse" "World.check_purse" yq t.kj t.ub
 xy:Meth K t.j4 "check_purse" t.kj
 yl:Binds K t.ub ["self","purse"] []
 Zr:aw K "check_asker" "World.check_asker" yk t.ko t.ky
 Zs:Meth K t.j4 "check_asker" t.ko
 Zt:Binds K t.ky ["self","purse","goal"] []
 Zu:aw K "check_order" "World.check_order" yp t.pd t.pe
 gb:Meth K t.j4 "check_order" t.pd
 kz:Binds K t.pe ["self","order"] []
 Zv:aw K "check_liar" "World.check_liar" y7 t.uz t.FF
 Zw:Meth K t.j4 "check_liar" t.uz
 Zx:Binds K t.FF ["self","liar"] []
 Zy:aw K "write_to_all" "World.write_to_all" zq t.gg t.gf
 vn:Meth K t.j4 "write_to_all" t.gg
 gd:Binds K t.gf ["self","word","order"] []
 Zz:aw K "put_votes" "World.put_votes" x9 t.FG t.FH
 y6:Meth K t.j4 "put_votes" t.FG
 wo:Binds K t.FH ["self","house","orders"] []
 ZA:aw K "ask" "World.ask" vG t.FI t.FJ
 ND:Meth K t.j4 "ask" t.FI
 NF:Binds K t.FJ ["self","purse","goal","much"] []
 ZC:aw K "cheat" "World.cheat" AH t.FK t.FL
 ZD:Meth K t.j4 "cheat" t.FK
 ZE:Binds K t.FL ["self","order","house"] []
 ZF:aw K "lie" "World.lie" AI t.FN t.FO
 GX:Meth K t.j4 "lie" t.FN
 GY:Binds K t.FO ["self","liar","order"] []
 ZG:aw K "show" "World.show" AJ t.FP t.FQ
 ZH:Meth K t.j4 "show" t.FP
 ZI:Binds K t.FQ ["self","order","house"] []
 ZJ:aw K "come" "World.come" vH t.FR t.FT
 ZK:Meth K t.j4 "come" t.FR
 ZL:Binds K t.FT ["self","at"] []
 NG:aw K "honest_choices" "honest_choices" yt t.FU t.FV
 ZM:mg "honest_choices"=some (.ref t.FU)
 ZN:Binds K t.FV ["world"] []
 NH:aw K "is_stuck" "is_stuck" vI t.FW t.FX
 ZO:mg "is_stuck"=some (.ref t.FW)
 ZP:Binds K t.FX ["world","orders"] []
 GZ:aw K "stuck_purses" "stuck_purses" gk t.FY t.FZ
 NI:mg "stuck_purses"=some (.ref t.FY)
 NJ:Binds K t.FZ ["world"] []
 NK:aw K "_law_town" "_law_town" AK t.F0 t.F1
 ZQ:mg "_law_town"=some (.ref t.F0)
 ZR:Binds K t.F1 ["_law_script"] []
 qg:aw K "_law_draw" "_law_draw" vJ t.F8 t.F9
 qk:mg "_law_draw"=some (.ref t.F8)
 qm:Binds K t.F9 ["_law_town_here","_law_many"] []
 zo:aw K "_law_pick" "_law_pick" AL t.Ga t.Gb
 xh:mg "_law_pick"=some (.ref t.Ga)
 xb:Binds K t.Gb ["_law_town_here","_law_some_here"] []
 NL:aw K "_law_whole" "_law_whole" AM t.Gd t.Ge
 ZS:mg "_law_whole"=some (.ref t.Gd)
 ZT:Binds K t.Ge ["_law_thing"] []
 NM:aw K "_law_whole_list" "_law_whole_list" wa t.Gf t.Gg
 ZU:mg "_law_whole_list"=some (.ref t.Gf)
 ZV:Binds K t.Gg ["_law_thing"] []
 G0:aw K "_law_refusal" "_law_refusal" gm t.Gh t.Gi
 NN:mg "_law_refusal"=some (.ref t.Gh)
 NO:Binds K t.Gi ["_law_caught"] []
 G7:aw K "_law_some" "_law_some" vK t.Gj t.Gk
 NP:mg "_law_some"=some (.ref t.Gj)
 NQ:Binds K t.Gk ["_law_town_here","_law_size","_law_most"] []
 NR:aw K "_law_world" "_law_world" vL t.Gm t.Gp
 ZW:mg "_law_world"=some (.ref t.Gm)
 ZX:Binds K t.Gp ["_law_town_here"] []
 G9:aw K "_law_told" "_law_told" vM t.Gq t.Gr
 NS:mg "_law_told"=some (.ref t.Gq)
 NT:Binds K t.Gr ["_law_kind","_law_world_here","_law_one","_law_two","_law_three"] []
 NU:aw K "_law_letter" "_law_letter" vN t.Gs t.Gu
 ZY:mg "_law_letter"=some (.ref t.Gs)
 ZZ:Binds K t.Gu ["_law_town_here","_law_world_here"] []
 NV:aw K "_law_order" "_law_order" vO t.Gw t.Gx
 Z5:mg "_law_order"=some (.ref t.Gw)
 Z6:Binds K t.Gx ["_law_town_here","_law_parts","_law_purse"] []
 Ha:aw K "_law_go" "_law_go" vP t.Gy t.Gz
 NW:mg "_law_go"=some (.ref t.Gy)
 NX:Binds K t.Gz ["_law_town_here","_law_parts","_law_share"] []
 NY:aw K "_law_stuck" "_law_stuck" vQ t.GA t.GB
 Z7:mg "_law_stuck"=some (.ref t.GA)
 Z8:Binds K t.GB ["_law_parts"] []
 j8d:aw K "law" "law" vR t.GC t.GD
 j6z:mg "law"=some (.ref t.GC)
 j82:Binds K t.GD ["_law_script"] []
 NZ:∃tk,mg "MOST_MUCH"=some (.int 1000 tk)
 N0:∃tk,mg "LAST_NUMBER"=some (.int 99 tk)
 N1:∃tk,mg "PAPER_LETTER"=some (.str "paper" tk)
 Hb:∃tk,mg "ORDER_LETTER"=some (.str "order" tk)
 jli:∃tk,mg "MOST_HOUSES"=some (.int 16 tk)
 jrj:∃tk,mg "MOST_FEW"=some (.int 5 tk)
 jgv:∃tk,mg "MOST_FIRST_SUM"=some (.int 1000 tk)
 jjr:∃tk,mg "LEAST_PURSES"=some (.int 2 tk)
 jl3:∃tk,mg "MOST_PURSES"=some (.int 8 tk)
 jy5:mg "Board"=some (.ref t.hG)
 xx:eV K t.hG
 xg:yj K t.hG "enough"
 yu:yj K t.hG "signers"
 jv8:mg "Keeper"=some (.ref t.j5)
 jt:eV K t.j5
 yw:yj K t.j5 "held"
 zf:yj K t.j5 "next_numbers"
 N2:yj K t.j5 "done"
 Hc:yj K t.j5 "heard"
 yf:yj K t.j5 "unvoted"
 qt:yj K t.j5 "choices"
 xa:yj K t.j5 "waiting"
 N3:mg "World"=some (.ref t.j4)
 jl:eV K t.j4
 jw1:MT K t.j4
 vg:yj K t.j4 "purses"
 jje:yj K t.j4 "total"
 Hd:yj K t.j4 "lying"
 ye:yj K t.j4 "cheating"
 qp:yj K t.j4 "keepers"
 xr:yj K t.j4 "board"
 He:yj K t.j4 "asked"
 zi:yj K t.j4 "on_way"
 j3n:mg "Book"=some (.ref t.jJ)
 j4v:eV K t.jJ
 jtv:yj K t.jJ "held"
 ji8:yj K t.jJ "next_numbers"
 jte:yj K t.jJ "done"
 N4:Meth K t.j5 "is_due" t.AR
 wm:Meth K t.j5 "is_past" t.AQ
 jhb:Meth K t.j5 "settle" t.AS
 jgt:MR K t.jJ "__init__" t.vh
 N5:mg "NoPurse"=some (.ref t.xf)
 N6:mg "TooMuch"=some (.ref t.vm)
 N7:mg "NotNow"=some (.ref t.jK)
 Hf:mg "PurseError"=some (.ref t.vp)
 jw5:mg "BadCut"=some (.ref t.GF)
 jtp:mg "BadText"=some (.ref t.GG)
 jru:mg "BadPaper"=some (.ref t.GH)
 jug:mg "NoHouse"=some (.ref t.GI)
 jri:mg "NoLetter"=some (.ref t.GJ)
 jpp:mg "BadNumber"=some (.ref t.GK)
 jrc:mg "BadOrder"=some (.ref t.GL)
 jpl:mg "BadHouses"=some (.ref t.GN)
 jrh:iz K t.xf
 jrk:kinds K (.ref t.xf) (asked t)=[some false,some false,some false,some false,some true,some false,some false,some false,some false,some false,some false,some true,some true]
 jbi:W.kitCls K (.ref t.xf) (.ref t.vp)=some true
 juf:zM K t.vm
 jq9:iz K t.vm
 jrs:kinds K (.ref t.vm) (asked t)=[some false,some false,some false,some false,some false,some false,some false,some true,some false,some false,some false,some true,some true]
 jbr:W.kitCls K (.ref t.vm) (.ref t.vp)=some true
 jws:zM K t.jK
 jt2:iz K t.jK
 jtq:kinds K (.ref t.jK) (asked t)=[some false,some false,some false,some false,some false,some false,some true,some false,some false,some false,some false,some true,some true]
 jcn:W.kitCls K (.ref t.jK) (.ref t.vp)=some true
 N8:W.mroIn K t.vp (.type "BaseException")=some true
 jx:mg "isinstance"=none
 N9:mg "bool"=none
 Oa:mg "int"=none
 cO:mg "len"=none
 Ob:mg "tuple"=none
 Hg:mg "sorted"=none
 nX:mg "list"=none
 Oc:mg "sum"=none
 Hh:mg "max"=none
 Od:mg "all"=none
 nY:mg "range"=none
 jns:mg "ValueError"=none
 j8f:mg "set"=none
def cz (o:O):List V:=[.int o.p,.int o.n,.int o.g,.int o.m]
def nZ (H:Hp)(x:V)(o:O):Prop:=∃a,x= .ref a/\H a=some (.tup (cz o))
abbrev mh (H:Hp)(xs:List V)(os:List O):Prop:=Paired (nZ H) xs os
theorem nZ.same {H H':Hp}{x:V}{o:O}(s:yi H H')(h:nZ H x o):nZ H' x o:=by obtain⟨a,e,q⟩:=h;exact⟨a,e,s _ _ q⟩
theorem jh {H:Hp}{p:Addr}{o:HO}(h:H p=none):yi H (upd H p o):=λb u e=>by rw[jf (jj e h)];exact e
theorem nd {c:Prop}[Decidable c](h:(!decide c)=true):¬c:=λz=>by rw[decide_eq_true z]at h;cases h
theorem yd {c:Prop}[Decidable c](h:¬(!decide c)=true):c:=by
 by_cases z:c
 .exact z
 .exact absurd (by rw[decide_eq_false z];rfl) h
theorem j6v {b:Bool}{A Bq:Prop}(e:b=true)(h:Bq):if(!b)=true then A else Bq:=by subst e;exact ka h
theorem take_snoc {α:Type}{l:List α}{i:Nat}{x:α}(h:l[i]?=some x):l.take (i+1)=l.take i++[x]:=by rw[List.take_add_one,h];rfl
theorem CU (s:List Int)(i:Nat)(z:Int):(s.map V.int).set i (.int z)=(s.set i z).map V.int:=by rw[map_set]
theorem get_map {s:List Int}{i:Nat}(h:i<s.length):(s.map V.int)[i]?=some (.int (s.getD i 0)):=by rw[getElem?_map,getElem?_eq_getElem h,getD_eq_getElem?_getD,getElem?_eq_getElem h];rfl
theorem vU {n:Nat}{i:Int}(h0:0<=i)(h1:i.toNat<n):mZ n i=some i.toNat:=by unfold mZ;rw[if_pos h0,if_pos (by lia)]
theorem mi {α:Type}{xs:List α}{i:Int}{v:α}(h0:0<=i)(h:xs[i.toNat]?=some v):ni xs i=some v:=by unfold ni;rw[vU h0 (List.getElem?_eq_some_iff.mp h).1];exact h
theorem rF {n:Nat}(h:n<=1000):n<=sizeLine:=le_of_lt (ze h)
noncomputable def de (T R:Addr)(H:Hp):Prop:=∃(row:List Int)(c:Int),H T=some (.lst [.ref R,.int c])/\H R=some (.lst (row.map V.int))/\0<row.length
def iG (T R:Addr)(H H':Hp):Prop:=∀b o,H b=some o->b≠T->b≠R->H' b=some o
theorem de.ne {T R:Addr}{H:Hp}(h:de T R H):T≠R:=by
 obtain⟨row,c,h1,h2,h3⟩:=h;refine vq h1 h2 λe=>?_;have e':=HO.lst.inj e;cases row with
 |nil=>cases h3
 |cons x r=>rw[map_cons]at e';cases(List.cons.inj e').1
theorem de.same {T R:Addr}{H H':Hp}(h:de T R H)(s:yi H H'):de T R H':=by obtain⟨row,c,h1,h2,h3⟩:=h;exact⟨row,c,s _ _ h1,s _ _ h2,h3⟩
theorem de.fresh {T R b:Addr}{H:Hp}(h:de T R H)(hb:H b=none):b≠T/\b≠R:=by obtain⟨row,c,h1,h2,h3⟩:=h;exact⟨(jj h1 hb).symm,(jj h2 hb).symm⟩
def ju9:Sp:=λvs H Q _=>∃i,vs=[.int i]/\Q (.bl true) H
def jr7:Sp:=λvs H Q _=>∃i l h,vs=[.int i,.int l,.int h]/\Q (.bl (decide (l<=i/\i<=h))) H
def jva:Sp:=λvs H Q _=>∃a o q,vs=[.ref a,.int q]/\H a=some (.tup (cz o))/\Q (.bl (yy q o)) H
noncomputable def ju3:Sp:=λvs H Q _=>∃a o,vs=[.ref a]/\H a=some (.tup (cz o))/\yy 8 o=true/\∀p,H p=none->Q (.ref p) (upd H p (.tup [.int o.p,.int o.n]))
theorem AY (T:Txt K mg t):xl P w K mg base CX0 1 t.EC t.ED ["thing"] ju9:=by refine T.vT.bj (N:=["thing"]) λ_ A _ s H vs Q E hr h=>?_;obtain⟨i,rfl,q⟩:=h;refine⟨_,(@jg _ _ _ (j6 (lF (jo ph rfl T.jx boot_isinstance (@vd _ _ _ _ _ (pv 0) (kB (v:=.ty "int") rfl T.Oa boot_int rfl) rfl rfl)) (mT (JT (jo ph rfl T.jx boot_isinstance (@vd _ _ _ _ _ (pv 0) (kB (v:=.ty "bool") rfl T.N9 boot_bool rfl) rfl rfl))))))),?_⟩;refine⟨_,rfl,_,_,_,true,rfl,.int _,rfl,_,rfl,bT ?_⟩;exact⟨_,rfl,_,_,_,false,rfl,.int _,rfl,_,rfl,q⟩
theorem qx (T:Txt K mg t):xl P w K mg base CX0 2 t.EE t.EF ["thing","low","high"] jr7:=by
 refine T.qv.bj (N:=["thing","low","high"]) λ_ A _ s H vs Q E hr h=>?_;obtain⟨i,l,u,rfl,q⟩:=h;refine⟨_,(@jg _ _ _ (j6 (lF (jn (AY T) hr.dn rfl T.AU T.vT.kp T.AV .nil ju (je (pv 0) ji)) (mT (RJ yR yR (pv 1) (pv 0) (pv 2)))))),?_⟩;refine⟨_,rfl,i,rfl,_,rfl,bT ?_⟩;refine⟨_,rfl,_,rfl,_,_,rfl,rfl,_,rfl,?_⟩;refine bp (λh1=>?_) (λh1=>?_)
 .refine⟨_,rfl,_,_,rfl,rfl,?_⟩;have e:decide (l<=i/\i<=u)=decide (i<=u):=by
   have nE:=of_decide_eq_true h1;simp[nE]
  rw[e]at q;exact q
 .have e:decide (l<=i/\i<=u)=false:=by
   have nE:¬l<=i:=λz=>h1 (decide_eq_true z);simp[nE]
  rw[e]at q;exact q
theorem Hi (T:Txt K mg t):xl P w K mg base CX0 3 t.EG t.AO ["thing","purses"] jva:=by
 refine T.AW.cL vS λ_ A _ s H vs Q E hr h=>?_;obtain⟨a,o,q,rfl,ha,k⟩:=h;refine⟨_,(@jd _ _ _ _ _ (zk (PW.pt (gC (xu (zl (jo ph rfl T.jx boot_isinstance (@vd _ _ _ _ _ (pv 0) (kB (v:=.ty "tuple") rfl T.Ob boot_tuple rfl) rfl rfl)))) (gS (j3 CQ (jo jw rfl T.cO boot_len (je (pv 0) ji)) jq (qi _))))) (@jg _ _ _ (j6 gB)) qe) (@jd _ _ _ _ _ (lH (pv 0) (lG rfl (jy (jr (i:=2) vS.nd rfl (Or.inl rfl)) (jy (jr (i:=3) vS.nd rfl (Or.inl rfl)) (jy (jr (i:=4) vS.nd rfl (Or.inl rfl)) (jy (jr (i:=5) vS.nd rfl (Or.inl rfl)) kE)))))) (@jd _ _ _ _ _ (zk (PW.pt (gC (xu (zl (jn (qx T) hr.dn rfl T.qy T.qv.kp T.qz .nil ju (@cq _ _ _ _ _ _ _ (pv 2) jq (zt iT (pv 1) jq) rfl rfl rfl)))) (gS (xu (zl (jn (qx T) hr.dn rfl T.qy T.qv.kp T.qz .nil ju (@cq _ _ _ _ _ _ _ (pv 4) jq (zt iT (pv 1) jq) rfl rfl rfl))))))) (@jg _ _ _ (j6 gB)) qe) (@jg _ _ _ (j6 (lF (lM CQ (pv 2) (pv 4) (qi _)) (lF (jn (qx T) hr.dn rfl T.qy T.qv.kp T.qz .nil ju (@cq _ _ _ _ _ _ _ (pv 3) jq (zg (v:=.int 99) rfl T.N0.choose_spec ⟨_,rfl⟩) rfl rfl rfl)) (mT (jn (qx T) hr.dn rfl T.qy T.qv.kp T.qz .nil ju (@cq _ _ _ _ _ _ _ (pv 5) jq (zg (v:=.int 1000) rfl T.NZ.choose_spec ⟨_,rfl⟩) rfl rfl rfl)))))))))),?_⟩;refine⟨_,rfl,_,_,_,true,rfl,.tup ha,rfl,_,rfl,?_⟩;refine ka ?_;refine⟨_,rfl,a,cz o,rfl,.inr (aA.of ha),rfl,_,rfl,?_⟩;refine ka ?_;refine⟨_,rfl,a,cz o,rfl,aA.of ha,rfl,_,_,rfl,_,_,rfl,_,_,rfl,_,_,rfl,rfl,?_⟩;have fin:∀b,b=yy q o->Q (.bl b) H:=λb e=>e ▸ k;refine⟨_,rfl,_,rfl,_,_,rfl,rfl,_,_,_,rfl,_,rfl,?_⟩;refine bp (λh1=>fin _ ?_) (λh1=>?_)
 .have z:=nd h1;unfold yy;exact(decide_eq_false (λh=>z ⟨h.1,h.2.1⟩)).symm
 have z1:=yd h1;refine⟨_,rfl,_,rfl,_,_,rfl,rfl,_,_,_,rfl,_,rfl,?_⟩;refine bp (λh2=>fin _ ?_) (λh2=>?_)
 .have z:=nd h2;unfold yy;exact(decide_eq_false (λh=>z ⟨h.2.2.1,h.2.2.2.1⟩)).symm
 have z2:=yd h2;refine⟨_,rfl,_,rfl,rfl,_,rfl,?_⟩;refine bp (λh3=>?_) (λh3=>fin _ ?_)
 .have z3:¬o.p=o.g:=by simpa using h3
  refine⟨_,rfl,_,_,_,rfl,_,rfl,?_⟩;refine bp (λh4=>?_) (λh4=>fin _ ?_)
  .have z4:=of_decide_eq_true h4;refine⟨_,rfl,_,_,_,rfl,fin _ ?_⟩;unfold yy;rw[Bool.eq_iff_iff,decide_eq_true_iff,decide_eq_true_iff];exact⟨λh=>⟨z1.1,z1.2,z2.1,z2.2,z3,z4.1,z4.2,h.1,h.2⟩,λh=>h.2.2.2.2.2.2.2⟩
  .have z4:¬(0<=o.n/\o.n<=99):=λh=>h4 (decide_eq_true h);unfold yy;exact(decide_eq_false (λh=>z4 ⟨h.2.2.2.2.2.1,h.2.2.2.2.2.2.1⟩)).symm
 .have z3:o.p=o.g:=by simpa using h3
  unfold yy;exact(decide_eq_false (λh=>h.2.2.2.2.1 z3)).symm
theorem Hj (T:Txt K mg t):xl P w K mg base CX0 4 t.EH t.EI ["order"] ju3:=by
 refine T.AX.bj (N:=["order"]) λ_ A _ s H vs Q E hr h=>?_;obtain⟨a,o,rfl,ha,ho,k⟩:=h;refine⟨_,(@jd _ _ _ _ _ (zk (xu (zl (jn (Hi T) hr.dn rfl T.GO T.AW.kp T.Yi.choose_spec (show Vals [.int 8] _ from .cons ⟨_,rfl⟩ .nil) ju (je (pv 0) ji)))) (@jg _ _ _ (Rg)) qe) (@jg _ _ _ (j6 (@kH _ _ _ _ _ (@vd _ _ _ _ _ (cC kJ (pv 0) jq (λ_ _=>rfl)) (cC kJ (pv 0) jq (λ_ _=>rfl)) rfl rfl))))),?_⟩;refine⟨_,rfl,a,o,8,rfl,ha,_,rfl,j6v ho ?_⟩;exact⟨_,rfl,a,cz o,0,.int o.p,rfl,rfl,aA.of ha,rfl,_,rfl,a,cz o,1,.int o.n,rfl,rfl,aA.of ha,rfl,pK,λp hp=>k p hp⟩
theorem AZ {H:Hp}{a b:Addr}{o:HO}(h:upd H a o b=none):b≠a/\H b=none:=by
 have hb:b≠a:=λz=>by rw[z,jc]at h;cases h
 rw[jf hb]at h;exact⟨hb,h⟩
def ml (S:Addr)(en:Int):List (Str×V):=uf "signers" (.ref S) (uf "enough" (.int en) [])
theorem Hk (S:Addr)(en:Int):(ml S en).lookup ("signers":Str)=some (.ref S):=by unfold ml;rw[jm,if_pos rfl]
theorem vV (S:Addr)(en:Int):(ml S en).lookup ("enough":Str)=some (.int en):=by unfold ml;rw[jm,if_neg (by decide+kernel),jm,if_pos rfl]
theorem vW (S:Addr)(en:Int){m:Str}(h1:¬m="signers")(h2:¬m="enough"):(ml S en).lookup m=none:=by unfold ml;rw[jm,if_neg h1,jm,if_neg h2];rfl
abbrev fU:=List (List Key×List Int)
def iH (H:Hp)(kv:List Key×V)(p:List Key×List Int):Prop:=kv.1=p.1/\∃b,kv.2= .ref b/\H b=some (.lst (p.2.map V.int))
structure yz (t:Ad)(H:Hp)(p dx S:Addr)(en:Int)(aa:List (List Key×V))(ps:fU):Prop where
 ob:H p=some (.ins t.hG dx (ml S en))
 sg:H S=some (.dT aa)
 hs:Paired (iH H) aa ps
 un:(aa.map (·.2)).Nodup
theorem yz.same {t:Ad}{H H':Hp}{p dx S:Addr}{en:Int}{aa:List (List Key×V)}{ps:fU}(s:yi H H')(b:yz t H p dx S en aa ps):yz t H' p dx S en aa ps:=⟨s _ _ b.ob,s _ _ b.sg,Paired.xt b.hs λ_ _ ⟨e,c,ec,h⟩=>⟨e,c,ec,s _ _ h⟩,b.un⟩
structure Hl (t:Ad)(H:Hp)(p dx S:Addr)(en:Int)(aa:List (List Key×V))(ps:fU):Prop where
 ob:H p=some (.ins t.hG dx (ml S en))
 sg:Rd H S (.dT aa)
 hs:Paired (iH H) aa ps
theorem yz.rd {t:Ad}{H:Hp}{p dx S:Addr}{en:Int}{aa:List (List Key×V)}{ps:fU}(b:yz t H p dx S en aa ps):Hl t H p dx S en aa ps:=⟨b.ob,.inl b.sg,b.hs⟩
theorem Hm {H H':Hp}{a:Addr}{u:HO}(s:yi H H')(h:Rd H a u):Rd H' a u:=by
 rcases h with h|⟨o,h⟩
 .exact .inl (s _ _ h)
 .exact .inr ⟨o,s _ _ h⟩
def qq:fU->List Key->List Int
 |[],_=>[]
 |p::ps,k=>if p.1=k then p.2 else qq ps k
theorem Hn {H:Hp}{k:List Key}:∀{aa:List (List Key×V)}{ps:fU},Paired (iH H) aa ps->(aX aa k=none/\qq ps k=[]/\k∉ps.map (·.1))\/∃b,aX aa k=some (.ref b)/\H b=some (.lst ((qq ps k).map V.int)):=λ{aa ps} q=>by
 induction q with
 |nil=>exact .inl ⟨rfl,rfl,by simp⟩
 | @cons kv p aa ps a r ih=>
  obtain⟨e,b,eb,h⟩:=a;by_cases z:p.1=k
  .refine .inr ⟨b,?_,?_⟩
   .rw[w6 (e.trans z),eb]
   .rw[qq,if_pos z];exact h
  .have z':¬kv.1=k:=λq=>z (e.symm.trans q);rw[qq,if_neg z,wg z'];rcases ih with⟨h1,h2,h3⟩|h
   .exact .inl ⟨h1,h2,by rw[map_cons,mem_cons];exact λq=>q.elim (λq=>z q.symm) h3⟩
   .exact .inr h
noncomputable def j09 (t:Ad):Sp:=λvs H Q _=>∃x dx en,vs=[.ref x,.int en]/\H x=some (.ins t.hG dx [])/\∀S H',H S=none->yz t H' x dx S en [] []->(∀b o,H b=some o->b≠x->H' b=some o)->Q .aq H'
noncomputable def jt6 (t:Ad):Sp:=λvs H Q _=>∃p dx S en aa ps b k,vs=[.ref p,.ref b]/\Hl t H p dx S en aa ps/\H b=some (.tup (k.map kV))/\∀H',yi H H'->Q (.bl (decide (en<=((qq ps k).length:Int)))) H'
def mn:fU->List Key->Int->fU
 |[],k,h=>[(k,[h])]
 |p::ps,k,h=>if p.1=k then(p.1,p.2++[h])::ps else p::mn ps k h
def NotIn (aa:List (List Key×V))(c:Addr):Prop:=∀kv∈aa,kv.2≠.ref c
noncomputable def j7f (t:Ad):Sp:=λvs H Q _=>∃p dx S en aa ps b k h,vs=[.ref p,.int h,.ref b]/\yz t H p dx S en aa ps/\H b=some (.tup (k.map kV))/\aa.length<=1000/\(qq ps k).length<=1000/\(h∈qq ps k->∀H',yi H H'->Q (.bl false) H')/\(h∉qq ps k->∀bF H',yz t H' p dx S en bF (mn ps k h)->(∀c u,H c=some u->c≠S->NotIn aa c->H' c=some u)->(∀c u,H c=some u->NotIn aa c->NotIn bF c)->Q (.bl (decide (((qq ps k).length:Int)+1=en))) H')
theorem Oe:∀{ps:fU}{k:List Key}{h:Int},k∉ps.map (·.1)->mn ps k h=ps++[(k,[h])]
 |[],_,_,_=>rfl
 |p::ps,k,h,z=>by rw[map_cons,mem_cons]at z;rw[mn,if_neg (λe=>z (.inl e.symm)),Oe λe=>z (.inr e)];rfl
theorem qo {α β:Type}{F:α->β->Prop}:∀{xs:List α}{ys:List β}{x:α}{y:β},Paired F xs ys->F x y->Paired F (xs++[x]) (ys++[y]):=λ{xs ys x y} q h=>by
 induction q with
 |nil=>exact .cons h .nil
 |cons a _ ih=>exact .cons a ih
theorem Of {k:List Key}{v:V}{aa:List (List Key×V)}(ev:aX aa k=some v):v∈aa.map (·.2):=by
 unfold aX at ev;cases hf:aa.find? (λkv=>decide (kv.1=k))with
 |none=>rw[hf]at ev;cases ev
 |some q=>rw[hf]at ev;have e3:q.2=v:=Option.some.inj ev;rw[<-e3];exact mem_map_of_mem (mem_of_find?_eq_some hf)
theorem wj {h:Int}:∀{hs:List Int},yX (.int h) (hs.map V.int)=decide (h∈hs)
 |[]=>rfl
 |x::hs=>by
  have ih:=wj (h:=h) (hs:=hs);simp only[map_cons,yX,any_cons]at ih⊢;rw[ih];show(x==h||decide (h∈hs))=_;by_cases e:h=x
  .simp[e]
  .have e':¬x=h:=λz=>e z.symm;simp[e,e']
theorem mr (hs:List Int):(hs.map V.int).all lR=true:=by rw[all_eq_true];intro y hy;obtain⟨i,_,rfl⟩:=mem_map.mp hy;rfl
theorem j2h {H:Hp}{r:Addr}(hr:H r=none):∀{aa:List (List Key×V)}{ps:fU},Paired (iH H) aa ps->V.ref r∉aa.map (·.2):=λ{aa ps} q=>by
 induction q with
 |nil=>simp
 |@cons kv p aa ps a r ih=>
  obtain⟨_,b,eb,hb⟩:=a;rw[map_cons,mem_cons]
  rintro(z|z)
  .rw[eb]at z;cases z;rw[hr]at hb;cases hb
  .exact ih z
theorem grown {H:Hp}{k:List Key}{h:Int}{c:Addr}:∀{aa:List (List Key×V)}{ps:fU},Paired (iH H) aa ps->(aa.map (·.2)).Nodup->aX aa k=some (.ref c)->Paired (iH (upd H c (.lst ((qq ps k++[h]).map V.int)))) aa (mn ps k h):=λ{aa ps} q nd ev=>by
 induction q with
 |nil=>cases ev
 | @cons kv p aa ps a r ih=>
  obtain⟨e,b,eb,hb⟩:=a;rw[map_cons,nodup_cons]at nd;have keep:∀{aa:List (List Key×V)}{ps:fU}{o:HO}{a:Addr},V.ref a∉aa.map (·.2)->Paired (iH H) aa ps->Paired (iH (upd H a o)) aa ps:=λ{aa ps o a} ha r=>by
   induction r with
   |nil=>exact .nil
   |cons q _ ih=>rw[map_cons,mem_cons]at ha;obtain⟨q1,b,q2,q3⟩:=q;refine .cons ⟨q1,b,q2,?_⟩ (ih λz=>ha (.inr z));rw[jf (λz=>ha (.inl (by rw[q2,z])))];exact q3
  by_cases z:p.1=k
  .rw[w6 (e.trans z),eb]at ev;cases ev;rw[mn,if_pos z,qq,if_pos z];rw[eb]at nd;exact .cons ⟨e,c,eb,jc⟩ (keep nd.1 r)
  .have z':¬kv.1=k:=λq=>z (e.symm.trans q);rw[wg z']at ev;rw[mn,if_neg z,qq,if_neg z];have hm:V.ref c∈aa.map (·.2):=Of ev;have hbc:b≠c:=λq=>nd.1 (by rw[eb,q];exact hm);exact .cons ⟨e,b,eb,by rw[jf hbc];exact hb⟩ (ih nd.2 ev)
theorem j98 {a:Addr}{o:Obj}{aa:List (List Key×V)}{g:TG}{ti:TT}{te:TE}{U0:St}{H0:Hp}{Q:VK}(Pv:Nat->List V->St->Hp->Prop)(h0:Pv 0 [] U0 H0)(hl:∀i ys U H,i<=aa.length->Pv i ys U H->H a=some (.az o (.dT aa))/\ys.length<=sizeLine)(hs:∀i kv b ys U H,aa[i]?=some kv->H b=some (.tup (kv.1.map kV))->Pv i ys U H->g (.ref b) U H λU2 H2=>ti U2 H2 λc H3=>if c=true then te U2 H3 λy H4=>Pv (i+1) (ys++[y]) U2 H4 else Pv (i+1) ys U2 H3)(hd:∀ys U H,Pv aa.length ys U H->∀p,H p=none->Q (.ref p) (upd H p (.lst ys))):∃W:Nat->Nat->List V->St->Hp->Prop,(∃m,W 0 m [] U0 H0)/\∀i m ys U H,W i m ys U H->ys.length<=sizeLine/\(((uE a o aa).stop i H/\tL Q ys H)\/((uE a o aa).go i H/\∃N:List V->St->Hp->Prop,(∀cD U' H',N cD U' H'->∃m',m'<m/\W (i+1) m' cD U' H')/\∀x H',(uE a o aa).dO i H x H'->g x U H' λU2 H2=>ti U2 H2 λb H3=>if b=true then te U2 H3 λy H4=>N (ys++[y]) U2 H4 else N ys U2 H3)):=by
 refine⟨λi m ys U H=>m=aa.length-i/\i<=aa.length/\Pv i ys U H,⟨aa.length,by simp,zero_le _,h0⟩,?_⟩
 rintro i m ys U H ⟨rfl,hi,p⟩
 obtain⟨q,hz⟩:=hl i ys U H hi p;refine⟨hz,?_⟩;by_cases ax:i<aa.length
 .refine .inr ⟨⟨ax,q⟩,Pv (i+1),λcD U' H' p'=>⟨aa.length-(i+1),by lia,rfl,ax,p'⟩,λx H' y=>?_⟩;obtain⟨e,kv,b,ek,ex,eb⟩:=y;subst e ex;exact hs i kv b ys U _ ek eb p
 .have e:i=aa.length:=by lia
  subst e;exact .inl ⟨⟨le_refl _,q⟩,hd ys U H p⟩
abbrev x8:=List (List Int×List Int)
def cH (t:List Int):List Key:=t.map Sum.inl
def bP (is:x8):fU:=is.map λp=>(cH p.1,p.2)
theorem j2w (t:List Int):(cH t).map kV=t.map V.int:=by unfold cH;rw[map_map];rfl
theorem Ho {t u:List Int}(h:cH t=cH u):t=u:=(List.map_inj_right (λ_ _ z=>Sum.inl.inj z)).mp h
def yr (is:x8)(en:Int):List (List Int):=(is.filter λp=>decide (en<=(p.2.length:Int))).map (·.1)
theorem Hq:∀{is:x8}{i:Nat}{p:List Int×List Int},(is.map (·.1)).Nodup->is[i]?=some p->qq (bP is) (cH p.1)=p.2
 |[],_,_,_,e=>by simp at e
 |x::is,0,p,_,e=>by cases Option.some.inj e;show(if cH x.1=cH x.1 then x.2 else _)=_;rw[if_pos rfl]
 |x::is,i+1,p,nd,e=>by rw[map_cons,nodup_cons]at nd;have hm:p∈is:=mem_of_getElem? (by simpa using e);show(if cH x.1=cH p.1 then x.2 else qq (bP is) (cH p.1))=_;rw[if_neg λz=>nd.1 (by rw[Ho z];exact mem_map_of_mem hm)];exact Hq nd.2 (by simpa using e)
section
variable {P:Program}{w:World}{K:W.Frag}{mg:Str->Option Value}{base:Heap}{t:Ad}
theorem kn (T:Txt K mg t):xl P w K mg base CX0 1 t.Fb t.uv ["self","thing"] (jt6 t):=by
 refine T.YJ.bj (N:=["self","thing"]) λ_ A _ s H vs Q E hr h=>?_;obtain⟨p,dx,S,en,aa,ps,b,k,rfl,Bq,hb,q⟩:=h;refine⟨_,(@jg _ _ _ (j6 (lM Kg (jo jw rfl T.cO boot_len (je (TN (gU hr) (qd (pv 0) rfl) (pv 1) (@zh _ _ _ _ ji) ⟨rfl,rfl,rfl,rfl⟩) ji)) (qd (pv 0) rfl) (qi _)))),?_⟩;refine⟨_,rfl,p,_,dx,_,_,rfl,Bq.ob,T.xx,T.yu,Hk _ _,S,rfl,.inr ⟨aa,Bq.sg⟩,_,rfl,cG,λr hr=>?_⟩;have s1:=jh (o:=.lst []) hr;refine⟨_,.inr ⟨aa,k,b,Hm s1 Bq.sg,rfl,s1 _ _ hb,rfl⟩,?_⟩;rcases Hn (k:=k) Bq.hs with⟨h1,h2,h3⟩|⟨c,h1,h2⟩
 .rw[h1];refine⟨r,[],rfl,.inl (ah.of jc),_,rfl,p,_,dx,_,_,rfl,s1 _ _ Bq.ob,T.xx,T.xg,vV _ _,_,_,rfl,rfl,?_⟩;have:=q _ s1;rw[h2]at this;exact this
 .rw[h1];refine⟨c,_,rfl,.inl (ah.of (s1 _ _ h2)),_,rfl,p,_,dx,_,_,rfl,s1 _ _ Bq.ob,T.xx,T.xg,vV _ _,_,_,rfl,rfl,?_⟩;rw[length_map];exact q _ s1
theorem jum (T:Txt K mg t):xl P w K mg base CX0 1 t.Fc t.Fd ["self","house","thing"] (j7f t):=by
 refine T.YK.cL Nc λ_ A _ s H vs Q E hr h=>?_;obtain⟨p,dx,S,en,aa,ps,b,k,h,rfl,Bq,hb,l1,l2,q1,q2⟩:=h;refine⟨_,(@jd _ _ _ _ _ (j9 (i:=3) Nc.nd rfl (Or.inl rfl) (LY (gU hr) (qd (pv 0) rfl) (pv 2) (@zh _ _ _ _ ji) ⟨rfl,rfl,rfl,rfl⟩)) (@jd _ _ _ _ _ (zk (j3 KP (pv 1) (pv 3) (by with_unfolding_all rfl)) (@jg _ _ _ (j6 gB)) qe) (@jd _ _ _ _ _ (qb (dZ PySem.F.plainAttrs_list PySem.F.slot_list_append PySem.F.type_list_append yg (pv 3) (je (pv 1) ji))) (@jg _ _ _ (j6 (lM gD (jo jw rfl T.cO boot_len (je (pv 3) ji)) (qd (pv 0) rfl) (qi _))))))),?_⟩;refine⟨_,rfl,p,_,dx,_,_,rfl,Bq.ob,T.xx,T.yu,Hk _ _,S,rfl,.inr ⟨aa,.inl Bq.sg⟩,_,rfl,cG,λr hr=>?_⟩;have s1:=jh (o:=.lst []) hr;have B1:=Bq.same s1;refine⟨aa,k,b,B1.sg,rfl,s1 _ _ hb,ze l1,λv hv=>?_,λhv=>?_⟩
 .rcases Hn (k:=k) B1.hs with⟨z,_⟩|⟨c,h1,h2⟩
  .rw[hv]at z;cases z
  cases Option.some.inj (hv.symm.trans h1);refine⟨_,rfl,_,rfl,c,_,rfl,.inl (ah.of h2),rfl,mr _,_,rfl,bp (λz=>?_) (λz=>?_)⟩
  .rw[if_neg (by decide),wj]at z;exact q1 (of_decide_eq_true z) _ s1
  rw[if_neg (by decide),wj]at z;have nh:h∉qq ps k:=λy=>z (decide_eq_true y);have pc:p≠c:=vq B1.ob h2 (by intro z;cases z);have Sc:S≠c:=vq B1.sg h2 (by intro z;cases z);refine⟨_,rfl,.inl ⟨rfl,_,ah.of h2⟩,_,rfl,c,_,_,rfl,rfl,h2,ze (by rw[length_map];exact l2),?_⟩;refine⟨_,rfl,c,_,rfl,.inl (ah.of jc),_,rfl,p,_,dx,_,_,rfl,(by rw[jf pc];exact B1.ob),T.xx,T.xg,vV _ _,rfl,?_⟩;have G:=grown (h:=h) B1.hs B1.un h1;rw[map_append]at G;have e:decide (V.int (((qq ps k).map V.int++[V.int h]).length:Nat)=V.int en)=decide (((qq ps k).length:Int)+1=en):=by rw[length_append,length_map];simp
  have goal:=q2 nh aa _ ⟨by rw[jf pc];exact B1.ob,by rw[jf Sc];exact B1.sg,G,B1.un⟩ λc' u hc cS cN=>by
   have ne:c'≠c:=λy=>by obtain⟨kv,hm,ek⟩:=mem_map.mp (Of h1);exact cN kv hm (by rw[ek,y])
   rw[jf ne];exact s1 _ _ hc
  have goal:=goal λ_ _ _ z=>z;rw[<-e]at goal;exact goal
 .rcases Hn (k:=k) B1.hs with⟨_,h2,h3⟩|⟨c,z,_⟩;case inr=>rw[hv]at z;cases z
  have rS:r≠S:=(jj Bq.sg hr).symm;have rp:r≠p:=(jj Bq.ob hr).symm;have Sp:S≠p:=vq Bq.sg Bq.ob (by intro z;cases z);rw[tJ _ hv];have rG:upd (upd H r (.lst [])) S (.dT (aa++[(k,.ref r)])) r=some (.lst []):=by rw[jf rS];exact jc
  refine⟨_,rfl,_,rfl,r,[],rfl,.inl (ah.of rG),rfl,rfl,_,rfl,ka ?_⟩;refine⟨_,rfl,.inl ⟨rfl,_,ah.of rG⟩,_,rfl,r,[],_,rfl,rfl,rG,(by show 0<sizeLine;decide),?_⟩;have Og:upd (upd (upd H r (.lst [])) S (.dT (aa++[(k,.ref r)]))) r (.lst ([]++[.int h])) p=some (.ins t.hG dx (ml S en)):=by rw[jf rp.symm,jf Sp.symm];exact B1.ob
  refine⟨_,rfl,r,_,rfl,.inl (ah.of jc),_,rfl,p,_,dx,_,_,rfl,Og,T.xx,T.xg,vV _ _,rfl,?_⟩;have goal:=q2 (by rw[h2];simp) (aa++[(k,.ref r)]) (upd (upd (upd H r (.lst [])) S (.dT (aa++[(k,.ref r)]))) r (.lst ([]++[.int h]))) ⟨Og,by rw[jf rS.symm];exact jc,by
   rw[Oe h3];refine qo (Paired.xt Bq.hs λkv pp ⟨e1,c,e2,e3⟩=>⟨e1,c,e2,?_⟩) ⟨rfl,r,rfl,jc⟩;rw[jf (jj e3 hr),jf (vq e3 Bq.sg (by intro z;cases z)),jf (jj e3 hr)];exact e3,by
   rw[map_append,nodup_append];refine⟨Bq.un,by simp,λx hx y hy e=>?_⟩;rw[map_cons,map_nil,mem_singleton]at hy;rw[e,hy]at hx;exact j2h hr Bq.hs hx⟩ λc' u hc cS _=>by rw[jf (jj hc hr),jf cS,jf (jj hc hr)];exact hc
  have goal:=goal λc u hc z kv hm=>by
   rcases mem_append.mp hm with y|y
   .exact z kv y
   .have y':kv=(k,.ref r):=by simpa using y
    rw[y'];intro w;have w':r=c:=by simpa using w
    rw[<-w',hr]at hc;cases hc
  rw[h2]at goal;have e:decide (V.int ((([]:List V)++[V.int h]).length:Nat)=V.int en)=decide ((([]:List Int).length:Int)+1=en):=by simp
  rw[<-e]at goal;exact goal
def jL (H:Hp)(v:V)(t:List Int):Prop:=∃a,v= .ref a/\H a=some (.tup (t.map V.int))
theorem jL.same {H H':Hp}(s:yi H H'){v:V}{t:List Int}(h:jL H v t):jL H' v t:=let⟨a,e,q⟩:=h;⟨a,e,s _ _ q⟩
theorem jL.at_ {K:W.Frag}{H:Hp}{vs:List V}{ts:List (List Int)}(h:Paired (jL H) vs ts):zW K H vs ts:=Paired.xt h λ_ _ ⟨a,e,q⟩=>⟨a,e,aA.of q⟩
theorem Oh {F:V->List Int->Prop}{vs:List V}{ts:List (List Int)}(p:Paired F vs ts):∀{ix:List Nat},(∀i∈ix,i<vs.length)->Paired F (ix.map λi=>vs.getD i .aq) (ix.map λi=>ts.getD i [])
 |[],_=>.nil
 |i::ix,h=>by obtain⟨t,e,q⟩:=j7 p (getElem?_eq_getElem (h i mem_cons_self));rw[map_cons,map_cons];refine .cons ?_ (Oh p λj hj=>h j (mem_cons_of_mem _ hj));rw[getD_eq_getElem?_getD,getD_eq_getElem?_getD,e,getElem?_eq_getElem (h i mem_cons_self)];exact q
noncomputable def jvv (t:Ad):Sp:=λvs H Q _=>∃p dx S en aa is,vs=[.ref p]/\yz t H p dx S en aa (bP is)/\aa.length<64/\(is.map (·.1)).Nodup/\(∀x∈is,x.1≠[])/\∀(r:Addr)(bH:List V)(eA:List (List Int))(H':Hp),H r=none->yi H H'->eA.Perm (yr is en)->Paired (jL H') bH eA->H' r=some (.lst bH)->Q (.ref r) H'
theorem joq (T:Txt K mg t):xl P w K mg base CX0 2 t.Fe t.Ff ["self"] (jvv t):=by
 refine T.YN.bj (N:=["self"]) λ_ A _ s H vs Q E hr h=>?_;obtain⟨p,dx,S,en,aa,is,rfl,Bq,l64,nd,ne,q⟩:=h;refine⟨_,(@jg _ _ _ (j6 (jo XD rfl T.Hg boot_sorted (je (DG (y9 (N':=["thing","self"]) (ix:=[none,some 0]) (zd (by kernel_rfl)) rfl (VH (qd (pv 0) rfl)) (λ_ _ _ _=>(jr (i:=0) X0 rfl (Or.inl rfl) (.inr rfl))) (λ_ _ _ _=>(lX (zl (qj (pv 1) T.xx T.ym (kn T) hr.dn T.y4 .nil ju (je (pv 0) ji))))) (λ_ _ _ _=>(pv 0)))) ji)))),?_⟩;have len:aa.length=is.length:=by have:=Paired.length Bq.hs;rwa[bP,length_map]at this
 refine⟨_,rfl,p,_,dx,_,_,rfl,Bq.ob,T.xx,T.yu,Hk _ _,S,aa,rfl,Bq.sg,λo=>j98 (λi ys U H'=>∃v,U=[v,some (.ref p)]/\yi (upd H S (.az o (.dT aa))) H'/\Paired (jL H') ys (yr (is.take i) en)) ⟨none,rfl,yi.refl _,.nil⟩ ?_ ?_ ?_⟩
 .rintro i ys U H' hi ⟨v,rfl,sm,tu⟩
  refine⟨sm _ _ jc,?_⟩;rw[Paired.length tu,yr,length_map];exact rF (le_trans (length_filter_le _ _) (by rw[length_take];omega))
 .rintro i kv b ys U H' ek eb ⟨v,rfl,sm,tu⟩
  obtain⟨pp,ep,e1,c,e2,e3⟩:=j7 Bq.hs ek;obtain⟨x,ex,rfl⟩:∃x,is[i]?=some x/\(cH x.1,x.2)=pp:=by
   rw[bP,getElem?_map]at ep;cases hx:is[i]? with
   |none=>rw[hx]at ep;cases ep
   |some x=>rw[hx]at ep;exact⟨x,rfl,Option.some.inj ep⟩
  have nH:∀c u,H c=some u->c≠S->H' c=some u:=λc u hc cS=>sm _ _ (by rw[jf cS];exact hc);have vX:H' S=some (.az o (.dT aa)):=sm _ _ jc;have R:Hl t H' p dx S en aa (bP is):=⟨nH _ _ Bq.ob (vq Bq.ob Bq.sg (by intro z;cases z)),.inr ⟨o,vX⟩,Paired.xt Bq.hs λ_ _ ⟨a1,c,a2,a3⟩=>⟨a1,c,a2,nH _ _ a3 (vq a3 Bq.sg (by intro z;cases z))⟩⟩;have hk:kv.1=cH x.1:=e1;rw[hk]at eb;have hh:=Hq nd ex;have tk:yr (is.take (i+1)) en=yr (is.take i) en++(if en<=(x.2.length:Int)then[x.1]else[]):=by unfold yr;rw[take_snoc ex,filter_append,map_append];by_cases z:en<=(x.2.length:Int)<;>simp[z]
  refine⟨_,rfl,p,dx,_,rfl,R.ob,vW _ _ (by decide+kernel) (by decide+kernel),_,rfl,p,dx,S,en,aa,bP is,b,cH x.1,rfl,R,eb,λH3 s3=>⟨_,rfl,?_⟩⟩;rw[hh];have eb3:H3 b=some (.tup (x.1.map V.int)):=by have:=s3 _ _ eb;rwa[j2w]at this
  refine bp (λz=>?_) (λz=>?_)
  .refine⟨_,rfl,_,rfl,sm.trans s3,?_⟩;rw[tk,if_pos (of_decide_eq_true z)];exact qo (Paired.xt tu λ_ _ h=>h.same s3) ⟨b,rfl,eb3⟩
  .refine⟨_,rfl,sm.trans s3,?_⟩;rw[tk,if_neg (λy=>z (decide_eq_true y)),append_nil];exact Paired.xt tu λ_ _ h=>h.same s3
 .rintro ys U H' ⟨v,rfl,sm,tu⟩ r hr
  rw[len,take_length]at tu;have vX:H' S=some (.az o (.dT aa)):=sm _ _ jc;have rS:r≠S:=(jj vX hr).symm;have n5:∀c u,H' c=some u->c≠S->upd (upd H' r (.lst ys)) S (.dT aa) c=some u:=λc u hc cS=>by rw[jf cS,jf (jj hc hr)];exact hc
  have Oi:Paired (jL (upd (upd H' r (.lst ys)) S (.dT aa))) ys (yr is en):=Paired.xt tu λ_ _ ⟨a,e,h⟩=>⟨a,e,n5 _ _ h (vq h vX (by intro z;cases z))⟩;refine⟨S,o,.dT aa,(by rw[jf rS.symm];exact vX),(λo' u' z=>?_),True.intro,r,ys,yr is en,rfl,ah.of (by rw[jf rS];exact jc),jL.at_ Oi,?_,?_,?_,λq' bH eA ix hq pix ev et _ pt _=>?_⟩
  .have z':H S=some (.az o' u'):=z;rw[Bq.sg]at z';cases z'
  .rw[Paired.length tu,yr,length_map];exact lt_of_le_of_lt (length_filter_le _ _) (by omega)
  .exact nd.sublist (List.filter_sublist.map _)
  .intro u hu;obtain⟨x,hx,rfl⟩:=mem_map.mp hu;exact ne x (mem_filter.mp hx).1
  .obtain⟨n1,n2⟩:=AZ hq;obtain⟨n3,n4⟩:=AZ n2;have h0:=(AZ (sm.free n4)).2;have tu3:Paired (jL (upd (upd (upd H' r (.lst ys)) S (.dT aa)) q' (.lst bH))) bH eA:=by
    have:=Oh (Paired.xt Oi λ_ _ h=>h.same (jh (o:=.lst bH) hq)) (ix:=ix) (λi hi=>mem_range.mp (pix.mem_iff.mp hi));rw[ev,et];rw[ev]at this;exact this
   refine q q' bH eA _ h0 (λc u hc=>?_) pt tu3 jc;rw[jf (jj hc h0)];by_cases cS:c=S
   .subst cS;rw[jc,<-hc,Bq.sg]
   .exact n5 c u (sm _ _ (by rw[jf cS];exact hc)) cS
theorem jmy (T:Txt K mg t):xl P w K mg base CX0 1 t.gw t.E9 ["self","enough"] (j09 t):=by
 refine T.YG.bj (N:=["self","enough"]) λ_ A _ s H vs Q E hr h=>?_;obtain⟨x,dx,en,rfl,hx,k⟩:=h;refine⟨_,(@jd _ _ _ _ _ (eI (pv 0) (pv 1) rfl) (@jg _ _ _ (eI (pv 0) zE rfl))),?_⟩;refine⟨_,rfl,_,rfl,x,_,dx,_,rfl,hx,T.xx,T.xg,(by show 0<1000;decide),λS hS=>?_⟩;obtain⟨Sx,Oj⟩:=AZ hS;refine⟨_,rfl,x,_,dx,_,rfl,(by rw[jf (Ne.symm Sx),jc]),T.xx,T.yu,(by show 1<1000;decide),?_⟩;refine k S _ Oj ⟨jc,by rw[jf Sx];exact jc,.nil,.nil⟩ λb o e bx=>?_;rw[jf bx,jf (jj e Oj),jf bx];exact e
theorem jkb (T:Txt K mg t):xl P w K mg base CX0 1 t.uk t.E2 ["self","purse"] (λvs H Q _=>∃x v,vs=[.ref x,v]/\H x=some (uR x t.xf)/\∀d,H d=none->Q .aq (upd (upd H x (pE x t.xf d)) d (.xd [("purse",v)]))):=by refine T.Yy.bj (N:=["self","purse"]) λ_ A _ s H vs Q E hr h=>?_;obtain⟨x,v,rfl,hx,k⟩:=h;refine⟨_,(@jg _ _ _ (WY T.Ny rfl (pv 0) (pv 1) rfl)),?_⟩;exact⟨_,rfl,_,rfl,x,rfl,hx,k⟩
theorem qam {H:Hp}{ea d:Addr}{X Yq Zq:HO}(h:H ea=none)(hd:upd H ea X d=none):H d=none/\upd (upd (upd H ea X) ea Yq) d Zq ea=some Yq/\yi H (λb=>if b=ea then none else upd (upd (upd H ea X) ea Yq) d Zq b)/\(λb=>if b=ea then none else upd (upd (upd H ea X) ea Yq) d Zq b) d=some Zq:=by
 have n1:d≠ea:=λz=>by rw[z,jc]at hd;cases hd
 have n2:H d=none:=by rw[jf n1]at hd;exact hd
 refine⟨n2,by rw[jf (Ne.symm n1),jc],λb u e=>?_,?_⟩
 .have be:=jj e h;show(if b=ea then none else upd (upd (upd H ea X) ea Yq) d Zq b)=some u;rw[if_neg be,jf (jj e n2),jf be,jf be];exact e
 .show(if d=ea then none else upd (upd (upd H ea X) ea Yq) d Zq d)=some Zq;rw[if_neg n1,jc]
theorem aU {a b:TS}{D:Ends}{U:St}{H:Hp}(h:∀N:St->Hp->Prop,(∀U' H',b D U' H'->N U' H')->a {D with nx:=N} U H):JV a b D U H:=h _ λ_ _ x=>x
theorem jM {c:TT}{a b:TS}{D:Ends}{U:St}{H:Hp}(h:∀N:Bool->Hp->Prop,(∀k H',(if k=true then a D U H' else b D U H')->N k H')->c U H N):JW c a b D U H:=h _ λ_ _ x=>x
structure Kp where
 held:List Int
 cu:List Int
 done:List O
 dQ:List O
 aQ:List O
 cho:List ((Int×Int)×O)
 wait:List O
def gI (xs:List Int)(i:Int):Int:=(xs[i.toNat]?).getD 0
def aH (xs:List Int)(i d:Int):List Int:=xs.set i.toNat (gI xs i+d)
theorem vY (xs:List Int)(i d:Int):(aH xs i d).length=xs.length:=length_set ..
theorem Hr {xs:List Int}{i:Int}(h0:0<=i)(h:i<xs.length):xs[i.toNat]?=some (gI xs i):=by unfold gI;rw[getElem?_eq_getElem (by lia)];rfl
def Kp.past (k:Kp)(o:O):Bool:=decide (o.n<gI k.cu o.p)
def Kp.gN (k:Kp)(o:O):Bool:=decide (o.n=gI k.cu o.p)&&decide (o.m<=gI k.held o.p)
def Kp.settle (k:Kp)(o:O):Kp:={k with held:=aH (aH k.held o.p (-o.m)) o.g o.m,cu:=aH k.cu o.p 1,done:=k.done++[o]}
def kR (c:List ((Int×Int)×O))(o:O):Bool:=c.any λx=>decide (x.1=(o.p,o.n))
abbrev Gv:=List ((Int×Int)×O)×List O×List O
noncomputable def df (k:Kp)(o:O)(a:Gv):Gv:=if(k.gN o&&!kR a.1 o)=true then(a.1++[((o.p,o.n),o)],a.2.1++[o],a.2.2)else if(!k.past o&&!kR a.1 o)=true then(a.1,a.2.1,a.2.2++[o])else a
def gv (k:Kp)(os:List O)(a:Gv):Gv:=os.foldl (λa o=>df k o a) a
noncomputable def Kp.zb (k:Kp):Kp×List O:=({k with cho:=(gv k k.aQ (k.cho,[],[])).1,aQ:=(gv k k.aQ (k.cho,[],[])).2.2},(gv k k.aQ (k.cho,[],[])).2.1)
def Kp.first (k:Kp):Option O:=k.wait.find? k.gN
def Kp.step (k:Kp)(o:O):Kp:={k with wait:=k.wait.erase o}.settle o
def Kp.go:Nat->Kp->Kp
 |0,k=>k
 |n+1,k=>match k.first with
  |none=>k
  |some o=>Kp.go n (k.step o)
def Kp.kS (k:Kp):Kp:=Kp.go k.wait.length k
def Kp.oa (k:Kp)(o:O):Kp×List O:=if o∈k.dQ then(k,[])else Kp.zb {k with dQ:=k.dQ++[o],aQ:=k.aQ++[o]}
def Kp.jN (k:Kp)(o:O):Kp×List O:=if(k.past o||decide (o∈k.wait))=true then(k,[])else(Kp.kS {k with wait:=k.wait++[o]}).zb
structure Kp.Ok (n:Nat)(k:Kp):Prop where
 h:k.held.length=n
 x:k.cu.length=n
 u:∀o∈k.aQ,yy n o=true
 w:∀o∈k.wait,yy n o=true
 nd:k.wait.Nodup
theorem Kp.Ok.settle {n:Nat}{k:Kp}(q:k.Ok n)(o:O):(k.settle o).Ok n:=⟨by show(aH (aH _ _ _) _ _).length=n;rw[vY,vY];exact q.h,by show(aH _ _ _).length=n;rw[vY];exact q.x,q.u,q.w,q.nd⟩
theorem Kp.Ok.step {n:Nat}{k:Kp}(q:k.Ok n)(o:O):(k.step o).Ok n:=Kp.Ok.settle (k:={k with wait:=k.wait.erase o}) ⟨q.h,q.x,q.u,λo' h=>q.w o' (mem_of_mem_erase h),q.nd.erase o⟩ o
theorem Hs (k:Kp){P:O->Prop}:∀(os:List O)(a:Gv),(∀o∈os,P o)->(∀o∈a.2.2,P o)->∀o∈(gv k os a).2.2,P o
 |[],a,_,h=>h
 | o::os,a,h1,h2=>by
  unfold gv;rw[foldl_cons];refine Hs k os _ (λo' h=>h1 o' (mem_cons_of_mem _ h)) ?_;unfold df;split
  .exact h2
  .split
   .intro o' h;rcases mem_append.mp h with h|h
    .exact h2 o' h
    .rw[mem_singleton.mp h];exact h1 o mem_cons_self
   .exact h2
theorem Kp.Ok.zb {n:Nat}{k:Kp}(q:k.Ok n):k.zb.1.Ok n:=⟨q.h,q.x,Hs k k.aQ _ q.u (λo h=>by cases h),q.w,q.nd⟩
set_option genInjectivity true in
inductive Part where
 | x | wy | ak | bd | sd | sg | kd
 | row (i:Nat)
 | kp (h:Int) (f:Nat)
 | own (i:Nat)
 deriving DecidableEq
abbrev Role:=Nat×Part
abbrev ar:=Addr->Option Role
def pL:HO->Prop
 | .tup _=>False
 | .az _ (.tup _)=>False
 |_=>True
def ay (Z:ar)(H:Hp):Prop:=∀a r,Z a=some r->∃u,H a=some u/\pL u
def Fr (P:Role->Prop)(Z:ar)(H:Hp)(Z':ar)(H':Hp):Prop:=∀a u,H a=some u->(∀r,Z a=some r->¬P r)->H' a=some u/\Z' a=Z a
def aO (Z:ar)(p:Addr)(r:Role):ar:=λa=>if a=p then some r else Z a
theorem zr {Z:ar}{p:Addr}{r:Role}:aO Z p r p=some r:=if_pos rfl
theorem xk {Z:ar}{p a:Addr}{r:Role}(h:a≠p):aO Z p r a=Z a:=if_neg h
theorem Fr.refl {P:Role->Prop}{Z:ar}{H:Hp}:Fr P Z H Z H:=λ_ _ e _=>⟨e,rfl⟩
theorem Fr.trans {P:Role->Prop}{Z Z' Ol:ar}{H H' dR:Hp}(f:Fr P Z H Z' H')(g:Fr P Z' H' Ol dR):Fr P Z H Ol dR:=λa u e n=>by obtain⟨e1,r1⟩:=f a u e n;obtain⟨e2,r2⟩:=g a u e1 (λr h=>n r (r1 ▸ h));exact⟨e2,r2.trans r1⟩
theorem Fr.mono {P P':Role->Prop}{Z Z':ar}{H H':Hp}(h:∀r,P r->P' r)(f:Fr P Z H Z' H'):Fr P' Z H Z' H':=λa u e n=>f a u e λr hr p=>n r hr (h r p)
theorem Fr.same {P:Role->Prop}{Z:ar}{H H':Hp}(s:yi H H'):Fr P Z H Z H':=λ_ _ e _=>⟨s _ _ e,rfl⟩
theorem ay.same {Z:ar}{H H':Hp}(s:yi H H')(o:ay Z H):ay Z H':=λa r h=>let⟨u,e,n⟩:=o a r h;⟨u,s _ _ e,n⟩
theorem ay.none {Z:ar}{H:Hp}{p:Addr}(o:ay Z H)(h:H p=none):Z p= .none:=by
 cases e:Z p with
 |none=>rfl
 |some r=>obtain⟨u,q,_⟩:=o p r e;rw[h]at q;cases q
theorem ay.tup {Z:ar}{H:Hp}{p:Addr}{xs:List V}(o:ay Z H)(h:H p=some (.tup xs)):Z p= .none:=by
 cases e:Z p with
 |none=>rfl
 |some r=>obtain⟨u,q,n⟩:=o p r e;rw[h]at q;cases q;exact n.elim
theorem Fr.put {P:Role->Prop}{Z:ar}{H:Hp}{a:Addr}{r:Role}{o:HO}(h:Z a=some r)(p:P r):Fr P Z H Z (upd H a o):=λb u e n=>by have:b≠a:=λz=>n r (z ▸ h) p;exact⟨by rw[jf this];exact e,rfl⟩
theorem ay.put {Z:ar}{H:Hp}{a:Addr}{o:HO}(k:ay Z H)(ho:autoParam (pL o) aP7):ay Z (upd H a o):=λb r h=>by
 by_cases z:b=a
 .subst z;exact⟨_,jc,ho⟩
 .obtain⟨u,e,n⟩:=k b r h;exact⟨u,by rw[jf z];exact e,n⟩
theorem Fr.cI {P:Role->Prop}{Z:ar}{H:Hp}{p:Addr}{r:Role}{o:HO}(n:H p=none):Fr P Z H (aO Z p r) (upd H p o):=λb u e _=>by have:b≠p:=jj e n;exact⟨by rw[jf this];exact e,xk this⟩
theorem ay.cI {Z:ar}{H:Hp}{p:Addr}{r:Role}{o:HO}(k:ay Z H)(ho:autoParam (pL o) aP7):ay (aO Z p r) (upd H p o):=λb r' h=>by
 by_cases z:b=p
 .subst z;exact⟨_,jc,ho⟩
 .rw[xk z]at h;obtain⟨u,e,n⟩:=k b r' h;exact⟨u,by rw[jf z];exact e,n⟩
theorem fF {Z:ar}{a b:Addr}{r r':Role}(ha:Z a=some r)(hb:Z b=some r')(n:r≠r'):a≠b:=λz=>by subst z;rw[ha]at hb;exact n (Option.some.inj hb)
theorem A0 {Z:ar}{a b:Addr}{r:Role}(ha:Z a=none)(hb:Z b=some r):a≠b:=λz=>by subst z;rw[ha]at hb;cases hb
def zu (H:Hp)(Z:ar)(x:V)(o:O):Prop:=∃a,x= .ref a/\Z a=none/\H a=some (.tup (cz o))
theorem zu.fr {P:Role->Prop}{Z Z':ar}{H H':Hp}{x:V}{o:O}(f:Fr P Z H Z' H')(h:zu H Z x o):zu H' Z' x o:=by
 obtain⟨a,e,n,q⟩:=h;obtain⟨q',n'⟩:=f a _ q λr hr=>by rw[n]at hr;cases hr
 exact⟨a,e,n'.trans n,q'⟩
theorem zu.at_ {H:Hp}{Z:ar}{x:V}{o:O}(h:zu H Z x o):nZ H x o:=let⟨a,e,_,q⟩:=h;⟨a,e,q⟩
def cP (o:O):List Key:=[.inl o.p,.inl o.n,.inl o.g,.inl o.m]
theorem j27 {o u:O}(h:cP o=cP u):o=u:=by cases o;cases u;unfold cP at h;simp at h;simp[h]
def jO (he nn dn:Addr):List (Str×V):=uf "done" (.ref dn) (uf "next_numbers" (.ref nn) (uf "held" (.ref he) []))
noncomputable def kf (he nn dn hd un cs wt:Addr):List (Str×V):=uf "waiting" (.ref wt) (uf "choices" (.ref cs) (uf "unvoted" (.ref un) (uf "heard" (.ref hd) (jO he nn dn))))
abbrev eK (A:Nat->Addr):List (Str×V):=kf (A 1) (A 2) (A 3) (A 4) (A 5) (A 6) (A 7)
noncomputable def eL (H:Hp)(Z:ar)(B:Kp)(f:Nat)(u:HO):Prop:=match f with
 |1=>u= .lst (B.held.map V.int)
 |2=>u= .lst (B.cu.map V.int)
 |3=>∃xs,u= .lst xs/\Paired (zu H Z) xs B.done
 |4=>∃aa,u= .dT aa/\aa.map (·.1)=B.dQ.map cP
 |5=>∃xs,u= .lst xs/\Paired (zu H Z) xs B.aQ
 |6=>∃aa,u= .dT aa/\Paired (λkv (c:(Int×Int)×O)=>kv.1=[.inl c.1.1,.inl c.1.2]/\zu H Z kv.2 c.2) aa B.cho
 |7=>∃xs,u= .lst xs/\Paired (zu H Z) xs B.wait
 |_=>True
theorem eL.fr {P:Role->Prop}{Z Z':ar}{H H':Hp}{B:Kp}{f:Nat}{u:HO}(fr:Fr P Z H Z' H')(h:eL H Z B f u):eL H' Z' B f u:=by
 unfold eL at h⊢;split at h
 .exact h
 .exact h
 .obtain⟨xs,e,p⟩:=h;exact⟨xs,e,Paired.xt p λ_ _=>zu.fr fr⟩
 .exact h
 .obtain⟨xs,e,p⟩:=h;exact⟨xs,e,Paired.xt p λ_ _=>zu.fr fr⟩
 .obtain⟨xs,e,p⟩:=h;exact⟨xs,e,Paired.xt p λ_ _ ⟨a,b⟩=>⟨a,b.fr fr⟩⟩
 .obtain⟨xs,e,p⟩:=h;exact⟨xs,e,Paired.xt p λ_ _=>zu.fr fr⟩
 .trivial
structure xi (t:Ad)(H:Hp)(Z:ar)(id:Nat)(h:Int)(k:Addr)(A:Nat->Addr)(dk:Addr)(B:Kp):Prop where
 ob:H k=some (.ins t.j5 dk (eK A))
 r0:Z k=some (id,.kp h 0)
 fl:∀f,1<=f->f<=7->Z (A f)=some (id,.kp h f)/\∃u,H (A f)=some u/\eL H Z B f u
def bu (id:Nat)(h:Int):Role->Prop:=λr=>∃f,r=(id,.kp h f)
section
variable {t:Ad}{H H':Hp}{Z Z':ar}{id:Nat}{h:Int}{k dk:Addr}{A:Nat->Addr}{B κ':Kp}{P:Role->Prop}
theorem xi.fr (hP:∀f,¬P (id,.kp h f))(f:Fr P Z H Z' H')(K:xi t H Z id h k A dk B):xi t H' Z' id h k A dk B:=by
 obtain⟨e1,r1⟩:=f _ _ K.ob λr hr=>by rw[K.r0]at hr;cases hr;exact hP 0
 refine⟨e1,r1.trans K.r0,λi h1 h7=>?_⟩;obtain⟨ri,u,hu,q⟩:=K.fl i h1 h7;obtain⟨e2,r2⟩:=f _ _ hu λr hr=>by rw[ri]at hr;cases hr;exact hP i
 exact⟨r2.trans ri,u,e2,q.fr f⟩
theorem xi.put (K:xi t H Z id h k A dk B){f0:Nat}(h1:1<=f0)(h7:f0<=7){u0:HO}(q0:eL (upd H (A f0) u0) Z κ' f0 u0)(hs:∀f u,f≠f0->eL H Z B f u->eL H Z κ' f u):xi t (upd H (A f0) u0) Z id h k A dk κ'/\Fr (bu id h) Z H Z (upd H (A f0) u0):=by
 obtain⟨r0,_⟩:=K.fl f0 h1 h7;have fr:Fr (bu id h) Z H Z (upd H (A f0) u0):=Fr.put r0 ⟨f0,rfl⟩;refine⟨⟨?_,K.r0,λf a b=>?_⟩,fr⟩
 .rw[jf (fF K.r0 r0 (by intro z;cases z;lia))];exact K.ob
 .obtain⟨rf,u,hu,q⟩:=K.fl f a b;by_cases z:f=f0
  .subst z;exact⟨rf,_,jc,q0⟩
  .refine⟨rf,u,?_,(hs f u z q).fr fr⟩;rw[jf (fF rf r0 (by intro y;cases y;exact z rfl))];exact hu
end
theorem xj (A:Nat->Addr):(eK A).lookup ("held":Str)=some (.ref (A 1))/\(eK A).lookup ("next_numbers":Str)=some (.ref (A 2))/\(eK A).lookup ("done":Str)=some (.ref (A 3))/\(eK A).lookup ("heard":Str)=some (.ref (A 4))/\(eK A).lookup ("unvoted":Str)=some (.ref (A 5))/\(eK A).lookup ("choices":Str)=some (.ref (A 6))/\(eK A).lookup ("waiting":Str)=some (.ref (A 7)):=by unfold eK kf jO;refine⟨?_,?_,?_,?_,?_,?_,?_⟩<;>repeat(first|rw[jm,if_pos rfl]|rw[jm,if_neg (by decide+kernel)])
theorem fW (A:Nat->Addr){m:Str}(h:autoParam (¬m="waiting"/\¬m="choices"/\¬m="unvoted"/\¬m="heard"/\¬m="done"/\¬m="next_numbers"/\¬m="held") aP4):(eK A).lookup m=none:=by obtain⟨h1,h2,h3,h4,h5,h6,h7⟩:=h;unfold eK kf jO;rw[jm,if_neg h1,jm,if_neg h2,jm,if_neg h3,jm,if_neg h4,jm,if_neg h5,jm,if_neg h6,jm,if_neg h7];rfl
theorem xi.he {t:Ad}{H:Hp}{Z:ar}{id:Nat}{h:Int}{k dk:Addr}{A:Nat->Addr}{B:Kp}(K:xi t H Z id h k A dk B):H (A 1)=some (.lst (B.held.map V.int)):=by obtain⟨_,u,hu,q⟩:=K.fl 1 (by decide) (by decide);rw[hu,show u=_ from q]
theorem xi.nn {t:Ad}{H:Hp}{Z:ar}{id:Nat}{h:Int}{k dk:Addr}{A:Nat->Addr}{B:Kp}(K:xi t H Z id h k A dk B):H (A 2)=some (.lst (B.cu.map V.int)):=by obtain⟨_,u,hu,q⟩:=K.fl 2 (by decide) (by decide);rw[hu,show u=_ from q]
theorem xi.dn {t:Ad}{H:Hp}{Z:ar}{id:Nat}{h:Int}{k dk:Addr}{A:Nat->Addr}{B:Kp}(K:xi t H Z id h k A dk B):∃xs,H (A 3)=some (.lst xs)/\Paired (zu H Z) xs B.done:=by obtain⟨_,u,hu,xs,rfl,q⟩:=K.fl 3 (by decide) (by decide);exact⟨xs,hu,q⟩
theorem xi.hd {t:Ad}{H:Hp}{Z:ar}{id:Nat}{h:Int}{k dk:Addr}{A:Nat->Addr}{B:Kp}(K:xi t H Z id h k A dk B):∃aa,H (A 4)=some (.dT aa)/\aa.map (·.1)=B.dQ.map cP:=by obtain⟨_,u,hu,xs,rfl,q⟩:=K.fl 4 (by decide) (by decide);exact⟨xs,hu,q⟩
theorem xi.un {t:Ad}{H:Hp}{Z:ar}{id:Nat}{h:Int}{k dk:Addr}{A:Nat->Addr}{B:Kp}(K:xi t H Z id h k A dk B):∃xs,H (A 5)=some (.lst xs)/\Paired (zu H Z) xs B.aQ:=by obtain⟨_,u,hu,xs,rfl,q⟩:=K.fl 5 (by decide) (by decide);exact⟨xs,hu,q⟩
theorem xi.cs {t:Ad}{H:Hp}{Z:ar}{id:Nat}{h:Int}{k dk:Addr}{A:Nat->Addr}{B:Kp}(K:xi t H Z id h k A dk B):∃aa,H (A 6)=some (.dT aa)/\Paired (λkv (c:(Int×Int)×O)=>kv.1=[.inl c.1.1,.inl c.1.2]/\zu H Z kv.2 c.2) aa B.cho:=by obtain⟨_,u,hu,xs,rfl,q⟩:=K.fl 6 (by decide) (by decide);exact⟨xs,hu,q⟩
theorem xi.wt {t:Ad}{H:Hp}{Z:ar}{id:Nat}{h:Int}{k dk:Addr}{A:Nat->Addr}{B:Kp}(K:xi t H Z id h k A dk B):∃xs,H (A 7)=some (.lst xs)/\Paired (zu H Z) xs B.wait:=by obtain⟨_,u,hu,xs,rfl,q⟩:=K.fl 7 (by decide) (by decide);exact⟨xs,hu,q⟩
theorem vZ {n:Nat}{o:O}{xs:List Int}(h:yy n o=true)(l:xs.length=n):xs[o.p.toNat]?=some (gI xs o.p)/\0<=o.p/\o.p<n:=by obtain⟨a1,a2,_⟩:=uh.mp h;exact⟨Hr a1 (by lia),a1,by lia⟩
theorem Ht (T:Txt K mg t):xl P w K mg base CX0 1 t.AQ t.Fh ["self","order"] (λvs H Q _=>∃Z id h k A dk B n q o,vs=[.ref k,.ref q]/\xi t H Z id h k A dk B/\H q=some (.tup (cz o))/\yy (n:Nat) o=true/\B.cu.length=n/\Q (.bl (B.past o)) H):=by refine T.YT.bj (N:=["self","order"]) λ_ A _ s H vs Q E hr h=>?_;obtain⟨Z,id,h,k,A',dk,B,n,q,o,rfl,R,hq,ho,l,g⟩:=h;refine⟨_,(@jg _ _ _ (j6 (lM qQ (cC kJ (pv 1) jq (λ_ _=>rfl)) (cC uw (qd (pv 0) rfl) (cC kJ (pv 1) jq (λ_ _=>rfl)) (λ_ _=>rfl)) (qi _)))),?_⟩;obtain⟨e,p0,_⟩:=vZ ho l;refine⟨_,rfl,q,cz o,1,.int o.n,rfl,rfl,aA.of hq,rfl,_,rfl,k,_,dk,_,_,rfl,R.ob,T.jt,T.zf,(xj A').2.1,_,rfl,q,cz o,0,.int o.p,rfl,rfl,aA.of hq,rfl,A' 2,_,o.p,.int (gI B.cu o.p),rfl,rfl,ah.of R.nn,mi p0 (by rw[getElem?_map,e];rfl),_,_,rfl,rfl,g⟩
theorem Om (T:Txt K mg t):xl P w K mg base CX0 1 t.AR t.Fi ["self","order"] (λvs H Q _=>∃Z id h k A dk B n q o,vs=[.ref k,.ref q]/\xi t H Z id h k A dk B/\H q=some (.tup (cz o))/\yy (n:Nat) o=true/\B.cu.length=n/\B.held.length=n/\Q (.bl (B.gN o)) H):=by
 refine T.YU.cL gr λ_ A _ s H vs Q E hr h=>?_;obtain⟨Z,id,h,k,A',dk,B,n,q,o,rfl,R,hq,ho,l,l2,g⟩:=h;refine⟨_,(@jd _ _ _ _ _ (lH (pv 1) (lG rfl (jy (jr (i:=2) gr.nd rfl (Or.inl rfl)) (jy (jr (i:=3) gr.nd rfl (Or.inl rfl)) (jy (jr (i:=4) gr.nd rfl (Or.inl rfl)) (jy (jr (i:=5) gr.nd rfl (Or.inl rfl)) kE)))))) (@jg _ _ _ (j6 (lF (lM gD (pv 3) (cC uw (qd (pv 0) rfl) (pv 2) (λ_ _=>rfl)) (qi _)) (mT (lM yR (pv 5) (cC uw (qd (pv 0) rfl) (pv 2) (λ_ _=>rfl)) (qi _))))))),?_⟩;obtain⟨e,p0,_⟩:=vZ ho l;obtain⟨e2,_,_⟩:=vZ ho l2;refine⟨_,rfl,q,_,rfl,aA.of hq,rfl,_,_,rfl,_,_,rfl,_,_,rfl,_,_,rfl,rfl,?_⟩;refine⟨_,rfl,_,rfl,k,_,dk,_,_,rfl,R.ob,T.jt,T.zf,(xj A').2.1,_,rfl,A' 2,_,o.p,.int (gI B.cu o.p),rfl,rfl,ah.of R.nn,mi p0 (by rw[getElem?_map,e];rfl),rfl,_,rfl,?_⟩;unfold Kp.gN at g;refine bp (λz=>?_) (λz=>?_)
 .refine⟨_,rfl,_,rfl,k,_,dk,_,_,rfl,R.ob,T.jt,T.yw,(xj A').1,_,rfl,A' 1,_,o.p,.int (gI B.held o.p),rfl,rfl,ah.of R.he,mi p0 (by rw[getElem?_map,e2];rfl),_,_,rfl,rfl,?_⟩;rw[decide_eq_true (V.int.inj (of_decide_eq_true z)),Bool.true_and]at g;exact g
 .rw[decide_eq_false (λy=>z (by rw[y];exact decide_eq_true rfl)),Bool.false_and]at g;exact g
theorem jqt (T:Txt K mg t):xl P w K mg base CX0 1 t.AS t.Fj ["self","order"] (λvs H Q _=>∃Z id h k A dk B n q o,vs=[.ref k,.ref q]/\xi t H Z id h k A dk B/\zu H Z (.ref q) o/\yy (n:Nat) o=true/\B.cu.length=n/\B.held.length=n/\B.done.length<=1000/\ay Z H/\∀H',xi t H' Z id h k A dk (B.settle o)->Fr (bu id h) Z H Z H'->ay Z H'->Q .aq H'):=by
 refine T.YV.cL gj λ_ A _ s H vs Q E hr h=>?_;obtain⟨Z,id,h,k,A',dk,B,n,q,o,rfl,R,uq,ho,l,l2,ld,kr,g⟩:=h;refine⟨_,(@jd _ _ _ _ _ (lH (pv 1) (lG rfl (jy (jr (i:=2) gj.nd rfl (Or.inl rfl)) (jy (jr (i:=3) gj.nd rfl (Or.inl rfl)) (jy (jr (i:=4) gj.nd rfl (Or.inl rfl)) (jy (jr (i:=5) gj.nd rfl (Or.inl rfl)) kE)))))) (@jd _ _ _ _ _ (CL (qd (pv 0) rfl) (pv 2) Dy (pv 5) Rk set_list) (@jd _ _ _ _ _ (CL (qd (pv 0) rfl) (pv 4) Dy (pv 5) J2 set_list) (@jd _ _ _ _ _ (CL (qd (pv 0) rfl) (pv 2) Dy jq J2 set_list) (@jg _ _ _ (qb (dZ PySem.F.plainAttrs_list PySem.F.slot_list_append PySem.F.type_list_append yg (qd (pv 0) rfl) (je (pv 1) ji)))))))),?_⟩;obtain⟨_,eq,nq,hq⟩:=uq;cases eq;obtain⟨e,p0,p1⟩:=vZ ho l;obtain⟨e2,_,_⟩:=vZ ho l2;refine⟨_,rfl,q,_,rfl,aA.of hq,rfl,_,_,rfl,_,_,rfl,_,_,rfl,_,_,rfl,rfl,?_⟩;obtain⟨g0,g1⟩:=(λa=>⟨a.2.2.1,a.2.2.2.1⟩:_->0<=o.g/\o.g<=(n:Int)-1) (uh.mp ho);refine⟨_,rfl,k,_,dk,_,_,rfl,R.ob,T.jt,T.yw,(xj A').1,_,rfl,A' 1,_,o.p,.int (gI B.held o.p),rfl,rfl,ah.of R.he,p0,(by rw[getElem?_map,e2];rfl),_,rfl,_,_,rfl,rfl,A' 1,_,o.p,_,rfl,rfl,R.he,vU p0 (by rw[length_map];omega),?_⟩;have m1:((B.held.map V.int).set o.p.toNat (.int (gI B.held o.p-o.m)))=(aH B.held o.p (-o.m)).map V.int:=by
  rw[aH,map_set];rfl
 dsimp only;rw[m1];obtain⟨R1,f1⟩:=R.put (κ':={B with held:=aH B.held o.p (-o.m)}) (f0:=1) (by decide) (by decide) (u0:=.lst ((aH B.held o.p (-o.m)).map V.int)) rfl (λf u hf q=>by unfold eL at q⊢;split at q<;>first|exact q|exact absurd rfl hf);have bN:=kr.put (a:=A' 1) (o:=.lst ((aH B.held o.p (-o.m)).map V.int));generalize upd H (A' 1) (.lst ((aH B.held o.p (-o.m)).map V.int))=H1 at R1 f1 bN;have l3:(aH B.held o.p (-o.m)).length=n:=(vY ..).trans l2;have e3:(aH B.held o.p (-o.m))[o.g.toNat]?=some (gI (aH B.held o.p (-o.m)) o.g):=Hr g0 (by omega);refine⟨_,rfl,k,_,dk,_,_,rfl,R1.ob,T.jt,T.yw,(xj A').1,_,rfl,A' 1,_,o.g,.int (gI (aH B.held o.p (-o.m)) o.g),rfl,rfl,ah.of R1.he,g0,(by rw[getElem?_map,e3];rfl),_,rfl,_,_,rfl,rfl,A' 1,_,o.g,_,rfl,rfl,R1.he,vU g0 (by rw[length_map];show o.g.toNat<(aH B.held o.p (-o.m)).length;omega),?_⟩;have m2:((aH B.held o.p (-o.m)).map V.int).set o.g.toNat (.int (gI (aH B.held o.p (-o.m)) o.g+o.m))=(aH (aH B.held o.p (-o.m)) o.g o.m).map V.int:=by rw[aH.eq_def (aH B.held o.p (-o.m)),map_set]
 dsimp only;rw[m2];obtain⟨R2,f2⟩:=R1.put (κ':={B with held:=aH (aH B.held o.p (-o.m)) o.g o.m}) (f0:=1) (by decide) (by decide) (u0:=.lst ((aH (aH B.held o.p (-o.m)) o.g o.m).map V.int)) rfl (λf u hf q=>by unfold eL at q⊢;split at q<;>first|exact q|exact absurd rfl hf);have bW:=bN.put (a:=A' 1) (o:=.lst ((aH (aH B.held o.p (-o.m)) o.g o.m).map V.int));generalize upd H1 (A' 1) (.lst ((aH (aH B.held o.p (-o.m)) o.g o.m).map V.int))=H2 at R2 f2 bW;refine⟨_,rfl,k,_,dk,_,_,rfl,R2.ob,T.jt,T.zf,(xj A').2.1,_,rfl,A' 2,_,o.p,.int (gI B.cu o.p),rfl,rfl,ah.of R2.nn,p0,(by rw[getElem?_map,e];rfl),_,_,rfl,rfl,A' 2,_,o.p,_,rfl,rfl,R2.nn,vU p0 (by rw[length_map];show o.p.toNat<B.cu.length;rw[l];omega),?_⟩;have m3:(B.cu.map V.int).set o.p.toNat (.int (gI B.cu o.p+1))=(aH B.cu o.p 1).map V.int:=by rw[aH,map_set]
 dsimp only;rw[m3];obtain⟨R3,f3⟩:=R2.put (κ':={B with held:=aH (aH B.held o.p (-o.m)) o.g o.m,cu:=aH B.cu o.p 1}) (f0:=2) (by decide) (by decide) (u0:=.lst ((aH B.cu o.p 1).map V.int)) rfl (λf u hf q=>by unfold eL at q⊢;split at q<;>first|exact q|exact absurd rfl hf);have iI:=bW.put (a:=A' 2) (o:=.lst ((aH B.cu o.p 1).map V.int));generalize upd H2 (A' 2) (.lst ((aH B.cu o.p 1).map V.int))=H3 at R3 f3 iI;obtain⟨xs,hx,px⟩:=R3.dn;have fr:=(f1.trans f2).trans f3;have uq3:zu H3 Z (.ref q) o:=zu.fr fr ⟨q,rfl,nq,hq⟩;have lx:xs.length<=1000:=by rw[Paired.length px];exact ld
 refine⟨_,rfl,k,_,dk,_,_,rfl,R3.ob,T.jt,T.N2,(xj A').2.2.1,.inl ⟨rfl,_,ah.of hx⟩,_,rfl,A' 3,xs,.ref q,rfl,rfl,hx,ze lx,?_⟩;obtain⟨r3,_⟩:=R3.fl 3 (by decide) (by decide);obtain⟨R4,f4⟩:=R3.put (κ':=B.settle o) (f0:=3) (by decide) (by decide) (u0:=.lst (xs++[.ref q])) ⟨_,rfl,qo (Paired.xt px λ_ _=>zu.fr (Fr.put (P:=bu id h) r3 ⟨3,rfl⟩)) (uq3.fr (Fr.put (P:=bu id h) r3 ⟨3,rfl⟩))⟩ (λf u hf q=>by unfold eL at q⊢;split at q<;>first|exact q|exact absurd rfl hf);exact g _ R4 (fr.trans f4) iI.put
theorem zu.ref {H:Hp}{Z:ar}{x:V}{o:O}(h:zu H Z x o):∃q,x= .ref q/\H q=some (.tup (cz o)):=let⟨q,e,_,h⟩:=h;⟨q,e,h⟩
theorem Oo (T:Txt K mg t):xl P w K mg base CX0 2 t.Fp t.uj ["self"] (λvs H Q _=>∃Z id h k A dk B n,vs=[.ref k]/\xi t H Z id h k A dk B/\B.Ok n/\∀v,((B.first=none/\v= .aq)\/∃o,B.first=some o/\zu H Z v o)->Q v H):=by
 refine T.Y6.cL Nd λ_ A _ s H vs Q E hr h=>?_;obtain⟨Z,id,h,k,A',dk,B,n,rfl,R,ag,g⟩:=h;refine⟨_,(@jd _ _ _ _ _ (ij PassesOwn.never rfl (@gh _ _ _ _ (qd (pv 0) rfl)) (jr (i:=1) Nd.nd rfl (Or.inl rfl)) (@jg _ _ _ (zk (zl (qj (pv 0) T.jt T.N4 (Om T) hr.dn T.NC .nil ju (je (pv 1) ji))) (@jg _ _ _ (j6 (pv 1))) qe))) (@jg _ _ _ (j6 iR))),?_⟩;obtain⟨xs,hx,px⟩:=R.wt;refine⟨_,rfl,k,_,dk,_,_,rfl,R.ob,T.jt,T.xa,(xj A').2.2.2.2.2.2,A' 7,rfl,⟨_,ah.of hx⟩,yM (K:=K) (a:=A' 7) (xs:=xs) (λi U H'=>∃v,U=[some (.ref k),v]/\H'=H/\(B.wait.take i).find? B.gN=none) ⟨none,rfl,rfl,rfl⟩ (λi U H' _ ⟨_,_,e,_⟩=>ah.of (by rw[e];exact hx)) ?_ ?_⟩
 .rintro i x U H' ex ⟨v,rfl,rfl,hf⟩
  obtain⟨o,eo,uo⟩:=j7 px ex;obtain⟨q,rfl,hq⟩:=uo.ref;have om:o∈B.wait:=mem_of_getElem? eo;refine⟨_,rfl,k,dk,_,rfl,R.ob,fW A',_,rfl,Z,id,h,k,A',dk,B,n,q,o,rfl,R,hq,ag.w o om,ag.x,ag.h,_,rfl,?_⟩;cases hd:B.gN o with
  |true=>
   refine bT ⟨_,rfl,g _ (.inr ⟨o,?_,uo⟩)⟩;have:(B.wait.take (i+1)).find? B.gN=some o:=by rw[take_snoc eo,List.find?_append,hf,find?_cons,hd];rfl
   unfold Kp.first;rw[<-List.take_append_drop (i+1) B.wait,List.find?_append,this];rfl
  |false=>refine ka ⟨_,rfl,rfl,?_⟩;rw[take_snoc eo,List.find?_append,hf,find?_cons,hd];rfl
 .rintro U H' ⟨v,rfl,rfl,hf⟩
  refine g _ (.inl ⟨?_,rfl⟩);rw[Paired.length px,take_length]at hf;exact hf
theorem Fr.Hu {P:Role->Prop}{Z:ar}{H:Hp}{a:Addr}{r r':Role}(h:Z a=some r)(p:P r):Fr P Z H (aO Z a r') H:=λb u e n=>by have:b≠a:=λz=>n r (z ▸ h) p;exact⟨e,xk this⟩
theorem ay.Hu {Z:ar}{H:Hp}{a:Addr}{r r':Role}(h:Z a=some r)(k:ay Z H):ay (aO Z a r') H:=λb r'' hb=>by
 by_cases z:b=a
 .subst z;exact k _ _ h
 .rw[xk z]at hb;exact k _ _ hb
theorem j4t {H:Hp}{Z:ar}{o:O}:∀{aa:List (List Key×V)}{c:List ((Int×Int)×O)},Paired (λkv (c:(Int×Int)×O)=>kv.1=[.inl c.1.1,.inl c.1.2]/\zu H Z kv.2 c.2) aa c->(aX aa [.inl o.p,.inl o.n]).isSome=kR c o:=λ{aa c} q=>by
 induction q with
 |nil=>rfl
 |@cons kv c aa cs a r ih=>
  obtain⟨e,_⟩:=a;unfold kR at ih⊢;rw[any_cons];by_cases z:c.1=(o.p,o.n)
  .rw[w6 (show kv.1=_ by rw[e,z]),decide_eq_true z];rfl
  .rw[wg (λy=>z ?_),ih,decide_eq_false z,Bool.false_or];rw[e]at y;have y1:=(List.cons.inj y).1;have y2:=(List.cons.inj (List.cons.inj y).2).1;exact Prod.ext (Sum.inl.inj y1) (Sum.inl.inj y2)
theorem qbf {n:Nat}{o:O}(h:yy n o=true)(l:n<=8):yy 8 o=true:=by rw[uh]at h⊢;lia
theorem j58 (B:Kp){os:List O}{i:Nat}{o:O}(e:os[i]?=some o)(a:Gv):gv B (os.take (i+1)) a=df B o (gv B (os.take i) a):=by unfold gv;rw[take_snoc e,foldl_append];rfl
theorem j4n (B:Kp)(o:O)(a:Gv):(df B o a).1.length<=a.1.length+1/\(df B o a).2.1.length<=a.2.1.length+1/\(df B o a).2.2.length<=a.2.2.length+1:=by
 unfold df;split
 .simp
 .split
  .simp
  .simp
theorem Hv (B:Kp):∀(os:List O)(a:Gv),(gv B os a).1.length<=a.1.length+os.length/\(gv B os a).2.1.length<=a.2.1.length+os.length/\(gv B os a).2.2.length<=a.2.2.length+os.length
 |[],a=>by simp[gv]
 |o::os,a=>by have h1:=Hv B os (df B o a);have h2:=j4n B o a;unfold gv at h1⊢;rw[foldl_cons,length_cons];lia
structure hJ (t:Ad)(Z:ar)(id:Nat)(h:Int)(k:Addr)(A:Nat->Addr)(dk:Addr)(B:Kp)(Vt Lt:Addr)(xs:List V)(H0:Hp)(a:Gv)(H:Hp):Prop where
 fr:Fr (bu id h) Z H0 Z H
 kr:ay Z H
 R:xi t H Z id h k A dk {B with cho:=a.1}
 hv:∃vs,H Vt=some (.lst vs)/\Paired (zu H Z) vs a.2.1
 hl:∃ls,H Lt=some (.lst ls)/\Paired (zu H Z) ls a.2.2
 hx:H (A 5)=some (.lst xs)
 px:Paired (zu H Z) xs B.aQ
theorem hJ.same {t:Ad}{Z:ar}{id:Nat}{h:Int}{k:Addr}{A:Nat->Addr}{dk:Addr}{B:Kp}{Vt Lt:Addr}{xs:List V}{H0 H H':Hp}{a:Gv}(s:yi H H')(J:hJ t Z id h k A dk B Vt Lt xs H0 a H):hJ t Z id h k A dk B Vt Lt xs H0 a H':=by have f:Fr (λ_=>False) Z H Z H':=Fr.same s;obtain⟨vs,v1,v2⟩:=J.hv;obtain⟨ls,l1,l2⟩:=J.hl;exact⟨J.fr.trans (Fr.same s),J.kr.same s,J.R.fr (λ_ z=>z) f,⟨vs,s _ _ v1,Paired.xt v2 λ_ _=>zu.fr f⟩,⟨ls,s _ _ l1,Paired.xt l2 λ_ _=>zu.fr f⟩,s _ _ J.hx,Paired.xt J.px λ_ _=>zu.fr f⟩
theorem hJ.putL {t:Ad}{Z:ar}{id:Nat}{h:Int}{k:Addr}{A:Nat->Addr}{dk:Addr}{B:Kp}{Vt Lt:Addr}{xs ls rH:List V}{H0 H:Hp}{a:Gv}{later:List O}(J:hJ t Z id h k A dk B Vt Lt xs H0 a H)(hl:H Lt=some (.lst ls))(rL:Z Lt=some (id,.kp h 9))(rV:Z Vt=some (id,.kp h 8))(LV:Lt≠Vt)(fL:Fr (bu id h) Z H Z (upd H Lt (.lst rH)))(pl:Paired (zu (upd H Lt (.lst rH)) Z) rH later):hJ t Z id h k A dk B Vt Lt xs H0 (a.1,a.2.1,later) (upd H Lt (.lst rH)):=by
 have f9:Fr (λr=>r=(id,.kp h 9)) Z H Z (upd H Lt (.lst rH)):=Fr.put rL rfl;obtain⟨vs,v1,v2⟩:=J.hv;have nf:∀{f:Nat},f<=7->∀{b:Addr},Z b=some (id,.kp h f)->b≠Lt:=λ{f} hf {b} hb=>fF hb rL (by intro z;cases z;lia);refine⟨J.fr.trans fL,J.kr.put,⟨?_,J.R.r0,λf a1 b1=>?_⟩,⟨vs,?_,Paired.xt v2 λ_ _=>zu.fr fL⟩,⟨rH,jc,pl⟩,?_,Paired.xt J.px λ_ _=>zu.fr fL⟩
 .rw[jf (nf (by decide) J.R.r0)];exact J.R.ob
 .obtain⟨rf,u,hu,q⟩:=J.R.fl f a1 b1;exact⟨rf,u,by rw[jf (nf b1 rf)];exact hu,q.fr fL⟩
 .rw[jf LV.symm];exact v1
 .rw[jf (nf (by decide) (J.R.fl 5 (by decide) (by decide)).1)];exact J.hx
theorem hJ.qbs {t:Ad}{Z:ar}{id:Nat}{h:Int}{k:Addr}{A:Nat->Addr}{dk:Addr}{B:Kp}{Vt Lt:Addr}{xs bH:List V}{H0 H:Hp}{a:Gv}{zb:List O}(J:hJ t Z id h k A dk B Vt Lt xs H0 a H)(rV:Z Vt=some (id,.kp h 8))(LV:Lt≠Vt)(fL:Fr (bu id h) Z H Z (upd H Vt (.lst bH)))(pv:Paired (zu (upd H Vt (.lst bH)) Z) bH zb):hJ t Z id h k A dk B Vt Lt xs H0 (a.1,zb,a.2.2) (upd H Vt (.lst bH)):=by
 obtain⟨ls,l1,l2⟩:=J.hl;have nf:∀{f:Nat},f<=7->∀{b:Addr},Z b=some (id,.kp h f)->b≠Vt:=λ{f} hf {b} hb=>fF hb rV (by intro z;cases z;lia);refine⟨J.fr.trans fL,J.kr.put,⟨?_,J.R.r0,λf a1 b1=>?_⟩,⟨bH,jc,pv⟩,⟨ls,?_,Paired.xt l2 λ_ _=>zu.fr fL⟩,?_,Paired.xt J.px λ_ _=>zu.fr fL⟩
 .rw[jf (nf (by decide) J.R.r0)];exact J.R.ob
 .obtain⟨rf,u,hu,q⟩:=J.R.fl f a1 b1;exact⟨rf,u,by rw[jf (nf b1 rf)];exact hu,q.fr fL⟩
 .rw[jf LV];exact l1
 .rw[jf (nf (by decide) (J.R.fl 5 (by decide) (by decide)).1)];exact J.hx
theorem hJ.qbd {t:Ad}{Z:ar}{id:Nat}{h:Int}{k:Addr}{A:Nat->Addr}{dk:Addr}{B:Kp}{Vt Lt:Addr}{xs:List V}{H0 H:Hp}{a:Gv}{cho:List ((Int×Int)×O)}{aa:List (List Key×V)}(J:hJ t Z id h k A dk B Vt Lt xs H0 a H)(rL:Z Lt=some (id,.kp h 9))(rV:Z Vt=some (id,.kp h 8))(pc:Paired (λkv (c:(Int×Int)×O)=>kv.1=[.inl c.1.1,.inl c.1.2]/\zu (upd H (A 6) (.dT aa)) Z kv.2 c.2) aa cho):hJ t Z id h k A dk B Vt Lt xs H0 (cho,a.2.1,a.2.2) (upd H (A 6) (.dT aa)):=by
 obtain⟨R,fL⟩:=J.R.put (κ':={B with cho:=cho}) (f0:=6) (by decide) (by decide) (u0:=.dT aa) ⟨aa,rfl,pc⟩ (λf u hf q=>by unfold eL at q⊢;split at q<;>first|exact q|exact absurd rfl hf);obtain⟨vs,v1,v2⟩:=J.hv;obtain⟨ls,l1,l2⟩:=J.hl;have r6:=(J.R.fl 6 (by decide) (by decide)).1;refine⟨J.fr.trans fL,J.kr.put,R,⟨vs,?_,Paired.xt v2 λ_ _=>zu.fr fL⟩,⟨ls,?_,Paired.xt l2 λ_ _=>zu.fr fL⟩,?_,Paired.xt J.px λ_ _=>zu.fr fL⟩
 .rw[jf (fF rV r6 (by intro z;cases z))];exact v1
 .rw[jf (fF rL r6 (by intro z;cases z))];exact l1
 .rw[jf (fF (J.R.fl 5 (by decide) (by decide)).1 r6 (by intro z;cases z))];exact J.hx
theorem j7l (A:Nat->Addr)(p:Addr):uf "unvoted" (.ref p) (eK A)=eK (λf=>if f=5 then p else A f):=by unfold eK kf jO;rfl
theorem Oq (T:Txt K mg t):xl P w K mg base CX0 5 t.kl t.ua ["self"] (λvs H Q _=>∃Z id h k A dk B n,vs=[.ref k]/\xi t H Z id h k A dk B/\B.Ok n/\n<=8/\B.aQ.length+B.cho.length<=1000/\ay Z H/\∀Z' H' A' r xs,xi t H' Z' id h k A' dk B.zb.1->Fr (bu id h) Z H Z' H'->ay Z' H'->Z' r=some (id,.kp h 8)->H' r=some (.lst xs)->Paired (zu H' Z') xs B.zb.2->Q (.ref r) H'):=by
 refine T.Y5.cL xw λ_ A _ s H vs Q E hr h=>?_;obtain⟨Z,id,h,k,A',dk,B,n,rfl,R,ag,n8,ll,kr,g⟩:=h;refine⟨_,(@jd _ _ _ _ _ (@j9 _ _ 1 _ _ _ _ xw.nd rfl (Or.inl rfl) (@zh _ _ _ _ ji) (by rfl) (by first|exact .inl rfl|exact .inr rfl)) (@jd _ _ _ _ _ (@j9 _ _ 2 _ _ _ _ xw.nd rfl (Or.inl rfl) (@zh _ _ _ _ ji) (by rfl) (by first|exact .inl rfl|exact .inr rfl)) (@jd _ _ _ _ _ (ij PassesOwn.never rfl (@gh _ _ _ _ (qd (pv 0) rfl)) (jr (i:=3) xw.nd rfl (Or.inl rfl)) (@jg _ _ _ (zk (PW.pt (lE (zl (qj (pv 0) T.jt T.N4 (Om T) hr.dn T.NC .nil ju (je (pv 3) ji))) (mS (yG (Di (gU hr) (jn (Hj T) hr.dn rfl T.GP T.AX.kp T.GQ .nil ju (je (pv 3) ji)) (qd (pv 0) rfl)))))) (@jd _ _ _ _ _ (K7 (gU hr) (qd (pv 0) rfl) (jn (Hj T) hr.dn rfl T.GP T.AX.kp T.GQ .nil ju (je (pv 3) ji)) (pv 3) rfl) (@jg _ _ _ (qb (dZ PySem.F.plainAttrs_list PySem.F.slot_list_append PySem.F.type_list_append yg (pv 1) (je (pv 3) ji))))) (@jg _ _ _ (zk (PW.pt (lE (xu (zl (qj (pv 0) T.jt T.wm (Ht T) hr.dn T.GS .nil ju (je (pv 3) ji)))) (mS (yG (Di (gU hr) (jn (Hj T) hr.dn rfl T.GP T.AX.kp T.GQ .nil ju (je (pv 3) ji)) (qd (pv 0) rfl)))))) (@jg _ _ _ (qb (dZ PySem.F.plainAttrs_list PySem.F.slot_list_append PySem.F.type_list_append yg (pv 2) (je (pv 3) ji)))) qe))))) (@jd _ _ _ _ _ (eI (pv 0) (pv 2) rfl) (@jg _ _ _ (j6 (pv 1))))))),?_⟩;refine⟨cG,λVt nV=>⟨cG,λLt nL=>?_⟩⟩;have kf0:∀f,bu id h (id,.kp h f):=λf=>⟨f,rfl⟩;have f1:Fr (bu id h) Z H (aO Z Vt (id,.kp h 8)) (upd H Vt (.lst [])):=Fr.cI nV;have bN:ay (aO Z Vt (id,.kp h 8)) (upd H Vt (.lst [])):=kr.cI;have f2:Fr (bu id h) (aO Z Vt (id,.kp h 8)) (upd H Vt (.lst [])) (aO (aO Z Vt (id,.kp h 8)) Lt (id,.kp h 9)) (upd (upd H Vt (.lst [])) Lt (.lst [])):=Fr.cI nL;have bW:ay (aO (aO Z Vt (id,.kp h 8)) Lt (id,.kp h 9)) (upd (upd H Vt (.lst [])) Lt (.lst [])):=bN.cI;generalize eZ:aO (aO Z Vt (id,.kp h 8)) Lt (id,.kp h 9)=Z2 at f2 bW;have eB:=f1.trans f2;have LV:Lt≠Vt:=λz=>by
  rw[z,jc]at nL;cases nL
 have rV:Z2 Vt=some (id,.kp h 8):=by rw[<-eZ,xk LV.symm,zr]
 have rL:Z2 Lt=some (id,.kp h 9):=by rw[<-eZ,zr]
 have Ot:upd (upd H Vt (.lst [])) Lt (.lst []) Vt=some (.lst []):=by rw[jf LV.symm,jc]
 have Ou:upd (upd H Vt (.lst [])) Lt (.lst []) Lt=some (.lst []):=jc;have R2:xi t (upd (upd H Vt (.lst [])) Lt (.lst [])) Z2 id h k A' dk B:=by
  have s2:=(jh (o:=.lst []) nV).trans (jh (o:=.lst []) nL);have A1:∀{a:Addr}{u:HO},H a=some u->Z2 a=Z a:=λ{a u} e=>by rw[<-eZ,xk (jj ((jh (o:=.lst []) nV) _ _ e) nL),xk (jj e nV)]
  refine⟨s2 _ _ R.ob,(A1 R.ob).trans R.r0,λf a b=>?_⟩;obtain⟨rf,u,hu,q⟩:=R.fl f a b;exact⟨(A1 hu).trans rf,u,s2 _ _ hu,q.fr eB⟩
 generalize upd (upd H Vt (.lst [])) Lt (.lst [])=H2 at eB bW R2 Ot Ou;obtain⟨xs,hx,px⟩:=R2.un;have lx:xs.length=B.aQ.length:=Paired.length px;clear f1 f2 bN nV nL R;refine⟨_,rfl,k,_,dk,_,_,rfl,R2.ob,T.jt,T.yf,(xj A').2.2.2.2.1,A' 5,rfl,⟨_,ah.of hx⟩,yM (K:=K) (a:=A' 5) (xs:=xs) (λi U H'=>∃v,U=[some (.ref k),some (.ref Vt),some (.ref Lt),v]/\hJ t Z2 id h k A' dk B Vt Lt xs H2 (gv B (B.aQ.take i) (B.cho,[],[])) H') ⟨none,rfl,Fr.refl,bW,R2,⟨_,Ot,.nil⟩,⟨_,Ou,.nil⟩,hx,px⟩ (λi U H' _ ⟨_,_,J⟩=>ah.of J.hx) ?_ ?_⟩
 .rintro i x U H3 ex ⟨v,rfl,J⟩
  obtain⟨o,eo,uo⟩:=j7 J.px ex;have gl:=Hv B (B.aQ.take i) (B.cho,[],[]);have li:(B.aQ.take i).length<=B.aQ.length:=by rw[length_take];omega
  rw[j58 B eo];generalize gv B (B.aQ.take i) (B.cho,[],[])=a at J gl⊢;obtain⟨q,rfl,hq⟩:=uo.ref;have om:o∈B.aQ:=mem_of_getElem? eo;have ho:=ag.u o om;have A3:=qbf ho n8;obtain⟨aa,hk,pk⟩:=J.R.cs;have ck:=j4t (o:=o) pk;refine⟨_,rfl,k,dk,_,rfl,J.R.ob,fW A',_,rfl,Z2,id,h,k,A',dk,_,n,q,o,rfl,J.R,hq,ho,ag.x,ag.h,_,rfl,?_⟩;show(if B.gN o=true then _ else _);have Js:yi H3 H3:=yi.refl _;cases hd:B.gN o with
  | false=>
   refine ka ?_;have no:¬(B.gN o&&!kR a.1 o)=true:=by simp[hd]
   refine⟨_,rfl,k,dk,_,rfl,J.R.ob,fW A',_,rfl,Z2,id,h,k,A',dk,_,n,q,o,rfl,J.R,hq,ho,ag.x,_,rfl,?_⟩;show(if(!B.past o)=true then _ else _);cases hp:B.past o with
   |true=>refine ka ⟨_,rfl,?_⟩;rw[df,if_neg no,if_neg (by simp[hp])];exact J
   | false=>
    refine bT ⟨_,rfl,q,o,rfl,hq,A3,λp np=>?_⟩;have sp:=jh (o:=.tup [.int o.p,.int o.n]) np;have Jp:=J.same sp;refine⟨_,rfl,k,_,dk,_,_,rfl,Jp.R.ob,T.jt,T.qt,(xj A').2.2.2.2.2.1,A' 6,aX aa [.inl o.p,.inl o.n],rfl,.inr ⟨aa,[.inl o.p,.inl o.n],p,.inl (sp _ _ hk),rfl,jc,rfl⟩,_,rfl,?_⟩;rw[ck];cases hc:kR a.1 o with
    |true=>refine ka ⟨_,rfl,?_⟩;rw[df,if_neg no,if_neg (by rw[hc,Bool.not_true,Bool.and_false];decide)];exact Jp
    |false=>
     obtain⟨ls,hl,pl⟩:=Jp.hl;have Hw:ls.length<=1000:=by rw[Paired.length pl];have:=gl.2.2;simp at this;omega
     refine bT ⟨_,rfl,.inl ⟨rfl,_,ah.of hl⟩,_,rfl,Lt,ls,.ref q,rfl,rfl,hl,ze Hw,⟨_,rfl,?_⟩⟩;rw[df,if_neg no,if_pos (by rw[hp,hc];rfl)];have fL:Fr (bu id h) Z2 (upd H3 p (.tup [.int o.p,.int o.n])) Z2 (upd (upd H3 p (.tup [.int o.p,.int o.n])) Lt (.lst (ls++[.ref q]))):=Fr.put rL ⟨9,rfl⟩;have uq:=(uo.fr (Fr.same (P:=λ_=>False) ((Js).trans sp))).fr fL;exact Jp.putL hl rL rV LV fL (qo (Paired.xt pl λ_ _=>zu.fr fL) uq)
  | true=>
   refine bT ⟨_,rfl,q,o,rfl,hq,A3,λp0 mv=>?_⟩;have rJ:=jh (o:=.tup [.int o.p,.int o.n]) mv;have J0:=J.same rJ;have wA:=rJ;have wB:=rJ _ _ hk;have pM:=rJ _ _ hq;refine⟨_,rfl,k,_,dk,_,_,rfl,J0.R.ob,T.jt,T.qt,(xj A').2.2.2.2.2.1,A' 6,aX aa [.inl o.p,.inl o.n],rfl,.inr ⟨aa,[.inl o.p,.inl o.n],p0,.inl wB,rfl,jc,rfl⟩,_,rfl,?_⟩;rw[ck];cases Hx:kR a.1 o with
   | true=>
    refine ka ?_;have no:¬(B.gN o&&!kR a.1 o)=true:=by rw[Hx,Bool.not_true,Bool.and_false];decide
    generalize upd H3 p0 (.tup [.int o.p,.int o.n])=H4 at rJ J0 wA wB pM;refine⟨_,rfl,k,dk,_,rfl,J0.R.ob,fW A',_,rfl,Z2,id,h,k,A',dk,_,n,q,o,rfl,J0.R,pM,ho,ag.x,_,rfl,?_⟩;show(if(!B.past o)=true then _ else _);cases hp:B.past o with
    |true=>refine ka ⟨_,rfl,?_⟩;rw[df,if_neg no,if_neg (by simp[hp])];exact J0
    | false=>
     refine bT ⟨_,rfl,q,o,rfl,pM,A3,λp np=>?_⟩;have sp:=jh (o:=.tup [.int o.p,.int o.n]) np;have Jp:=J0.same sp;refine⟨_,rfl,k,_,dk,_,_,rfl,Jp.R.ob,T.jt,T.qt,(xj A').2.2.2.2.2.1,A' 6,aX aa [.inl o.p,.inl o.n],rfl,.inr ⟨aa,[.inl o.p,.inl o.n],p,.inl (sp _ _ wB),rfl,jc,rfl⟩,_,rfl,?_⟩;rw[ck];cases hc:kR a.1 o with
     |true=>refine ka ⟨_,rfl,?_⟩;rw[df,if_neg no,if_neg (by rw[hc,Bool.not_true,Bool.and_false];decide)];exact Jp
     |false=>
      obtain⟨ls,hl,pl⟩:=Jp.hl;have Hw:ls.length<=1000:=by rw[Paired.length pl];have:=gl.2.2;simp at this;omega
      refine bT ⟨_,rfl,.inl ⟨rfl,_,ah.of hl⟩,_,rfl,Lt,ls,.ref q,rfl,rfl,hl,ze Hw,⟨_,rfl,?_⟩⟩;rw[df,if_neg no,if_pos (by rw[hp,hc];rfl)];have fL:Fr (bu id h) Z2 (upd H4 p (.tup [.int o.p,.int o.n])) Z2 (upd (upd H4 p (.tup [.int o.p,.int o.n])) Lt (.lst (ls++[.ref q]))):=Fr.put rL ⟨9,rfl⟩;have uq:=(uo.fr (Fr.same (P:=λ_=>False) ((wA).trans sp))).fr fL;exact Jp.putL hl rL rV LV fL (qo (Paired.xt pl λ_ _=>zu.fr fL) uq)
   | false=>
    refine bT ?_;generalize upd H3 p0 (.tup [.int o.p,.int o.n])=H4 at rJ J0 wA wB pM;refine⟨_,rfl,_,rfl,k,_,dk,_,_,rfl,J0.R.ob,T.jt,T.qt,(xj A').2.2.2.2.2.1,_,rfl,q,o,rfl,pM,A3,λp np=>?_⟩;have sp:=jh (o:=.tup [.int o.p,.int o.n]) np;have Jp:=J0.same sp;have lk:aa.length<=1000:=by rw[Paired.length pk];have:=gl.1;show a.1.length<=1000;simp at this;omega
    have nk:aX aa [.inl o.p,.inl o.n]=none:=by
     cases e:aX aa [.inl o.p,.inl o.n]with
     |none=>rfl
     |some v=>rw[e,Hx]at ck;cases ck
    refine⟨A' 6,_,rfl,iq.t (k:=[.inl o.p,.inl o.n]) (sp _ _ wB) jc (ze lk),?_⟩;rw[tJ _ nk];have r6:=(Jp.R.fl 6 (by decide) (by decide)).1;have f6:Fr (bu id h) Z2 (upd H4 p (.tup [.int o.p,.int o.n])) Z2 (upd (upd H4 p (.tup [.int o.p,.int o.n])) (A' 6) (.dT (aa++[([.inl o.p,.inl o.n],.ref q)]))):=Fr.put r6 ⟨6,rfl⟩;have u4:=uo.fr (Fr.same (P:=λ_=>False) (wA.trans sp));have pk4:=Paired.xt pk λ_ _ ⟨e,b⟩=>(⟨e,(b.fr (Fr.same (P:=λ_=>False) (wA.trans sp))).fr f6⟩:_/\zu _ Z2 _ _);have J5:=Jp.qbd rL rV (cho:=a.1++[((o.p,o.n),o)]) (qo pk4 ⟨rfl,u4.fr f6⟩);have u5:=u4.fr f6;generalize upd (upd H4 p (.tup [.int o.p,.int o.n])) (A' 6) (.dT (aa++[([.inl o.p,.inl o.n],.ref q)]))=H5 at J5 u5;obtain⟨vs,hv,pv⟩:=J5.hv;have lv:vs.length<=1000:=by rw[Paired.length pv];have:=gl.2.1;show a.2.1.length<=1000;simp at this;omega
    refine⟨_,rfl,.inl ⟨rfl,_,ah.of hv⟩,_,rfl,Vt,vs,.ref q,rfl,rfl,hv,ze lv,⟨_,rfl,?_⟩⟩;rw[df,if_pos (by simp[hd,Hx])];have fV:Fr (bu id h) Z2 H5 Z2 (upd H5 Vt (.lst (vs++[.ref q]))):=Fr.put rV ⟨8,rfl⟩;exact J5.qbs rV LV fV (qo (Paired.xt pv λ_ _=>zu.fr fV) (u5.fr fV))
 .rintro U H3 ⟨v,rfl,J⟩
  rw[lx,take_length]at J;obtain⟨vs,hv,pv⟩:=J.hv;obtain⟨ls,hl,pl⟩:=J.hl;refine⟨_,rfl,_,rfl,k,_,dk,_,rfl,J.R.ob,T.jt,T.yf,(by show 7<1000;decide),⟨_,rfl,?_⟩⟩;rw[j7l];have fo:Fr (bu id h) Z2 H3 Z2 (upd H3 k (.ins t.j5 dk (eK λf=>if f=5 then Lt else A' f))):=Fr.put J.R.r0 ⟨0,rfl⟩;have fo':Fr (bu id h) Z2 (upd H3 k (.ins t.j5 dk (eK λf=>if f=5 then Lt else A' f))) (aO Z2 Lt (id,.kp h 5)) (upd H3 k (.ins t.j5 dk (eK λf=>if f=5 then Lt else A' f))):=Fr.Hu rL ⟨9,rfl⟩;have ff:=fo.trans fo';have kL:Lt≠k:=fF rL J.R.r0 (by intro z;cases z);have Vk:Vt≠k:=fF rV J.R.r0 (by intro z;cases z);refine g (aO Z2 Lt (id,.kp h 5)) _ (λf=>if f=5 then Lt else A' f) Vt vs ⟨jc,?_,λf a1 b1=>?_⟩ (eB.trans (J.fr.trans ff)) ?_ ?_ ?_ (Paired.xt pv λ_ _=>zu.fr ff)
  .rw[xk kL.symm];exact J.R.r0
  .by_cases z:f=5
   .subst z;exact⟨zr,.lst ls,(by show upd H3 k _ Lt=_;rw[jf kL];exact hl),ls,rfl,Paired.xt pl λ_ _=>zu.fr ff⟩
   .obtain⟨rf,u,hu,q⟩:=J.R.fl f a1 b1;have nL:A' f≠Lt:=fF rf rL (by intro y;cases y;omega);show aO Z2 Lt (id,.kp h 5) (if f=5 then Lt else A' f)=_/\∃u,upd H3 k _ (if f=5 then Lt else A' f)=_/\_;rw[if_neg z];refine⟨by rw[xk nL];exact rf,u,by rw[jf (fF rf J.R.r0 (by intro y;cases y;omega))];exact hu,?_⟩;have q':=q.fr ff;unfold eL at q'⊢;split at q'<;>first|exact q'|exact absurd rfl z
  .exact ay.Hu rL J.kr.put
  .rw[xk LV.symm];exact rV
  .rw[jf Vk];exact hv
theorem Hy {α β:Type}{F:α->β->Prop}:∀{xs:List α}{ys:List β}{j:Nat},Paired F xs ys->Paired F (xs.eraseIdx j) (ys.eraseIdx j)
 |_,_,_,.nil=>.nil
 |_,_,0,.cons _ t=>t
 |_,_,j+1,.cons h t=>.cons h (Hy t)
theorem Ov {α:Type}[DecidableEq α](a:α):∀l:List α,l.erase a=l.eraseIdx (l.idxOf a)
 |[]=>rfl
 | b::l=>by
  by_cases z:b=a
  .subst z;simp
  .have e:(b::l).idxOf a=l.idxOf a+1:=by
    rw[List.idxOf_cons,show(b==a)=false by simpa using z];rfl
   rw[List.erase_cons_tail (by simpa using z),e,List.eraseIdx_cons_succ,Ov a l]
def yh (o:O):List Int:=[o.p,o.n,o.g,o.m]
theorem wC {o u:O}(h:yh o=yh u):o=u:=by cases o;cases u;unfold yh at h;simp at h;simp[h]
theorem Ox (o:O):∀l:List O,(l.map yh).idxOf (yh o)=l.idxOf o
 |[]=>rfl
 |b::l=>by
  rw[map_cons];by_cases z:b=o
  .subst z;simp
  .rw[List.idxOf_cons,List.idxOf_cons,show(b==o)=false by simpa using z,show(yh b==yh o)=false by simpa using λy=>z (wC y),Ox o l]
theorem Oy {K:W.Frag}{H:Hp}{Z:ar}:∀{xs:List V}{os:List O},Paired (zu H Z) xs os->Paired (iB K H) xs (os.map yh):=λ{xs os} q=>by
 induction q with
 |nil=>exact .nil
 |cons a _ ih=>obtain⟨a,e,_,h⟩:=a;exact .cons ⟨a,e,aA.of h⟩ ih
theorem wD {B:Kp}{o:O}(h:B.first=some o):o∈B.wait:=mem_of_find?_eq_some h
theorem j4e {B:Kp}(h:B.first=none):∀m,Kp.go m B=B
 |0=>rfl
 |m+1=>by unfold Kp.go;rw[h]
theorem j4p {B:Kp}{o:O}(h:B.first=some o):Kp.go B.wait.length B=Kp.go (B.step o).wait.length (B.step o):=by have e:(B.step o).wait.length=B.wait.length-1:=length_erase_of_mem (wD h);have p:0<B.wait.length:=length_pos_of_mem (wD h);obtain⟨m,hm⟩:∃m,B.wait.length=m+1:=⟨B.wait.length-1,by lia⟩;rw[e,hm];show(match B.first with|none=>B|some o=>Kp.go m (B.step o))=_;rw[h];rfl
theorem jpb (T:Txt K mg t):xl P w K mg base CX0 6 t.Fq t.Fs ["self"] (λvs H Q _=>∃Z id h k A dk B n,vs=[.ref k]/\xi t H Z id h k A dk B/\B.Ok n/\n<=8/\B.aQ.length+B.cho.length<=1000/\B.done.length+B.wait.length<=1000/\ay Z H/\∀Z' H' A' r xs,xi t H' Z' id h k A' dk B.kS.zb.1->Fr (bu id h) Z H Z' H'->ay Z' H'->Z' r=some (id,.kp h 8)->H' r=some (.lst xs)->Paired (zu H' Z') xs B.kS.zb.2->Q (.ref r) H'):=by
 refine T.Y7.cL Ew λ_ A _ s H vs Q E hr h=>?_;obtain⟨Z,id,h,k,A',dk,B,n,rfl,R,ag,n8,ll,ld,kr,g⟩:=h;refine⟨_,(@jd _ _ _ _ _ (j9 (i:=1) Ew.nd rfl (Or.inl rfl) (gu (pv 0) T.jt T.pf (Oo T) hr.dn T.uu .nil ju)) (@jd _ _ _ _ _ (Rl PassesOwn.never (j3 Ki (pv 1) iR (qi _)) (@jd _ _ _ _ _ (qb (dZ PySem.F.plainAttrs_list PySem.F.slot_list_remove PySem.F.type_list_remove (Xr hr.units) (qd (pv 0) rfl) (je (pv 1) ji))) (@jd _ _ _ _ _ (qb (qj (pv 0) T.jt T.jhb (jqt T) hr.dn T.YW .nil ju (je (pv 1) ji))) (@jg _ _ _ (j9 (i:=1) Ew.nd rfl (Or.inl rfl) (gu (pv 0) T.jt T.pf (Oo T) hr.dn T.uu .nil ju)))))) (@jg _ _ _ (j6 (gu (pv 0) T.jt T.gi (Oq T) hr.dn T.ud .nil ju))))),?_⟩;refine⟨_,rfl,k,dk,_,rfl,R.ob,fW A',Z,id,h,k,A',dk,B,n,rfl,R,ag,λv0 h0=>?_⟩;refine Rw (λU H'=>∃κ' v,U=[some (.ref k),some v]/\xi t H' Z id h k A' dk κ'/\κ'.Ok n/\Fr (bu id h) Z H Z H'/\ay Z H'/\Kp.go κ'.wait.length κ'=B.kS/\κ'.aQ=B.aQ/\κ'.cho=B.cho/\κ'.done.length+κ'.wait.length<=1000/\((κ'.first=none/\v= .aq)\/∃o,κ'.first=some o/\zu H' Z v o)) (λ_ H'=>match H' (A' 7)with|some (.lst xs)=>xs.length|_=>0) ⟨B,v0,rfl,R,ag,Fr.refl,kr,rfl,rfl,rfl,ld,h0⟩ ?_ ?_
 .rintro U H1 ⟨κ',v,rfl,R1,jP,f1,bN,eg,eu,ec,ld1,hv⟩
  refine⟨_,rfl,rfl,_,rfl,?_⟩;rcases hv with⟨e,rfl⟩|⟨o,e,uo⟩
  .refine ka ?_;rw[j4e e]at eg;subst eg;refine⟨_,rfl,k,dk,_,rfl,R1.ob,fW A',Z,id,h,k,A',dk,_,n,rfl,R1,jP,n8,by rw[eu,ec];exact ll,bN,λZ' H' wF r xs q1 q2 q3 q4 q5 q6=>g Z' H' wF r xs q1 (f1.trans q2) q3 q4 q5 q6⟩
  .obtain⟨q,rfl,nq,hq⟩:=uo;refine bT ?_;obtain⟨xs,hx,px⟩:=R1.wt;have om:=wD e;refine⟨_,rfl,k,_,dk,_,_,rfl,R1.ob,T.jt,T.xa,(xj A').2.2.2.2.2.2,.inl ⟨rfl,_,ah.of hx⟩,_,rfl,A' 7,xs,.ref q,yh o,κ'.wait.map yh,rfl,rfl,hx,⟨q,rfl,aA.of hq⟩,Oy px,mem_map_of_mem om,?_⟩;rw[Ox];obtain⟨r7,_⟩:=R1.fl 7 (by decide) (by decide);obtain⟨R2,f2⟩:=R1.put (κ':={κ' with wait:=κ'.wait.erase o}) (f0:=7) (by decide) (by decide) (u0:=.lst (xs.eraseIdx (κ'.wait.idxOf o))) ⟨_,rfl,by show Paired _ _ (κ'.wait.erase o);rw[Ov];exact Hy (Paired.xt px λ_ _=>zu.fr (Fr.put (P:=bu id h) r7 ⟨7,rfl⟩))⟩ (λf u hf q=>by unfold eL at q⊢;split at q<;>first|exact q|exact absurd rfl hf);have bW:=bN.put (a:=A' 7) (o:=.lst (xs.eraseIdx (κ'.wait.idxOf o)));have rK:zu (upd H1 (A' 7) (.lst (xs.eraseIdx (κ'.wait.idxOf o)))) Z (.ref q) o:=zu.fr f2 ⟨q,rfl,nq,hq⟩;have ho:=jP.w o om;generalize upd H1 (A' 7) (.lst (xs.eraseIdx (κ'.wait.idxOf o)))=H2 at R2 f2 bW rK;refine⟨_,rfl,k,dk,_,rfl,R2.ob,fW A',_,rfl,Z,id,h,k,A',dk,_,n,q,o,rfl,R2,rK,ho,jP.x,jP.h,by show κ'.done.length<=1000;omega,bW,λH3 R3 f3 iI=>?_⟩;have Oz:(κ'.step o).Ok n:=jP.step o;refine⟨_,rfl,k,dk,_,rfl,R3.ob,fW A',Z,id,h,k,A',dk,κ'.step o,n,rfl,R3,Oz,λv1 hv1=>⟨⟨κ'.step o,v1,rfl,R3,Oz,(f1.trans f2).trans f3,iI,by rw[<-j4p e];exact eg,eu,ec,?_,hv1⟩,?_⟩⟩
   .have l1:(κ'.step o).done.length=κ'.done.length+1:=by show(κ'.done++[o]).length=_;rw[length_append];rfl
    have l2:(κ'.step o).wait.length=κ'.wait.length-1:=length_erase_of_mem om;have:=length_pos_of_mem om;omega
   .obtain⟨ys,hy,py⟩:=R3.wt;have l2:(κ'.step o).wait.length=κ'.wait.length-1:=length_erase_of_mem om;have:=length_pos_of_mem om;have e1:=Paired.length px;have e2:ys.length=(κ'.step o).wait.length:=Paired.length py;rw[hy,hx];show ys.length<xs.length;omega
 .intro U H Q Q' hQ h;obtain⟨v,e1,e2,c,e3,q⟩:=h;exact⟨v,e1,e2,c,e3,hQ _ _ q⟩
theorem j03 {o:O}:∀{aa:List (List Key×V)}{os:List O},aa.map (·.1)=os.map cP->(aX aa (cP o)).isSome=decide (o∈os):=λ{aa os} e=>by
 induction aa generalizing os with
 |nil=>
  cases os with
  |nil=>rfl
  |cons _ _=>simp at e
 | cons kv aa ih=>
  cases os with
  |nil=>simp at e
  |cons u os=>
   rw[map_cons,map_cons]at e;obtain⟨e1,e2⟩:=List.cons.inj e;have ih:=ih e2;by_cases z:u=o
   .subst z;rw[w6 e1];simp
   .rw[wg (λy=>z (j27 (e1.symm.trans y))),ih];simp[Ne.symm z]
theorem xi.cI {t:Ad}{H:Hp}{Z:ar}{id:Nat}{h:Int}{k dk:Addr}{A:Nat->Addr}{B:Kp}{r:Addr}{ro:Role}{o:HO}(R:xi t H Z id h k A dk B)(kr:ay Z H)(nr:H r=none):xi t (upd H r o) (aO Z r ro) id h k A dk B:=R.fr (P:=λ_=>False) (λ_ z=>z) (Fr.cI nr)
noncomputable def OA (t:Ad)(κ':Kp->O->Kp×List O):Sp:=λvs H Q _=>∃Z id h k A dk B n q o,vs=[.ref k,.ref q]/\xi t H Z id h k A dk B/\zu H Z (.ref q) o/\B.Ok n/\n<=8/\yy (n:Nat) o=true/\B.dQ.length<=900/\B.aQ.length+B.cho.length<=900/\B.done.length+B.wait.length<=900/\ay Z H/\∀Z' H' A' r xs,xi t H' Z' id h k A' dk (κ' B o).1->Fr (bu id h) Z H Z' H'->ay Z' H'->Z' r=some (id,.kp h 8)->H' r=some (.lst xs)->Paired (zu H' Z') xs (κ' B o).2->Q (.ref r) H'
theorem jq1 (T:Txt K mg t):xl P w K mg base CX0 6 t.Ft t.Fu ["self","order"] (OA t Kp.oa):=by
 refine T.Za.bj (N:=["self","order"]) λ_ A _ s H vs Q E hr h=>?_;obtain⟨Z,id,h,k,A',dk,B,n,q,o,rfl,R,uq,ag,n8,ho,lh,lu,ld,kr,g⟩:=h;refine⟨_,(@jd _ _ _ _ _ (zk (yG (TB (gU hr) (pv 1) (qd (pv 0) rfl))) (@jg _ _ _ (j6 (@zh _ _ _ _ ji))) qe) (@jd _ _ _ _ _ (K7 (gU hr) (qd (pv 0) rfl) (pv 1) gB rfl) (@jd _ _ _ _ _ (qb (dZ PySem.F.plainAttrs_list PySem.F.slot_list_append PySem.F.type_list_append yg (qd (pv 0) rfl) (je (pv 1) ji))) (@jg _ _ _ (j6 (gu (pv 0) T.jt T.gi (Oq T) hr.dn T.ud .nil ju)))))),?_⟩;obtain⟨_,eq,nq,hq⟩:=uq;cases eq;obtain⟨aa,hk,ek⟩:=R.hd;have hv:=j03 (o:=o) ek;refine⟨_,rfl,_,rfl,k,_,dk,_,_,rfl,R.ob,T.jt,T.Hc,(xj A').2.2.2.1,A' 4,aX aa (cP o),rfl,.inr ⟨aa,cP o,q,.inl hk,rfl,hq,rfl⟩,_,rfl,?_⟩;rw[hv];unfold Kp.oa at g;refine bp (λz=>?_) (λz=>?_)
 .have z':o∈B.dQ:=of_decide_eq_true z;rw[if_pos z']at g;refine⟨cG,λr nr=>?_⟩;have f1:Fr (bu id h) Z H (aO Z r (id,.kp h 8)) (upd H r (.lst [])):=Fr.cI nr;refine g _ _ A' r [] (xi.cI R kr nr) f1 kr.cI zr jc .nil
 .have z':¬o∈B.dQ:=λy=>z (decide_eq_true y);rw[if_neg z']at g;have nk:aX aa (cP o)=none:=by
   cases e:aX aa (cP o)with
   |none=>rfl
   |some v=>rw[e,decide_eq_false z']at hv;cases hv
  have lk:aa.length<=1000:=by have:=congrArg List.length ek;rw[length_map,length_map]at this;omega
  refine⟨_,rfl,k,_,dk,_,_,rfl,R.ob,T.jt,T.Hc,(xj A').2.2.2.1,_,rfl,A' 4,_,rfl,iq.t (k:=cP o) hk hq (ze lk),?_⟩;rw[tJ _ nk];obtain⟨R1,f1⟩:=R.put (κ':={B with dQ:=B.dQ++[o]}) (f0:=4) (by decide) (by decide) (u0:=.dT (aa++[(cP o,.bl true)])) ⟨_,rfl,by rw[map_append,ek,map_append];rfl⟩ (λf u hf q=>by unfold eL at q⊢;split at q<;>first|exact q|exact absurd rfl hf);have bN:=kr.put (a:=A' 4) (o:=.dT (aa++[(cP o,.bl true)]));have og:zu _ Z (.ref q) o:=zu.fr f1 ⟨q,rfl,nq,hq⟩;generalize upd H (A' 4) (.dT (aa++[(cP o,.bl true)]))=H1 at R1 f1 bN og;obtain⟨xs,hx,px⟩:=R1.un;have lx:xs.length<=1000:=by rw[Paired.length px];show B.aQ.length<=1000;omega
  refine⟨_,rfl,k,_,dk,_,_,rfl,R1.ob,T.jt,T.yf,(xj A').2.2.2.2.1,.inl ⟨rfl,_,ah.of hx⟩,_,rfl,A' 5,xs,.ref q,rfl,rfl,hx,ze lx,?_⟩;obtain⟨r5,_⟩:=R1.fl 5 (by decide) (by decide);obtain⟨R2,f2⟩:=R1.put (κ':={B with dQ:=B.dQ++[o],aQ:=B.aQ++[o]}) (f0:=5) (by decide) (by decide) (u0:=.lst (xs++[.ref q])) ⟨_,rfl,qo (Paired.xt px λ_ _=>zu.fr (Fr.put (P:=bu id h) r5 ⟨5,rfl⟩)) (og.fr (Fr.put (P:=bu id h) r5 ⟨5,rfl⟩))⟩ (λf u hf q=>by unfold eL at q⊢;split at q<;>first|exact q|exact absurd rfl hf);have bW:=bN.put (a:=A' 5) (o:=.lst (xs++[.ref q]));dsimp only;generalize upd H1 (A' 5) (.lst (xs++[.ref q]))=H2 at R2 f2 bW;have Hz:Kp.Ok n {B with dQ:=B.dQ++[o],aQ:=B.aQ++[o]}:=⟨ag.h,ag.x,λu hu=>by
   rcases mem_append.mp hu with hu|hu
   .exact ag.u u hu
   .rw[mem_singleton.mp hu];exact ho,ag.w,ag.nd⟩;exact⟨_,rfl,k,dk,_,rfl,R2.ob,fW A',Z,id,h,k,A',dk,_,n,rfl,R2,Hz,n8,by show(B.aQ++[o]).length+B.cho.length<=1000;rw[length_append];show B.aQ.length+1+B.cho.length<=1000;omega,bW,λZ' H' wF r ys q1 q2 q3 q4 q5 q6=>g Z' H' wF r ys q1 ((f1.trans f2).trans q2) q3 q4 q5 q6⟩
theorem ji9 (T:Txt K mg t):xl P w K mg base CX0 7 t.kq t.ku ["self","order"] (OA t Kp.jN):=by
 refine T.Zd.bj (N:=["self","order"]) λ_ A _ s H vs Q E hr h=>?_;obtain⟨Z,id,h,k,A',dk,B,n,q,o,rfl,R,uq,ag,n8,ho,lh,lu,ld,kr,g⟩:=h;refine⟨_,(@jd _ _ _ _ _ (zk (PW.pt (gC (zl (qj (pv 0) T.jt T.wm (Ht T) hr.dn T.GS .nil ju (je (pv 1) ji))) (gS (j3 (LP hr.units) (pv 1) (qd (pv 0) rfl) (by with_unfolding_all rfl))))) (@jg _ _ _ (j6 (@zh _ _ _ _ ji))) qe) (@jd _ _ _ _ _ (qb (dZ PySem.F.plainAttrs_list PySem.F.slot_list_append PySem.F.type_list_append yg (qd (pv 0) rfl) (je (pv 1) ji))) (@jg _ _ _ (j6 (gu (pv 0) T.jt T.Y8 (jpb T) hr.dn T.Y9 .nil ju))))),?_⟩;obtain⟨_,eq,nq,hq⟩:=uq;cases eq;obtain⟨xs,hx,px⟩:=R.wt;unfold Kp.jN at g;have none_:(B.past o||decide (o∈B.wait))=true->∀r H1,yi H H1->H1 r=none->Q (.ref r) (upd H1 r (.lst [])):=λz r H1 s1 nr=>by
  rw[if_pos z]at g;have f0:Fr (bu id h) Z H Z H1:=Fr.same s1;have f1:Fr (bu id h) Z H1 (aO Z r (id,.kp h 8)) (upd H1 r (.lst [])):=Fr.cI nr;exact g _ _ A' r [] (xi.cI (R.fr (P:=λ_=>False) (λ_ z=>z) (Fr.same s1)) (kr.same s1) nr) (f0.trans f1) (kr.same s1).cI zr jc .nil
 refine⟨_,rfl,k,dk,_,rfl,R.ob,fW A',_,rfl,Z,id,h,k,A',dk,B,n,q,o,rfl,R,hq,ho,ag.x,_,rfl,?_⟩;cases hp:B.past o with
 |true=>refine bT (bT ⟨cG,λr nr=>none_ (by rw[hp];rfl) r H (yi.refl _) nr⟩)
 | false=>
  refine ka ⟨_,rfl,_,rfl,k,_,dk,_,_,rfl,R.ob,T.jt,T.xa,(xj A').2.2.2.2.2.2,A' 7,xs,yh o,B.wait.map yh,rfl,ah.of hx,⟨q,rfl,aA.of hq⟩,Oy px,_,rfl,bp (λz=>?_) (λz=>?_)⟩
  .have z':o∈B.wait:=by
    obtain⟨u,hu,e⟩:=mem_map.mp (of_decide_eq_true z);rw[<-wC e];exact hu
   exact⟨cG,λr nr=>none_ (by rw[decide_eq_true z',Bool.or_true]) r H (yi.refl _) nr⟩
  .have z':¬o∈B.wait:=λy=>z (decide_eq_true (mem_map_of_mem y));rw[if_neg (by rw[hp,decide_eq_false z'];decide)]at g;have lx:xs.length<=1000:=by rw[Paired.length px];omega
   refine⟨_,rfl,k,_,dk,_,_,rfl,R.ob,T.jt,T.xa,(xj A').2.2.2.2.2.2,.inl ⟨rfl,_,ah.of hx⟩,_,rfl,A' 7,xs,.ref q,rfl,rfl,hx,ze lx,?_⟩;obtain⟨r7,_⟩:=R.fl 7 (by decide) (by decide);obtain⟨R2,f2⟩:=R.put (κ':={B with wait:=B.wait++[o]}) (f0:=7) (by decide) (by decide) (u0:=.lst (xs++[.ref q])) ⟨_,rfl,qo (Paired.xt px λ_ _=>zu.fr (Fr.put (P:=bu id h) r7 ⟨7,rfl⟩)) (zu.fr (Fr.put (P:=bu id h) r7 ⟨7,rfl⟩) ⟨q,rfl,nq,hq⟩)⟩ (λf u hf q=>by unfold eL at q⊢;split at q<;>first|exact q|exact absurd rfl hf);have bW:=kr.put (a:=A' 7) (o:=.lst (xs++[.ref q]));dsimp only;generalize upd H (A' 7) (.lst (xs++[.ref q]))=H2 at R2 f2 bW;have Hz:Kp.Ok n {B with wait:=B.wait++[o]}:=⟨ag.h,ag.x,ag.u,λu hu=>by
    rcases mem_append.mp hu with hu|hu
    .exact ag.w u hu
    .rw[mem_singleton.mp hu];exact ho,nodup_append.mpr ⟨ag.nd,by simp,λx hx y hy e=>by rw[mem_singleton.mp hy]at e;subst e;exact z' hx⟩⟩;exact⟨_,rfl,k,dk,_,rfl,R2.ob,fW A',Z,id,h,k,A',dk,_,n,rfl,R2,Hz,n8,by show B.aQ.length+B.cho.length<=1000;omega,by show B.done.length+(B.wait++[o]).length<=1000;rw[length_append];show B.done.length+(B.wait.length+1)<=1000;omega,bW,λZ' H' wF r ys q1 q2 q3 q4 q5 q6=>g Z' H' wF r ys q1 (f2.trans q2) q3 q4 q5 q6⟩
noncomputable def dG (n bR:Int)(ly ch kd bd ak wy:Addr):List (Str×V):=uf "on_way" (.ref wy) (uf "asked" (.ref ak) (uf "board" (.ref bd) (uf "keepers" (.ref kd) (uf "cheating" (.ref ch) (uf "lying" (.ref ly) (uf "total" (.int bR) (uf "purses" (.int n) [])))))))
theorem HE {n bR:Int}{ly ch kd bd ak wy:Addr}:(dG n bR ly ch kd bd ak wy).lookup ("purses":Str)=some (.int n):=by unfold dG;repeat(first|rw[jm,if_pos rfl]|rw[jm,if_neg (by decide+kernel)])
theorem OB {n bR:Int}{ly ch kd bd ak wy:Addr}:(dG n bR ly ch kd bd ak wy).lookup ("lying":Str)=some (.ref ly):=by unfold dG;repeat(first|rw[jm,if_pos rfl]|rw[jm,if_neg (by decide+kernel)])
theorem HF {n bR:Int}{ly ch kd bd ak wy:Addr}:(dG n bR ly ch kd bd ak wy).lookup ("cheating":Str)=some (.ref ch):=by unfold dG;repeat(first|rw[jm,if_pos rfl]|rw[jm,if_neg (by decide+kernel)])
theorem pq {n bR:Int}{ly ch kd bd ak wy:Addr}:(dG n bR ly ch kd bd ak wy).lookup ("keepers":Str)=some (.ref kd):=by unfold dG;repeat(first|rw[jm,if_pos rfl]|rw[jm,if_neg (by decide+kernel)])
theorem wG {n bR:Int}{ly ch kd bd ak wy:Addr}:(dG n bR ly ch kd bd ak wy).lookup ("board":Str)=some (.ref bd):=by unfold dG;repeat(first|rw[jm,if_pos rfl]|rw[jm,if_neg (by decide+kernel)])
theorem OD {n bR:Int}{ly ch kd bd ak wy:Addr}:(dG n bR ly ch kd bd ak wy).lookup ("asked":Str)=some (.ref ak):=by unfold dG;repeat(first|rw[jm,if_pos rfl]|rw[jm,if_neg (by decide+kernel)])
theorem rM {n bR:Int}{ly ch kd bd ak wy:Addr}:(dG n bR ly ch kd bd ak wy).lookup ("on_way":Str)=some (.ref wy):=by unfold dG;repeat(first|rw[jm,if_pos rfl]|rw[jm,if_neg (by decide+kernel)])
theorem xo {n bR:Int}{ly ch kd bd ak wy:Addr}{m:Str}(h:autoParam (¬m="on_way"/\¬m="asked"/\¬m="board"/\¬m="keepers"/\¬m="cheating"/\¬m="lying"/\¬m="total"/\¬m="purses") aP4):(dG n bR ly ch kd bd ak wy).lookup m=none:=by obtain⟨h1,h2,h3,h4,h5,h6,h7,h8⟩:=h;unfold dG;rw[jm,if_neg h1,jm,if_neg h2,jm,if_neg h3,jm,if_neg h4,jm,if_neg h5,jm,if_neg h6,jm,if_neg h7,jm,if_neg h8];rfl
structure Wd where
 n:Nat
 y3:List Int
 ks:List (Int×Kp)
 bd:x8
 en:Int
 asked:List (List O)
 way:List (Bool×Int×O)
def cv (ks:List (Int×Kp))(h:Int)(B:Kp):List (Int×Kp):=ks.map λc=>if c.1=h then(h,B)else c
def Wd.post (w:Wd)(b:Bool)(o:O):Wd:={w with way:=w.way++w.ks.map λc=>(b,c.1,o)}
def qc:x8->List Int->List Int
 |[],_=>[]
 |p::ps,k=>if p.1=k then p.2 else qc ps k
def dq:x8->List Int->Int->x8
 |[],k,h=>[(k,[h])]
 |p::ps,k,h=>if p.1=k then(p.1,p.2++[h])::ps else p::dq ps k h
noncomputable def Wd.put (w:Wd)(h:Int)(o:O):Wd×Bool:=if h∈qc w.bd (yh o)then(w,false)else({w with bd:=dq w.bd (yh o) h},decide (((qc w.bd (yh o)).length:Int)+1=w.en))
def Wd.bI (h:Int)(w:Wd)(o:O):Wd:=if(w.put h o).2=true then(w.put h o).1.post false o else(w.put h o).1
def Wd.zb (w:Wd)(h:Int)(os:List O):Wd:=os.foldl (Wd.bI h) w
def Wd.keep (w:Wd)(h:Int):Option Kp:=(w.ks.find? λc=>decide (c.1=h)).map (·.2)
def Kp.take (B:Kp)(b:Bool)(o:O):Kp×List O:=if b=true then B.oa o else B.jN o
noncomputable def Wd.jQ (w:Wd)(i:Nat)(l:Bool×Int×O)(B:Kp):Wd:=Wd.zb {w with way:=w.way.eraseIdx i,ks:=cv w.ks l.2.1 (B.take l.1 l.2.2).1} l.2.1 (B.take l.1 l.2.2).2
theorem wH (k:List Int):∀is:x8,qq (bP is) (cH k)=qc is k
 |[]=>rfl
 |p::ps=>by
  show(if cH p.1=cH k then p.2 else qq (bP ps) (cH k))=if p.1=k then p.2 else qc ps k;by_cases z:p.1=k
  .rw[if_pos z,if_pos (by rw[z])]
  .rw[if_neg z,if_neg (λy=>z (Ho y)),wH k ps]
theorem OE (k:List Int)(h:Int):∀is:x8,mn (bP is) (cH k) h=bP (dq is k h)
 |[]=>rfl
 |p::ps=>by
  show(if cH p.1=cH k then(cH p.1,p.2++[h])::bP ps else(cH p.1,p.2)::mn (bP ps) (cH k) h)=bP (if p.1=k then(p.1,p.2++[h])::ps else p::dq ps k h);by_cases z:p.1=k
  .rw[if_pos z,if_pos (by rw[z])];rfl
  .rw[if_neg z,if_neg (λy=>z (Ho y)),OE k h ps];rfl
def rN (b:Bool):V:=.str (if b=true then"order"else"paper")
noncomputable def cA (H:Hp)(Z:ar)(x:V)(l:Bool×Int×O):Prop:=∃a q,x= .ref a/\Z a=none/\H a=some (.tup [rN l.1,.int l.2.1,.ref q])/\zu H Z (.ref q) l.2.2
theorem cA.fr {P:Role->Prop}{Z Z':ar}{H H':Hp}{x:V}{l:Bool×Int×O}(f:Fr P Z H Z' H')(h:cA H Z x l):cA H' Z' x l:=by
 obtain⟨a,q,e,n,h1,h2⟩:=h;obtain⟨nE,n'⟩:=f a _ h1 λr hr=>by rw[n]at hr;cases hr
 exact⟨a,q,e,n'.trans n,nE,h2.fr f⟩
structure WA where
 x:Addr
 dx:Addr
 bR:Int
 ly:Addr
 ch:Addr
 kd:Addr
 bd:Addr
 ak:Addr
 wy:Addr
 db:Addr
 S:Addr
abbrev WA.fs (W:WA)(n:Nat):List (Str×V):=dG n W.bR W.ly W.ch W.kd W.bd W.ak W.wy
noncomputable def xn (t:Ad)(H:Hp)(Z:ar)(id:Nat)(aa:List (Key×V))(ks:List (Int×Kp)):Prop:=Paired (λkv (c:Int×Kp)=>kv.1= .inl c.1/\∃k A dk,kv.2= .ref k/\xi t H Z id c.1 k A dk c.2) aa ks
noncomputable def my (H:Hp)(Z:ar)(id:Nat)(rs:List Addr)(asked:List (List O)):Prop:=rs.length=asked.length/\∀(i:Nat)(r:Addr)(os:List O),rs[i]?=some r->asked[i]?=some os->Z r=some (id,.row i)/\∃xs,H r=some (.lst xs)/\Paired (zu H Z) xs os
def mz (Z:ar)(id:Nat)(aa:List (List Key×V)):Prop:=∀kv∈aa,∃c,kv.2= .ref c/\Z c=some (id,.sg)
structure qu (t:Ad)(H:Hp)(Z:ar)(id:Nat)(W:WA)(w:Wd):Prop where
 ob:H W.x=some (.ins t.j4 W.dx (W.fs w.n))/\Z W.x=some (id,.x)
 ch:H W.ch=some (.lst (w.y3.map V.int))/\Z W.ch=none
 kd:Z W.kd=some (id,.kd)/\∃aa,H W.kd=some (.dK aa)/\xn t H Z id aa w.ks
 bd:Z W.bd=some (id,.bd)/\Z W.S=some (id,.sd)/\∃aa,yz t H W.bd W.db W.S w.en aa (bP w.bd)/\mz Z id aa
 ak:Z W.ak=some (id,.ak)/\∃rs,H W.ak=some (.lst (rs.map V.ref))/\my H Z id rs w.asked
 wy:Z W.wy=some (id,.wy)/\∃xs,H W.wy=some (.lst xs)/\Paired (cA H Z) xs w.way
section
variable {t:Ad}{H H':Hp}{Z Z':ar}{id:Nat}{W:WA}{w:Wd}{P:Role->Prop}
theorem dH {a:Addr}{u:HO}{r:Role}(f:Fr P Z H Z' H')(e:H a=some u)(er:Z a=some r)(n:¬P r):H' a=some u/\Z' a=some r:=by
 obtain⟨e1,r1⟩:=f a u e λr' hr=>by rw[er]at hr;cases hr;exact n
 exact⟨e1,r1.trans er⟩
theorem iJ {a:Addr}{u:HO}(f:Fr P Z H Z' H')(e:H a=some u)(er:Z a=none):H' a=some u/\Z' a=none:=by
 obtain⟨e1,r1⟩:=f a u e λr' hr=>by rw[er]at hr;cases hr
 exact⟨e1,r1.trans er⟩
theorem xn.fr {aa:List (Key×V)}{ks:List (Int×Kp)}(f:Fr P Z H Z' H')(hP:∀h i,¬P (id,.kp h i))(k:xn t H Z id aa ks):xn t H' Z' id aa ks:=Paired.xt k λ_ c ⟨e,k,A,dk,ek,q⟩=>⟨e,k,A,dk,ek,q.fr (hP c.1) f⟩
theorem my.fr {rs:List Addr}{asked:List (List O)}(f:Fr P Z H Z' H')(hP:∀i,¬P (id,.row i))(k:my H Z id rs asked):my H' Z' id rs asked:=⟨k.1,λi r os e1 e2=>by obtain⟨rr,xs,h,p⟩:=k.2 i r os e1 e2;obtain⟨h',r'⟩:=dH f h rr (hP i);exact⟨r',xs,h',Paired.xt p λ_ _=>zu.fr f⟩⟩
theorem yz.fr {p dx S:Addr}{en:Int}{aa:List (List Key×V)}{ps:fU}(f:Fr P Z H Z' H')(rp:Z p=some (id,.bd))(rS:Z S=some (id,.sd))(sg:mz Z id aa)(n1:¬P (id,.bd))(n2:¬P (id,.sd))(n3:¬P (id,.sg))(Bq:yz t H p dx S en aa ps):yz t H' p dx S en aa ps/\Z' p=some (id,.bd)/\Z' S=some (id,.sd)/\mz Z' id aa:=by
 obtain⟨e1,r1⟩:=dH f Bq.ob rp n1;obtain⟨e2,r2⟩:=dH f Bq.sg rS n2;have hs:∀{kv:List Key×V}{q:List Key×List Int},kv∈aa->iH H kv q->iH H' kv q/\∃c,kv.2= .ref c/\Z' c=some (id,.sg):=λ{kv q} m ⟨a,c,ec,hc⟩=>by obtain⟨c',OF,rc⟩:=sg kv m;rw[ec]at OF;cases OF;obtain⟨h1,h2⟩:=dH f hc rc n3;exact⟨⟨a,c,ec,h1⟩,c,ec,h2⟩
 have all:∀{xs:List (List Key×V)}{ys:fU},(∀x∈xs,x∈aa)->Paired (iH H) xs ys->Paired (iH H') xs ys/\mz Z' id xs:=λ{xs ys} m q=>by
  induction q with
  |nil=>exact⟨.nil,λ_ z=>by cases z⟩
  |cons h _ ih=>
   obtain⟨i1,i2⟩:=ih λx hx=>m x (mem_cons_of_mem _ hx);obtain⟨j1,j2⟩:=hs (m _ mem_cons_self) h;refine⟨.cons j1 i1,λx hx=>?_⟩;rcases mem_cons.mp hx with rfl|hx
   .exact j2
   .exact i2 x hx
 obtain⟨a1,a2⟩:=all (λ_ h=>h) Bq.hs;exact⟨⟨e1,e2,a1,Bq.un⟩,r1,r2,a2⟩
theorem qu.fr (hP:∀p,¬P (id,p))(f:Fr P Z H Z' H')(w1:qu t H Z id W w):qu t H' Z' id W w:=by obtain⟨rk,aa,hk,ks⟩:=w1.kd;obtain⟨rb,rS,rO,Bq,sg⟩:=w1.bd;obtain⟨ra,rs,ha,rows⟩:=w1.ak;obtain⟨eN,xs,hw,pw⟩:=w1.wy;obtain⟨mB,rk'⟩:=dH f hk rk (hP _);obtain⟨B',A4,A5,HG⟩:=Bq.fr f rb rS sg (hP _) (hP _) (hP _);obtain⟨HH,HI⟩:=dH f ha ra (hP _);obtain⟨pN,cK⟩:=dH f hw eN (hP _);exact⟨dH f w1.ob.1 w1.ob.2 (hP _),iJ f w1.ch.1 w1.ch.2,⟨rk',aa,mB,ks.fr f λ_ _=>hP _⟩,⟨A4,A5,rO,B',HG⟩,⟨HI,rs,HH,rows.fr f λ_=>hP _⟩,⟨cK,xs,pN,Paired.xt pw λ_ _=>cA.fr f⟩⟩
theorem qu.but (f:Fr P Z H Z' H')(w1:qu t H Z id W w)(w':Wd)(n1:¬P (id,.x))(en:w'.n=w.n)(ec:w'.y3=w.y3)(kd:(Z W.kd=some (id,.kd)->(∃aa,H W.kd=some (.dK aa)/\xn t H Z id aa w.ks)->Z' W.kd=some (id,.kd)/\∃aa,H' W.kd=some (.dK aa)/\xn t H' Z' id aa w'.ks))(bd:(Z W.bd=some (id,.bd)->Z W.S=some (id,.sd)->(∃aa,yz t H W.bd W.db W.S w.en aa (bP w.bd)/\mz Z id aa)->Z' W.bd=some (id,.bd)/\Z' W.S=some (id,.sd)/\∃aa,yz t H' W.bd W.db W.S w'.en aa (bP w'.bd)/\mz Z' id aa))(ak:(Z W.ak=some (id,.ak)->(∃rs,H W.ak=some (.lst (rs.map V.ref))/\my H Z id rs w.asked)->Z' W.ak=some (id,.ak)/\∃rs,H' W.ak=some (.lst (rs.map V.ref))/\my H' Z' id rs w'.asked))(wy:(Z W.wy=some (id,.wy)->(∃xs,H W.wy=some (.lst xs)/\Paired (cA H Z) xs w.way)->Z' W.wy=some (id,.wy)/\∃xs,H' W.wy=some (.lst xs)/\Paired (cA H' Z') xs w'.way)):qu t H' Z' id W w':=by
 refine⟨?_,?_,kd w1.kd.1 w1.kd.2,bd w1.bd.1 w1.bd.2.1 w1.bd.2.2,ak w1.ak.1 w1.ak.2,wy w1.wy.1 w1.wy.2⟩
 .rw[en];exact dH f w1.ob.1 w1.ob.2 n1
 .rw[ec];exact iJ f w1.ch.1 w1.ch.2
theorem um (f:Fr P Z H Z' H')(n1:¬P (id,.kd))(n2:∀h i,¬P (id,.kp h i)){kd:Addr}{ks:List (Int×Kp)}(r:Z kd=some (id,.kd))(h:∃aa,H kd=some (.dK aa)/\xn t H Z id aa ks):Z' kd=some (id,.kd)/\∃aa,H' kd=some (.dK aa)/\xn t H' Z' id aa ks:=by obtain⟨aa,hk,q⟩:=h;obtain⟨h',r'⟩:=dH f hk r n1;exact⟨r',aa,h',q.fr f n2⟩
theorem iK (f:Fr P Z H Z' H')(n1:¬P (id,.bd))(n2:¬P (id,.sd))(n3:¬P (id,.sg)){b db S:Addr}{en:Int}{is:x8}(rb:Z b=some (id,.bd))(rS:Z S=some (id,.sd))(h:∃aa,yz t H b db S en aa (bP is)/\mz Z id aa):Z' b=some (id,.bd)/\Z' S=some (id,.sd)/\∃aa,yz t H' b db S en aa (bP is)/\mz Z' id aa:=by obtain⟨aa,Bq,sg⟩:=h;obtain⟨B',A4,A5,HG⟩:=Bq.fr f rb rS sg n1 n2 n3;exact⟨A4,A5,aa,B',HG⟩
theorem mC (f:Fr P Z H Z' H')(n1:¬P (id,.ak))(n2:∀i,¬P (id,.row i)){ak:Addr}{asked:List (List O)}(r:Z ak=some (id,.ak))(h:∃rs,H ak=some (.lst (rs.map V.ref))/\my H Z id rs asked):Z' ak=some (id,.ak)/\∃rs,H' ak=some (.lst (rs.map V.ref))/\my H' Z' id rs asked:=by obtain⟨rs,hk,q⟩:=h;obtain⟨h',r'⟩:=dH f hk r n1;exact⟨r',rs,h',q.fr f n2⟩
theorem HJ (f:Fr P Z H Z' H')(n1:¬P (id,.wy)){wy:Addr}{way:List (Bool×Int×O)}(r:Z wy=some (id,.wy))(h:∃xs,H wy=some (.lst xs)/\Paired (cA H Z) xs way):Z' wy=some (id,.wy)/\∃xs,H' wy=some (.lst xs)/\Paired (cA H' Z') xs way:=by obtain⟨rs,hk,q⟩:=h;obtain⟨h',r'⟩:=dH f hk r n1;exact⟨r',rs,h',Paired.xt q λ_ _=>cA.fr f⟩
end
theorem jyl {α β:Type}{F:α->β->Prop}:∀{xs iL:List α}{ys cD:List β},Paired F xs ys->Paired F iL cD->Paired F (xs++iL) (ys++cD):=λ{xs iL ys cD} q h=>by
 induction q with
 |nil=>exact h
 |cons a _ ih=>exact .cons a ih
theorem big {n:Nat}(h:n<=1000000):n<sizeLine:=lt_of_le_of_lt h (by decide)
theorem oh {n:Nat}(h:n<=1000000):n<=sizeLine:=le_of_lt (big h)
abbrev wI (H:Hp)(x:Addr)(G:Hp):Prop:=∀b u,H b=some u->b≠x->G b=some u
theorem Fr.HK {P:Role->Prop}{Z:ar}{H G:Hp}{x:Addr}{r:Role}(h:Z x=some r)(p:P r)(f:wI H x G):Fr P Z H Z G:=λb u e n=>⟨f b u e λz=>n r (z ▸ h) p,rfl⟩
theorem ay.HK {Z:ar}{H G:Hp}{x:Addr}{u:HO}(k:ay Z H)(f:wI H x G)(hx:G x=some u)(nu:pL u):ay Z G:=λb r h=>by
 by_cases z:b=x
 .subst z;exact⟨u,hx,nu⟩
 .obtain⟨v,e,n⟩:=k b r h;exact⟨v,f b v e z,n⟩
def fG (id:Nat)(p:Part):Role->Prop:=λr=>r=(id,p)
theorem jz {id:Nat}{p q:Part}(h:q≠p:=by intro z;cases z):¬fG id p (id,q):=λz=>h (Prod.mk.inj z).2
theorem j6x {a:Addr}{o:Obj}{aa:List (Key×V)}{g:TG}{tb:TS}{D:Ends}{U:St}{H:Hp}(Pv:Nat->St->Hp->Prop)(h0:Pv 0 U H)(hl:∀i U H,i<=aa.length->Pv i U H->H a=some (.az o (.dK aa)))(hs:∀i kv U H,aa[i]?=some kv->Pv i U H->g (kV kv.1) U H λU2 H2=>tb {D with nx:=Pv (i+1),ct:=Pv (i+1),bk:=D.nx} U2 H2)(hd:∀U H,Pv aa.length U H->D.nx U H):∃W:Nat->Nat->St->Hp->Prop,(∃m,W 0 m U H)/\∀i m U H,W i m U H->((uA a o aa).stop i H/\D.nx U H)\/((uA a o aa).go i H/\∃N:St->Hp->Prop,(∀U' H',N U' H'->∃m',m'<m/\W (i+1) m' U' H')/\∀x H',(uA a o aa).dO i H x H'->g x U H' λU2 H2=>tb {D with nx:=N,ct:=N,bk:=D.nx} U2 H2):=by
 refine⟨λi m U H=>m=aa.length-i/\i<=aa.length/\Pv i U H,⟨aa.length,by simp,zero_le _,h0⟩,?_⟩
 rintro i m U H ⟨rfl,hi,p⟩
 have q:=hl i U H hi p;by_cases ax:i<aa.length
 .refine .inr ⟨⟨ax,q⟩,Pv (i+1),λU' H' p'=>⟨aa.length-(i+1),by lia,rfl,ax,p'⟩,λx H' y=>?_⟩;obtain⟨e,kv,ek,ex⟩:=y;subst e ex;exact hs i kv U _ ek p
 .have e:i=aa.length:=by lia
  subst e;exact .inl ⟨⟨le_refl _,q⟩,hd U H p⟩
theorem HL (T:Txt K mg t):xl P w K mg base CX0 1 t.Fw t.Fx ["self"] (λvs H Q _=>∃Z id W Y,vs=[.ref W.x]/\qu t H Z id W Y/\Y.way.length<=100000/\∀r xs,H r=none->Paired (cA H Z) xs Y.way->Q (.ref r) (upd H r (.lst xs))):=by refine T.Zj.bj (N:=["self"]) λ_ A _ s H vs Q E hr h=>?_;obtain⟨Z,id,W,Y,rfl,O,l,k⟩:=h;refine⟨_,(@jg _ _ _ (j6 (qT tm rfl T.nX boot_list (je (qd (pv 0) rfl) ji)))),?_⟩;obtain⟨eN,xs,hw,pw⟩:=O.wy;exact⟨_,rfl,W.x,_,W.dx,_,_,rfl,O.ob.1,T.jl,T.zi,rM,W.wy,xs,rfl,.inl (ah.of hw),λr nr=>k r xs nr pw⟩
theorem OH (T:Txt K mg t):xl P w K mg base CX0 1 t.gg t.gf ["self","word","order"] (λvs H Q _=>∃Z id W Y b q o,vs=[.ref W.x,rN b,.ref q]/\qu t H Z id W Y/\ay Z H/\zu H Z (.ref q) o/\Y.way.length<=100000/\Y.ks.length<=16/\∀H',qu t H' Z id W (Y.post b o)->Fr (fG id .wy) Z H Z H'->ay Z H'->Q .aq H'):=by
 refine T.Zy.cL Ng λ_ A _ s H vs Q E hr h=>?_;obtain⟨Z,id,W,Y,b,q,o,rfl,O,kr,uq,l,l2,k⟩:=h;refine⟨_,(@jg _ _ _ (DF (ij PassesOwn.never rfl (Va (qd (pv 0) rfl)) (jr (i:=3) Ng.nd rfl (Or.inl rfl)) (@jg _ _ _ (qb (dZ PySem.F.plainAttrs_list PySem.F.slot_list_append PySem.F.type_list_append yg (qd (pv 0) rfl) (je (@kH _ _ _ _ _ (@cq _ _ _ _ _ _ _ (pv 1) (pv 3) (pv 2) rfl rfl rfl)) ji))))))),?_⟩;obtain⟨rk,aa,kd,ks⟩:=O.kd;obtain⟨eN,way,wy,pw⟩:=O.wy;have ob:=O.ob.1;have kw:W.kd≠W.wy:=fF rk eN (by intro z;cases z);have kx:W.x≠W.kd:=fF O.ob.2 rk (by intro z;cases z);have wx:W.x≠W.wy:=fF O.ob.2 eN (by intro z;cases z);have lk:aa.length=Y.ks.length:=Paired.length ks;have lw:way.length=Y.way.length:=Paired.length pw;refine⟨_,rfl,W.x,_,W.dx,_,_,rfl,ob,T.jl,T.qp,pq,W.kd,aa,rfl,kd,λoo=>j6x (λi U H'=>∃v ts,U=[some (.ref W.x),some (rN b),some (.ref q),v]/\ts.length=i/\H' W.wy=some (.lst (way++ts))/\wI (upd H W.kd (.az oo (.dK aa))) W.wy H'/\Paired (λx (c:Int×Kp)=>∃a,x= .ref a/\H a=none/\H' a=some (.tup [rN b,.int c.1,.ref q])) ts (Y.ks.take i)) ?_ ?_ ?_ ?_⟩
 .exact⟨none,[],rfl,rfl,(by rw[append_nil,jf kw.symm];exact wy),(λb u e _=>e),.nil⟩
 .rintro i U H' _ ⟨v,ts,_,_,_,f,_⟩
  exact f _ _ jc kw
 .rintro i kv U H' ek ⟨v,ts,rfl,lt,hw,f,pt⟩
  obtain⟨c,ec,e1,_⟩:=j7 ks ek;have ob':H' W.x=some (.ins t.j4 W.dx (W.fs Y.n)):=f _ _ (by rw[jf kx];exact ob) wx;have hi:=(List.getElem?_eq_some_iff.mp ek).1;refine⟨_,rfl,W.x,_,W.dx,_,_,rfl,ob',T.jl,T.zi,rM,.inl ⟨rfl,_,ah.of hw⟩,_,rfl,_,rfl,_,rfl,nW,λp np=>?_⟩;have sp:=jh (o:=.tup [rN b,kV kv.1,.ref q]) np;have mv:H p=none:=by
   cases e:H p with
   |none=>rfl
   | some u=>
    exfalso;by_cases z:p=W.wy
    .rw[z,hw]at np;cases np
    .by_cases z2:p=W.kd
     .rw[z2,f _ _ jc kw]at np;cases np
     .have:=f p u (by rw[jf z2];exact e) z;rw[np]at this;cases this
  have pw_:p≠W.wy:=λz=>by rw[z,hw]at np;cases np
  refine⟨W.wy,_,_,rfl,rfl,sp _ _ hw,big (by rw[length_append,lt];omega),_,ts++[.ref p],rfl,?_,?_,λb' u e bw=>?_,?_⟩
  .rw[length_append,lt];rfl
  .rw[jc,append_assoc]
  .rw[jf bw];exact sp _ _ (f _ _ e bw)
  .rw[take_snoc ec];refine qo (Paired.xt pt λ_ _ ⟨a,e,n,h'⟩=>⟨a,e,n,?_⟩) ⟨p,rfl,mv,?_⟩
   .rw[jf (λz=>by rw[z,hw]at h';cases h')];exact sp _ _ h'
   .rw[jf pw_,jc,e1];rfl
 .rintro U H' ⟨v,ts,rfl,lt,hw,f,pt⟩
  have fin:wI H W.wy (upd H' W.kd (.dK aa)):=λb' u e bw=>by
   by_cases z:b'=W.kd
   .subst z;rw[kd]at e;rw[jc,<-e]
   .rw[jf z];exact f _ _ (by rw[jf z];exact e) bw
  have pN:upd H' W.kd (.dK aa) W.wy=some (.lst (way++ts)):=by rw[jf kw.symm];exact hw
  refine⟨W.kd,oo,.dK aa,f _ _ jc kw,λo' u' z=>?_,True.intro,?_⟩
  .have z':H W.kd=some (.az o' u'):=z;rw[kd]at z';cases z'
  have fr:Fr (fG id .wy) Z H Z (upd H' W.kd (.dK aa)):=Fr.HK eN rfl fin;rw[lk,take_length]at pt;refine k _ (O.but fr (Y.post b o) jz rfl rfl (um fr jz (λ_ _=>jz)) (iK fr jz jz jz) (mC fr jz (λ_=>jz)) (λ_ _=>⟨eN,_,pN,?_⟩)) fr (kr.HK fin pN (by exact True.intro));have up:=uq.fr fr;have q2:Paired (cA (upd H' W.kd (.dK aa)) Z) ts (Y.ks.map λc=>(b,c.1,o)):=by
   clear pN lt hw;have gen:∀{xs:List V}{cs:List (Int×Kp)},Paired (λx (c:Int×Kp)=>∃a,x= .ref a/\H a=none/\H' a=some (.tup [rN b,.int c.1,.ref q])) xs cs->Paired (cA (upd H' W.kd (.dK aa)) Z) xs (cs.map λc=>(b,c.1,o)):=λ{xs cs} h=>by
    induction h with
    |nil=>exact .nil
    |cons a _ ih=>obtain⟨p,e,n,hp⟩:=a;refine .cons ⟨p,q,e,kr.none n,?_,up⟩ ih;rw[jf (λz=>by rw[z,kd]at n;cases n)];exact hp
   exact gen pt
  exact jyl (Paired.xt pw λ_ _=>cA.fr fr) q2
def rP (id:Nat):Role->Prop:=λr=>r=(id,.wy)\/r=(id,.sd)\/r=(id,.sg)
theorem pO {id:Nat}{p:Part}(h1:p≠.wy)(h2:p≠.sd)(h3:p≠.sg):¬rP id (id,p):=λz=>by
 rcases z with z|z|z
 .exact h1 (Prod.mk.inj z).2
 .exact h2 (Prod.mk.inj z).2
 .exact h3 (Prod.mk.inj z).2
structure Sz (Y:Wd)(a b c:Nat):Prop where
 bd:Y.bd.length<=a
 hs:∀x∈Y.bd,x.2.length<=b
 wy:Y.way.length<=c
 ks:Y.ks.length<=16
theorem OI {k:List Int}{h:Int}:∀{is:x8}{a b:Nat},is.length<=a->(∀x∈is,x.2.length<=b)->(dq is k h).length<=a+1/\∀x∈dq is k h,x.2.length<=b+1
 |[],a,b,_,_=>⟨by show 1<=a+1;lia,λx hx=>by rw[mem_singleton.mp hx];show 1<=b+1;lia⟩
 | p::ps,a,b,h1,h2=>by
  unfold dq;split
  .refine⟨by rw[length_cons]at h1⊢;lia,λx hx=>?_⟩;rcases mem_cons.mp hx with rfl|hx
   .have:=h2 p mem_cons_self;show(p.2++[h]).length<=b+1;rw[length_append];show p.2.length+1<=b+1;lia
   .have:=h2 x (mem_cons_of_mem _ hx);lia
  .rw[length_cons]at h1;obtain⟨i1,i2⟩:=OI (k:=k) (h:=h) (is:=ps) (a:=a-1) (b:=b) (by lia) (λx hx=>h2 x (mem_cons_of_mem _ hx));refine⟨by rw[length_cons];lia,λx hx=>?_⟩;rcases mem_cons.mp hx with rfl|hx
   .have:=h2 x mem_cons_self;lia
   .exact i2 x hx
theorem Sz.put {Y:Wd}{a b c:Nat}(z:Sz Y a b c)(h:Int)(o:O):Sz (Y.put h o).1 (a+1) (b+1) c:=by
 unfold Wd.put;split
 .exact⟨le_succ_of_le z.bd,λx hx=>le_succ_of_le (z.hs x hx),z.wy,z.ks⟩
 .obtain⟨i1,i2⟩:=OI (k:=yh o) (h:=h) z.bd z.hs;exact⟨i1,i2,z.wy,z.ks⟩
theorem Sz.bI {Y:Wd}{a b c:Nat}(z:Sz Y a b c)(h:Int)(o:O):Sz (Y.bI h o) (a+1) (b+1) (c+16):=by
 have p:=z.put h o;unfold Wd.bI;split
 .refine⟨p.bd,p.hs,?_,p.ks⟩;show((Y.put h o).1.way++_).length<=c+16;rw[length_append,length_map];have:=p.wy;have:=p.ks;lia
 .exact⟨p.bd,p.hs,by have:=p.wy;lia,p.ks⟩
theorem Sz.mono {Y:Wd}{a b c a' b' c':Nat}(z:Sz Y a b c)(h1:a<=a')(h2:b<=b')(h3:c<=c'):Sz Y a' b' c':=⟨le_trans z.bd h1,λx hx=>le_trans (z.hs x hx) h2,le_trans z.wy h3,z.ks⟩
theorem OJ (Y:Wd)(h:Int){os:List O}{i:Nat}{o:O}(e:os[i]?=some o):Y.zb h (os.take (i+1))=(Y.zb h (os.take i)).bI h o:=by unfold Wd.zb;rw[take_snoc e,foldl_append];rfl
theorem Sz.zb {Y:Wd}{a b c:Nat}(z:Sz Y a b c)(h:Int){os:List O}:∀i,i<=os.length->Sz (Y.zb h (os.take i)) (a+i) (b+i) (c+16*i)
 |0,_=>z
 |i+1,hi=>by rw[OJ Y h (getElem?_eq_getElem (show i<os.length by lia))];exact((Sz.zb z h i (by lia)).bI h _).mono (by lia) (by lia) (by lia)
theorem OK {k:List Int}:∀{is:x8},qc is k=[]\/∃x∈is,qc is k=x.2
 |[]=>.inl rfl
 | p::ps=>by
  unfold qc;split
  .exact .inr ⟨p,mem_cons_self,rfl⟩
  .rcases OK (k:=k) (is:=ps)with h|⟨x,hx,e⟩
   .exact .inl h
   .exact .inr ⟨x,mem_cons_of_mem _ hx,e⟩
theorem Sz.hl {Y:Wd}{a b c:Nat}(z:Sz Y a b c)(k:List Int):(qc Y.bd k).length<=b:=by
 rcases OK (k:=k) (is:=Y.bd)with h|⟨x,hx,e⟩
 .rw[h];exact zero_le _
 .rw[e];exact z.hs x hx
open Classical in
noncomputable def kU (Z : ar) (id:Nat) (aa bF:List (List Key × V)) : ar:=λa=>if ∃ kv ∈ bF,kv.2 = .ref a then some (id,.sg) else if ∃ kv ∈ aa,kv.2 = .ref a then none else Z a
theorem ui (T:Txt K mg t):xl P w K mg base CX0 2 t.FG t.FH ["self","house","orders"] (λvs H Q _=>∃Z id W Y h r xs os a b c,vs=[.ref W.x,.int h,.ref r]/\qu t H Z id W Y/\ay Z H/\H r=some (.lst xs)/\(∀ro,Z r=some ro->¬rP id ro)/\Paired (zu H Z) xs os/\Sz Y a b c/\a+os.length<=1000/\b+os.length<=1000/\c+16*os.length<=100000/\∀Z' H',qu t H' Z' id W (Y.zb h os)->Fr (rP id) Z H Z' H'->ay Z' H'->Q .aq H'):=by
 refine T.Zz.cL Nh λ_ A _ s H vs Q E hr h=>?_;obtain⟨Z,id,W,Y,h,r,xs,os,a,b,c,rfl,O,kr,hx,nr,px,sz,la,lb,lc,k⟩:=h;refine⟨_,(@jg _ _ _ (ij PassesOwn.never rfl (@gh _ _ _ _ (pv 2)) (jr (i:=3) Nh.nd rfl (Or.inl rfl)) (@jg _ _ _ (zk (zl (qj (qd (pv 0) rfl) T.xx T.YL (jum T) hr.dn T.YM .nil ju (@vd _ _ _ _ _ (pv 1) (pv 3) rfl rfl))) (@jg _ _ _ (qb (qj (pv 0) T.jl T.vn (OH T) hr.dn T.gd .nil ju (@vd _ _ _ _ _ (zg (v:=.str "paper") rfl T.N1.choose_spec ⟨_,rfl⟩) (pv 3) rfl rfl)))) qe)))),?_⟩;have lx:xs.length=os.length:=Paired.length px;refine⟨_,rfl,r,rfl,⟨_,ah.of hx⟩,yM (K:=K) (a:=r) (xs:=xs) (λi U H'=>∃v Z',U=[some (.ref W.x),some (.int h),some (.ref r),v]/\qu t H' Z' id W (Y.zb h (os.take i))/\Fr (rP id) Z H Z' H'/\ay Z' H') ⟨none,Z,rfl,O,Fr.refl,kr⟩ (λi U H' _ ⟨_,Z',_,_,f,_⟩=>ah.of (f _ _ hx nr).1) ?_ ?_⟩
 .rintro i x U H1 ex ⟨v,Z1,rfl,O1,f1,bN⟩
  obtain⟨o,eo,uo⟩:=j7 px ex;have uo1:=uo.fr f1;obtain⟨q,rfl,nq,hq⟩:=uo1;have hi:=(List.getElem?_eq_some_iff.mp eo).1;have z1:=sz.zb h (os:=os) i (by omega);rw[OJ Y h eo];generalize Y.zb h (os.take i)=Y1 at O1 z1⊢;obtain⟨rb,rS,aa,Bq,sg⟩:=O1.bd;have ek:qq (bP Y1.bd) (cP o)=qc Y1.bd (yh o):=wH (yh o) Y1.bd;have lk:aa.length<=1000:=by rw[Paired.length Bq.hs,bP,length_map];have:=z1.bd;omega
  have lh:=z1.hl (yh o);refine⟨_,rfl,W.x,_,W.dx,_,_,rfl,O1.ob.1,T.jl,T.xr,wG,W.bd,W.db,_,rfl,Bq.ob,vW _ _ (by decide+kernel) (by decide+kernel),_,rfl,_,rfl,W.bd,W.db,W.S,Y1.en,aa,bP Y1.bd,q,cP o,h,rfl,Bq,hq,lk,by rw[ek];omega,λhm H2 s2=>?_,λhm bF H2 B2 k2 HM=>?_⟩
  .rw[ek]at hm;refine⟨_,rfl,ka ⟨_,Z1,rfl,?_,f1.trans (Fr.same s2),bN.same s2⟩⟩;have e:Y1.bI h o=Y1:=by
    unfold Wd.bI Wd.put;rw[if_pos hm];rfl
   rw[e];exact O1.fr (P:=λ_=>False) (λ_ z=>z) (Fr.same s2)
  .rw [ek]at hm;rw[ek];have HN:∀{a:Addr},(∃kv∈aa,kv.2= .ref a)->Z1 a=some (id,.sg):=λ{a} ⟨kv,m,e⟩=>by
    obtain⟨c,ec,rc⟩:=sg kv m;rw[e]at ec;cases ec;exact rc
   have f2:Fr (rP id) Z1 H1 (kU Z1 id aa bF) H2:=λa u e n=>by have n1:¬∃kv∈aa,kv.2= .ref a:=λz=>n _ (HN z) (.inr (.inr rfl));have n2:NotIn aa a:=λkv m e=>n1 ⟨kv,m,e⟩;have n3:¬∃kv∈bF,kv.2= .ref a:=λ⟨kv,m,e'⟩=>HM a u e n2 kv m e';refine⟨k2 a u e (λz=>n _ (z ▸ rS) (.inr (.inl rfl))) n2,?_⟩;unfold kU;rw[if_neg n3,if_neg n1]
   have bW:ay (kU Z1 id aa bF) H2:=λa ro e=>by
    unfold kU at e;split at e
    .rename_i hm';obtain⟨kv,m,ev⟩:=hm';obtain⟨j,hj,ej⟩:=mem_iff_getElem.mp m;obtain⟨pp,_,_,c,ec,hc⟩:=j7 B2.hs (by rw[getElem?_eq_getElem hj,ej]);rw[ev]at ec;cases ec;exact⟨_,hc,True.intro⟩
    .split at e
     .cases e
     .rename_i n1;obtain⟨u,hu,nu⟩:=bN a ro e;by_cases z:a=W.S
      .subst z;exact⟨_,B2.sg,True.intro⟩
      .exact⟨u,k2 a u hu z (λkv m e=>n1 ⟨kv,m,e⟩),nu⟩
   have O2:qu t H2 (kU Z1 id aa bF) id W {Y1 with bd:=dq Y1.bd (yh o) h}:=by
    refine O1.but f2 _ (pO (by intro z;cases z) (by intro z;cases z) (by intro z;cases z)) rfl rfl (um f2 (pO (by intro z;cases z) (by intro z;cases z) (by intro z;cases z)) λ_ _=>pO (by intro z;cases z) (by intro z;cases z) (by intro z;cases z)) (λA4 A5 _=>?_) (mC f2 (pO (by intro z;cases z) (by intro z;cases z) (by intro z;cases z)) λ_=>pO (by intro z;cases z) (by intro z;cases z) (by intro z;cases z)) (λcK pN=>?_)
    .have e:=OE (yh o) h Y1.bd;rw[show cH (yh o)=cP o from rfl]at e;rw[e]at B2;have nS:∀{a:Addr}{r:Role}{u:HO},Z1 a=some r->H1 a=some u->r≠(id,.sg)->kU Z1 id aa bF a=some r:=λ{a r u} er eu n=>by
      have n1:¬∃kv∈aa,kv.2= .ref a:=λz=>n (Option.some.inj (er.symm.trans (HN z)));have n3:¬∃kv∈bF,kv.2= .ref a:=λ⟨kv,m,e'⟩=>HM a u eu (λkv m e=>n1 ⟨kv,m,e⟩) kv m e';unfold kU;rw[if_neg n3,if_neg n1];exact er
     refine⟨nS rb Bq.ob (by intro z;cases z),nS rS Bq.sg (by intro z;cases z),bF,B2,λkv m=>?_⟩;obtain⟨j,hj,ej⟩:=mem_iff_getElem.mp m;obtain⟨pp,_,_,c,ec,hc⟩:=j7 B2.hs (by rw[getElem?_eq_getElem hj,ej]);refine⟨c,ec,?_⟩;unfold kU;rw[if_pos ⟨kv,m,ec⟩]
    .obtain⟨ws,h1,p1⟩:=pN;have n1:¬∃kv∈aa,kv.2= .ref W.wy:=λz=>by
      have:=HN z;rw[cK]at this;cases this
     have n2:NotIn aa W.wy:=λkv m e=>n1 ⟨kv,m,e⟩;have n3:¬∃kv∈bF,kv.2= .ref W.wy:=λ⟨kv,m,e'⟩=>HM _ _ h1 n2 kv m e';refine⟨?_,ws,k2 _ _ h1 (fF cK rS (by intro z;cases z)) n2,Paired.xt p1 λ_ _=>cA.fr f2⟩;unfold kU;rw[if_neg n3,if_neg n1];exact cK
   have ev:Y1.put h o=({Y1 with bd:=dq Y1.bd (yh o) h},decide (((qc Y1.bd (yh o)).length:Int)+1=Y1.en)):=by unfold Wd.put;rw[if_neg hm]
   refine⟨_,rfl,bp (λz=>?_) (λz=>?_)⟩
   .have zp:=z1.put h o;rw[ev]at zp;have hq2:zu H2 (kU Z1 id aa bF) (.ref q) o:=zu.fr f2 ⟨q,rfl,nq,hq⟩;refine⟨_,rfl,W.x,W.dx,_,rfl,O2.ob.1,xo,_,rfl,_,id,W,_,false,q,o,rfl,O2,bW,hq2,by show Y1.way.length<=100000;have:=z1.wy;omega,zp.ks,λH3 O3 f3 iI=>⟨_,_,rfl,?_,(f1.trans f2).trans (f3.mono λr hr=>.inl hr),iI⟩⟩;have e:Y1.bI h o=Wd.post {Y1 with bd:=dq Y1.bd (yh o) h} false o:=by
     unfold Wd.bI;rw[ev,if_pos z]
    rw[e];exact O3
   .refine⟨_,_,rfl,?_,f1.trans f2,bW⟩;have e:Y1.bI h o={Y1 with bd:=dq Y1.bd (yh o) h}:=by
     unfold Wd.bI;rw[ev,if_neg z]
    rw[e];exact O2
 .rintro U H1 ⟨v,Z1,rfl,O1,f1,bN⟩
  rw[lx,take_length]at O1;exact k Z1 H1 O1 f1 bN
theorem A6 (ks:List (Int×Kp))(h:Int)(B:Kp):(cv ks h B).length=ks.length:=length_map ..
theorem OL {t:Ad}{H:Hp}{Z:ar}{id:Nat}{h:Int}{B:Kp}:∀{aa:List (Key×V)}{ks:List (Int×Kp)},xn t H Z id aa ks->(ks.find? λc=>decide (c.1=h)).map (·.2)=some B->∃k A dk,aX aa (.inl h)=some (.ref k)/\xi t H Z id h k A dk B:=λ{aa ks} q e=>by
 unfold xn at q;induction q with
 |nil=>cases e
 |@cons kv c aa ks a r ih=>
  obtain⟨e1,k,A,dk,e2,R⟩:=a;by_cases z:c.1=h
  .rw[find?_cons,decide_eq_true z]at e;obtain rfl:c.2=B:=Option.some.inj e;subst z;exact⟨k,A,dk,by rw[w6 (by rw[e1]),e2],R⟩
  .rw[find?_cons,decide_eq_false z]at e;obtain⟨k',A',dk',v,R'⟩:=ih e;exact⟨k',A',dk',by rw[wg (λy=>z (Sum.inl.inj (e1.symm.trans y)))];exact v,R'⟩
theorem jyy {t:Ad}{H H':Hp}{Z Z':ar}{id:Nat}{h:Int}{κ':Kp}{k:Addr}{A':Nat->Addr}{dk:Addr}(f:Fr (bu id h) Z H Z' H')(R':xi t H' Z' id h k A' dk κ'):∀{aa:List (Key×V)}{ks:List (Int×Kp)},(ks.map (·.1)).Nodup->aX aa (.inl h)=some (.ref k)->xn t H Z id aa ks->xn t H' Z' id aa (cv ks h κ'):=λ{aa ks} nd ev q=>by
 unfold xn at q;induction q with
 |nil=>exact .nil
 | @cons kv c aa ks a r ih=>
  obtain⟨e1,k0,A,dk0,e2,R⟩:=a;rw[map_cons,nodup_cons]at nd;show Paired _ (kv::aa) ((if c.1=h then(h,κ')else c)::cv ks h κ');have oth:∀{aa:List (Key×V)}{ks:List (Int×Kp)},h∉ks.map (·.1)->xn t H Z id aa ks->xn t H' Z' id aa (cv ks h κ'):=λ{aa ks} nh q=>by
   induction q with
   |nil=>exact .nil
   |cons a _ ih=>rename_i b _ _ _;rw[map_cons,mem_cons]at nh;obtain⟨x1,x2,x3,x4,x5,x6⟩:=a;have nb:¬b.1=h:=λz=>nh (.inl z.symm);show Paired _ (_::_) ((if b.1=h then(h,κ')else b)::cv _ h κ');rw[if_neg nb];exact .cons ⟨x1,x2,x3,x4,x5,x6.fr (λi ⟨j,e⟩=>nb (by cases e;rfl)) f⟩ (ih λz=>nh (.inr z))
  by_cases z:c.1=h
  .subst z;rw[if_pos rfl];rw[w6 (by rw[e1])]at ev;exact .cons ⟨e1,k,A',dk,Option.some.inj ev,R'⟩ (oth nd.1 r)
  .rw[if_neg z];refine .cons ⟨e1,k0,A,dk0,e2,R.fr (λi ⟨j,e⟩=>z (by cases e;rfl)) f⟩ (ih nd.2 ?_);rw[wg (λy=>z (Sum.inl.inj (e1.symm.trans y)))]at ev;exact ev
theorem qu.OM {t:Ad}{H H':Hp}{Z Z':ar}{id:Nat}{W:WA}{Y:Wd}{h:Int}{κ':Kp}{k:Addr}{A':Nat->Addr}{dk:Addr}(f:Fr (bu id h) Z H Z' H')(O:qu t H Z id W Y)(nd:(Y.ks.map (·.1)).Nodup)(ek:∀aa,H W.kd=some (.dK aa)->aX aa (.inl h)=some (.ref k))(R':xi t H' Z' id h k A' dk κ'):qu t H' Z' id W {Y with ks:=cv Y.ks h κ'}:=by have no:∀{p:Part},(∀i,p≠.kp h i)->¬bu id h (id,p):=λhp ⟨i,e⟩=>hp i (Prod.mk.inj e).2;refine O.but f _ (no λ_ z=>by cases z) rfl rfl (λrk hk=>?_) (iK f (no λ_ z=>by cases z) (no λ_ z=>by cases z) (no λ_ z=>by cases z)) (mC f (no λ_ z=>by cases z) λ_=>no λ_ z=>by cases z) (HJ f (no λ_ z=>by cases z));obtain⟨aa,h1,q⟩:=hk;obtain⟨h2,r2⟩:=dH f h1 rk (no λ_ z=>by cases z);exact⟨r2,aa,h2,jyy f R' nd (ek aa h1) q⟩
theorem HP (T:Txt K mg t):xl P w K mg base CX0 2 t.FA t.FC ["self","house"] (λvs H Q _=>∃Z id W Y h B,vs=[.ref W.x,.int h]/\qu t H Z id W Y/\Y.keep h=some B/\∀k A dk,xi t H Z id h k A dk B->Q (.ref k) H):=by
 refine T.Zl.bj (N:=["self","house"]) λ_ A _ s H vs Q E hr h=>?_;obtain⟨Z,id,W,Y,h,B,rfl,O,e,g⟩:=h;refine⟨_,(@jd _ _ _ _ _ (zk (PW.pt (gC (xu (zl (jn (AY T) hr.dn rfl T.AU T.vT.kp T.AV .nil ju (je (pv 1) ji)))) (gS (yG (Di (gU hr) (pv 1) (qd (pv 0) rfl)))))) qw qe) (@jg _ _ _ (j6 (K6 (gU hr) (qd (pv 0) rfl) (pv 1) (λ_ _=>rfl))))),?_⟩;obtain⟨rk,aa,hk,ks⟩:=O.kd;obtain⟨k,A',dk,ev,R⟩:=OL ks e;refine⟨_,rfl,h,rfl,_,rfl,ka ?_⟩;refine⟨_,rfl,_,rfl,W.x,_,W.dx,_,_,rfl,O.ob.1,T.jl,T.qp,pq,W.kd,some (.ref k),rfl,.inl ⟨aa,.inl h,.inl hk,rfl,ev.symm⟩,_,rfl,ka ?_⟩;exact⟨_,rfl,W.x,_,W.dx,_,_,rfl,O.ob.1,T.jl,T.qp,pq,_,rfl,W.kd,.ref k,rfl,.inl ⟨aa,.inl h,.inl hk,rfl,ev.symm⟩,g k A' dk R⟩
theorem gc (T:Txt K mg t):xl P w K mg base CX0 3 t.kj t.ub ["self","purse"] (λvs H Q _=>∃Z id W Y p,vs=[.ref W.x,.int p]/\qu t H Z id W Y/\0<=p/\p<(Y.n:Int)/\Q .aq H):=by refine T.Zp.bj (N:=["self","purse"]) λ_ A _ s H vs Q E hr h=>?_;obtain⟨Z,id,W,Y,p,rfl,O,p0,p1,g⟩:=h;refine⟨_,(@jg _ _ _ (zk (xu (zl (jn (qx T) hr.dn rfl T.qy T.qv.kp T.qz .nil ju (@cq _ _ _ _ _ _ _ (pv 1) jq (zt iT (qd (pv 0) rfl) jq) rfl rfl rfl)))) qw qe)),?_⟩;refine⟨_,rfl,_,rfl,W.x,_,W.dx,_,_,rfl,O.ob.1,T.jl,T.vg,HE,_,_,rfl,rfl,p,0,(Y.n:Int)-1,rfl,_,rfl,?_⟩;rw[decide_eq_true (show 0<=p/\p<=(Y.n:Int)-1 from⟨p0,by omega⟩)];exact ka g
theorem ji7 (T:Txt K mg t):xl P w K mg base (dE P w) 4 t.ko t.ky ["self","purse","goal"] (λvs H Q E=>∃Z id W Y p q,vs=[.ref W.x,.int p,.int q]/\qu t H Z id W Y/\(0<=p/\p<(Y.n:Int))/\(0<=q/\q<(Y.n:Int))/\q≠p/\(p∈Y.y3->∀d H',yi H H'->E (.ref t.xf) (some d) H')/\(p∉Y.y3->Q .aq H)):=by
 refine T.Zr.W2 (N:=["self","purse","goal"]) λ_ A _ s H vs Q E hr h=>?_;obtain⟨Z,id,W,Y,p,q,rfl,O,hp,hq,nq,gx,g⟩:=h;refine⟨_,(@jd _ _ _ _ _ (qb (qj (pv 0) T.jl T.xy (gc T) hr.dn T.yl .nil ju (je (pv 1) ji))) (@jd _ _ _ _ _ (qb (qj (pv 0) T.jl T.xy (gc T) hr.dn T.yl .nil ju (je (pv 2) ji))) (@jg _ _ _ (zk (PW.pt (gC (j3 KP (pv 1) (qd (pv 0) rfl) (by with_unfolding_all rfl)) (gS (j3 gD (pv 2) (pv 1) (qi _))))) (@jg _ _ _ (Xd rfl T.N5 T.Ny (jkb T) hr.dn T.Yz (je (pv 1) ji))) qe)))),?_⟩;refine⟨_,rfl,W.x,W.dx,_,rfl,O.ob.1,xo,_,rfl,Z,id,W,Y,p,rfl,O,hp.1,hp.2,?_⟩;refine⟨_,rfl,W.x,W.dx,_,rfl,O.ob.1,xo,_,rfl,Z,id,W,Y,q,rfl,O,hq.1,hq.2,?_⟩;refine⟨_,rfl,_,rfl,W.x,_,W.dx,_,_,rfl,O.ob.1,T.jl,T.ye,HF,W.ch,_,rfl,.inl (ah.of O.ch.1),rfl,mr _,_,rfl,?_⟩;refine bp (λz=>?_) (λz=>?_)
 .rw[if_neg (by decide),wj]at z;refine bT ⟨_,rfl,pJ,λea nU=>⟨ea,_,rfl,jc,λd hd=>?_⟩⟩;obtain⟨g1,g2,g3,g4⟩:=qam (Yq:=pE ea t.xf d) (Zq:=.xd [("purse",.int p)]) nU hd;exact⟨rfl,d,g2,gx (of_decide_eq_true z) d _ g3⟩
 .rw[if_neg (by decide),wj]at z;refine⟨_,rfl,_,rfl,rfl,_,rfl,bp (λy=>?_) (λ_=>g λy=>z (decide_eq_true y))⟩;exact absurd (V.int.inj (of_decide_eq_true y)) nq
theorem ON (T:Txt K mg t):xl P w K mg base CX0 5 t.pd t.pe ["self","order"] (λvs H Q _=>∃Z id W Y q o,vs=[.ref W.x,.ref q]/\qu t H Z id W Y/\H q=some (.tup (cz o))/\yy Y.n o=true/\Q .aq H):=by refine T.Zu.bj (N:=["self","order"]) λ_ A _ s H vs Q E hr h=>?_;obtain⟨Z,id,W,Y,q,o,rfl,O,hq,ho,g⟩:=h;refine⟨_,(@jg _ _ _ (zk (xu (zl (qS (Hi T) hr.dn rfl T.GO T.AW.kp T.Nm ju (je (pv 1) ji) (iV (qd (pv 0) rfl) oP)))) qw qe)),?_⟩;refine⟨_,rfl,_,rfl,W.x,_,W.dx,_,_,rfl,O.ob.1,T.jl,T.vg,HE,q,o,(Y.n:Int),rfl,hq,_,rfl,?_⟩;rw[ho];exact ka g
theorem HQ (T:Txt K mg t):xl P w K mg base CX0 3 t.Fy t.Fz ["self"] (λvs H Q _=>∃Z id W Y,vs=[.ref W.x]/\qu t H Z id W Y/\Y.bd.length<64/\(Y.bd.map (·.1)).Nodup/\(∀x∈Y.bd,x.1≠[])/\∀(r:Addr)(bH:List V)(eA:List (List Int))(H':Hp),H r=none->yi H H'->eA.Perm (yr Y.bd Y.en)->Paired (jL H') bH eA->H' r=some (.lst bH)->Q (.ref r) H'):=by
 refine T.Zk.bj (N:=["self"]) λ_ A _ s H vs Q E hr h=>?_;obtain⟨Z,id,W,Y,rfl,O,l,nd,ne,g⟩:=h;refine⟨_,(@jg _ _ _ (j6 (gu (qd (pv 0) rfl) T.xx T.YO (joq T) hr.dn T.YQ .nil ju))),?_⟩;obtain⟨rb,rS,aa,Bq,sg⟩:=O.bd;have lk:aa.length<64:=by rw[Paired.length Bq.hs,bP,length_map];exact l
 exact⟨_,rfl,W.x,_,W.dx,_,_,rfl,O.ob.1,T.jl,T.xr,wG,W.bd,W.db,_,rfl,Bq.ob,vW _ _ (by decide+kernel) (by decide+kernel),W.bd,W.db,W.S,Y.en,aa,Y.bd,rfl,Bq,lk,nd,ne,g⟩
theorem jq5 (T:Txt K mg t):xl P w K mg base CX0 6 t.FK t.FL ["self","order","house"] (λvs H Q _=>∃Z id W Y q o h B,vs=[.ref W.x,.ref q,.int h]/\qu t H Z id W Y/\ay Z H/\zu H Z (.ref q) o/\yy Y.n o=true/\o.p∈Y.y3/\Y.keep h=some B/\Y.way.length<=100000/\∀H',qu t H' Z id W {Y with way:=Y.way++[(true,h,o)]}->Fr (fG id .wy) Z H Z H'->ay Z H'->Q .aq H'):=by
 refine T.ZC.bj (N:=["self","order","house"]) λ_ A _ s H vs Q E hr h=>?_;obtain⟨Z,id,W,Y,q,o,h,B,rfl,O,kr,uq,ho,oc,ek,l,g⟩:=h;refine⟨_,(@jd _ _ _ _ _ (qb (qj (pv 0) T.jl T.gb (ON T) hr.dn T.kz .nil ju (je (pv 1) ji))) (@jd _ _ _ _ _ (zk (j3 yY (cC kJ (pv 1) jq (λ_ _=>rfl)) (qd (pv 0) rfl) (by with_unfolding_all rfl)) qw qe) (@jd _ _ _ _ _ (qb (qj (pv 0) T.jl T.y8 (HP T) hr.dn T.vy .nil ju (je (pv 2) ji))) (@jg _ _ _ (qb (dZ PySem.F.plainAttrs_list PySem.F.slot_list_append PySem.F.type_list_append yg (qd (pv 0) rfl) (je (@kH _ _ _ _ _ (@cq _ _ _ _ _ _ _ (zg (v:=.str "order") rfl T.Hb.choose_spec ⟨_,rfl⟩) (pv 2) (pv 1) rfl rfl rfl)) ji))))))),?_⟩;have wJ:=uq;obtain⟨_,eq,nq,hq⟩:=wJ;cases eq;refine⟨_,rfl,W.x,W.dx,_,rfl,O.ob.1,xo,_,rfl,Z,id,W,Y,q,o,rfl,O,hq,ho,?_⟩;refine⟨_,rfl,q,cz o,0,.int o.p,rfl,rfl,aA.of hq,rfl,_,rfl,W.x,_,W.dx,_,_,rfl,O.ob.1,T.jl,T.ye,HF,W.ch,_,rfl,.inl (ah.of O.ch.1),rfl,mr _,_,rfl,?_⟩;rw[if_pos rfl,wj,decide_eq_true oc];refine ka ?_;refine⟨_,rfl,W.x,W.dx,_,rfl,O.ob.1,xo,_,rfl,Z,id,W,Y,h,B,rfl,O,ek,λk A' dk R=>?_⟩;obtain⟨eN,xs,hw,pw⟩:=O.wy;refine⟨_,rfl,W.x,_,W.dx,_,_,rfl,O.ob.1,T.jl,T.zi,rM,.inl ⟨rfl,_,ah.of hw⟩,_,rfl,_,rfl,nW,λp np=>?_⟩;have sp:=jh (o:=.tup [.str "order",.int h,.ref q]) np;have lx:xs.length<=1000000:=by rw[Paired.length pw];omega
 refine⟨W.wy,xs,.ref p,rfl,rfl,sp _ _ hw,big lx,?_⟩;have O1:=O.fr (P:=λ_=>False) (λ_ z=>z) (Fr.same sp);have bN:=kr.same sp;have f2:Fr (fG id .wy) Z (upd H p (.tup [.str "order",.int h,.ref q])) Z (upd (upd H p (.tup [.str "order",.int h,.ref q])) W.wy (.lst (xs++[.ref p]))):=Fr.put eN rfl;have f0:Fr (fG id .wy) Z H Z (upd H p (.tup [.str "order",.int h,.ref q])):=Fr.same sp;refine g _ (O1.but f2 _ jz rfl rfl (um f2 jz (λ_ _=>jz)) (iK f2 jz jz jz) (mC f2 jz (λ_=>jz)) (λ_ _=>⟨eN,_,jc,?_⟩)) (f0.trans f2) bN.put;have mv:=kr.none np;refine qo (Paired.xt pw λ_ _=>cA.fr (f0.trans f2)) ⟨p,q,rfl,mv,?_,uq.fr (f0.trans f2)⟩;rw[jf (A0 mv eN),jc];rfl
theorem jtd {α β:Type}{F:α->β->Prop}{xs:List α}{ys:List β}{j:Nat}(h:Paired F xs ys):Paired F (xs.eraseIdx j) (ys.eraseIdx j):=Hy h
structure OO (B:Kp)(m:Nat):Prop where
 hd:B.dQ.length<=m
 uc:B.aQ.length+B.cho.length<=m
 dw:B.done.length+B.wait.length<=m
theorem jsj (T:Txt K mg t):xl P w K mg base CX0 8 t.FR t.FT ["self","at"] (λvs H Q _=>∃Z id W Y i l B a b c,vs=[.ref W.x,.int (i:Nat)]/\qu t H Z id W Y/\ay Z H/\Y.way[i]?=some l/\Y.keep l.2.1=some B/\(Y.ks.map (·.1)).Nodup/\B.Ok Y.n/\Y.n<=8/\yy Y.n l.2.2=true/\OO B 900/\Sz Y a b c/\a+(B.take l.1 l.2.2).2.length<=1000/\b+(B.take l.1 l.2.2).2.length<=1000/\c+16*(B.take l.1 l.2.2).2.length<=100000/\∀Z' H' x,qu t H' Z' id W (Y.jQ i l B)->Fr (λr=>r.1=id) Z H Z' H'->ay Z' H'->cA H' Z' x l->Q x H'):=by
 refine T.ZJ.cL we λ_ A _ s H vs Q E hr h=>?_;obtain⟨Z,id,W,Y,i,l,B,a,b,c,rfl,O,kr,el,ek,nd,ag,n8,ho,rQ,sz,la,lb,lc,g⟩:=h;refine⟨_,(@jd _ _ _ _ _ (zk (xu (zl (jn (qx T) hr.dn rfl T.qy T.qv.kp T.qz .nil ju (@cq _ _ _ _ _ _ _ (pv 1) jq (zt iT (jo jw rfl T.cO boot_len (je (qd (pv 0) rfl) ji)) jq) rfl rfl rfl)))) qw qe) (@jd _ _ _ _ _ (j9 (i:=2) we.nd rfl (Or.inl rfl) (dZ PySem.F.plainAttrs_list PySem.F.slot_list_pop PySem.F.type_list_pop SU (qd (pv 0) rfl) (je (pv 1) ji))) (@jd _ _ _ _ _ (lH (pv 2) (lG rfl (jy (jr (i:=3) we.nd rfl (Or.inl rfl)) (jy (jr (i:=4) we.nd rfl (Or.inl rfl)) (jy (jr (i:=5) we.nd rfl (Or.inl rfl)) kE))))) (@jd _ _ _ _ _ (j9 (i:=6) we.nd rfl (Or.inl rfl) (K6 (gU hr) (qd (pv 0) rfl) (pv 4) (λ_ _=>rfl))) (@jd _ _ _ _ _ (zk (j3 gD (pv 3) (zg (v:=.str "order") rfl T.Hb.choose_spec ⟨_,rfl⟩) (qi _)) (@jg _ _ _ (qb (qj (pv 0) T.jl T.y6 (ui T) hr.dn T.wo .nil ju (@vd _ _ _ _ _ (pv 4) (qj (pv 6) T.jt T.Zb (jq1 T) hr.dn T.Zc .nil ju (je (pv 5) ji)) rfl rfl)))) (@jg _ _ _ (qb (qj (pv 0) T.jl T.y6 (ui T) hr.dn T.wo .nil ju (@vd _ _ _ _ _ (pv 4) (qj (pv 6) T.jt T.Ze (ji9 T) hr.dn T.Zf .nil ju (je (pv 5) ji)) rfl rfl))))) (@jg _ _ _ (j6 (pv 2)))))))),?_⟩;obtain⟨eN,xs,hw,pw⟩:=O.wy;have lx:xs.length=Y.way.length:=Paired.length pw;have hi:=(List.getElem?_eq_some_iff.mp el).1;have wl:=sz.wy;refine⟨_,rfl,_,rfl,W.x,_,W.dx,_,_,rfl,O.ob.1,T.jl,T.zi,rM,W.wy,xs,rfl,.inl (ah.of hw),_,_,rfl,rfl,(i:Int),0,(xs.length:Int)-1,rfl,_,rfl,?_⟩;rw[decide_eq_true (show 0<=(i:Int)/\(i:Int)<=(xs.length:Int)-1 by omega)];refine ka ?_;obtain⟨x,ex,ux⟩:=Ap pw el;refine⟨_,rfl,W.x,_,W.dx,_,_,rfl,O.ob.1,T.jl,T.zi,rM,.inl ⟨rfl,_,ah.of hw⟩,_,rfl,W.wy,xs,(i:Int),i,x,rfl,rfl,hw,by omega,by omega,?_,ex,?_⟩
 .unfold seqIndex?;simp;omega
 have f1:Fr (fG id .wy) Z H Z (upd H W.wy (.lst (xs.eraseIdx i))):=Fr.put eN rfl;have O1:qu t (upd H W.wy (.lst (xs.eraseIdx i))) Z id W {Y with way:=Y.way.eraseIdx i}:=O.but f1 _ jz rfl rfl (um f1 jz (λ_ _=>jz)) (iK f1 jz jz jz) (mC f1 jz (λ_=>jz)) (λ_ _=>⟨eN,_,jc,jtd (Paired.xt pw λ_ _=>cA.fr f1)⟩);have bN:=kr.put (a:=W.wy) (o:=.lst (xs.eraseIdx i));have OP:=ux.fr f1;generalize upd H W.wy (.lst (xs.eraseIdx i))=H1 at f1 O1 bN OP;obtain⟨la',q,rfl,nl,hl,uq⟩:=OP;refine⟨_,rfl,la',_,rfl,aA.of hl,rfl,_,_,rfl,_,_,rfl,_,_,rfl,rfl,?_⟩;obtain⟨rk,aa,hk,ks⟩:=O1.kd;obtain⟨k,A',dk,ev,R⟩:=OL ks ek;refine⟨_,rfl,W.x,_,W.dx,_,_,rfl,O1.ob.1,T.jl,T.qp,pq,_,rfl,W.kd,.ref k,rfl,.inl ⟨aa,.inl l.2.1,.inl hk,rfl,ev.symm⟩,?_⟩;obtain⟨wb,h,o⟩:=l;cases wb with
 |true=>
  refine⟨_,rfl,rfl,_,rfl,bT ?_⟩;refine⟨_,rfl,W.x,W.dx,_,rfl,O1.ob.1,xo,_,rfl,_,rfl,k,dk,_,rfl,R.ob,fW A',_,rfl,Z,id,h,k,A',dk,B,Y.n,q,o,rfl,R,uq,ag,n8,ho,rQ.hd,rQ.uc,rQ.dw,bN,λZ2 H2 A2 r ys R2 f2 bW rr mD pr=>?_⟩;have O2:=O1.OM f2 nd (λbF mB=>by rw[hk]at mB;cases mB;exact ev) R2;have z2:Sz {{Y with way:=Y.way.eraseIdx i}with ks:=cv Y.ks h (Kp.oa B o).1} a b c:=⟨sz.bd,sz.hs,le_trans (length_eraseIdx_le _ _) sz.wy,by show(cv _ _ _).length<=16;rw[A6];exact sz.ks⟩;refine⟨Z2,id,W,_,h,r,ys,(Kp.oa B o).2,a,b,c,rfl,O2,bW,mD,λro e=>?_,pr,z2,la,lb,lc,λZ3 H3 O3 f3 iI=>?_⟩
  .rw[rr]at e;cases e;exact pO (by intro z;cases z) (by intro z;cases z) (by intro z;cases z)
  .have fr:Fr (λr=>r.1=id) Z H Z3 H3:=((f1.mono λr hr=>by rw[hr]).trans (f2.mono λr ⟨j,hr⟩=>by rw[hr])).trans (f3.mono λr hr=>by rcases hr with hr|hr|hr<;>rw[hr]);exact⟨_,rfl,g Z3 H3 _ O3 fr iI (cA.fr fr ux)⟩
 |false=>
  refine⟨_,rfl,rfl,_,rfl,ka ?_⟩;refine⟨_,rfl,W.x,W.dx,_,rfl,O1.ob.1,xo,_,rfl,_,rfl,k,dk,_,rfl,R.ob,fW A',_,rfl,Z,id,h,k,A',dk,B,Y.n,q,o,rfl,R,uq,ag,n8,ho,rQ.hd,rQ.uc,rQ.dw,bN,λZ2 H2 A2 r ys R2 f2 bW rr mD pr=>?_⟩;have O2:=O1.OM f2 nd (λbF mB=>by rw[hk]at mB;cases mB;exact ev) R2;have z2:Sz {{Y with way:=Y.way.eraseIdx i}with ks:=cv Y.ks h (Kp.jN B o).1} a b c:=⟨sz.bd,sz.hs,le_trans (length_eraseIdx_le _ _) sz.wy,by show(cv _ _ _).length<=16;rw[A6];exact sz.ks⟩;refine⟨Z2,id,W,_,h,r,ys,(Kp.jN B o).2,a,b,c,rfl,O2,bW,mD,λro e=>?_,pr,z2,la,lb,lc,λZ3 H3 O3 f3 iI=>?_⟩
  .rw[rr]at e;cases e;exact pO (by intro z;cases z) (by intro z;cases z) (by intro z;cases z)
  .have fr:Fr (λr=>r.1=id) Z H Z3 H3:=((f1.mono λr hr=>by rw[hr]).trans (f2.mono λr ⟨j,hr⟩=>by rw[hr])).trans (f3.mono λr hr=>by rcases hr with hr|hr|hr<;>rw[hr]);exact⟨_,rfl,g Z3 H3 _ O3 fr iI (cA.fr fr ux)⟩
def Kp.rR (B:Kp)(p:Int)(os:List O):Int:=gI B.held p-((os.filter λo=>!B.past o).map λo=>o.m).sum
theorem jmx (T:Txt K mg t):xl P w K mg base CX0 2 t.Fm t.Fo ["self","purse","orders"] (λvs H Q _=>∃Z id h k A dk B n p r xs os,vs=[.ref k,.int p,.ref r]/\xi t H Z id h k A dk B/\B.Ok n/\0<=p/\p<(n:Int)/\H r=some (.lst xs)/\Paired (zu H Z) xs os/\(∀o∈os,yy (n:Nat) o=true)/\os.length<=1000/\∀H',yi H H'->Q (.int (B.rR p os)) H'):=by
 refine T.Y2.bj (N:=["self","purse","orders"]) λ_ A _ s H vs Q E hr h=>?_;obtain⟨Z,id,h,k,A',dk,B,n,p,r,xs,os,rfl,R,ag,p0,p1,hx,px,ho,ll,g⟩:=h;refine⟨_,(@jg _ _ _ (j6 (zt iT (cC uw (qd (pv 0) rfl) (pv 1) (λ_ _=>rfl)) (jo (Ll rfl) rfl T.Oc boot_sum (je (y9 (N':=["order","self"]) (ix:=[none,some 0]) (zd (by kernel_rfl)) rfl (@gh _ _ _ _ (pv 2)) (λ_ _ _ _=>(jr (i:=0) X1 rfl (Or.inl rfl) (.inr rfl))) (λ_ _ _ _=>(lX (xu (zl (qj (pv 1) T.jt T.wm (Ht T) hr.dn T.GS .nil ju (je (pv 0) ji)))))) (λ_ _ _ _=>(cC (LX (K:=K) rfl) (pv 0) jq (λ_ _=>rfl)))) ji))))),?_⟩;have e:=Hr (xs:=B.held) p0 (by rw[ag.h];exact p1);refine⟨_,rfl,k,_,dk,_,_,rfl,R.ob,T.jt,T.yw,(xj A').1,_,rfl,A' 1,_,p,.int (gI B.held p),rfl,rfl,ah.of R.he,mi p0 (by rw[getElem?_map,e];rfl),?_⟩;refine⟨_,rfl,r,rfl,⟨_,ah.of hx⟩,iw (K:=K) (a:=r) (xs:=xs) (λi ys U H'=>∃v,U=[v,some (.ref k)]/\H'=H/\ys=(((os.take i).filter λo=>!B.past o).map λo=>o.m).map V.int) ⟨none,rfl,rfl,rfl⟩ ?_ ?_ ?_⟩
 .rintro i ys U H' hi ⟨v,rfl,rfl,rfl⟩
  refine⟨ah.of hx,rF ?_⟩;rw[length_map,length_map];refine le_trans (length_filter_le _ _) ?_;rw[length_take];omega
 .rintro i x ys U H' ex ⟨v,rfl,rfl,rfl⟩
  obtain⟨o,eo,uo⟩:=j7 px ex;obtain⟨q,rfl,hq⟩:=uo.ref;have om:o∈os:=mem_of_getElem? eo;refine⟨_,rfl,k,dk,_,rfl,R.ob,fW A',_,rfl,Z,id,h,k,A',dk,B,n,q,o,rfl,R,hq,ho o om,ag.x,_,rfl,?_⟩;rw[take_snoc eo,filter_append,map_append,map_append];cases hp:B.past o with
  |true=>refine ka ⟨_,rfl,rfl,?_⟩;simp[hp]
  |false=>refine bT ⟨_,rfl,q,cz o,3,.int o.m,rfl,rfl,aA.of hq,rfl,_,rfl,rfl,?_⟩;simp[hp]
 .rintro ys U H' ⟨v,rfl,rfl,rfl⟩ l nl
  rw[Paired.length px,take_length];refine⟨l,_,rfl,ah.of jc,_,_,rfl,rfl,g _ (jh nl)⟩
def Wd.carried (Y:Wd)(o:O):Bool:=decide (Y.en<=((qc Y.bd (yh o)).length:Int))
theorem j7b {ns:List Int}{M:Int}(h1:M∈ns)(h2:∀a∈ns,a<=M):ns.max?=some M:=List.max?_eq_some_iff.mpr ⟨h1,h2⟩
def Wd.asks (Y:Wd)(o:O)(row:List O):Wd:=Wd.post {Y with asked:=Y.asked.set o.p.toNat (row++[o])} true o
theorem j8x {a:Addr}{o:Obj}{aa:List (Key×V)}{g:TG}{ti:TT}{te:TE}{U0:St}{H0:Hp}{Q:VK}(Pv:Nat->List V->St->Hp->Prop)(h0:Pv 0 [] U0 H0)(hl:∀i ys U H,i<=aa.length->Pv i ys U H->H a=some (.az o (.dK aa))/\ys.length<=sizeLine)(hs:∀i kv ys U H,aa[i]?=some kv->Pv i ys U H->g kv.2 U H λU2 H2=>ti U2 H2 λc H3=>if c=true then te U2 H3 λy H4=>Pv (i+1) (ys++[y]) U2 H4 else Pv (i+1) ys U2 H3)(hd:∀ys U H,Pv aa.length ys U H->∀p,H p=none->Q (.ref p) (upd H p (.lst ys))):∃W:Nat->Nat->List V->St->Hp->Prop,(∃m,W 0 m [] U0 H0)/\∀i m ys U H,W i m ys U H->ys.length<=sizeLine/\(((nI a o aa).stop i H/\tL Q ys H)\/((nI a o aa).go i H/\∃N:List V->St->Hp->Prop,(∀cD U' H',N cD U' H'->∃m',m'<m/\W (i+1) m' cD U' H')/\∀x H',(nI a o aa).dO i H x H'->g x U H' λU2 H2=>ti U2 H2 λb H3=>if b=true then te U2 H3 λy H4=>N (ys++[y]) U2 H4 else N ys U2 H3)):=by
 refine⟨λi m ys U H=>m=aa.length-i/\i<=aa.length/\Pv i ys U H,⟨aa.length,by simp,zero_le _,h0⟩,?_⟩
 rintro i m ys U H ⟨rfl,hi,p⟩
 obtain⟨q,hz⟩:=hl i ys U H hi p;refine⟨hz,?_⟩;by_cases ax:i<aa.length
 .refine .inr ⟨⟨ax,q⟩,Pv (i+1),λcD U' H' p'=>⟨aa.length-(i+1),by lia,rfl,ax,p'⟩,λx H' y=>?_⟩;obtain⟨e,kv,ek,ex⟩:=y;subst e ex;exact hs i kv ys U _ ek p
 .have e:i=aa.length:=by lia
  subst e;exact .inl ⟨⟨le_refl _,q⟩,hd ys U H p⟩
theorem j5i {H:Hp}{Z:ar}{xs:List V}{os:List O}{o:O}(p:Paired (zu H Z) xs os)(e:os.getLast?=some o):∃x,ni xs (-1)=some x/\zu H Z x o:=by rw[List.getLast?_eq_getElem?]at e;obtain⟨x,ex,u⟩:=Ap p e;have l:=Paired.length p;have lt:=(List.getElem?_eq_some_iff.mp e).1;refine⟨x,?_,u⟩;unfold ni mZ;rw[if_neg (by decide),if_pos (by lia)];show xs[(-1+(xs.length:Int)).toNat]?=some x;rw[show(-1+(xs.length:Int)).toNat=os.length-1 by lia];exact ex
structure Wd.Ok (Y:Wd):Prop where
 n8:Y.n<=8
 al:Y.asked.length=Y.n
 ao:∀row∈Y.asked,(∀o∈row,yy Y.n o=true)
 ks:∀c∈Y.ks,c.2.Ok Y.n
 nd:(Y.ks.map (·.1)).Nodup
 k0:0<Y.ks.length
 k1:Y.ks.length<=16
noncomputable def j69 (t:Ad):Sp:=λvs H Q E=>∃Z id W Y p g m row,vs=[.ref W.x,.int p,.int g,.int m]/\qu t H Z id W Y/\ay Z H/\Y.Ok/\(0<=p/\p<(Y.n:Int))/\(0<=g/\g<(Y.n:Int))/\g≠p/\(1<=m/\m<=1000)/\Y.asked[p.toNat]?=some row/\row.length<=90/\Y.way.length<=90000/\(p∈Y.y3->∀d H',yi H H'->E (.ref t.xf) (some d) H')/\(∀o,row.getLast?=some o->Y.carried o=false->∀H',yi H H'->E (.ref t.jK) none H')/\((∀o,row.getLast?=some o->Y.carried o=true)->∀M,(Y.ks.map λc=>c.2.rR p row).max?=some M->(M<m->∀H',yi H H'->E (.ref t.vm) none H')/\(m<=M->p∉Y.y3->∀H' q,qu t H' Z id W (Y.asks ⟨p,row.length,g,m⟩ row)->Fr (λr=>r.1=id) Z H Z H'->ay Z H'->zu H' Z (.ref q) ⟨p,row.length,g,m⟩->Q (.ref q) H'))
set_option maxHeartbeats 0 in
theorem OQ (T:Txt K mg t) : xl P w K mg base (dE P w) 6 t.FI t.FJ ["self","purse","goal","much"] (j69 t):=by
 refine T.ZA.W0 Ex λ_ A _ s H vs Q E hr h=>?_
 obtain ⟨Z,id,W,Y,p,g,m,row,rfl,O,kr,ag,hp,hg,ng,hm,eD,HR,wK,e0,e1,e2⟩:=h
 refine ⟨_,(@jd _ _ _ _ _ (qb (qj (pv 0) T.jl T.Zs (ji7 T) hr.dn T.Zt .nil WZ (@vd _ _ _ _ _ (pv 1) (pv 2) rfl rfl)))
  (@jd _ _ _ _ _ (zk (xu (zl (jn (qx T) hr.dn rfl T.qy T.qv.kp T.qz .nil ju (@cq _ _ _ _ _ _ _ (pv 3) jq (zg (v:=.int 1000) rfl T.NZ.choose_spec ⟨_,rfl⟩) rfl rfl rfl)))) qw qe)
  (@jd _ _ _ _ _ (j9 (i:=4) Ex.nd rfl (Or.inr rfl) (cC uw (qd (pv 0) rfl) (pv 1) (λ_ _=>rfl)))
  (@jd _ _ _ _ _ (zk (PW.pt (gC (j3 sT (jo jw rfl T.cO boot_len (je (pv 4) ji)) (zg (v:=.int 99) rfl T.N0.choose_spec ⟨_,rfl⟩) (qi _)) (gS (PW.pt (lE (RM (pv 4) (λ_=>rfl)) (mS (xu (zl (qj (qd (pv 0) rfl) T.xx T.ym (kn T) hr.dn T.y4 .nil ju (je (cC uw (pv 4) (Rz RE jq) (λ_ _=>rfl)) ji)))))))))) (@jg _ _ _ (MD rfl T.N7 T.jws (je w9 ji))) qe)
  (@jd _ _ _ _ _ (zk (j3 sT (pv 3) (jo (Eg rfl) rfl T.Hh boot_max (je (DG (y9 (N':=["keeper","purse","asked"]) (ix:=[none,some 1,some 4]) (zd (by kernel_rfl)) rfl (LK (yZ PySem.F.plainAttrs_dict PySem.F.slot_dict_values PySem.F.type_dict_values LJ (qd (pv 0) rfl))) (λ_ _ _ _=>(jr (i:=0) X2 rfl (Or.inl rfl) (.inr rfl))) (λ_ _ _ _=>lW) (λ_ _ _ _=>(qj (pv 0) T.jt T.Y3 (jmx T) hr.dn T.Y4 .nil ju (@vd _ _ _ _ _ (pv 1) (pv 2) rfl rfl))))) ji)) (qi _)) (@jg _ _ _ (MD rfl T.N6 T.juf (je w9 ji))) qe)
  (@jd _ _ _ _ _ (@j9 _ _ 5 _ _ _ _ Ex.nd rfl (Or.inl rfl) (@kH _ _ _ _ _ (@Nb _ _ _ _ _ _ _ _ _ (pv 1) (jo jw rfl T.cO boot_len (je (pv 4) ji)) (pv 2) (pv 3) rfl rfl rfl rfl)) (by rfl) (by first | exact .inl rfl | exact .inr rfl))
  (@jd _ _ _ _ _ (qb (dZ PySem.F.plainAttrs_list PySem.F.slot_list_append PySem.F.type_list_append yg (pv 4) (je (pv 5) ji)))
  (@jd _ _ _ _ _ (qb (qj (pv 0) T.jl T.vn (OH T) hr.dn T.gd .nil ju (@vd _ _ _ _ _ (zg (v:=.str "order") rfl T.Hb.choose_spec ⟨_,rfl⟩) (pv 5) rfl rfl)))
  (@jg _ _ _ (j6 (pv 5))))))))))),?_⟩
 obtain ⟨ra,rs,ha,fj⟩:=O.ak
 obtain ⟨r,er⟩ : ∃ r,rs[p.toNat]? = some r:=⟨_,getElem?_eq_getElem (by rw [fj.1]; exact (List.getElem?_eq_some_iff.mp eD).1)⟩
 obtain ⟨rr,xs,iM,px⟩:=fj.2 _ _ _ er eD
 obtain ⟨rk,aa,OR,OS⟩:=O.kd
 have lk:aa.length = Y.ks.length:=Paired.length OS
 have lx:xs.length = row.length:=Paired.length px
 refine aU λN hN=>⟨_,rfl,W.x,W.dx,_,rfl,O.ob.1,xo,_,rfl,_,rfl,Z,id,W,Y,p,g,rfl,O,hp,hg,ng,e0,λnc=>?_⟩
 refine hN _ _ (aU λN hN=>⟨_,rfl,m,1,1000,rfl,_,rfl,?_⟩)
 rw [decide_eq_true hm]
 refine ka ?_
 refine hN _ _ (aU λN hN=>⟨_,rfl,W.x,_,W.dx,_,_,rfl,O.ob.1,T.jl,T.He,OD,_,rfl,W.ak,_,p,.ref r,rfl,rfl,ah.of ha,mi hp.1 (by rw [getElem?_map,er]; rfl),?_⟩)
 refine hN [some (.ref W.x),some (.int p),some (.int g),some (.int m),some (.ref r),none] _ (aU λN hN=>⟨_,rfl,r,xs,rfl,.inl (ah.of iM),_,_,rfl,rfl,_,rfl,bp (λz=>absurd (of_decide_eq_true z) (by show ¬ (99:Int) < (xs.length:Int); omega)) (λ_=>?_)⟩)
 refine' (λkey=>_:(∀ HC,yi H HC -> (∀ o,row.getLast? = some o -> Y.carried o = true) -> (_:Hp -> Prop) HC) -> _) _
 rotate_left
 .cases fk:row.getLast?
  case some o=>
   obtain ⟨x,ex,ux⟩:=j5i px fk
   have x0:(!xs.isEmpty) = true:=by
    cases xs with
    | nil=>cases ex
    | cons _ _=>rfl
   refine ⟨_,rfl,true,.inl ⟨_,ah.of iM,x0.symm⟩,bT ?_⟩
   obtain ⟨q0,rfl,pM⟩:=ux.ref
   obtain ⟨rb,rS,rO,Bq,sg⟩:=O.bd
   refine ⟨_,rfl,W.x,_,W.dx,_,_,rfl,O.ob.1,T.jl,T.xr,wG,W.bd,W.db,_,rfl,Bq.ob,vW _ _ (by decide +kernel) (by decide +kernel),_,rfl,_,rfl,r,xs,-1,.ref q0,rfl,rfl,ah.of iM,ex,W.bd,W.db,W.S,Y.en,rO,bP Y.bd,q0,cP o,rfl,Bq.rd,pM,λHC kW=>⟨_,rfl,?_⟩⟩
   have ec:decide (Y.en <= ((qq (bP Y.bd) (cP o)).length:Int)) = Y.carried o:=by
    unfold Wd.carried
    rw [show qq (bP Y.bd) (cP o) = qc Y.bd (yh o) from wH (yh o) Y.bd]
   rw [ec]
   cases hc : Y.carried o with
   | false=>exact bT ⟨pJ,e1 o fk hc _ kW⟩
   | true=>
    refine ka ?_
    have jR : ∀ o',row.getLast? = some o' -> Y.carried o' = true:=λo' e=>by rw [fk] at e; cases e; exact hc
    exact key HC kW jR
  case none=>
   have e0:row = []:=List.getLast?_eq_none_iff.mp fk
   have x0:xs = []:=List.length_eq_zero_iff.mp (by rw [lx,e0]; rfl)
   refine ⟨_,rfl,false,.inl ⟨_,ah.of iM,by rw [x0]; rfl⟩,ka ?_⟩
   have jR : ∀ o,row.getLast? = some o -> Y.carried o = true:=λo e=>by rw [fk] at e; cases e
   exact key H (yi.refl _) jR
 .rintro HC kW jR
  have OC:=O.fr (P:=λ_=>False) (λ_ z=>z) (Fr.same kW)
  have kd:=kW _ _ OR
  have ksR:xn t HC Z id aa Y.ks:=xn.fr (P:=λ_=>False) (Fr.same kW) (λ_ _ z=>z) OS
  have hrC:=kW _ _ iM
  have pxC:Paired (zu HC Z) xs row:=Paired.xt px λ_ _=>zu.fr (P:=λ_=>False) (Fr.same kW)
  refine hN _ _ (aU λN hN=>⟨_,rfl,_,rfl,W.x,_,W.dx,_,_,rfl,OC.ob.1,T.jl,T.qp,pq,.inr (.inr (.inl ⟨rfl,.inl ⟨_,kd⟩⟩)),W.kd,aa,rfl,rfl,kd,λvw HS=>?_⟩)
  have sv:=jh (o:=fE vw W.kd) HS
  have A7:=sv _ _ kd
  have OT:xn t (upd HC vw (fE vw W.kd)) Z id aa Y.ks:=xn.fr (P:=λ_=>False) (Fr.same sv) (λ_ _ z=>z) ksR
  have rG:=sv _ _ hrC
  have OU:Paired (zu (upd HC vw (fE vw W.kd)) Z) xs row:=Paired.xt pxC λ_ _=>zu.fr (P:=λ_=>False) (Fr.same sv)
  have gv:upd HC vw (fE vw W.kd) vw = some (fE vw W.kd):=jc
  generalize upd HC vw (fE vw W.kd) = H1 at sv A7 OT gv rG OU
  refine ⟨vw,W.kd,aa,rfl,gv,A7,λoo=>j8x (λi' ys U H'=>∃ v0,U = [v0,some (.int p),some (.ref r)] /\ yi (upd H1 W.kd (.az oo (.dK aa))) H' /\ ys = ((Y.ks.take i').map λc=>c.2.rR p row).map V.int) ⟨none,rfl,yi.refl _,rfl⟩ ?_ ?_ ?_⟩
  .rintro i' ys U H' hi ⟨v0,rfl,sm,rfl⟩
   refine ⟨sm _ _ jc,rF ?_⟩
   rw [length_map,length_map,length_take]
   have:=ag.k1
   omega
  .rintro i' kv ys U H' ek ⟨v0,rfl,sm,rfl⟩
   obtain ⟨c,ec,e1,kk,A',dk,e2,R⟩:=j7 OT ek
   have cm:c ∈ Y.ks:=mem_of_getElem? ec
   rw [e2]
   have fz:Fr (fG id .kd) Z H1 Z H':=(Fr.put rk rfl:Fr (fG id .kd) Z H1 Z (upd H1 W.kd (.az oo (.dK aa)))).trans (Fr.same sm)
   have R':=R.fr (λf=>jz) fz
   have mD:=(dH fz rG rr jz).1
   have HU:Paired (zu H' Z) xs row:=Paired.xt OU λ_ _=>zu.fr fz
   dsimp only [dy,kK]
   rw [if_pos rfl]
   refine ⟨_,rfl,kk,dk,_,rfl,R'.ob,fW A',_,rfl,_,rfl,Z,id,c.1,kk,A',dk,c.2,Y.n,p,r,xs,row,rfl,R',ag.ks c cm,hp.1,hp.2,mD,HU,ag.ao row (mem_of_getElem? eD),by omega,λdR bL=>⟨_,rfl,sm.trans bL,?_⟩⟩
   rw [take_snoc ec,map_append,map_append]
   rfl
  .rintro ys U H' ⟨v0,rfl,sm,rfl⟩ L nL
   rw [lk,take_length]
   have rT:=sm _ _ (jc (H:=H1) (a:=W.kd) (o:=.az oo (.dK aa)))
   have LD:L ≠ W.kd:=(jj rT nL).symm
   have SF:yi HC (upd (upd H' L (.lst ((Y.ks.map λc=>c.2.rR p row).map V.int))) W.kd (.dK aa)):=λc u hc=>by
    have h1:=sv _ _ hc
    by_cases z:c = W.kd
    .subst z
     rw [A7] at h1
     rw [jc,h1]
    .have iQ:H' c = some u:=sm _ _ (by rw [jf z]; exact h1)
     rw [jf z,jf (jj iQ nL)]
     exact iQ
   refine ⟨W.kd,oo,.dK aa,(by rw [jf LD.symm]; exact rT),λo' u' z=>?_,True.intro,L,Y.ks.map λc=>c.2.rR p row,rfl,ah.of (by rw [jf LD]; exact jc),(by rw [length_map]; exact ag.k0),λM hM hA=>?_⟩
   .have z':H W.kd = some (.az o' u'):=z
    rw [OR] at z'
    cases z'
   obtain ⟨eM,qM⟩:=e2 jR M (j7b hM hA)
   refine ⟨_,_,rfl,rfl,_,rfl,bp (λz=>?_) (λz=>?_)⟩
   .exact ⟨pJ,eM (of_decide_eq_true z) _ (kW.trans SF)⟩
   .have z' : m <= M:=by
     have : ¬ M < m:=λy=>z (decide_eq_true y)
     omega
    have sG:=kW.trans SF
    generalize upd (upd H' L (.lst ((Y.ks.map λc=>c.2.rR p row).map V.int))) W.kd (.dK aa) = G at SF sG
    have OG:=O.fr (P:=λ_=>False) (λ_ z=>z) (Fr.same sG)
    have OV:=kr.same sG
    have OW:=sG _ _ iM
    have pxG:Paired (zu G Z) xs row:=Paired.xt px λ_ _=>zu.fr (P:=λ_=>False) (Fr.same sG)
    refine hN _ _ (aU λN hN=>⟨_,rfl,_,rfl,r,xs,rfl,.inl (ah.of OW),_,rfl,_,rfl,M9,λq nq=>?_⟩)
    have eo : [V.int p,.int xs.length,.int g,.int m] = cz ⟨p,row.length,g,m⟩:=by rw [lx]; rfl
    rw [eo]
    have s1:=jh (o:=.tup (cz ⟨p,row.length,g,m⟩)) nq
    have O1:=OG.fr (P:=λ_=>False) (λ_ z=>z) (Fr.same s1)
    have bN:=OV.same s1
    have pP:=s1 _ _ OW
    have wL:Paired (zu (upd G q (.tup (cz ⟨p,row.length,g,m⟩))) Z) xs row:=Paired.xt pxG λ_ _=>zu.fr (P:=λ_=>False) (Fr.same s1)
    have og:zu (upd G q (.tup (cz ⟨p,row.length,g,m⟩))) Z (.ref q) ⟨p,row.length,g,m⟩:=⟨q,rfl,OV.none nq,jc⟩
    dsimp only
    generalize upd G q (.tup (cz ⟨p,row.length,g,m⟩)) = G1 at s1 O1 bN pP wL og
    refine hN _ _ (aU λN hN=>⟨_,rfl,.inl ⟨rfl,_,ah.of pP⟩,_,rfl,r,xs,.ref q,rfl,rfl,pP,ze (by omega),?_⟩)
    have f2:Fr (fG id (.row p.toNat)) Z G1 Z (upd G1 r (.lst (xs ++ [.ref q]))):=Fr.put rr rfl
    have O2 : qu t (upd G1 r (.lst (xs ++ [.ref q]))) Z id W { Y with asked:=Y.asked.set p.toNat (row ++ [⟨p,row.length,g,m⟩]) }:=by
     refine O1.but f2 _ jz rfl rfl (um f2 jz (λ_ _=>jz)) (iK f2 jz jz jz) (λHI HH=>?_) (HJ f2 jz)
     obtain ⟨OX,h1,h2⟩:=HH
     have eq':OX = rs:=by
      have h3:=s1 _ _ (sG _ _ ha)
      rw [h1] at h3
      have h4:=HO.lst.inj (Option.some.inj h3)
      exact (List.map_inj_right (λa b e=>V.ref.inj e)).mp h4
     subst eq'
     obtain ⟨h5,r5⟩:=dH f2 h1 HI jz
     refine ⟨r5,OX,h5,?_,λi r' os HV gG=>?_⟩
     .rw [length_set]
      exact h2.1
     .by_cases z:i = p.toNat
      .subst z
       have:r' = r:=by
        rw [er] at HV
        exact (Option.some.inj HV).symm
       subst this
       have lt:=(List.getElem?_eq_some_iff.mp eD).1
       rw [getElem?_set_self lt] at gG
       cases gG
       exact ⟨rr,_,jc,qo (Paired.xt wL λ_ _=>zu.fr f2) (og.fr f2)⟩
      .rw [getElem?_set_ne (λy=>z y.symm)] at gG
       obtain ⟨q1,q2,q3,q4⟩:=h2.2 i r' os HV gG
       obtain ⟨q5,q6⟩:=dH f2 q3 q1 (jz (by intro y; cases y; exact z rfl))
       exact ⟨q6,q2,q5,Paired.xt q4 λ_ _=>zu.fr f2⟩
    have bW:=bN.put (a:=r) (o:=.lst (xs ++ [.ref q]))
    have rK:=og.fr f2
    dsimp only
    generalize upd G1 r (.lst (xs ++ [.ref q])) = G2 at f2 O2 bW rK
    refine hN _ _ (aU λN hN=>⟨_,rfl,W.x,W.dx,_,rfl,O2.ob.1,xo,_,rfl,Z,id,W,_,true,q,⟨p,row.length,g,m⟩,rfl,O2,bW,rK,by show Y.way.length <= 100000; omega,ag.k1,λG3 O3 f3 iI=>hN _ _ ⟨_,rfl,?_⟩⟩)
    have fr:Fr (λr=>r.1 = id) Z H Z G3:=((Fr.same (sG.trans s1)).trans (f2.mono λr hr=>by rw [hr])).trans (f3.mono λr hr=>by rw [hr])
    exact qM z' nc G3 q O3 fr iI (rK.fr f3)
def vb (K:W.Frag)(H:Hp)(a:Addr)(ks:List Int):Prop:=H a=some (.lst (ks.map V.int))\/(ks=[]/\aA K H a [])
noncomputable def jzt (K:W.Frag):Sp:=λvs H Q _=>∃a b ks,vs=[.ref a,.int b]/\vb K H a ks/\ks.Pairwise (·<·)/\(∀k∈ks,0<=k/\k<b)/\Q (.bl true) H
theorem jsy (T:Txt K mg t):xl P w K mg base CX0 3 t.EJ t.EK ["things","bound"] (jzt K):=by
 refine T.Nn.cL AN λ_ A _ s H vs Q E hr h=>?_;obtain⟨a,b,ks,rfl,hc,up,rg,k⟩:=h;refine⟨_,(@jd _ _ _ _ _ (j9 (i:=2) AN.nd rfl (Or.inl rfl) jq) (@jd _ _ _ _ _ (ij PassesOwn.never rfl (Ws (pv 0)) (jr (i:=3) AN.nd rfl (Or.inl rfl)) (@jd _ _ _ _ _ (zk (xu (zl (jn (qx T) hr.dn rfl T.qy T.qv.kp T.qz .nil ju (@cq _ _ _ _ _ _ _ (pv 3) (pv 2) (zt iT (pv 1) jq) rfl rfl rfl)))) (@jg _ _ _ (j6 gB)) qe) (@jg _ _ _ (j9 (i:=2) AN.nd rfl (Or.inl rfl) (zt eU (pv 3) jq))))) (@jg _ _ _ (j6 gB)))),?_⟩;rcases hc with ha|⟨rfl,ha⟩
 .refine .inl ⟨_,rfl,a,rfl,⟨_,ah.of ha⟩,yM (K:=K) (a:=a) (xs:=ks.map V.int) (λi U H'=>∃v l,U=[some (.ref a),some (.int b),some (.int l),v]/\H'=H/\∀z∈ks.drop i,l<=z) ⟨none,0,rfl,rfl,λz hz=>(rg z hz).1⟩ (λi U H' _ ⟨_,_,_,e,_⟩=>ah.of (by rw[e];exact ha)) ?_ ?_⟩
  .rintro i x U H' hx ⟨v,l,rfl,rfl,hl⟩
   obtain⟨z,ez,rfl⟩:∃z,ks[i]?=some z/\x= .int z:=by
    rw[getElem?_map]at hx;cases e:ks[i]? with
    |none=>rw[e]at hx;cases hx
    |some z=>rw[e]at hx;exact⟨z,rfl,(Option.some.inj hx).symm⟩
   obtain⟨hi,OY⟩:=List.getElem?_eq_some_iff.mp ez;have r:=rg z (mem_of_getElem? ez);have lz:l<=z:=hl z (by rw[List.drop_eq_getElem_cons hi,OY];simp);refine⟨_,rfl,_,rfl,_,rfl,_,_,rfl,rfl,_,_,_,rfl,?_⟩;rw[decide_eq_true ⟨lz,(by omega:z<=b-1)⟩];refine⟨_,rfl,ka ?_⟩;refine⟨_,rfl,_,_,rfl,rfl,_,_,rfl,rfl,λy hy=>?_⟩;obtain⟨j,hj,e⟩:=mem_iff_getElem.mp hy;rw[length_drop]at hj;rw[List.getElem_drop]at e;have:=List.pairwise_iff_getElem.mp up i (i+1+j) hi (by omega) (by omega);rw[OY,e]at this;omega
  .rintro U H' ⟨v,l,rfl,rfl,_⟩
   exact k
 .refine .inr ⟨_,rfl,a,rfl,⟨_,ha⟩,Rv (K:=K) (a:=a) (xs:=[]) (λi U H'=>∃v,U=[some (.ref a),some (.int b),some (.int 0),v]/\H'=H) ⟨none,rfl,rfl⟩ (λi U H' _ ⟨_,_,e⟩=>by rw[e];exact ha) (λi x U H' hx _=>by simp at hx) ?_⟩
  rintro U H' ⟨v,rfl,rfl⟩
  exact k
theorem OZ (T:Txt K mg t):xl P w K mg base CX0 4 t.EL t.EM ["thing","bound"] (λvs H Q _=>∃a b ks,vs=[.ref a,.int b]/\vb K H a ks/\ks.Pairwise (·<·)/\(∀k∈ks,0<=k/\k<b)/\∀H',yi H H'->Q (.bl true) H'):=by
 refine T.GR.bj (N:=["thing","bound"]) λ_ A _ s H vs Q E hr h=>?_;obtain⟨a,b,ks,rfl,hc,up,rg,k⟩:=h;refine⟨_,(@jg _ _ _ (j6 (lF (jo Wo rfl T.jx boot_isinstance (@vd _ _ _ _ _ (pv 0) (@kH _ _ _ _ _ (@vd _ _ _ _ _ (kB (v:=.ty "list") rfl T.nX boot_list rfl) (kB (v:=.ty "tuple") rfl T.Ob boot_tuple rfl) rfl rfl)) rfl rfl)) (mT (jn (jsy T) hr.dn rfl T.Yj T.Nn.kp T.Yk .nil ju (@vd _ _ _ _ _ (pv 0) (pv 1) rfl rfl)))))),?_⟩;refine⟨_,rfl,pK,λq hq=>?_⟩;have s1:=jh (o:=.tup [.ty "list",.ty "tuple"]) hq;have O0:vb K (upd H q (.tup [.ty "list",.ty "tuple"])) a ks:=by
  rcases hc with h|⟨e,h⟩
  .exact .inl (s1 _ _ h)
  .refine .inr ⟨e,?_⟩;rcases h with h|h
   .exact .inl (Hm s1 h)
   .exact .inr h
 refine⟨a,q,rfl,jc,?_,?_⟩
 .rcases O0 with h|⟨_,h⟩
  .exact .inl ⟨_,ah.of h⟩
  .exact .inr ⟨_,h⟩
 exact⟨_,rfl,bT ⟨_,rfl,_,rfl,a,b,ks,rfl,O0,up,rg,k _ s1⟩⟩
theorem vb.same {K:W.Frag}{H H':Hp}{a:Addr}{ks:List Int}(s1:yi H H')(hc:vb K H a ks):vb K H' a ks:=by
 rcases hc with h|⟨e,h⟩
 .exact .inl (s1 _ _ h)
 .refine .inr ⟨e,?_⟩;rcases h with h|h
  .exact .inl (Hm s1 h)
  .exact .inr h
theorem vb.sq {K:W.Frag}{H:Hp}{a:Addr}{ks:List Int}(hc:vb K H a ks):ah K H a (ks.map V.int)\/aA K H a (ks.map V.int):=by
 rcases hc with h|⟨e,h⟩
 .exact .inl (ah.of h)
 .subst e;exact .inr h
theorem jnl (T:Txt K mg t):xl P w K mg base CX0 3 t.EN t.EO ["thing"] (λvs H Q _=>∃i,vs=[.int i]/\Q (.bl (decide (1<=i/\i<=16))) H):=by refine T.Nr.bj (N:=["thing"]) λ_ A _ s H vs Q E hr h=>?_;obtain⟨x,rfl,k⟩:=h;refine⟨_,(@jg _ _ _ (j6 (jn (qx T) hr.dn rfl T.qy T.qv.kp T.qz .nil ju (@cq _ _ _ _ _ _ _ (pv 0) jq (zg (v:=.int 16) rfl T.jli.choose_spec ⟨_,rfl⟩) rfl rfl rfl)))),?_⟩;exact⟨_,rfl,x,1,16,rfl,k⟩
theorem j0i (T:Txt K mg t):xl P w K mg base CX0 3 t.ER t.ES ["thing"] (λvs H Q _=>∃i,vs=[.int i]/\Q (.bl (decide (0<=i/\i<=5))) H):=by refine T.Nt.bj (N:=["thing"]) λ_ A _ s H vs Q E hr h=>?_;obtain⟨x,rfl,k⟩:=h;refine⟨_,(@jg _ _ _ (j6 (jn (qx T) hr.dn rfl T.qy T.qv.kp T.qz .nil ju (@cq _ _ _ _ _ _ _ (pv 0) jq (zg (v:=.int 5) rfl T.jrj.choose_spec ⟨_,rfl⟩) rfl rfl rfl)))),?_⟩;exact⟨_,rfl,x,0,5,rfl,k⟩
theorem jtl (T:Txt K mg t):xl P w K mg base CX0 1 t.ET t.EU ["houses","few"] (λvs H Q _=>∃h f:Int,vs=[.int h,.int f]/\Q (.bl (decide (h>3*f))) H):=by refine T.Nu.bj (N:=["houses","few"]) λ_ A _ s H vs Q E hr h=>?_;obtain⟨i,j,rfl,q⟩:=h;refine⟨_,(@jg _ _ _ (j6 (lM sT (pv 0) (zt yQ jq (pv 1)) (qi _)))),?_⟩;exact⟨_,rfl,_,rfl,_,_,rfl,rfl,.inl (by decide),_,_,rfl,rfl,q⟩
theorem juw (T:Txt K mg t):xl P w K mg base CX0 1 t.EV t.EW ["houses","few"] (λvs H Q _=>∃i j:Int,vs=[.int i,.int j]/\Q (.int (i-j)) H):=by refine T.Nv.bj (N:=["houses","few"]) λ_ A _ s H vs Q E hr h=>?_;obtain⟨i,j,rfl,q⟩:=h;refine⟨_,(@jg _ _ _ (j6 (zt iT (pv 0) (pv 1)))),?_⟩;exact⟨_,rfl,_,rfl,_,_,rfl,rfl,q⟩
theorem ju5 (T:Txt K mg t):xl P w K mg base CX0 3 t.EX t.EY ["thing"] (λvs H Q _=>∃a ns,vs=[.ref a]/\H a=some (.lst ((ns:List Int).map V.int))/\2<=ns.length/\ns.length<=8/\(∀i∈ns,0<=i/\i<=1000)/\∀H',yi H H'->Q (.bl true) H'):=by
 refine T.Nw.bj (N:=["thing"]) λ_ A _ s H vs Q E hr h=>?_;obtain⟨a,ns,rfl,e,l2,l8,rg,k⟩:=h;refine⟨_,(@jd _ _ _ _ _ (zk (PW.pt (gC (xu (zl (jo ph rfl T.jx boot_isinstance (@vd _ _ _ _ _ (pv 0) (kB (v:=.ty "list") rfl T.nX boot_list rfl) rfl rfl)))) (gS (j3 qQ (jo jw rfl T.cO boot_len (je (pv 0) ji)) (zg (v:=.int 2) rfl T.jjr.choose_spec ⟨_,rfl⟩) (qi _))))) (@jg _ _ _ (j6 gB)) qe) (@jg _ _ _ (j6 (jo (Lk rfl) rfl T.Od boot_all (je (y9 (N':=["each"]) (ix:=[none]) (zd (by kernel_rfl)) rfl (@gh _ _ _ _ (pv 0)) (λ_ _ _ _=>(jr (i:=0) X3 rfl (Or.inl rfl) (.inr rfl))) (λ_ _ _ _=>lW) (λ_ _ _ _=>(jn (qx T) hr.dn rfl T.qy T.qv.kp T.qz .nil ju (@cq _ _ _ _ _ _ _ (pv 0) jq (zg (v:=.int 1000) rfl T.jgv.choose_spec ⟨_,rfl⟩) rfl rfl rfl)))) ji))))),?_⟩;refine⟨_,rfl,_,_,_,true,rfl,.lst e,rfl,_,rfl,ka ?_⟩;refine⟨_,rfl,a,_,rfl,.inl (ah.of e),_,_,rfl,rfl,_,rfl,bp (λh1=>?_) (λh1=>?_)⟩
 .exfalso;have:=of_decide_eq_true h1;rw[length_map]at this;omega
 refine⟨_,rfl,a,rfl,⟨_,ah.of e⟩,iw (K:=K) (a:=a) (xs:=ns.map V.int) (λi ys U' H'=>∃v,U'=[v]/\H'=H/\ys=(List.replicate i true).map V.bl) ⟨none,rfl,rfl,rfl⟩ ?_ ?_ ?_⟩
 .rintro i ys U' H' hi ⟨v,rfl,rfl,rfl⟩
  refine⟨ah.of e,rF ?_⟩;rw[length_map]at hi;rw[length_map,length_replicate];omega
 .rintro i x ys U' H' hx ⟨v,rfl,rfl,rfl⟩
  obtain⟨z,ez,rfl⟩:∃z,ns[i]?=some z/\x= .int z:=by
   rw[getElem?_map]at hx;cases e:ns[i]? with
   |none=>rw[e]at hx;cases hx
   |some z=>rw[e]at hx;exact⟨z,rfl,(Option.some.inj hx).symm⟩
  dsimp only[dy,kK];rw[if_pos rfl];refine⟨_,rfl,z,0,1000,rfl,?_⟩;rw[decide_eq_true (rg z (mem_of_getElem? ez))];refine⟨_,rfl,rfl,?_⟩;rw[List.replicate_succ',map_append];rfl
 .rintro ys U' H' ⟨v,rfl,rfl,rfl⟩ q hq
  refine⟨q,List.replicate (ns.map V.int).length true,rfl,ah.of jc,?_⟩;have g:=k _ (jh (o:=.lst ((List.replicate (ns.map V.int).length true).map V.bl)) hq);rw[show(List.replicate (ns.map V.int).length true).all id=true by simp];exact g
theorem jmn (T:Txt K mg t):xl P w K mg base CX0 4 t.EZ t.E1 ["thing"] (λvs H Q _=>∃a ns,vs=[.ref a]/\H a=some (.lst ((ns:List Int).map V.int))/\2<=ns.length/\ns.length<=8/\(∀i∈ns,0<=i/\i<=1000)/\∀H',yi H H'->Q (.bl true) H'):=by refine T.Nx.bj (N:=["thing"]) λ_ A _ s H vs Q E hr h=>?_;obtain⟨a,ns,rfl,e,l2,l8,rg,k⟩:=h;refine⟨_,(@jg _ _ _ (j6 (lF (jn (ju5 T) hr.dn rfl T.Yu T.Nw.kp T.Yv .nil ju (je (pv 0) ji)) (mT (lM yR (jo jw rfl T.cO boot_len (je (pv 0) ji)) (zg (v:=.int 8) rfl T.jl3.choose_spec ⟨_,rfl⟩) (qi _)))))),?_⟩;refine⟨_,rfl,a,ns,rfl,e,l2,l8,rg,λH1 s1=>⟨_,rfl,bT ?_⟩⟩;refine⟨_,rfl,a,_,rfl,.inl (ah.of (s1 _ _ e)),_,_,rfl,rfl,?_⟩;have g:=k H1 s1;show Q (.bl (decide (((ns.map V.int).length:Int)<=8))) H1;rw[show decide (((ns.map V.int).length:Int)<=8)=true from decide_eq_true (by rw[length_map];omega)];exact g
theorem jo4 (T:Txt K mg t):xl P w K mg base CX0 5 t.E3 t.E4 ["houses","few","liars"] (λvs H Q _=>∃h f a ks,vs=[.int h,.int f,.ref a]/\(1<=h/\h<=16)/\(0<=f/\f<=5)/\3*f<h/\vb K H a ks/\ks.Pairwise (·<·)/\(∀k∈ks,0<=k/\k<h)/\(ks.length:Int)<=f/\∀H',yi H H'->Q .aq H'):=by
 refine T.Nz.bj (N:=["houses","few","liars"]) λ_ A _ s H vs Q E hr h=>?_;obtain⟨h,f,a,ks,rfl,h1,f1,lt,hc,up,rg,l,k⟩:=h;refine⟨_,(@jd _ _ _ _ _ (zk (PW.pt (gC (xu (zl (jn (jnl T) hr.dn rfl T.Yl T.Nr.kp T.Ym .nil ju (je (pv 0) ji)))) (gS (xu (zl (jn (j0i T) hr.dn rfl T.Yn T.Nt.kp T.Yo .nil ju (je (pv 1) ji))))))) qw qe) (@jd _ _ _ _ _ (zk (xu (zl (qS (jtl T) hr.dn rfl T.Yp T.Nu.kp T.Yr ju (je (pv 0) ji) (iV (pv 1) oP)))) qw qe) (@jg _ _ _ (zk (PW.pt (gC (xu (zl (jn (OZ T) hr.dn rfl T.Np T.GR.kp T.Nq .nil ju (@vd _ _ _ _ _ (pv 2) (pv 0) rfl rfl)))) (gS (j3 sT (jo jw rfl T.cO boot_len (je (pv 2) ji)) (pv 1) (qi _))))) qw qe)))),?_⟩;refine⟨_,rfl,h,rfl,_,rfl,?_⟩;rw[decide_eq_true h1];refine ka ⟨_,rfl,f,rfl,_,rfl,?_⟩;rw[decide_eq_true f1];refine ka ⟨_,rfl,_,rfl,h,f,rfl,_,rfl,?_⟩;rw[decide_eq_true (by omega)];refine ka ⟨_,rfl,_,rfl,a,h,ks,rfl,hc,up,rg,λH1 s1=>⟨_,rfl,ka ?_⟩⟩;refine⟨_,rfl,a,_,rfl,(hc.same s1).sq,_,rfl,_,_,rfl,rfl,_,rfl,bp (λz=>?_) (λ_=>k _ s1)⟩;exfalso;have:=of_decide_eq_true z;rw[length_map]at this;omega
theorem jpm (T:Txt K mg t):xl P w K mg base CX0 5 t.E5 t.E6 ["sums","cheats"] (λvs H Q _=>∃a ns b ks,vs=[.ref a,.ref b]/\H a=some (.lst ((ns:List Int).map V.int))/\2<=ns.length/\ns.length<=8/\(∀i∈ns,0<=i/\i<=1000)/\vb K H b ks/\ks.Pairwise (·<·)/\(∀k∈ks,0<=k/\k<(ns.length:Int))/\∀H',yi H H'->Q .aq H'):=by
 refine T.NA.bj (N:=["sums","cheats"]) λ_ A _ s H vs Q E hr h=>?_;obtain⟨a,ns,b,ks,rfl,e,l2,l8,r1,hc,up,rg,k⟩:=h;refine⟨_,(@jd _ _ _ _ _ (zk (xu (zl (jn (jmn T) hr.dn rfl T.Yw T.Nx.kp T.Yx .nil ju (je (pv 0) ji)))) qw qe) (@jg _ _ _ (zk (xu (zl (jn (OZ T) hr.dn rfl T.Np T.GR.kp T.Nq .nil ju (@vd _ _ _ _ _ (pv 1) (jo jw rfl T.cO boot_len (je (pv 0) ji)) rfl rfl)))) qw qe))),?_⟩;refine⟨_,rfl,a,ns,rfl,e,l2,l8,r1,λH1 s1=>⟨_,rfl,ka ?_⟩⟩;refine⟨_,rfl,_,rfl,a,_,rfl,.inl (ah.of (s1 _ _ e)),b,_,ks,rfl,hc.same s1,up,λk hk=>?_,λH2 s2=>⟨_,rfl,ka (k _ (s1.trans s2))⟩⟩;rw[length_map];exact rg k hk
def PK (H:Hp)(Z:ar)(id:Nat)(h:Int)(L:List (Nat×Addr×HO)):Prop:=∀x∈L,1<=x.1/\Z x.2.1=some (id,.kp h x.1)/\H x.2.1=some x.2.2
theorem PK.new {H:Hp}{Z:ar}{id:Nat}{h:Int}{L:List (Nat×Addr×HO)}{p:Addr}{f:Nat}{u:HO}(k:PK H Z id h L)(n:H p=none)(hf:1<=f):PK (upd H p u) (aO Z p (id,.kp h f)) id h ((f,p,u)::L):=λx hx=>by
 rcases mem_cons.mp hx with rfl|hx
 .exact⟨hf,zr,jc⟩
 .obtain⟨a,b,c⟩:=k x hx;have:x.2.1≠p:=jj c n;exact⟨a,by rw[xk this];exact b,by rw[jf this];exact c⟩
theorem PK.obj {H:Hp}{Z:ar}{id:Nat}{h:Int}{L:List (Nat×Addr×HO)}{x:Addr}{o:HO}(k:PK H Z id h L)(rx:Z x=some (id,.kp h 0)):PK (upd H x o) Z id h L:=λy hy=>by obtain⟨a,b,c⟩:=k y hy;exact⟨a,b,by rw[jf (fF b rx (λz=>by have e:=(Part.kp.inj (Prod.mk.inj z).2).2;lia))];exact c⟩
theorem PK.same {H H':Hp}{Z:ar}{id:Nat}{h:Int}{L:List (Nat×Addr×HO)}(s:yi H H')(k:PK H Z id h L):PK H' Z id h L:=λy hy=>let⟨a,b,c⟩:=k y hy;⟨a,b,s _ _ c⟩
theorem PK.at_ {H:Hp}{Z:ar}{id:Nat}{h:Int}{L:List (Nat×Addr×HO)}(k:PK H Z id h L)(j:Nat){f:Nat}{a:Addr}{u:HO}(e:L[j]?=some (f,a,u)):Z a=some (id,.kp h f)/\H a=some u:=(k _ (mem_of_getElem? e)).2
structure Mk (t:Ad)(Z0:ar)(H0:Hp)(id:Nat)(h:Int)(x dx:Addr)(fs:List (Str×V))(L:List (Nat×Addr×HO))(Z:ar)(H:Hp):Prop where
 ob:H x=some (.ins t.j5 dx fs)
 rx:Z x=some (id,.kp h 0)
 pk:PK H Z id h L
 fr:Fr (bu id h) Z0 H0 Z H
 kr:ay Z H
section
variable {t:Ad}{Z0 Z:ar}{H0 H H':Hp}{id:Nat}{h:Int}{x dx:Addr}{fs fs':List (Str×V)}{L:List (Nat×Addr×HO)}
theorem Mk.new {p:Addr}{u:HO}(f:Nat)(m:Mk t Z0 H0 id h x dx fs L Z H)(n:H p=none)(hf:1<=f)(hu:autoParam (pL u) aP7):Mk t Z0 H0 id h x dx fs ((f,p,u)::L) (aO Z p (id,.kp h f)) (upd H p u):=by have nx:x≠p:=jj m.ob n;exact⟨by rw[jf nx];exact m.ob,by rw[xk nx];exact m.rx,m.pk.new n hf,m.fr.trans (Fr.cI n),m.kr.cI hu⟩
theorem Mk.wM (m:Mk t Z0 H0 id h x dx fs L Z H)(s:yi H H'):Mk t Z0 H0 id h x dx fs L Z H':=⟨s _ _ m.ob,m.rx,m.pk.same s,m.fr.trans (Fr.same s),m.kr.same s⟩
theorem Mk.obj (m:Mk t Z0 H0 id h x dx fs L Z H):Mk t Z0 H0 id h x dx fs' L Z (upd H x (.ins t.j5 dx fs')):=⟨jc,m.rx,m.pk.obj m.rx,m.fr.trans (Fr.put m.rx ⟨0,rfl⟩),m.kr.put⟩
end
theorem jop (T:Txt K mg t):xl P w K mg base CX0 1 t.vh t.Fg ["self","sums"] (λvs H Q _=>∃Z id h x dx sa,∃ns:List Int,vs=[.ref x,.ref sa]/\H x=some (.ins t.j5 dx [])/\Z x=some (id,.kp h 0)/\ay Z H/\H sa=some (.lst (ns.map V.int))/\ns.length<=1000/\∀Z' H' he nn dn,Mk t Z H id h x dx (jO he nn dn) [(3,dn,.lst []),(2,nn,.lst ((List.replicate ns.length 0).map V.int)),(1,he,.lst (ns.map V.int))] Z' H'->Q .aq H'):=by
 refine T.YR.bj (N:=["self","sums"]) λ_ A _ s H vs Q E hr h=>?_;obtain⟨Z,id,h,x,dx,sa,ns,rfl,hx,rx,kr,hs,ln,k⟩:=h;refine⟨_,(@jd _ _ _ _ _ (eI (pv 0) (qT tm rfl T.nX boot_list (je (pv 1) ji)) rfl) (@jd _ _ _ _ _ (eI (pv 0) (zt SX (@zh _ _ _ _ (je jq ji)) (jo jw rfl T.cO boot_len (je (pv 1) ji))) rfl) (@jg _ _ _ (eI (pv 0) (@zh _ _ _ _ ji) rfl)))),?_⟩;have m0:Mk t Z H id h x dx [] [] Z H:=⟨hx,rx,(λ_ z=>by cases z),Fr.refl,kr⟩;have sx:sa≠x:=vq hs hx (by intro z;cases z);refine⟨_,rfl,sa,_,rfl,.inl (ah.of hs),λhe nh=>?_⟩;have m1:=m0.new 1 nh (u:=.lst (ns.map V.int)) (by decide);have An:=jh (o:=.lst (ns.map V.int)) nh _ _ hs;refine⟨_,rfl,x,_,dx,_,rfl,m1.ob,T.jt,T.yw,(by show 0<1000;decide),?_⟩;have m2:=m1.obj (fs':=uf "held" (.ref he) []);have sU:upd (upd H he (.lst (ns.map V.int))) x (.ins t.j5 dx (uf "held" (.ref he) [])) sa=some (.lst (ns.map V.int)):=by rw[jf sx];exact An
 dsimp only;generalize upd (upd H he (.lst (ns.map V.int))) x (.ins t.j5 dx (uf "held" (.ref he) []))=G at m2 sU;refine⟨pJ,λz1 n1=>⟨_,rfl,sa,_,rfl,.inl (ah.of ((jh n1) _ _ sU)),?_⟩⟩;have m3:=m2.wM (jh (o:=.lst [.int 0]) n1);refine⟨z1,_,[.int 0],rfl,rfl,jc,?_,?_,?_,λnn n2=>?_⟩
 .omega
 .rw[length_map];have:=oM;omega
 .rw[length_map];exact rF (by simp;omega)
 have er:(List.replicate (((ns.map V.int).length:Nat):Int).toNat [V.int 0]).flatten=(List.replicate ns.length 0).map V.int:=by
  rw[Int.toNat_natCast,length_map,List.map_replicate];generalize ns.length=n;induction n with
  |zero=>rfl
  |succ n ih=>rw[replicate_succ,flatten_cons,ih,replicate_succ];rfl
 rw[er];have m4:=m3.new 2 n2 (u:=.lst ((List.replicate ns.length 0).map V.int)) (by decide);generalize upd (upd G z1 (.lst [.int 0])) nn (.lst ((List.replicate ns.length 0).map V.int))=G4 at m4;refine⟨_,rfl,x,_,dx,_,rfl,m4.ob,T.jt,T.zf,(by show 1<1000;decide),?_⟩;have m5:=m4.obj (fs':=uf "next_numbers" (.ref nn) (uf "held" (.ref he) []));dsimp only;generalize upd G4 x (.ins t.j5 dx (uf "next_numbers" (.ref nn) (uf "held" (.ref he) [])))=G5 at m5;refine⟨cG,λdn n3=>⟨_,rfl,x,_,dx,_,rfl,(m5.new 3 n3 (u:=.lst []) (by decide)).ob,T.jt,T.N2,(by show 2<1000;decide),?_⟩⟩;exact k _ _ he nn dn ((m5.new 3 n3 (u:=.lst []) (by decide)).obj)
def hU (ns:List Int):Kp:=⟨ns,List.replicate ns.length 0,[],[],[],[],[]⟩
theorem jk8 (T:Txt K mg t):xl P w K mg base CX0 2 t.wz t.Fl ["self","sums"] (λvs H Q _=>∃Z id h x dx sa,∃ns:List Int,vs=[.ref x,.ref sa]/\H x=some (.ins t.j5 dx [])/\Z x=some (id,.kp h 0)/\ay Z H/\H sa=some (.lst (ns.map V.int))/\ns.length<=1000/\∀Z' H' A,xi t H' Z' id h x A dx (hU ns)->Fr (bu id h) Z H Z' H'->ay Z' H'->Q .aq H'):=by
 refine T.YX.bj (N:=["self","sums"]) λ_ A _ s H vs Q E hr h=>?_;obtain⟨Z,id,h,x,dx,sa,ns,rfl,hx,rx,kr,hs,ln,k⟩:=h;refine⟨_,(@jd _ _ _ _ _ (qb (Xo rfl T.j3n T.jgt (jop T) hr.dn T.YS .nil ju (@vd _ _ _ _ _ (pv 0) (pv 1) rfl rfl))) (@jd _ _ _ _ _ (eI (pv 0) zE rfl) (@jd _ _ _ _ _ (eI (pv 0) (@zh _ _ _ _ ji) rfl) (@jd _ _ _ _ _ (eI (pv 0) zE rfl) (@jg _ _ _ (eI (pv 0) (@zh _ _ _ _ ji) rfl)))))),?_⟩;refine⟨_,rfl,_,rfl,Z,id,h,x,dx,sa,ns,rfl,hx,rx,kr,hs,ln,λZ1 H1 he nn dn m1=>?_⟩;refine λhd n1=>⟨_,rfl,x,_,dx,_,rfl,(m1.new 4 n1 (u:=.dT []) (by decide)).ob,T.jt,T.Hc,(by show 3<1000;decide),?_⟩;have m2:=(m1.new 4 n1 (u:=.dT []) (by decide)).obj (fs':=uf "heard" (.ref hd) (jO he nn dn));dsimp only;generalize upd (upd H1 hd (.dT [])) x (.ins t.j5 dx (uf "heard" (.ref hd) (jO he nn dn)))=G2 at m2;refine⟨cG,λun n2=>⟨_,rfl,x,_,dx,_,rfl,(m2.new 5 n2 (u:=.lst []) (by decide)).ob,T.jt,T.yf,(by show 4<1000;decide),?_⟩⟩;have m3:=(m2.new 5 n2 (u:=.lst []) (by decide)).obj (fs':=uf "unvoted" (.ref un) (uf "heard" (.ref hd) (jO he nn dn)));dsimp only;generalize upd (upd G2 un (.lst [])) x (.ins t.j5 dx (uf "unvoted" (.ref un) (uf "heard" (.ref hd) (jO he nn dn))))=G3 at m3;refine λcs n3=>⟨_,rfl,x,_,dx,_,rfl,(m3.new 6 n3 (u:=.dT []) (by decide)).ob,T.jt,T.qt,(by show 5<1000;decide),?_⟩;have m4:=(m3.new 6 n3 (u:=.dT []) (by decide)).obj (fs':=uf "choices" (.ref cs) (uf "unvoted" (.ref un) (uf "heard" (.ref hd) (jO he nn dn))));dsimp only;generalize upd (upd G3 cs (.dT [])) x (.ins t.j5 dx (uf "choices" (.ref cs) (uf "unvoted" (.ref un) (uf "heard" (.ref hd) (jO he nn dn)))))=G4 at m4;refine⟨cG,λwt n4=>⟨_,rfl,x,_,dx,_,rfl,(m4.new 7 n4 (u:=.lst []) (by decide)).ob,T.jt,T.xa,(by show 6<1000;decide),?_⟩⟩;have m5:=(m4.new 7 n4 (u:=.lst []) (by decide)).obj (fs':=kf he nn dn hd un cs wt);refine k _ _ (λf=>match f with|1=>he|2=>nn|3=>dn|4=>hd|5=>un|6=>cs|_=>wt) ⟨m5.ob,m5.rx,λf h1 h7=>?_⟩ m5.fr m5.kr;have p:=m5.pk
 match f,h1,h7 with
 |1,_,_=>exact⟨(p.at_ 6 rfl).1,_,(p.at_ 6 rfl).2,rfl⟩
 |2,_,_=>exact⟨(p.at_ 5 rfl).1,_,(p.at_ 5 rfl).2,rfl⟩
 |3,_,_=>exact⟨(p.at_ 4 rfl).1,_,(p.at_ 4 rfl).2,[],rfl,.nil⟩
 |4,_,_=>exact⟨(p.at_ 3 rfl).1,_,(p.at_ 3 rfl).2,[],rfl,rfl⟩
 |5,_,_=>exact⟨(p.at_ 2 rfl).1,_,(p.at_ 2 rfl).2,[],rfl,.nil⟩
 |6,_,_=>exact⟨(p.at_ 1 rfl).1,_,(p.at_ 1 rfl).2,[],rfl,.nil⟩
 |7,_,_=>exact⟨(p.at_ 0 rfl).1,_,(p.at_ 0 rfl).2,[],rfl,.nil⟩
noncomputable def rW (K:W.Frag)(H:Hp)(Z:ar)(id:Nat)(a:Addr)(ks:List Int):Prop:=(H a=some (.lst (ks.map V.int))/\∀r,Z a=some r->¬r.1=id)\/(ks=[]/\∃(o:Obj)(its:Array Value)(n:Nat),K.lookup a=some o/\o.cls= .type "tuple"/\o.data= .seq its n/\its.size<=sizeLine/\Vals [] its.toList)
theorem rW.at_ {K:W.Frag}{H:Hp}{Z:ar}{id:Nat}{a:Addr}{ks:List Int}(h:rW K H Z id a ks):vb K H a ks:=h.imp (λq=>q.1) (λq=>⟨q.1,.inr q.2⟩)
theorem rW.fr {K:W.Frag}{H H':Hp}{Z Z':ar}{id:Nat}{a:Addr}{ks:List Int}(f:Fr (λr=>r.1=id) Z H Z' H')(h:rW K H Z id a ks):vb K H' a ks:=by
 rcases h with⟨h,n⟩|⟨e,h⟩
 .exact .inl (f a _ h n).1
 .exact .inr ⟨e,.inr h⟩
theorem xn.kM {t:Ad}{P:Role->Prop}{Z Z':ar}{H H':Hp}{id:Nat}(f:Fr P Z H Z' H'):∀{aa:List (Key×V)}{ks:List (Int×Kp)},(∀c∈ks,∀j,¬P (id,.kp c.1 j))->xn t H Z id aa ks->xn t H' Z' id aa ks:=λ{aa ks} n q=>by
 unfold xn at q;induction q with
 |nil=>exact .nil
 |@cons kv c aa ks a r ih=>obtain⟨e,k,A,dk,ek,q⟩:=a;exact .cons ⟨e,k,A,dk,ek,q.fr (n c mem_cons_self) f⟩ (ih λc' hc=>n c' (mem_cons_of_mem _ hc))
def allI (id:Nat):Role->Prop:=λr=>r.1=id
structure dI (t:Ad)(Z0:ar)(H0:Hp)(id:Nat)(x dx:Addr)(fs:List (Str×V))(Z:ar)(H:Hp):Prop where
 ob:H x=some (.ins t.j4 dx fs)
 rx:Z x=some (id,.x)
 fr:Fr (allI id) Z0 H0 Z H
 kr:ay Z H
section
variable {t:Ad}{Z0 Z Z':ar}{H0 H H':Hp}{id:Nat}{x dx:Addr}{fs fs':List (Str×V)}{P:Role->Prop}
theorem dI.step (m:dI t Z0 H0 id x dx fs Z H)(f:Fr P Z H Z' H')(n:¬P (id,.x))(hP:∀r,P r->r.1=id)(kr:ay Z' H'):dI t Z0 H0 id x dx fs Z' H':=by obtain⟨e,r⟩:=dH f m.ob m.rx n;exact⟨e,r,m.fr.trans (f.mono hP),kr⟩
theorem dI.wM (m:dI t Z0 H0 id x dx fs Z H)(s:yi H H'):dI t Z0 H0 id x dx fs Z H':=m.step (P:=λ_=>False) (Fr.same s) (λz=>z) (λ_ z=>z.elim) (m.kr.same s)
theorem dI.new {p:Addr}{u:HO}{r:Role}(m:dI t Z0 H0 id x dx fs Z H)(n:H p=none)(hu:autoParam (pL u) aP7):dI t Z0 H0 id x dx fs (aO Z p r) (upd H p u):=m.step (P:=λ_=>False) (Fr.cI n) (λz=>z) (λ_ z=>z.elim) (m.kr.cI hu)
theorem dI.obj (m:dI t Z0 H0 id x dx fs Z H):dI t Z0 H0 id x dx fs' Z (upd H x (.ins t.j4 dx fs')):=⟨jc,m.rx,m.fr.trans (Fr.put m.rx rfl),m.kr.put⟩
theorem dI.fo (m:dI t Z0 H0 id x dx fs Z H):Fr (fG id .x) Z H Z (upd H x (.ins t.j4 dx fs')):=Fr.put m.rx rfl
end
def ug (ls:List Int)(n:Nat):List Int:=((List.range n).map λ(i:Nat)=>(i:Int)).filter λi=>!decide (i∈ls)
def w0 (h f:Int)(ns cs ls:List Int):Wd:=⟨ns.length,cs,(ug ls h.toNat).map λi=>(i,hU ns),[],h-f,List.replicate ns.length [],[]⟩
structure rX (H:Hp)(Z:ar)(ch ly:Addr)(cs ls:List Int):Prop where
 c:H ch=some (.lst (cs.map V.int))/\Z ch=none
 l:H ly=some (.lst (ls.map V.int))/\Z ly=none
theorem rX.fr {P:Role->Prop}{Z Z':ar}{H H':Hp}{ch ly:Addr}{cs ls:List Int}(f:Fr P Z H Z' H')(h:rX H Z ch ly cs ls):rX H' Z' ch ly cs ls:=⟨iJ f h.c.1 h.c.2,iJ f h.l.1 h.l.2⟩
theorem A8 (ls:List Int)(n:Nat):ug ls (n+1)=ug ls n++if(n:Int)∈ls then[]else[(n:Int)]:=by
 unfold ug;rw[List.range_succ,map_append,filter_append];congr 1;by_cases z:(n:Int)∈ls
 .rw[if_pos z];simp[z]
 .rw[if_neg z];simp[z]
theorem O4 {ls:List Int}{n:Nat}{i:Int}(h:i∈ug ls n):0<=i/\i<(n:Int)/\i∉ls:=by unfold ug at h;obtain⟨h1,h2⟩:=mem_filter.mp h;obtain⟨j,hj,rfl⟩:=mem_map.mp h1;have:=mem_range.mp hj;exact⟨by lia,by lia,by simpa using h2⟩
theorem HW (ls:List Int)(n:Nat):(ug ls n).length<=n:=by unfold ug;refine le_trans (length_filter_le _ _) ?_;rw[length_map,length_range];exact le_refl _
abbrev q2 (ns:List Int):List (Str×V):=uf "total" (.int ns.sum) (uf "purses" (.int (ns.map V.int).length) [])
abbrev q3 (ns:List Int)(ly:Addr):List (Str×V):=uf "lying" (.ref ly) (q2 ns)
abbrev q4 (ns:List Int)(ly ch:Addr):List (Str×V):=uf "cheating" (.ref ch) (q3 ns ly)
abbrev q5 (ns:List Int)(ly ch D:Addr):List (Str×V):=uf "keepers" (.ref D) (q4 ns ly ch)
abbrev q6 (ns:List Int)(ly ch D b:Addr):List (Str×V):=uf "board" (.ref b) (q5 ns ly ch D)
abbrev q7 (ns:List Int)(ly ch D b ak:Addr):List (Str×V):=uf "asked" (.ref ak) (q6 ns ly ch D b)
noncomputable def j2i (K:PySem.W.Frag)(t:Ad):Sp:=λvs H Q _=>∃Z id x dx h f sa ns la ca cs ls,vs=[.ref x,.int h,.int f,.ref sa,.ref la,.ref ca]/\H x=some (.ins t.j4 dx [])/\Z x=some (id,.x)/\ay Z H/\(1<=h/\h<=16)/\(0<=f/\f<=5)/\3*f<h/\H sa=some (.lst ((ns:List Int).map V.int))/\(∀r,Z sa=some r->¬allI id r)/\2<=ns.length/\ns.length<=8/\(∀i∈ns,0<=i/\i<=1000)/\rW K H Z id la ls/\ls.Pairwise (·<·)/\(∀k∈ls,0<=k/\k<h)/\(ls.length:Int)<=f/\rW K H Z id ca cs/\cs.Pairwise (·<·)/\(∀k∈cs,0<=k/\k<(ns.length:Int))/\∀Z' H' W,W.x=x->W.bR=ns.sum->qu t H' Z' id W (w0 h f ns cs ls)->(H' W.ly=some (.lst (ls.map V.int))/\Z' W.ly=none)->Fr (allI id) Z H Z' H'->ay Z' H'->Q .aq H'
set_option maxHeartbeats 0 in
theorem jmm (T:Txt K mg t) : xl P w K mg base CX0 6 t.g6 t.Fv ["self","houses","few","sums","liars","cheats"] (j2i K t):=by
 refine T.Zg.bj (N:=["self","houses","few","sums","liars","cheats"]) λ_ A _ s H vs Q E hr h=>?_
 obtain ⟨Z,id,x,dx,h,f,sa,ns,la,ca,cs,ls,rfl,hx,rx,kr,h1,f1,lt,hs,nsa,l2,l8,rg,O5,oj,A9,llf,O8,up,Ba,k⟩:=h
 have hla:=O5.at_
 have hca:=O8.at_
 refine ⟨_,(@jd _ _ _ _ _ (qb (qS (jo4 T) hr.dn rfl T.YA T.Nz.kp T.YB ju (je (pv 1) ji) (iV (pv 2) (iV (pv 4) oP))))
  (@jd _ _ _ _ _ (qb (qS (jpm T) hr.dn rfl T.YC T.NA.kp T.YD ju (je (pv 3) ji) (iV (pv 5) oP)))
  (@jd _ _ _ _ _ (eI (pv 0) (jo jw rfl T.cO boot_len (je (pv 3) ji)) rfl)
  (@jd _ _ _ _ _ (eI (pv 0) (jo (Ll rfl) rfl T.Oc boot_sum (je (pv 3) ji)) rfl)
  (@jd _ _ _ _ _ (eI (pv 0) (qT tm rfl T.nX boot_list (je (pv 4) ji)) rfl)
  (@jd _ _ _ _ _ (eI (pv 0) (qT tm rfl T.nX boot_list (je (pv 5) ji)) rfl)
  (@jd _ _ _ _ _ (eI (pv 0) (Vp (.dK []) (.inl rfl) (gU hr) (N':=["house","sums","liars"]) (ix:=[none,some 3,some 4]) (zd (by kernel_rfl)) rfl (mX rfl T.nY (je (pv 1) ji)) (λ_ _ _ _=>(jr (i:=0) X5 rfl (Or.inl rfl) (.inr rfl))) (λ_ _ _ _=>(lX (j3 (Af (K:=K) rfl) (pv 0) (pv 2) (by with_unfolding_all rfl)))) (λ_ _ _ _=>(pv 0)) (λ_ _ _ _=>(Ks T.YY (jk8 T) hr.dn rfl T.jv8 T.YZ .nil ju (je (pv 1) ji)))) rfl)
  (@jd _ _ _ _ _ (eI (pv 0) (Ks T.YH (jmy T) hr.dn rfl T.jy5 T.YI .nil ju (je (qS (juw T) hr.dn rfl T.Ys T.Nv.kp T.Yt ju (je (pv 1) ji) (iV (pv 2) oP)) ji)) rfl)
  (@jd _ _ _ _ _ (eI (pv 0) (y9 (N':=["each"]) (ix:=[none]) (zd (by kernel_rfl)) rfl (@gh _ _ _ _ (pv 3)) (λ_ _ _ _=>(jr (i:=0) X4 rfl (Or.inl rfl) (.inr rfl))) (λ_ _ _ _=>lW) (λ_ _ _ _=>(@zh _ _ _ _ ji))) rfl)
  (@jg _ _ _ (eI (pv 0) (@zh _ _ _ _ ji) rfl))))))))))),?_⟩
 refine aU λN hN=>⟨_,rfl,_,rfl,_,rfl,h,f,la,ls,rfl,h1,f1,lt,hla,oj,A9,llf,λH1 s1=>?_⟩
 refine hN _ _ (aU λN hN=>⟨_,rfl,_,rfl,sa,ns,ca,cs,rfl,s1 _ _ hs,l2,l8,rg,hca.same s1,up,Ba,λH2 s2=>?_⟩)
 have m2:dI t Z H id x dx [] Z H2:=dI.wM ⟨hx,rx,Fr.refl,kr⟩ (s1.trans s2)
 have wN : ∀ {Z' H' fs},dI t Z H id x dx fs Z' H' -> H' sa = some (.lst (ns.map V.int)):=λm=>(m.fr _ _ hs nsa).1
 have Pa : ∀ {Z' H' fs},dI t Z H id x dx fs Z' H' -> vb K H' la ls:=λm=>O5.fr m.fr
 have ca_ : ∀ {Z' H' fs},dI t Z H id x dx fs Z' H' -> vb K H' ca cs:=λm=>O8.fr m.fr
 refine hN _ _ (aU λN hN=>⟨_,rfl,sa,_,rfl,.inl (ah.of (wN m2)),_,rfl,x,_,dx,_,rfl,m2.ob,T.jl,T.vg,(by show 0 < 1000; decide),?_⟩)
 have m3:=m2.obj (fs':=uf "purses" (.int (ns.map V.int).length) [])
 dsimp only
 generalize upd H2 x (.ins t.j4 dx (uf "purses" (.int (ns.map V.int).length) [])) = G3 at m3
 refine hN _ _ (aU λN hN=>⟨_,rfl,sa,ns,rfl,ah.of (wN m3),_,rfl,x,_,dx,_,rfl,m3.ob,T.jl,T.jje,(by show 1 < 1000; decide),?_⟩)
 have m4:=m3.obj (fs':=q2 ns)
 dsimp only
 generalize upd G3 x (.ins t.j4 dx (q2 ns)) = G4 at m4
 refine hN _ _ (aU λN hN=>⟨_,rfl,la,_,rfl,(Pa m4).sq,λly HX=>?_⟩)
 have m5:=m4.wM (jh (o:=.lst (ls.map V.int)) HX)
 have l5:upd G4 ly (.lst (ls.map V.int)) ly = some (.lst (ls.map V.int)) /\ Z ly = none:=⟨jc,m4.kr.none HX⟩
 refine ⟨_,rfl,x,_,dx,_,rfl,m5.ob,T.jl,T.Hd,(by show 2 < 1000; decide),?_⟩
 have m6:=m5.obj (fs':=q3 ns ly)
 have l6:=iJ (m5.fo (fs':=q3 ns ly)) l5.1 l5.2
 dsimp only
 generalize upd (upd G4 ly (.lst (ls.map V.int))) x (.ins t.j4 dx (q3 ns ly)) = G6 at m6 l6
 refine hN _ _ (aU λN hN=>⟨_,rfl,ca,_,rfl,(ca_ m6).sq,λch kA=>?_⟩)
 have m7:=m6.wM (jh (o:=.lst (cs.map V.int)) kA)
 have c7:rX (upd G6 ch (.lst (cs.map V.int))) Z ch ly cs ls:=⟨⟨jc,m6.kr.none kA⟩,iJ (P:=λ_=>False) (Fr.same (jh kA)) l6.1 l6.2⟩
 refine ⟨_,rfl,x,_,dx,_,rfl,m7.ob,T.jl,T.ye,(by show 3 < 1000; decide),?_⟩
 have m8:=m7.obj (fs':=q4 ns ly ch)
 have c8:=c7.fr (m7.fo (fs':=q4 ns ly ch))
 dsimp only
 generalize upd (upd G6 ch (.lst (cs.map V.int))) x (.ins t.j4 dx (q4 ns ly ch)) = G8 at m8 c8
 clear m2 m3 m4 m5 m6 m7 c7 HX kA l5 l6
 refine hN _ _ (aU λN hN=>⟨_,rfl,h,rfl,(by omega),(by omega),λD nD=>?_⟩)
 have m9:=m8.new (r:=(id,.kd)) nD (u:=.dK [])
 have c9:rX (upd G8 D (.dK [])) (aO Z D (id,.kd)) ch ly cs ls:=c8.fr (P:=λ_=>False) (Fr.cI nD)
 refine Xn (lo:=0) (n:=h.toNat) (λi U H'=>∃ v aa Z',U = [v,some (.ref sa),some (.ref la)] /\ dI t Z H id x dx (q4 ns ly ch) Z' H' /\ rX H' Z' ch ly cs ls /\ Z' D = some (id,.kd) /\ H' D = some (.dK aa) /\ xn t H' Z' id aa ((ug ls i).map λi=>(i,hU ns))) ⟨none,[],_,rfl,m9,c9,zr,jc,.nil⟩ ?_ ?_
 .rintro i U H' hi ⟨v,aa,Z',rfl,m,hc,rD,hD,ks⟩
  have e0:(0:Int) + (i:Int) = i:=Int.zero_add _
  rw [e0]
  refine ⟨_,rfl,_,rfl,la,_,rfl,(Pa m).sq,rfl,mr _,_,rfl,bp (λzz=>?_) (λzz=>?_)⟩
  rotate_left
  .have nl:(i:Int) ∈ ls:=by
    rw [if_pos rfl,wj] at zz
    simpa using zz
   refine ⟨_,aa,Z',rfl,m,hc,rD,hD,?_⟩
   rw [A8,if_pos nl,append_nil]
   exact ks
  have nl : ¬ (i:Int) ∈ ls:=by
   rw [if_pos rfl,wj] at zz
   simpa using zz
  refine ⟨_,rfl,_,rfl,λk dk nk ndk ne=>?_⟩
  have sk:yi H' (upd H' dk (.own k)):=jh ndk
  have nk1:upd H' dk (.own k) k = none:=by rw [jf ne.symm]; exact nk
  have f1:Fr (λ_=>False) Z' H' (aO Z' k (id,.kp i 0)) (upd (upd H' dk (.own k)) k (.ins t.j5 dk [])):=(Fr.same sk).trans (Fr.cI nk1)
  have bN:ay (aO Z' k (id,.kp i 0)) (upd (upd H' dk (.own k)) k (.ins t.j5 dk [])):=(m.kr.same sk).cI
  have m1:=m.step f1 (λz=>z) (λ_ z=>z.elim) bN
  refine ⟨_,id,(i:Int),k,dk,sa,ns,rfl,jc,zr,bN,wN m1,by omega,λZ2 Bb A2 R2 f2 bW=>⟨rfl,?_⟩⟩
  have eB:Fr (bu id i) Z' H' Z2 Bb:=(f1.mono λ_ z=>z.elim).trans f2
  have HY : ∀ {p:Part},(∀ j,p ≠ .kp (i:Int) j) -> ¬ bu id (i:Int) (id,p):=λhp ⟨j,e⟩=>hp j (Prod.mk.inj e).2
  have mm:=m.step eB (HY λ_ z=>by cases z) (λr ⟨j,e⟩=>by rw [e]) bW
  have uN:=hc.fr eB
  obtain ⟨pQ,Pb⟩:=dH eB hD rD (HY λ_ z=>by cases z)
  have rY:xn t Bb Z2 id aa ((ug ls i).map λi=>(i,hU ns)):=xn.kM eB (λc hc j=>by
   obtain ⟨i',HZ,rfl⟩:=mem_map.mp hc
   have:=O4 HZ
   refine HY λj' z=>?_
   have:i' = (i:Int):=(Part.kp.inj z).1
   omega) ks
  have nv:aX aa (.inl (i:Int)) = none:=by
   cases e:aX aa (.inl (i:Int)) with
   | none=>rfl
   | some v=>
    exfalso
    have hm:=TR e
    obtain ⟨j,hj,ej⟩:=mem_iff_getElem.mp hm
    rw [length_map] at hj
    obtain ⟨c,ec,e1,_⟩:=j7 rY (getElem?_eq_getElem hj)
    rw [List.getElem_map] at ej
    rw [e1] at ej
    obtain ⟨i',HZ,rfl⟩:=mem_map.mp (mem_of_getElem? ec)
    have:=O4 HZ
    have:i' = (i:Int):=Sum.inl.inj ej
    omega
  have lk:aa.length <= 1000:=by
   rw [Paired.length rY,length_map]
   have:=HW ls i
   omega
  refine ⟨_,iq.k (k:=.inl (i:Int)) pQ (ze lk),?_⟩
  rw [tJ _ nv]
  have f3:Fr (fG id .kd) Z2 Bb Z2 (upd Bb D (.dK (aa ++ [(.inl (i:Int),.ref k)]))):=Fr.put Pb rfl
  refine ⟨_,_,Z2,rfl,mm.step f3 jz (λr e=>by rw [e]) bW.put,uN.fr f3,Pb,jc,?_⟩
  rw [A8,if_neg nl,map_append]
  exact qo (xn.fr f3 (λ_ _=>jz) rY) ⟨rfl,k,A2,dk,rfl,R2.fr (λ_=>jz) f3⟩
 .rintro U G10 ⟨v,aa,Z1,rfl,Bc,c10,rD,hD,ks⟩
  clear m8 c8 m9 c9 nD
  refine ⟨_,rfl,x,_,dx,_,rfl,Bc.ob,T.jl,T.qp,(by show 4 < 1000; decide),?_⟩
  have Bd:=Bc.obj (fs':=q5 ns ly ch D)
  have pR:=Bc.fo (fs':=q5 ns ly ch D)
  have c11:=c10.fr pR
  have k11:=um pR jz (λ_ _=>jz) rD ⟨aa,hD,ks⟩
  dsimp only
  generalize upd G10 x (.ins t.j4 dx (q5 ns ly ch D)) = rZ at Bd c11 k11
  clear pR Bc c10
  refine hN _ _ (aU λN hN=>⟨_,rfl,_,rfl,h,f,rfl,λb db nb ndb neb=>?_⟩)
  have sb:yi rZ (upd rZ db (.own b)):=jh ndb
  have nb1:upd rZ db (.own b) b = none:=by rw [jf neb.symm]; exact nb
  refine ⟨b,db,h - f,rfl,jc,λS wO nS Bq fr=>⟨rfl,?_⟩⟩
  have nS0:rZ S = none:=by
   have nSb:S ≠ b:=λz=>by rw [z,jc] at nS; cases nS
   rw [jf nSb] at nS
   exact sb.free nS
  have Ia:yi rZ wO:=λc u e=>fr _ _ (by rw [jf (jj (sb _ _ e) nb1)]; exact sb _ _ e) (jj e nb)
  have bS:b ≠ S:=vq Bq.ob Bq.sg (by intro z; cases z)
  have eB:Fr (λ_=>False) Z1 rZ (aO (aO Z1 b (id,.bd)) S (id,.sd)) wO:=λa u e _=>⟨Ia _ _ e,by rw [xk (jj e nS0),xk (jj e nb)]⟩
  have pS:ay (aO (aO Z1 b (id,.bd)) S (id,.sd)) wO:=λa r e=>by
   by_cases z:a = S
   .subst z
    exact ⟨_,Bq.sg,True.intro⟩
   .rw [xk z] at e
    by_cases y:a = b
    .subst y
     exact ⟨_,Bq.ob,True.intro⟩
    .rw [xk y] at e
     obtain ⟨u,hu,nu⟩:=Bd.kr a r e
     exact ⟨u,Ia _ _ hu,nu⟩
  have wQ:=Bd.step eB (λz=>z) (λ_ z=>z.elim) pS
  have c12:=c11.fr eB
  have k12:=um eB (λz=>z) (λ_ _ z=>z) k11.1 k11.2
  have oq:(aO (aO Z1 b (id,.bd)) S (id,.sd)) b = some (id,.bd) /\ (aO (aO Z1 b (id,.bd)) S (id,.sd)) S = some (id,.sd) /\ ∃ aa,yz t wO b db S (h - f) aa (bP []) /\ mz (aO (aO Z1 b (id,.bd)) S (id,.sd)) id aa:=⟨by rw [xk bS,zr],zr,[],Bq,λ_ z=>by cases z⟩
  generalize aO (aO Z1 b (id,.bd)) S (id,.sd) = Z2 at wQ c12 k12 oq pS eB
  clear Bd c11 k11 eB pS
  refine ⟨_,rfl,x,_,dx,_,rfl,wQ.ob,T.jl,T.xr,(by show 5 < 1000; decide),?_⟩
  have Ib:=wQ.obj (fs':=q6 ns ly ch D b)
  have fo:=wQ.fo (fs':=q6 ns ly ch D b)
  have c13:=c12.fr fo
  have k13:=um fo jz (λ_ _=>jz) k12.1 k12.2
  have Be:=iK fo jz jz jz oq.1 oq.2.1 oq.2.2
  dsimp only
  generalize upd wO x (.ins t.j4 dx (q6 ns ly ch D b)) = G13 at Ib c13 k13 Be
  clear wQ c12 k12 oq fo
  have hsa:=wN Ib
  refine hN _ _ (aU λN hN=>⟨_,rfl,sa,rfl,⟨_,ah.of hsa⟩,iw (K:=K) (a:=sa) (xs:=ns.map V.int) (λi ys U H'=>∃ v rr Z',U = [v] /\ ys = rr.map V.ref /\ rr.length = i /\ dI t Z H id x dx (q6 ns ly ch D b) Z' H' /\ Fr (λ_=>False) Z2 G13 Z' H' /\ ∀ (j:Nat) r,rr[j]? = some r -> Z' r = some (id,.row j) /\ H' r = some (.lst [])) ⟨none,[],Z2,rfl,rfl,rfl,Ib,Fr.refl,λj r e=>by cases e⟩ ?_ ?_ ?_⟩)
  .rintro i ys U H' hi ⟨v,rr,Z',rfl,rfl,lr,mm,ff,Bf⟩
   rw [length_map] at hi
   refine ⟨ah.of (wN mm),rF ?_⟩
   rw [length_map]
   omega
  .rintro i y ys U H' hy ⟨v,rr,Z',rfl,rfl,lr,mm,ff,Bf⟩
   dsimp only [dy,kK]
   rw [if_pos rfl]
   refine ⟨cG,λp np=>⟨_,rr ++ [p],aO Z' p (id,.row i),rfl,?_,?_,mm.new np,ff.trans (Fr.cI np),λj r e=>?_⟩⟩
   .rw [map_append]; rfl
   .rw [length_append,lr]; rfl
   .by_cases z:j < rr.length
    .rw [List.getElem?_append_left z] at e
     obtain ⟨q1,q2⟩:=Bf j r e
     have:r ≠ p:=jj q2 np
     exact ⟨by rw [xk this]; exact q1,by rw [jf this]; exact q2⟩
    .rw [List.getElem?_append_right (by omega)] at e
     have j0:j = rr.length:=by
      have:=(List.getElem?_eq_some_iff.mp e).1
      simp at this
      omega
     subst j0
     rw [Nat.sub_self] at e
     cases e
     rw [lr]
     exact ⟨zr,jc⟩
  .rintro ys U H' ⟨v,rr,Z3,rfl,rfl,lr,m14,pT,Bf⟩ ak Pd
   rw [length_map] at lr
   have c14:=c13.fr pT
   have k14:=um pT (λz=>z) (λ_ _ z=>z) k13.1 k13.2
   have Ic:=iK pT (λz=>z) (λz=>z) (λz=>z) Be.1 Be.2.1 Be.2.2
   have mE:Fr (λ_=>False) Z3 H' (aO Z3 ak (id,.ak)) (upd H' ak (.lst (rr.map V.ref))):=Fr.cI Pd
   have Bg:=m14.new (r:=(id,.ak)) Pd (u:=.lst (rr.map V.ref))
   have c15:=c14.fr mE
   have k15:=um mE (λz=>z) (λ_ _ z=>z) k14.1 k14.2
   have Bh:=iK mE (λz=>z) (λz=>z) (λz=>z) Ic.1 Ic.2.1 Ic.2.2
   have a15:(aO Z3 ak (id,.ak)) ak = some (id,.ak) /\ ∃ rs,upd H' ak (.lst (rr.map V.ref)) ak = some (.lst (rs.map V.ref)) /\ my (upd H' ak (.lst (rr.map V.ref))) (aO Z3 ak (id,.ak)) id rs (List.replicate ns.length []):=by
    refine ⟨zr,rr,jc,by rw [lr,length_replicate],λi r os e1 e2=>?_⟩
    obtain ⟨q1,q2⟩:=Bf i r e1
    obtain ⟨q3,q4⟩:=dH mE q2 q1 (λz=>z)
    have:os = []:=eq_of_mem_replicate (mem_of_getElem? e2)
    subst this
    exact ⟨q4,[],q3,.nil⟩
   generalize aO Z3 ak (id,.ak) = Z4 at mE Bg c15 k15 Bh a15
   refine ⟨_,rfl,x,_,dx,_,rfl,Bg.ob,T.jl,T.He,(by show 6 < 1000; decide),?_⟩
   have Pe:=Bg.obj (fs':=q7 ns ly ch D b ak)
   have fo:=Bg.fo (fs':=q7 ns ly ch D b ak)
   have c16:=c15.fr fo
   have k16:=um fo jz (λ_ _=>jz) k15.1 k15.2
   have Bi:=iK fo jz jz jz Bh.1 Bh.2.1 Bh.2.2
   have a16:=mC fo jz (λ_=>jz) a15.1 a15.2
   dsimp only
   generalize upd (upd H' ak (.lst (rr.map V.ref))) x (.ins t.j4 dx (q7 ns ly ch D b ak)) = Pf at Pe c16 k16 Bi a16
   refine hN _ _ ⟨cG,λwy Pg=>?_⟩
   have mF:Fr (λ_=>False) Z4 Pf (aO Z4 wy (id,.wy)) (upd Pf wy (.lst [])):=Fr.cI Pg
   have Ie:=Pe.new (r:=(id,.wy)) Pg (u:=.lst [])
   have c17:=c16.fr mF
   have k17:=um mF (λz=>z) (λ_ _ z=>z) k16.1 k16.2
   have Ig:=iK mF (λz=>z) (λz=>z) (λz=>z) Bi.1 Bi.2.1 Bi.2.2
   have a17:=mC mF (λz=>z) (λ_ z=>z) a16.1 a16.2
   refine ⟨_,rfl,x,_,dx,_,rfl,Ie.ob,T.jl,T.zi,(by show 7 < 1000; decide),?_⟩
   have Bj:=Ie.obj (fs':=dG (ns.map V.int).length ns.sum ly ch D b ak wy)
   have jS:=Ie.fo (fs':=dG (ns.map V.int).length ns.sum ly ch D b ak wy)
   have c18:=c17.fr jS
   have k18:=um jS jz (λ_ _=>jz) k17.1 k17.2
   have b18:=iK jS jz jz jz Ig.1 Ig.2.1 Ig.2.2
   have a18:=mC jS jz (λ_=>jz) a17.1 a17.2
   have y18:=HJ (way:=[]) jS jz zr ⟨[],jc,.nil⟩
   refine k _ _ ⟨x,dx,ns.sum,ly,ch,D,b,ak,wy,db,S⟩ rfl rfl ⟨⟨?_,Bj.rx⟩,c18.c,k18,b18,a18,y18⟩ c18.l Bj.fr Bj.kr
   refine (Bj.ob).trans ?_
   show some (HO.ins t.j4 dx (dG ((ns.map V.int).length:Int) ns.sum ly ch D b ak wy)) = some (HO.ins t.j4 dx (dG (ns.length:Int) ns.sum ly ch D b ak wy))
   rw [length_map]
theorem jjy (T:Txt K mg t):xl P w K mg base CX0 3 t.uz t.FF ["self","liar"] (λvs H Q _=>∃Z id W Y h ls,vs=[.ref W.x,.int h]/\qu t H Z id W Y/\H W.ly=some (.lst ((ls:List Int).map V.int))/\h∈ls/\Q .aq H):=by refine T.Zv.bj (N:=["self","liar"]) λ_ A _ s H vs Q E hr h=>?_;obtain⟨Z,id,W,Y,h,ls,rfl,O,hl,hm,g⟩:=h;refine⟨_,(@jg _ _ _ (zk (PW.pt (gC (xu (zl (jn (AY T) hr.dn rfl T.AU T.vT.kp T.AV .nil ju (je (pv 1) ji)))) (gS (j3 yY (pv 1) (qd (pv 0) rfl) (by with_unfolding_all rfl))))) qw qe)),?_⟩;refine⟨_,rfl,h,rfl,_,rfl,ka ?_⟩;refine⟨_,rfl,_,rfl,W.x,_,W.dx,_,_,rfl,O.ob.1,T.jl,T.Hd,OB,W.ly,_,rfl,.inl (ah.of hl),rfl,mr _,_,rfl,?_⟩;rw[if_pos rfl,wj,decide_eq_true hm];exact ka g
theorem j0k {K:W.Frag}{H:Hp}{Z:ar}{xs:List V}{os:List O}(p:Paired (zu H Z) xs os):Paired (iB K H) xs (os.map yh):=by
 induction p with
 |nil=>exact .nil
 |cons h _ ih=>obtain⟨a,e,_,q⟩:=h;exact .cons ⟨a,e,aA.of q⟩ ih
def Wd.may (Y:Wd)(o:O):Prop:=o.p∈Y.y3\/∃row,Y.asked[o.p.toNat]?=some row/\o∈row
theorem Ih (T:Txt K mg t):xl P w K mg base CX0 6 t.FN t.FO ["self","liar","order"] (λvs H Q _=>∃Z id W Y h q o ls a b c,vs=[.ref W.x,.int h,.ref q]/\qu t H Z id W Y/\ay Z H/\H W.ly=some (.lst ((ls:List Int).map V.int))/\h∈ls/\zu H Z (.ref q) o/\yy Y.n o=true/\Y.may o/\Sz Y a b c/\a+1<=1000/\b+1<=1000/\c+16<=100000/\∀Z' H',qu t H' Z' id W (Y.zb h [o])->Fr (rP id) Z H Z' H'->ay Z' H'->Q .aq H'):=by
 refine T.ZF.bj (N:=["self","liar","order"]) λ_ A _ s H vs Q E hr h=>?_;obtain⟨Z,id,W,Y,h,q,o,ls,a,b,c,rfl,O,kr,hl,hm,uq,ho,may,sz,la,lb,lc,g⟩:=h;refine⟨_,(@jd _ _ _ _ _ (qb (qj (pv 0) T.jl T.Zw (jjy T) hr.dn T.Zx .nil ju (je (pv 1) ji))) (@jd _ _ _ _ _ (qb (qj (pv 0) T.jl T.gb (ON T) hr.dn T.kz .nil ju (je (pv 2) ji))) (@jd _ _ _ _ _ (zk (PW.pt (lE (j3 yY (cC kJ (pv 2) jq (λ_ _=>rfl)) (qd (pv 0) rfl) (by with_unfolding_all rfl)) (mS (j3 (Vj hr.units) (pv 2) (cC uw (qd (pv 0) rfl) (cC kJ (pv 2) jq (λ_ _=>rfl)) (λ_ _=>rfl)) (by with_unfolding_all rfl))))) qw qe) (@jg _ _ _ (qb (qj (pv 0) T.jl T.y6 (ui T) hr.dn T.wo .nil ju (@vd _ _ _ _ _ (pv 1) (@zh _ _ _ _ (je (pv 2) ji)) rfl rfl))))))),?_⟩;have wJ:=uq;obtain⟨_,eq,nq,hq⟩:=wJ;cases eq;refine⟨_,rfl,W.x,W.dx,_,rfl,O.ob.1,xo,_,rfl,Z,id,W,Y,h,ls,rfl,O,hl,hm,?_⟩;refine⟨_,rfl,W.x,W.dx,_,rfl,O.ob.1,xo,_,rfl,Z,id,W,Y,q,o,rfl,O,hq,ho,?_⟩;refine⟨_,rfl,q,cz o,0,.int o.p,rfl,rfl,aA.of hq,rfl,_,rfl,W.x,_,W.dx,_,_,rfl,O.ob.1,T.jl,T.ye,HF,W.ch,_,rfl,.inl (ah.of O.ch.1),rfl,mr _,_,rfl,?_⟩;rw[if_pos rfl,wj];refine bp (λz=>?_) (λ_=>ka ?_)
 rotate_left
 .refine⟨_,rfl,W.x,W.dx,_,rfl,O.ob.1,xo,_,rfl,_,rfl,pJ,λL nL=>?_⟩;have s1:=jh (o:=.lst [.ref q]) nL;refine⟨Z,id,W,Y,h,L,[.ref q],[o],a,b,c,rfl,O.fr (P:=λ_=>False) (λ_ z=>z) (Fr.same s1),kr.same s1,jc,λro e=>?_,.cons (uq.fr (P:=λ_=>False) (Fr.same s1)) .nil,sz,la,lb,lc,λZ' H' O' f' mG=>g Z' H' O' ((Fr.same s1).trans f') mG⟩;rw[kr.none nL]at e;cases e
 have nc:o.p∉Y.y3:=by simpa using z
 obtain⟨row,er,om⟩:∃row,Y.asked[o.p.toNat]?=some row/\o∈row:=may.resolve_left nc;obtain⟨ra,rs,ha,fj⟩:=O.ak;obtain⟨r,Ph⟩:∃r,rs[o.p.toNat]?=some r:=⟨_,getElem?_eq_getElem (by rw[fj.1];exact(List.getElem?_eq_some_iff.mp er).1)⟩;obtain⟨rr,xs,iM,px⟩:=fj.2 _ _ _ Ph er;have p0:0<=o.p:=(uh.mp ho).1;refine⟨_,rfl,_,rfl,W.x,_,W.dx,_,_,rfl,O.ob.1,T.jl,T.He,OD,_,rfl,q,cz o,0,.int o.p,rfl,rfl,aA.of hq,rfl,W.ak,_,o.p,.ref r,rfl,rfl,ah.of ha,mi p0 (by rw[getElem?_map,Ph];rfl),?_⟩;refine⟨r,xs,yh o,row.map yh,rfl,ah.of iM,⟨q,rfl,aA.of hq⟩,j0k px,_,rfl,?_⟩;rw[if_pos rfl,decide_eq_true (mem_map_of_mem om)];refine ka ?_;refine⟨_,rfl,W.x,W.dx,_,rfl,O.ob.1,xo,_,rfl,_,rfl,pJ,λL nL=>?_⟩;have s1:=jh (o:=.lst [.ref q]) nL;refine⟨Z,id,W,Y,h,L,[.ref q],[o],a,b,c,rfl,O.fr (P:=λ_=>False) (λ_ z=>z) (Fr.same s1),kr.same s1,jc,λro e=>?_,.cons (uq.fr (P:=λ_=>False) (Fr.same s1)) .nil,sz,la,lb,lc,λZ' H' O' f' mG=>g Z' H' O' ((Fr.same s1).trans f') mG⟩;rw[kr.none nL]at e;cases e
theorem jr6 (T:Txt K mg t):xl P w K mg base CX0 6 t.FP t.FQ ["self","order","house"] (λvs H Q _=>∃Z id W Y q o h B,vs=[.ref W.x,.ref q,.int h]/\qu t H Z id W Y/\ay Z H/\zu H Z (.ref q) o/\yy Y.n o=true/\Y.keep h=some B/\Y.carried o=true/\Y.way.length<=100000/\∀H',qu t H' Z id W {Y with way:=Y.way++[(false,h,o)]}->Fr (fG id .wy) Z H Z H'->ay Z H'->Q .aq H'):=by
 refine T.ZG.bj (N:=["self","order","house"]) λ_ A _ s H vs Q E hr h=>?_;obtain⟨Z,id,W,Y,q,o,h,B,rfl,O,kr,uq,ho,ek,ecr,l,g⟩:=h;refine⟨_,(@jd _ _ _ _ _ (qb (qj (pv 0) T.jl T.y8 (HP T) hr.dn T.vy .nil ju (je (pv 2) ji))) (@jd _ _ _ _ _ (zk (PW.pt (gC (xu (zl (qS (Hi T) hr.dn rfl T.GO T.AW.kp T.Nm ju (je (pv 1) ji) (iV (qd (pv 0) rfl) oP)))) (gS (xu (zl (qj (qd (pv 0) rfl) T.xx T.ym (kn T) hr.dn T.y4 .nil ju (je (pv 1) ji))))))) qw qe) (@jg _ _ _ (qb (dZ PySem.F.plainAttrs_list PySem.F.slot_list_append PySem.F.type_list_append yg (qd (pv 0) rfl) (je (@kH _ _ _ _ _ (@cq _ _ _ _ _ _ _ (zg (v:=.str "paper") rfl T.N1.choose_spec ⟨_,rfl⟩) (pv 2) (pv 1) rfl rfl rfl)) ji)))))),?_⟩;have wJ:=uq;obtain⟨_,eq,nq,hq⟩:=wJ;cases eq;refine⟨_,rfl,W.x,W.dx,_,rfl,O.ob.1,xo,_,rfl,Z,id,W,Y,h,B,rfl,O,ek,λk A' dk R=>?_⟩;refine⟨_,rfl,_,rfl,W.x,_,W.dx,_,_,rfl,O.ob.1,T.jl,T.vg,HE,q,o,(Y.n:Int),rfl,hq,_,rfl,?_⟩;rw[ho];refine ka ?_;obtain⟨rb,rS,rO,Bq,sg⟩:=O.bd;refine⟨_,rfl,W.x,_,W.dx,_,_,rfl,O.ob.1,T.jl,T.xr,wG,W.bd,W.db,_,rfl,Bq.ob,vW _ _ (by decide+kernel) (by decide+kernel),_,rfl,W.bd,W.db,W.S,Y.en,rO,bP Y.bd,q,cP o,rfl,Bq.rd,hq,λH1 s1=>⟨_,rfl,?_⟩⟩;have ec:decide (Y.en<=((qq (bP Y.bd) (cP o)).length:Int))=Y.carried o:=by
  unfold Wd.carried;rw[show qq (bP Y.bd) (cP o)=qc Y.bd (yh o)from wH (yh o) Y.bd]
 rw[ec,ecr];refine ka ?_;have O1:=O.fr (P:=λ_=>False) (λ_ z=>z) (Fr.same s1);have bN:=kr.same s1;have og:=uq.fr (P:=λ_=>False) (Fr.same s1);have f1:Fr (fG id .wy) Z H Z H1:=Fr.same s1;obtain⟨eN,xs,hw,pw⟩:=O1.wy;refine⟨_,rfl,W.x,_,W.dx,_,_,rfl,O1.ob.1,T.jl,T.zi,rM,.inl ⟨rfl,_,ah.of hw⟩,_,rfl,_,rfl,nW,λp np=>?_⟩;have sp:=jh (o:=.tup [.str "paper",.int h,.ref q]) np;have lx:xs.length<=1000000:=by rw[Paired.length pw];omega
 refine⟨W.wy,xs,.ref p,rfl,rfl,sp _ _ hw,big lx,?_⟩;have O2:=O1.fr (P:=λ_=>False) (λ_ z=>z) (Fr.same sp);have f2:Fr (fG id .wy) Z (upd H1 p (.tup [.str "paper",.int h,.ref q])) Z (upd (upd H1 p (.tup [.str "paper",.int h,.ref q])) W.wy (.lst (xs++[.ref p]))):=Fr.put eN rfl;have f0:Fr (fG id .wy) Z H1 Z (upd H1 p (.tup [.str "paper",.int h,.ref q])):=Fr.same sp;refine g _ (O2.but f2 _ jz rfl rfl (um f2 jz (λ_ _=>jz)) (iK f2 jz jz jz) (mC f2 jz (λ_=>jz)) (λ_ _=>⟨eN,_,jc,?_⟩)) ((f1.trans f0).trans f2) (bN.same sp).put;have mv:=bN.none np;refine qo (Paired.xt pw λ_ _=>cA.fr (f0.trans f2)) ⟨p,q,rfl,mv,?_,og.fr (f0.trans f2)⟩;rw[jf (A0 mv eN),jc];rfl
theorem se {α:Type}[DecidableEq α]:∀{xs ys:List α},xs.Nodup->(∀x∈xs,x∈ys)->xs.length<=ys.length
 |[],_,_,_=>zero_le _
 |x::xs,ys,nd,h=>by rw[nodup_cons]at nd;have hx:=h x mem_cons_self;have:=se (xs:=xs) (ys:=ys.erase x) nd.2 λy hy=>(List.mem_erase_of_ne (λz=>nd.1 (by rw[<-z];exact hy))).mpr (h y (mem_cons_of_mem _ hy));rw[length_erase_of_mem hx]at this;have:=length_pos_of_mem hx;rw[length_cons];lia
theorem j4k (B:Kp)(o:O)(a:Gv):(df B o a).1.length+(df B o a).2.2.length<=a.1.length+a.2.2.length+1:=by
 unfold df;split
 .simp;lia
 .split
  .simp;lia
  .omega
theorem Pj (B:Kp):∀(os:List O)(a:Gv),(gv B os a).1.length+(gv B os a).2.2.length<=a.1.length+a.2.2.length+os.length
 |[],a=>by simp[gv]
 |o::os,a=>by have h1:=Pj B os (df B o a);have h2:=j4k B o a;unfold gv at h1⊢;rw[foldl_cons,length_cons];lia
theorem Ii (B:Kp){P:O->Prop}:∀(os:List O)(a:Gv),(∀o∈os,P o)->(∀o∈a.2.1,P o)->∀o∈(gv B os a).2.1,P o
 |[],a,_,h=>h
 | o::os,a,h1,h2=>by
  unfold gv;rw[foldl_cons];refine Ii B os _ (λo' h=>h1 o' (mem_cons_of_mem _ h)) ?_;unfold df;split
  .intro o' h;rcases mem_append.mp h with h|h
   .exact h2 o' h
   .rw[mem_singleton.mp h];exact h1 o mem_cons_self
  .split
   .exact h2
   .exact h2
structure dJ (L:List O)(m n:Nat)(B:Kp):Prop where
 ok:B.Ok n
 sz:OO B m
 u:∀o∈B.aQ,o∈L
 w:∀o∈B.wait,o∈L
theorem dJ.zb {L:List O}{m n:Nat}{B:Kp}(k:dJ L m n B):dJ L m n B.zb.1/\(∀o∈B.zb.2,o∈L)/\B.zb.2.length<=m:=by
 refine⟨⟨k.ok.zb,⟨k.sz.hd,?_,k.sz.dw⟩,Hs B B.aQ _ k.u (λo h=>by cases h),k.w⟩,Ii B B.aQ _ k.u (λo h=>by cases h),?_⟩
 .have h1:=Pj B B.aQ (B.cho,[],[]);have h2:=k.sz.uc;show(gv B B.aQ (B.cho,[],[])).2.2.length+(gv B B.aQ (B.cho,[],[])).1.length<=m;simp at h1;lia
 .have h1:=(Hv B B.aQ (B.cho,[],[])).2.1;have h2:=k.sz.uc;show(gv B B.aQ (B.cho,[],[])).2.1.length<=m;simp at h1;lia
theorem dJ.go {L:List O}{m n:Nat}:∀{j:Nat}{B:Kp},dJ L m n B->dJ L m n (Kp.go j B)
 |0,_,k=>k
 | j+1,B,k=>by
  unfold Kp.go;cases e:B.first with
  |none=>exact k
  |some o=>
   have om:=wD e;have l2:(B.step o).wait.length=B.wait.length-1:=length_erase_of_mem om;have l1:(B.step o).done.length=B.done.length+1:=by show(B.done++[o]).length=_;rw[length_append];rfl
   have:=length_pos_of_mem om;have:=k.sz.dw;exact dJ.go (B:=B.step o) ⟨k.ok.step o,⟨k.sz.hd,k.sz.uc,by lia⟩,k.u,λo' h=>k.w o' (mem_of_mem_erase h)⟩
theorem dJ.mono {L L':List O}{m m' n:Nat}{B:Kp}(k:dJ L m n B)(h1:∀o∈L,o∈L')(h2:m<=m'):dJ L' m' n B:=⟨k.ok,⟨le_trans k.sz.hd h2,le_trans k.sz.uc h2,le_trans k.sz.dw h2⟩,λo h=>h1 o (k.u o h),λo h=>h1 o (k.w o h)⟩
theorem dJ.take {L:List O}{m n:Nat}{B:Kp}(k:dJ L m n B)(b:Bool){o:O}(ol:o∈L)(ho:yy n o=true):dJ L (m+1) n (B.take b o).1/\(∀o'∈(B.take b o).2,o'∈L)/\(B.take b o).2.length<=m+1:=by
 have h1:=k.sz.hd;have h2:=k.sz.uc;have h3:=k.sz.dw;have wR:dJ L (m+1) n B/\(∀o'∈([]:List O),o'∈L)/\([]:List O).length<=m+1:=⟨k.mono (λ_ h=>h) (by lia),(λ_ z=>by cases z),zero_le _⟩;unfold Kp.take;split
 .unfold Kp.oa;split
  .exact wR
  .refine dJ.zb (m:=m+1) ⟨⟨k.ok.h,k.ok.x,λu hu=>?_,k.ok.w,k.ok.nd⟩,⟨by show(B.dQ++[o]).length<=m+1;rw[length_append];show B.dQ.length+1<=m+1;lia,by show(B.aQ++[o]).length+B.cho.length<=m+1;rw[length_append];show B.aQ.length+1+B.cho.length<=m+1;lia,by show B.done.length+B.wait.length<=m+1;lia⟩,λu hu=>?_,k.w⟩
   .rcases mem_append.mp hu with hu|hu
    .exact k.ok.u u hu
    .rw[mem_singleton.mp hu];exact ho
   .rcases mem_append.mp hu with hu|hu
    .exact k.u u hu
    .rw[mem_singleton.mp hu];exact ol
 .unfold Kp.jN;split
  .exact wR
  .rename_i nz;have no:¬o∈B.wait:=λz=>nz (by rw[decide_eq_true z,Bool.or_true]);refine dJ.zb (m:=m+1) (dJ.go ⟨⟨k.ok.h,k.ok.x,k.ok.u,λu hu=>?_,?_⟩,⟨by show B.dQ.length<=m+1;lia,by show B.aQ.length+B.cho.length<=m+1;lia,by show B.done.length+(B.wait++[o]).length<=m+1;rw[length_append];show B.done.length+(B.wait.length+1)<=m+1;lia⟩,k.u,λu hu=>?_⟩)
   .rcases mem_append.mp hu with hu|hu
    .exact k.ok.w u hu
    .rw[mem_singleton.mp hu];exact ho
   .exact nodup_append.mpr ⟨k.ok.nd,by simp,λx hx y hy e=>by rw[mem_singleton.mp hy]at e;subst e;exact no hx⟩
   .rcases mem_append.mp hu with hu|hu
    .exact k.w u hu
    .rw[mem_singleton.mp hu];exact ol
structure jT (L:List O)(hs:List Int)(is:x8):Prop where
 nd:(is.map (·.1)).Nodup
 ks:∀x∈is,∃o∈L,x.1=yh o
 hn:∀x∈is,x.2.Nodup/\∀h∈x.2,h∈hs
theorem Pk {k:List Int}{h:Int}:∀{is:x8}{y:List Int},y∈(dq is k h).map (·.1)->y∈is.map (·.1)\/y=k
 |[],y,hy=>.inr (mem_singleton.mp hy)
 | p::ps,y,hy=>by
  unfold dq at hy;split at hy
  .rw[map_cons,mem_cons]at hy⊢;exact .inl hy
  .rw[map_cons,mem_cons]at hy⊢;rcases hy with hy|hy
   .exact .inl (.inl hy)
   .rcases Pk hy with h|h
    .exact .inl (.inr h)
    .exact .inr h
theorem jT.sign {L:List O}{hs:List Int}{o:O}{h:Int}(ol:o∈L)(hh:h∈hs):∀{is:x8},jT L hs is->h∉qc is (yh o)->jT L hs (dq is (yh o) h)
 |[],_,_=>⟨by simp[dq],λx hx=>by rw[mem_singleton.mp hx];exact⟨o,ol,rfl⟩,λx hx=>by rw[mem_singleton.mp hx];exact⟨by simp,λy hy=>by rw[mem_singleton.mp hy];exact hh⟩⟩
 | p ::ps,b,hn=>by
  have bt:jT L hs ps:=⟨(nodup_cons.mp b.nd).2,λx hx=>b.ks x (mem_cons_of_mem _ hx),λx hx=>b.hn x (mem_cons_of_mem _ hx)⟩;unfold dq;unfold qc at hn;split
  .rename_i z;rw[if_pos z]at hn;refine⟨b.nd,λx hx=>?_,λx hx=>?_⟩
   .rcases mem_cons.mp hx with rfl|hx
    .exact b.ks p mem_cons_self
    .exact bt.ks x hx
   .rcases mem_cons.mp hx with rfl|hx
    .obtain⟨q1,q2⟩:=b.hn p mem_cons_self;refine⟨nodup_append.mpr ⟨q1,by simp,λx1 tZ y1 hy1 e=>by rw[mem_singleton.mp hy1]at e;subst e;exact hn tZ⟩,λy hy=>?_⟩;rcases mem_append.mp hy with hy|hy
     .exact q2 y hy
     .rw[mem_singleton.mp hy];exact hh
    .exact bt.hn x hx
  .rename_i z;rw[if_neg z]at hn;have ih:=bt.sign ol hh hn;refine⟨?_,λx hx=>?_,λx hx=>?_⟩
   .rw[map_cons,nodup_cons];refine⟨λy=>?_,ih.nd⟩;rcases Pk y with y|y
    .exact(nodup_cons.mp b.nd).1 y
    .exact z y
   .rcases mem_cons.mp hx with rfl|hx
    .exact b.ks _ mem_cons_self
    .exact ih.ks x hx
   .rcases mem_cons.mp hx with rfl|hx
    .exact b.hn _ mem_cons_self
    .exact ih.hn x hx
theorem jT.len {L:List O}{hs:List Int}{is:x8}(b:jT L hs is):is.length<=L.length/\∀x∈is,x.2.length<=hs.length:=by
 refine⟨?_,λx hx=>se (b.hn x hx).1 (b.hn x hx).2⟩;have:=se (ys:=L.map yh) b.nd λy hy=>by obtain⟨x,hx,rfl⟩:=mem_map.mp hy;obtain⟨o,ol,e⟩:=b.ks x hx;rw[e];exact mem_map_of_mem ol
 rwa[length_map,length_map]at this
structure Wd.kX (Y Y':Wd):Prop where
 n:Y'.n=Y.n
 c:Y'.y3=Y.y3
 k:Y'.ks=Y.ks
 e:Y'.en=Y.en
 a:Y'.asked=Y.asked
theorem Wd.kX.trans {a b c:Wd}(x:a.kX b)(y:b.kX c):a.kX c:=⟨y.n.trans x.n,y.c.trans x.c,y.k.trans x.k,y.e.trans x.e,y.a.trans x.a⟩
theorem Bk (Y:Wd)(h:Int)(o:O):Y.kX (Y.put h o).1:=by
 unfold Wd.put;split
 .exact⟨rfl,rfl,rfl,rfl,rfl⟩
 .exact⟨rfl,rfl,rfl,rfl,rfl⟩
theorem Bl (Y:Wd)(h:Int)(o:O):Y.kX (Y.bI h o):=by
 have p:=Bk Y h o;unfold Wd.bI;split
 .exact⟨p.n,p.c,p.k,p.e,p.a⟩
 .exact p
theorem wU {Y:Wd}{h:Int}(m:h∈Y.ks.map (·.1)):∃B,Y.keep h=some B/\(h,B)∈Y.ks:=by
 unfold Wd.keep;cases e:Y.ks.find? λc=>decide (c.1=h)with
 |none=>obtain⟨c,hc,rfl⟩:=mem_map.mp m;have:=List.find?_eq_none.mp e c hc;simp at this
 |some c=>have h1:c.1=h:=of_decide_eq_true (find?_some (p:=λc:Int×Kp=>decide (c.1=h)) e);refine⟨c.2,rfl,?_⟩;rw[<-h1];exact mem_of_find?_eq_some e
def Ij (xs:List Int)(o:O):List Int:=aH (aH xs o.p (-o.m)) o.g o.m
def wV (ns:List Int)(os:List O):List Int:=os.foldl Ij ns
theorem j8b {xs:List Int}{i:Int}:gI xs i=0\/gI xs i∈xs:=by
 unfold gI;cases e:xs[i.toNat]? with
 |none=>exact .inl rfl
 |some x=>exact .inr (mem_of_getElem? e)
theorem sum_set:∀(xs:List Int)(i:Nat)(v:Int),i<xs.length->(xs.set i v).sum=xs.sum-(xs[i]?).getD 0+v
 |[],_,_,h=>by cases h
 |x::xs,0,v,_=>by simp;lia
 |x::xs,i+1,v,h=>by have:=sum_set xs i v (by simpa using h);simp only[List.set_cons_succ,List.sum_cons,List.getElem?_cons_succ];lia
theorem Pl {xs:List Int}{i d:Int}(h0:0<=i)(h1:i<xs.length):(aH xs i d).sum=xs.sum+d:=by unfold aH;rw[sum_set xs i.toNat _ (by lia)];unfold gI;lia
theorem j2o {xs:List Int}{i j d:Int}(h0:0<=i)(h1:i<xs.length)(j0:0<=j):gI (aH xs i d) j=if j=i then gI xs i+d else gI xs j:=by
 unfold aH gI;by_cases z:j=i
 .subst z;rw[if_pos rfl,getElem?_set_self (by lia)];rfl
 .rw[if_neg z,getElem?_set_ne (by lia)]
theorem Pm {xs:List Int}{i d:Int}(h:∀x∈xs,0<=x)(hd:0<=gI xs i+d):∀x∈aH xs i d,0<=x:=λx hx=>by
 rcases List.mem_or_eq_of_mem_set hx with hx|rfl
 .exact h x hx
 .exact hd
def Bm (p:Int)(os:List O):List O:=os.filter λo=>decide (o.p=p)
def upTo (k:Int):List Int:=(List.range k.toNat).map λ(i:Nat)=>(i:Int)
theorem jyt {k:Int}(h:0<=k):upTo (k+1)=upTo k++[k]:=by unfold upTo;rw[show(k+1).toNat=k.toNat+1 by lia,List.range_succ,map_append];congr 1;show[((k.toNat:Nat):Int)]=[k];rw[Int.toNat_of_nonneg h]
structure KX (L:List O)(C:O->Bool)(n:Nat)(ns:List Int)(B:Kp):Prop where
 he:B.held=wV ns B.done
 h0:∀x∈B.held,0<=x
 hs:B.held.sum=ns.sum
 nm:∀p:Int,0<=p->p<(n:Int)->0<=gI B.cu p/\(Bm p B.done).map (·.n)=upTo (gI B.cu p)
 dl:∀o∈B.done,o∈L/\C o=true
 wc:∀o∈B.wait,C o=true
 wd:∀o∈B.wait,o∉B.done
theorem KX.mono {L L':List O}{C C':O->Bool}{n:Nat}{ns:List Int}{B:Kp}(k:KX L C n ns B)(h:∀o∈L,o∈L')(hc:∀o,C o=true->C' o=true):KX L' C' n ns B:=⟨k.he,k.h0,k.hs,k.nm,λo ho=>⟨h o (k.dl o ho).1,hc o (k.dl o ho).2⟩,λo ho=>hc o (k.wc o ho),k.wd⟩
theorem KX.zb {L:List O}{C:O->Bool}{n:Nat}{ns:List Int}{B:Kp}(k:KX L C n ns B):KX L C n ns B.zb.1:=⟨k.he,k.h0,k.hs,k.nm,k.dl,k.wc,k.wd⟩
theorem KX.past {L:List O}{C:O->Bool}{n:Nat}{ns:List Int}{B:Kp}(k:KX L C n ns B)(lo:∀o∈L,yy n o=true){o:O}(h:o∈B.done):B.past o=true:=by obtain⟨p0,p1,_⟩:=uh.mp (lo o (k.dl o h).1);obtain⟨g0,e⟩:=k.nm o.p p0 (by lia);have m:o.n∈(Bm o.p B.done).map (·.n):=mem_map_of_mem (mem_filter.mpr ⟨h,decide_eq_true rfl⟩);rw[e]at m;obtain⟨i,hi,ei⟩:=mem_map.mp m;have:=mem_range.mp hi;exact decide_eq_true (by lia)
theorem KX.step {L:List O}{C:O->Bool}{n:Nat}{ns:List Int}{B:Kp}(k:KX L C n ns B)(ok:B.Ok n){o:O}(ho:yy n o=true)(ol:o∈L)(ow:o∈B.wait)(du:B.gN o=true):KX L C n ns (B.step o):=by
 obtain⟨p0,p1,g0,g1,png,n0,n1,m1,m2⟩:=uh.mp ho;unfold Kp.gN at du;rw[Bool.and_eq_true,decide_eq_true_eq,decide_eq_true_eq]at du;have lh:=ok.h;have lx:=ok.x;refine⟨?_,?_,?_,λp Pn pp1=>?_,λu hu=>?_,λu hu=>k.wc u (mem_of_mem_erase hu),λu hu hd=>?_⟩
 .show Ij B.held o=wV ns (B.done++[o]);have e:wV ns (B.done++[o])=Ij (wV ns B.done) o:=by
   unfold wV;rw[foldl_append];rfl
  rw[e,<-k.he]
 .show ∀x∈aH (aH B.held o.p (-o.m)) o.g o.m,0<=x;have h1:∀x∈aH B.held o.p (-o.m),0<=x:=Pm k.h0 (by lia);refine Pm h1 ?_;rcases j8b (xs:=aH B.held o.p (-o.m)) (i:=o.g)with e|e
  .omega
  .have:=h1 _ e;lia
 .show(aH (aH B.held o.p (-o.m)) o.g o.m).sum=ns.sum;rw[Pl g0 (by rw[vY,lh];lia),Pl p0 (by rw[lh];lia),k.hs];lia
 .obtain⟨q0,e⟩:=k.nm p Pn pp1;show 0<=gI (aH B.cu o.p 1) p/\(Bm p (B.done++[o])).map (·.n)=upTo (gI (aH B.cu o.p 1) p);rw[j2o p0 (by rw[lx];lia) Pn];unfold Bm at e⊢;rw[filter_append,map_append,e];by_cases z:p=o.p
  .subst z;rw[if_pos rfl];refine⟨by lia,?_⟩;rw[jyt q0,<-du.1];simp
  .rw[if_neg z];refine⟨q0,?_⟩;have:¬o.p=p:=λy=>z y.symm;simp[this]
 .have aS:u∈B.done++[o]:=hu;rcases mem_append.mp aS with h|h
  .exact k.dl u h
  .rw[mem_singleton.mp h];exact⟨ol,k.wc o ow⟩
 .have ba:u∈B.done++[o]:=hd;have aS:u∈B.wait.erase o:=hu;rcases mem_append.mp ba with h|h
  .exact k.wd u (mem_of_mem_erase aS) h
  .rw[mem_singleton.mp h]at aS;exact(List.Nodup.mem_erase_iff ok.nd).mp aS |>.1 rfl
theorem KX.go {L:List O}{C:O->Bool}{n:Nat}{ns:List Int}(lo:∀o∈L,yy n o=true):∀{j:Nat}{B:Kp},KX L C n ns B->B.Ok n->(∀o∈B.wait,o∈L)->KX L C n ns (Kp.go j B)
 |0,_,k,_,_=>k
 |j+1,B,k,ok,wl=>by
  unfold Kp.go;cases e:B.first with
  |none=>exact k
  |some o=>have om:=wD e;have du:B.gN o=true:=find?_some e;exact KX.go lo (k.step ok (lo o (wl o om)) (wl o om) om du) (ok.step o) λu hu=>wl u (mem_of_mem_erase hu)
theorem KX.take {L:List O}{C:O->Bool}{n:Nat}{ns:List Int}{B:Kp}(k:KX L C n ns B)(lo:∀o∈L,yy n o=true)(ok:B.Ok n)(wl:∀o∈B.wait,o∈L)(b:Bool){o:O}(ol:o∈L)(oc:b=false->C o=true):KX L C n ns (B.take b o).1:=by
 unfold Kp.take;split
 .unfold Kp.oa;split
  .exact k
  .exact KX.zb ⟨k.he,k.h0,k.hs,k.nm,k.dl,k.wc,k.wd⟩
 .rename_i nb;have cb:C o=true:=oc (by simpa using nb);unfold Kp.jN;split
  .exact k
  .rename_i nz;have no:¬o∈B.wait:=λz=>nz (by rw[decide_eq_true z,Bool.or_true]);have np:¬B.past o=true:=λz=>nz (by rw[z,Bool.true_or]);refine KX.zb (KX.go lo (B:={B with wait:=B.wait++[o]}) ⟨k.he,k.h0,k.hs,k.nm,k.dl,λu hu=>?_,λu hu hd=>?_⟩ ⟨ok.h,ok.x,ok.u,λu hu=>?_,?_⟩ λu hu=>?_)
   .rcases mem_append.mp hu with hu|hu
    .exact k.wc u hu
    .rw[mem_singleton.mp hu];exact cb
   .rcases mem_append.mp hu with hu|hu
    .exact k.wd u hu hd
    .rw[mem_singleton.mp hu]at hd;exact np (k.past lo hd)
   .rcases mem_append.mp hu with hu|hu
    .exact ok.w u hu
    .rw[mem_singleton.mp hu];exact lo o ol
   .exact nodup_append.mpr ⟨ok.nd,by simp,λx hx y hy e=>by rw[mem_singleton.mp hy]at e;subst e;exact no hx⟩
   .rcases mem_append.mp hu with hu|hu
    .exact wl u hu
    .rw[mem_singleton.mp hu];exact ol
theorem Bn {k k':List Int}{h:Int}:∀{is:x8},qc (dq is k h) k'=if k'=k then qc is k++[h]else qc is k'
 |[]=>by
  show(if k=k' then[h]else[])=_;by_cases z:k'=k
  .rw[if_pos z,if_pos z.symm];rfl
  .rw[if_neg z,if_neg (λy=>z y.symm)];rfl
 | p::ps=>by
  unfold dq;by_cases y:p.1=k
  .rw[if_pos y];show(if p.1=k' then p.2++[h]else qc ps k')=if k'=k then(if p.1=k then p.2 else qc ps k)++[h]else if p.1=k' then p.2 else qc ps k';by_cases z:k'=k
   .rw[if_pos z,if_pos y,if_pos (by rw[y,z])]
   .rw[if_neg z,if_neg (λq=>z (by rw[<-q,y])),if_neg (λq=>z (by rw[<-q,y]))]
  .rw[if_neg y];show(if p.1=k' then p.2 else qc (dq ps k h) k')=if k'=k then(if p.1=k then p.2 else qc ps k)++[h]else if p.1=k' then p.2 else qc ps k';rw[Bn (is:=ps),if_neg y];by_cases z:k'=k
   .rw[if_pos z,if_pos z,if_neg (λq=>y (by rw[q,z]))]
   .rw[if_neg z,if_neg z]
theorem jxn (Y:Wd)(h:Int)(o:O)(k:List Int):(qc Y.bd k).length<=(qc (Y.put h o).1.bd k).length:=by
 unfold Wd.put;split
 .exact le_refl _
 .show _<=(qc (dq Y.bd (yh o) h) k).length;rw[Bn];split
  .rename_i z;rw[z,length_append];lia
  .exact le_refl _
theorem ju6 (Y:Wd)(h:Int)(o u:O)(c:Y.carried u=true):(Y.put h o).1.carried u=true:=by have e:=(Bk Y h o).e;have l:=jxn Y h o (yh u);unfold Wd.carried at c⊢;have:=of_decide_eq_true c;exact decide_eq_true (by rw[e];lia)
theorem j5u {Y:Wd}{h:Int}{o:O}(c:(Y.put h o).2=true):(Y.put h o).1.carried o=true:=by
 unfold Wd.put at c⊢;split at c
 .cases c
 .rename_i z;rw[if_neg z];have:=of_decide_eq_true c;refine decide_eq_true ?_;show Y.en<=((qc (dq Y.bd (yh o) h) (yh o)).length:Int);rw[Bn,if_pos rfl,length_append];show Y.en<=(((qc Y.bd (yh o)).length+1:Nat):Int);lia
theorem wX (Y:Wd)(h:Int)(o:O):(Y.bI h o).bd=(Y.put h o).1.bd:=by unfold Wd.bI;split<;>rfl
theorem Po {Y:Wd}{h:Int}{o u:O}(c:Y.carried u=true):(Y.bI h o).carried u=true:=by have:=ju6 Y h o u c;unfold Wd.carried at this⊢;rw[wX,(Bl Y h o).e,<-(Bk Y h o).e];exact this
structure WG (Y:Wd)(L:List O)(hb:List Int):Prop where
 b:jT L hb Y.bd
 y:∀x∈Y.way,x.2.2∈L/\x.2.1∈Y.ks.map (·.1)/\(x.1=false->Y.carried x.2.2=true)
theorem WG.bI {Y:Wd}{L:List O}{hb:List Int}{h:Int}{o:O}(g:WG Y L hb)(ol:o∈L)(hh:h∈hb):WG (Y.bI h o) L hb/\(Y.bI h o).way.length<=Y.way.length+Y.ks.length:=by
 have pb:jT L hb (Y.put h o).1.bd/\(Y.put h o).1.way=Y.way/\(Y.put h o).1.ks=Y.ks:=by
  unfold Wd.put;split
  .exact⟨g.b,rfl,rfl⟩
  .rename_i hn;exact⟨g.b.sign ol hh hn,rfl,rfl⟩
 have lk:=Bl Y h o;have old:∀x∈Y.way,x.2.2∈L/\x.2.1∈(Y.bI h o).ks.map (·.1)/\(x.1=false->(Y.bI h o).carried x.2.2=true):=λx hx=>by obtain⟨a,b,c⟩:=g.y x hx;exact⟨a,by rw[lk.k];exact b,λe=>Po (c e)⟩
 by_cases z:(Y.put h o).2=true
 .have ew:(Y.bI h o).way=Y.way++Y.ks.map λc=>(false,c.1,o):=by
   unfold Wd.bI;rw[if_pos z];show(Y.put h o).1.way++_=_;rw[pb.2.1,pb.2.2]
  refine⟨⟨by rw[wX];exact pb.1,λx hx=>?_⟩,by rw[ew,length_append,length_map];exact le_refl _⟩;rw[ew]at hx;rcases mem_append.mp hx with hx|hx
  .exact old x hx
  .obtain⟨c,hc,rfl⟩:=mem_map.mp hx;refine⟨ol,by rw[lk.k];exact mem_map_of_mem hc,λ_=>?_⟩;have:=j5u z;unfold Wd.carried at this⊢;rw[wX,lk.e,<-(Bk Y h o).e];exact this
 .have ew:(Y.bI h o).way=Y.way:=by
   unfold Wd.bI;rw[if_neg z,pb.2.1]
  exact⟨⟨by rw[wX];exact pb.1,λx hx=>old x (by rw[<-ew];exact hx)⟩,by rw[ew];lia⟩
theorem WG.zb {L:List O}{hb:List Int}{h:Int}(hh:h∈hb):∀{os:List O}{Y:Wd},(∀o∈os,o∈L)->WG Y L hb->WG (Y.zb h os) L hb/\Y.kX (Y.zb h os)/\(∀u,Y.carried u=true->(Y.zb h os).carried u=true)/\(Y.zb h os).way.length<=Y.way.length+Y.ks.length*os.length
 |[],Y,_,g=>⟨g,⟨rfl,rfl,rfl,rfl,rfl⟩,λ_ h=>h,le_refl _⟩
 |o::os,Y,ol,g=>by obtain⟨g1,l1⟩:=g.bI (ol o mem_cons_self) hh;have lk:=Bl Y h o;obtain⟨g2,k2,c2,l2⟩:=WG.zb hh (os:=os) (Y:=Y.bI h o) (λo' h'=>ol o' (mem_cons_of_mem _ h')) g1;refine⟨g2,lk.trans k2,λu hu=>c2 u (Po hu),?_⟩;show((Y.bI h o).zb h os).way.length<=_;rw[lk.k]at l2;rw[length_cons,Nat.mul_succ];lia
structure Gn (Y:Wd)(T M:Nat)(L:List O)(ls ns:List Int):Prop where
 ok:Y.Ok
 l:L.length<=T
 lo:∀o∈L,yy Y.n o=true
 mw:∀o∈L,Y.may o
 ks:∀c∈Y.ks,dJ L T Y.n c.2/\KX L Y.carried Y.n ns c.2
 g:WG Y L (Y.ks.map (·.1)++ls)
 wl:Y.way.length<=M
 al:∀row∈Y.asked,row.length<=T
 e1:1<=Y.en
theorem jT.mono {L L':List O}{hs:List Int}{is:x8}(b:jT L hs is)(h:∀o∈L,o∈L'):jT L' hs is:=⟨b.nd,λx hx=>let⟨o,a,c⟩:=b.ks x hx;⟨o,h o a,c⟩,b.hn⟩
section
variable {Y:Wd}{T M T' M':Nat}{L:List O}{ls ns:List Int}
theorem Gn.mono (g:Gn Y T M L ls ns)(hT:T<=T')(hM:M<=M'):Gn Y T' M' L ls ns:=⟨g.ok,le_trans g.l hT,g.lo,g.mw,λc hc=>⟨(g.ks c hc).1.mono (λ_ h=>h) hT,(g.ks c hc).2⟩,g.g,le_trans g.wl hM,λrow hr=>le_trans (g.al row hr) hT,g.e1⟩
theorem Gn.Pp (g:Gn Y T M L ls ns){b:Bool}{h:Int}{o:O}(ol:o∈L)(hh:h∈Y.ks.map (·.1))(hb:b=false->Y.carried o=true):Gn {Y with way:=Y.way++[(b,h,o)]} T (M+1) L ls ns:=by
 refine⟨⟨g.ok.n8,g.ok.al,g.ok.ao,g.ok.ks,g.ok.nd,g.ok.k0,g.ok.k1⟩,g.l,g.lo,g.mw,g.ks,⟨g.g.b,λx hx=>?_⟩,?_,g.al,g.e1⟩
 .rcases mem_append.mp (show x∈Y.way++[(b,h,o)]from hx)with hx|hx
  .exact g.g.y x hx
  .rw[mem_singleton.mp hx];exact⟨ol,hh,hb⟩
 .show(Y.way++[(b,h,o)]).length<=M+1;rw[length_append];have:=g.wl;show Y.way.length+1<=M+1;lia
theorem Gn.more (g:Gn Y T M L ls ns){o:O}(ho:yy Y.n o=true)(hm:Y.may o):Gn Y (T+1) M (o::L) ls ns:=by
 have sub:∀u∈L,u∈o::L:=λu h=>mem_cons_of_mem _ h;refine⟨g.ok,by rw[length_cons];have:=g.l;lia,λu hu=>?_,λu hu=>?_,λc hc=>⟨(g.ks c hc).1.mono sub (by lia),(g.ks c hc).2.mono sub λ_ h=>h⟩,⟨g.g.b.mono sub,λx hx=>?_⟩,g.wl,λrow hr=>le_succ_of_le (g.al row hr),g.e1⟩
 .rcases mem_cons.mp hu with rfl|hu
  .exact ho
  .exact g.lo u hu
 .rcases mem_cons.mp hu with rfl|hu
  .exact hm
  .exact g.mw u hu
 .obtain⟨a,b,c⟩:=g.g.y x hx;exact⟨sub _ a,b,c⟩
theorem Gn.j9r (g:Gn Y T M L ls ns){o:O}{h:Int}(ho:yy Y.n o=true)(hm:o.p∈Y.y3)(hh:h∈Y.ks.map (·.1)):Gn {Y with way:=Y.way++[(true,h,o)]} (T+1) (M+1) (o::L) ls ns:=(g.more ho (.inl hm)).Pp mem_cons_self hh (λz=>by cases z)
theorem Gn.zb (g:Gn Y T M L ls ns){h:Int}(hh:h∈Y.ks.map (·.1)++ls){os:List O}(ol:∀o∈os,o∈L):Gn (Y.zb h os) T (M+16*os.length) L ls ns:=by
 obtain⟨g2,lk,cc,l2⟩:=WG.zb hh ol g.g;refine⟨⟨by rw[lk.n];exact g.ok.n8,by rw[lk.a,lk.n];exact g.ok.al,by rw[lk.a,lk.n];exact g.ok.ao,by rw[lk.k,lk.n];exact g.ok.ks,by rw[lk.k];exact g.ok.nd,by rw[lk.k];exact g.ok.k0,by rw[lk.k];exact g.ok.k1⟩,g.l,by rw[lk.n];exact g.lo,λo ho=>?_,?_,by rw[lk.k];exact g2,?_,by rw[lk.a];exact g.al,by rw[lk.e];exact g.e1⟩
 .have:=g.mw o ho;unfold Wd.may at this⊢;rw[lk.c,lk.a];exact this
 .rw[lk.k,lk.n];exact λc hc=>⟨(g.ks c hc).1,(g.ks c hc).2.mono (λ_ h=>h) cc⟩
 .refine le_trans l2 ?_;have h1:=g.wl;have h2:=Nat.mul_le_mul_right os.length g.ok.k1;lia
theorem Gn.jQ (g:Gn Y T M L ls ns){i:Nat}{l:Bool×Int×O}{B:Kp}(el:Y.way[i]?=some l)(ek:Y.keep l.2.1=some B):Gn (Y.jQ i l B) (T+1) (M+16*(T+1)) L ls ns:=by
 obtain⟨lL,lh,lc⟩:=g.g.y l (mem_of_getElem? el);obtain⟨κ',Pr,km⟩:=wU lh;rw[ek]at Pr;cases Pr;obtain⟨kk,kx⟩:=g.ks _ km;obtain⟨k1,k2,k3⟩:=kk.take l.1 lL (g.lo _ lL);have kx1:=kx.take g.lo kk.ok kk.w l.1 lL lc;have gO:(cv Y.ks l.2.1 (B.take l.1 l.2.2).1).map (·.1)=Y.ks.map (·.1):=by
  unfold cv;rw[map_map];refine List.map_congr_left λc _=>?_;show(if c.1=l.2.1 then(l.2.1,(B.take l.1 l.2.2).1)else c).1=c.1;split
  .rename_i z;exact z.symm
  .rfl
 have sf:∀c∈cv Y.ks l.2.1 (B.take l.1 l.2.2).1,dJ L (T+1) Y.n c.2/\KX L Y.carried Y.n ns c.2:=λc hc=>by
  obtain⟨c',iQ,rfl⟩:=mem_map.mp hc;split
  .exact⟨k1,kx1⟩
  .exact⟨(g.ks c' iQ).1.mono (λ_ h=>h) (by lia),(g.ks c' iQ).2⟩
 have mid:Gn {Y with way:=Y.way.eraseIdx i,ks:=cv Y.ks l.2.1 (B.take l.1 l.2.2).1} (T+1) M L ls ns:=by refine⟨⟨g.ok.n8,g.ok.al,g.ok.ao,λc hc=>(sf c hc).1.ok,by show((cv Y.ks l.2.1 _).map _).Nodup;rw[gO];exact g.ok.nd,by show 0<(cv _ _ _).length;rw[A6];exact g.ok.k0,by show(cv _ _ _).length<=16;rw[A6];exact g.ok.k1⟩,le_succ_of_le g.l,g.lo,g.mw,sf,?_,le_trans (length_eraseIdx_le _ _) g.wl,λrow hr=>le_succ_of_le (g.al row hr),g.e1⟩;show WG _ L ((cv Y.ks l.2.1 _).map (·.1)++ls);rw[gO];refine⟨g.g.b,λx hx=>?_⟩;obtain⟨a,b,c⟩:=g.g.y x (List.mem_of_mem_eraseIdx hx);exact⟨a,by show _∈(cv Y.ks l.2.1 _).map (·.1);rw[gO];exact b,c⟩
 have q:=mid.zb (h:=l.2.1) (by show _∈(cv Y.ks l.2.1 _).map (·.1)++ls;rw[gO];exact mem_append_left _ lh) k2;exact q.mono (le_refl _) (by have:=Nat.mul_le_mul_left 16 k3;lia)
theorem Gn.ask (g:Gn Y T M L ls ns)(hT:T<=90){p g' m:Int}{row:List O}(hp:0<=p/\p<(Y.n:Int))(hg:0<=g'/\g'<(Y.n:Int))(ng:g'≠p)(hm:1<=m/\m<=1000)(er:Y.asked[p.toNat]?=some row):Gn (Y.asks ⟨p,row.length,g',m⟩ row) (T+1) (M+16) (⟨p,row.length,g',m⟩::L) ls ns:=by
 have lr:=g.al row (mem_of_getElem? er);have lp:=(List.getElem?_eq_some_iff.mp er).1;have ho:yy Y.n ⟨p,row.length,g',m⟩=true:=uh.mpr ⟨hp.1,by show p<=(Y.n:Int)-1;lia,hg.1,by show g'<=(Y.n:Int)-1;lia,λz=>ng z.symm,by show(0:Int)<=row.length;lia,by show(row.length:Int)<=99;lia,hm.1,hm.2⟩;have sub:∀o∈L,o∈(⟨p,row.length,g',m⟩:O)::L:=λo h=>mem_cons_of_mem _ h;have mid:Gn {Y with asked:=Y.asked.set p.toNat (row++[⟨p,row.length,g',m⟩])} T M L ls ns->Gn {Y with asked:=Y.asked.set p.toNat (row++[⟨p,row.length,g',m⟩])} T M L ls ns:=id;refine⟨⟨g.ok.n8,by show(Y.asked.set _ _).length=Y.n;rw[length_set];exact g.ok.al,λr hr o bh=>?_,g.ok.ks,g.ok.nd,g.ok.k0,g.ok.k1⟩,by rw[length_cons];have:=g.l;lia,λo h=>?_,λo h=>?_,λc hc=>⟨(g.ks c hc).1.mono sub (by lia),(g.ks c hc).2.mono sub λ_ h=>h⟩,⟨g.g.b.mono sub,λx hx=>?_⟩,?_,λr hr=>?_,g.e1⟩
 .rcases List.mem_or_eq_of_mem_set (show r∈Y.asked.set p.toNat (row++[⟨p,row.length,g',m⟩])from hr)with hr|rfl
  .exact g.ok.ao r hr o bh
  .rcases mem_append.mp bh with h|h
   .exact g.ok.ao row (mem_of_getElem? er) o h
   .rw[mem_singleton.mp h];exact ho
 .rcases mem_cons.mp h with rfl|h
  .exact ho
  .exact g.lo o h
 .show o.p∈Y.y3\/∃hV,(Y.asked.set p.toNat (row++[⟨p,row.length,g',m⟩]))[o.p.toNat]?=some hV/\o∈hV;rcases mem_cons.mp h with rfl|h
  .exact .inr ⟨_,getElem?_set_self lp,mem_append_right _ (mem_singleton.mpr rfl)⟩
  .rcases g.mw o h with h|⟨hV,e,h⟩
   .exact .inl h
   .by_cases z:o.p.toNat=p.toNat
    .rw[z]at e⊢;rw[er]at e;cases e;exact .inr ⟨_,getElem?_set_self lp,mem_append_left _ h⟩
    .exact .inr ⟨hV,by rw[getElem?_set_ne (λy=>z y.symm)];exact e,h⟩
 .rcases mem_append.mp (show x∈Y.way++Y.ks.map λc=>(true,c.1,(⟨p,row.length,g',m⟩:O))from hx)with fe|fe
  .obtain⟨a,b,c⟩:=g.g.y x fe;exact⟨sub _ a,b,c⟩
  .obtain⟨c,hc,rfl⟩:=mem_map.mp fe;exact⟨mem_cons_self,mem_map_of_mem hc,λz=>by cases z⟩
 .show(Y.way++Y.ks.map λc=>(true,c.1,(⟨p,row.length,g',m⟩:O))).length<=M+16;rw[length_append,length_map];have:=g.wl;have:=g.ok.k1;lia
 .rcases List.mem_or_eq_of_mem_set (show r∈Y.asked.set p.toNat (row++[⟨p,row.length,g',m⟩])from hr)with hr|rfl
  .exact le_succ_of_le (g.al r hr)
  .rw[length_append];show row.length+1<=T+1;lia
theorem Gn.row (g:Gn Y T M L ls ns){p:Int}(h0:0<=p)(h1:p<(Y.n:Int)):∃row,Y.asked[p.toNat]?=some row:=⟨_,getElem?_eq_getElem (by rw[g.ok.al];lia)⟩
theorem Gn.sz (g:Gn Y T M L ls ns):Sz Y L.length (Y.ks.length+ls.length) M:=by obtain⟨b1,b2⟩:=g.g.b.len;refine⟨b1,λx hx=>?_,g.wl,g.ok.k1⟩;have:=b2 x hx;rwa[length_append,length_map]at this
end
theorem j84 {h f:Int}{ns cs ls:List Int}(h1:1<=h/\h<=16)(hf:0<=f)(lt:3*f<h)(l8:ns.length<=8)(n0:∀x∈ns,0<=x)(ll:(ls.length:Int)<=f)(lr:∀x∈ls,0<=x/\x<h):Gn (w0 h f ns cs ls) 0 0 [] ls ns:=by
 have ek:(w0 h f ns cs ls).ks.map (·.1)=ug ls h.toNat:=by show((ug ls h.toNat).map λi=>(i,hU ns)).map (·.1)=_;rw[map_map];exact List.map_id _
 have jU:∀c∈(w0 h f ns cs ls).ks,c.2=hU ns:=λc hc=>by obtain⟨i,_,rfl⟩:=mem_map.mp (show c∈(ug ls h.toNat).map λi=>(i,hU ns)from hc);rfl
 have lk:(w0 h f ns cs ls).ks.length=(ug ls h.toNat).length:=length_map ..;have eR:dJ [] 0 ns.length (hU ns):=⟨⟨rfl,by show(List.replicate _ _).length=_;rw[length_replicate],λ_ z=>(by cases z),λ_ z=>(by cases z),nodup_nil⟩,⟨le_refl _,le_refl _,le_refl _⟩,λ_ z=>(by cases z),λ_ z=>(by cases z)⟩;have kx:KX [] (w0 h f ns cs ls).carried ns.length ns (hU ns):=by
  refine⟨rfl,n0,rfl,λp p0 p1=>?_,λ_ z=>(by cases z),λ_ z=>(by cases z),λ_ z=>(by cases z)⟩;have e:gI (hU ns).cu p=0:=by unfold gI;show((List.replicate ns.length (0:Int))[p.toNat]?).getD 0=0;rw[List.getElem?_replicate];split<;>rfl
  rw[e];exact⟨Int.le_refl _,rfl⟩
 have cn:(ug ls h.toNat).Nodup:=by unfold ug;exact List.Pairwise.filter _ (List.Pairwise.map _ (λa b fR z=>fR (Int.ofNat.inj z)) nodup_range)
 have c1:0<(ug ls h.toNat).length:=by
  have hl:((List.range h.toNat).map λ(i:Nat)=>(i:Int)).length<=(ug ls h.toNat).length+ls.length:=by
   rw[<-length_append];refine se (List.Pairwise.map _ (λa b fR z=>fR (Int.ofNat.inj z)) nodup_range) λx hx=>?_;by_cases z:x∈ls
   .exact mem_append_right _ z
   .exact mem_append_left _ (mem_filter.mpr ⟨hx,by simp[z]⟩)
  rw[length_map,length_range]at hl;lia
 have c2:=HW ls h.toNat;refine⟨⟨l8,by show(List.replicate _ _).length=_;rw[length_replicate];rfl,λrow hr o ho=>?_,λc hc=>by rw[jU c hc];exact eR.ok,by rw[ek];exact cn,by rw[lk];exact c1,by rw[lk];lia⟩,le_refl _,λ_ z=>(by cases z),λ_ z=>(by cases z),λc hc=>by rw[jU c hc];exact⟨eR,kx⟩,⟨⟨nodup_nil,λ_ z=>(by cases z),λ_ z=>(by cases z)⟩,λ_ z=>(by cases z)⟩,le_refl _,λrow hr=>?_,by show 1<=h-f;lia⟩
 .have:row=[]:=eq_of_mem_replicate hr;subst this;cases ho
 .have:row=[]:=eq_of_mem_replicate hr;subst this;exact le_refl _
theorem Pu {B:Kp}{Q:Gv->Prop}:∀{os:List O}{a:Gv},(∀o∈os,∀a,Q a->Q (df B o a))->Q a->Q (gv B os a)
 |[],_,_,h=>h
 |o::os,a,hs,h=>by unfold gv;rw[foldl_cons];exact Pu (λu hu=>hs u (mem_cons_of_mem _ hu)) (hs o mem_cons_self a h)
structure Bo (c0:List ((Int×Int)×O))(a:Gv):Prop where
 ck:(a.1.map (·.1)).Nodup
 cp:∀c∈a.1,c.1=(c.2.p,c.2.n)
 mo:∀c∈c0,c∈a.1
 vt:∀o∈a.2.1,((o.p,o.n),o)∈a.1
 nw:∀c∈a.1,c∈c0\/c.2∈a.2.1
theorem Bo.step {c0:List ((Int×Int)×O)}{B:Kp}{o:O}{a:Gv}(g:Bo c0 a):Bo c0 (df B o a):=by
 unfold df;split
 .rename_i z;rw[Bool.and_eq_true]at z;have nc:∀x∈a.1,x.1≠(o.p,o.n):=λx hx e=>by
   have:kR a.1 o=true:=List.any_eq_true.mpr ⟨x,hx,decide_eq_true e⟩;rw[this]at z;cases z.2
  refine⟨?_,λc hc=>?_,λc hc=>mem_append_left _ (g.mo c hc),λu hu=>?_,λc hc=>?_⟩
  .show((a.1++[((o.p,o.n),o)]).map (·.1)).Nodup;rw[map_append];refine nodup_append.mpr ⟨g.ck,by simp,λx hx y hy e=>?_⟩;obtain⟨c,hc,rfl⟩:=mem_map.mp hx;rw[mem_singleton.mp hy]at e;exact nc c hc e
  .rcases mem_append.mp hc with hc|hc
   .exact g.cp c hc
   .rw[mem_singleton.mp hc]
  .rcases mem_append.mp hu with hu|hu
   .exact mem_append_left _ (g.vt u hu)
   .rw[mem_singleton.mp hu];exact mem_append_right _ (mem_singleton.mpr rfl)
  .rcases mem_append.mp hc with hc|hc
   .exact(g.nw c hc).imp id λh=>mem_append_left _ h
   .rw[mem_singleton.mp hc];exact .inr (mem_append_right _ (mem_singleton.mpr rfl))
 .split
  .exact⟨g.ck,g.cp,g.mo,g.vt,g.nw⟩
  .exact g
def jV (o:O):Int×Int:=(o.p,o.n)
structure KV (L:List O)(B:Kp):Prop where
 ck:(B.cho.map (·.1)).Nodup
 cp:∀c∈B.cho,c.1=(c.2.p,c.2.n)
 cl:∀c∈B.cho,c.2∈L
structure Ik (L:List O)(B κ':Kp)(vs:List O):Prop where
 z:KV L κ'
 mo:∀c∈B.cho,c∈κ'.cho
 vt:∀o∈vs,(jV o,o)∈κ'.cho
theorem KV.zb {L:List O}{B:Kp}(z:KV L B)(ul:∀o∈B.aQ,o∈L):Ik L B B.zb.1 B.zb.2:=by have g:Bo B.cho (gv B B.aQ (B.cho,[],[])):=Pu (λo _ a h=>h.step) ⟨z.ck,z.cp,λ_ h=>h,λ_ h=>(by cases h),λ_ h=>.inl h⟩;have vl:=Ii B B.aQ (B.cho,[],[]) ul (λo h=>by cases h);exact⟨⟨g.ck,g.cp,λc hc=>(g.nw c hc).elim (z.cl c) (vl c.2)⟩,g.mo,g.vt⟩
theorem Pw:∀{m:Nat}{B:Kp},(Kp.go m B).cho=B.cho/\(Kp.go m B).aQ=B.aQ
 |0,_=>⟨rfl,rfl⟩
 |m+1,B=>by
  unfold Kp.go;cases B.first with
  |none=>exact⟨rfl,rfl⟩
  |some o=>exact Pw (m:=m) (B:=B.step o)
theorem KV.take {L:List O}{B:Kp}(z:KV L B)(ul:∀o∈B.aQ,o∈L)(b:Bool){o:O}(ol:o∈L):Ik L B (B.take b o).1 (B.take b o).2:=by
 have same:Ik L B B []:=⟨z,λ_ h=>h,λ_ h=>(by cases h)⟩;unfold Kp.take;split
 .unfold Kp.oa;split
  .exact same
  .have z1:KV L {B with dQ:=B.dQ++[o],aQ:=B.aQ++[o]}:=⟨z.ck,z.cp,z.cl⟩;have r:=z1.zb λu hu=>by
    rcases mem_append.mp hu with hu|hu
    .exact ul u hu
    .rw[mem_singleton.mp hu];exact ol
   exact⟨r.z,r.mo,r.vt⟩
 .unfold Kp.jN;split
  .exact same
  .obtain⟨e1,e2⟩:=Pw (m:=(B.wait++[o]).length) (B:={B with wait:=B.wait++[o]});have z1:KV L (Kp.kS {B with wait:=B.wait++[o]}):=⟨by unfold Kp.kS;rw[e1];exact z.ck,by unfold Kp.kS;rw[e1];exact z.cp,by unfold Kp.kS;rw[e1];exact z.cl⟩;have r:=z1.zb (by unfold Kp.kS;rw[e2];exact ul);exact⟨r.z,λc hc=>r.mo c (by unfold Kp.kS;rw[e1];exact hc),r.vt⟩
theorem jv0 (Y:Wd)(h:Int)(o u:O)(x:Int):x∈qc (Y.bI h o).bd (yh u)↔x∈qc Y.bd (yh u)\/(x=h/\u=o):=by
 rw[wX];unfold Wd.put;split
 .rename_i hm;exact⟨.inl,λz=>z.elim id λ⟨e1,e2⟩=>by rw[e1,e2];exact hm⟩
 .show x∈qc (dq Y.bd (yh o) h) (yh u)↔_;rw[Bn];by_cases z:yh u=yh o
  .rw[if_pos z,z,mem_append,mem_singleton];have:=wC z;simp[this]
  .rw[if_neg z];exact⟨.inl,λy=>y.elim id λ⟨_,e2⟩=>absurd (by rw[e2]) z⟩
theorem Bp (h:Int)(u:O)(x:Int):∀(os:List O)(Y:Wd),x∈qc (Y.zb h os).bd (yh u)->x∈qc Y.bd (yh u)\/(x=h/\u∈os)
 |[],Y,hx=>.inl hx
 | o::os,Y,hx=>by
  rcases Bp h u x os (Y.bI h o) hx with a|⟨a,b⟩
  .rcases(jv0 Y h o u x).mp a with a|⟨a,b⟩
   .exact .inl a
   .exact .inr ⟨a,mem_cons.mpr (.inl b)⟩
  .exact .inr ⟨a,mem_cons_of_mem _ b⟩
theorem yx (h:Int):∀(os:List O)(Y:Wd),Y.kX (Y.zb h os)
 |[],Y=>⟨rfl,rfl,rfl,rfl,rfl⟩
 |o::os,Y=>(Bl Y h o).trans (yx h os (Y.bI h o))
structure Sk (Y:Wd)(L:List O)(ls:List Int):Prop where
 kv:∀c∈Y.ks,KV L c.2
 vo:∀c∈Y.ks,∀o,c.1∈qc Y.bd (yh o)->(jV o,o)∈c.2.cho
 as:∀(p:Nat)(row:List O),Y.asked[p]?=some row->∀(i:Nat)(o:O),row[i]?=some o->o.n=(i:Int)
 nm:∀o∈L,o.p∈Y.y3->o.n<=3
 dj:∀c∈Y.ks,c.1∉ls
structure fX (Y Y':Wd):Prop where
 e:Y'.en=Y.en
 k:Paired (λ(c c':Int×Kp)=>∀x∈c.2.cho,x∈c'.2.cho) Y.ks Y'.ks
theorem Il {α:Type}{F:α->α->Prop}(h:∀a,F a a):∀xs:List α,Paired F xs xs
 |[]=>.nil
 |x::xs=>.cons (h x) (Il h xs)
theorem fX.refl (Y:Wd):fX Y Y:=⟨rfl,Il (λ_ _ h=>h) _⟩
theorem fX.of {Y Y':Wd}(e:Y'.en=Y.en)(k:Y'.ks=Y.ks):fX Y Y':=⟨e,by rw[k];exact Il (λ_ _ h=>h) _⟩
theorem juo {α:Type}{F:α->α->Prop}(h:∀a b c,F a b->F b c->F a c):∀{xs ys zs:List α},Paired F xs ys->Paired F ys zs->Paired F xs zs:=λ{xs ys zs} p q=>by
 induction p generalizing zs with
 |nil=>cases q;exact .nil
 |cons a r ih=>
  cases q with
  |cons b s=>exact .cons (h _ _ _ a b) (ih s)
theorem fX.trans {a b c:Wd}(x:fX a b)(y:fX b c):fX a c:=⟨y.e.trans x.e,juo (λ_ _ _ f g x hx=>g x (f x hx)) x.k y.k⟩
theorem Px {ks:List (Int×Kp)}(nd:(ks.map (·.1)).Nodup){a b:Int×Kp}(ha:a∈ks)(hb:b∈ks)(e:a.1=b.1):a=b:=by
 induction ks with
 |nil=>cases ha
 |cons c cs ih=>
  rw[map_cons,nodup_cons]at nd;rcases mem_cons.mp ha with h1|h1<;>rcases mem_cons.mp hb with h2|h2
  .rw[h1,h2]
  .exact absurd (mem_map.mpr ⟨b,h2,by rw[<-e,h1]⟩) nd.1
  .exact absurd (mem_map.mpr ⟨a,h1,by rw[e,h2]⟩) nd.1
  .exact ih nd.2 h1 h2
section
variable {Y:Wd}{L:List O}{ls:List Int}
theorem KV.mono {L':List O}{B:Kp}(h:∀o∈L,o∈L')(z:KV L B):KV L' B:=⟨z.ck,z.cp,λc hc=>h _ (z.cl c hc)⟩
theorem Sk.more (s:Sk Y L ls){way:List (Bool×Int×O)}{o:O}(no:o.p∈Y.y3->o.n<=3):Sk {Y with way:=way} (o::L) ls:=by
 refine⟨λc hc=>(s.kv c hc).mono λ_ h=>mem_cons_of_mem _ h,s.vo,s.as,λu hu hc=>?_,s.dj⟩;rcases mem_cons.mp hu with rfl|hu
 .exact no hc
 .exact s.nm u hu hc
theorem Sk.way (s:Sk Y L ls){way:List (Bool×Int×O)}:Sk {Y with way:=way} L ls:=⟨s.kv,s.vo,s.as,s.nm,s.dj⟩
theorem Sk.lie (s:Sk Y L ls){f:Int}(hf:f∈ls)(os:List O):Sk (Y.zb f os) L ls:=by
 have lk:=yx f os Y;refine⟨by rw[lk.k];exact s.kv,λc hc u hu=>?_,by rw[lk.a];exact s.as,by rw[lk.c];exact s.nm,by rw[lk.k];exact s.dj⟩;rw[lk.k]at hc;rcases Bp _ _ _ _ _ hu with hu|⟨e,_⟩
 .exact s.vo c hc u hu
 .exact absurd (e ▸ hf) (s.dj c hc)
theorem Sk.ask (s:Sk Y L ls){p g m:Int}{row:List O}(er:Y.asked[p.toNat]?=some row)(nc:p∉Y.y3):Sk (Y.asks ⟨p,row.length,g,m⟩ row) (⟨p,row.length,g,m⟩::L) ls:=by
 refine⟨λc hc=>(s.kv c hc).mono λ_ h=>mem_cons_of_mem _ h,s.vo,λq hV e i o eo=>?_,λu hu hc=>?_,s.dj⟩
 .have e':(Y.asked.set p.toNat (row++[⟨p,row.length,g,m⟩]))[q]?=some hV:=e;by_cases z:p.toNat=q
  .subst z;rw[getElem?_set_self (List.getElem?_eq_some_iff.mp er).1]at e';cases e';by_cases y:i<row.length
   .rw[List.getElem?_append_left y]at eo;exact s.as _ _ er i o eo
   .rw[List.getElem?_append_right (by lia)]at eo;cases hi:i-row.length with
    |zero=>rw[hi]at eo;cases eo;show(row.length:Int)=i;lia
    |succ k=>rw[hi]at eo;cases eo
  .rw[getElem?_set_ne z]at e';exact s.as _ _ e' i o eo
 .rcases mem_cons.mp hu with rfl|hu
  .exact absurd hc nc
  .exact s.nm u hu hc
theorem Sk.jQ (s:Sk Y L ls)(nd:(Y.ks.map (·.1)).Nodup){i:Nat}{l:Bool×Int×O}{B:Kp}(km:(l.2.1,B)∈Y.ks)(ul:∀o∈B.aQ,o∈L)(lL:l.2.2∈L):Sk (Y.jQ i l B) L ls/\fX Y (Y.jQ i l B):=by
 have r:=(s.kv _ km).take ul l.1 lL;unfold Wd.jQ;generalize (B.take l.1 l.2.2).1=κ' at r;generalize (B.take l.1 l.2.2).2=vs at r;have lk:=yx l.2.1 vs {Y with way:=Y.way.eraseIdx i,ks:=cv Y.ks l.2.1 κ'};have sf:∀c∈cv Y.ks l.2.1 κ',(c.1=l.2.1/\c.2=κ')\/(c∈Y.ks/\c.1≠l.2.1):=λc hc=>by
  obtain⟨c',iQ,rfl⟩:=mem_map.mp hc;split
  .exact .inl ⟨rfl,rfl⟩
  .rename_i z;exact .inr ⟨iQ,z⟩
 refine⟨⟨λc hc=>?_,λc hc u hu=>?_,by rw[lk.a];exact s.as,by rw[lk.c];exact s.nm,λc hc=>?_⟩,lk.e,?_⟩
 .rw[lk.k]at hc;rcases sf c hc with⟨_,e⟩|⟨h,_⟩
  .rw[e];exact r.z
  .exact s.kv c h
 .rw[lk.k]at hc;rcases sf c hc with⟨e1,e⟩|⟨h,n⟩
  .rw[e];rcases Bp _ _ _ _ _ hu with hu|⟨_,hu⟩
   .exact r.mo _ (s.vo _ km u (e1 ▸ hu))
   .exact r.vt u hu
  .rcases Bp _ _ _ _ _ hu with hu|⟨e,_⟩
   .exact s.vo c h u hu
   .exact absurd e n
 .rw[lk.k]at hc;rcases sf c hc with⟨e1,_⟩|⟨h,_⟩
  .rw[e1];exact s.dj _ km
  .exact s.dj c h
 .rw[lk.k];have all:∀ks:List (Int×Kp),(∀c∈ks,c∈Y.ks)->Paired (λ(c c':Int×Kp)=>∀x∈c.2.cho,x∈c'.2.cho) ks (cv ks l.2.1 κ'):=λks=>by
   induction ks with
   |nil=>exact λ_=>.nil
   |cons c cs ih=>
    intro h;refine .cons ?_ (ih λx hx=>h x (mem_cons_of_mem _ hx));dsimp only;split
    .rename_i z;rw[Px nd (h c mem_cons_self) km z];exact r.mo
    .exact λ_ h=>h
  exact all Y.ks λ_ h=>h
end
def vt (B:Kp)(q:Int×Int):Option O:=(B.cho.find? λx=>decide (x.1=q)).map (·.2)
def vf (Y:Wd)(q:Int×Int):List (Option O):=Y.ks.map λc=>vt c.2 q
theorem KV.Br {L:List O}{B:Kp}(z:KV L B){q:Int×Int}{o:O}:vt B q=some o↔(q,o)∈B.cho:=by
 unfold vt;constructor
 .intro h;cases e:B.cho.find? λx=>decide (x.1=q)with
  |none=>rw[e]at h;cases h
  |some x=>
   rw[e]at h;have h1:x.1=q:=by simpa using find?_some e
   have h2:x.2=o:=Option.some.inj h;rw[<-h1,<-h2];exact mem_of_find?_eq_some e
 .intro h;cases e:B.cho.find? λx=>decide (x.1=q)with
  |none=>have:=List.find?_eq_none.mp e _ h;simp at this
  | some x=>
   have h1:x.1=q:=by simpa using find?_some e
   have hx:=mem_of_find?_eq_some e;have one:∀{cs:List ((Int×Int)×O)}{a b:(Int×Int)×O},(cs.map (·.1)).Nodup->a∈cs->b∈cs->a.1=b.1->a=b:=λ{cs a b} nd ha hb e=>by
    induction cs with
    |nil=>cases ha
    |cons c cs ih=>
     rw[map_cons,nodup_cons]at nd;rcases mem_cons.mp ha with h1|h1<;>rcases mem_cons.mp hb with h2|h2
     .rw[h1,h2]
     .exact absurd (mem_map.mpr ⟨b,h2,by rw[<-e,h1]⟩) nd.1
     .exact absurd (mem_map.mpr ⟨a,h1,by rw[e,h2]⟩) nd.1
     .exact ih nd.2 h1 h2
   rw[one z.ck hx h h1];rfl
def cQ (vs:List (Option O))(nl:Nat)(en:Int):Prop:=(∃o,some o∈vs)/\∀o,((vs.count none+vs.count (some o):Nat):Int)+nl<en
theorem j1u {Y Y':Wd}{L:List O}{q:Int×Int}{nl:Nat}(g:fX Y Y')(kv:∀c∈Y.ks,KV L c.2){L':List O}(kv':∀c∈Y'.ks,KV L' c.2)(s:cQ (vf Y q) nl Y.en):cQ (vf Y' q) nl Y'.en:=by
 have key:∀{ks pU:List (Int×Kp)},Paired (λ(c c':Int×Kp)=>∀x∈c.2.cho,x∈c'.2.cho) ks pU->(∀c∈ks,KV L c.2)->(∀c∈pU,KV L' c.2)->(∀o,some o∈ks.map (λc=>vt c.2 q)->some o∈pU.map λc=>vt c.2 q)/\∀o,(pU.map λc=>vt c.2 q).count none+(pU.map λc=>vt c.2 q).count (some o)<=(ks.map λc=>vt c.2 q).count none+(ks.map λc=>vt c.2 q).count (some o):=λ{ks pU} p=>by
  induction p with
  |nil=>exact λ_ _=>⟨λ_ h=>h,λ_=>le_refl _⟩
  | cons h _ ih=>
   rename_i c c' cs cs' _;intro k1 k2;obtain⟨i1,i2⟩:=ih (λx hx=>k1 x (mem_cons_of_mem _ hx)) (λx hx=>k2 x (mem_cons_of_mem _ hx));have kc:=k1 c mem_cons_self;have kc':=k2 c' mem_cons_self;have up:∀o,vt c.2 q=some o->vt c'.2 q=some o:=λo e=>kc'.Br.mpr (h _ (kc.Br.mp e));refine⟨λo ho=>?_,λo=>?_⟩
   .rw[map_cons,mem_cons]at ho⊢;rcases ho with ho|ho
    .exact .inl (up o ho.symm).symm
    .exact .inr (i1 o ho)
   .rw[map_cons,map_cons,count_cons,count_cons,count_cons,count_cons];have:=i2 o;cases e:vt c.2 q with
    |some u=>rw[up u e];lia
    | none=>
     cases e':vt c'.2 q with
     |none=>lia
     |some u=>
      by_cases z:u=o
      .subst z;simp;lia
      .simp[z];lia
 obtain⟨k1,k2⟩:=key g.k kv kv';refine⟨let⟨o,ho⟩:=s.1;⟨o,k1 o ho⟩,λo=>?_⟩;have h1:=s.2 o;have h2:=k2 o;unfold vf at h1⊢;rw[g.e];lia
theorem Py {k:List Int}:∀{is:x8},qc is k=[]\/∃x∈is,x.1=k/\qc is k=x.2
 |[]=>.inl rfl
 | p::ps=>by
  unfold qc;split
  .rename_i z;exact .inr ⟨p,mem_cons_self,z,rfl⟩
  .rcases Py (k:=k) (is:=ps)with h|⟨x,hx,e⟩
   .exact .inl h
   .exact .inr ⟨x,mem_cons_of_mem _ hx,e⟩
theorem fY {vs:List (Option O)}{o:O}:(∀v∈vs,v=none\/v=some o)->vs.count none+vs.count (some o)=vs.length:=by
 induction vs with
 |nil=>exact λ_=>rfl
 |cons v vs ih=>
  intro h;have:=ih λv hv=>h v (mem_cons_of_mem _ hv);rw[count_cons,count_cons,length_cons];rcases h v mem_cons_self with rfl|rfl
  .simp;lia
  .simp;lia
theorem Bs (o:O):∀vs:List (Option O),(vs.filterMap id).count o=vs.count (some o)
 |[]=>rfl
 |none::vs=>by have:=Bs o vs;simpa using this
 |some u::vs=>by have:=Bs o vs;rw[List.filterMap_cons_some (by rfl:id (some u)=some u),count_cons,count_cons,this];simp
theorem si:∀vs:List (Option O),vs.length=vs.count none+(vs.filterMap id).length
 |[]=>rfl
 |none::vs=>by have:=si vs;rw[List.filterMap_cons_none rfl,count_cons,length_cons];simp;lia
 |some u::vs=>by have:=si vs;rw[List.filterMap_cons_some (by rfl:id (some u)=some u),count_cons,length_cons,length_cons];simp;lia
theorem so {vs:List (Option O)}{o:O}:o∈vs.filterMap id↔some o∈vs:=by simp
theorem j4i {vs:List (Option O)}{nl:Nat}{en M:Int}(h1:∃o,some o∈vs/\M=vs.count (some o))(h2:∀o,some o∈vs->(vs.count (some o):Int)<=M):M+vs.count none+nl<en↔cQ vs nl en:=by
 obtain⟨o,ho,rfl⟩:=h1;constructor
 .intro h;refine⟨⟨o,ho⟩,λu=>?_⟩;by_cases z:some u∈vs
  .have:=h2 u z;lia
  .have:vs.count (some u)=0:=List.count_eq_zero.mpr z;lia
 .rintro⟨_,h⟩
  have:=h o;lia
section
variable {Y:Wd}{T M:Nat}{L:List O}{ls ns:List Int}
theorem some_at {q:Int×Int}{o:O}(s:Sk Y L ls)(h:some o∈vf Y q):∃c∈Y.ks,(q,o)∈c.2.cho/\o∈L/\q=jV o:=by obtain⟨c,hc,e⟩:=mem_map.mp h;have kv:=s.kv c hc;have hm:=kv.Br.mp e;exact⟨c,hc,hm,kv.cl _ hm,kv.cp _ hm⟩
theorem j26 (g:Gn Y T M L ls ns)(s:Sk Y L ls){o:O}(hc:Y.carried o=true):¬cQ (vf Y (jV o)) ls.length Y.en:=λst=>by
 have h1:=of_decide_eq_true hc;have h2:=st.2 o;have h3:(qc Y.bd (yh o)).length<=(((Y.ks.filter λc=>decide (vt c.2 (jV o)=some o)).map (·.1))++ls).length:=by
  rcases Py (k:=yh o) (is:=Y.bd)with e|⟨x,hx,ex,e⟩
  .rw[e];exact zero_le _
  .obtain⟨nd,Ak⟩:=g.g.b.hn x hx;rw[e];refine se nd λh hh=>?_;rcases mem_append.mp (Ak h hh)with hm|hm
   .obtain⟨c,hc,rfl⟩:=mem_map.mp hm;refine mem_append_left _ (mem_map.mpr ⟨c,mem_filter.mpr ⟨hc,decide_eq_true ?_⟩,rfl⟩);exact(s.kv c hc).Br.mpr (s.vo c hc o (by rw[e];exact hh))
   .exact mem_append_right _ hm
 rw[length_append,length_map,<-List.countP_eq_length_filter]at h3;have h4:(vf Y (jV o)).count (some o)=Y.ks.countP λc=>decide (vt c.2 (jV o)=some o):=by unfold vf;rw[List.count,List.countP_map];congr 1;funext c;show(vt c.2 (jV o)==some o)=_;rw[Bool.eq_iff_iff,beq_iff_eq,decide_eq_true_iff]
 lia
theorem Pz (g:Gn Y T M L ls ns)(s:Sk Y L ls)(he:Y.en<=((Y.ks.length+ls.length:Nat):Int)){q:Int×Int}(st:cQ (vf Y q) ls.length Y.en):q.1∈Y.y3:=Classical.byContradiction λnq=>by
 obtain⟨⟨o,ho⟩,h⟩:=st;obtain⟨_,_,_,oL,rfl⟩:=some_at s ho;have jW:∀u∈L,u.p∉Y.y3->∃row,∃i:Nat,Y.asked[u.p.toNat]?=some row/\row[i]?=some u/\u.n=(i:Int):=λu hu nc=>by obtain⟨row,er,hm⟩:=(g.mw u hu).resolve_left nc;obtain⟨i,hi⟩:=List.mem_iff_getElem?.mp hm;exact⟨row,i,er,hi,s.as _ _ er i u hi⟩
 have all:∀v∈vf Y (jV o),v=none\/v=some o:=λv hv=>by
  cases v with
  |none=>exact .inl rfl
  |some u=>
   right;obtain⟨_,_,_,uL,e⟩:=some_at s hv;have e1:o.p=u.p:=congrArg Prod.fst e;have e2:o.n=u.n:=congrArg Prod.snd e;obtain⟨r1,i1,a1,b1,c1⟩:=jW o oL nq;obtain⟨r2,i2,a2,b2,c2⟩:=jW u uL (by rw[<-e1];exact nq);rw[<-e1,a1]at a2;cases a2;have:i1=i2:=by lia
   subst this;rw[b1]at b2;exact b2.symm
 have:=fY all;have l:(vf Y (jV o)).length=Y.ks.length:=length_map ..;have:=h o;lia
theorem jvc (g:Gn Y T M L ls ns)(s:Sk Y L ls)(he:Y.en<=((Y.ks.length+ls.length:Nat):Int)){q:Int×Int}(st:cQ (vf Y q) ls.length Y.en):q.1∈Y.y3/\(0<=q.1/\q.1<(Y.n:Int))/\0<=q.2/\q.2<4:=by have hc:=Pz g s he st;obtain⟨o,ho⟩:=st.1;obtain⟨_,_,_,oL,rfl⟩:=some_at s ho;obtain⟨a1,a2,_,_,_,a3,_⟩:=uh.mp (g.lo o oL);have:=s.nm o oL hc;exact⟨hc,⟨a1,by show o.p<_;lia⟩,a3,by show o.n<4;lia⟩
end
abbrev HC:=List ((Int×Int)×List O)
def dM:HC->Int×Int->O->HC
 |[],q,o=>[(q,[o])]
 |x::xs,q,o=>if x.1=q then(x.1,x.2++[o])::xs else x::dM xs q o
def cB:HC->Int×Int->List O
 |[],_=>[]
 |x::xs,q=>if x.1=q then x.2 else cB xs q
theorem PB {q q':Int×Int}{o:O}:∀{hc:HC},cB (dM hc q o) q'=if q'=q then cB hc q++[o]else cB hc q'
 |[]=>by
  show(if q=q' then[o]else[])=_;by_cases z:q'=q
  .rw[if_pos z,if_pos z.symm];rfl
  .rw[if_neg z,if_neg (λy=>z y.symm)];rfl
 | x::xs=>by
  unfold dM;by_cases y:x.1=q
  .rw[if_pos y];show(if x.1=q' then x.2++[o]else cB xs q')=if q'=q then(if x.1=q then x.2 else cB xs q)++[o]else if x.1=q' then x.2 else cB xs q';by_cases z:q'=q
   .rw[if_pos z,if_pos y,if_pos (by rw[y,z])]
   .rw[if_neg z,if_neg (λe=>z (by rw[<-e,y])),if_neg (λe=>z (by rw[<-e,y]))]
  .rw[if_neg y];show(if x.1=q' then x.2 else cB (dM xs q o) q')=if q'=q then(if x.1=q then x.2 else cB xs q)++[o]else if x.1=q' then x.2 else cB xs q';rw[PB (hc:=xs),if_neg y];by_cases z:q'=q
   .rw[if_pos z,if_pos z,if_neg (λe=>y (by rw[e,z]))]
   .rw[if_neg z,if_neg z]
theorem PD {q:Int×Int}{o:O}{y:Int×Int}:∀{hc:HC},y∈(dM hc q o).map (·.1)->y∈hc.map (·.1)\/y=q
 |[],h=>.inr (mem_singleton.mp h)
 | x::xs,h=>by
  unfold dM at h;split at h
  .rw[map_cons,mem_cons]at h⊢;exact .inl h
  .rw[map_cons,mem_cons]at h⊢;rcases h with h|h
   .exact .inl (.inl h)
   .exact(PD h).imp .inr id
structure ot (hc:HC):Prop where
 nd:(hc.map (·.1)).Nodup
 ne:∀x∈hc,x.2≠[]
theorem ot.add {q:Int×Int}{o:O}:∀{hc:HC},ot hc->ot (dM hc q o)
 |[],_=>⟨by simp[dM],λx hx=>by rw[mem_singleton.mp hx];exact λz=>by cases z⟩
 | x::xs,c=>by
  have nd:=c.nd;rw[map_cons,nodup_cons]at nd;have ih:=ot.add (q:=q) (o:=o) (hc:=xs) ⟨nd.2,λy hy=>c.ne y (mem_cons_of_mem _ hy)⟩;unfold dM;split
  .refine⟨c.nd,λy hy=>?_⟩;rcases mem_cons.mp hy with rfl|hy
   .exact λz=>by simp at z
   .exact c.ne y (mem_cons_of_mem _ hy)
  .rename_i z;refine⟨?_,λy hy=>?_⟩
   .rw[map_cons,nodup_cons];exact⟨λh=>(PD h).elim nd.1 z,ih.nd⟩
   .rcases mem_cons.mp hy with rfl|hy
    .exact c.ne y mem_cons_self
    .exact ih.ne y hy
theorem PF {hc:HC}(nd:(hc.map (·.1)).Nodup){x:(Int×Int)×List O}(h:x∈hc):cB hc x.1=x.2:=by
 induction hc with
 |nil=>cases h
 |cons y ys ih=>
  rw[map_cons,nodup_cons]at nd;unfold cB;rcases mem_cons.mp h with rfl|h
  .exact if_pos rfl
  .rw[if_neg (λe:y.1=x.1=>nd.1 (by rw[e];exact mem_map_of_mem h))];exact ih nd.2 h
theorem j1r {hc:HC}{q:Int×Int}(h:cB hc q≠[]):(q,cB hc q)∈hc:=by
 induction hc with
 |nil=>exact absurd rfl h
 |cons y ys ih=>
  unfold cB at h⊢;by_cases z:y.1=q
  .rw[if_pos z]at h⊢;rw[<-z];exact mem_cons_self
  .rw[if_neg z]at h⊢;exact mem_cons_of_mem _ (ih h)
def fq (hc:HC)(cs:List ((Int×Int)×O)):HC:=cs.foldl (λhc c=>dM hc c.1 c.2) hc
theorem Im:∀(cs:List ((Int×Int)×O))(hc:HC),ot hc->ot (fq hc cs)
 |[],_,h=>h
 |c::cs,hc,h=>Im cs (dM hc c.1 c.2) h.add
theorem Io {q:Int×Int}:∀(cs:List ((Int×Int)×O))(hc:HC),cB (fq hc cs) q=cB hc q++(cs.filter λc=>decide (c.1=q)).map (·.2)
 |[],hc=>by simp[fq]
 |c::cs,hc=>by
  show cB (fq (dM hc c.1 c.2) cs) q=_;rw[Io cs,PB];by_cases z:q=c.1
  .rw[if_pos z,List.filter_cons_of_pos (by simp[z]),map_cons,<-z,append_assoc];rfl
  .rw[if_neg z,List.filter_cons_of_neg (by simpa using λy=>z y.symm)]
theorem KV.row {L:List O}{B:Kp}(z:KV L B)(q:Int×Int):(B.cho.filter λc=>decide (c.1=q)).map (·.2)=(vt B q).toList:=by
 have gen:∀cs:List ((Int×Int)×O),(cs.map (·.1)).Nodup->(cs.filter λc=>decide (c.1=q)).map (·.2)=((cs.find? λx=>decide (x.1=q)).map (·.2)).toList:=λcs=>by
  induction cs with
  |nil=>exact λ_=>rfl
  |cons c cs ih=>
   intro nd;rw[map_cons,nodup_cons]at nd;by_cases y:c.1=q
   .rw[List.filter_cons_of_pos (by simpa using y),List.find?_cons_of_pos (by simpa using y)];have:cs.filter (λc=>decide (c.1=q))=[]:=List.filter_eq_nil_iff.mpr λx hx e=>nd.1 (by rw[y,<-of_decide_eq_true e];exact mem_map_of_mem hx);rw[this];rfl
   .rw[List.filter_cons_of_neg (by simpa using y),List.find?_cons_of_neg (by simpa using y)];exact ih nd.2
 exact gen _ z.ck
def cJ (ks:List (Int×Kp)):HC:=fq [] (ks.flatMap λc=>c.2.cho)
theorem Ip {L:List O}{q:Int×Int}{ks:List (Int×Kp)}(kv:∀c∈ks,KV L c.2):cB (cJ ks) q=(ks.map λc=>vt c.2 q).filterMap id:=by
 unfold cJ;rw[Io];show[]++_=_;rw[List.nil_append];induction ks with
 |nil=>rfl
 |cons c cs ih=>
  rw[List.flatMap_cons,filter_append,map_append,ih λx hx=>kv x (mem_cons_of_mem _ hx),(kv c mem_cons_self).row q,map_cons];cases vt c.2 q with
  |none=>rfl
  |some u=>rfl
def wY (Z:ar)(To R:Addr):Prop:=Z To=some (9,.own 0)/\Z R=some (9,.own 1)
def dS:Role->Prop:=λr=>r=(9,.own 0)\/r=(9,.own 1)
theorem Iq {Z:ar}{H H':Hp}{To R:Addr}(tr:wY Z To R)(k:iG To R H H'):Fr (dS) Z H Z H':=λa u e n=>⟨k a u e (λz=>n (9,.own 0) (z ▸ tr.1) (.inl rfl)) (λz=>n (9,.own 1) (z ▸ tr.2) (.inr rfl)),rfl⟩
theorem PH {Z:ar}{H H':Hp}{To R:Addr}(kr:ay Z H)(hT:de To R H')(k:iG To R H H'):ay Z H':=λa r e=>by
 obtain⟨row,c,t1,t2,_⟩:=hT;by_cases z:a=To
 .subst z;exact⟨_,t1,True.intro⟩
 .by_cases y:a=R
  .subst y;exact⟨_,t2,True.intro⟩
  .obtain⟨u,hu,nu⟩:=kr a r e;exact⟨u,k a u hu z y,nu⟩
def jX (ts:List Int):Dt:=.tup (ts.map Dt.int)
def su (l:Bool×Int×O):Dt:=.tup [.str (if l.1=true then"order"else"paper"),.int l.2.1,jX (yh l.2.2)]
theorem Ir {α:Type}{K:W.Frag}{H:Hp}{F:α->Dt}{R:V->α->Prop}(h:∀x a,R x a->zj K H (F a) x):∀{xs:List V}{as:List α},Paired R xs as->yc K H (as.map F) xs:=λ{xs as} q=>by
 induction q with
 |nil=>rw[map_nil,yc]
 |cons a t ih=>rw[map_cons,yc];exact⟨_,_,rfl,h _ _ a,ih⟩
theorem PJ {K:W.Frag}{H:Hp}:∀ns:List Int,yc K H (ns.map Dt.int) (ns.map V.int)
 |[]=>by rw[map_nil,map_nil,yc]
 |n::ns=>by rw[map_cons,map_cons,yc];exact⟨_,_,rfl,by rw[zj],PJ ns⟩
theorem Iu {K:W.Frag}{H:Hp}{a:Addr}{ts:List Int}(h:aA K H a (ts.map V.int)):zj K H (jX ts) (.ref a):=by unfold jX;rw[zj];exact⟨a,_,rfl,h,PJ ts⟩
theorem cA.qbw {K:W.Frag}{H:Hp}{Z:ar}{x:V}{l:Bool×Int×O}(h:cA H Z x l):zj K H (su l) x:=by obtain⟨a,q,rfl,n,h1,_,e,_,h2⟩:=h;cases e;unfold su;rw[zj];refine⟨a,_,rfl,aA.of h1,?_⟩;rw[yc];refine⟨_,_,rfl,by rw[zj];rfl,?_⟩;rw[yc];refine⟨_,_,rfl,by rw[zj],?_⟩;rw[yc];exact⟨_,_,rfl,Iu (ts:=yh l.2.2) (aA.of h2),by rw[yc]⟩
theorem Iv:∀ls:List (List Int),dm (ls.map jX)<=10
 |[]=>by rw[map_nil];simp[dm]
 | l::ls=>by
  have:=Iv ls;rw[map_cons,dm];have q:∀ts:List Int,dm (ts.map Dt.int)<=3:=λts=>by
   induction ts with
   |nil=>simp[dm]
   |cons t ts ih=>rw[map_cons,dm];simp[bO];lia
  have q2:bO (jX l)<=10:=by unfold jX;rw[bO];have:=q l;lia
  lia
theorem sy {α:Type}(F:α->Dt)(ls:List α):bq (.lst (ls.map F)) (.lst [])=decide (ls=[]):=by
 cases ls with
 |nil=>simp[bq,cY]
 |cons l ls=>simp[bq,cY]
theorem PL:∀ls:List (Bool×Int×O),dm (ls.map su)<=10
 |[]=>by rw[map_nil];simp[dm]
 |l::ls=>by
  have:=PL ls;rw[map_cons,dm];have q:bO (su l)<=10:=by unfold su jX yh;simp[bO,dm]
  lia
theorem ay.aO {Z:ar}{H:Hp}{a:Addr}{r:Role}{u:HO}(k:ay Z H)(h:H a=some u)(n:pL u):ay (aO Z a r) H:=λb r' e=>by
 by_cases z:b=a
 .subst z;exact⟨u,h,n⟩
 .rw[xk z]at e;exact k b r' e
def Un (H:Hp)(Z:ar)(a:Addr)(xs:List V):Prop:=H a=some (.lst xs)/\Z a=none
theorem Un.fr {P:Role->Prop}{Z Z':ar}{H H':Hp}{a:Addr}{xs:List V}(f:Fr P Z H Z' H')(h:Un H Z a xs):Un H' Z' a xs:=iJ f h.1 h.2
theorem PM {P:Role->Prop}{Z Z':ar}{H H':Hp}{To R:Addr}(f:Fr P Z H Z' H')(n0:¬P (9,.own 0))(n1:¬P (9,.own 1))(h:de To R H)(tr:wY Z To R):de To R H'/\wY Z' To R:=by obtain⟨row,c,t1,t2,t3⟩:=h;obtain⟨a1,a2⟩:=dH f t1 tr.1 n0;obtain⟨a3,a4⟩:=dH f t2 tr.2 n1;exact⟨⟨row,c,a1,a3,t3⟩,a2,a4⟩
theorem j9n {id:Nat}(h:id≠9)(p:Part):¬dS (id,p):=λz=>h (by rcases z with z|z<;>exact(Prod.mk.inj z).1)
theorem j5v {H:Hp}{x dx:Addr}{C:Addr}(nx:H x=none)(Bt:H dx=none)(ne:dx≠x){Z:ar}{r:Role}(kr:ay Z H):Fr (λ_=>False) Z H (aO Z x r) (upd (upd H dx (.own x)) x (.ins C dx []))/\ay (aO Z x r) (upd (upd H dx (.own x)) x (.ins C dx [])):=by
 have nx1:upd H dx (.own x) x=none:=by rw[jf ne.symm];exact nx
 exact⟨(Fr.same (jh Bt)).trans (Fr.cI nx1),(kr.same (jh Bt)).cI⟩
theorem qu.same {t:Ad}{H H':Hp}{Z:ar}{id:Nat}{W:WA}{w:Wd}(s:yi H H')(O:qu t H Z id W w):qu t H' Z id W w:=O.fr (P:=λ_=>False) (λ_ z=>z) (Fr.same s)
structure Pt where
 ns:List Int
 cs:List Int
 ls:List Int
 hs:List Int
 en:Int
structure Pt.Ok (p:Pt):Prop where
 l2:2<=p.ns.length
 l8:p.ns.length<=8
 c:∀k∈p.cs,0<=k/\k<(p.ns.length:Int)
 cl:p.cs.length<=1000
 ll:p.ls.length<=5
 h0:0<p.hs.length
 h1:p.hs.length<=16
 ct:p.cs.length<=2
 he:p.en<=((p.hs.length+p.ls.length:Nat):Int)
structure Wl (t:Ad)(H:Hp)(Z:ar)(W:WA)(Y:Wd)(T:Nat)(p:Pt):Prop where
 o:qu t H Z 0 W Y
 kr:ay Z H
 ly:H W.ly=some (.lst (p.ls.map V.int))/\Z W.ly=none
 g:∃L,Gn Y T (1000*T) L p.ls p.ns/\Sk Y L p.ls
 en:Y.en=p.en
 n:Y.n=p.ns.length
 c:Y.y3=p.cs
 h:Y.ks.map (·.1)=p.hs
 bR:W.bR=p.ns.sum
section
variable {t:Ad}{H H':Hp}{Z Z':ar}{W:WA}{Y Y':Wd}{T:Nat}{p:Pt}{P:Role->Prop}{To R:Addr}
theorem Wl.fr (f:Fr P Z H Z' H')(hP:∀q,¬P (0,q))(kr:ay Z' H')(w:Wl t H Z W Y T p):Wl t H' Z' W Y T p:=⟨w.o.fr hP f,kr,iJ f w.ly.1 w.ly.2,w.g,w.en,w.n,w.c,w.h,w.bR⟩
theorem Wl.wait (w:Wl t H Z W Y T p):Wl t H Z W Y (T+1) p:=⟨w.o,w.kr,w.ly,let⟨L,g,s⟩:=w.g;⟨L,g.mono (by lia) (by lia),s⟩,w.en,w.n,w.c,w.h,w.bR⟩
structure Sw (t:Ad)(H:Hp)(Z:ar)(W:WA)(Y:Wd)(T:Nat)(p:Pt)(To R:Addr):Prop where
 w:Wl t H Z W Y T p
 tn:de To R H
 tr:wY Z To R
theorem Sw.same (s:yi H H')(x:Sw t H Z W Y T p To R):Sw t H' Z W Y T p To R:=⟨x.w.fr (P:=λ_=>False) (Fr.same s) (λ_ z=>z) (x.w.kr.same s),x.tn.same s,x.tr⟩
theorem Sw.draw (x:Sw t H Z W Y T p To R)(hT:de To R H')(k:iG To R H H'):Sw t H' Z W Y T p To R/\Fr dS Z H Z H':=⟨⟨x.w.fr (Iq x.tr k) (j9n (by decide)) (PH x.w.kr hT k),hT,x.tr⟩,Iq x.tr k⟩
theorem Sw.wait (x:Sw t H Z W Y T p To R):Sw t H Z W Y (T+1) p To R:=⟨x.w.wait,x.tn,x.tr⟩
def sA:Role->Prop:=λr=>r.1=0\/dS r
theorem Sw.go (x:Sw t H Z W Y T p To R)(f:Fr P Z H Z' H')(hP:∀r,P r->r.1=0){T2:Nat}(w:Wl t H' Z' W Y' T2 p):Sw t H' Z' W Y' T2 p To R/\Fr sA Z H Z' H':=by obtain⟨a,b⟩:=PM f (λz=>by cases hP _ z) (λz=>by cases hP _ z) x.tn x.tr;exact⟨⟨w,a,b⟩,f.mono λr z=>.inl (hP r z)⟩
theorem pV (f:Fr dS Z H Z' H'):Fr sA Z H Z' H':=f.mono λ_ z=>.inr z
end
noncomputable def Iw (t:Ad)(H:Hp)(Z:ar)(W:WA)(Y:Wd)(T:Nat)(p:Pt)(To R:Addr)(Q:VK):Prop:=∀Z' H' Y' v,Sw t H' Z' W Y' (T+1) p To R->Fr sA Z H Z' H'->fX Y Y'->Q v H'
structure Ps (H:Hp)(Z:ar)(pa x:Addr)(ug few:Int)(fo ho be ro:Addr)(p:Pt):Prop where
 tp:H pa=some (.tup [.ref x,.int ug,.int few,.ref fo,.ref ho,.ref be,.ref ro])/\Z pa=none
 fo:Un H Z fo (p.ls.map V.int)
 ho:Un H Z ho (p.hs.map V.int)
 be:Un H Z be (p.ns.map V.int)
 ro:Un H Z ro (p.cs.map V.int)
 ce:ug-few=p.en
theorem Ps.fr {P:Role->Prop}{Z Z':ar}{H H':Hp}{pa x fo ho be ro:Addr}{ug few:Int}{p:Pt}(f:Fr P Z H Z' H')(h:Ps H Z pa x ug few fo ho be ro p):Ps H' Z' pa x ug few fo ho be ro p:=⟨iJ f h.tp.1 h.tp.2,h.fo.fr f,h.ho.fr f,h.be.fr f,h.ro.fr f,h.ce⟩
theorem Un.neT {t:Ad}{H:Hp}{Z:ar}{W:WA}{Y:Wd}{T:Nat}{p:Pt}{To R a:Addr}{xs:List V}(u:Un H Z a xs)(x:Sw t H Z W Y T p To R):a≠To/\a≠R:=⟨A0 u.2 x.tr.1,A0 u.2 x.tr.2⟩
noncomputable def j5c (K:W.Frag):Sp:=λvs H Q _=>∃(a:Addr)(ns:List Int),vs=[.ref a]/\ah K H a (ns.map V.int)/\∀T R H',H T=none->H R=none->yi H H'->de T R H'->Q (.ref T) H'
noncomputable def j52:Sp:=λvs H Q _=>∃(T R:Addr)(m:Int),vs=[.ref T,.int m]/\de T R H/\1<=m/\m<1073741824/\∀d H',0<=d->d<m->de T R H'->iG T R H H'->Q (.int d) H'
noncomputable def PN:Sp:=λvs H Q _=>∃(T R S:Addr)(xs:List V),vs=[.ref T,.ref S]/\de T R H/\H S=some (.lst xs)/\S≠T/\S≠R/\0<xs.length/\xs.length<=1000000/\∀(i:Nat)(x:V)(H':Hp),xs[i]?=some x->de T R H'->iG T R H H'->Q x H'
theorem jti (T:Txt K mg t):xl P w K mg base CX0 1 t.F0 t.F1 ["_law_script"] (j5c K):=by
 refine T.NK.bj (N:=["_law_script"]) λ_ A _ s H vs Q E hr h=>?_;obtain⟨a,ns,rfl,ha,k⟩:=h;refine⟨_,(@jg _ _ _ (j6 (@zh _ _ _ _ (@vd _ _ _ _ _ (yI (j3 (i4 hr.units) (pv 0) (@zh _ _ _ _ ji) (qi _)) (qT tm rfl T.nX boot_list (je (pv 0) ji)) (@zh _ _ _ _ (je jq ji))) jq rfl rfl)))),?_⟩;refine⟨_,rfl,cG,λp hp=>?_⟩;have s1:=jh (o:=.lst []) hp;refine⟨.lst (ns.map Dt.int),.lst (([]:List Int).map Dt.int),oU (s1.seq ha),oU (ah.of jc),tQ _,_,rfl,?_⟩;rw[Lr];refine bp (λh1=>?_) (λh1=>?_)
 .have ne:=nd h1;refine⟨_,rfl,a,_,rfl,.inl (s1.seq ha),λR hR=>?_⟩;refine⟨pK,λT' hT=>?_⟩;have s2:=s1.trans (jh (o:=.lst (ns.map V.int)) hR);have Iy:R≠T':=jj jc hT;refine k T' R _ (s2.free hT) (s1.free hR) (s2.trans (jh hT)) ⟨ns,0,jc,by rw[jf Iy,jc],?_⟩;cases ns with
  |nil=>exact absurd rfl ne
  |cons x r=>exact Nat.succ_pos _
 .refine⟨pJ,λR hR=>?_⟩;refine⟨pK,λT' hT=>?_⟩;have s2:=s1.trans (jh (o:=.lst [.int 0]) hR);have Iy:R≠T':=jj jc hT;exact k T' R _ (s2.free hT) (s1.free hR) (s2.trans (jh hT)) ⟨[0],0,jc,by rw[jf Iy,jc];rfl,Nat.one_pos⟩
theorem qf (T:Txt K mg t):xl P w K mg base CX0 1 t.F8 t.F9 ["_law_town_here","_law_many"] j52:=by
 refine T.qg.cL ue λ_ A _ s H vs Q E hr h=>?_;obtain⟨To,R,m,rfl,hT,m1,m2,k⟩:=h;have PQ:=hT.ne;obtain⟨row,c,h1,h2,h3⟩:=hT;refine⟨_,(@jd _ _ _ _ _ (j9 (i:=2) ue.nd rfl (Or.inl rfl) (cC uw (pv 0) jq (λ_ _=>rfl))) (@jd _ _ _ _ _ (lH (zt eU (cC uw (pv 0) jq (λ_ _=>rfl)) jq) (JY (pv 0) jq set_list)) (@jd _ _ _ _ _ (j9 (i:=3) ue.nd rfl (Or.inl rfl) (zt lK (cC uw (pv 0) jq (λ_ _=>rfl)) (jo jw rfl T.cO boot_len (je (pv 2) ji)))) (@jd _ _ _ _ _ (j9 (i:=4) ue.nd rfl (Or.inl rfl) (cC uw (pv 2) (pv 3) (λ_ _=>rfl))) (@jd _ _ _ _ _ (zk (j3 Kg (pv 4) jq (qi _)) (@jd _ _ _ _ _ (lH (zt CP (pv 4) (pv 1)) (JY (pv 2) (pv 3) set_list)) (@jg _ _ _ (j6 (zt lK (pv 4) (pv 1))))) qe) (@jd _ _ _ _ _ (j9 (i:=5) ue.nd rfl (Or.inl rfl) (zt lK (zt eU (pv 4) (zt yQ jq (cC uw (pv 0) jq (λ_ _=>rfl)))) jq)) (@jd _ _ _ _ _ (j9 (i:=5) ue.nd rfl (Or.inl rfl) (zt lK (zt RC (pv 5) jq) jq)) (@jg _ _ _ (j6 (zt lK (zt CP (zt lK (zt eU (zt yQ (zt CP (pv 5) jq) jq) (pv 5)) jq) jq) (pv 1))))))))))),?_⟩;refine⟨_,rfl,To,_,0,.ref R,rfl,rfl,ah.of h1,rfl,?_⟩;refine⟨_,rfl,To,_,1,.int c,rfl,rfl,ah.of h1,rfl,_,_,rfl,rfl,?_⟩;refine⟨_,rfl,To,_,1,1,rfl,rfl,h1,rfl,?_⟩;have g1:(upd H To (.lst ([V.ref R,V.int c].set 1 (V.int (c+1))))) To=some (.lst [.ref R,.int (c+1)]):=jc;have g2:(upd H To (.lst ([V.ref R,V.int c].set 1 (V.int (c+1))))) R=some (.lst (row.map V.int)):=by rw[jf PQ.symm];exact h2
 have kp:iG To R H (upd H To (.lst ([V.ref R,V.int c].set 1 (V.int (c+1))))):=λb o e n1 _=>by rw[jf n1];exact e
 generalize upd H To (.lst ([V.ref R,V.int c].set 1 (V.int (c+1))))=H1 at g1 g2 kp;have hl:(0:Int)<((row.map V.int).length:Int):=by rw[length_map];omega
 refine⟨_,rfl,To,_,1,.int (c+1),rfl,rfl,ah.of g1,rfl,_,rfl,R,_,rfl,.inl (ah.of g2),_,_,rfl,rfl,hl,?_⟩;rw[length_map]at hl⊢;have b0:0<=(c+1)%(row.length:Int):=Int.emod_nonneg _ (by omega);have b1:(c+1)%(row.length:Int)<(row.length:Int):=Int.emod_lt_of_pos _ hl;have b2:((c+1)%(row.length:Int)).toNat<row.length:=by omega
 refine⟨_,rfl,_,rfl,R,_,((c+1)%(row.length:Int)),_,rfl,rfl,ah.of g2,mi b0 (get_map b2),?_⟩;refine⟨_,rfl,_,_,rfl,rfl,_,rfl,?_⟩;refine bp (λh5=>?_) (λh5=>?_)
 .refine⟨_,rfl,_,rfl,_,_,rfl,rfl,⟨by omega,m2⟩,?_⟩;refine⟨_,rfl,_,rfl,R,_,((c+1)%(row.length:Int)),_,rfl,rfl,g2,vU b0 (by rw[length_map];exact b2),?_⟩;rw[CU];refine⟨_,rfl,_,rfl,_,_,rfl,rfl,(by show(0:Int)<m;omega),?_⟩;refine k _ _ (Int.emod_nonneg _ (by omega)) (Int.emod_lt_of_pos _ (by omega)) ⟨_,c+1,by rw[jf PQ];exact g1,jc,by rw[length_set];exact h3⟩ λb o e n1 n2=>?_;rw[jf n2];exact kp b o e n1 n2
 .have big:∀z:Int,(z%4294967291).natAbs<2^64:=λz=>by
   have u1:=Int.emod_nonneg z (show(4294967291:Int)≠0 by decide);have u2:=Int.emod_lt_of_pos z (show(0:Int)<4294967291 by decide);omega
  refine⟨_,rfl,_,rfl,To,_,1,.int (c+1),rfl,rfl,ah.of g1,rfl,_,_,rfl,rfl,.inl ⟨by decide,by decide⟩,_,_,rfl,rfl,_,_,rfl,rfl,(by show(0:Int)<4294967291;decide),?_⟩;refine⟨_,rfl,_,_,rfl,rfl,⟨by decide,by decide,big _⟩,_,_,rfl,rfl,(by show(0:Int)<4294967279;decide),?_⟩;refine⟨_,rfl,_,_,rfl,rfl,⟨by decide,by decide⟩,_,_,rfl,rfl,.inr ⟨by decide,by decide⟩,_,rfl,_,_,rfl,rfl,_,_,rfl,rfl,(by show(0:Int)<4294967231;decide),_,_,rfl,rfl,⟨by decide,by decide⟩,_,rfl,_,_,rfl,rfl,(by show(0:Int)<m;omega),?_⟩;exact k _ _ (Int.emod_nonneg _ (by omega)) (Int.emod_lt_of_pos _ (by omega)) ⟨row,c+1,g1,g2,h3⟩ kp
theorem zv (T:Txt K mg t):xl P w K mg base CX0 2 t.Ga t.Gb ["_law_town_here","_law_some_here"] PN:=by
 refine T.zo.bj (N:=["_law_town_here","_law_some_here"]) λ_ A _ s H vs Q E hr h=>?_;obtain⟨To,R,S,xs,rfl,hT,hS,n1,n2,l0,l1,k⟩:=h;refine⟨_,(@jg _ _ _ (j6 (cC uw (pv 1) (jn (qf T) hr.dn rfl T.qk T.qg.kp T.qm .nil ju (@vd _ _ _ _ _ (pv 0) (jo jw rfl T.cO boot_len (je (pv 1) ji)) rfl rfl)) (λ_ _=>rfl)))),?_⟩;refine⟨_,rfl,_,rfl,_,rfl,S,xs,rfl,.inl (ah.of hS),To,R,_,rfl,hT,by omega,by omega,λd H' d0 d1 sC kp=>?_⟩;have hd:d.toNat<xs.length:=by omega
 exact⟨S,xs,d,xs[d.toNat],rfl,rfl,ah.of (kp _ _ hS n1 n2),mi d0 (by simp[hd]),k d.toNat _ H' (by simp[hd]) sC kp⟩
noncomputable def j5f:Sp:=λvs H Q _=>∃To R n m,vs=[.ref To,.int n,.int m]/\de To R H/\0<=n/\n<=16/\∀r (ks:List Int) H',H r=none->de To R H'->iG To R H H'->H' r=some (.lst (ks.map V.int))->ks.Pairwise (·<·)->(∀k∈ks,0<=k/\k<n)->(ks.length:Int)<=(if 0<=m then m else 0)->Q (.ref r) H'
theorem PR (T:Txt K mg t):xl P w K mg base CX0 2 t.Gj t.Gk ["_law_town_here","_law_size","_law_most"] j5f:=by
 refine T.G7.cL Ez λ_ A _ s H vs Q E hr h=>?_;obtain⟨To,R,n,m,rfl,hT,n0,n6,k⟩:=h;refine⟨_,(@jd _ _ _ _ _ (@j9 _ _ 3 _ _ _ _ Ez.nd rfl (Or.inl rfl) (@zh _ _ _ _ ji) (by rfl) (by first|exact .inl rfl|exact .inr rfl)) (@jd _ _ _ _ _ (ij PassesOwn.never rfl (mX rfl T.nY (je (pv 1) ji)) (jr (i:=4) Ez.nd rfl (Or.inl rfl)) (@jg _ _ _ (zk (PW.pt (lE (j3 qQ (jo jw rfl T.cO boot_len (je (pv 3) ji)) (pv 2) (qi _)) (mS (j3 gD (jn (qf T) hr.dn rfl T.qk T.qg.kp T.qm .nil ju (@vd _ _ _ _ _ (pv 0) jq rfl rfl)) jq (qi _))))) (@jg _ _ _ (qb (dZ PySem.F.plainAttrs_list PySem.F.slot_list_append PySem.F.type_list_append yg (pv 3) (je (pv 4) ji)))) qe))) (@jg _ _ _ (j6 (pv 3))))),?_⟩;refine⟨cG,λr hr=>?_⟩;have fr:=hT.fresh hr;have s1:=jh (o:=.lst []) hr;refine⟨_,rfl,n,rfl,by omega,by omega,sS (lo:=0) (n:=n.toNat) (λi U H'=>∃(v:Option V)(ks:List Int),U=[some (.ref To),some (.int n),some (.int m),some (.ref r),v]/\de To R H'/\iG To R H H'/\H' r=some (.lst (ks.map V.int))/\ks.length<=i/\(ks.length:Int)<=(if 0<=m then m else 0)/\ks.Pairwise (·<·)/\∀z∈ks,0<=z/\z<(i:Int)) ⟨none,[],rfl,hT.same s1,λb o e _ _=>s1 _ _ e,jc,le_refl _,(by show(0:Int)<=_;split<;>omega),.nil,λz hz=>by cases hz⟩ ?_ ?_⟩
 .rintro i U H' hi ⟨v,ks,rfl,sC,kp,wZ,l,Bu,up,rg⟩
  have lm:(ks.map V.int).length=ks.length:=length_map ..;refine⟨_,rfl,r,_,rfl,.inl (ah.of wZ),_,rfl,_,_,rfl,rfl,_,rfl,?_⟩;have old:∃(v:Option V)(pU:List Int),[some (.ref To),some (.int n),some (.int m),some (.ref r),some (.int (0+(i:Int)))]=[some (.ref To),some (.int n),some (.int m),some (.ref r),v]/\True:=⟨_,[],rfl,trivial⟩;refine bp (λh1=>?_) (λh1=>?_)
  .refine⟨_,rfl,To,R,3,rfl,sC,by decide,by decide,λd H2 d0 d1 kY PU=>?_⟩;have mD:=PU _ _ wZ fr.1 fr.2;have PV:iG To R H H2:=λb o e x1 x2=>PU _ _ (kp b o e x1 x2) x1 x2;refine⟨rfl,_,rfl,bp (λh2=>?_) (λh2=>?_)⟩
   .refine⟨_,rfl,.inl ⟨rfl,_,ah.of mD⟩,_,rfl,r,_,_,rfl,rfl,mD,ze (by omega),?_⟩;refine⟨_,ks++[0+(i:Int)],rfl,?_,λb o e x1 x2=>?_,by rw[jc,map_append];rfl,?_,?_,?_,λz hz=>?_⟩
    .obtain⟨row,cc,t1,t2,t3⟩:=kY;exact⟨row,cc,by rw[jf (Ne.symm fr.1)];exact t1,by rw[jf (Ne.symm fr.2)];exact t2,t3⟩
    .rw[jf (jj e hr)];exact PV b o e x1 x2
    .rw[length_append];show ks.length+1<=i+1;omega
    .rw[length_append];have:(ks.length:Int)<m:=by
      have:=of_decide_eq_true h1;rw[lm]at this;exact this
     rw[if_pos (by omega)];show((ks.length+1:Nat):Int)<=m;omega
    .rw[List.pairwise_append];refine⟨up,List.pairwise_singleton _ _,λx hx y hy=>?_⟩;have:y=0+(i:Int):=by simpa using hy
     have:=rg x hx;omega
    .rcases mem_append.mp hz with y|y
     .have:=rg z y;omega
     .have:z=0+(i:Int):=by simpa using y
      omega
   .exact⟨_,ks,rfl,kY,PV,mD,by omega,Bu,up,λz hz=>by have:=rg z hz;omega⟩
  .exact ka ⟨_,ks,rfl,sC,kp,wZ,by omega,Bu,up,λz hz=>by have:=rg z hz;omega⟩
 .rintro U H' ⟨v,ks,rfl,sC,kp,wZ,l,Bu,up,rg⟩
  exact⟨_,rfl,k r ks H' hr sC kp wZ up (λz hz=>by have:=rg z hz;omega) Bu⟩
theorem j49 {C a0 a1 a2 a3 a4 a5 a6 a7 a8 a9 a10 a11 a12:Value}{b0 b1 b2 b3 b4 b5 b6 b7 b8 b9 eO PX oq:Bool}(h:kinds K C [a0,a1,a2,a3,a4,a5,a6,a7,a8,a9,a10,a11,a12]=[some b0,some b1,some b2,some b3,some b4,some b5,some b6,some b7,some b8,some b9,some eO,some PX,some oq]):W.kitOne K C a0=some b0/\W.kitOne K C a1=some b1/\W.kitOne K C a2=some b2/\W.kitOne K C a3=some b3/\W.kitOne K C a4=some b4/\W.kitOne K C a5=some b5/\W.kitOne K C a6=some b6/\W.kitOne K C a7=some b7/\
  W.kitOne K C a8=some b8/\W.kitOne K C a9=some b9/\W.kitOne K C a10=some eO/\W.kitOne K C a11=some PX/\W.kitOne K C a12=some oq:=by
 unfold kinds at h;simpa only[map_cons,map_nil,List.cons.injEq,and_true]using h
noncomputable def words:List V:=[.str "number",.str "order",.str "houses",.str "house",.str "purse",.str "letter",.str "now",.str "much",.str "paper",.str "cut",.str "text"]
noncomputable def jx4 (K:W.Frag)(t:Ad):Sp:=λvs H Q _=>∃(ea C:Addr)(b0 b1 b2 b3 b4 b5 b6 b7 b8 b9 eO:Bool)(x:V),vs=[.ref ea]/\H ea=some (nG ea (.ref C))/\iz K C/\kinds K (.ref C) (asked t)=[some b0,some b1,some b2,some b3,some b4,some b5,some b6,some b7,some b8,some b9,some eO,some true,some true]/\[b0,b1,b2,b3,b4,b5,b6,b7,b8,b9,eO].count true=1/\
 words[[b0,b1,b2,b3,b4,b5,b6,b7,b8,b9,eO].idxOf true]?=some x/\∀H',yi H H'->Q x H'
set_option maxHeartbeats 0 in
theorem PY (T:Txt K mg t) : xl P w K mg base CX0 1 t.Gh t.Gi ["_law_caught"] (jx4 K t):=by
 refine T.G0.cL ya λ_ A _ s H vs Q E hr h=>?_
 obtain ⟨ea,C,b0,b1,b2,b3,b4,b5,b6,b7,b8,b9,eO,x,rfl,he,hX,hk,hc,hw,k⟩:=h
 obtain ⟨k0,k1,k2,k3,k4,k5,k6,k7,k8,k9,k10,k11,k12⟩:=j49 hk
 refine ⟨_,(@jd _ _ _ _ _ (@j9 _ _ 1 _ _ _ _ ya.nd rfl (Or.inl rfl) (@zh _ _ _ _ (@cq _ _ _ _ _ _ _ (jo zy rfl T.jx boot_isinstance (@vd _ _ _ _ _ (pv 0) (zg (v:=.ref t.GK) rfl T.jpp rfl) rfl rfl)) (jo zy rfl T.jx boot_isinstance (@vd _ _ _ _ _ (pv 0) (zg (v:=.ref t.GL) rfl T.jrc rfl) rfl rfl)) (jo zy rfl T.jx boot_isinstance (@vd _ _ _ _ _ (pv 0) (zg (v:=.ref t.GN) rfl T.jpl rfl) rfl rfl)) rfl rfl rfl)) (by rfl) (by first | exact .inl rfl | exact .inr rfl))
  (@jd _ _ _ _ _ (j9 (i:=1) ya.nd rfl (Or.inl rfl) (zt C7 (pv 1) (@zh _ _ _ _ (@cq _ _ _ _ _ _ _ (jo zy rfl T.jx boot_isinstance (@vd _ _ _ _ _ (pv 0) (zg (v:=.ref t.GI) rfl T.jug rfl) rfl rfl)) (jo zy rfl T.jx boot_isinstance (@vd _ _ _ _ _ (pv 0) (zg (v:=.ref t.xf) rfl T.N5 rfl) rfl rfl)) (jo zy rfl T.jx boot_isinstance (@vd _ _ _ _ _ (pv 0) (zg (v:=.ref t.GJ) rfl T.jri rfl) rfl rfl)) rfl rfl rfl))))
  (@jd _ _ _ _ _ (j9 (i:=1) ya.nd rfl (Or.inl rfl) (zt C7 (pv 1) (@zh _ _ _ _ (@cq _ _ _ _ _ _ _ (jo zy rfl T.jx boot_isinstance (@vd _ _ _ _ _ (pv 0) (zg (v:=.ref t.jK) rfl T.N7 rfl) rfl rfl)) (jo zy rfl T.jx boot_isinstance (@vd _ _ _ _ _ (pv 0) (zg (v:=.ref t.vm) rfl T.N6 rfl) rfl rfl)) (jo zy rfl T.jx boot_isinstance (@vd _ _ _ _ _ (pv 0) (zg (v:=.ref t.GH) rfl T.jru rfl) rfl rfl)) rfl rfl rfl))))
  (@jd _ _ _ _ _ (j9 (i:=1) ya.nd rfl (Or.inl rfl) (zt C7 (pv 1) (@zh _ _ _ _ (@vd _ _ _ _ _ (jo zy rfl T.jx boot_isinstance (@vd _ _ _ _ _ (pv 0) (zg (v:=.ref t.GF) rfl T.jw5 rfl) rfl rfl)) (jo zy rfl T.jx boot_isinstance (@vd _ _ _ _ _ (pv 0) (zg (v:=.ref t.GG) rfl T.jtp rfl) rfl rfl)) rfl rfl))))
  (@jd _ _ _ _ _ (zk (PW.pt (gC (j3 CQ (dZ PySem.F.plainAttrs_list PySem.F.slot_list_count PySem.F.type_list_count UR (pv 1) (je gB ji)) jq (qi _)) (gC (xu (zl (jo zy rfl T.jx boot_isinstance (@vd _ _ _ _ _ (pv 0) (zg (v:=.ref t.vp) rfl T.Hf rfl) rfl rfl)))) (gS (xu (zl (jo zy rfl T.jx boot_isinstance (@vd _ _ _ _ _ (pv 0) (kB (v:=.ty "ValueError") rfl T.jns Yh rfl) rfl rfl)))))))) (@jg _ _ _ (j6 w9)) qe)
  (@jd _ _ _ _ _ (@j9 _ _ 2 _ _ _ _ ya.nd rfl (Or.inl rfl) (@zh _ _ _ _ (@XY _ _ _ _ _ _ _ _ _ _ _ _ _ _ _ _ _ _ _ _ _ _ _ w9 w9 w9 w9 w9 w9 w9 w9 w9 w9 w9 rfl rfl rfl rfl rfl rfl rfl rfl rfl rfl rfl)) (by rfl) (by first | exact .inl rfl | exact .inr rfl))
  (@jg _ _ _ (j6 (cC uw (pv 2) (dZ PySem.F.plainAttrs_list PySem.F.slot_list_index PySem.F.type_list_index US (pv 1) (je gB ji)) (λ_ _=>rfl)))))))))),?_⟩
 refine ⟨_,rfl,ea,C,_,_,b0,rfl,he,hX,rfl,k0,_,rfl,ea,C,_,_,b1,rfl,he,hX,rfl,k1,_,rfl,ea,C,_,_,b2,rfl,he,hX,rfl,k2,nW,λp1 h1=>?_⟩
 have s1:=jh (o:=.lst [.bl b0,.bl b1,.bl b2]) h1
 have Iz:=s1 _ _ he
 refine ⟨_,rfl,_,rfl,ea,C,_,_,b3,rfl,Iz,hX,rfl,k3,_,rfl,ea,C,_,_,b4,rfl,Iz,hX,rfl,k4,_,rfl,ea,C,_,_,b5,rfl,Iz,hX,rfl,k5,nW,λp2 h2=>?_⟩
 refine ⟨p1,p2,[.bl b0,.bl b1,.bl b2],[.bl b3,.bl b4,.bl b5],rfl,rfl,(by rw [jf (jj jc h2)]; exact jc),jc,XT,λp3 h3=>?_⟩
 have s3:=(s1.trans (jh (o:=.lst [.bl b3,.bl b4,.bl b5]) h2)).trans (jh (o:=.lst ([.bl b0,.bl b1,.bl b2] ++ [.bl b3,.bl b4,.bl b5])) h3)
 have g3:(upd (upd (upd H p1 (.lst [.bl b0,.bl b1,.bl b2])) p2 (.lst [.bl b3,.bl b4,.bl b5])) p3 (.lst ([.bl b0,.bl b1,.bl b2] ++ [.bl b3,.bl b4,.bl b5]))) p3 = some (.lst [.bl b0,.bl b1,.bl b2,.bl b3,.bl b4,.bl b5]):=jc
 generalize upd (upd (upd H p1 (.lst [.bl b0,.bl b1,.bl b2])) p2 (.lst [.bl b3,.bl b4,.bl b5])) p3 (.lst ([.bl b0,.bl b1,.bl b2] ++ [.bl b3,.bl b4,.bl b5])) = H3 at s3 g3
 have IA:=s3 _ _ he
 refine ⟨_,rfl,_,rfl,ea,C,_,_,b6,rfl,IA,hX,rfl,k6,_,rfl,ea,C,_,_,b7,rfl,IA,hX,rfl,k7,_,rfl,ea,C,_,_,b8,rfl,IA,hX,rfl,k8,nW,λp4 h4=>?_⟩
 refine ⟨p3,p4,[.bl b0,.bl b1,.bl b2,.bl b3,.bl b4,.bl b5],[.bl b6,.bl b7,.bl b8],rfl,rfl,(by rw [jf (jj g3 h4)]; exact g3),jc,XW,λp5 h5=>?_⟩
 have s5:=(s3.trans (jh (o:=.lst [.bl b6,.bl b7,.bl b8]) h4)).trans (jh (o:=.lst ([.bl b0,.bl b1,.bl b2,.bl b3,.bl b4,.bl b5] ++ [.bl b6,.bl b7,.bl b8])) h5)
 have g5:(upd (upd H3 p4 (.lst [.bl b6,.bl b7,.bl b8])) p5 (.lst ([.bl b0,.bl b1,.bl b2,.bl b3,.bl b4,.bl b5] ++ [.bl b6,.bl b7,.bl b8]))) p5 = some (.lst [.bl b0,.bl b1,.bl b2,.bl b3,.bl b4,.bl b5,.bl b6,.bl b7,.bl b8]):=jc
 generalize upd (upd H3 p4 (.lst [.bl b6,.bl b7,.bl b8])) p5 (.lst ([.bl b0,.bl b1,.bl b2,.bl b3,.bl b4,.bl b5] ++ [.bl b6,.bl b7,.bl b8])) = H5 at s5 g5
 have uT:=s5 _ _ he
 refine ⟨_,rfl,_,rfl,ea,C,_,_,b9,rfl,uT,hX,rfl,k9,_,rfl,ea,C,_,_,eO,rfl,uT,hX,rfl,k10,pK,λp6 h6=>?_⟩
 refine ⟨p5,p6,[.bl b0,.bl b1,.bl b2,.bl b3,.bl b4,.bl b5,.bl b6,.bl b7,.bl b8],[.bl b9,.bl eO],rfl,rfl,(by rw [jf (jj g5 h6)]; exact g5),jc,Na,λp7 h7=>?_⟩
 have s7:=(s5.trans (jh (o:=.lst [.bl b9,.bl eO]) h6)).trans (jh (o:=.lst ([.bl b0,.bl b1,.bl b2,.bl b3,.bl b4,.bl b5,.bl b6,.bl b7,.bl b8] ++ [.bl b9,.bl eO])) h7)
 have g7:(upd (upd H5 p6 (.lst [.bl b9,.bl eO])) p7 (.lst ([.bl b0,.bl b1,.bl b2,.bl b3,.bl b4,.bl b5,.bl b6,.bl b7,.bl b8] ++ [.bl b9,.bl eO]))) p7 = some (.lst ([b0,b1,b2,b3,b4,b5,b6,b7,b8,b9,eO].map V.bl)):=jc
 generalize upd (upd H5 p6 (.lst [.bl b9,.bl eO])) p7 (.lst ([.bl b0,.bl b1,.bl b2,.bl b3,.bl b4,.bl b5,.bl b6,.bl b7,.bl b8] ++ [.bl b9,.bl eO])) = H7 at s7 g7
 have PZ:=s7 _ _ he
 have gX:true ∈ [b0,b1,b2,b3,b4,b5,b6,b7,b8,b9,eO]:=List.count_pos_iff.mp (by rw [hc]; decide)
 generalize [b0,b1,b2,b3,b4,b5,b6,b7,b8,b9,eO] = bs at hc hw g7 gX
 refine ⟨_,rfl,.inl ⟨rfl,_,ah.of g7⟩,p7,bs,true,rfl,rfl,ah.of g7,rfl,_,rfl,?_⟩
 refine bp (λz=>?_) (λ_=>?_)
 .exfalso
  rw [hc] at z
  exact absurd z (by decide)
 refine ⟨_,rfl,ea,C,_,_,true,rfl,PZ,hX,rfl,k11,_,rfl,ka ?_⟩
 refine ⟨_,rfl,ea,C,_,_,true,rfl,PZ,hX,rfl,k12,_,rfl,ka ?_⟩
 refine ⟨Na,λp8 h8=>?_⟩
 have s8:=s7.trans (jh (o:=.lst words) h8)
 have g8:=(jh (o:=.lst words) h8) _ _ g7
 refine ⟨_,rfl,_,rfl,.inl ⟨rfl,_,ah.of g8⟩,p7,bs,true,rfl,rfl,ah.of g8,gX,?_⟩
 exact ⟨p8,words,_,x,rfl,rfl,ah.of jc,mi (by omega) (by rw [Int.toNat_natCast]; exact hw),k _ s8⟩
theorem jy2 (ks:List (Int×Kp))(h:Int)(B:Kp):(cv ks h B).map (·.1)=ks.map (·.1):=by
 unfold cv;rw[map_map];refine List.map_congr_left λc _=>?_;show(if c.1=h then(h,B)else c).1=c.1;split
 .rename_i z;exact z.symm
 .rfl
structure Wd.IB (Y Y':Wd):Prop where
 n:Y'.n=Y.n
 c:Y'.y3=Y.y3
 h:Y'.ks.map (·.1)=Y.ks.map (·.1)
 e:Y'.en=Y.en
theorem Wd.kX.eR {Y Y':Wd}(l:Y.kX Y'):Y.IB Y':=⟨l.n,l.c,by rw[l.k],l.e⟩
theorem j3h (Y:Wd)(i:Nat)(l:Bool×Int×O)(B:Kp):Y.IB (Y.jQ i l B):=by have k:=yx l.2.1 (B.take l.1 l.2.2).2 {Y with way:=Y.way.eraseIdx i,ks:=cv Y.ks l.2.1 (B.take l.1 l.2.2).1};refine⟨k.n,k.c,?_,k.e⟩;show(Wd.zb _ _ _).ks.map _=_;rw[k.k];exact jy2 _ _ _
section
variable {t:Ad}{H H':Hp}{Z Z':ar}{W:WA}{Y Y':Wd}{T:Nat}{p:Pt}{P:Role->Prop}{To R:Addr}{L:List O}
theorem Wl.next (w:Wl t H Z W Y T p)(f:Fr P Z H Z' H')(O':qu t H' Z' 0 W Y')(kr:ay Z' H'){T2:Nat}(g:Gn Y' T2 (1000*T2) L p.ls p.ns)(s:Sk Y' L p.ls)(e:Y.IB Y'):Wl t H' Z' W Y' T2 p:=⟨O',kr,iJ f w.ly.1 w.ly.2,⟨L,g,s⟩,e.e.trans w.en,e.n.trans w.n,e.c.trans w.c,e.h.trans w.h,w.bR⟩
end
noncomputable def j0b (t:Ad):Sp:=λvs H Q _=>∃Z W Y T p To R,vs=[.ref To,.ref W.x]/\Sw t H Z W Y T p To R/\p.ls.length<=5/\T<=60/\Iw t H Z W Y T p To R Q
theorem jqz (T:Txt K mg t):xl P w K mg base CX0 9 t.Gs t.Gu ["_law_town_here","_law_world_here"] (j0b t):=by
 refine T.NU.cL Nj λ_ A _ s H vs Q E hr h=>?_;obtain⟨Z,W,Y,T',p,To,R,rfl,S,l5,hT,k⟩:=h;refine⟨_,(@jd _ _ _ _ _ (j9 (i:=2) Nj.nd rfl (Or.inl rfl) (jo jw rfl T.cO boot_len (je (gu (pv 1) T.jl T.gy (HL T) hr.dn T.GU .nil ju) ji))) (@jg _ _ _ (j6 (yI (j3 sT (pv 2) jq (qi _)) (qj (pv 1) T.jl T.ZK (jsj T) hr.dn T.ZL .nil ju (je (jn (qf T) hr.dn rfl T.qk T.qg.kp T.qm .nil ju (@vd _ _ _ _ _ (pv 0) (pv 2) rfl rfl)) ji)) iR)))),?_⟩;obtain⟨L,g,sk⟩:=S.w.g;have wl:=g.wl;refine⟨_,rfl,W.x,W.dx,_,rfl,S.w.o.ob.1,xo,Z,0,W,Y,rfl,S.w.o,by omega,λr xs nr px=>?_⟩;have lx:xs.length=Y.way.length:=Paired.length px;have s1:=jh (o:=.lst xs) nr;refine⟨r,xs,rfl,.inl (ah.of jc),?_⟩;have S1:=S.same s1;have f1:Fr sA Z H Z (upd H r (.lst xs)):=Fr.same s1;generalize upd H r (.lst xs)=H1 at S1 f1;refine⟨_,rfl,_,_,rfl,rfl,_,rfl,bp (λz=>?_) (λz=>k Z _ Y _ S1.wait f1 (fX.refl _))⟩;have pw:0<Y.way.length:=by
  have:=of_decide_eq_true z;omega
 refine⟨_,rfl,W.x,W.dx,_,rfl,S1.w.o.ob.1,xo,_,rfl,_,rfl,To,R,(xs.length:Int),rfl,S1.tn,by omega,by omega,λd H2 d0 d1 kY k2=>?_⟩;obtain⟨S2,f2⟩:=S1.draw kY k2;obtain⟨l,el⟩:∃l,Y.way[d.toNat]?=some l:=⟨_,getElem?_eq_getElem (by omega)⟩;obtain⟨lL,lh,lc⟩:=g.g.y l (mem_of_getElem? el);obtain⟨B,ek,km⟩:=wU lh;have kk:dJ L T' Y.n B:=(g.ks _ km).1;have ll:=(kk.take l.1 lL (g.lo _ lL)).2.2;have e1:=kk.sz.hd;have e2:=kk.sz.uc;have e3:=kk.sz.dw;have z0:=g.l;have z1:=g.ok.k1;have z2:=le_trans (show p.ls.length<=5 from l5) (show 5<=900 by decide);refine⟨Z,0,W,Y,d.toNat,l,B,_,_,_,by rw[Int.toNat_of_nonneg d0];rfl,S2.w.o,S2.w.kr,el,ek,g.ok.nd,kk.ok,g.ok.n8,g.lo _ lL,⟨by omega,by omega,by omega⟩,g.sz,by omega,by omega,by omega,λZ' H' x O' f' mG ux=>?_⟩;have g2:=(g.jQ el ek).mono (T':=T'+1) (M':=1000*(T'+1)) (le_refl _) (by omega);obtain⟨S3,f3⟩:=S2.go f' (λ_ z=>z) (S2.w.next f' O' mG g2 (sk.jQ g.ok.nd km kk.u lL).1 (j3h Y d.toNat l B));exact k Z' H' _ _ S3 ((f1.trans (pV f2)).trans f3) (sk.jQ g.ok.nd km kk.u lL).2
noncomputable def j5d (t:Ad):Sp:=λvs H Q _=>∃Z W Y T p To R,Sw t H Z W Y T p To R/\T<=60/\Iw t H Z W Y T p To R Q/\((∃pu g m,vs=[.str "ask",.ref W.x,.int pu,.int g,.int m]/\(0<=pu/\pu<(Y.n:Int))/\(0<=g/\g<(Y.n:Int))/\g≠pu/\(1<=m/\m<=1000))\/(∃h q l,vs=[.str "lie",.ref W.x,.int h,.ref q,.int 0]/\h∈p.ls/\p.ls.length<=5/\zu H Z (.ref q) l.2.2/\l∈Y.way))
set_option maxHeartbeats 0 in
theorem P0 (T:Txt K mg t) : xl P w K mg base CX0 8 t.Gq t.Gr ["_law_kind","_law_world_here","_law_one","_law_two","_law_three"] (j5d t):=by
 refine T.G9.ok qr (λvs H Q E h=>?_) (λaJ A outer s H vs Q E hr h=>?_)
 .obtain ⟨Z,W,Y,T',p,To,R,_,_,_,⟨pu,g,m,rfl,_⟩ | ⟨h,q,l,rfl,_⟩⟩:=h
  .rfl
  .rfl
 .obtain ⟨Z,W,Y,T',p,To,R,S,hT,k,hc⟩:=h
  obtain ⟨L,gn,sk⟩:=S.w.g
  have wK:=gn.wl
  have O:=S.w.o
  have kr:=S.w.kr
  have old : ∀ {H' v},yi H H' -> Q v H':=λsm=>k Z _ Y _ (S.same sm).wait (Fr.same sm) (fX.refl _)
  rcases hc with ⟨pu,g,m,rfl,hp,hg,ng,hm⟩ | ⟨h,q,l,rfl,hl,l5,uq,lw⟩
  .refine ⟨_,(@jd _ _ _ _ _ (j9 (i:=5) qr.nd rfl (Or.inl rfl) iR)
   (@jd _ _ _ _ _ (j9 (i:=6) qr.nd rfl (Or.inl rfl) iR)
   (@jd _ _ _ _ _ (MN (i:=7) rfl rfl rfl rfl T.Hf T.N8 qr.nd rfl rfl (λ_ _=>(@jg _ _ _ (zk (j3 gD (pv 0) w9 (qi _)) (@jg _ _ _ (j9 (i:=5) qr.nd rfl (Or.inl rfl) (MM (pv 1) T.jl T.ND (OQ T) hr.dn T.NF .nil (@cq _ _ _ _ _ _ _ (pv 2) (pv 3) (pv 4) rfl rfl rfl)))) (@jg _ _ _ (zk (j3 gD (pv 0) w9 (qi _)) qw (@jg _ _ _ (zk (j3 gD (pv 0) w9 (qi _)) (@jg _ _ _ (j9 (i:=5) qr.nd rfl (Or.inl rfl) (qj (pv 1) T.jl T.GX (Ih T) hr.dn T.GY .nil ju (@vd _ _ _ _ _ (pv 2) (pv 3) rfl rfl)))) qw))))))) (λ_=>(@jg _ _ _ (j9 (i:=6) qr.nd rfl (Or.inl rfl) (pv 7)))))
   (@jg _ _ _ (j6 (yI (j3 Kh (pv 6) iR (qi _)) (pv 5) (jn (PY T) hr.dn rfl T.NN T.G0.kp T.NO .nil ju (je (pv 6) ji)))))))),?_⟩
   obtain ⟨row,eD⟩:=gn.row hp.1 hp.2
   have HR:=gn.al row (mem_of_getElem? eD)
   refine ⟨λU' cls dd H'=>U' = [some (.str "ask"),some (.ref W.x),some (.int pu),some (.int g),some (.int m),some .aq,some .aq,none] /\ yi H H' /\ (cls = .ref t.jK \/ cls = .ref t.vm \/ cls = .ref t.xf),?_,?_⟩
   .refine ⟨_,rfl,rfl,_,rfl,bT ?_⟩
    refine ⟨_,rfl,W.x,W.dx,_,rfl,O.ob.1,xo,_,rfl,_,rfl,_,rfl,Z,0,W,Y,pu,g,m,row,rfl,O,kr,gn.ok,hp,hg,ng,hm,eD,by omega,by omega,λ_ d H' s'=>⟨rfl,s',.inr (.inr rfl)⟩,λo eo ec H' s'=>⟨rfl,s',.inl rfl⟩,λhcar M' eM'=>⟨λlt H' s'=>⟨rfl,s',.inr (.inl rfl)⟩,λle nc H' q O' f' mG uq=>?_⟩⟩
    refine ⟨_,rfl,rfl,_,rfl,bT ⟨_,rfl,?_⟩⟩
    have g2:=(gn.ask (by omega) hp hg ng hm eD).mono (T':=T' + 1) (M':=1000 * (T' + 1)) (le_refl _) (by omega)
    obtain ⟨S2,f2⟩:=S.go f' (λ_ z=>z) (S.w.next f' O' mG g2 (sk.ask eD nc) ⟨rfl,rfl,rfl,rfl⟩)
    exact k Z H' _ _ S2 f2 (.of rfl rfl)
   .rintro U' cls dd H' ea ⟨rfl,sm,hw⟩ nU
    have sx : ∀ {u:HO},yi H (upd H' ea u):=λ{u}=>sm.trans (jh nU)
    rcases hw with rfl | rfl | rfl
    .refine ⟨t.jK,rfl,T.jcn,?_⟩
     refine ⟨_,rfl,jc,?_⟩
     rw [Cw]
     refine ⟨_,rfl,rfl,_,rfl,ka ?_⟩
     exact ⟨_,rfl,ea,t.jK,false,false,false,false,false,false,true,false,false,false,false,.str "now",rfl,jc,T.jt2,T.jtq,by decide,rfl,λdR bL=>old (sx.trans bL)⟩
    .refine ⟨t.vm,rfl,T.jbr,?_⟩
     refine ⟨_,rfl,jc,?_⟩
     rw [Cw]
     refine ⟨_,rfl,rfl,_,rfl,ka ?_⟩
     exact ⟨_,rfl,ea,t.vm,false,false,false,false,false,false,false,true,false,false,false,.str "much",rfl,jc,T.jq9,T.jrs,by decide,rfl,λdR bL=>old (sx.trans bL)⟩
    .refine ⟨t.xf,rfl,T.jbi,?_⟩
     refine ⟨_,rfl,jc,?_⟩
     rw [Cw]
     refine ⟨_,rfl,rfl,_,rfl,ka ?_⟩
     exact ⟨_,rfl,ea,t.xf,false,false,false,false,true,false,false,false,false,false,false,.str "purse",rfl,jc,T.jrh,T.jrk,by decide,rfl,λdR bL=>old (sx.trans bL)⟩
  .refine ⟨_,(@jd _ _ _ _ _ (j9 (i:=5) qr.nd rfl (Or.inl rfl) iR)
   (@jd _ _ _ _ _ (j9 (i:=6) qr.nd rfl (Or.inl rfl) iR)
   (@jd _ _ _ _ _ (MN (i:=7) rfl rfl rfl rfl T.Hf T.N8 qr.nd rfl rfl (λ_ _=>(@jg _ _ _ (zk (j3 gD (pv 0) w9 (qi _)) (@jg _ _ _ (j9 (i:=5) qr.nd rfl (Or.inl rfl) (MM (pv 1) T.jl T.ND (OQ T) hr.dn T.NF .nil (@cq _ _ _ _ _ _ _ (pv 2) (pv 3) (pv 4) rfl rfl rfl)))) (@jg _ _ _ (zk (j3 gD (pv 0) w9 (qi _)) qw (@jg _ _ _ (zk (j3 gD (pv 0) w9 (qi _)) (@jg _ _ _ (j9 (i:=5) qr.nd rfl (Or.inl rfl) (qj (pv 1) T.jl T.GX (Ih T) hr.dn T.GY .nil ju (@vd _ _ _ _ _ (pv 2) (pv 3) rfl rfl)))) qw))))))) (λ_=>(@jg _ _ _ (j9 (i:=6) qr.nd rfl (Or.inl rfl) (pv 7)))))
   (@jg _ _ _ (j6 (yI (j3 Kh (pv 6) iR (qi _)) (pv 5) (jn (PY T) hr.dn rfl T.NN T.G0.kp T.NO .nil ju (je (pv 6) ji)))))))),?_⟩
   refine ⟨λU' cls dd H'=>False,?_,λU' cls dd H' ea z=>z.elim⟩
   obtain ⟨lL,lh,lc⟩:=gn.g.y l lw
   have z:=gn.sz
   have z1:=gn.l
   have z2:=gn.ok.k1
   refine ⟨_,rfl,rfl,_,rfl,ka ?_⟩
   refine ⟨_,rfl,rfl,_,rfl,ka ?_⟩
   refine ⟨_,rfl,rfl,_,rfl,bT ?_⟩
   refine ⟨_,rfl,W.x,W.dx,_,rfl,O.ob.1,xo,_,rfl,_,rfl,Z,0,W,Y,h,q,l.2.2,p.ls,_,_,_,rfl,O,kr,S.w.ly.1,hl,uq,gn.lo _ lL,gn.mw _ lL,z,by omega,by omega,by omega,λZ' H' O' f' mG=>?_⟩
   refine ⟨_,rfl,rfl,_,rfl,bT ⟨_,rfl,?_⟩⟩
   have g2:=(gn.zb (h:=h) (mem_append_right _ hl) (os:=[l.2.2]) (λo ho=>by rw [mem_singleton.mp ho]; exact lL)).mono (T':=T' + 1) (M':=1000 * (T' + 1)) (by omega) (by show 1000 * T' + 16 * 1 <= _; omega)
   obtain ⟨S2,f2⟩:=S.go f' (λr hr=>by rcases hr with hr | hr | hr <;> rw [hr]) (S.w.next f' O' mG g2 (sk.lie hl _) (yx h [l.2.2] Y).eR)
   exact k Z' H' _ _ S2 f2 (.of (yx h [l.2.2] Y).e (yx h [l.2.2] Y).k)
theorem P2 {p n d:Int}(h0:0<=p)(h1:p<n)(d0:0<=d)(d1:d<n-1):0<=(p+1+d)%n/\(p+1+d)%n<n/\(p+1+d)%n≠p:=by
 refine⟨Int.emod_nonneg _ (by lia),Int.emod_lt_of_pos _ (by lia),λz=>?_⟩;have e:=Int.mul_ediv_add_emod (p+1+d) n;rw[z]at e;generalize (p+1+d) / n=q at e;by_cases y:q<=0
 .have:=Int.mul_le_mul_of_nonneg_left y (show 0<=n by lia);lia
 .have:=Int.mul_le_mul_of_nonneg_left (show 1<=q by lia) (show 0<=n by lia);lia
noncomputable def j2t (t:Ad):Sp:=λvs H Q _=>∃Z W Y T p To R pa ug few fo ho be ro pu,vs=[.ref To,.ref pa,.int pu]/\Sw t H Z W Y T p To R/\Ps H Z pa W.x ug few fo ho be ro p/\p.Ok/\0<=pu/\pu<(p.ns.length:Int)/\∀H' q o,Sw t H' Z W Y T p To R->Fr dS Z H Z H'->zu H' Z (.ref q) o->yy p.ns.length o=true->o.p=pu->o.n<=2->Q (.ref q) H'
theorem jr3 (T:Txt K mg t):xl P w K mg base CX0 3 t.Gw t.Gx ["_law_town_here","_law_parts","_law_purse"] (j2t t):=by
 refine T.NV.cL EA λ_ A _ s H vs Q E hr h=>?_;obtain⟨Z,W,Y,T',p,To,R,pa,ug,few,fo,ho,be,ro,pu,rfl,S,Bq,ok,p0,p1,k⟩:=h;refine⟨_,(@jd _ _ _ _ _ (j9 (i:=3) EA.nd rfl (Or.inl rfl) (jo jw rfl T.cO boot_len (je (cC kJ (pv 1) jq (λ_ _=>rfl)) ji))) (@jd _ _ _ _ _ (j9 (i:=4) EA.nd rfl (Or.inl rfl) (zt lK (zt eU (zt eU (pv 2) jq) (jn (qf T) hr.dn rfl T.qk T.qg.kp T.qm .nil ju (@vd _ _ _ _ _ (pv 0) (zt iT (pv 3) jq) rfl rfl))) (pv 3))) (@jg _ _ _ (j6 (@kH _ _ _ _ _ (@Nb _ _ _ _ _ _ _ _ _ (pv 2) (jn (qf T) hr.dn rfl T.qk T.qg.kp T.qm .nil ju (@vd _ _ _ _ _ (pv 0) jq rfl rfl)) (pv 4) (zt eU jq (jn (zv T) hr.dn rfl T.xh T.zo.kp T.xb .nil ju (@vd _ _ _ _ _ (pv 0) (@zh _ _ _ _ (@cq _ _ _ _ _ _ _ jq jq (jn (qf T) hr.dn rfl T.qk T.qg.kp T.qm .nil ju (@vd _ _ _ _ _ (pv 0) jq rfl rfl)) rfl rfl rfl)) rfl rfl))) rfl rfl rfl rfl)))))),?_⟩;have l2:=ok.l2;have l8:=ok.l8;refine⟨_,rfl,pa,_,5,.ref be,rfl,rfl,aA.of Bq.tp.1,rfl,be,_,rfl,.inl (ah.of Bq.be.1),?_⟩;rw[length_map];refine⟨_,rfl,_,_,rfl,rfl,_,rfl,_,rfl,_,_,rfl,rfl,To,R,(p.ns.length:Int)-1,rfl,S.tn,by omega,by omega,λd H1 d0 d1 pW k1=>?_⟩;obtain⟨S1,f1⟩:=S.draw pW k1;obtain⟨g0,g1,g2⟩:=P2 p0 p1 d0 d1;refine⟨_,_,rfl,rfl,_,rfl,_,_,rfl,rfl,(by show(0:Int)<(p.ns.length:Int);omega),?_⟩;refine⟨_,rfl,_,rfl,To,R,3,rfl,S1.tn,by decide,by decide,λn H2 n0 n1 kY k2=>?_⟩;obtain⟨S2,f2⟩:=S1.draw kY k2;refine⟨_,rfl,_,rfl,_,rfl,To,R,12,rfl,S2.tn,by decide,by decide,λm H3 m0 m1 pX k3=>?_⟩;obtain⟨S3,f3⟩:=S2.draw pX k3;refine⟨nW,λl nl=>?_⟩;have s3:=jh (o:=.lst [.int 0,.int 4,.int m]) nl;have P4:=S3.same s3;obtain⟨n1',n2'⟩:=S3.tn.fresh nl;refine⟨To,R,l,_,rfl,P4.tn,jc,n1',n2',by show 0<3;decide,by show 3<=1000000;decide,λi x H4 ex xA k4=>?_⟩;obtain⟨S4,f4⟩:=P4.draw xA k4;obtain⟨v,rfl,v0,v1⟩:∃v,x=V.int v/\0<=v/\v<=12:=by
  have:=mem_of_getElem? ex;simp only[mem_cons,List.not_mem_nil,or_false]at this;rcases this with rfl|rfl|rfl
  .exact⟨0,rfl,by decide,by decide⟩
  .exact⟨4,rfl,by decide,by decide⟩
  .exact⟨m,rfl,m0,by omega⟩
 refine⟨_,_,rfl,rfl,M9,λq nq=>?_⟩;have s5:=jh (o:=.tup [.int pu,.int n,.int ((pu+1+d)%(p.ns.length:Int)),.int (1+v)]) nq;refine k _ q ⟨pu,n,(pu+1+d)%(p.ns.length:Int),1+v⟩ (S4.same s5) ((((f1.trans f2).trans f3).trans (Fr.same s3)).trans (f4.trans (Fr.same s5))) ⟨q,rfl,S4.w.kr.none nq,jc⟩ (uh.mpr ⟨p0,by show pu<=(p.ns.length:Int)-1;omega,g0,by show(pu+1+d)%(p.ns.length:Int)<=(p.ns.length:Int)-1;omega,λy=>g2 y.symm,n0,by show n<=99;omega,by show 1<=1+v;omega,by show 1+v<=1000;omega⟩) rfl (by show n<=2;omega)
theorem int_at {zs:List Int}{i:Nat}{x:V}(e:(zs.map V.int)[i]?=some x):∃z,z∈zs/\x= .int z:=by obtain⟨z,hz,e⟩:=mem_map.mp (mem_of_getElem? e);exact⟨z,hz,e.symm⟩
theorem jyh {is:x8}{i:Nat}{x:List Int×List Int}(nd:(is.map (·.1)).Nodup)(e:is[i]?=some x):qc is x.1=x.2:=(wH x.1 is).symm.trans (Hq nd e)
theorem Gn.jN {Y:Wd}{T M:Nat}{L:List O}{ls ns:List Int}(g:Gn Y T M L ls ns){t:List Int}(h:t∈yr Y.bd Y.en):∃o∈L,t=yh o/\Y.carried o=true:=by obtain⟨x,hx,rfl⟩:=mem_map.mp h;obtain⟨h1,h2⟩:=mem_filter.mp hx;obtain⟨o,ol,e⟩:=g.g.b.ks x h1;obtain⟨i,hi,ei⟩:=mem_iff_getElem.mp h1;refine⟨o,ol,e,?_⟩;unfold Wd.carried;rw[<-e,jyh g.g.b.nd (by rw[getElem?_eq_getElem hi,ei])];exact h2
theorem sD {t:Ad}{H:Hp}{Z:ar}{W:WA}{Y:Wd}{T:Nat}{p:Pt}{To R a:Addr}{zs:List Int}{Q:VK}(S:Sw t H Z W Y T p To R)(u:Un H Z a (zs.map V.int))(l0:0<zs.length)(l1:zs.length<=1000)(k:∀z H',z∈zs->Sw t H' Z W Y T p To R->Fr dS Z H Z H'->Q (.int z) H'):PN [.ref To,.ref a] H Q E0:=by obtain⟨n1,n2⟩:=u.neT S;refine⟨To,R,a,_,rfl,S.tn,u.1,n1,n2,by rw[length_map];exact l0,by rw[length_map];lia,λi x H' ex hT kT=>?_⟩;obtain⟨z,hz,rfl⟩:=int_at ex;obtain⟨S',f'⟩:=S.draw hT kT;exact k z H' hz S' f'
noncomputable def j9p (K:PySem.W.Frag)(t:Ad):Sp:=λvs H Q _=>∃Z W Y T p To R pa ug few fo ho be ro sh,vs=[.ref To,.ref pa,.int sh]/\Sw t H Z W Y T p To R/\Ps H Z pa W.x ug few fo ho be ro p/\p.Ok/\T<=60/\Iw t H Z W Y T p To R Q
set_option maxHeartbeats 0 in
theorem P5 (T:Txt K mg t) : xl P w K mg base CX0 10 t.Gy t.Gz ["_law_town_here","_law_parts","_law_share"] (j9p K t):=by
 refine T.Ha.cL zx λ_ A _ s H vs Q E hr h=>?_
 obtain ⟨Z,W,Y,T',p,To,R,pa,ug,few,fo,ho,be,ro,sh,rfl,S,Bq,ok,hT,k⟩:=h
 refine ⟨_,(@jd _ _ _ _ _ (lH (pv 1) (lG rfl (jy (jr (i:=3) zx.nd rfl (Or.inl rfl)) (jy (jr (i:=4) zx.nd rfl (Or.inl rfl)) (jy (jr (i:=5) zx.nd rfl (Or.inl rfl)) (jy (jr (i:=6) zx.nd rfl (Or.inl rfl)) (jy (jr (i:=7) zx.nd rfl (Or.inl rfl)) (jy (jr (i:=8) zx.nd rfl (Or.inl rfl)) (jy (jr (i:=9) zx.nd rfl (Or.inl rfl)) kE)))))))))
  (@jd _ _ _ _ _ (j9 (i:=10) zx.nd rfl (Or.inl rfl) (jo jw rfl T.cO boot_len (je (pv 8) ji)))
  (@jd _ _ _ _ _ (j9 (i:=11) zx.nd rfl (Or.inl rfl) (jn (qf T) hr.dn rfl T.qk T.qg.kp T.qm .nil ju (@vd _ _ _ _ _ (pv 0) jq rfl rfl)))
  (@jg _ _ _ (zk (j3 qQ (pv 11) (pv 2) (qi _)) (@jg _ _ _ (qb (jn (jqz T) hr.dn rfl T.ZY T.NU.kp T.ZZ .nil ju (@vd _ _ _ _ _ (pv 0) (pv 3) rfl rfl)))) (@jg _ _ _ (zk (PW.pt (lE (j3 gD (zt lK (pv 11) jq) jq (qi _)) (mS (j3 (i4 hr.units) (pv 9) (@zh _ _ _ _ ji) (qi _))))) (@jd _ _ _ _ _ (j9 (i:=12) zx.nd rfl (Or.inl rfl) (jn (jr3 T) hr.dn rfl T.Z5 T.NV.kp T.Z6 .nil ju (@cq _ _ _ _ _ _ _ (pv 0) (pv 1) (jn (zv T) hr.dn rfl T.xh T.zo.kp T.xb .nil ju (@vd _ _ _ _ _ (pv 0) (pv 9) rfl rfl)) rfl rfl rfl)))
  (@jd _ _ _ _ _ (qb (qj (pv 3) T.jl T.ZD (jq5 T) hr.dn T.ZE .nil ju (@vd _ _ _ _ _ (pv 12) (jn (zv T) hr.dn rfl T.xh T.zo.kp T.xb .nil ju (@vd _ _ _ _ _ (pv 0) (pv 7) rfl rfl)) rfl rfl)))
  (@jg _ _ _ (zk (j3 (i4 hr.units) (pv 6) (@zh _ _ _ _ ji) (qi _)) (@jg _ _ _ (qb (qj (pv 3) T.jl T.GX (Ih T) hr.dn T.GY .nil ju (@vd _ _ _ _ _ (jn (zv T) hr.dn rfl T.xh T.zo.kp T.xb .nil ju (@vd _ _ _ _ _ (pv 0) (pv 6) rfl rfl)) (pv 12) rfl rfl)))) qe)))) (@jg _ _ _ (zk (PW.pt (lE (j3 (i4 hr.units) (pv 6) (@zh _ _ _ _ ji) (qi _)) (lE (j3 (i4 hr.units) (gu (pv 3) T.jl T.gy (HL T) hr.dn T.GU .nil ju) (@zh _ _ _ _ ji) (qi _)) (mS (j3 gD (jn (qf T) hr.dn rfl T.qk T.qg.kp T.qm .nil ju (@vd _ _ _ _ _ (pv 0) jq rfl rfl)) jq (qi _)))))) (@jg _ _ _ (qb (jn (P0 T) hr.dn rfl T.NS T.G9.kp T.NT .nil ju (@Em _ _ _ _ _ _ _ _ _ _ _ w9 (pv 3) (jn (zv T) hr.dn rfl T.xh T.zo.kp T.xb .nil ju (@vd _ _ _ _ _ (pv 0) (pv 6) rfl rfl)) (cC kJ (jn (zv T) hr.dn rfl T.xh T.zo.kp T.xb .nil ju (@vd _ _ _ _ _ (pv 0) (gu (pv 3) T.jl T.gy (HL T) hr.dn T.GU .nil ju) rfl rfl)) jq (λ_ _=>rfl)) jq rfl rfl rfl rfl rfl)))) (@jg _ _ _ (zk (PW.pt (lE (j3 (i4 hr.units) (gu (pv 3) T.jl T.GV (HQ T) hr.dn T.GW .nil ju) (@zh _ _ _ _ ji) (qi _)) (mS (j3 gD (jn (qf T) hr.dn rfl T.qk T.qg.kp T.qm .nil ju (@vd _ _ _ _ _ (pv 0) jq rfl rfl)) jq (qi _))))) (@jg _ _ _ (qb (qj (pv 3) T.jl T.ZH (jr6 T) hr.dn T.ZI .nil ju (@vd _ _ _ _ _ (jn (zv T) hr.dn rfl T.xh T.zo.kp T.xb .nil ju (@vd _ _ _ _ _ (pv 0) (gu (pv 3) T.jl T.GV (HQ T) hr.dn T.GW .nil ju) rfl rfl)) (jn (zv T) hr.dn rfl T.xh T.zo.kp T.xb .nil ju (@vd _ _ _ _ _ (pv 0) (pv 7) rfl rfl)) rfl rfl)))) (@jd _ _ _ _ _ (j9 (i:=13) zx.nd rfl (Or.inl rfl) (jn (qf T) hr.dn rfl T.qk T.qg.kp T.qm .nil ju (@vd _ _ _ _ _ (pv 0) (pv 10) rfl rfl)))
  (@jd _ _ _ _ _ (j9 (i:=14) zx.nd rfl (Or.inl rfl) (zt lK (zt eU (zt eU (pv 13) jq) (jn (qf T) hr.dn rfl T.qk T.qg.kp T.qm .nil ju (@vd _ _ _ _ _ (pv 0) (zt iT (pv 10) jq) rfl rfl))) (pv 10)))
  (@jg _ _ _ (qb (jn (P0 T) hr.dn rfl T.NS T.G9.kp T.NT .nil ju (@Em _ _ _ _ _ _ _ _ _ _ _ w9 (pv 3) (pv 13) (pv 14) (zt eU jq (jn (zv T) hr.dn rfl T.xh T.zo.kp T.xb .nil ju (@vd _ _ _ _ _ (pv 0) (@zh _ _ _ _ (@cq _ _ _ _ _ _ _ jq jq (jn (qf T) hr.dn rfl T.qk T.qg.kp T.qm .nil ju (@vd _ _ _ _ _ (pv 0) jq rfl rfl)) rfl rfl rfl)) rfl rfl))) rfl rfl rfl rfl rfl))))))))))))))))),?_⟩
 have l2:=ok.l2
 have l8:=ok.l8
 refine aU λN hN=>⟨_,rfl,pa,_,rfl,aA.of Bq.tp.1,rfl,_,_,rfl,_,_,rfl,_,_,rfl,_,_,rfl,_,_,rfl,_,_,rfl,_,_,rfl,rfl,?_⟩
 refine hN _ _ (aU λN hN=>⟨_,rfl,be,_,rfl,.inl (ah.of Bq.be.1),?_⟩)
 rw [length_map]
 refine hN _ _ (aU λN hN=>⟨_,rfl,To,R,10,rfl,S.tn,by decide,by decide,λkd H1 kd0 A7 pW k1=>?_⟩)
 obtain ⟨S1,f1⟩:=S.draw pW k1
 have B1:=Bq.fr f1
 refine hN [some (.ref To),some (.ref pa),some (.int sh),some (.ref W.x),some (.int ug),some (.int few),some (.ref fo),some (.ref ho),some (.ref be),some (.ref ro),some (.int (p.ns.length:Int)),some (.int kd),none,none,none] H1 (jM λN hN=>⟨_,rfl,_,rfl,_,_,rfl,rfl,_,rfl,hN _ _ (bp (λ_=>?_) (λ_=>?_))⟩)
 .refine ⟨_,rfl,_,rfl,Z,W,Y,T',p,To,R,rfl,S1,ok.ll,hT,λZ' H' Y' v S' f' g'=>?_⟩
  exact k Z' H' Y' _ S' ((pV f1).trans f') g'
 obtain ⟨L,gn,sk⟩:=S.w.g
 have wK:=gn.wl
 have z0:=gn.l
 have z1:=gn.ok.k1
 have z2:=ok.ll
 have bl:=gn.sz.bd
 have bne : ∀ x ∈ Y.bd,x.1 ≠ []:=λx hx z=>by
  obtain ⟨o,_,e⟩:=gn.g.b.ks x hx
  rw [e] at z
  cases z
 have eE : ∀ {HB e},HB e = none -> zj K (upd HB e (.lst [])) (.lst []) (.ref e):=λn=>by
  rw [zj]
  exact ⟨_,[],rfl,ah.of jc,by rw [yc]⟩
 refine' (λkey=>_:(∀ HB,Sw t HB Z W Y T' p To R -> Fr dS Z H Z HB -> (_:Hp -> Prop) HB) -> _) _
 rotate_left
 .refine jM λN hN=>⟨_,rfl,_,_,rfl,rfl,(by show (0:Int) < 2; decide),rfl,_,rfl,bp (λ_=>?_) (λ_=>hN _ _ (ka ?_))⟩
  rotate_left
  .exact key H1 S1 f1
  refine ⟨_,rfl,cG,λe ne=>?_⟩
  have s2:=jh (o:=.lst []) ne
  have S2:=S1.same s2
  have f2:Fr dS Z H Z (upd H1 e (.lst [])):=f1.trans (Fr.same s2)
  have B2:=Bq.fr f2
  refine ⟨.lst (p.cs.map Dt.int),.lst [],oU (ah.of B2.ro.1),eE ne,tQ _,_,rfl,?_⟩
  rw [sy]
  generalize upd H1 e (.lst []) = H2 at S2 f2 B2
  refine hN _ _ (bp (λz=>?_) (λ_=>?_))
  rotate_left
  .exact key H2 S2 f2
  have nc : 0 < p.cs.length:=length_pos_iff.mpr λy=>by rw [y] at z; cases z
  refine aU λN hN=>⟨_,rfl,_,rfl,_,rfl,_,rfl,sD S2 B2.ro nc ok.cl λpu H3 P6 S3 f3=>?_⟩
  have B3:=B2.fr f3
  obtain ⟨Bv,IC⟩:=ok.c pu P6
  refine ⟨Z,W,Y,T',p,To,R,pa,ug,few,fo,ho,be,ro,pu,rfl,S3,B3,ok,Bv,IC,λH4 q o S4 f4 uq4 io eo en=>?_⟩
  have B4:=B3.fr f4
  refine hN _ _ (aU λN hN=>⟨_,rfl,W.x,W.dx,_,rfl,S4.w.o.ob.1,xo,_,rfl,_,rfl,_,rfl,sD S4 B4.ho ok.h0 (by have:=ok.h1; omega) λh H5 hh S5 f5=>?_⟩)
  have P7:=uq4.fr f5
  have B5:=B4.fr f5
  have P8:yy Y.n o = true:=by rw [S.w.n]; exact io
  have oc:o.p ∈ Y.y3:=by rw [S.w.c,eo]; exact P6
  have hk:h ∈ Y.ks.map (·.1):=by rw [S.w.h]; exact hh
  obtain ⟨B,ek,km⟩:=wU hk
  refine ⟨Z,0,W,Y,q,o,h,B,rfl,S5.w.o,S5.w.kr,P7,P8,oc,ek,by omega,λH6 O6 f6 kr6=>?_⟩
  have xB:=gn.j9r P8 oc hk
  obtain ⟨S6,f6'⟩:=S5.go f6 (λr hr=>by rw [hr]) (S5.w.next f6 O6 kr6 (xB.mono (T':=T' + 1) (M':=1000 * (T' + 1)) (le_refl _) (by omega)) (sk.more λ_=>by omega) ⟨rfl,rfl,rfl,rfl⟩)
  have F6:Fr sA Z H Z H6:=(pV (((f2.trans f3).trans f4).trans f5)).trans f6'
  have B6:=B5.fr f6
  have uq6:=P7.fr f6
  refine hN _ _ (jM λN hN=>⟨_,rfl,cG,λe' ne'=>?_⟩)
  have s7:=jh (o:=.lst []) ne'
  have S7:=S6.same s7
  have F7:Fr sA Z H Z (upd H6 e' (.lst [])):=F6.trans (Fr.same s7)
  have B7:=B6.fr (P:=λ_=>False) (Fr.same s7)
  have P9:=uq6.fr (P:=λ_=>False) (Fr.same s7)
  refine ⟨.lst (p.ls.map Dt.int),.lst [],oU (ah.of B7.fo.1),eE ne',tQ _,_,rfl,?_⟩
  rw [sy]
  generalize upd H6 e' (.lst []) = H7 at S7 F7 B7 P9
  refine hN _ _ (bp (λz=>?_) (λ_=>k Z H7 _ _ S7 F7 (.of rfl rfl)))
  have nl : 0 < p.ls.length:=length_pos_iff.mpr λy=>by rw [y] at z; cases z
  refine ⟨_,rfl,W.x,W.dx,_,rfl,S7.w.o.ob.1,xo,_,rfl,_,rfl,sD S7 B7.fo nl (by omega) λh' H8 ID S8 f8=>?_⟩
  have uq8:=P9.fr f8
  refine ⟨_,rfl,Z,0,W,_,h',q,o,p.ls,_,_,_,rfl,S8.w.o,S8.w.kr,S8.w.ly.1,ID,uq8,xB.lo _ mem_cons_self,xB.mw _ mem_cons_self,xB.sz,(by rw [length_cons]; omega),(by show Y.ks.length + p.ls.length + 1 <= 1000; omega),by omega,λZ9 H9 O9 f9 kr9=>?_⟩
  have g9:=(xB.zb (h:=h') (mem_append_right _ ID) (os:=[o]) (λu hu=>by rw [mem_singleton.mp hu]; exact mem_cons_self)).mono (T':=T' + 1) (M':=1000 * (T' + 1)) (le_refl _) (by show 1000 * T' + 1 + 16 * 1 <= _; omega)
  obtain ⟨S9,f9'⟩:=S8.go f9 (λr hr=>by rcases hr with hr | hr | hr <;> rw [hr]) (S8.w.next f9 O9 kr9 g9 ((sk.more λ_=>by omega).lie ID _) (yx h' [o] _).eR)
  exact k Z9 H9 _ _ S9 ((F7.trans (pV f8)).trans f9') ((fX.of rfl rfl).trans (.of (yx h' [o] _).e (yx h' [o] _).k))
 rintro HA SA fA
 refine' (λkey=>_:(∀ HB,Sw t HB Z W Y T' p To R -> Fr dS Z H Z HB -> (_:Hp -> Prop) HB) -> _) _
 rotate_left
 .refine jM λN hN=>⟨_,rfl,cG,λe ne=>?_⟩
  have s2:=jh (o:=.lst []) ne
  have S2:=SA.same s2
  have f2:Fr dS Z H Z (upd HA e (.lst [])):=fA.trans (Fr.same s2)
  have B2:=Bq.fr f2
  refine ⟨.lst (p.ls.map Dt.int),.lst [],oU (ah.of B2.fo.1),eE ne,tQ _,_,rfl,?_⟩
  rw [sy]
  generalize upd HA e (.lst []) = H2 at S2 f2 B2
  refine bp (λz=>?_) (λ_=>hN _ _ (ka ?_))
  rotate_left
  .exact key H2 S2 f2
  have nl : 0 < p.ls.length:=length_pos_iff.mpr λy=>by rw [y] at z; cases z
  refine ⟨_,rfl,W.x,W.dx,_,rfl,S2.w.o.ob.1,xo,Z,0,W,Y,rfl,S2.w.o,by omega,λr xs nr px=>⟨cG,λe' ne'=>?_⟩⟩
  have s3:=jh (o:=.lst xs) nr
  have s4:=jh (o:=.lst []) ne'
  have S3:=(S2.same s3).same s4
  have f3:Fr dS Z H Z (upd (upd H2 r (.lst xs)) e' (.lst [])):=f2.trans (Fr.same (s3.trans s4))
  have HU:Paired (cA (upd (upd H2 r (.lst xs)) e' (.lst [])) Z) xs Y.way:=Paired.xt px λ_ _=>cA.fr (P:=λ_=>False) (Fr.same (s3.trans s4))
  have hd:zj K (upd (upd H2 r (.lst xs)) e' (.lst [])) (.lst (Y.way.map su)) (.ref r):=by
   rw [zj]
   exact ⟨r,xs,rfl,ah.of (s4 _ _ jc),Ir (λx a h=>cA.qbw h) HU⟩
  have dl:=PL Y.way
  refine ⟨_,_,hd,eE ne',by rw [bO]; omega,_,rfl,?_⟩
  rw [sy]
  generalize upd (upd H2 r (.lst xs)) e' (.lst []) = H3 at S3 f3
  refine bp (λz=>?_) (λ_=>hN _ _ (ka ?_))
  rotate_left
  .exact key H3 S3 f3
  have nw : 0 < Y.way.length:=length_pos_iff.mpr λy=>by rw [y] at z; cases z
  refine ⟨_,rfl,To,R,3,rfl,S3.tn,by decide,by decide,λd H4 d0 d1 xA k4=>?_⟩
  obtain ⟨S4,f4⟩:=S3.draw xA k4
  have F4:=f3.trans f4
  refine ⟨rfl,_,rfl,hN _ _ (bp (λ_=>?_) (λ_=>?_))⟩
  rotate_left
  .exact key H4 S4 F4
  have B4:=Bq.fr F4
  refine ⟨_,rfl,_,rfl,_,rfl,sD S4 B4.fo nl (by omega) λh H5 hh S5 f5=>?_⟩
  refine ⟨_,rfl,_,rfl,W.x,W.dx,_,rfl,S5.w.o.ob.1,xo,Z,0,W,Y,rfl,S5.w.o,by omega,λr' iL Bw Qa=>?_⟩
  have lx:iL.length = Y.way.length:=Paired.length Qa
  have s6:=jh (o:=.lst iL) Bw
  obtain ⟨n1,n2⟩:=S5.tn.fresh Bw
  have S6:=S5.same s6
  have f6:Fr dS Z H Z (upd H5 r' (.lst iL)):=(F4.trans f5).trans (Fr.same s6)
  refine ⟨To,R,r',iL,rfl,S6.tn,jc,n1,n2,by omega,by omega,λi x H7 ex IE k7=>?_⟩
  obtain ⟨S7,f7⟩:=S6.draw IE k7
  obtain ⟨l,el,ul⟩:=j7 Qa ex
  obtain ⟨a,q,rfl,_,h1,uq⟩:=(ul.fr (P:=λ_=>False) (Fr.same s6)).fr f7
  exact ⟨a,_,2,.ref q,rfl,rfl,aA.of h1,rfl,Z,W,Y,T',p,To,R,S7,hT,λZ' H' Y' v S' f' g'=>k Z' H' Y' _ S' ((pV (f6.trans f7)).trans f') g',.inr ⟨h,q,l,rfl,hh,ok.ll,uq,mem_of_getElem? el⟩⟩
 rintro HC SC fC
 refine' (λkey=>_:(∀ HB,Sw t HB Z W Y T' p To R -> Fr dS Z H Z HB -> (_:Hp -> Prop) HB) -> _) _
 rotate_left
 .refine jM λN hN=>⟨_,rfl,W.x,W.dx,_,rfl,SC.w.o.ob.1,xo,Z,0,W,Y,rfl,SC.w.o,by omega,gn.g.b.nd,bne,λr vs ts H1 nr s1 q1 q3 h1=>⟨cG,λe ne=>?_⟩⟩
  have s2:=jh (o:=.lst []) ne
  have S2:=(SC.same s1).same s2
  have f2:Fr dS Z H Z (upd H1 e (.lst [])):=fC.trans (Fr.same (s1.trans s2))
  have hd:zj K (upd H1 e (.lst [])) (.lst (ts.map jX)) (.ref r):=by
   rw [zj]
   exact ⟨r,vs,rfl,ah.of (s2 _ _ h1),Ir (λx a h=>by obtain ⟨a',rfl,q⟩:=h; exact Iu (aA.of (s2 _ _ q))) q3⟩
  have dl:=Iv ts
  refine ⟨_,_,hd,eE ne,by rw [bO]; omega,_,rfl,?_⟩
  rw [sy]
  generalize upd H1 e (.lst []) = H2 at S2 f2
  refine bp (λz=>?_) (λ_=>hN _ _ (ka ?_))
  rotate_left
  .exact key H2 S2 f2
  have nt:ts ≠ []:=λy=>by rw [y] at z; cases z
  have nt2 : 0 < (yr Y.bd Y.en).length:=by
   rw [<- q1.length_eq]
   exact length_pos_iff.mpr nt
  refine ⟨_,rfl,To,R,4,rfl,S2.tn,by decide,by decide,λd H3 d0 d1 pX k3=>?_⟩
  obtain ⟨S3,f3⟩:=S2.draw pX k3
  have F3:=f2.trans f3
  refine ⟨rfl,_,rfl,hN _ _ (bp (λ_=>?_) (λ_=>?_))⟩
  rotate_left
  .exact key H3 S3 F3
  refine ⟨_,rfl,W.x,W.dx,_,rfl,S3.w.o.ob.1,xo,_,rfl,_,rfl,W.x,W.dx,_,rfl,S3.w.o.ob.1,xo,Z,0,W,Y,rfl,S3.w.o,by omega,gn.g.b.nd,bne,λr' bH eA H4 Bw s4 Qb Qc h4=>?_⟩
  have S4:=S3.same s4
  have F4:Fr dS Z H Z H4:=F3.trans (Fr.same s4)
  obtain ⟨n1,n2⟩:=S3.tn.fresh Bw
  have lv:bH.length = (yr Y.bd Y.en).length:=(Paired.length Qc).trans Qb.length_eq
  have lc:(yr Y.bd Y.en).length <= Y.bd.length:=by
   unfold yr
   rw [length_map]
   exact length_filter_le _ _
  refine ⟨To,R,r',bH,rfl,S4.tn,h4,n1,n2,by omega,by omega,λi x H5 ex zR k5=>?_⟩
  obtain ⟨S5,f5⟩:=S4.draw zR k5
  obtain ⟨ti,IF,a,rfl,ha⟩:=j7 Qc ex
  obtain ⟨o,oL,rfl,oc⟩:=gn.jN (Qb.mem_iff.mp (mem_of_getElem? IF))
  have uo:zu H4 Z (.ref a) o:=⟨a,rfl,S4.w.kr.tup ha,ha⟩
  have uo5:=uo.fr f5
  have B5:=Bq.fr (F4.trans f5)
  refine ⟨_,rfl,_,rfl,sD S5 B5.ho ok.h0 (by have:=ok.h1; omega) λh H6 hh S6 f6=>?_⟩
  have hk:h ∈ Y.ks.map (·.1):=by rw [S.w.h]; exact hh
  obtain ⟨B,ek,km⟩:=wU hk
  refine ⟨Z,0,W,Y,a,o,h,B,rfl,S6.w.o,S6.w.kr,uo5.fr f6,gn.lo _ oL,ek,oc,by omega,λH7 O7 f7 kr7=>?_⟩
  have g7:=(gn.Pp oL hk (b:=false) λ_=>oc).mono (T':=T' + 1) (M':=1000 * (T' + 1)) (by omega) (by omega)
  obtain ⟨S7,f7'⟩:=S6.go f7 (λr hr=>by rw [hr]) (S6.w.next f7 O7 kr7 g7 sk.way ⟨rfl,rfl,rfl,rfl⟩)
  exact k Z H7 _ _ S7 ((pV ((F4.trans f5).trans f6)).trans f7') (.of rfl rfl)
 rintro HD SD fD
 refine aU λN hN=>⟨_,rfl,_,rfl,To,R,(p.ns.length:Int),rfl,SD.tn,by omega,by omega,λpu H1 Bv IC pW k1=>?_⟩
 obtain ⟨S1,f1⟩:=SD.draw pW k1
 refine hN _ _ (aU λN hN=>⟨_,rfl,_,_,rfl,rfl,_,rfl,_,rfl,_,_,rfl,rfl,To,R,(p.ns.length:Int) - 1,rfl,S1.tn,by omega,by omega,λd H2 d0 d1 kY k2=>?_⟩)
 obtain ⟨S2,f2⟩:=S1.draw kY k2
 obtain ⟨g0,g1,g2⟩:=P2 Bv IC d0 d1
 refine ⟨_,_,rfl,rfl,_,rfl,_,_,rfl,rfl,(by show (0:Int) < (p.ns.length:Int); omega),?_⟩
 refine hN _ _ ⟨_,rfl,_,rfl,_,rfl,_,rfl,_,rfl,To,R,30,rfl,S2.tn,by decide,by decide,λm H3 m0 m1 pX k3=>?_⟩
 obtain ⟨S3,f3⟩:=S2.draw pX k3
 refine ⟨nW,λl nl=>?_⟩
 have s4:=jh (o:=.lst ([0,4,m].map V.int)) nl
 have S4:=S3.same s4
 have u4:Un (upd H3 l (.lst ([0,4,m].map V.int))) Z l ([0,4,m].map V.int):=⟨jc,S3.w.kr.none nl⟩
 refine sD S4 u4 (by show 0 < 3; decide) (by show 3 <= 1000; decide) λv H5 hv S5 f5=>?_
 have v01 : 0 <= v /\ v <= 30:=by
  simp only [mem_cons,List.not_mem_nil,or_false] at hv
  rcases hv with rfl | rfl | rfl <;> omega
 have en:(Y.n:Int) = (p.ns.length:Int):=by rw [S.w.n]
 have F5:Fr dS Z H Z H5:=(((fD.trans f1).trans f2).trans f3).trans ((Fr.same s4).trans f5)
 exact ⟨_,_,rfl,rfl,Z,W,Y,T',p,To,R,S5,hT,λZ' H' Y' v S' f' g'=>k Z' H' Y' _ S' ((pV F5).trans f') g',.inl ⟨pu,(pu + 1 + d) % (p.ns.length:Int),1 + v,rfl,⟨Bv,by omega⟩,⟨g0,by omega⟩,g2,by omega,by omega⟩⟩
structure Tw (H:Hp)(Z:ar)(To R:Addr):Prop where
 kr:ay Z H
 tn:de To R H
 tr:wY Z To R
section
variable {H H':Hp}{Z:ar}{To R:Addr}
theorem Tw.same (s:yi H H')(x:Tw H Z To R):Tw H' Z To R:=⟨x.kr.same s,x.tn.same s,x.tr⟩
theorem Tw.draw (x:Tw H Z To R)(hT:de To R H')(k:iG To R H H'):Tw H' Z To R/\Fr dS Z H Z H':=⟨⟨PH x.kr hT k,hT,x.tr⟩,Iq x.tr k⟩
end
theorem j1t {ls:List Int}{n:Nat}{x:Int}:x∈ug ls n↔(0<=x/\x<(n:Int))/\x∉ls:=by
 unfold ug;rw[mem_filter,mem_map];constructor
 .rintro⟨⟨i,hi,rfl⟩,h⟩
  exact⟨⟨by lia,by have:=mem_range.mp hi;lia⟩,by simpa using h⟩
 .rintro⟨⟨h0,h1⟩,h⟩
  exact⟨⟨x.toNat,mem_range.mpr (by lia),by lia⟩,by simpa using h⟩
theorem j90 {h f:Int}{ns cs ls:List Int}:Sk (w0 h f ns cs ls) [] ls:=by
 have jU:∀c∈(w0 h f ns cs ls).ks,c.2=hU ns/\c.1∈ug ls h.toNat:=λc hc=>by obtain⟨i,hi,rfl⟩:=mem_map.mp (show c∈(ug ls h.toNat).map λi=>(i,hU ns)from hc);exact⟨rfl,hi⟩
 refine⟨λc hc=>by rw[(jU c hc).1];exact⟨nodup_nil,λ_ z=>(by cases z),λ_ z=>(by cases z)⟩,λ_ _ _ z=>(by cases z),λp row e i o eo=>?_,λ_ z=>(by cases z),λc hc=>(j1t.mp (jU c hc).2).2⟩;have:row=[]:=eq_of_mem_replicate (mem_of_getElem? e);subst this;cases eo
theorem j2y {ls:List Int}{n:Nat}:n<=(ug ls n).length+ls.length:=by
 have hl:((List.range n).map λ(i:Nat)=>(i:Int)).length<=(ug ls n).length+ls.length:=by
  rw[<-length_append];refine se (List.Pairwise.map _ (λa b fR z=>fR (Int.ofNat.inj z)) nodup_range) λx hx=>?_;by_cases z:x∈ls
  .exact mem_append_right _ z
  .exact mem_append_left _ (mem_filter.mpr ⟨hx,by simp[z]⟩)
 rwa[length_map,length_range]at hl
noncomputable def j1s (t:Ad):Sp:=λvs H Q _=>∃Z To R,vs=[.ref To]/\Tw H Z To R/\∀Z' H' W Y pa cr few fo ho be ro p,p.Ok->Sw t H' Z' W Y 0 p To R->Ps H' Z' pa W.x cr few fo ho be ro p->Q (.ref pa) H'
set_option maxHeartbeats 0 in
theorem jse (T:Txt K mg t) : xl P w K mg base CX0 8 t.Gm t.Gp ["_law_town_here"] (j1s t):=by
 refine T.NR.cL yo λ_ A _ s H vs Q E hr h=>?_
 obtain ⟨Z,To,R,rfl,S,k⟩:=h
 refine ⟨_,(@jd _ _ _ _ _ (j9 (i:=1) yo.nd rfl (Or.inl rfl) (jn (qf T) hr.dn rfl T.qk T.qg.kp T.qm .nil ju (@vd _ _ _ _ _ (pv 0) jq rfl rfl)))
  (@jd _ _ _ _ _ (j9 (i:=2) yo.nd rfl (Or.inl rfl) (zt eU (zt eU (zt yQ jq (pv 1)) jq) (jn (qf T) hr.dn rfl T.qk T.qg.kp T.qm .nil ju (@vd _ _ _ _ _ (pv 0) jq rfl rfl))))
  (@jd _ _ _ _ _ (j9 (i:=3) yo.nd rfl (Or.inr rfl) (jn (PR T) hr.dn rfl T.NP T.G7.kp T.NQ .nil ju (@cq _ _ _ _ _ _ _ (pv 0) (pv 2) (pv 1) rfl rfl rfl)))
  (@jd _ _ _ _ _ (Li (i:=4) yo.nd rfl rfl (N':=["_law_k","_law_town_here"]) (ix:=[none,some 0]) (zd (by kernel_rfl)) rfl (mX rfl T.nY (je (zt eU jq (jn (qf T) hr.dn rfl T.qk T.qg.kp T.qm .nil ju (@vd _ _ _ _ _ (pv 0) jq rfl rfl))) ji)) (λ_ _ _ _=>(jr (i:=0) X7 rfl (Or.inl rfl) (.inr rfl))) (λ_ _ _ _=>lW) (λ_ _ _ _=>(jn (zv T) hr.dn rfl T.xh T.zo.kp T.xb .nil ju (@vd _ _ _ _ _ (pv 1) (@zh _ _ _ _ (@Em _ _ _ _ _ _ _ _ _ _ _ jq jq jq jq (jn (qf T) hr.dn rfl T.qk T.qg.kp T.qm .nil ju (@vd _ _ _ _ _ (pv 1) jq rfl rfl)) rfl rfl rfl rfl rfl)) rfl rfl))))
  (@jd _ _ _ _ _ (j9 (i:=5) yo.nd rfl (Or.inl rfl) (jn (PR T) hr.dn rfl T.NP T.G7.kp T.NQ .nil ju (@cq _ _ _ _ _ _ _ (pv 0) (jo jw rfl T.cO boot_len (je (pv 4) ji)) jq rfl rfl rfl)))
  (@jd _ _ _ _ _ (j9 (i:=6) yo.nd rfl (Or.inl rfl) (Wv T.Zh (jmm T) hr.dn rfl T.N3 T.Zi ju (je (pv 2) ji) (iV (pv 1) (iV (pv 4) (iV (pv 3) (iV (pv 5) oP))))))
  (@jg _ _ _ (j6 (@kH _ _ _ _ _ (@XX _ _ _ _ _ _ _ _ _ _ _ _ _ _ _ (pv 6) (pv 2) (pv 1) (pv 3) (y9 (N':=["_law_k","_law_foes"]) (ix:=[none,some 3]) (zd (by kernel_rfl)) rfl (mX rfl T.nY (je (pv 2) ji)) (λ_ _ _ _=>(jr (i:=0) X6 rfl (Or.inl rfl) (.inr rfl))) (λ_ _ _ _=>(lX (j3 (Af (K:=K) rfl) (pv 0) (pv 1) (by with_unfolding_all rfl)))) (λ_ _ _ _=>(pv 0))) (pv 4) (pv 5) rfl rfl rfl rfl rfl rfl rfl)))))))))),?_⟩
 refine ⟨_,rfl,To,R,3,rfl,S.tn,by decide,by decide,λf H1 f0 f1 pW k1=>?_⟩
 obtain ⟨S1,r1⟩:=S.draw pW k1
 refine ⟨_,rfl,_,_,rfl,rfl,.inl ⟨by decide,by decide⟩,_,_,rfl,rfl,_,rfl,To,R,2,rfl,S1.tn,by decide,by decide,λd H2 d0 d1 kY k2=>?_⟩
 obtain ⟨S2,r2⟩:=S1.draw kY k2
 have F2:=r1.trans r2
 obtain ⟨h,eh⟩ : ∃ h:Int,h = 3 * f + 1 + d:=⟨_,rfl⟩
 refine ⟨_,_,rfl,rfl,?_⟩
 dsimp only
 rw [<- eh]
 have h1 : 1 <= h:=by omega
 have h8:h <= 16:=by omega
 have lt : 3 * f < h:=by omega
 refine ⟨_,rfl,_,rfl,_,rfl,To,R,h,f,rfl,S2.tn,by omega,by omega,λfo ls H3 nfo pX k3 hfo oj A9 IG=>?_⟩
 rw [if_pos f0] at IG
 obtain ⟨S3,r3⟩:=S2.draw pX k3
 have F3:=F2.trans r3
 have U3:Un H3 Z fo (ls.map V.int):=⟨hfo,S2.kr.none nfo⟩
 show dy 3 (.ref fo) [some (.ref To),some (.int f),some (.int h),none,none,none,none] H3 _
 refine ⟨_,rfl,To,R,3,rfl,S3.tn,by decide,by decide,λc H4 c0 c1 xA k4=>?_⟩
 obtain ⟨S4,r4⟩:=S3.draw xA k4
 have U4:=U3.fr r4
 have F4:=F3.trans r4
 refine ⟨_,_,rfl,rfl,2 + c,rfl,by omega,by omega,Lj (lo:=0) (n:=(2 + c).toNat) (λi ys U H'=>∃ v zs,U = [v,some (.ref To)] /\ ys = (zs:List Int).map V.int /\ zs.length = i /\ (∀ z ∈ zs,0 <= z /\ z <= 1000) /\ Tw H' Z To R /\ Fr dS Z H4 Z H') ⟨none,[],rfl,rfl,rfl,(λ_ z=>by cases z),S4,Fr.refl⟩ ?_ ?_ ?_⟩
 .rintro i ys U H' hi ⟨v,zs,rfl,rfl,lz,_⟩
  rw [length_map]
  exact oh (by omega)
 .rintro i ys U H' hi ⟨v,zs,rfl,rfl,lz,rz,S5,r5⟩
  dsimp only [dy,kK]
  rw [if_pos rfl]
  refine ⟨_,rfl,_,rfl,To,R,40,rfl,S5.tn,by decide,by decide,λm H6 m0 m1 hT6 k6=>?_⟩
  obtain ⟨S6,r6⟩:=S5.draw hT6 k6
  refine ⟨XS,λl nl=>?_⟩
  have s7:=jh (o:=.lst ([0,5,20,1000,m].map V.int)) nl
  have S7:=S6.same s7
  obtain ⟨n1,n2⟩:=S6.tn.fresh nl
  refine ⟨To,R,l,[0,5,20,1000,m].map V.int,rfl,S7.tn,jc,n1,n2,by show 0 < 5; decide,by show 5 <= 1000000; decide,λj x H8 ex hT8 k8=>?_⟩
  obtain ⟨S8,r8⟩:=S7.draw hT8 k8
  obtain ⟨z,hz,rfl⟩:=int_at ex
  refine ⟨_,zs ++ [z],rfl,by rw [map_append]; rfl,by rw [length_append,lz]; rfl,λy hy=>?_,S8,(r5.trans r6).trans ((Fr.same s7).trans r8)⟩
  rcases mem_append.mp hy with hy | hy
  .exact rz y hy
  .rw [mem_singleton.mp hy]
   simp only [mem_cons,List.not_mem_nil,or_false] at hz
   rcases hz with rfl | rfl | rfl | rfl | rfl <;> omega
 rintro ys U H5 ⟨v,ns,rfl,rfl,lz,rz,S5,r5⟩ be Qd
 have s6:=jh (o:=.lst (ns.map V.int)) Qd
 have S6:=S5.same s6
 have IH:Un (upd H5 be (.lst (ns.map V.int))) Z be (ns.map V.int):=⟨jc,S5.kr.none Qd⟩
 have Qe:Un (upd H5 be (.lst (ns.map V.int))) Z fo (ls.map V.int):=(U4.fr r5).fr (P:=λ_=>False) (Fr.same s6)
 have F6:Fr dS Z H Z (upd H5 be (.lst (ns.map V.int))):=(F4.trans r5).trans (Fr.same s6)
 generalize upd H5 be (.lst (ns.map V.int)) = H6 at S6 IH Qe F6
 show dy 4 (.ref be) [some (.ref To),some (.int f),some (.int h),some (.ref fo),none,none,none] H6 _
 refine ⟨_,rfl,_,rfl,be,_,rfl,.inl (ah.of IH.1),?_⟩
 rw [length_map]
 refine ⟨To,R,(ns.length:Int),2,rfl,S6.tn,by omega,by omega,λro cs H7 nro IE k7 hro upc Ba lnc=>?_⟩
 rw [if_pos (by decide)] at lnc
 obtain ⟨S7,r7⟩:=S6.draw IE k7
 have Uro:Un H7 Z ro (cs.map V.int):=⟨hro,S6.kr.none nro⟩
 have II:=IH.fr r7
 have IJ:=Qe.fr r7
 have F7:=F6.trans r7
 show dy 5 (.ref ro) [some (.ref To),some (.int f),some (.int h),some (.ref fo),some (.ref be),none,none] H7 _
 refine ⟨_,rfl,_,rfl,_,rfl,_,rfl,_,rfl,λx dx nx Bt ne=>?_⟩
 obtain ⟨fm,krm⟩:=j5v (C:=t.j4) nx Bt ne (r:=(0,.x)) S7.kr
 have pY:=II.fr fm
 have pZ:=IJ.fr fm
 have qA:=Uro.fr fm
 have ln:ns.length = (2 + c).toNat:=lz
 refine ⟨aO Z x (0,.x),0,x,dx,h,f,be,ns,fo,ro,cs,ls,rfl,jc,zr,krm,⟨h1,h8⟩,⟨f0,by omega⟩,lt,pY.1,(λr hr=>by rw [pY.2] at hr; cases hr),by omega,by omega,rz,.inl ⟨pZ.1,λr hr=>by rw [pZ.2] at hr; cases hr⟩,oj,A9,IG,.inl ⟨qA.1,λr hr=>by rw [qA.2] at hr; cases hr⟩,upc,Ba,λZ' H8 W ex IK O ly f8 kr8=>⟨rfl,?_⟩⟩
 have gn:=j84 (cs:=cs) ⟨h1,h8⟩ f0 lt (by omega:ns.length <= 8) (λx hx=>(rz x hx).1) IG A9
 have ek:(w0 h f ns cs ls).ks.map (·.1) = ug ls h.toNat:=by
  show ((ug ls h.toNat).map λi=>(i,hU ns)).map (·.1) = _
  rw [map_map]
  exact List.map_id _
 have lk:(ug ls h.toNat).length = (w0 h f ns cs ls).ks.length:=by rw [<- ek,length_map]
 have k0:=gn.ok.k0
 have k1:=gn.ok.k1
 obtain ⟨tn8,tr8⟩:=PM f8 (λz=>by cases z) (λz=>by cases z) (S7.tn.same (λb u e=>(fm b u e (λ_ _ z=>z)).1)) ⟨by rw [xk (S7.tn.fresh nx).1.symm]; exact S7.tr.1,by rw [xk (S7.tn.fresh nx).2.symm]; exact S7.tr.2⟩
 have S8:Sw t H8 Z' W (w0 h f ns cs ls) 0 ⟨ns,cs,ls,ug ls h.toNat,h - f⟩ To R:=⟨⟨O,kr8,ly,⟨[],gn,j90⟩,rfl,rfl,rfl,ek,IK⟩,tn8,tr8⟩
 have IL:=pY.fr f8
 have xC:=pZ.fr f8
 have IM:=qA.fr f8
 show dy 6 (V.ref x) [some (.ref To),some (.int f),some (.int h),some (.ref fo),some (.ref be),some (.ref ro),none] H8 _
 refine ⟨_,rfl,_,rfl,_,rfl,_,rfl,_,rfl,h,rfl,by omega,by omega,Lj (lo:=0) (n:=h.toNat) (λi ys U H'=>∃ v,U = [v,some (.ref fo)] /\ H' = H8 /\ ys = (ug ls i).map V.int) ⟨none,rfl,rfl,rfl⟩ ?_ ?_ ?_⟩
 .rintro i ys U H' hi ⟨v,rfl,rfl,rfl⟩
  rw [length_map]
  have:=HW ls i
  exact oh (by omega)
 .rintro i ys U H' hi ⟨v,rfl,rfl,rfl⟩
  have e0:(0:Int) + (i:Int) = i:=Int.zero_add _
  rw [e0]
  refine ⟨_,rfl,_,rfl,fo,_,rfl,.inl (ah.of xC.1),rfl,mr _,_,rfl,?_⟩
  rw [if_pos rfl,wj]
  by_cases z:(i:Int) ∈ ls
  .rw [decide_eq_true z]
   refine ka ⟨_,rfl,rfl,?_⟩
   rw [A8,if_pos z,append_nil]
  .rw [decide_eq_false z]
   refine bT ⟨_,rfl,_,rfl,rfl,?_⟩
   rw [A8,if_neg z,map_append]
   rfl
 rintro ys U H9 ⟨v,rfl,rfl,rfl⟩ ho Qf
 have fS:=jh (o:=.lst ((ug ls h.toNat).map V.int)) Qf
 refine ⟨_,rfl,_,rfl,XU,λpa Qg=>?_⟩
 have Bx:=jh (o:=.tup [.ref x,.int h,.int f,.ref fo,.ref ho,.ref be,.ref ro]) Qg
 have fs:Fr (λ_=>False) Z' H9 Z' _:=Fr.same (fS.trans Bx)
 have S11:=(S8.same fS).same Bx
 refine k Z' _ W _ pa h f fo ho be ro _ ⟨by show 2 <= ns.length; omega,by show ns.length <= 8; omega,Ba,by show cs.length <= 1000; omega,by show ls.length <= 5; omega,by show 0 < (ug ls h.toNat).length; omega,by show (ug ls h.toNat).length <= 16; omega,by show cs.length <= 2; omega,by show h - f <= (((ug ls h.toNat).length + ls.length:Nat) : Int); have:=j2y (ls:=ls) (n:=h.toNat); omega⟩ S11 ⟨⟨?_,(S8.same fS).w.kr.none Qg⟩,xC.fr fs,⟨Bx _ _ jc,S8.w.kr.none Qf⟩,IL.fr fs,IM.fr fs,rfl⟩
 rw [ex]
 exact jc
theorem j7c {a:Addr}{o:Obj}{aa:List (Key×V)}{g:TG}{tb:TS}{D:Ends}{U:St}{H:Hp}(Pv:Nat->St->Hp->Prop)(h0:Pv 0 U H)(hl:∀i U H,i<=aa.length->Pv i U H->H a=some (.az o (.dK aa)))(hs:∀i kv U H,aa[i]?=some kv->Pv i U H->g kv.2 U H λU2 H2=>tb {D with nx:=Pv (i+1),ct:=Pv (i+1),bk:=D.nx} U2 H2)(hd:∀U H,Pv aa.length U H->D.nx U H):∃W:Nat->Nat->St->Hp->Prop,(∃m,W 0 m U H)/\∀i m U H,W i m U H->((nI a o aa).stop i H/\D.nx U H)\/((nI a o aa).go i H/\∃N:St->Hp->Prop,(∀U' H',N U' H'->∃m',m'<m/\W (i+1) m' U' H')/\∀x H',(nI a o aa).dO i H x H'->g x U H' λU2 H2=>tb {D with nx:=N,ct:=N,bk:=D.nx} U2 H2):=by
 refine⟨λi m U H=>m=aa.length-i/\i<=aa.length/\Pv i U H,⟨aa.length,by simp,zero_le _,h0⟩,?_⟩
 rintro i m U H ⟨rfl,hi,p⟩
 have q:=hl i U H hi p;by_cases ax:i<aa.length
 .refine .inr ⟨⟨ax,q⟩,Pv (i+1),λU' H' p'=>⟨aa.length-(i+1),by lia,rfl,ax,p'⟩,λx H' y=>?_⟩;obtain⟨e,kv,ek,ex⟩:=y;subst e ex;exact hs i kv U _ ek p
 .have e:i=aa.length:=by lia
  subst e;exact .inl ⟨⟨le_refl _,q⟩,hd U H p⟩
def kZ (H:Hp)(Z:ar)(v:V):Option O->Prop
 |none=>v= .aq
 |some o=>zu H Z v o
theorem kZ.fr {P:Role->Prop}{Z Z':ar}{H H':Hp}{v:V}:∀{t:Option O},Fr P Z H Z' H'->kZ H Z v t->kZ H' Z' v t
 |none,_,h=>h
 |some _,f,h=>zu.fr f h
theorem j62 {H:Hp}{Z:ar}{q:Int×Int}:∀{aa:List (List Key×V)}{c:List ((Int×Int)×O)},Paired (λkv (c:(Int×Int)×O)=>kv.1=[.inl c.1.1,.inl c.1.2]/\zu H Z kv.2 c.2) aa c->(aX aa [.inl q.1,.inl q.2]=none/\(c.find? λx=>decide (x.1=q))=none)\/∃v x,aX aa [.inl q.1,.inl q.2]=some v/\(c.find? λx=>decide (x.1=q))=some x/\zu H Z v x.2:=λ{aa c} p=>by
 induction p with
 |nil=>exact .inl ⟨rfl,rfl⟩
 | @cons kv c aa cs a r ih=>
  obtain⟨e,h⟩:=a;by_cases z:c.1=q
  .exact .inr ⟨_,c,w6 (show kv.1=_ by rw[e,z]),List.find?_cons_of_pos (by simpa using z),h⟩
  .rw[wg (λy=>z ?_),List.find?_cons_of_neg (by simpa using z)]
   .exact ih
   .rw[e]at y;have y1:=(List.cons.inj y).1;have y2:=(List.cons.inj (List.cons.inj y).2).1;exact Prod.ext (Sum.inl.inj y1) (Sum.inl.inj y2)
theorem jq0 (T:Txt K mg t):xl P w K mg base CX0 4 t.FD t.FE ["self","house","purse","number"] (λvs H Q _=>∃Z id W Y h B q,vs=[.ref W.x,.int h,.int q.1,.int q.2]/\qu t H Z id W Y/\Y.keep h=some B/\(0<=q.1/\q.1<(Y.n:Int))/\∀v H',yi H H'->kZ H' Z v (vt B q)->Q v H'):=by
 refine T.Zm.cL Nf λ_ A _ s H vs Q E hr h=>?_;obtain⟨Z,id,W,Y,h,B,q,rfl,Ow,ek,hq,k⟩:=h;refine⟨_,(@jd _ _ _ _ _ (j9 (i:=4) Nf.nd rfl (Or.inl rfl) (qj (pv 0) T.jl T.y8 (HP T) hr.dn T.vy .nil ju (je (pv 1) ji))) (@jd _ _ _ _ _ (qb (qj (pv 0) T.jl T.xy (gc T) hr.dn T.yl .nil ju (je (pv 2) ji))) (@jd _ _ _ _ _ (zk (xu (zl (jn (AY T) hr.dn rfl T.AU T.vT.kp T.AV .nil ju (je (pv 3) ji)))) qw qe) (@jg _ _ _ (j6 (TM (gU hr) (qd (pv 4) rfl) (@kH _ _ _ _ _ (@vd _ _ _ _ _ (pv 2) (pv 3) rfl rfl)) ⟨rfl,rfl,rfl,rfl⟩)))))),?_⟩;refine aU λN hN=>⟨_,rfl,W.x,W.dx,_,rfl,Ow.ob.1,xo,_,rfl,Z,id,W,Y,h,B,rfl,Ow,ek,λkk A' dk R=>?_⟩;refine hN _ _ (aU λN hN=>⟨_,rfl,W.x,W.dx,_,rfl,Ow.ob.1,xo,_,rfl,Z,id,W,Y,q.1,rfl,Ow,hq.1,hq.2,?_⟩);refine hN [some (.ref W.x),some (.int h),some (.int q.1),some (.int q.2),some (.ref kk)] _ (aU λN hN=>⟨_,rfl,q.2,rfl,_,rfl,ka (hN _ _ ?_)⟩);obtain⟨aa,hD,pk⟩:=R.cs;refine⟨_,rfl,kk,_,dk,_,_,rfl,R.ob,T.jt,T.qt,(xj A').2.2.2.2.2.1,A' 6,rfl,.inr ⟨aa,.inl hD⟩,_,rfl,_,rfl,pK,λb nb=>?_⟩;have s1:=jh (o:=.tup [.int q.1,.int q.2]) nb;have pk1:Paired (λkv (c:(Int×Int)×O)=>kv.1=[.inl c.1.1,.inl c.1.2]/\zu (upd H b (.tup [.int q.1,.int q.2])) Z kv.2 c.2) aa B.cho:=Paired.xt pk λ_ _ ⟨a,c⟩=>⟨a,c.fr (P:=λ_=>False) (Fr.same s1)⟩;refine⟨aX aa [.inl q.1,.inl q.2],.inr ⟨aa,[.inl q.1,.inl q.2],b,.inl (s1 _ _ hD),rfl,jc,rfl⟩,?_⟩;refine k _ _ s1 ?_;unfold vt;rcases j62 (q:=q) pk1 with⟨e1,e2⟩|⟨v,x,e1,e2,u⟩
 .rw[e1,e2];rfl
 .rw[e1,e2];exact u
noncomputable def lg (H:Hp)(aa:List (List Key×V))(hc:HC):Prop:=Paired (λ(kv:List Key×V)(x:(Int×Int)×List O)=>kv.1=[.inl x.1.1,.inl x.1.2]/\∃l xs,kv.2= .ref l/\H l=some (.lst xs)/\mh H xs x.2) aa hc
theorem By {a b:Int×Int}:([.inl a.1,.inl a.2]:List Key)=[.inl b.1,.inl b.2]↔a=b:=by
 constructor
 .intro y;have y1:=(List.cons.inj y).1;have y2:=(List.cons.inj (List.cons.inj y).2).1;exact Prod.ext (Sum.inl.inj y1) (Sum.inl.inj y2)
 .rintro rfl;rfl
theorem IP {H:Hp}{q:Int×Int}:∀{aa:List (List Key×V)}{hc:HC},lg H aa hc->(aX aa [.inl q.1,.inl q.2]=none/\∀o,dM hc q o=hc++[(q,[o])])\/∃l xs,aX aa [.inl q.1,.inl q.2]=some (.ref l)/\H l=some (.lst xs)/\mh H xs (cB hc q)
 |_,_,.nil=>.inl ⟨rfl,λ_=>rfl⟩
 | kv::aa,c::cs,.cons ⟨e,l,xs,e2,h,ho⟩ r=>by
  unfold cB;by_cases z:c.1=q
  .rw[if_pos z];exact .inr ⟨l,xs,by rw[w6 (show kv.1=_ by rw[e];exact By.mpr z),e2],h,ho⟩
  .rw[if_neg z,wg (λy=>z (By.mp (e.symm.trans y)))];rcases IP (q:=q) r with⟨h1,h2⟩|h1
   .exact .inl ⟨h1,λo=>by show(if c.1=q then _ else c::dM cs q o)=_;rw[if_neg z,h2];rfl⟩
   .exact .inr h1
theorem IQ {k:List Key}{v:V}:∀{aa:List (List Key×V)},aX aa k=some v->v∈aa.map (·.2)
 |[],h=>by cases h
 |p::ps,h=>by
  by_cases z:p.1=k
  .rw[w6 z]at h;cases h;exact mem_cons_self
  .rw[wg z]at h;exact mem_cons_of_mem _ (IQ h)
theorem Qh {H H':Hp}{q:Int×Int}{l:Addr}{xs:List V}{v:V}{o:O}(hl:H l=some (.lst xs))(lY:H' l=some (.lst (xs++[v])))(st:∀b u,H b=some u->b≠l->H' b=some u)(hv:nZ H' v o):∀{aa:List (List Key×V)}{hc:HC},lg H aa hc->(aa.map (·.2)).Nodup->aX aa [.inl q.1,.inl q.2]=some (.ref l)->lg H' aa (dM hc q o)
 |_,_,.nil,_,e=>by cases e
 | kv::aa,c::cs,.cons ⟨e,l2,ys,e2,h,ho⟩ r,nd,ev=>by
  have up:∀{vs:List V}{os:List O},mh H vs os->mh H' vs os:=λp=>Paired.xt p λ_ _ ⟨b,e,hb⟩=>⟨b,e,st _ _ hb (vq hb hl (by intro z;cases z))⟩;rw[map_cons,nodup_cons]at nd;unfold dM;by_cases z:c.1=q
  .rw[if_pos z];rw[w6 (show kv.1=_ by rw[e];exact By.mpr z),e2]at ev;cases ev;rw[hl]at h;cases h;have rest:∀{aa:List (List Key×V)}{cs:HC},lg H aa cs->V.ref l∉aa.map (·.2)->lg H' aa cs:=λ{aa cs} p=>by
    induction p with
    |nil=>exact λ_=>.nil
    |cons a _ ih=>intro n;rw[map_cons,mem_cons,not_or]at n;obtain⟨a1,l3,zs,a2,a3,a4⟩:=a;exact .cons ⟨a1,l3,zs,a2,st _ _ a3 (λy=>n.1 (by rw[a2,y])),up a4⟩ (ih n.2)
   exact .cons ⟨e,l,xs++[v],e2,lY,qo (up ho) hv⟩ (rest r (by rw[e2]at nd;exact nd.1))
  .rw[if_neg z];rw[wg (λy=>z (By.mp (e.symm.trans y)))]at ev;have ne:l2≠l:=λy=>nd.1 (by rw[e2,y];exact IQ ev);exact .cons ⟨e,l2,ys,e2,st _ _ h ne,up ho⟩ (Qh hl lY st hv r nd.2 ev)
theorem IT {H H':Hp}{aa:List (List Key×V)}{hc:HC}(s:yi H H')(c:lg H aa hc):lg H' aa hc:=Paired.xt c λ_ _ ⟨a,l,xs,b,d,e⟩=>⟨a,l,xs,b,s _ _ d,Paired.xt e λ_ _ h=>nZ.same s h⟩
theorem Qi (q:Int×Int)(o:O):∀hc:HC,(dM hc q o).length<=hc.length+1
 |[]=>le_refl _
 |x::xs=>by
  have:=Qi q o xs;unfold dM;split
  .rw[length_cons,length_cons];lia
  .rw[length_cons,length_cons];lia
theorem IU:∀(cs:List ((Int×Int)×O))(hc:HC),(fq hc cs).length<=hc.length+cs.length
 |[],_=>le_refl _
 |c::cs,hc=>by have h1:=IU cs (dM hc c.1 c.2);have h2:=Qi c.1 c.2 hc;rw[length_cons];show(fq (dM hc c.1 c.2) cs).length<=_;lia
theorem Qj (cs:List ((Int×Int)×O))(hc:HC)(q:Int×Int):(cB (fq hc cs) q).length<=(cB hc q).length+cs.length:=by rw[Io,length_append,length_map];have:=length_filter_le (λc:(Int×Int)×O=>decide (c.1=q)) cs;lia
theorem Qk (hc:HC)(a b:List ((Int×Int)×O)):fq hc (a++b)=fq (fq hc a) b:=foldl_append ..
noncomputable def jx3 (t:Ad):Sp:=λvs H Q _=>∃Z W Y T p,vs=[.ref W.x]/\Wl t H Z W Y T p/\T<=60/\∀D aa H',H D=none->yi H H'->H' D=some (.dT aa)->lg H' aa (cJ Y.ks)->Q (.ref D) H'
theorem jm2 (T:Txt K mg t):xl P w K mg base CX0 1 t.FU t.FV ["world"] (jx3 t):=by
 refine T.NG.cL yb λ_ A _ s H vs Q E hr h=>?_;obtain⟨Z,W,Y,T',p,rfl,w0,hT,k⟩:=h;refine⟨_,(@jd _ _ _ _ _ (j9 (i:=1) yb.nd rfl (Or.inl rfl) zE) (@jd _ _ _ _ _ (DF (ij PassesOwn.never rfl (LK (yZ PySem.F.plainAttrs_dict PySem.F.slot_dict_values PySem.F.type_dict_values LJ (qd (pv 0) rfl))) (jr (i:=2) yb.nd rfl (Or.inl rfl)) (@jg _ _ _ (DF (ij PassesOwn.never rfl (Mq (yZ PySem.F.plainAttrs_dict PySem.F.slot_dict_items PySem.F.type_dict_items Mn (qd (pv 2) rfl))) (lG rfl (jy (jr (i:=3) yb.nd rfl (Or.inl rfl)) (jy (jr (i:=4) yb.nd rfl (Or.inl rfl)) kE))) (@jg _ _ _ (qb (dZ PySem.F.plainAttrs_list PySem.F.slot_list_append PySem.F.type_list_append yg (LY (gU hr) (pv 1) (pv 3) (@zh _ _ _ _ ji) ⟨rfl,rfl,rfl,rfl⟩) (je (pv 4) ji))))))))) (@jg _ _ _ (j6 (pv 1))))),?_⟩;have Ow:=w0.o;refine aU λN hN=>λD nD=>?_;have s1:=jh (o:=.dT []) nD;have O1:=Ow.same s1;obtain⟨rk,aa,kd,ks⟩:=O1.kd;have lk:aa.length=Y.ks.length:=Paired.length ks;refine hN [some (.ref W.x),some (.ref D),none,none,none] _ (aU λN hN=>⟨_,rfl,W.x,_,W.dx,_,_,rfl,O1.ob.1,T.jl,T.qp,pq,.inr (.inr (.inl ⟨rfl,.inl ⟨_,kd⟩⟩)),W.kd,aa,rfl,rfl,kd,λvw HS=>?_⟩);have sv:=jh (o:=fE vw W.kd) HS;have s2:=s1.trans sv;have fZ:=sv _ _ kd;have rY:xn t (upd (upd H D (.dT [])) vw (fE vw W.kd)) Z 0 aa Y.ks:=xn.fr (P:=λ_=>False) (Fr.same sv) (λ_ _ z=>z) ks;have gv:upd (upd H D (.dT [])) vw (fE vw W.kd) vw=some (fE vw W.kd):=jc;have pQ:upd (upd H D (.dT [])) vw (fE vw W.kd) D=some (.dT []):=sv _ _ jc;generalize upd (upd H D (.dT [])) vw (fE vw W.kd)=H2 at s2 fZ rY gv pQ;have kD:W.kd≠D:=λz=>by rw[z,pQ]at fZ;cases fZ
 obtain⟨L,gn,sk⟩:=w0.g;have k16:=gn.ok.k1;have Ql:∀c∈Y.ks,c.2.cho.length<=60:=λc hc=>by have:=(gn.ks c hc).1.sz.uc;omega
 have IV:∀i,i<=Y.ks.length->((Y.ks.take i).flatMap λc=>c.2.cho).length<=60*i:=λi hi=>by
  induction i with
  |zero=>simp
  |succ i ih=>
   obtain⟨c,ec⟩:∃c,Y.ks[i]?=some c:=⟨_,getElem?_eq_getElem (by omega)⟩;rw[take_snoc ec,List.flatMap_append,length_append];have h1:=ih (by omega);have h2:=Ql c (mem_of_getElem? ec);have h3:([c].flatMap λc=>c.2.cho).length=c.2.cho.length:=by simp
   omega
 refine⟨vw,W.kd,aa,rfl,gv,fZ,λoo=>j7c (λi U H'=>∃v1 v2 v3 aD,U=[some (.ref W.x),some (.ref D),v1,v2,v3]/\H' D=some (.dT aD)/\(aD.map (·.2)).Nodup/\lg H' aD (cJ (Y.ks.take i))/\(∀kv∈aD,∀l,kv.2= .ref l->H2 l=none)/\wI (upd H2 W.kd (.az oo (.dK aa))) D H') ?_ ?_ ?_ ?_⟩
 .exact⟨none,none,none,[],rfl,by rw[jf kD.symm];exact pQ,nodup_nil,.nil,λ_ z=>(by cases z),λ_ _ e _=>e⟩
 .rintro i U H' hi ⟨v1,v2,v3,aD,_,_,_,_,_,f⟩
  exact f _ _ jc kD
 .rintro i kv U H' ek ⟨v1,v2,v3,aD,rfl,rT,nd,cc,fr,f⟩
  obtain⟨c,ec,e1,kk,A',dk,e2,R⟩:=j7 rY ek;have hi:=(List.getElem?_eq_some_iff.mp ek).1;have cm:c∈Y.ks:=mem_of_getElem? ec;rw[e2];have at_:∀{b u},H2 b=some u->b≠W.kd->b≠D->H' b=some u:=λe n1 n2=>f _ _ (by rw[jf n1];exact e) n2;obtain⟨ou,hC,pC⟩:=R.cs;have mB:H' kk=some (.ins t.j5 dk (eK A')):=at_ R.ob (vq R.ob fZ (by intro z;cases z)) (vq R.ob pQ (by intro z;cases z));have CD:A' 6≠D:=λz=>by obtain⟨r6,_⟩:=R.fl 6 (by decide) (by decide);rw[z]at r6;rw[w0.kr.none nD]at r6;cases r6
  have xD:H' (A' 6)=some (.dT ou):=at_ hC (vq hC fZ (by intro z;cases z)) CD;have lc:ou.length=c.2.cho.length:=Paired.length pC;have cl:=Ql c cm;have fl:=IV i (by omega);refine⟨_,rfl,kk,_,dk,_,_,rfl,mB,T.jt,T.qt,(xj A').2.2.2.2.2.1,.inr (.inr (.inl ⟨rfl,.inr ⟨_,xD⟩⟩)),A' 6,ou,rfl,rfl,xD,λsE A1=>?_⟩;have xE:=jh (o:=jB sE (A' 6)) A1;have gv2:upd H' sE (jB sE (A' 6)) sE=some (jB sE (A' 6)):=jc;refine⟨sE,A' 6,ou,rfl,gv2,xE _ _ xD,λo2=>XQ (λj U dR=>∃w2 w3 aD,U=[some (.ref W.x),some (.ref D),some (.ref kk),w2,w3]/\dR D=some (.dT aD)/\(aD.map (·.2)).Nodup/\lg dR aD (fq (cJ (Y.ks.take i)) (c.2.cho.take j))/\(∀kv∈aD,∀l,kv.2= .ref l->H2 l=none)/\dR (A' 6)=some (.az o2 (.dT ou))/\∀b u,upd H2 W.kd (.az oo (.dK aa)) b=some u->b≠D->b≠A' 6->dR b=some u) ?_ ?_ ?_ ?_⟩
  .refine⟨v2,v3,aD,rfl,?_,nd,?_,fr,jc,λb u e n1 n2=>?_⟩
   .rw[jf CD.symm];exact xE _ _ rT
   .refine Paired.xt cc λ_ _ ⟨a1,l,xs,a2,a3,a4⟩=>⟨a1,l,xs,a2,?_,Paired.xt a4 λ_ _ ⟨b,e,hb⟩=>⟨b,e,?_⟩⟩
    .rw[jf (vq a3 xD (by intro z;cases z))];exact xE _ _ a3
    .rw[jf (vq hb xD (by intro z;cases z))];exact xE _ _ hb
   .rw[jf n2];exact xE _ _ (f _ _ e n1)
  .rintro j U dR hj ⟨w2,w3,aD,_,_,_,_,_,h6,_⟩
   exact h6
  .rintro j kv2 b q1 U dR Qm eb IW ⟨w2,w3,aD,rfl,IY,nd,cc,fr,h6,ff⟩
   obtain⟨x,ex,qB,a,ea,na,ha⟩:=j7 pC Qm;have hj:j<ou.length:=(List.getElem?_eq_some_iff.mp Qm).1;rw[qB]at eb;have sq:=jh (o:=.tup [.ref b,kv2.2]) IW;have IZ:dR a=some (.tup (cz x.2)):=ff _ _ (by rw[jf (vq ha fZ (by intro z;cases z))];exact ha) (vq ha pQ (by intro z;cases z)) (vq ha hC (by intro z;cases z));refine⟨q1,_,rfl,aA.of jc,rfl,_,_,rfl,_,_,rfl,rfl,?_⟩;rw[ea]at sq⊢;have Qn:=sq _ _ eb;have xF:=sq _ _ IZ;have qC:=sq _ _ IY;have xG:=sq _ _ h6;have xH:=IT sq cc;have xI:∀b' u,upd H2 W.kd (.az oo (.dK aa)) b'=some u->b'≠D->b'≠A' 6->upd dR q1 (.tup [.ref b,.ref a]) b'=some u:=λb' u e n1 n2=>sq _ _ (ff _ _ e n1 n2);generalize upd dR q1 (.tup [.ref b,.ref a])=H3 at Qn xF qC xG xH xI;refine⟨_,rfl,D,rfl,.inr ⟨aD,.inl qC⟩,_,rfl,cG,λr nr=>?_⟩;have sr:=jh (o:=.lst []) nr;have Ja:=sr _ _ qC;have Bz:=IT sr xH;have ldv:aD.length<=1000:=by
    rw[Paired.length cc];have h1:=IU (c.2.cho.take j) (cJ (Y.ks.take i));have h2:=IU ((Y.ks.take i).flatMap λc=>c.2.cho) [];have h3:(c.2.cho.take j).length<=60:=by rw[length_take];omega
    have h4:(cJ (Y.ks.take i)).length<=60*i:=le_trans h2 (by show 0+_<=_;omega);omega
   have Qo:∀q,(cB (fq (cJ (Y.ks.take i)) (c.2.cho.take j)) q).length<=1000:=λq=>by
    have h1:=Qj (c.2.cho.take j) (cJ (Y.ks.take i)) q;have h2:=Qj ((Y.ks.take i).flatMap λc=>c.2.cho) [] q;have h3:(c.2.cho.take j).length<=60:=by rw[length_take];omega
    have h4:(cB (cJ (Y.ks.take i)) q).length<=60*i:=le_trans h2 (by show 0+_<=_;omega);omega
   have et:fq (cJ (Y.ks.take i)) (c.2.cho.take (j+1))=dM (fq (cJ (Y.ks.take i)) (c.2.cho.take j)) x.1 x.2:=by rw[take_snoc ex,Qk];rfl
   rw[et];generalize fq (cJ (Y.ks.take i)) (c.2.cho.take j)=hc at xH Bz Qo;have up:∀{G:Hp},yi H3 G->∀b' u,upd H2 W.kd (.az oo (.dK aa)) b'=some u->b'≠D->b'≠A' 6->G b'=some u:=λs b' u e n1 n2=>s _ _ (xI _ _ e n1 n2);refine⟨aD,[.inl x.1.1,.inl x.1.2],b,Ja,rfl,sr _ _ Qn,ze ldv,λv hv=>?_,λhv=>?_⟩
   .rcases IP (q:=x.1) Bz with⟨z,_⟩|⟨l,xs,e3,hl,pl⟩
    .rw[hv]at z;cases z
    rw[hv]at e3;cases e3;have lx:xs.length<=1000:=by rw[Paired.length pl];exact Qo _
    have lD:l≠D:=λz=>by rw[z,Ja]at hl;cases hl
    have l6:l≠A' 6:=λz=>by rw[z,sr _ _ xG]at hl;cases hl
    refine⟨.inl ⟨rfl,_,ah.of hl⟩,_,rfl,l,xs,_,rfl,rfl,hl,ze lx,_,_,aD,rfl,by rw[jf lD.symm];exact Ja,nd,Qh hl jc (λb' u e n=>by rw[jf n];exact e) ⟨a,rfl,by rw[jf (vq (sr _ _ xF) hl (by intro z;cases z))];exact sr _ _ xF⟩ Bz nd hv,fr,by rw[jf l6.symm];exact sr _ _ xG,λb' u e n1 n2=>?_⟩;rw[jf (λy=>?_)]
    .exact up sr b' u e n1 n2
    .obtain⟨BA,mH,ek3⟩:=mem_map.mp (IQ hv);have:=fr BA mH l ek3;rw[y,jf (λz=>by rw[z,fZ]at this;cases this),this]at e;cases e
   .rcases IP (q:=x.1) Bz with⟨_,ad⟩|⟨l,xs,e3,_⟩
    rotate_left
    .rw[hv]at e3;cases e3
    rw[tJ _ hv,ad];have rD:r≠D:=(jj qC nr).symm;have r6:r≠A' 6:=(jj xG nr).symm;have Qp:upd (upd H3 r (.lst [])) D (.dT (aD++[([.inl x.1.1,.inl x.1.2],.ref r)])) r=some (.lst []):=by rw[jf rD,jc]
    have st:∀b' u,H3 b'=some u->b'≠D->upd (upd (upd H3 r (.lst [])) D (.dT (aD++[([.inl x.1.1,.inl x.1.2],.ref r)]))) r (.lst ([]++[.ref a])) b'=some u:=λb' u e n=>by have br:b'≠r:=jj e nr;rw[jf br,jf n,jf br];exact e
    have H2r:H2 r=none:=by
     cases e:H2 r with
     |none=>rfl
     |some u=>
      by_cases z:r=W.kd
      .have:=xI W.kd _ jc kD (λy=>by rw[y]at fZ;rw[fZ]at hC;cases hC);rw[<-z,nr]at this;cases this
      .have:=xI r u (by rw[jf z];exact e) rD r6;rw[nr]at this;cases this
    refine⟨.inl ⟨rfl,_,ah.of Qp⟩,_,rfl,r,[],_,rfl,rfl,Qp,ze (by decide),_,_,aD++[([.inl x.1.1,.inl x.1.2],.ref r)],rfl,by rw[jf rD.symm,jc],?_,qo (Paired.xt xH λ_ _ ⟨a1,l,xs,a2,a3,a4⟩=>⟨a1,l,xs,a2,st _ _ a3 (vq a3 qC (by intro z;cases z)),Paired.xt a4 λ_ _ ⟨b',e,dD⟩=>⟨b',e,st _ _ dD (vq dD qC (by intro z;cases z))⟩⟩) ⟨rfl,r,[.ref a],rfl,jc,.cons ⟨a,rfl,st _ _ xF (vq xF qC (by intro z;cases z))⟩ .nil⟩,λBA mH l el=>?_,st _ _ xG CD,λb' u e n1 n2=>st _ _ (xI _ _ e n1 n2) n1⟩
    .rw[map_append];refine nodup_append.mpr ⟨nd,by simp,λv CT y hy e=>?_⟩;rw[List.map_singleton,mem_singleton]at hy;obtain⟨BA,mH,rfl⟩:=mem_map.mp CT;obtain⟨i3,hi3⟩:=List.mem_iff_getElem?.mp mH;obtain⟨_,_,_,l,xs,a2,a3,_⟩:=j7 xH hi3;rw[a2,hy]at e;cases e;rw[nr]at a3;cases a3
    .rcases mem_append.mp mH with mH|mH
     .exact fr BA mH l el
     .rw[mem_singleton.mp mH]at el;cases el;exact H2r
  .rintro U dR ⟨w2,w3,aD,rfl,IY,nd,cc,fr,h6,ff⟩
   rw[lc,take_length]at cc;have gP:∀b u,dR b=some u->b≠A' 6->upd dR (A' 6) (.dT ou) b=some u:=λb u e n=>by rw[jf n];exact e
   refine⟨A' 6,o2,.dT ou,h6,(λo' u' z=>?_),True.intro,_,w2,w3,aD,rfl,gP _ _ IY CD.symm,nd,?_,fr,λb' u e n1=>?_⟩
   .have z':H (A' 6)=some (.az o' u'):=z;have z2:=s2 _ _ z';rw[hC]at z2;cases z2
   .have eC:cJ (Y.ks.take (i+1))=fq (cJ (Y.ks.take i)) c.2.cho:=by
     unfold cJ;rw[take_snoc ec,List.flatMap_append,Qk];congr 1;simp
    rw[eC];refine Paired.xt cc λ_ _ ⟨a1,l,xs,a2,a3,a4⟩=>⟨a1,l,xs,a2,gP _ _ a3 (vq a3 h6 (by intro z;cases z)),Paired.xt a4 λ_ _ ⟨b',e,dD⟩=>⟨b',e,gP _ _ dD (vq dD h6 (by intro z;cases z))⟩⟩
   .by_cases z:b'=A' 6
    .rw[z]at e⊢;rw[jf (vq hC fZ (by intro z;cases z)),hC]at e;rw[jc,<-e]
    .exact gP _ _ (ff _ _ e n1 z) z
 rintro U H' ⟨v1,v2,v3,aD,rfl,rT,nd,cc,fr,f⟩
 rw[lk,take_length]at cc;have tR:=f _ _ jc kD;have gQ:∀b u,H' b=some u->b≠W.kd->upd H' W.kd (.dK aa) b=some u:=λb u e n=>by rw[jf n];exact e
 refine⟨W.kd,oo,.dK aa,tR,(λo' u' z=>?_),True.intro,hN [some (.ref W.x),some (.ref D),v1,v2,v3] _ ⟨_,rfl,k D aD _ nD (λb u e=>?_) (gQ _ _ rT kD.symm) ?_⟩⟩
 .have z':H W.kd=some (.az o' u'):=z;have z2:=s2 _ _ z';rw[fZ]at z2;cases z2
 .by_cases z:b=W.kd
  .rw[z]at e⊢;have e2:=s2 _ _ e;rw[fZ]at e2;rw[jc,e2]
  .exact gQ _ _ (f _ _ (by rw[jf z];exact s2 _ _ e) (jj e nD)) z
 .exact Paired.xt cc λ_ _ ⟨a1,l,xs,a2,a3,a4⟩=>⟨a1,l,xs,a2,gQ _ _ a3 (vq a3 tR (by intro z;cases z)),Paired.xt a4 λ_ _ ⟨b',e,dD⟩=>⟨b',e,gQ _ _ dD (vq dD tR (by intro z;cases z))⟩⟩
theorem Qq {H:Hp}{K:W.Frag}:∀{xs:List V}{os:List O},mh H xs os->Paired (iF K H) xs (os.map λo=>some (yh o))
 |_,_,.nil=>.nil
 |_,_,.cons ⟨a,e,h⟩ r=>.cons ⟨a,e,aA.of h⟩ (Qq r)
theorem Qr (o:O):∀os:List O,(os.map λo=>some (yh o)).count (some (yh o))=os.count o
 |[]=>rfl
 |u::os=>by
  rw[map_cons,count_cons,count_cons,Qr o os];by_cases z:u=o
  .simp[z]
  .have:¬yh u=yh o:=λy=>z (wC y);simp[z,this]
noncomputable def jxu (t:Ad):Sp:=λvs H Q _=>∃Z W Y T p a xs os,vs=[.ref W.x,.ref a]/\Wl t H Z W Y T p/\H a=some (.lst xs)/\mh H xs os/\os≠[]/\os.length<=1000/\∀b H',yi H H'->(b=true↔∀o∈os,(os.count o:Int)+((Y.ks.length:Int)-os.length)+p.ls.length<Y.en)->Q (.bl b) H'
theorem jv6 (T:Txt K mg t):xl P w K mg base CX0 1 t.FW t.FX ["world","orders"] (jxu t):=by
 refine T.NH.cL Ey λ_ A _ s H vs Q E hr h=>?_;obtain⟨Z,W,Y,T',p,a,xs,os,rfl,w0,ha,po,ne,lo,k⟩:=h;refine⟨_,(@jd _ _ _ _ _ (j9 (i:=2) Ey.nd rfl (Or.inl rfl) (jo (Eg rfl) rfl T.Hh boot_max (je (y9 (N':=["order","orders"]) (ix:=[none,some 1]) (zd (by kernel_rfl)) rfl (@gh _ _ _ _ (pv 1)) (λ_ _ _ _=>(jr (i:=0) X8 rfl (Or.inl rfl) (.inr rfl))) (λ_ _ _ _=>lW) (λ_ _ _ _=>(M8 (K:=K) rfl PySem.F.plainAttrs_list PySem.F.slot_list_count PySem.F.type_list_count (M7 (K:=K) rfl hr.units) (pv 1) (je (pv 0) ji)))) ji))) (@jd _ _ _ _ _ (j9 (i:=3) Ey.nd rfl (Or.inl rfl) (zt iT (jo TQ rfl T.cO boot_len (je (qd (pv 0) rfl) ji)) (jo jw rfl T.cO boot_len (je (pv 1) ji)))) (@jg _ _ _ (j6 (lM qQ (zt eU (zt eU (pv 2) (pv 3)) (jo jw rfl T.cO boot_len (je (qd (pv 0) rfl) ji))) (qd (qd (pv 0) rfl) rfl) (qi _)))))),?_⟩;have lx:xs.length=os.length:=Paired.length po;refine aU λN hN=>⟨_,rfl,a,rfl,⟨_,ah.of ha⟩,iw (K:=K) (a:=a) (xs:=xs) (λi ys U H'=>∃v,U=[v,some (.ref a)]/\H'=H/\ys=((os.take i).map λo=>(os.count o:Int)).map V.int) ⟨none,rfl,rfl,rfl⟩ ?_ ?_ ?_⟩
 .rintro i ys U H' hi ⟨v,rfl,rfl,rfl⟩
  refine⟨ah.of ha,oh ?_⟩;rw[length_map,length_map,length_take];omega
 .rintro i y ys U H' ey ⟨v,rfl,rfl,rfl⟩
  obtain⟨o,eo,q,rfl,hq⟩:=j7 po ey;dsimp only[dy,kK];rw[if_pos rfl];refine⟨_,rfl,.inl ⟨rfl,_,ah.of ha⟩,_,rfl,a,xs,.ref q,some (yh o),os.map (λo=>some (yh o)),rfl,rfl,ah.of ha,⟨q,rfl,aA.of hq⟩,Qq po,?_⟩;refine⟨_,rfl,rfl,?_⟩;rw[Qr,take_snoc eo,map_append,map_append];rfl
 rintro ys U H' ⟨v,rfl,rfl,rfl⟩ r1 nr1
 rw[lx,take_length];have s1:=jh (o:=.lst ((os.map λo=>(os.count o:Int)).map V.int)) nr1;refine⟨r1,os.map (λo=>(os.count o:Int)),rfl,ah.of jc,by rw[length_map];exact length_pos_iff.mpr ne,λM hM mx=>?_⟩;generalize upd H' r1 (.lst ((os.map λo=>(os.count o:Int)).map V.int))=H1 at s1;have O1:=w0.o.same s1;obtain⟨rk,aa,kd,ks⟩:=O1.kd;have lk:aa.length=Y.ks.length:=Paired.length ks;refine hN [some (.ref W.x),some (.ref a),some (.int M),none] _ (aU λN hN=>⟨_,rfl,W.x,_,W.dx,_,_,rfl,O1.ob.1,T.jl,T.qp,pq,W.kd,aa,rfl,kd,_,rfl,a,xs,rfl,.inl (ah.of (s1 _ _ ha)),_,_,rfl,rfl,?_⟩);obtain⟨rb,rS,rO,Bq,sgr⟩:=O1.bd;refine hN [some (.ref W.x),some (.ref a),some (.int M),some (.int ((aa.length:Int)-(xs.length:Int)))] _ ⟨_,rfl,_,rfl,_,_,rfl,rfl,_,rfl,W.x,_,W.dx,_,_,rfl,O1.ob.1,T.jl,T.Hd,OB,W.ly,_,rfl,.inl (ah.of (s1 _ _ w0.ly.1)),_,_,rfl,rfl,_,rfl,W.x,_,W.dx,_,_,rfl,O1.ob.1,T.jl,T.xr,wG,W.bd,_,W.db,_,_,rfl,Bq.ob,T.xx,T.xg,vV _ _,_,_,rfl,rfl,?_⟩;refine k _ _ s1 ?_;rw[decide_eq_true_iff,length_map,lk,lx];obtain⟨u,hu,rfl⟩:=mem_map.mp hM;constructor
 .intro h o ho;have:=mx _ (mem_map_of_mem ho);omega
 .intro h;exact h u hu
theorem jY {cs:List Int}(l:cs.length<=2)(r:∀x∈cs,0<=x/\x<8):∃a b:Nat,a<8/\b<8/\∀z∈cs,z=(a:Int)\/z=(b:Int):=by match cs,l,r with
 |[],_,_=>exact⟨0,0,by decide,by decide,λ_ z=>by cases z⟩
 |[x],_,r=>have hx:=r x (by simp);refine⟨x.toNat,0,by lia,by decide,λz hz=>.inl ?_⟩;rw[mem_singleton.mp hz];lia
 |[x,y],_,r=>
  have hx:=r x (by simp);have hy:=r y (by simp);refine⟨x.toNat,y.toNat,by lia,by lia,λz hz=>?_⟩;rcases mem_cons.mp hz with rfl|hz
  .exact .inl (by lia)
  .rw[mem_singleton.mp hz];exact .inr (by lia)
 |_::_::_::_,l,_=>simp at l
theorem jq4 (T:Txt K mg t):xl P w K mg base CX0 1 t.E7 t.E8 ["thing"] (λvs H Q _=>∃x dx fs,vs=[.ref x]/\H x=some (.ins t.j4 dx fs)/\Q .aq H):=by refine T.NB.bj (N:=["thing"]) λ_ A _ s H vs Q E hr h=>?_;obtain⟨x,dx,fs,rfl,hx,k⟩:=h;refine⟨_,(@jg _ _ _ (zk (xu (zl (jo Xt rfl T.jx boot_isinstance (@vd _ _ _ _ _ (pv 0) (zg (v:=.ref t.j4) rfl T.N3 rfl) rfl rfl)))) qw qe)),?_⟩;exact⟨_,rfl,x,t.j4,dx,fs,rfl,hx,T.jl,T.jw1,_,rfl,ka k⟩
def xJ (Y:Wd)(p:Pt)(k:Int):Prop:=∃q:Int×Int,cQ (vf Y q) p.ls.length Y.en/\q.1=k
noncomputable def jyr (t:Ad):Sp:=λvs H Q _=>∃Z W Y T p,vs=[.ref W.x]/\Wl t H Z W Y T p/\p.Ok/\T<=60/\∀r js H',H r=none->yi H H'->H' r=some (.lst ((js:List Nat).map λ(j:Nat)=>V.int j))->js∈cy->(∀k:Nat,k∈js↔xJ Y p (k:Int))->Q (.ref r) H'
theorem Qs (T:Txt K mg t):xl P w K mg base CX0 2 t.FY t.FZ ["world"] (jyr t):=by
 refine T.GZ.cL Ni λ_ A _ s H vs Q E hr h=>?_;obtain⟨Z,W,Y,T',p,rfl,w0,ok,hT,k⟩:=h;refine⟨_,(@jd _ _ _ _ _ (qb (jn (jq4 T) hr.dn rfl T.YE T.NB.kp T.YF .nil ju (je (pv 0) ji))) (@jd _ _ _ _ _ (j9 (i:=1) Ni.nd rfl (Or.inl rfl) (jn (jm2 T) hr.dn rfl T.ZM T.NG.kp T.ZN .nil ju (je (pv 0) ji))) (@jg _ _ _ (j6 (jo (Ml rfl) rfl T.Hg boot_sorted (je (DG (XN (N':=["purse","number","orders","world"]) (ix:=[none,none,none,some 0]) (zd (by kernel_rfl)) rfl (Mq (yZ PySem.F.plainAttrs_dict PySem.F.slot_dict_items PySem.F.type_dict_items Mn (pv 1))) (λ_ _ _ _=>(LW (K:=K) (t:=(oF (CJ K 2 (oF (dy 0) (oF (dy 1) yK))) (oF (dy 2) yK))) rfl rfl 2 (jy (LW (K:=K) (t:=(oF (dy 0) (oF (dy 1) yK))) rfl rfl 2 (jy (jr (i:=0) EB rfl (Or.inl rfl) (.inr rfl)) (jy (jr (i:=1) EB rfl (Or.inl rfl) (.inr rfl)) kE)) rfl rfl) (jy (jr (i:=2) EB rfl (Or.inl rfl) (.inr rfl)) kE)) rfl rfl)) (λ_ _ _ _=>(lX (zl (jn (jv6 T) hr.dn rfl T.ZO T.NH.kp T.ZP .nil ju (@vd _ _ _ _ _ (pv 3) (pv 2) rfl rfl))))) (λ_ _ _ _=>(pv 0)))) ji)))))),?_⟩;obtain⟨L,gn,sk⟩:=w0.g;have he:Y.en<=((Y.ks.length+p.ls.length:Nat):Int):=by
  have h1:=ok.he;have h2:=congrArg List.length w0.h;rw[length_map]at h2;rw[w0.en];omega
 have stq:∀(x:(Int×Int)×List O),x∈cJ Y.ks->x.2≠[]/\((∀o∈x.2,(x.2.count o:Int)+((Y.ks.length:Int)-x.2.length)+p.ls.length<Y.en)↔cQ (vf Y x.1) p.ls.length Y.en):=λx hx=>by
  have BB:ot (cJ Y.ks):=Im _ _ ⟨nodup_nil,λ_ z=>by cases z⟩;have ne:=BB.ne x hx;have e:x.2=(vf Y x.1).filterMap id:=by rw[<-PF BB.nd hx];exact Ip sk.kv
  refine⟨ne,?_⟩;have l1:=si (vf Y x.1);have l2:(vf Y x.1).length=Y.ks.length:=length_map ..;rw[e];constructor
  .intro h;obtain⟨o,ho⟩:∃o,o∈(vf Y x.1).filterMap id:=by
    rw[<-e];cases hh:x.2 with
    |nil=>exact absurd hh ne
    |cons o _=>exact⟨o,mem_cons_self⟩
   refine⟨⟨o,so.mp ho⟩,λu=>?_⟩;by_cases z:u∈(vf Y x.1).filterMap id
   .have:=h u z;rw[Bs]at this;omega
   .have h1:=h o ho;have h2:(vf Y x.1).count (some u)=0:=List.count_eq_zero.mpr λy=>z (so.mpr y);omega
  .rintro⟨_,h⟩ o _
   have:=h o;rw[Bs];omega
 obtain⟨ca,cb,Jb,Jc,iN⟩:=jY ok.ct λx hx=>by have:=ok.c x hx;have:=ok.l8;omega
 have xK:∀k,xJ Y p k->k=(ca:Int)\/k=(cb:Int):=λk ⟨q,st,e⟩=>iN k (by rw[<-e,<-w0.c];exact Pz gn sk he st);refine aU λN hN=>⟨_,rfl,W.x,W.dx,_,rfl,w0.o.ob.1,hN [some (.ref W.x),none] _ (aU λN hN=>⟨_,rfl,Z,W,Y,T',p,rfl,w0,hT,λD aa H1 nD s1 hD cc=>?_⟩)⟩;have lk:aa.length=(cJ Y.ks).length:=Paired.length cc;refine hN [some (.ref W.x),some (.ref D)] _ ⟨_,rfl,.inr (.inr (.inl ⟨rfl,.inr ⟨_,hD⟩⟩)),D,aa,rfl,rfl,hD,λvw nvw=>?_⟩;have sv:=jh (o:=jB vw D) nvw;have gv:upd H1 vw (jB vw D) vw=some (jB vw D):=jc;have BC:=sv _ _ hD;have Qt:=IT sv cc;have s2:=s1.trans sv;generalize upd H1 vw (jB vw D)=H2 at sv gv BC Qt s2;refine⟨vw,D,aa,rfl,gv,BC,λoo=>λS nS=>?_⟩;have SD:S≠D:=λz=>by rw[z,jc]at nS;cases nS
 have Qu:H2 S=none:=by rw[jf SD]at nS;exact nS
 refine XR (λi U H'=>∃v0 v1 v2 js,U=[v0,v1,v2,some (.ref W.x)]/\(∀b u,H2 b=some u->b≠D->H' b=some u)/\H' D=some (.az oo (.dT aa))/\H' S=some (gL w S js)/\js∈cy/\∀k:Nat,k∈js↔∃x∈(cJ Y.ks).take i,cQ (vf Y x.1) p.ls.length Y.en/\x.1.1=(k:Int)) ?_ ?_ ?_ ?_
 .refine⟨none,none,none,[],rfl,λb u e n=>?_,by rw[jf SD.symm,jc],jc,by decide,λk=>by simp⟩;rw[jf (jj e Qu),jf n];exact e
 .rintro i U H' hi ⟨v0,v1,v2,js,_,_,ba,_⟩
  exact ba
 .rintro i kv b q1 U H' ek eb IW ⟨v0,v1,v2,js,rfl,st,ba,hS,hj,mj⟩
  obtain⟨x,ex,qB,l,xs,el,hl,ol⟩:=j7 Qt ek;rw[qB]at eb;have sq:=jh (o:=.tup [.ref b,kv.2]) IW;have lY:H' l=some (.lst xs):=st _ _ hl (vq hl BC (by intro z;cases z));have ol':mh H' xs x.2:=Paired.xt ol λ_ _ ⟨b',e,dD⟩=>⟨b',e,st _ _ dD (vq dD BC (by intro z;cases z))⟩;have xm:x∈cJ Y.ks:=mem_of_getElem? ex;obtain⟨xne,Qv⟩:=stq x xm;have sH:yi H H':=λb' u e=>st _ _ (s2 _ _ e) (jj e nD);have lx:x.2.length<=1000:=by
   have BB:ot (cJ Y.ks):=Im _ _ ⟨nodup_nil,λ_ z=>by cases z⟩;have e:x.2=(vf Y x.1).filterMap id:=by rw[<-PF BB.nd xm];exact Ip sk.kv
   have l1:=si (vf Y x.1);have l2:(vf Y x.1).length=Y.ks.length:=length_map ..;have:=gn.ok.k1;rw[e];omega
  refine⟨q1,_,rfl,aA.of jc,rfl,_,_,rfl,⟨b,_,rfl,aA.of (sq _ _ eb),rfl,_,_,rfl,_,_,rfl,rfl,_,_,rfl,rfl,?_⟩⟩;rw[el]at sq⊢;have wq:Wl t (upd H' q1 (.tup [.ref b,.ref l])) Z W Y T' p:=w0.fr (P:=λ_=>False) (Fr.same (sH.trans sq)) (λ_ z=>z) (w0.kr.same (sH.trans sq));refine⟨_,rfl,_,rfl,Z,W,Y,T',p,l,xs,x.2,rfl,wq,sq _ _ lY,Paired.xt ol' λ_ _ h=>nZ.same sq h,xne,lx,λbb H3 s3 hb=>⟨bb,rfl,?_⟩⟩;have xM:=sq.trans s3;have sR:∀b' u,H2 b'=some u->b'≠D->H3 b'=some u:=λb' u e n=>xM _ _ (st _ _ e n);have tk:∀k:Nat,(∃y∈(cJ Y.ks).take (i+1),cQ (vf Y y.1) p.ls.length Y.en/\y.1.1=(k:Int))↔(∃y∈(cJ Y.ks).take i,cQ (vf Y y.1) p.ls.length Y.en/\y.1.1=(k:Int))\/(cQ (vf Y x.1) p.ls.length Y.en/\x.1.1=(k:Int)):=λk=>by
   rw[take_snoc ex];constructor
   .rintro⟨y,hy,r⟩
    rcases mem_append.mp hy with hy|hy
    .exact .inl ⟨y,hy,r⟩
    .rw[mem_singleton.mp hy]at r;exact .inr r
   .rintro(⟨y,hy,r⟩|r)
    .exact⟨y,mem_append_left _ hy,r⟩
    .exact⟨x,mem_append_right _ (mem_singleton.mpr rfl),r⟩
  cases bb with
  |false=>
   have BD:¬cQ (vf Y x.1) p.ls.length Y.en:=λz=>by have:=hb.mpr (Qv.mpr z);cases this
   refine ka ⟨_,_,_,js,rfl,sR,xM _ _ ba,xM _ _ hS,hj,λk=>?_⟩;rw[mj,tk];exact⟨.inl,λy=>y.resolve_right λz=>BD z.1⟩
  | true=>
   have iL:=Qv.mp (hb.mp rfl);obtain⟨j,ej,j8⟩:∃j:Nat,x.1.1=(j:Int)/\j<8:=by
    rcases xK x.1.1 ⟨x.1,iL,rfl⟩with z|z
    .exact⟨ca,z,Jb⟩
    .exact⟨cb,z,Jc⟩
   have Qw:∀m:Nat,xJ Y p m->m=ca\/m=cb:=λm h=>by
    rcases xK m h with z|z
    .exact .inl (by omega)
    .exact .inr (by omega)
   refine bT ⟨_,rfl,js,j,xM _ _ hS,hj,by rw[ej];rfl,j8,gK hj (λm hm=>Qw m (let⟨y,_,h1,h2⟩:=(mj m).mp hm;⟨y.1,h1,h2⟩)) (Qw j ⟨x.1,iL,ej⟩),λbM BE Jd=>⟨_,_,_,bM,rfl,λb' u e n=>?_,by rw[jf SD.symm];exact xM _ _ ba,jc,BE,λm=>?_⟩⟩
   .rw[jf (jj e Qu)];exact sR _ _ e n
   .rw[Jd,mj,tk];exact⟨λy=>y.imp id λe=>⟨iL,by rw[e];exact ej⟩,λy=>y.imp id λe=>by have:=e.2;omega⟩
 rintro U H' ⟨v0,v1,v2,js,rfl,st,ba,hS,hj,mj⟩
 rw[lk,take_length]at mj;refine⟨D,oo,.dT aa,ba,(λo' u' z=>?_),True.intro,⟨S,js,rfl,by rw[jf SD];exact hS,hj,λr nr=>?_⟩⟩
 .have z':H D=some (.az o' u'):=z;rw[nD]at z';cases z'
 have sF:yi H (upd H' D (.dT aa)):=λb' u e=>by have n:=jj e nD;rw[jf n];exact st _ _ (s2 _ _ e) n
 refine k r js _ (sF.free nr) (sF.trans (jh nr)) jc hj λm=>?_;rw[mj];constructor
 .rintro⟨x,_,h1,h2⟩
  exact⟨x.1,h1,h2⟩
 .rintro⟨q,h1,h2⟩
  have ne:cB (cJ Y.ks) q≠[]:=by rw[Ip sk.kv];obtain⟨o,ho⟩:=h1.1;intro z;have:=so.mpr ho;unfold vf at this;rw[z]at this;cases this
  exact⟨_,j1r ne,h1,h2⟩
theorem BF {H:Hp}{Z:ar}{K:W.Frag}:∀{ys:List V}{ts:List (Option O)},Paired (kZ H Z) ys ts->Paired (iF K H) ys (ts.map λt=>t.map yh)
 |_,_,.nil=>.nil
 |_,none::_,.cons h r=>.cons h (BF r)
 |_,some _::_,.cons h r=>.cons (let⟨a,e,_,q⟩:=h;⟨a,e,aA.of q⟩) (BF r)
theorem Je (t:Option O):∀ts:List (Option O),(ts.map λt=>t.map yh).count (t.map yh)=ts.count t
 |[]=>rfl
 | u::ts=>by
  rw[map_cons,count_cons,count_cons,Je t ts];have:(u.map yh==t.map yh)=(u==t):=by
   rw[Bool.eq_iff_iff,beq_iff_eq,beq_iff_eq];cases u<;>cases t
   .simp
   .simp
   .simp
   .simp only[Option.map_some,Option.some.injEq];exact⟨wC,λe=>by rw[e]⟩
  rw[this]
noncomputable def jvd (t:Ad):Sp:=λvs H Q _=>∃Z W Y T p pa ug few fo ho be ro,vs=[.ref pa]/\Wl t H Z W Y T p/\Ps H Z pa W.x ug few fo ho be ro p/\p.Ok/\T<=60/\∀r vs qs H',H r=none->yi H H'->H' r=some (.lst vs)->Paired (λv (q:Int×Int)=>∃b,v= .ref b/\H' b=some (.tup [.int q.1,.int q.2])) vs qs->qs.length<=100->(∀q,q∈qs↔(0<=q.1/\q.1<(p.ns.length:Int))/\(0<=q.2/\q.2<4)/\cQ (vf Y q) p.ls.length Y.en)->Q (.ref r) H'
theorem jsl (T:Txt K mg t):xl P w K mg base CX0 5 t.GA t.GB ["_law_parts"] (jvd t):=by
 refine T.NY.cL qh λ_ A _ s H vs Q E hr h=>?_;obtain⟨Z,W,Y,T',p,pa,ug,few,fo,ho,be,ro,rfl,w0,Bq,ok,hT,k⟩:=h;refine⟨_,(@jd _ _ _ _ _ (lH (pv 0) (lG rfl (jy (jr (i:=1) qh.nd rfl (Or.inr rfl)) (jy (jr (i:=2) qh.nd rfl (Or.inl rfl)) (jy (jr (i:=3) qh.nd rfl (Or.inl rfl)) (jy (jr (i:=4) qh.nd rfl (Or.inl rfl)) (jy (jr (i:=5) qh.nd rfl (Or.inl rfl)) (jy (jr (i:=6) qh.nd rfl (Or.inl rfl)) (jy (jr (i:=7) qh.nd rfl (Or.inl rfl)) kE))))))))) (@jd _ _ _ _ _ (@j9 _ _ 8 _ _ _ _ qh.nd rfl (Or.inl rfl) (@zh _ _ _ _ ji) (by rfl) (by first|exact .inl rfl|exact .inr rfl)) (@jd _ _ _ _ _ (ij PassesOwn.never rfl (mX rfl T.nY (je (jo jw rfl T.cO boot_len (je (pv 6) ji)) ji)) (jr (i:=9) qh.nd rfl (Or.inr rfl)) (@jg _ _ _ (ij PassesOwn.never rfl (mX rfl T.nY (je jq ji)) (jr (i:=10) qh.nd rfl (Or.inr rfl)) (@jd _ _ _ _ _ (j9 (i:=11) qh.nd rfl (Or.inr rfl) (y9 (N':=["_law_house","_law_purse","_law_number","_law_world_here"]) (ix:=[none,some 9,some 10,some 1]) (zd (by kernel_rfl)) rfl (@gh _ _ _ _ (pv 5)) (λ_ _ _ _=>(jr (i:=0) Yb rfl (Or.inl rfl) (.inr rfl))) (λ_ _ _ _=>lW) (λ_ _ _ _=>(qj (pv 3) T.jl T.Zn (jq0 T) hr.dn T.Zo .nil ju (@cq _ _ _ _ _ _ _ (pv 0) (pv 1) (pv 2) rfl rfl rfl))))) (@jd _ _ _ _ _ (Li (i:=12) qh.nd rfl rfl (N':=["_law_order_here"]) (ix:=[none]) (zd (by kernel_rfl)) rfl (@gh _ _ _ _ (pv 11)) (λ_ _ _ _=>(jr (i:=0) Ya rfl (Or.inl rfl) (.inr rfl))) (λ_ _ _ _=>(lX (j3 Ki (pv 0) iR (qi _)))) (λ_ _ _ _=>(pv 0))) (@jg _ _ _ (zk (j3 (i4 hr.units) (pv 12) (@zh _ _ _ _ ji) (qi _)) (@jd _ _ _ _ _ (j9 (i:=13) qh.nd rfl (Or.inl rfl) (jo (Eg rfl) rfl T.Hh boot_max (je (y9 (N':=["_law_order_here","_law_votes"]) (ix:=[none,some 11]) (zd (by kernel_rfl)) rfl (@gh _ _ _ _ (pv 12)) (λ_ _ _ _=>(jr (i:=0) X9 rfl (Or.inl rfl) (.inr rfl))) (λ_ _ _ _=>lW) (λ_ _ _ _=>(M8 (K:=K) rfl PySem.F.plainAttrs_list PySem.F.slot_list_count PySem.F.type_list_count (M7 (K:=K) rfl hr.units) (pv 1) (je (pv 0) ji)))) ji))) (@jg _ _ _ (zk (j3 qQ (zt eU (zt eU (pv 13) (dZ PySem.F.plainAttrs_list PySem.F.slot_list_count PySem.F.type_list_count (M6 hr.units) (pv 11) (je iR ji))) (jo jw rfl T.cO boot_len (je (pv 4) ji))) (zt iT (pv 2) (pv 3)) (qi _)) (@jg _ _ _ (qb (dZ PySem.F.plainAttrs_list PySem.F.slot_list_append PySem.F.type_list_append yg (pv 8) (je (@kH _ _ _ _ _ (@vd _ _ _ _ _ (pv 9) (pv 10) rfl rfl)) ji)))) qe))) qe))))))) (@jg _ _ _ (j6 (pv 8)))))),?_⟩;have l2:=ok.l2;have l8:=ok.l8;have h16:=ok.h1;obtain⟨L,gn,sk⟩:=w0.g;refine aU λN hN=>⟨_,rfl,pa,_,rfl,aA.of Bq.tp.1,rfl,_,_,rfl,_,_,rfl,_,_,rfl,_,_,rfl,_,_,rfl,_,_,rfl,_,_,rfl,rfl,?_⟩;refine hN _ _ (aU λN hN=>⟨cG,λr nr=>?_⟩);have s1:=jh (o:=.lst []) nr;refine hN ([some (.ref pa),some (.ref W.x),some (.int ug),some (.int few),some (.ref fo),some (.ref ho),some (.ref be),some (.ref ro),some (.ref r),none,none,none,none,none]) _ (aU λN hN=>⟨_,rfl,be,_,rfl,.inl (ah.of (s1 _ _ Bq.be.1)),?_⟩);rw[length_map];refine⟨(p.ns.length:Int),rfl,by omega,by omega,sS (lo:=0) (n:=((p.ns.length:Nat):Int).toNat) (λi U H'=>∃v1 v2 v3 v4 v5 vs qs,U=[some (.ref pa),some (.ref W.x),some (.int ug),some (.int few),some (.ref fo),some (.ref ho),some (.ref be),some (.ref ro),some (.ref r),v1,v2,v3,v4,v5]/\yi H H'/\H' r=some (.lst vs)/\Paired (λv (q:Int×Int)=>∃b,v= .ref b/\H' b=some (.tup [.int q.1,.int q.2])) vs qs/\qs.length<=4*i/\∀q:Int×Int,q∈qs↔(0<=q.1/\q.1<(i:Int))/\(0<=q.2/\q.2<4)/\cQ (vf Y q) p.ls.length Y.en) ⟨none,none,none,none,none,[],[],rfl,s1,jc,.nil,le_refl _,λq=>⟨λz=>(by cases z),λ⟨⟨a,b⟩,_⟩=>by omega⟩⟩ ?_ ?_⟩
 .rintro i U H2 hi ⟨v1,v2,v3,v4,v5,vs,qs,rfl,s2,h2,p2,l2',m2⟩
  have e0:(0:Int)+(i:Int)=i:=Int.zero_add _;rw[e0];refine⟨4,rfl,by decide,by decide,sS (lo:=0) (n:=4) (λj U H'=>∃v2 v3 v4 v5 vs qs,U=[some (.ref pa),some (.ref W.x),some (.int ug),some (.int few),some (.ref fo),some (.ref ho),some (.ref be),some (.ref ro),some (.ref r),some (.int (i:Int)),v2,v3,v4,v5]/\yi H H'/\H' r=some (.lst vs)/\Paired (λv (q:Int×Int)=>∃b,v= .ref b/\H' b=some (.tup [.int q.1,.int q.2])) vs qs/\qs.length<=4*i+j/\∀q:Int×Int,q∈qs↔((0<=q.1/\q.1<(i:Int))/\(0<=q.2/\q.2<4)\/q.1=(i:Int)/\0<=q.2/\q.2<(j:Int))/\cQ (vf Y q) p.ls.length Y.en) ⟨v2,v3,v4,v5,vs,qs,rfl,s2,h2,p2,by omega,λq=>by rw[m2];constructor<;>(rintro h;first|exact⟨.inl ⟨h.1,h.2.1⟩,h.2.2⟩|(rcases h.1 with h1|h1;exact⟨h1.1,h1.2,h.2⟩;omega))⟩ ?_ ?_⟩
  rotate_left
  .rintro U H3 ⟨v2,v3,v4,v5,vs,qs,rfl,s3,h3,p3,l3,m3⟩
   refine⟨_,_,_,_,_,vs,qs,rfl,s3,h3,p3,by omega,λq=>?_⟩;rw[m3];constructor
   .rintro⟨h1|h1,h2⟩
    .exact⟨⟨h1.1.1,by have:=h1.1.2;omega⟩,h1.2,h2⟩
    .exact⟨⟨by omega,by omega⟩,⟨h1.2.1,h1.2.2⟩,h2⟩
   .rintro⟨h1,h2,h3⟩
    by_cases z:q.1=(i:Int)
    .exact⟨.inr ⟨z,h2.1,h2.2⟩,h3⟩
    .exact⟨.inl ⟨⟨h1.1,by omega⟩,h2⟩,h3⟩
  rintro j U H3 hj ⟨v2,v3,v4,v5,vs,qs,rfl,s3,h3,p3,l3,m3⟩
  have e1:(0:Int)+(j:Int)=j:=Int.zero_add _;rw[e1];have B3:=Bq.fr (P:=λ_=>False) (Fr.same s3);have w3:Wl t H3 Z W Y T' p:=w0.fr (P:=λ_=>False) (Fr.same s3) (λ_ z=>z) (w0.kr.same s3);obtain⟨q,eq⟩:∃q:Int×Int,q=((i:Int),(j:Int)):=⟨_,rfl⟩;refine aU λN hN=>⟨_,rfl,ho,rfl,⟨_,ah.of B3.ho.1⟩,iw (K:=K) (a:=ho) (xs:=p.hs.map V.int) (λm ys U H'=>∃v,U=[v,some (.int (i:Int)),some (.int (j:Int)),some (.ref W.x)]/\yi H3 H'/\Paired (kZ H' Z) ys ((vf Y q).take m)) ⟨none,rfl,yi.refl _,.nil⟩ ?_ ?_ ?_⟩
  .rintro m ys U H' hm ⟨v,rfl,sm,py⟩
   rw[length_map]at hm;refine⟨ah.of (sm _ _ B3.ho.1),oh ?_⟩;rw[Paired.length py,length_take];omega
  .rintro m y ys U H' ey ⟨v,rfl,sm,py⟩
   rw[getElem?_map]at ey;cases eh:p.hs[m]? with
   |none=>rw[eh]at ey;cases ey
   | some h=>
    rw[eh]at ey;cases ey;have hm:h∈Y.ks.map (·.1):=by rw[w0.h];exact mem_of_getElem? eh
    obtain⟨B,ek,km⟩:=wU hm;have ev:(vf Y q)[m]?=some (vt B q):=by
     have xN:=eh;rw[<-w0.h,getElem?_map]at xN;cases ec:Y.ks[m]? with
     |none=>rw[ec]at xN;cases xN
     |some c=>rw[ec]at xN;have e1:c.1=h:=Option.some.inj xN;have e2:=Px gn.ok.nd (mem_of_getElem? ec) km e1;unfold vf;rw[getElem?_map,ec,e2];rfl
    have O':=w3.o.same sm;dsimp only[dy,kK];rw[if_pos rfl];refine⟨_,rfl,W.x,W.dx,_,rfl,O'.ob.1,xo,_,rfl,_,rfl,_,rfl,Z,0,W,Y,h,B,q,by rw[eq];rfl,O',ek,by rw[eq];show 0<=(i:Int)/\(i:Int)<(Y.n:Int);rw[w0.n];omega,λv dR bL hv=>⟨_,rfl,sm.trans bL,?_⟩⟩;rw[take_snoc ev];exact qo (Paired.xt py λ_ _ h=>h.fr (P:=λ_=>False) (Fr.same bL)) hv
  rintro ys U H4 ⟨v,rfl,Qx,py⟩ r4 Jf
  have lvs:(vf Y q).length=p.hs.length:=by unfold vf;rw[length_map,<-w0.h,length_map]
  rw[length_map,<-lvs,take_length]at py;have s4:=Qx.trans (jh (o:=.lst ys) Jf);have h4:upd H4 r4 (.lst ys) r4=some (.lst ys):=jc;have xO:Paired (kZ (upd H4 r4 (.lst ys)) Z) ys (vf Y q):=Paired.xt py λ_ _ h=>h.fr (P:=λ_=>False) (Fr.same (jh Jf));generalize upd H4 r4 (.lst ys)=H5 at s4 h4 xO;have lys:=Paired.length xO;refine hN [some (.ref pa),some (.ref W.x),some (.int ug),some (.int few),some (.ref fo),some (.ref ho),some (.ref be),some (.ref ro),some (.ref r),some (.int (i:Int)),some (.int (j:Int)),some (.ref r4),v4,v5] _ (aU λN hN=>⟨_,rfl,r4,rfl,⟨_,ah.of h4⟩,iw (K:=K) (a:=r4) (xs:=ys) (λm zs U H'=>∃v,U=[v]/\H'=H5/\Paired (zu H5 Z) zs (((vf Y q).take m).filterMap id)) ⟨none,rfl,rfl,.nil⟩ ?_ ?_ ?_⟩)
  .rintro m zs U H' hm ⟨v,rfl,rfl,pz⟩
   refine⟨ah.of h4,oh ?_⟩;have:=si ((vf Y q).take m);rw[length_take]at this;rw[Paired.length pz];omega
  .rintro m y zs U H' ey ⟨v,rfl,rfl,pz⟩
   obtain⟨tt,et,hv⟩:=j7 xO ey;rw[take_snoc et,List.filterMap_append];cases tt with
   |none=>have e:y= .aq:=hv;subst e;refine⟨_,rfl,rfl,_,rfl,ka ⟨_,rfl,rfl,?_⟩⟩;rw[List.filterMap_cons_none rfl,List.filterMap_nil,append_nil];exact pz
   |some o=>obtain⟨qa,rfl,n1,h1⟩:=hv;refine⟨_,rfl,rfl,_,rfl,bT ⟨_,rfl,_,rfl,rfl,?_⟩⟩;exact qo pz ⟨qa,rfl,n1,h1⟩
  rintro zs U H' ⟨v,rfl,rfl,pz⟩ r5 Qy
  rw[lys,take_length]at pz;have t5:=jh (o:=.lst zs) Qy;have s5:=s4.trans t5;have Qz:=t5 _ _ h4;have h5:upd H' r5 (.lst zs) r5=some (.lst zs):=jc;have QA:Paired (kZ (upd H' r5 (.lst zs)) Z) ys (vf Y q):=Paired.xt xO λ_ _ h=>h.fr (P:=λ_=>False) (Fr.same t5);have BG:Paired (zu (upd H' r5 (.lst zs)) Z) zs ((vf Y q).filterMap id):=Paired.xt pz λ_ _ h=>h.fr (P:=λ_=>False) (Fr.same t5);generalize upd H' r5 (.lst zs)=H6 at s5 Qz h5 QA BG;have lz:=Paired.length BG;have lf:=si (vf Y q);have BH:=s3.trans s5;have QB:=s5 _ _ h3;have Jg:Paired (λv (q:Int×Int)=>∃b,v= .ref b/\H6 b=some (.tup [.int q.1,.int q.2])) vs qs:=Paired.xt p3 λ_ _ ⟨b,e,hb⟩=>⟨b,e,s5 _ _ hb⟩;clear py pz xO h4 t5 Qy Jf Qx;have old:∀H',yi H6 H'->¬cQ (vf Y q) p.ls.length Y.en->∀w3 w4 w5,∃v2 v3 v4 v5 vs qs,[some (V.ref pa),some (.ref W.x),some (.int ug),some (.int few),some (.ref fo),some (.ref ho),some (.ref be),some (.ref ro),some (.ref r),some (.int (i:Int)),some (.int (j:Int)),w3,w4,w5]=[some (.ref pa),some (.ref W.x),some (.int ug),some (.int few),some (.ref fo),some (.ref ho),some (.ref be),some (.ref ro),some (.ref r),some (.int (i:Int)),v2,v3,v4,v5]/\yi H H'/\H' r=some (.lst vs)/\Paired (λv (q:Int×Int)=>∃b,v= .ref b/\H' b=some (.tup [.int q.1,.int q.2])) vs qs/\qs.length<=4*i+(j+1)/\∀q:Int×Int,q∈qs↔((0<=q.1/\q.1<(i:Int))/\(0<=q.2/\q.2<4)\/q.1=(i:Int)/\0<=q.2/\q.2<((j+1:Nat):Int))/\cQ (vf Y q) p.ls.length Y.en:=λH' s' ns w3 w4 w5=>by
   refine⟨_,_,_,_,vs,qs,rfl,BH.trans s',s' _ _ QB,Paired.xt Jg λ_ _ ⟨b,e,hb⟩=>⟨b,e,s' _ _ hb⟩,by omega,λq'=>?_⟩;rw[m3];constructor
   .rintro⟨h1|h1,h2⟩
    .exact⟨.inl h1,h2⟩
    .exact⟨.inr ⟨h1.1,h1.2.1,by omega⟩,h2⟩
   .rintro⟨h1|h1,h2⟩
    .exact⟨.inl h1,h2⟩
    .by_cases z:q'.2=(j:Int)
     .exact absurd (show cQ (vf Y q) p.ls.length Y.en by rw[eq,show((i:Int),(j:Int))=q' from Prod.ext h1.1.symm z.symm];exact h2) ns
     .exact⟨.inr ⟨h1.1,h1.2.1,by omega⟩,h2⟩
  refine hN [some (.ref pa),some (.ref W.x),some (.int ug),some (.int few),some (.ref fo),some (.ref ho),some (.ref be),some (.ref ro),some (.ref r),some (.int (i:Int)),some (.int (j:Int)),some (.ref r4),some (.ref r5),v5] _ (jM λM hM=>⟨_,rfl,cG,λe6 qD=>⟨.lst (((vf Y q).filterMap id).map λo=>jX (yh o)),.lst [],?_,?_,?_,_,rfl,?_⟩⟩)
  .rw[zj];exact⟨r5,zs,rfl,ah.of (jh qD _ _ h5),Ir (λx o h=>by obtain⟨qa,rfl,_,hq⟩:=h;exact Iu (aA.of hq)) (Paired.xt BG λ_ _ h=>h.fr (P:=λ_=>False) (Fr.same (jh (o:=.lst []) qD)))⟩
  .rw[zj];exact⟨_,[],rfl,ah.of jc,by rw[yc]⟩
  .have:=Iv (((vf Y q).filterMap id).map yh);rw[map_map]at this;rw[bO];have e:(jX∘yh)=λo=>jX (yh o):=rfl;rw[e]at this;omega
  rw[sy];have t6:=jh (o:=.lst []) qD;refine hM _ _ (bp (λz=>?_) (λz=>?_))
  rotate_left
  .refine old _ t6 (λst=>?_) _ _ _;obtain⟨o,ho⟩:=st.1;have:(vf Y q).filterMap id=[]:=by simpa using z
   have h7:=so.mpr ho;rw[this]at h7;cases h7
  have ne:(vf Y q).filterMap id≠[]:=λy=>by rw[y]at z;simp at z
  have Jh:=t6 _ _ h5;have BI:=t6 _ _ Qz;have s6:=s5.trans t6;have QC:=t6;have Ji:Paired (kZ (upd H6 e6 (.lst [])) Z) ys (vf Y q):=Paired.xt QA λ_ _ h=>h.fr (P:=λ_=>False) (Fr.same t6);have QD:Paired (zu (upd H6 e6 (.lst [])) Z) zs ((vf Y q).filterMap id):=Paired.xt BG λ_ _ h=>h.fr (P:=λ_=>False) (Fr.same t6);generalize upd H6 e6 (.lst [])=H7 at Jh BI s6 QC Ji QD;have py6:Paired (iF K H7) ys ((vf Y q).map λt=>t.map yh):=BF Ji;refine aU λN hN=>⟨_,rfl,r5,rfl,⟨_,ah.of Jh⟩,iw (K:=K) (a:=r5) (xs:=zs) (λm cs U H'=>∃v,U=[v,some (.ref r4)]/\H'=H7/\cs=((((vf Y q).filterMap id).take m).map λo=>((vf Y q).count (some o):Int)).map V.int) ⟨none,rfl,rfl,rfl⟩ ?_ ?_ ?_⟩
  .rintro m cs U H' hm ⟨v,rfl,rfl,rfl⟩
   refine⟨ah.of Jh,oh ?_⟩;rw[length_map,length_map,length_take];omega
  .rintro m y cs U H' ey ⟨v,rfl,rfl,rfl⟩
   obtain⟨o,eo,qa,rfl,_,hq⟩:=j7 QD ey;dsimp only[dy,kK];rw[if_pos rfl];refine⟨_,rfl,.inl ⟨rfl,_,ah.of BI⟩,_,rfl,r4,ys,.ref qa,some (yh o),(vf Y q).map (λ(t:Option O)=>t.map yh),rfl,rfl,ah.of BI,⟨qa,rfl,aA.of hq⟩,py6,⟨_,rfl,rfl,?_⟩⟩;rw[show(some (yh o))=(some o).map yh from rfl,Je,take_snoc eo,map_append,map_append];rfl
  rintro cs U H' ⟨v,rfl,rfl,rfl⟩ r7 BJ
  rw[lz,take_length];have t7:=jh (o:=.lst ((((vf Y q).filterMap id).map λo=>((vf Y q).count (some o):Int)).map V.int)) BJ;refine⟨r7,((vf Y q).filterMap id).map (λo=>((vf Y q).count (some o):Int)),rfl,ah.of jc,by rw[length_map];exact length_pos_iff.mpr ne,λMx hMx mx=>?_⟩;have Jj:=t7 _ _ BI;have QE:Paired (kZ (upd H' r7 (.lst ((((vf Y q).filterMap id).map λo=>((vf Y q).count (some o):Int)).map V.int))) Z) ys (vf Y q):=Paired.xt Ji λ_ _ h=>h.fr (P:=λ_=>False) (Fr.same t7);generalize upd H' r7 (.lst ((((vf Y q).filterMap id).map λo=>((vf Y q).count (some o):Int)).map V.int))=H8 at t7 Jj QE;have py7:Paired (iF K H8) ys ((vf Y q).map λt=>t.map yh):=BF QE;have xP:=QC.trans t7;have B8:=Bq.fr (P:=λ_=>False) (Fr.same (BH.trans xP));refine hN [some (.ref pa),some (.ref W.x),some (.int ug),some (.int few),some (.ref fo),some (.ref ho),some (.ref be),some (.ref ro),some (.ref r),some (.int (i:Int)),some (.int (j:Int)),some (.ref r4),some (.ref r5),some (.int Mx)] _ (jM λM hM=>⟨_,rfl,_,rfl,.inl ⟨rfl,_,ah.of Jj⟩,r4,ys,.aq,none,(vf Y q).map (λ(t:Option O)=>t.map yh),rfl,rfl,ah.of Jj,rfl,py7,_,_,rfl,rfl,?_⟩);rw[show(none:Option (List Int))=(none:Option O).map yh from rfl,Je];refine⟨_,rfl,fo,_,rfl,.inl (ah.of B8.fo.1),_,_,rfl,rfl,_,rfl,_,rfl,_,_,rfl,rfl,_,_,rfl,rfl,_,rfl,?_⟩;have iff:=j4i (vs:=vf Y q) (nl:=p.ls.length) (en:=Y.en) (M:=Mx) (let⟨o,ho,e⟩:=mem_map.mp hMx;⟨o,so.mp ho,e.symm⟩) (λo ho=>mx _ (mem_map_of_mem (so.mpr ho)));rw[length_map,Bq.ce,<-w0.en];refine hM _ _ (bp (λz=>?_) (λz=>old _ xP (λy=>z (decide_eq_true (iff.mpr y))) _ _ _));have st:=iff.mp (of_decide_eq_true z);have BK:=xP _ _ QB;refine⟨_,rfl,.inl ⟨rfl,_,ah.of BK⟩,_,rfl,_,rfl,pK,λb nb=>?_⟩;have tb:=jh (o:=.tup [.int (i:Int),.int (j:Int)]) nb;have br:b≠r:=(jj BK nb).symm;have QG:=(BH.trans xP).trans tb;have lvq:=Paired.length p3;refine⟨r,vs,_,rfl,rfl,tb _ _ BK,ze (by omega),_,_,_,_,vs++[.ref b],qs++[q],rfl,λb' u e=>?_,jc,qo (Paired.xt Jg λ_ _ ⟨b',e,hb⟩=>⟨b',e,?_⟩) ⟨b,rfl,by rw[jf br,jc,eq]⟩,by rw[length_append];show qs.length+1<=_;omega,λq'=>?_⟩
  .rw[jf (jj e nr)];exact QG _ _ e
  .have QH:=tb _ _ (xP _ _ hb);rw[jf (vq QH (tb _ _ BK) (by intro z;cases z))];exact QH
  .rw[mem_append,mem_singleton,m3];constructor
   .rintro(⟨h1|h1,h2⟩|rfl)
    .exact⟨.inl h1,h2⟩
    .exact⟨.inr ⟨h1.1,h1.2.1,by omega⟩,h2⟩
    .exact⟨.inr ⟨by rw[eq],by rw[eq];show 0<=(j:Int);omega,by rw[eq];show(j:Int)<_;omega⟩,st⟩
   .rintro⟨h1|h1,h2⟩
    .exact .inl ⟨.inl h1,h2⟩
    .by_cases z:q'.2=(j:Int)
     .exact .inr (by rw[eq];exact Prod.ext h1.1 z)
     .exact .inl ⟨.inr ⟨h1.1,h1.2.1,by omega⟩,h2⟩
 rintro U H2 ⟨v1,v2,v3,v4,v5,vs,qs,rfl,s2,h2,p2,l2',m2⟩
 exact hN _ _ ⟨_,rfl,k r vs qs H2 nr s2 h2 p2 (by omega) m2⟩
theorem jsb (T:Txt K mg t):xl P w K mg base CX0 1 t.Gd t.Ge ["_law_thing"] (λvs H Q _=>∃n,vs=[.int n]/\Q (.bl true) H):=by refine T.NL.bj (N:=["_law_thing"]) λ_ A _ s H vs Q E hr h=>?_;obtain⟨n,rfl,k⟩:=h;refine⟨_,(@jg _ _ _ (j6 (lF (jo ph rfl T.jx boot_isinstance (@vd _ _ _ _ _ (pv 0) (kB (v:=.ty "int") rfl T.Oa boot_int rfl) rfl rfl)) (mT (JT (jo ph rfl T.jx boot_isinstance (@vd _ _ _ _ _ (pv 0) (kB (v:=.ty "bool") rfl T.N9 boot_bool rfl) rfl rfl))))))),?_⟩;refine⟨_,rfl,_,_,_,true,rfl,.int _,rfl,_,rfl,bT ?_⟩;exact⟨_,rfl,_,_,_,false,rfl,.int _,rfl,_,rfl,k⟩
theorem jk9 (T:Txt K mg t):xl P w K mg base CX0 2 t.Gf t.Gg ["_law_thing"] (λvs H Q _=>∃r ns,vs=[.ref r]/\H r=some (.lst ((ns:List Int).map V.int))/\ns.length<=1000/\∀H',yi H H'->Q (.bl true) H'):=by
 refine T.NM.bj (N:=["_law_thing"]) λ_ A _ s H vs Q E hr h=>?_;obtain⟨r,ns,rfl,iM,l,k⟩:=h;refine⟨_,(@jg _ _ _ (j6 (lF (jo ph rfl T.jx boot_isinstance (@vd _ _ _ _ _ (pv 0) (kB (v:=.ty "list") rfl T.nX boot_list rfl) rfl rfl)) (mT (jo (Lk rfl) rfl T.Od boot_all (je (y9 (N':=["_law_one"]) (ix:=[none]) (zd (by kernel_rfl)) rfl (@gh _ _ _ _ (pv 0)) (λ_ _ _ _=>(jr (i:=0) Yc rfl (Or.inl rfl) (.inr rfl))) (λ_ _ _ _=>lW) (λ_ _ _ _=>(jn (jsb T) hr.dn rfl T.ZS T.NL.kp T.ZT .nil ju (je (pv 0) ji)))) ji)))))),?_⟩;refine⟨_,rfl,_,_,_,true,rfl,.lst iM,rfl,_,rfl,bT ?_⟩;refine⟨_,rfl,r,rfl,⟨_,ah.of iM⟩,iw (K:=K) (a:=r) (xs:=ns.map V.int) (λi ys U H'=>∃v,U=[v]/\H'=H/\ys=(List.replicate i true).map V.bl) ⟨none,rfl,rfl,rfl⟩ ?_ ?_ ?_⟩
 .rintro i ys U H' hi ⟨v,rfl,rfl,rfl⟩
  rw[length_map]at hi;exact⟨ah.of iM,oh (by rw[length_map,length_replicate];omega)⟩
 .rintro i y ys U H' ey ⟨v,rfl,rfl,rfl⟩
  obtain⟨z,hz,rfl⟩:=int_at ey;dsimp only[dy,kK];rw[if_pos rfl];refine⟨_,rfl,z,rfl,_,rfl,rfl,?_⟩;rw[List.replicate_succ',map_append];rfl
 .rintro ys U H' ⟨v,rfl,rfl,rfl⟩ r3 nr3
  refine⟨r3,List.replicate _ true,rfl,ah.of jc,?_⟩;rw[show ∀n,(List.replicate n true).all id=true by simp];exact k _ (jh nr3)
theorem j1p {js bM:List Nat}(h:js∈cy)(h':bM∈cy)(m:∀k,k∈js↔k∈bM):js=bM:=(by decide+kernel:∀js∈cy,∀bM∈cy,(∀k∈List.range 8,(k∈js↔k∈bM))->js=bM) js h bM h' λk _=>m k
theorem Ps.same {Z:ar}{H H':Hp}{pa x fo ho be ro:Addr}{ug few:Int}{p:Pt}(s:yi H H')(h:Ps H Z pa x ug few fo ho be ro p):Ps H' Z pa x ug few fo ho be ro p:=h.fr (P:=λ_=>False) (Fr.same s)
theorem Wl.grow {t:Ad}{H H':Hp}{Z Z':ar}{W:WA}{Y Y':Wd}{T T' nl:Nat}{p:Pt}(S:Wl t H Z W Y T p)(S':Wl t H' Z' W Y' T' p)(g:fX Y Y'){q:Int×Int}(st:cQ (vf Y q) nl Y.en):cQ (vf Y' q) nl Y'.en:=
 let⟨_,_,s⟩:=S.g;let⟨_,_,s'⟩:=S'.g
 j1u g s.kv s'.kv st
def lj (H:Hp)(Z:ar)(v:V)(q:Int×Int):Prop:=∃b,v= .ref b/\Z b=none/\H b=some (.tup [.int q.1,.int q.2])
theorem lj.fr {P:Role->Prop}{Z Z':ar}{H H':Hp}{v:V}{q:Int×Int}(f:Fr P Z H Z' H')(h:lj H Z v q):lj H' Z' v q:=let⟨b,e,n,hb⟩:=h;⟨b,e,(iJ f hb n).2,(iJ f hb n).1⟩
theorem QI {H:Hp}{Z:ar}{K:W.Frag}:∀{vs:List V}{qs:List (Int×Int)},Paired (lj H Z) vs qs->Paired (iB K H) vs (qs.map λq=>[q.1,q.2])
 |_,_,.nil=>.nil
 |_,_,.cons ⟨b,e,_,h⟩ r=>.cons ⟨b,e,aA.of h⟩ (QI r)
noncomputable abbrev qE (a To pa x:Addr)(cr few:Int)(fo ho be ro:Addr)(l:List (Option V)):St:=[some (.ref a),some (.ref To),some (.ref pa),some (.ref x),some (.int cr),some (.int few),some (.ref fo),some (.ref ho),some (.ref be),some (.ref ro)]++l
noncomputable def j0z (K:W.Frag):Sp:=λvs H Q _=>∃(a:Addr)(ns:List Int),vs=[.ref a]/\ah K H a (ns.map V.int)/\ns.length<=63/\∀H',Q (.bl true) H'
set_option maxHeartbeats 0 in
theorem j77 (T:Txt K mg t) : xl P w K mg base CX0 12 t.GC t.GD ["_law_script"] (j0z K):=by
 refine T.j8d.cL (k:=11) gM λ_ A _ s H vs Q E hr h=>?_
 obtain ⟨a,ns,rfl,hS,hn,k⟩:=h
 refine ⟨_,(@jd _ _ _ _ _ (j9 (i:=1) gM.nd rfl (Or.inl rfl) (jn (jti T) hr.dn rfl T.ZQ T.NK.kp T.ZR .nil ju (je (pv 0) ji)))
  (@jd _ _ _ _ _ (j9 (i:=2) gM.nd rfl (Or.inl rfl) (jn (jse T) hr.dn rfl T.ZW T.NR.kp T.ZX .nil ju (je (pv 1) ji)))
  (@jd _ _ _ _ _ (lH (pv 2) (lG rfl (jy (jr (i:=3) gM.nd rfl (Or.inr rfl)) (jy (jr (i:=4) gM.nd rfl (Or.inl rfl)) (jy (jr (i:=5) gM.nd rfl (Or.inl rfl)) (jy (jr (i:=6) gM.nd rfl (Or.inl rfl)) (jy (jr (i:=7) gM.nd rfl (Or.inl rfl)) (jy (jr (i:=8) gM.nd rfl (Or.inl rfl)) (jy (jr (i:=9) gM.nd rfl (Or.inr rfl)) kE)))))))))
  (@jd _ _ _ _ _ (ij PassesOwn.never rfl (mX rfl T.nY (je jq ji)) (jr (i:=10) gM.nd rfl (Or.inl rfl)) (@jg _ _ _ (qb (jn (P5 T) hr.dn rfl T.NW T.Ha.kp T.NX .nil ju (@cq _ _ _ _ _ _ _ (pv 1) (pv 2) jq rfl rfl rfl)))))
  (@jd _ _ _ _ _ (j9 (i:=11) gM.nd rfl (Or.inr rfl) (jn (jsl T) hr.dn rfl T.Z7 T.NY.kp T.Z8 .nil ju (je (pv 2) ji)))
  (@jd _ _ _ _ _ (j9 (i:=12) gM.nd rfl (Or.inl rfl) (jn (Qs T) hr.dn rfl T.NI T.GZ.kp T.NJ .nil ju (je (pv 3) ji)))
  (@jd _ _ _ _ _ (zk (PW.pt (gC (j3 (i4 hr.units) (pv 12) (jo (Ml rfl) rfl T.Hg boot_sorted (je (qT (Wg rfl) rfl T.j8f boot_set (je (y9 (N':=["_law_place"]) (ix:=[none]) (zd (by kernel_rfl)) rfl (@gh _ _ _ _ (pv 11)) (λ_ _ _ _=>(jr (i:=0) Yg rfl (Or.inl rfl) (.inr rfl))) (λ_ _ _ _=>lW) (λ_ _ _ _=>(cC (LX (K:=K) rfl) (pv 0) jq (λ_ _=>rfl)))) ji)) ji)) (qi _)) (gS (xu (zl (jn (jk9 T) hr.dn rfl T.ZU T.NM.kp T.ZV .nil ju (je (pv 12) ji))))))) (@jg _ _ _ (j6 gB)) qe)
  (@jd _ _ _ _ _ (zk (j3 (i4 hr.units) (y9 (N':=["_law_purse","_law_rogues"]) (ix:=[none,some 9]) (zd (by kernel_rfl)) rfl (@gh _ _ _ _ (pv 12)) (λ_ _ _ _=>(jr (i:=0) Yf rfl (Or.inl rfl) (.inr rfl))) (λ_ _ _ _=>(lX (j3 (Af (K:=K) rfl) (pv 0) (pv 1) (by with_unfolding_all rfl)))) (λ_ _ _ _=>(pv 0))) (@zh _ _ _ _ ji) (qi _)) (@jg _ _ _ (j6 gB)) qe)
  (@jd _ _ _ _ _ (ij PassesOwn.never rfl (mX rfl T.nY (je jq ji)) (jr (i:=10) gM.nd rfl (Or.inl rfl)) (@jd _ _ _ _ _ (qb (jn (P5 T) hr.dn rfl T.NW T.Ha.kp T.NX .nil ju (@cq _ _ _ _ _ _ _ (pv 1) (pv 2) jq rfl rfl rfl)))
  (@jd _ _ _ _ _ (zk (j3 (i4 hr.units) (y9 (N':=["_law_order_here","_law_places"]) (ix:=[none,some 11]) (zd (by kernel_rfl)) rfl (@gh _ _ _ _ (gu (pv 3) T.jl T.GV (HQ T) hr.dn T.GW .nil ju)) (λ_ _ _ _=>(jr (i:=0) Ye rfl (Or.inl rfl) (.inr rfl))) (λ_ _ _ _=>(lX (j3 (Xu (K:=K) rfl hr.units) (Sv (Wh (K:=K) rfl) (pv 0) Sr (Ss jq)) (pv 1) (by with_unfolding_all rfl)))) (λ_ _ _ _=>(pv 0))) (@zh _ _ _ _ ji) (qi _)) (@jg _ _ _ (j6 gB)) qe)
  (@jg _ _ _ (zk (j3 (i4 hr.units) (y9 (N':=["_law_purse","_law_world_here"]) (ix:=[none,some 3]) (zd (by kernel_rfl)) rfl (@gh _ _ _ _ (pv 12)) (λ_ _ _ _=>(jr (i:=0) Yd rfl (Or.inl rfl) (.inr rfl))) (λ_ _ _ _=>(lX (j3 (Af (K:=K) rfl) (pv 0) (jn (Qs T) hr.dn rfl T.NI T.GZ.kp T.NJ .nil ju (je (pv 1) ji)) (by with_unfolding_all rfl)))) (λ_ _ _ _=>(pv 0))) (@zh _ _ _ _ ji) (qi _)) (@jg _ _ _ (j6 gB)) qe)))))
  (@jg _ _ _ (j6 gB))))))))))),?_⟩
 refine aU λN hN=>⟨_,rfl,a,ns,rfl,hS,λTo R H1 nT nR s1 hT=>?_⟩
 have hTR:To ≠ R:=hT.ne
 obtain ⟨Z0,QJ⟩ : ∃ Z0:ar,Z0 = aO (aO (λ_=>none) R (9,.own 1)) To (9,.own 0):=⟨_,rfl⟩
 have S0:Tw H1 Z0 To R:=by
  obtain ⟨row,c,t1,t2,t3⟩:=hT
  refine ⟨?_,⟨row,c,t1,t2,t3⟩,?_⟩
  .rw [QJ]
   exact ay.aO (ay.aO (λ_ _ z=>by cases z) t2 True.intro) t1 True.intro
  .rw [QJ]
   exact ⟨zr,by rw [xk hTR.symm,zr]⟩
 refine hN _ _ (aU λN hN=>⟨_,rfl,Z0,To,R,rfl,S0,λZ1 H2 W Y0 pa cr few fo ho be ro p ok S1 B1=>?_⟩)
 refine hN _ _ (aU λN hN=>⟨_,rfl,pa,_,rfl,aA.of B1.tp.1,rfl,_,_,rfl,_,_,rfl,_,_,rfl,_,_,rfl,_,_,rfl,_,_,rfl,_,_,rfl,rfl,?_⟩)
 have eE : ∀ {HB e},HB e = none -> zj K (upd HB e (.lst [])) (.lst []) (.ref e):=λn=>by
  rw [zj]
  exact ⟨_,[],rfl,ah.of jc,by rw [yc]⟩
 have qF : ∀ {HB e},HB e = some (.lst []) -> zj K HB (.lst []) (.ref e):=λh=>by
  rw [zj]
  exact ⟨_,[],rfl,ah.of h,by rw [yc]⟩
 have l2:=ok.l2
 have l8:=ok.l8
 refine hN (qE a To pa W.x cr few fo ho be ro [none,none,none]) _ (aU λN hN=>⟨30,rfl,by decide,by decide,sS (lo:=0) (n:=30) (λi U H'=>∃ Z Y v1,U = qE a To pa W.x cr few fo ho be ro [v1,none,none] /\ Sw t H' Z W Y i p To R /\ Ps H' Z pa W.x cr few fo ho be ro p) ⟨Z1,Y0,none,rfl,S1,B1⟩ ?_ ?_⟩)
 .rintro i U H3 hi ⟨Z,Y,v1,rfl,S3,B3⟩
  exact ⟨_,rfl,_,rfl,Z,W,Y,i,p,To,R,pa,cr,few,fo,ho,be,ro,4,rfl,S3,B3,ok,by omega,λZ' H' Y' v S' f' _=>⟨Z',Y',_,rfl,S',B3.fr f'⟩⟩
 rintro U H3 ⟨Z,Y,v1,rfl,S3,B3⟩
 refine hN (qE a To pa W.x cr few fo ho be ro [v1,none,none]) _ (aU λN hN=>⟨_,rfl,Z,W,Y,30,p,pa,cr,few,fo,ho,be,ro,rfl,S3.w,B3,ok,by decide,λpl vs qs H4 npl s4 h4 xQ lq mq=>?_⟩)
 have S4:=S3.same s4
 have B4:=B3.same s4
 refine hN (qE a To pa W.x cr few fo ho be ro [v1,some (.ref pl),none]) _ (aU λN hN=>⟨_,rfl,Z,W,Y,30,p,rfl,S4.w,ok,by decide,λtd js H5 ntd s5 h5 hj mj=>?_⟩)
 have S5:=S4.same s5
 have B5:=B4.same s5
 have ej:(js.map λ(j:Nat)=>V.int j) = (js.map λ(j:Nat)=>(j:Int)).map V.int:=by rw [map_map]; rfl
 rw [ej] at h5
 have oj:Un H5 Z pl vs:=⟨s5 _ _ h4,S3.w.kr.none npl⟩
 have BL:Un H5 Z td ((js.map λ(j:Nat)=>(j:Int)).map V.int):=⟨h5,S4.w.kr.none ntd⟩
 have sI:Paired (lj H5 Z) vs qs:=Paired.xt xQ λ_ _ ⟨b,e,hb⟩=>⟨b,e,S4.w.kr.tup hb,s5 _ _ hb⟩
 obtain ⟨L,gn,sk⟩:=S3.w.g
 have he : Y.en <= ((Y.ks.length + p.ls.length:Nat) : Int):=by
  have h1:=ok.he
  have h2:=congrArg List.length S3.w.h
  rw [length_map] at h2
  rw [S3.w.en]
  omega
 have lA:=λ{q:Int × Int} (st:cQ (vf Y q) p.ls.length Y.en)=>jvc gn sk he st
 have xK : ∀ q ∈ qs,q.1 ∈ p.cs:=λq hq=>by rw [<- S3.w.c]; exact (lA ((mq q).mp hq).2.2).1
 obtain ⟨ca,cb,Jb,Jc,iN⟩:=jY ok.ct λx hx=>by have:=ok.c x hx; omega
 have lv:=Paired.length sI
 refine hN (qE a To pa W.x cr few fo ho be ro [v1,some (.ref pl),some (.ref td)]) _ (aU λN hN=>jM λM hM=>⟨_,rfl,_,rfl,pl,rfl,⟨_,ah.of oj.1⟩,iw (K:=K) (a:=pl) (xs:=vs) (λi ys U H'=>∃ v,U = [v] /\ H' = H5 /\ ys = ((qs.take i).map (·.1)).map V.int) ⟨none,rfl,rfl,rfl⟩ ?_ ?_ ?_⟩)
 .rintro i ys U H' hi ⟨v,rfl,rfl,rfl⟩
  refine ⟨ah.of oj.1,oh ?_⟩
  rw [length_map,length_map,length_take]
  omega
 .rintro i y ys U H' ey ⟨v,rfl,rfl,rfl⟩
  obtain ⟨q,eq,b,rfl,_,hb⟩:=j7 sI ey
  dsimp only [dy,kK]
  rw [if_pos rfl]
  refine ⟨_,rfl,b,_,0,.int q.1,rfl,rfl,aA.of hb,rfl,_,rfl,rfl,?_⟩
  rw [take_snoc eq,map_append,map_append]
  rfl
 rintro ys U H' ⟨v,rfl,rfl,rfl⟩ r6 BM
 rw [lv,take_length]
 refine ⟨r6,qs.map (·.1),rfl,ah.of jc,⟨ca,cb,Jb,Jc,λz hz=>by obtain ⟨q,hq,rfl⟩:=mem_map.mp hz; exact iN _ (xK q hq)⟩,λst bM BD BE Jd=>⟨st,bM,rfl,jc,BE,λr7 BJ=>?_⟩⟩
 have ejj:js = bM:=j1p hj BE λk=>by
  rw [mj,Jd,mem_map]
  constructor
  .rintro ⟨q,h1,h2⟩
   obtain ⟨_,h3,h4⟩:=lA h1
   exact ⟨q,(mq q).mpr ⟨by rw [<- S3.w.n]; exact h3,h4,h1⟩,h2⟩
  .rintro ⟨q,hq,h2⟩
   exact ⟨q,((mq q).mp hq).2.2,h2⟩
 subst ejj
 have s7:=(jh (o:=.lst ((qs.map (·.1)).map V.int)) BM).trans ((jh (o:=gL w st js) BD).trans (jh (o:=.lst (js.map λ(j:Nat)=>V.int j)) BJ))
 have h7:upd (upd (upd H' r6 (.lst ((qs.map (·.1)).map V.int))) st (gL w st js)) r7 (.lst (js.map λ(j:Nat)=>V.int j)) r7 = some (.lst (js.map λ(j:Nat)=>V.int j)):=jc
 dsimp only [dh,Cx.oE] at hM hN ⊢
 generalize upd (upd (upd H' r6 (.lst ((qs.map (·.1)).map V.int))) st (gL w st js)) r7 (.lst (js.map λ(j:Nat)=>V.int j)) = H7 at s7 h7 ⊢
 rw [ej] at h7
 have l2j:js.length <= 2:=(nJ true (md true) js hj).2.1
 refine ⟨.lst ((js.map λ(j:Nat)=>(j:Int)).map Dt.int),.lst ((js.map λ(j:Nat)=>(j:Int)).map Dt.int),oU (ah.of (s7 _ _ BL.1)),oU (ah.of h7),tQ _,_,rfl,?_⟩
 rw [Lr,decide_eq_true (rfl:(js.map λ(j:Nat)=>(j:Int)) = js.map λ(j:Nat)=>(j:Int))]
 refine ka ⟨_,rfl,td,_,rfl,s7 _ _ BL.1,by rw [length_map]; omega,λH8 s8=>⟨_,rfl,hM _ _ (ka ?_)⟩⟩
 have xR:=s7.trans s8
 have S8:=S5.same xR
 have B8:=B5.same xR
 have xS:=oj.fr (P:=λ_=>False) (Fr.same xR)
 have mI:=BL.fr (P:=λ_=>False) (Fr.same xR)
 have QK:Paired (lj H8 Z) vs qs:=Paired.xt sI λ_ _ h=>h.fr (P:=λ_=>False) (Fr.same xR)
 clear S5 B5 oj BL sI h7 s7 s8 BM BJ BD h5 xQ h4
 refine hN _ _ (aU λN hN=>jM λM hM=>⟨_,rfl,td,rfl,⟨_,ah.of mI.1⟩,iw (K:=K) (a:=td) (xs:=(js.map λ(j:Nat)=>(j:Int)).map V.int) (λm ys U H'=>∃ v,U = [v,some (.ref ro)] /\ H' = H8 /\ ys = []) ⟨none,rfl,rfl,rfl⟩ ?_ ?_ ?_⟩)
 .rintro m ys U H' hm ⟨v,rfl,rfl,rfl⟩
  exact ⟨ah.of mI.1,zero_le _⟩
 .rintro m y ys U H' ey ⟨v,rfl,rfl,rfl⟩
  obtain ⟨z,hz,rfl⟩:=int_at ey
  have zc:z ∈ p.cs:=by
   obtain ⟨k',hk,rfl⟩:=mem_map.mp hz
   obtain ⟨q,h1,h2⟩:=(mj k').mp hk
   rw [<- h2,<- S3.w.c]
   exact (lA h1).1
  refine ⟨_,rfl,_,rfl,ro,_,rfl,.inl (ah.of B8.ro.1),rfl,mr _,_,rfl,?_⟩
  rw [if_pos rfl,wj,decide_eq_true zc]
  exact ka ⟨_,rfl,rfl,rfl⟩
 rintro ys U H' ⟨v,rfl,rfl,rfl⟩ r9 nr9
 refine ⟨cG,λe9 Jk=>⟨.lst [],.lst [],qF (jh Jk _ _ jc),eE Jk,by simp [bO,dm],_,rfl,?_⟩⟩
 rw [show bq (.lst []) (.lst []) = true by simp [bq,cY]]
 have s9:=(jh (o:=.lst []) nr9).trans (jh (o:=.lst []) Jk)
 have S9:=S8.same s9
 have B9:=B8.same s9
 have qG:=xS.fr (P:=λ_=>False) (Fr.same s9)
 have qH:=mI.fr (P:=λ_=>False) (Fr.same s9)
 have Jl:Paired (lj (upd (upd H' r9 (.lst [])) e9 (.lst [])) Z) vs qs:=Paired.xt QK λ_ _ h=>h.fr (P:=λ_=>False) (Fr.same s9)
 generalize upd (upd H' r9 (.lst [])) e9 (.lst []) = H9 at S9 B9 qG qH Jl
 refine hM _ _ (ka (hN _ _ (aU λN hN=>⟨20,rfl,by decide,by decide,sS (lo:=0) (n:=20) (λi U H'=>∃ Z Y v1,U = qE a To pa W.x cr few fo ho be ro [v1,some (.ref pl),some (.ref td)] /\ Sw t H' Z W Y (30 + i) p To R /\ Ps H' Z pa W.x cr few fo ho be ro p /\ Un H' Z pl vs /\ Un H' Z td ((js.map λ(j:Nat)=>(j:Int)).map V.int) /\ Paired (lj H' Z) vs qs /\ (∀ q ∈ qs,cQ (vf Y q) p.ls.length Y.en) /\ ∀ k ∈ js,xJ Y p (k:Int)) ⟨Z,Y,v1,rfl,S9,B9,qG,qH,Jl,λq hq=>((mq q).mp hq).2.2,λk hk=>(mj k).mp hk⟩ ?_ ?_⟩)))
 rotate_left
 .rintro U H' ⟨Z,Y,v1,rfl,_⟩
  exact hN _ _ (k _)
 clear S9 B9 qG qH Jl S8 B8 xS mI QK mj mq lA xK he gn sk S4 B4 S3 B3
 rintro i U H3 hi ⟨Z,Y,v1,rfl,S3,B3,xT,xU,QL,sq,sj⟩
 refine aU λN' Jm=>⟨_,rfl,_,rfl,Z,W,Y,30 + i,p,To,R,pa,cr,few,fo,ho,be,ro,7,rfl,S3,B3,ok,by omega,λZ' H4 Y' v S4 f4 g4=>?_⟩
 have B4:=B3.fr f4
 have xV:=xT.fr f4
 have qI:=xU.fr f4
 have xQ:Paired (lj H4 Z') vs qs:=Paired.xt QL λ_ _ h=>h.fr f4
 have QM : ∀ q ∈ qs,cQ (vf Y' q) p.ls.length Y'.en:=λq hq=>S3.w.grow S4.w g4 (sq q hq)
 have QN : ∀ k ∈ js,xJ Y' p (k:Int):=λk hk=>let ⟨q,h1,h2⟩:=sj k hk; ⟨q,S3.w.grow S4.w g4 h1,h2⟩
 clear S3 B3 xT xU QL sq sj g4 f4
 obtain ⟨L,gn,sk⟩:=S4.w.g
 have z0:=gn.l
 have bl:=gn.sz.bd
 have bne : ∀ x ∈ Y'.bd,x.1 ≠ []:=λx hx z=>by
  obtain ⟨o,_,e⟩:=gn.g.b.ks x hx
  rw [e] at z
  cases z
 refine Jm (qE a To pa W.x cr few fo ho be ro [some (.int (0 + (i:Int))),some (.ref pl),some (.ref td)]) _ (aU λN' Jm=>jM λM hM=>⟨_,rfl,W.x,W.dx,_,rfl,S4.w.o.ob.1,xo,Z',0,W,Y',rfl,S4.w.o,by omega,gn.g.b.nd,bne,λpp vs5 ts5 H5 npp s5 q1 q3 h5=>?_⟩)
 have Jn:=xV.fr (P:=λ_=>False) (Fr.same s5)
 have sI:Paired (lj H5 Z') vs qs:=Paired.xt xQ λ_ _ h=>h.fr (P:=λ_=>False) (Fr.same s5)
 refine ⟨pp,rfl,⟨_,ah.of h5⟩,iw (K:=K) (a:=pp) (xs:=vs5) (λm ys U H'=>∃ v,U = [v,some (.ref pl)] /\ yi H5 H' /\ ys = []) ⟨none,rfl,yi.refl _,rfl⟩ ?_ ?_ ?_⟩
 .rintro m ys U H' hm ⟨v,rfl,sm,rfl⟩
  exact ⟨ah.of (sm _ _ h5),zero_le _⟩
 .rintro m y ys U H' ey ⟨v,rfl,sm,rfl⟩
  obtain ⟨ti,IF,b,rfl,hb⟩:=j7 q3 ey
  obtain ⟨o,oL,rfl,oc⟩:=gn.jN (q1.mem_iff.mp (mem_of_getElem? IF))
  refine ⟨_,rfl,2,rfl,b,cz o,rfl,aA.of (sm _ _ hb),?_,λp1 n1=>?_⟩
  .intro z
   have z2:HT.bf 4 4 (some 2) = 4:=z.2
   exact absurd z2 (by decide)
  have t1:=sm.trans (jh (o:=.tup (sZ (cz o) none (some 2))) n1)
  refine ⟨_,rfl,pl,vs,[o.p,o.n],qs.map (λq=>[q.1,q.2]),rfl,ah.of (t1 _ _ Jn.1),⟨p1,rfl,aA.of (by rw [jc]; rfl)⟩,QI (Paired.xt sI λ_ _ h=>h.fr (P:=λ_=>False) (Fr.same t1)),_,rfl,?_⟩
  rw [if_neg (by decide),decide_eq_false (λhm=>?_)]
  .exact ka ⟨_,rfl,t1,rfl⟩
  .obtain ⟨q,hq,e⟩:=mem_map.mp hm
   have e1:=(List.cons.inj e).1
   have e2:=(List.cons.inj (List.cons.inj e).2).1
   have:q = jV o:=Prod.ext e1 e2
   subst this
   exact j26 gn sk oc (QM _ hq)
 rintro ys U H6 ⟨v,rfl,sm,rfl⟩ r6 BM
 refine ⟨cG,λe6 qD=>⟨.lst [],.lst [],qF (jh qD _ _ jc),eE qD,by simp [bO,dm],_,rfl,?_⟩⟩
 rw [show bq (.lst []) (.lst []) = true by simp [bq,cY]]
 have s6:=(s5.trans sm).trans ((jh (o:=.lst []) BM).trans (jh (o:=.lst []) qD))
 generalize upd (upd H6 r6 (.lst [])) e6 (.lst []) = H7 at s6
 refine hM _ _ (ka (Jm _ _ (jM λM hM=>⟨_,rfl,td,rfl,⟨_,ah.of (s6 _ _ qI.1)⟩,iw (K:=K) (a:=td) (xs:=(js.map λ(j:Nat)=>(j:Int)).map V.int) (λm ys U H'=>∃ v,U = [v,some (.ref W.x)] /\ yi H7 H' /\ ys = []) ⟨none,rfl,yi.refl _,rfl⟩ ?_ ?_ ?_⟩)))
 .rintro m ys U H' hm ⟨v,rfl,sm,rfl⟩
  exact ⟨ah.of (sm _ _ (s6 _ _ qI.1)),zero_le _⟩
 .rintro m y ys U H' ey ⟨v,rfl,sm,rfl⟩
  obtain ⟨z,hz,rfl⟩:=int_at ey
  obtain ⟨k',hk,rfl⟩:=mem_map.mp hz
  have S8:=(S4.same s6).same sm
  refine ⟨_,rfl,_,rfl,Z',W,Y',30 + i + 1,p,rfl,S8.w,ok,by omega,λr8 QO H9 QP s9 h9 hj8 mj8=>?_⟩
  rw [show (QO.map λ(j:Nat)=>V.int j) = (QO.map λ(j:Nat)=>(j:Int)).map V.int by rw [map_map]; rfl] at h9
  refine ⟨r8,_,rfl,.inl (ah.of h9),rfl,mr _,_,rfl,?_⟩
  rw [if_pos rfl,wj,decide_eq_true (mem_map.mpr ⟨k',(mj8 k').mpr (QN k' hk),rfl⟩)]
  exact ka ⟨_,rfl,sm.trans s9,rfl⟩
 rintro ys U H8 ⟨v,rfl,sm8,rfl⟩ r8 QP
 refine ⟨cG,λe8 Jo=>⟨.lst [],.lst [],qF (jh Jo _ _ jc),eE Jo,by simp [bO,dm],_,rfl,?_⟩⟩
 rw [show bq (.lst []) (.lst []) = true by simp [bq,cY]]
 have s8:=(s6.trans sm8).trans ((jh (o:=.lst []) QP).trans (jh (o:=.lst []) Jo))
 generalize upd (upd H8 r8 (.lst [])) e8 (.lst []) = H9 at s8
 refine hM _ _ (ka ⟨Z',Y',_,rfl,S4.same s8,B4.same s8,xV.fr (P:=λ_=>False) (Fr.same s8),qI.fr (P:=λ_=>False) (Fr.same s8),Paired.xt xQ λ_ _ h=>h.fr (P:=λ_=>False) (Fr.same s8),QM,QN⟩)
end
abbrev aN (K:W.Frag)(x:Str)(v:Option Value):Prop:=W.nsIn K mainGlobals x=some v
abbrev aF (K:W.Frag)(a:Addr)(x:Str)(v:Option Value):Prop:=W.findIn K (.ref a) x=some v
noncomputable abbrev aL (K:W.Frag)(f:Addr)(n q:Str)(s:Stmt)(oc:Value)(od:Option Addr)(kV dc pm:Value)(an:Option Addr)(cd ct:Value)(sl:Array (Option Value)):Prop:=K.lookup f=some ⟨oc,od,.func (W.fnOf n q (qW s) (ip s) (jv s) .none kV dc pm an cd ct),sl⟩
abbrev aC (K:W.Frag)(q:Value)(s:Str):Prop:=W.codeIn K q s=true
abbrev aK (K:W.Frag)(f:Addr):Prop:=W.keepIn K (.ref f)=true
abbrev aI (K:W.Frag)(f:Addr):Prop:=W.isFn K (.ref f)=true
abbrev aR (K:W.Frag)(s:Str)(f:Addr):Prop:=aN K s (some (.ref f))
abbrev aG (K:W.Frag)(c:Addr)(s:Str)(f:Addr):Prop:=aF K c s (some (.ref f))
noncomputable abbrev aM (K:W.Frag)(f:Addr)(n:Str)(s:Stmt)(oc:Value)(od:Option Addr)(kV dc pm:Value)(an:Option Addr)(cd ct:Value)(sl:Array (Option Value)):Prop:=aL K f n n s oc od kV dc pm an cd ct sl
set_option maxHeartbeats 4000000 in
set_option autoImplicit true in
set_option relaxedAutoImplicit true in
theorem all_mk {l:W.OpenLaw} {w:World} {K:W.Frag} {h:Heap} {mg:Str -> Option Value} {fa:Addr} (X:K.In h) (G:h.Ns mainGlobals mg) (hfa:mg "law" = some (.ref fa))
 {q2 q3 q4 q5 q6 q7:Value}
 (cm0:aR K "Board" hZ)
 (cg0:W.plainGet K hZ Str.empty = true) (ch0:W.hasDictIn K hZ = true) (co0:W.plainOver K hZ = true) (cs0:aF K hZ "__setattr__" (some (.builtin "object.__setattr__")))
 (cn0_0:aF K hZ "enough" none)
 (cn0_1:aF K hZ "signers" none)
 (cm1:aR K "Keeper" cR)
 (cg1:W.plainGet K cR Str.empty = true) (ch1:W.hasDictIn K cR = true) (co1:W.plainOver K cR = true) (cs1:aF K cR "__setattr__" (some (.builtin "object.__setattr__")))
 (cn1_0:aF K cR "held" none)
 (cn1_1:aF K cR "next_numbers" none)
 (cn1_2:aF K cR "done" none)
 (cn1_3:aF K cR "heard" none)
 (cn1_4:aF K cR "unvoted" none)
 (cn1_5:aF K cR "choices" none)
 (cn1_6:aF K cR "waiting" none)
 (cm2:aR K "World" bz)
 (cg2:W.plainGet K bz Str.empty = true) (ch2:W.hasDictIn K bz = true) (co2:W.plainOver K bz = true) (cs2:aF K bz "__setattr__" (some (.builtin "object.__setattr__")))
 (ia2:aF K bz "__class__" (some (.builtin "object.__class__"))) (in2:W.specialIn K (.builtin "object.__class__") "__get__" = some (some (.builtin "getset_descriptor.__get__"))) (it2:W.takesIn K (.builtin "object.__class__") = some true) (im2:W.mroIn K bz (.type "object") = some true) (ik2:W.kitOne K (.ref bz) (.ref bz) = some true)
 (cn2_0:aF K bz "purses" none)
 (cn2_1:aF K bz "total" none)
 (cn2_2:aF K bz "lying" none)
 (cn2_3:aF K bz "cheating" none)
 (cn2_4:aF K bz "keepers" none)
 (cn2_5:aF K bz "board" none)
 (cn2_6:aF K bz "asked" none)
 (cn2_7:aF K bz "on_way" none)
 (cm3:aR K "Book" ft)
 (cg3:W.plainGet K ft Str.empty = true) (ch3:W.hasDictIn K ft = true) (co3:W.plainOver K ft = true) (cs3:aF K ft "__setattr__" (some (.builtin "object.__setattr__")))
 (cn3_0:aF K ft "held" none)
 (cn3_1:aF K ft "next_numbers" none)
 (cn3_2:aF K ft "done" none)
 (xm0:aR K "NoPurse" eP)
 (xm1:aR K "TooMuch" ic)
 (xm2:aR K "NotNow" ie)
 (xm3:aR K "PurseError" ox)
 (xm4:aR K "BadCut" BN)
 (xm5:aR K "BadText" BO)
 (xm6:aR K "BadPaper" BP)
 (xm7:aR K "NoHouse" BQ)
 (xm8:aR K "NoLetter" BR)
 (xm9:aR K "BadNumber" BS)
 (xm10:aR K "BadOrder" mJ)
 (xm11:aR K "BadHouses" mK)
 (a0:aR K "is_whole" f0)
 (l0:aM K f0 "is_whole" As o0 r0 v0 d0 p0 s0 q0 t0 u0)
 (c0:aC K q0 "is_whole") (k0:aK K f0)
 (a1:aR K "is_between" f1)
 (l1:aM K f1 "is_between" Au o1 r1 v1 d1 p1 s1 q1 t1 u1)
 (c1:aC K q1 "is_between") (k1:aK K f1)
 (a2:aR K "is_order" f2)
 (l2:aM K f2 "is_order" Av o2 r2 (.ref fZ) d2 p2 s2 q2 t2 u2)
 (c2:aC K q2 "is_order") (k2:aK K f2)
 (e2:W.nsIn K fZ "purses" = some (some (.int 8 kt2)))
 (a3:aR K "place_of" f3)
 (l3:aM K f3 "place_of" Aw o3 r3 v3 d3 p3 s3 q3 t3 u3)
 (c3:aC K q3 "place_of") (k3:aK K f3)
 (a4:aR K "are_rising" f4)
 (l4:aM K f4 "are_rising" vB o4 r4 v4 d4 p4 s4 q4 t4 u4)
 (c4:aC K q4 "are_rising") (k4:aK K f4)
 (a5:aR K "is_rising_row" f5)
 (l5:aM K f5 "is_rising_row" uy o5 r5 v5 d5 p5 s5 q5 t5 u5)
 (c5:aC K q5 "is_rising_row") (k5:aK K f5)
 (a6:aR K "is_house_count" f6)
 (l6:aM K f6 "is_house_count" gs o6 r6 v6 d6 p6 s6 q6 t6 u6)
 (c6:aC K q6 "is_house_count") (k6:aK K f6)
 (a7:aR K "is_few" f7)
 (l7:aM K f7 "is_few" Ax o7 r7 v7 d7 p7 s7 q7 t7 u7)
 (c7:aC K q7 "is_few") (k7:aK K f7)
 (a8:aR K "outnumber" f8)
 (l8:aM K f8 "outnumber" Ep o8 r8 v8 d8 p8 s8 q8 t8 u8)
 (c8:aC K q8 "outnumber") (k8:aK K f8)
 (a9:aR K "enough_of" f9)
 (l9:aM K f9 "enough_of" Er o9 r9 v9 d9 p9 s9 q9 t9 u9)
 (c9:aC K q9 "enough_of") (k9:aK K f9)
 (a10:aR K "are_sums" Jq)
 (l10:aM K Jq "are_sums" Ay o10 r10 v10 d10 p10 fS q10 Eo u10)
 (c10:aC K q10 "are_sums") (k10:aK K Jq)
 (a11:aR K "are_first_sums" Jr)
 (l11:aM K Jr "are_first_sums" kg o11 r11 v11 d11 p11 Bx q11 t11 u11)
 (c11:aC K q11 "are_first_sums") (k11:aK K Jr)
 (a12:aG K eP "__init__" eB)
 (l12:aL K eB "__init__" "NoPurse.__init__" y0 o12 r12 v12 d12 p12 Ia q12 t12 u12)
 (c12:aC K q12 "NoPurse.__init__") (k12:aK K eB)
 (xrn12:Ai K eP eB = true) (xd12a:aF K eP "__setattr__" (some (.builtin "object.__setattr__"))) (xd12b:aF K eP "__getattribute__" (some (.builtin "BaseException.__getattribute__"))) (xd12c:aF K eP "__getattr__" none) (xd12d:aF K eP "purse" none)
 (a13:aR K "check_houses" Jt)
 (l13:aM K Jt "check_houses" Es o13 r13 v13 d13 p13 s13 q13 t13 u13)
 (c13:aC K q13 "check_houses") (k13:aK K Jt)
 (a14:aR K "check_purses" pT)
 (l14:aM K pT "check_purses" Et o14 r14 v14 d14 p14 s14 q14 t14 u14)
 (c14:aC K q14 "check_purses") (k14:aK K pT)
 (a15:aR K "check_world" mE)
 (l15:aM K mE "check_world" Az o15 r15 v15 d15 p15 s15 q15 t15 u15)
 (c15:aC K q15 "check_world") (k15:aK K mE)
 (a16:aG K hZ "__init__" BU) (n16:aI K BU)
 (mk16:W.makesIn K hZ = true) (mq16:aK K hZ)
 (l16:aL K BU "__init__" "Board.__init__" gz o16 r16 v16 d16 p16 s16 q16 t16 u16)
 (c16:aC K q16 "Board.__init__") (k16:aK K BU)
 (a17:aG K hZ "is_carried" mF) (n17:aI K mF)
 (l17:aL K mF "is_carried" "Board.is_carried" va o17 r17 v17 d17 p17 s17 q17 t17 u17)
 (c17:aC K q17 "Board.is_carried") (k17:aK K mF)
 (a18:aG K hZ "put" BV) (n18:aI K BV)
 (l18:aL K BV "put" "Board.put" vC o18 r18 v18 d18 p18 s18 q18 t18 u18)
 (c18:aC K q18 "Board.put") (k18:aK K BV)
 (a19:aG K hZ "carried" BW) (n19:aI K BW)
 (l19:aL K BW "carried" "Board.carried" ur o19 r19 v19 d19 p19 s19 q19 t19 u19)
 (c19:aC K q19 "Board.carried") (k19:aK K BW)
 (a20:aG K ft "__init__" xW) (n20:aI K xW)
 (mk20:W.makesIn K ft = true) (mq20:aK K ft)
 (l20:aL K xW "__init__" "Book.__init__" AA o20 r20 v20 d20 p20 s20 q20 t20 u20)
 (c20:aC K q20 "Book.__init__") (k20:aK K xW)
 (a21:aG K ft "is_past" xX) (n21:aI K xX)
 (l21:aL K xX "is_past" "Book.is_past" AB o21 r21 v21 d21 p21 s21 q21 t21 u21)
 (c21:aC K q21 "Book.is_past") (k21:aK K xX)
 (a22:aG K ft "is_due" xY) (n22:aI K xY)
 (l22:aL K xY "is_due" "Book.is_due" vD o22 r22 v22 d22 p22 s22 q22 t22 u22)
 (c22:aC K q22 "Book.is_due") (k22:aK K xY)
 (a23:aG K ft "settle" xZ) (n23:aI K xZ)
 (l23:aL K xZ "settle" "Book.settle" vE o23 r23 v23 d23 p23 s23 q23 t23 u23)
 (c23:aC K q23 "Book.settle") (k23:aK K xZ)
 (a24:aG K cR "__init__" BX) (n24:aI K BX)
 (mk24:W.makesIn K cR = true) (mq24:aK K cR)
 (l24:aL K BX "__init__" "Keeper.__init__" wu o24 r24 v24 d24 p24 s24 q24 t24 u24)
 (c24:aC K q24 "Keeper.__init__") (k24:aK K BX)
 (a25:aG K cR "left_of" BY) (n25:aI K BY)
 (l25:aL K BY "left_of" "Keeper.left_of" kb o25 r25 v25 d25 p25 s25 q25 t25 u25)
 (c25:aC K q25 "Keeper.left_of") (k25:aK K BY)
 (a26:aG K cR "give_votes" BZ) (n26:aI K BZ)
 (l26:aL K BZ "give_votes" "Keeper.give_votes" xc o26 r26 v26 d26 p26 s26 q26 t26 u26)
 (c26:aC K q26 "Keeper.give_votes") (k26:aK K BZ)
 (a27:aG K cR "first_due" B0) (n27:aI K B0)
 (l27:aL K B0 "first_due" "Keeper.first_due" xp o27 r27 v27 d27 p27 s27 q27 t27 u27)
 (c27:aC K q27 "Keeper.first_due") (k27:aK K B0)
 (a28:aG K cR "go_on" Ca) (n28:aI K Ca)
 (l28:aL K Ca "go_on" "Keeper.go_on" gq o28 r28 v28 d28 p28 s28 q28 t28 u28)
 (c28:aC K q28 "Keeper.go_on") (k28:aK K Ca)
 (a29:aG K cR "hear" Cb) (n29:aI K Cb)
 (l29:aL K Cb "hear" "Keeper.hear" AD o29 r29 v29 d29 p29 s29 q29 t29 u29)
 (c29:aC K q29 "Keeper.hear") (k29:aK K Cb)
 (a30:aG K cR "take_paper" Cc) (n30:aI K Cc)
 (l30:aL K Cc "take_paper" "Keeper.take_paper" yn o30 r30 v30 d30 p30 s30 q30 t30 u30)
 (c30:aC K q30 "Keeper.take_paper") (k30:aK K Cc)
 (a31:aG K bz "__init__" Cd) (n31:aI K Cd)
 (mk31:W.makesIn K bz = true) (mq31:aK K bz)
 (l31:aL K Cd "__init__" "World.__init__" Eu o31 r31 v31 d31 p31 s31 q31 t31 u31)
 (c31:aC K q31 "World.__init__") (k31:aK K Cd)
 (a32:aG K bz "letters" Ce) (n32:aI K Ce)
 (l32:aL K Ce "letters" "World.letters" AE o32 r32 v32 d32 p32 s32 q32 t32 u32)
 (c32:aC K q32 "World.letters") (k32:aK K Ce)
 (a33:aG K bz "honest" Cf) (n33:aI K Cf)
 (l33:aL K Cf "honest" "World.honest" AF o33 r33 v33 d33 p33 s33 q33 t33 u33)
 (c33:aC K q33 "World.honest") (k33:aK K Cf)
 (a34:aG K bz "papers" Cg) (n34:aI K Cg)
 (l34:aL K Cg "papers" "World.papers" AG o34 r34 v34 d34 p34 s34 q34 t34 u34)
 (c34:aC K q34 "World.papers") (k34:aK K Cg)
 (a35:aG K bz "keeper_of" Ci) (n35:aI K Ci)
 (l35:aL K Ci "keeper_of" "World.keeper_of" vz o35 r35 v35 d35 p35 s35 q35 t35 u35)
 (c35:aC K q35 "World.keeper_of") (k35:aK K Ci)
 (a36:aG K bz "voted" Cj) (n36:aI K Cj)
 (l36:aL K Cj "voted" "World.voted" vF o36 r36 v36 d36 Jg BH q36 t36 u36)
 (c36:aC K q36 "World.voted") (k36:aK K Cj)
 (a37:aG K bz "check_purse" Ck) (n37:aI K Ck)
 (l37:aL K Ck "check_purse" "World.check_purse" yq o37 r37 v37 d37 p37 s37 q37 t37 u37)
 (c37:aC K q37 "World.check_purse") (k37:aK K Ck)
 (a38:aG K bz "check_asker" Cm) (n38:aI K Cm)
 (l38:aL K Cm "check_asker" "World.check_asker" yk o38 r38 v38 d38 p38 QG q38 t38 u38)
 (c38:aC K q38 "World.check_asker") (k38:aK K Cm)
 (a39:aG K bz "check_order" Cn) (n39:aI K Cn)
 (l39:aL K Cn "check_order" "World.check_order" yp o39 r39 v39 d39 p39 s39 q39 t39 u39)
 (c39:aC K q39 "World.check_order") (k39:aK K Cn)
 (a40:aG K bz "check_liar" Co) (n40:aI K Co)
 (l40:aL K Co "check_liar" "World.check_liar" y7 o40 r40 v40 d40 p40 s40 q40 t40 u40)
 (c40:aC K q40 "World.check_liar") (k40:aK K Co)
 (a41:aG K bz "write_to_all" Cp) (n41:aI K Cp)
 (l41:aL K Cp "write_to_all" "World.write_to_all" zq o41 r41 v41 d41 p41 s41 q41 t41 u41)
 (c41:aC K q41 "World.write_to_all") (k41:aK K Cp)
 (a42:aG K bz "put_votes" Cq) (n42:aI K Cq)
 (l42:aL K Cq "put_votes" "World.put_votes" x9 o42 r42 v42 d42 p42 s42 q42 t42 u42)
 (c42:aC K q42 "World.put_votes") (k42:aK K Cq)
 (a43:aG K bz "ask" Cr) (n43:aI K Cr)
 (l43:aL K Cr "ask" "World.ask" vG o43 r43 v43 d43 p43 s43 q43 t43 u43)
 (c43:aC K q43 "World.ask") (k43:aK K Cr)
 (a44:aG K bz "cheat" Cs) (n44:aI K Cs)
 (l44:aL K Cs "cheat" "World.cheat" AH o44 r44 v44 d44 p44 s44 q44 t44 u44)
 (c44:aC K q44 "World.cheat") (k44:aK K Cs)
 (a45:aG K bz "lie" Ct) (n45:aI K Ct)
 (l45:aL K Ct "lie" "World.lie" AI o45 r45 v45 d45 p45 s45 q45 t45 u45)
 (c45:aC K q45 "World.lie") (k45:aK K Ct)
 (a46:aG K bz "show" Cu) (n46:aI K Cu)
 (l46:aL K Cu "show" "World.show" AJ o46 r46 v46 d46 p46 s46 q46 t46 u46)
 (c46:aC K q46 "World.show") (k46:aK K Cu)
 (a47:aG K bz "come" Cv) (n47:aI K Cv)
 (l47:aL K Cv "come" "World.come" vH o47 r47 v47 d47 p47 s47 q47 t47 u47)
 (c47:aC K q47 "World.come") (k47:aK K Cv)
 (a48:aR K "honest_choices" Ju)
 (l48:aM K Ju "honest_choices" yt o48 r48 v48 d48 p48 s48 q48 t48 u48)
 (c48:aC K q48 "honest_choices") (k48:aK K Ju)
 (a49:aR K "is_stuck" Jv)
 (l49:aM K Jv "is_stuck" vI o49 r49 v49 d49 p49 s49 q49 t49 u49)
 (c49:aC K q49 "is_stuck") (k49:aK K Jv)
 (a50:aR K "stuck_purses" Jw)
 (l50:aM K Jw "stuck_purses" gk o50 r50 v50 d50 p50 s50 q50 t50 u50)
 (c50:aC K q50 "stuck_purses") (k50:aK K Jw)
 (a51:aR K "_law_town" Jx)
 (l51:aM K Jx "_law_town" AK o51 r51 v51 d51 p51 s51 q51 t51 u51)
 (c51:aC K q51 "_law_town") (k51:aK K Jx)
 (a52:aR K "_law_draw" Jy)
 (l52:aM K Jy "_law_draw" vJ o52 r52 v52 d52 p52 s52 q52 t52 u52)
 (c52:aC K q52 "_law_draw") (k52:aK K Jy)
 (a53:aR K "_law_pick" Jz)
 (l53:aM K Jz "_law_pick" AL o53 r53 v53 d53 p53 s53 q53 t53 u53)
 (c53:aC K q53 "_law_pick") (k53:aK K Jz)
 (a54:aR K "_law_whole" JA)
 (l54:aM K JA "_law_whole" AM o54 r54 v54 d54 p54 s54 q54 t54 u54)
 (c54:aC K q54 "_law_whole") (k54:aK K JA)
 (a55:aR K "_law_whole_list" JB)
 (l55:aM K JB "_law_whole_list" wa o55 r55 v55 d55 p55 s55 q55 t55 u55)
 (c55:aC K q55 "_law_whole_list") (k55:aK K JB)
 (a56:aR K "_law_refusal" JC)
 (l56:aM K JC "_law_refusal" gm o56 r56 v56 d56 p56 s56 q56 t56 u56)
 (c56:aC K q56 "_law_refusal") (k56:aK K JC)
 (a57:aR K "_law_some" JD)
 (l57:aM K JD "_law_some" vK o57 r57 v57 d57 p57 s57 q57 t57 u57)
 (c57:aC K q57 "_law_some") (k57:aK K JD)
 (a58:aR K "_law_world" JE)
 (l58:aM K JE "_law_world" vL o58 r58 v58 d58 p58 s58 q58 t58 u58)
 (c58:aC K q58 "_law_world") (k58:aK K JE)
 (a59:aR K "_law_told" JF)
 (l59:aM K JF "_law_told" vM o59 r59 v59 d59 p59 s59 q59 t59 u59)
 (c59:aC K q59 "_law_told") (k59:aK K JF)
 (a60:aR K "_law_letter" JG)
 (l60:aM K JG "_law_letter" vN o60 r60 v60 d60 p60 s60 q60 t60 u60)
 (c60:aC K q60 "_law_letter") (k60:aK K JG)
 (a61:aR K "_law_order" JH)
 (l61:aM K JH "_law_order" vO o61 r61 v61 d61 p61 s61 q61 t61 u61)
 (c61:aC K q61 "_law_order") (k61:aK K JH)
 (a62:aR K "_law_go" JI)
 (l62:aM K JI "_law_go" vP o62 r62 v62 d62 p62 s62 q62 t62 u62)
 (c62:aC K q62 "_law_go") (k62:aK K JI)
 (a63:aR K "_law_stuck" JJ)
 (l63:aM K JJ "_law_stuck" vQ o63 r63 v63 d63 p63 s63 q63 t63 u63)
 (c63:aC K q63 "_law_stuck") (k63:aK K JJ)
 (a64:aR K "law" JK)
 (l64:aM K JK "law" vR o64 r64 v64 d64 p64 s64 q64 t64 u64)
 (c64:aC K q64 "law") (k64:aK K JK)
 (ih0:aG K cR "is_due" xY)
 (ih1:aG K cR "is_past" xX)
 (ih2:aG K cR "settle" xZ)
 (yp0:W.specialIn K (.ref ft) "__getattribute__" = some (some (.builtin "type.__getattribute__"))) (yr0:W.readsIn K ft (.type "type") = true) (yf0:W.findCls K (.ref ft) (.type "type") "__init__" = some (.val (.ref xW)))
 (hgc0:aN K "MOST_MUCH" (some (.int 1000 gt0)))
 (hgc1:aN K "LAST_NUMBER" (some (.int 99 gt1)))
 (hgc2:aN K "PAPER_LETTER" (some (.str "paper" gt2)))
 (hgc3:aN K "ORDER_LETTER" (some (.str "order" gt3)))
 (hgc4:aN K "MOST_HOUSES" (some (.int 16 gt4)))
 (hgc5:aN K "MOST_FEW" (some (.int 5 gt5)))
 (hgc6:aN K "MOST_FIRST_SUM" (some (.int 1000 gt6)))
 (hgc7:aN K "LEAST_PURSES" (some (.int 2 gt7)))
 (hgc8:aN K "MOST_PURSES" (some (.int 8 gt8)))
 (xg0:aF K eP "__getattribute__" (some (.builtin "BaseException.__getattribute__"))) (xh0:aF K eP "__getattr__" none) (xj0:aF K eP "__class__" (some (.builtin "object.__class__")))
 (xp0:W.mroIn K eP (.type "BaseException") = some true) (xo0:W.mroIn K eP (.type "object") = some true) (xs0:(W.clsIn K eP).isSome = true)
 (xk0:kinds K (.ref eP) [.ref BS,.ref mJ,.ref mK,.ref BQ,.ref eP,.ref BR,.ref ie,.ref ic,.ref BP,.ref BN,.ref BO,.ref ox,.type "ValueError"] = [some false,some false,some false,some false,some true,some false,some false,some false,some false,some false,some false,some true,some true])
 (xc0_0:W.kitCls K (.ref eP) (.ref ox) = some true)
 (xr1:W.excIn K ic tT "ValueError.__new__" = true)
 (xg1:aF K ic "__getattribute__" (some (.builtin "BaseException.__getattribute__"))) (xh1:aF K ic "__getattr__" none) (xj1:aF K ic "__class__" (some (.builtin "object.__class__")))
 (xp1:W.mroIn K ic (.type "BaseException") = some true) (xo1:W.mroIn K ic (.type "object") = some true) (xs1:(W.clsIn K ic).isSome = true)
 (xk1:kinds K (.ref ic) [.ref BS,.ref mJ,.ref mK,.ref BQ,.ref eP,.ref BR,.ref ie,.ref ic,.ref BP,.ref BN,.ref BO,.ref ox,.type "ValueError"] = [some false,some false,some false,some false,some false,some false,some false,some true,some false,some false,some false,some true,some true])
 (xc1_0:W.kitCls K (.ref ic) (.ref ox) = some true)
 (xr2:W.excIn K ie tT "ValueError.__new__" = true)
 (xg2:aF K ie "__getattribute__" (some (.builtin "BaseException.__getattribute__"))) (xh2:aF K ie "__getattr__" none) (xj2:aF K ie "__class__" (some (.builtin "object.__class__")))
 (xp2:W.mroIn K ie (.type "BaseException") = some true) (xo2:W.mroIn K ie (.type "object") = some true) (xs2:(W.clsIn K ie).isSome = true)
 (xk2:kinds K (.ref ie) [.ref BS,.ref mJ,.ref mK,.ref BQ,.ref eP,.ref BR,.ref ie,.ref ic,.ref BP,.ref BN,.ref BO,.ref ox,.type "ValueError"] = [some false,some false,some false,some false,some false,some false,some true,some false,some false,some false,some false,some true,some true])
 (xc2_0:W.kitCls K (.ref ie) (.ref ox) = some true)
 (xb0:W.mroIn K ox (.type "BaseException") = some true)
 (z0:aN K "isinstance" none)
 (z1:aN K "bool" none)
 (z2:aN K "int" none)
 (z3:aN K "len" none)
 (z4:aN K "tuple" none)
 (z5:aN K "sorted" none)
 (z6:aN K "list" none)
 (z7:aN K "sum" none)
 (z8:aN K "max" none)
 (z9:aN K "all" none)
 (z10:aN K "range" none)
 (z11:aN K "ValueError" none)
 (z12:aN K "set" none) :
 ∃ fd:FuncData,(∀ (s:Shared) (v:Value),BindsTo s fd ⟨[v],[]⟩ [("_law_script",v)]) /\ ∀ base:Heap,K.In base -> base.Ns mainGlobals mg -> xl l.prog w K mg base CX0 12 fa fd ["_law_script"] (j0z K):=by
 have T:Txt K mg ⟨f0,_,f1,_,f2,_,f3,_,f4,_,f5,_,f6,_,f7,_,f8,_,f9,_,Jq,_,Jr,_,eB,_,Jt,_,pT,_,mE,_,BU,_,mF,_,BV,_,BW,_,xW,_,xX,_,xY,_,xZ,_,BX,_,BY,_,BZ,_,B0,_,Ca,_,Cb,_,Cc,_,Cd,_,Ce,_,Cf,_,Cg,_,Ci,_,Cj,_,Ck,_,Cm,_,Cn,_,Co,_,Cp,_,Cq,_,Cr,_,Cs,_,Ct,_,Cu,_,Cv,_,Ju,_,Jv,_,Jw,_,Jx,_,Jy,_,Jz,_,JA,_,JB,_,JC,_,JD,_,JE,_,JF,_,JG,_,JH,_,JI,_,JJ,_,JK,_,hZ,cR,bz,ft,eP,ic,ie,ox,BN,BO,BP,BQ,BR,BS,mJ,mK⟩:=⟨jk (st:=As) l0 c0 k0,
W.mg_of X G a0,
cZ (jk (st:=As) l0 c0 k0),
jk (st:=Au) l1 c1 k1,
W.mg_of X G a1,
iE (jk (st:=Au) l1 c1 k1),
jk (st:=Av) l2 c2 k2,
W.mg_of X G a2,
Aq λ_ _ _=>.of_eq rfl,
⟨_,Ul e2 rfl rfl rfl rfl rfl rfl rfl (by decide +kernel)⟩,
jk (st:=Aw) l3 c3 k3,
W.mg_of X G a3,
cZ (jk (st:=Aw) l3 c3 k3),
jk (st:=vB) l4 c4 k4,
W.mg_of X G a4,
dF (jk (st:=vB) l4 c4 k4),
jk (st:=uy) l5 c5 k5,
W.mg_of X G a5,
dF (jk (st:=uy) l5 c5 k5),
jk (st:=gs) l6 c6 k6,
W.mg_of X G a6,
cZ (jk (st:=gs) l6 c6 k6),
jk (st:=Ax) l7 c7 k7,
W.mg_of X G a7,
cZ (jk (st:=Ax) l7 c7 k7),
jk (st:=Ep) l8 c8 k8,
W.mg_of X G a8,
Aq λ_ _ _=>.of_eq rfl,
jk (st:=Er) l9 c9 k9,
W.mg_of X G a9,
Aq λ_ _ _=>.of_eq rfl,
jk (st:=Ay) l10 c10 k10,
W.mg_of X G a10,
cZ (jk (st:=Ay) l10 c10 k10),
jk (st:=kg) l11 c11 k11,
W.mg_of X G a11,
cZ (jk (st:=kg) l11 c11 k11),
jk (st:=y0) l12 c12 k12,
⟨xrn12,a12,xd12a,xd12b,xd12c,xd12d⟩,
dF (jk (st:=y0) l12 c12 k12),
jk (st:=Es) l13 c13 k13,
W.mg_of X G a13,
Xw λ_ _ _ _=>.of_eq rfl,
jk (st:=Et) l14 c14 k14,
W.mg_of X G a14,
Aq λ_ _ _=>.of_eq rfl,
jk (st:=Az) l15 c15 k15,
W.mg_of X G a15,
cZ (jk (st:=Az) l15 c15 k15),
jk (st:=gz) l16 c16 k16,
⟨a16,n16,k16⟩,
⟨mk16,a16,n16,mq16⟩,
dF (jk (st:=gz) l16 c16 k16),
jk (st:=va) l17 c17 k17,
⟨a17,n17,k17⟩,
dF (jk (st:=va) l17 c17 k17),
jk (st:=vC) l18 c18 k18,
⟨a18,n18,k18⟩,
iE (jk (st:=vC) l18 c18 k18),
jk (st:=ur) l19 c19 k19,
⟨a19,n19,k19⟩,
cZ (jk (st:=ur) l19 c19 k19),
jk (st:=AA) l20 c20 k20,
⟨a20,n20,k20⟩,
⟨mk20,a20,n20,mq20⟩,
dF (jk (st:=AA) l20 c20 k20),
jk (st:=AB) l21 c21 k21,
⟨a21,n21,k21⟩,
dF (jk (st:=AB) l21 c21 k21),
jk (st:=vD) l22 c22 k22,
⟨a22,n22,k22⟩,
dF (jk (st:=vD) l22 c22 k22),
jk (st:=vE) l23 c23 k23,
⟨a23,n23,k23⟩,
dF (jk (st:=vE) l23 c23 k23),
jk (st:=wu) l24 c24 k24,
⟨a24,n24,k24⟩,
⟨mk24,a24,n24,mq24⟩,
dF (jk (st:=wu) l24 c24 k24),
jk (st:=kb) l25 c25 k25,
⟨a25,n25,k25⟩,
iE (jk (st:=kb) l25 c25 k25),
jk (st:=xc) l26 c26 k26,
⟨a26,n26,k26⟩,
cZ (jk (st:=xc) l26 c26 k26),
jk (st:=xp) l27 c27 k27,
⟨a27,n27,k27⟩,
cZ (jk (st:=xp) l27 c27 k27),
jk (st:=gq) l28 c28 k28,
⟨a28,n28,k28⟩,
cZ (jk (st:=gq) l28 c28 k28),
jk (st:=AD) l29 c29 k29,
⟨a29,n29,k29⟩,
dF (jk (st:=AD) l29 c29 k29),
jk (st:=yn) l30 c30 k30,
⟨a30,n30,k30⟩,
dF (jk (st:=yn) l30 c30 k30),
jk (st:=Eu) l31 c31 k31,
⟨a31,n31,k31⟩,
⟨mk31,a31,n31,mq31⟩,
⟨λs us ws _ hl=>match us,ws,hl with | [_,_],[_,_,_,_],_=>.of_eq rfl,λ{vs us zs ws} r1 r2=>Xm r1 r2⟩,
jk (st:=AE) l32 c32 k32,
⟨a32,n32,k32⟩,
cZ (jk (st:=AE) l32 c32 k32),
jk (st:=AF) l33 c33 k33,
⟨a33,n33,k33⟩,
cZ (jk (st:=AF) l33 c33 k33),
jk (st:=AG) l34 c34 k34,
⟨a34,n34,k34⟩,
cZ (jk (st:=AG) l34 c34 k34),
jk (st:=vz) l35 c35 k35,
⟨a35,n35,k35⟩,
dF (jk (st:=vz) l35 c35 k35),
jk (st:=vF) l36 c36 k36,
⟨a36,n36,k36⟩,
MU (jk (st:=vF) l36 c36 k36),
jk (st:=yq) l37 c37 k37,
⟨a37,n37,k37⟩,
dF (jk (st:=yq) l37 c37 k37),
jk (st:=yk) l38 c38 k38,
⟨a38,n38,k38⟩,
iE (jk (st:=yk) l38 c38 k38),
jk (st:=yp) l39 c39 k39,
⟨a39,n39,k39⟩,
dF (jk (st:=yp) l39 c39 k39),
jk (st:=y7) l40 c40 k40,
⟨a40,n40,k40⟩,
dF (jk (st:=y7) l40 c40 k40),
jk (st:=zq) l41 c41 k41,
⟨a41,n41,k41⟩,
iE (jk (st:=zq) l41 c41 k41),
jk (st:=x9) l42 c42 k42,
⟨a42,n42,k42⟩,
iE (jk (st:=x9) l42 c42 k42),
jk (st:=vG) l43 c43 k43,
⟨a43,n43,k43⟩,
MU (jk (st:=vG) l43 c43 k43),
jk (st:=AH) l44 c44 k44,
⟨a44,n44,k44⟩,
iE (jk (st:=AH) l44 c44 k44),
jk (st:=AI) l45 c45 k45,
⟨a45,n45,k45⟩,
iE (jk (st:=AI) l45 c45 k45),
jk (st:=AJ) l46 c46 k46,
⟨a46,n46,k46⟩,
iE (jk (st:=AJ) l46 c46 k46),
jk (st:=vH) l47 c47 k47,
⟨a47,n47,k47⟩,
dF (jk (st:=vH) l47 c47 k47),
jk (st:=yt) l48 c48 k48,
W.mg_of X G a48,
cZ (jk (st:=yt) l48 c48 k48),
jk (st:=vI) l49 c49 k49,
W.mg_of X G a49,
dF (jk (st:=vI) l49 c49 k49),
jk (st:=gk) l50 c50 k50,
W.mg_of X G a50,
cZ (jk (st:=gk) l50 c50 k50),
jk (st:=AK) l51 c51 k51,
W.mg_of X G a51,
cZ (jk (st:=AK) l51 c51 k51),
jk (st:=vJ) l52 c52 k52,
W.mg_of X G a52,
dF (jk (st:=vJ) l52 c52 k52),
jk (st:=AL) l53 c53 k53,
W.mg_of X G a53,
dF (jk (st:=AL) l53 c53 k53),
jk (st:=AM) l54 c54 k54,
W.mg_of X G a54,
cZ (jk (st:=AM) l54 c54 k54),
jk (st:=wa) l55 c55 k55,
W.mg_of X G a55,
cZ (jk (st:=wa) l55 c55 k55),
jk (st:=gm) l56 c56 k56,
W.mg_of X G a56,
cZ (jk (st:=gm) l56 c56 k56),
jk (st:=vK) l57 c57 k57,
W.mg_of X G a57,
iE (jk (st:=vK) l57 c57 k57),
jk (st:=vL) l58 c58 k58,
W.mg_of X G a58,
cZ (jk (st:=vL) l58 c58 k58),
jk (st:=vM) l59 c59 k59,
W.mg_of X G a59,
Xv (jk (st:=vM) l59 c59 k59),
jk (st:=vN) l60 c60 k60,
W.mg_of X G a60,
dF (jk (st:=vN) l60 c60 k60),
jk (st:=vO) l61 c61 k61,
W.mg_of X G a61,
iE (jk (st:=vO) l61 c61 k61),
jk (st:=vP) l62 c62 k62,
W.mg_of X G a62,
iE (jk (st:=vP) l62 c62 k62),
jk (st:=vQ) l63 c63 k63,
W.mg_of X G a63,
cZ (jk (st:=vQ) l63 c63 k63),
jk (st:=vR) l64 c64 k64,
W.mg_of X G a64,
cZ (jk (st:=vR) l64 c64 k64),
⟨_,W.mg_of X G hgc0⟩,
⟨_,W.mg_of X G hgc1⟩,
⟨_,W.mg_of X G hgc2⟩,
⟨_,W.mg_of X G hgc3⟩,
⟨_,W.mg_of X G hgc4⟩,
⟨_,W.mg_of X G hgc5⟩,
⟨_,W.mg_of X G hgc6⟩,
⟨_,W.mg_of X G hgc7⟩,
⟨_,W.mg_of X G hgc8⟩,
W.mg_of X G cm0,
⟨cg0,ch0,co0,cs0⟩,
cn0_0,
cn0_1,
W.mg_of X G cm1,
⟨cg1,ch1,co1,cs1⟩,
cn1_0,
cn1_1,
cn1_2,
cn1_3,
cn1_4,
cn1_5,
cn1_6,
W.mg_of X G cm2,
⟨cg2,ch2,co2,cs2⟩,
⟨ia2,in2,it2,im2,ik2⟩,
cn2_0,
cn2_1,
cn2_2,
cn2_3,
cn2_4,
cn2_5,
cn2_6,
cn2_7,
W.mg_of X G cm3,
⟨cg3,ch3,co3,cs3⟩,
cn3_0,
cn3_1,
cn3_2,
⟨ih0,n22,k22⟩,
⟨ih1,n21,k21⟩,
⟨ih2,n23,k23⟩,
⟨yp0,yr0,yf0,k20⟩,
W.mg_of X G xm0,
W.mg_of X G xm1,
W.mg_of X G xm2,
W.mg_of X G xm3,
W.mg_of X G xm4,
W.mg_of X G xm5,
W.mg_of X G xm6,
W.mg_of X G xm7,
W.mg_of X G xm8,
W.mg_of X G xm9,
W.mg_of X G xm10,
W.mg_of X G xm11,
⟨xg0,xh0,xj0,xp0,xo0,xs0⟩,
xk0,
xc0_0,
xr1,
⟨xg1,xh1,xj1,xp1,xo1,xs1⟩,
xk1,
xc1_0,
xr2,
⟨xg2,xh2,xj2,xp2,xo2,xs2⟩,
xk2,
xc2_0,
xb0,
W.mg_none_of X G z0,
W.mg_none_of X G z1,
W.mg_none_of X G z2,
W.mg_none_of X G z3,
W.mg_none_of X G z4,
W.mg_none_of X G z5,
W.mg_none_of X G z6,
W.mg_none_of X G z7,
W.mg_none_of X G z8,
W.mg_none_of X G z9,
W.mg_none_of X G z10,
W.mg_none_of X G z11,
W.mg_none_of X G z12⟩
 have e:=hfa.symm.trans T.j6z
 cases e
 exact ⟨_,λs v=>.of_eq rfl,λbase _ _=>j77 T⟩
end M
namespace PySem.W.Fast
theorem t:True:=⟨⟩
def tw9574748509496892406:=t
def tw14909306777887201930:=t
def tw10484518870976799284:=t
def tw10518689239566461092:=t
def tw1469857660425958666:=t
def tw801019377743265713:=t
def tw15088454871906556386:=t
def tw13797195048357245903:=t
def tw7903457488615630452:=t
def tw16186269230560057539:=t
def tw3287250364959607626:=t
def tw12108922494860912358:=t
def tw15542694358615421590:=t
def tw7237454755106585592:=t
def tw10584217180094737128:=t
def tw12275463199564075062:=t
def tw18350162579576168287:=t
def tw12114587838565915411:=t
def tw17805830721054821672:=t
def tw13770708992814343188:=t
def tw3220152613381084663:=t
def tw11948202927719711473:=t
def tw7038304697609470981:=t
def tw1787184756946809988:=t
def tw15526575477877694380:=t
def tw18073174897600376882:=t
def tw8786904883442352819:=t
def tw11420354550766306530:=t
def tw57249609954316442:=t
def tw763047519019291084:=t
def tw13063962918588381649:=t
def tw18441834253381800365:=t
def tw1310111501125769161:=t
def tw1621524024736948842:=t
def tw4539314886592252729:=t
def tw17620838631437278456:=t
def tw18398711266031274308:=t
def tw15301583531181269291:=t
def tw2159383288241176499:=t
def tw17383520891111344679:=t
def tw4438216927143641176:=t
def tw3200933387633680213:=t
def tw17228169191374971840:=t
def tw14780039536660273750:=t
def tw9726418010528703510:=t
def tw4758440459173473550:=t
def tw13776509159219163833:=t
def tw12701789046193193892:=t
def tw14568249639604291061:=t
def tw7522242834314404781:=t
def tw4681144220783583719:=t
def tw10710617441505047259:=t
def tw2156250260834975745:=t
def tw2917441396290278856:=t
def tw881384178769902251:=t
def tw4093797667267509739:=t
def tw6702086558847042652:=t
def tw16255012390980688671:=t
def tw2183008647889521623:=t
def tw7738610481940634853:=t
def tw10009457015849514334:=t
def tw614485061729161218:=t
def tw5645533252346746407:=t
def tw1766770468655828596:=t
def tw5468649310805446691:=t
def tw11664581444124104147:=t
def tw13958392789628754288:=t
def tw18276567711514356545:=t
def tw5036349200225464862:=t
def tw6120321631852604523:=t
def tw12725078116184897682:=t
def tw11957281937640121537:=t
def tw10567555053238825133:=t
def tw9518597240480219306:=t
def tw15320397588968424333:=t
def tw7927498409224663187:=t
def tw11989177184974865938:=t
def tw3379059293064156657:=t
def tw5492514835331108564:=t
def tw4301434675306796842:=t
def tw2686342724530848661:=t
def tw13660408104694210969:=t
def tw5387791825594870005:=t
def tw9338250387813467885:=t
def tw6214619437062585649:=t
def tw15082952905827745222:=t
def tw15577488518100020025:=t
def tw17880044878103987984:=t
def tw236856264200062515:=t
def tw4967837804339957711:=t
def tw389619447952008575:=t
def tw5205106034410660332:=t
def tw11526037708907954049:=t
def tw9289371040036952082:=t
def tw5609343571532826704:=t
def tw11247693272498012224:=t
def tw17992254287308547374:=t
def tw16110685296846231835:=t
def tw9239878231419518472:=t
def tw4389443781433670497:=t
def tw13714683579660953877:=t
def tw1153673485081673016:=t
def tw16450807789219756691:=t
def tw13387297459464782086:=t
def tw16311885415181971477:=t
def tw17327020793580280410:=t
def tw178069690054240296:=t
def tw5397747989454746284:=t
def tw999360136724784115:=t
def tw17154703585310423929:=t
def tw11177656672760387164:=t
def tw4455434856712710249:=t
def tw677753216075539853:=t
def tw13458740509428138630:=t
def tw4271047585907132968:=t
def tw11513916522562583465:=t
def tw17617685844246809250:=t
def tw745340911309898835:=t
def tw16105761225032084404:=t
def tw15746202366844680389:=t
def tw6723896760131462871:=t
def tw15290200500263558537:=t
def tw2269185726177357596:=t
def tw11431556648079668103:=t
def tw16209901281694655781:=t
def tw4924892697866308157:=t
def tw5358039908076891504:=t
def tw9022636775410179780:=t
def tw10139047641225855716:=t
def tw17356761100872259812:=t
def tw4713357717341091614:=t
def tw10505715740414712594:=t
def tw8493120899298129555:=t
def tw12797842502402008713:=t
def tw758635729319700162:=t
def tw15116100784776507057:=t
def tw2882304932349132228:=t
def tw15308579949119384855:=t
def tw17027723478904684769:=t
def tw9947655584443712287:=t
def tw10702023662645137188:=t
def tw16657316535035219691:=t
def tw8071269671943761976:=t
def tw638098648491536799:=t
def tw16972269523008737654:=t
def tw5891907929749171433:=t
def tw13932806786219005599:=t
def tw17819053527255113342:=t
def tw5327609593542262959:=t
def tw6523358668241606805:=t
def tw5070457627101979322:=t
def tw18113751786812505774:=t
def tw6301167558321238201:=t
def tw17900705918732538586:=t
def tw7900631427199623143:=t
def tw8873574780082222526:=t
def tw16163395412649136317:=t
def tw17514354504197197439:=t
def tw4260191919213721350:=t
def tw12830692056352168777:=t
def tw14262336127871819283:=t
def tw12880544686824432907:=t
def tw9207553917037866240:=t
def tw11164490423621792707:=t
def tw2411281804305238199:=t
def tw17845674708464065150:=t
def tw14789837309844444673:=t
def tw13019665175354689882:=t
def tw6646104555160605754:=t
def tw13656641971589178686:=t
def tw5815666106946601391:=t
def tw6972858862752792571:=t
def tw16319049788186860010:=t
def tw5978606039329859512:=t
def tw3008764262613591595:=t
def tw289526693503972959:=t
def tw17826788864103230780:=t
def tw16430585798587711596:=t
def tw2732506966460432432:=t
def tw3640088049543212902:=t
def tw9643887421193033682:=t
def tw6450916256018991589:=t
def tw4426143793097385128:=t
def tw14822847685544201367:=t
def tw16902114308224188560:=t
def tw1795410064336656797:=t
def tw17473149748808856551:=t
def tw17772462056555969799:=t
def tw11064192034012798483:=t
def tw14348325292135971695:=t
def tw13347731622061505092:=t
def tw521364418476903320:=t
def tw9940378449615449433:=t
def tw16964321755483103817:=t
def tw14857132335235968913:=t
def tw2087795443668393280:=t
def tw8375259594987504078:=t
def tw8878225998108062777:=t
def tw7277951385364406763:=t
def tw6869361127465981554:=t
def tw11074678288794426798:=t
def tw1828504696165927064:=t
def tw1997981291305649264:=t
def tw13111200606478472489:=t
def tw6411320084422200177:=t
def tw1889138688528314028:=t
def tw18393456399864078621:=t
def tw14280172067666152684:=t
def tw4893253267119446299:=t
def tw2726699775854572106:=t
def tw9072438106238028990:=t
def tw17064245121115354576:=t
def tw8027088731575510412:=t
def tw12077689531651525614:=t
def tw15366919225287823103:=t
def tw10061897634945405830:=t
def tw5519848949460579027:=t
def tw9028028790225655148:=t
def tw4473658688159298412:=t
def tw16637917278310932750:=t
def tw17433000155641663108:=t
def tw17262716509406872949:=t
def tw16914555571380151000:=t
def tw13082358788688749417:=t
def tw13961528550699365094:=t
def tw6065339692771992258:=t
def tw7896658143748927122:=t
def tw15120483011908353230:=t
def tw14700131410557391957:=t
def tw932908014432790296:=t
def tw10048206159768757791:=t
def tw16893365718849169207:=t
def tw4387567142711807775:=t
def tw2678759083966826958:=t
def tw10790858065196267012:=t
def tw5667529088780332271:=t
def tw5006490227954568517:=t
def tw17416451124078777700:=t
def tw2587327026522874074:=t
def tw10595756895084341192:=t
def tw4232991497718430591:=t
def tw15508056030066470885:=t
def tw14351910180036083005:=t
def tw17817344218104598689:=t
def tw299044485106847152:=t
def tw10724765866125762698:=t
def tw2746684559540780368:=t
def tw12916212823145451891:=t
def tw4857926501751770174:=t
def tw12037793669345250671:=t
def tw14553057902418365363:=t
def tw16447429631841090977:=t
def tw6441344439188527881:=t
def tw10786778029057850563:=t
def tw5703613016305237432:=t
def tw8967978361918461989:=t
def tw12641842183691094378:=t
def tw12263230214953477261:=t
def tw11294183813773094854:=t
def tw7295665015404451047:=t
def tw9917508429322455130:=t
def tw6092055859244991504:=t
def tw11826377656630583623:=t
def tw14659517800100969441:=t
def tw16785438416588442550:=t
def tw6114066394869137271:=t
def tw2690431122625569016:=t
def tw830051178133685824:=t
def tw14525317019722299648:=t
def tw1917806985232117561:=t
def tw12447951206531669830:=t
def tw13322852431219663317:=t
def tw5129439314320175660:=t
def tw2445624377021544922:=t
def tw6319082869519005484:=t
def tw6979969945234059546:=t
def tw16438609391622521191:=t
def tw14440553587554696326:=t
def tw5148475107004425387:=t
def tw4721407484653707829:=t
def tw11411057195507359689:=t
def tw9230869590405806894:=t
def tw17127770263524594115:=t
def tw18131299624115454823:=t
def tw3082070963359031508:=t
def tw10204824062795223345:=t
def tw13592618785235293719:=t
def tw7931725762392982054:=t
def tw14367610718834539936:=t
def tw10567740022386221728:=t
def tw3933528056344477399:=t
def tw13473682028290290089:=t
def tw990743808372705481:=t
def tw9604306277381364628:=t
def tw2342190545463874548:=t
def tw4462036402443716831:=t
def tw16762907819426825206:=t
def tw18337989253653678266:=t
def tw13361817198005863062:=t
def tw12792830460746134953:=t
def tw13538000018464684482:=t
def tw1668088712023375975:=t
def tw11806069095065697727:=t
def tw12587709731782928114:=t
def tw18139100425457997633:=t
def tw1252394073592555940:=t
def tw4093233233639760863:=t
def tw5849153597740623582:=t
def tw14130204849340867016:=t
def tw17267155895137601009:=t
def tw11005412969613648632:=t
def tw6961985057355282971:=t
def tw6141203891172458844:=t
def tw9796082965527478782:=t
def tw15987349644177856019:=t
def tw10104957580403047482:=t
def tw14828614602996717950:=t
def tw5575048252101307566:=t
def tw4688162064767402064:=t
def tw16401492011144297104:=t
def tw3731967722961036805:=t
def tw17853904762371758112:=t
def tw14905546314569876019:=t
def tw7859808171595902871:=t
def tw8070582769564614452:=t
def tw7233620993133013784:=t
def tw5242953128762202882:=t
def tw5548077952445049412:=t
def tw2376456918863942231:=t
def tw10079655600987621408:=t
def tw14273694261186380785:=t
def tw13223786715900108518:=t
def tw17963091283496803583:=t
def tw9888858051716285272:=t
def tw7979100513214389977:=t
def tw101199499736476131:=t
def tw874510019095146446:=t
def tw10669915463058946753:=t
def tw14972779346637322008:=t
def tw8410460095790866548:=t
def tw14463807605911798263:=t
def tw3971102708015120981:=t
def tw10278124192512909866:=t
def tw15920908009625383599:=t
def tw3975109929651364359:=t
def tw13636801060146591359:=t
def tw8419457335457946188:=t
def tw7989123150501556925:=t
def tw7950046457999960506:=t
def tw13474445558441728265:=t
def tw1791827186207201629:=t
def tw13828835295831016277:=t
def tw3612161430216108608:=t
def tw7191489215887820090:=t
def tw2862950711216830363:=t
def tw6361611285100026503:=t
def tw6008868373907564372:=t
def tw9556239111372478556:=t
def tw2718878818835118283:=t
def tw2774798653735754919:=t
def tw12291314786780571498:=t
def tw11072709930861323995:=t
def tw3269148754119284022:=t
def tw7452438408605012255:=t
def tw2889988531235317809:=t
def tw6842014932071666456:=t
def tw1384577737546772436:=t
def tw8615418377450851351:=t
def tw12878314288672755657:=t
def tw14253550497407393538:=t
def tw5775458893185456652:=t
def tw513171565854951082:=t
def tw2502847068426552499:=t
def tw1508706357708504850:=t
def tw9210243695567598903:=t
def tw15347009306165660327:=t
def tw9782473207053991201:=t
def tw8818265045077818458:=t
def tw10782346105213708195:=t
def tw2744604220275086928:=t
def tw7973654698864024613:=t
def tw728679375819067210:=t
def tw15650535549350109975:=t
def tw17036516743738781779:=t
def tw14611793709211491691:=t
def tw3040355969239439780:=t
def tw9367065359928463885:=t
def tw13158789088544723163:=t
def tw9121696762113751050:=t
def tw10384167206396342107:=t
def tw3489776250901556133:=t
def tw14393227761002658193:=t
def tw10473224280983486453:=t
def tw14386877637275582120:=t
def tw10527214250046510113:=t
def tw17002742194975859375:=t
def tw5588698159955007224:=t
def tw17907517926296387870:=t
def tw17177186223351981831:=t
def tw5901035348192957847:=t
def tw2532738384600695705:=t
def tw2929773210521668567:=t
def tw9127093436678775997:=t
def tw14293169879778342969:=t
def tw2879733238399219296:=t
def tw5972717087595615641:=t
def tw5600381108352901801:=t
def tw11409228203874536046:=t
def tw5561084845874443460:=t
def tw365344743306298882:=t
def tw12984643701178933782:=t
def tw15287736293296555374:=t
def tw37828735386269786:=t
def tw10011255148177489471:=t
def tw6660755073677943275:=t
def tw10325148601082305407:=t
def tw5716384471327352590:=t
def tw17485831421813190437:=t
def tw14333773676867870637:=t
def tw7746900426267524300:=t
def tw14493975988854284607:=t
def tw6304186998701558419:=t
def tw9506167053169817823:=t
def tw5537947037023325790:=t
def tw2020033761455670253:=t
def tw17579814196118979265:=t
def tw11439074332268080896:=t
def tw16552699270546078004:=t
def tw13401776593421697135:=t
def tw16983264636803728287:=t
def tw12585415442583496732:=t
def tw13456321015128687819:=t
def tw3878678178361391844:=t
def tw17761596841291563701:=t
def tw8974807157548014902:=t
def tw16487882821949218544:=t
def tw3876486058151778765:=t
def tw10168125954773114201:=t
def tw7587495982762696685:=t
def tw1788100860453975603:=t
def tw5767324894041326271:=t
def tw2386960646083713381:=t
def tw11664754841634865475:=t
def tw4853730685148598418:=t
def tw18280303156115811655:=t
def tw7246205642205613053:=t
def tw5520889558673102285:=t
def tw1131984991485525575:=t
def tw13793661058162646123:=t
def tw1151361406820641559:=t
def tw8337461426041454109:=t
def tw8584250484451756353:=t
def tw6537819600735407138:=t
def tw7388275526378355551:=t
def tw16819878869005621658:=t
def tw17258959568178219209:=t
def tw14085538250525739463:=t
def tw7131151744412483757:=t
def tw11972764654505482019:=t
def tw4382273263172396226:=t
def tw8657727489008362851:=t
def tw9415931639629794060:=t
def tw12724613029175781610:=t
def tw1486316603322977431:=t
def tw2757956366144739934:=t
def tw6942232549461497656:=t
def tw2166177364991848287:=t
def tw2738230643445656234:=t
def tw5369043544415335666:=t
def tw9628286737106340017:=t
def tw811086472236851838:=t
def tw15261000517120065878:=t
def tw8037663116330732684:=t
def tw14031975955000767037:=t
def tw15698994049776744212:=t
def tw8469292905488395048:=t
def tw5953370753343866505:=t
def tw4793751566790137240:=t
def tw6122630215105004557:=t
def tw2121627560301265064:=t
def tw17686887446336770155:=t
def tw16757653078728523383:=t
def tw10376685827695164085:=t
def tw11810273525000398544:=t
def tw5097105927103048398:=t
def tw11517935168075647620:=t
def tw12665302835035488578:=t
def tw3073798386872910917:=t
def tw16673215716632777934:=t
def tw11678213992361755133:=t
def tw418719846953994352:=t
def tw16366607396624719251:=t
def tw6273529329096300646:=t
def tw2854402052738366822:=t
def tw9755856609541170511:=t
def tw16222540807353789909:=t
def tw18348650008305093808:=t
def tw7386957869606805043:=t
def tw15793106594771318859:=t
def tw17336365114021276342:=t
def tw17626376155857177768:=t
def tw8351870689564129942:=t
def tw10466702073419325939:=t
def tw12714142060244323262:=t
def tw14207164309237149282:=t
def tw18401239764540095842:=t
def tw14521136642612928665:=t
def tw15960555588785509530:=t
def tw14969901676962382809:=t
def tw4048534846436704338:=t
def tw14023501362598980969:=t
def tw9800930977053930182:=t
def tw17563382188520063412:=t
def tw16421828025482824486:=t
def tw2387538086641396333:=t
def tw13139828395271660461:=t
def tw15008588604626325505:=t
def tw7740738656052642704:=t
def tw5330670647292326976:=t
def tw16735613973602253441:=t
def tw17524392988593322559:=t
def tw5773688124436819438:=t
def tw1901108633945336602:=t
def tw17577685405914956743:=t
def tw2719596746780956971:=t
def tw5715694770773648694:=t
def tw14177200203774679848:=t
def tw5069304251345698425:=t
def tw6246688059462644047:=t
def tw2758418820807239857:=t
def tw1074038328850313432:=t
def tw1768612798070590241:=t
def tw9811814834748294256:=t
def tw14801770614546070192:=t
def tw13415059250397460377:=t
def tw10546471137961619941:=t
def tw4810793078841909037:=t
def tw15035135454587422929:=t
def tw10832298620475417981:=t
def tw9815870994043068244:=t
def tw1937011275110032691:=t
def tw4375349915392425453:=t
def tw15984892389242434606:=t
def tw8823773777439183197:=t
def tw13636501490418438040:=t
def tw5078482279607970283:=t
def tw18214350883936993650:=t
def tw9409352570275887315:=t
def tw3807385568205364188:=t
def tw16104888814419208777:=t
def tw4883504288223419228:=t
def tw6272461053654207647:=t
def tw10429307244587754293:=t
def tw15131857829490570457:=t
def tw11652900470772147353:=t
def tw1776247975441610968:=t
end PySem.W.Fast
open PySem PySem.W PyProof.Rows
set_option maxRecDepth 100000 in
set_option maxHeartbeats 0 in
theorem PySem.Challenge.cw_manypurses_k09_whole_stuck_holds : PySem.Challenge.rw_manypurses_k09_whole_stuck.Holds := by
  w_on; o_law; k_head; (case hw=>w_witness2)
  k_fill
  refine L2.j1o (l:=PySem.Challenge.rw_manypurses_k09_whole_stuck) (n:=63) (k:=12) (x := "_law_script") (CX:=L2.CX0) (sp:=M.j0z) rfl (by decide) rfl ⟨rfl,by decide,by decide⟩ (fun w h Y=>PySem.W.kIn_of Y) ?F ?S ?C
  case F=>
    intro w mg fa h KX G hmg
    refine' M.all_mk KX G hmg ..
    iterate 25 (show _ = _; k_is)
    iterate 2 (show _ = _; kernel_rfl)
    iterate 1 (show _ = _; k_is)
    iterate 1 (show _ = _; kernel_rfl)
    iterate 81 (show _ = _; k_is)
    iterate 1 (show _ = _; kernel_rfl)
    iterate 255 (show _ = _; k_is)
    iterate 3 (show _ = _; kernel_rfl)
    iterate 14 (show _ = _; k_is)
    iterate 4 (show _ = _; kernel_rfl)
    iterate 5 (show _ = _; k_is)
    iterate 4 (show _ = _; kernel_rfl)
    iterate 5 (show _ = _; k_is)
    iterate 3 (show _ = _; kernel_rfl)
    iterate 14 (show _ = _; k_is)
  case S=>exact fun K H a ns hl _ hS=>⟨a,ns,rfl,hS,hl,fun _=>rfl⟩
  case C=>exact fun _ _ _ _ z=>z
