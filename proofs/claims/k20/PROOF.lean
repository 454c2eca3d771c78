import PyProof.Rows.All
import Wide.All
import OpenK.AllK
import Wide.FinOn
import Lean
import PyProof.EqAt
import PyProof.EqKinds
import PyProof.TupleCall
import PySem.Challenge.RW_fencerow_k20_rows_done
set_option Elab.async false
set_option linter.all false
set_option maxRecDepth 100000
set_option maxHeartbeats 4000000
abbrev Fg := PySem.W.Frag
namespace L2
open PySem PySem.Spec PyProof.Rows
abbrev Key:=Sum Int Str
def Ce:Key->Value->Bool
 | .inl k,v=>Value.isInt k v
 | .inr x,v=>Value.isStrOf x v
def a1A (w:World):Key->Int
 | .inl k=>hashInt k
 | .inr x=>hashStr w x
theorem fQ:∀{k:Key}{v:Value},Ce k v=true->(∃i t,k=Sum.inl i/\v=Value.int i t)\/(∃x t,k=Sum.inr x/\v=Value.str x t)
 | .inl i,v,h=>by
   obtain⟨t,e⟩:=Value.isInt_shape (k:=i) (v:=v) h
   exact .inl ⟨i,t,rfl,e⟩
 | .inr x,v,h=>by
   obtain⟨t,e⟩:=Value.isStrOf_shape (x:=x) (v:=v) h
   exact .inr ⟨x,t,rfl,e⟩
theorem PK (i:Int)(t:Tok):Ce (.inl i) (.int i t)=true:=by simp[Ce,Value.isInt]
theorem PL (x:Str)(t:Tok):Ce (.inr x) (.str x t)=true:=by simp[Ce,Value.isStrOf]
theorem Yi (a b:Int):decide ((Sum.inl a:Key)=Sum.inl b)=(a==b):=by
 by_cases e:a=b
 ·subst e;simp
 ·have h:¬(Sum.inl a:Key)=Sum.inl b:=λq=>e (Sum.inl.inj q)
  rw[decide_eq_false h]
  exact(beq_eq_false_iff_ne.mpr e).symm
theorem Yl (a b:Str):decide ((Sum.inr a:Key)=Sum.inr b)=decide (a=b):=by
 by_cases e:a=b
 ·subst e;simp
 ·have h:¬(Sum.inr a:Key)=Sum.inr b:=λq=>e (Sum.inr.inj q)
  rw[decide_eq_false h,decide_eq_false e]
theorem Yj (a:Int)(b:Str):decide ((Sum.inl a:Key)=Sum.inr b)=false:=decide_eq_false (λq=>nomatch q)
theorem Yk (a:Str)(b:Int):decide ((Sum.inr a:Key)=Sum.inl b)=false:=decide_eq_false (λq=>nomatch q)
def bO (prog:Program)(w:World):PySem.KeyKind prog w Key where
 is:=Ce
 hash:=a1A w
 inj:=λv a b ha hb=>by
  rcases fQ ha with⟨i,t,rfl,rfl⟩|⟨x,t,rfl,rfl⟩
  ·rcases fQ hb with⟨j,u,rfl,e⟩|⟨y,u,rfl,e⟩
   ·injection e with e1 _;rw[e1]
   ·exact nomatch e
  ·rcases fQ hb with⟨j,u,rfl,e⟩|⟨y,u,rfl,e⟩
   ·exact nomatch e
   ·injection e with e1 _;rw[e1]
 byValue:=λk v h=>by
  rcases fQ h with⟨i,t,rfl,rfl⟩|⟨x,t,rfl,rfl⟩<;>rfl
 pyHash:=λhv h=>by
  rcases fQ hv with⟨i,t,rfl,rfl⟩|⟨x,t,rfl,rfl⟩
  ·exact wpAny_pyHash_int h
  ·exact wpAny_pyHash_str h
 eqBool:=λhu hv h=>by
  rcases fQ hu with⟨i,t,rfl,rfl⟩|⟨x,t,rfl,rfl⟩
  ·rcases fQ hv with⟨j,u,rfl,rfl⟩|⟨y,u,rfl,rfl⟩
   ·rw[Yi]at h;exact wpAny_eqBool_int h
   ·rw[Yj]at h;exact SeqAt.EqAt.int_str i t y u _ _ _ _ h
  ·rcases fQ hv with⟨j,u,rfl,rfl⟩|⟨y,u,rfl,rfl⟩
   ·rw[Yk]at h;exact SeqAt.EqAt.str_int x t j u _ _ _ _ h
   ·rw[Yl]at h;exact wpAny_eqBool_str h
 «strs»:=λk x t v h=>by
  rcases fQ h with⟨i,u,rfl,e⟩|⟨y,u,rfl,e⟩
  ·exact nomatch e
  ·injection e with e1 _
   subst e1
   cases v<;>rfl
theorem Lj (prog:Program)(w:World)(k:Key)(v:Value):(bO prog w).is k v=Ce k v:=rfl
theorem Jv (prog:Program)(w:World)(i:Int)(t:Tok):(bO prog w).is (.inl i) (.int i t)=true:=PK i t
theorem Jw (prog:Program)(w:World)(x:Str)(t:Tok):(bO prog w).is (.inr x) (.str x t)=true:=PL x t
end L2
namespace L2
open PySem PySem.Spec PyProof.Rows
inductive V where
 |non|bl (b:Bool)|int (i:Int)|str (x:Str)|Zw (b:Array UInt8)|flt (b:UInt64)|ref (a:Addr)|ty (n:String)
 deriving DecidableEq
def RelV:V->Value->Prop
 | .non,u=>u=Value.none
 | .bl b,u=>u=Value.bool b
 | .int i,u=>∃t,u=Value.int i t
 | .str x,u=>∃t,u=Value.str x t
 | .Zw b,u=>∃t,u=Value.bytes b t
 | .flt b,u=>∃t,u=Value.float b t
 | .ref a,u=>u=Value.ref a
 | .ty n,u=>u=Value.type n
abbrev Vals:List V->List Value->Prop:=Paired RelV
theorem Vals.length {xs:List V}{us:List Value}(r:Vals xs us):xs.length=us.length:=Paired.length r
theorem Vals.get:∀{xs:List V}{us:List Value}{i:Nat}{x:V},Vals xs us->xs[i]?=some x->∃u,us[i]?=some u/\RelV x u
 |_,_,_,_,.nil,e=>by simp at e
 |_,_,0,_,.cons r _,e=>by simp at e;subst e;exact⟨_,rfl,r⟩
 |_,_,i+1,x,.cons _ t,e=>by
  obtain⟨u,h1,h2⟩:=Vals.get (i:=i) (x:=x) t (by simpa using e)
  exact⟨u,by simpa using h1,h2⟩
theorem Vals.set {x:V}{u:Value}(r:RelV x u):∀{xs:List V}{us:List Value} (i:Nat),Vals xs us->Vals (xs.set i x) (us.set i u)
 |_,_,_,.nil=> .nil
 |_,_,0,.cons _ t=> .cons r t
 |_,_,i+1,.cons q t=> .cons q (Vals.set r i t)
theorem Vals.append:∀{xs ys:List V}{us ws:List Value},Vals xs us->Vals ys ws->Vals (xs++ys) (us++ws)
 |_,_,_,_,.nil,s=>s
 |_,_,_,_,.cons r t,s=> .cons r (Vals.append t s)
theorem Vals.take:∀{xs:List V}{us:List Value} (n:Nat),Vals xs us->Vals (xs.take n) (us.take n)
 |_,_,0,_=> .nil
 |_,_,_+1,.nil=> .nil
 |_,_,n+1,.cons r t=> .cons r (Vals.take n t)
theorem Vals.drop:∀{xs:List V}{us:List Value} (n:Nat),Vals xs us->Vals (xs.drop n) (us.drop n)
 |_,_,0,r=>r
 |_,_,_+1,.nil=> .nil
 |_,_,n+1,.cons _ t=>Vals.drop n t
theorem Vals.none_of:∀{xs:List V}{us:List Value}{i:Nat},Vals xs us->xs[i]?=none->us[i]?=none:=λ{xs us i} r e=>by
 have h1:=r.length
 have h2:xs.length<=i:=List.getElem?_eq_none_iff.mp e
 exact List.getElem?_eq_none_iff.mpr (by omega)
def uP:Option V->Option Value->Prop
 |some v,some u=>RelV v u
 |none,none=>True
 |_,_=>False
def KV {κ:Type}:List (κ×V)->List (κ×Value)->Prop:=Paired λ(p:κ×V) (q:κ×Value)=>p.1=q.1/\RelV p.2 q.2
def kV:Key->V
 | .inl i=> .int i
 | .inr x=> .str x
inductive HO where
 |lst (xs:List V)
 |tup (xs:List V)
 |dK (kvs:List (Key×V))|dT (kvs:List (List Key×V))
 |set (S:Int->Bool) (n:Nat)
 |ins (C dx:Addr) (fs:List (Str×V))
 |own (x:Addr)
 |xd (fs:List (Str×V))
 |met (f x:Addr)
 |rng (lo hi:Int)
 |Av (o:Obj) (u:HO)
 |Zn (ps:Array Value)
 |ext (φ:Heap->Prop)
abbrev Hp:=Addr->Option HO
def upd (H:Hp)(a:Addr)(o:HO):Hp:=λb=>if b=a then some o else H b
theorem cH {H:Hp}{a:Addr}{o:HO}:upd H a o a=some o:=by unfold upd;rw[if_pos rfl]
theorem bY {H:Hp}{a b:Addr}{o:HO}(h:b≠a):upd H a o b=H b:=by unfold upd;rw[if_neg h]
theorem a0t {H:Hp}{a b:Addr}{o u:HO}(h:H a=some o)(h':H b=some u)(d:o≠u):a≠b:=by
 intro e;subst e;rw[h]at h';exact d (Option.some.inj h')
theorem cM {H:Hp}{a b:Addr}{o:HO}(h:H a=some o)(h':H b=none):a≠b:=by
 intro e;subst e;rw[h]at h';cases h'
def vB (h:Heap)(a:Addr)(items:Array Value):Prop:=∃o,h.get? a=some o/\o.cls= .type "tuple"/\(∃n,o.data= .seq items n)/\o.dict=none
theorem vB.isTup {h:Heap}{a:Addr}{items:Array Value}(x:vB h a items):IsTup h a items:=let⟨o,h1,h2,h3,_⟩:=x;⟨o,h1,h2,h3⟩
theorem vB.lt {h:Heap}{a:Addr}{items:Array Value}(x:vB h a items):a<h.objs.size:=let⟨_,ho,_⟩:=x;Heap.lt_size ho
theorem vB.new (h:Heap)(items:Array Value):vB (h.push { cls:= .type "tuple",data:= .seq items }) h.objs.size items:=⟨_,Heap.get?_push_size _ rfl,rfl,⟨_,rfl⟩,rfl⟩
section
variable (P:Program)(w:World)
def fW (H:Hp)(h:Heap)(a:Addr):HO->Prop
 | .lst xs=>xs.length<=sizeLine/\∃(its:List Value) (n:Nat),Vals xs its/\h.get? a=some { cls:= .type "list",data:= .seq its.toArray n }
 | .tup xs=>xs.length<=sizeLine/\∃its:List Value,Vals xs its/\vB h a its.toArray
 | .dK kvs=>kvs.length<=sizeLine/\(a==sysModules)=false/\∃vs,KV kvs vs/\h.DictOf (bO P w) a vs
 | .dT kvs=>kvs.length<=sizeLine/\(a==sysModules)=false/\∃xs:List (List Key×Addr×Value),
  Paired (λ(p:List Key×V) (q:List Key×Addr×Value)=>p.1=q.1/\H q.2.1=some (.tup (p.1.map kV))/\RelV p.2 q.2.2) kvs xs/\
  ∃o es ep,h.get? a=some o/\o.ExactDict/\o.data= .dict es ep/\es.toList=xs.map (entryOfKey (tupleKind (bO P w)))/\(xs.map (·.1)).Nodup
 | .set S n=>h.SetOf (intKind P w) a S n
 | .ins C dx fs=>H dx=some (.own a)/\fs.length<=1000/\dx≠a/\h.get? a=some (PySem.W.instObj C dx)/\
  ∃mA,h.Ns1 dx mA/\(∀f,uP (fs.lookup f) (mA f))/\PySem.Within mA (fs.map (·.1))
 | .own _=>∃o,h.get? a=some o
 | .xd fs=>∃mA,h.Ns1 a mA/\∀f,uP (fs.lookup f) (mA f)
 | .rng lo hi=>∃t u v,h.get? a=some { cls:= .type "range",data:= .fields #[.int lo t,.int hi u,.int 1 v] }
 | .Av o u=>h.get? a=some o/\fW H h a u
 | .Zn ps=>h.get? a=some { cls:= .none,data:= .fields ps }
 | .met f x=>h.get? a=some (PySem.W.methodObj (.ref f) (.ref x))
 | .ext φ=>φ h/\(∃o,h.get? a=some o)/\∀h1 h2:Heap,φ h1->(∀o,h1.get? a=some o->h2.get? a=some o)->φ h2
def uU (H:Hp)(h:Heap):Prop:=∀a o,H a=some o->fW P w H h a o
end
section
variable {P:Program}{w:World}{H H':Hp}{h h':Heap}{a:Addr}{o:HO}
theorem fW.lt (x:fW P w H h a o):a<h.objs.size:=by
 cases o with
 |lst xs=>obtain⟨_,_,_,_,e⟩:=x;exact Heap.lt_size e
 |tup xs=>obtain⟨_,_,_,p⟩:=x;exact p.lt
 |dK kvs=>obtain⟨_,_,_,_,o,_,_,e,_⟩:=x;exact Heap.lt_size e
 |dT kvs=>obtain⟨_,_,_,_,o,_,_,e,_⟩:=x;exact Heap.lt_size e
 |set S n=>obtain⟨o,_,_,_,e,_⟩:=x;exact Heap.lt_size e
 |ins C dx fs=>obtain⟨_,_,_,e,_⟩:=x;exact Heap.lt_size e
 |own y=>obtain⟨_,e⟩:=x;exact Heap.lt_size e
 |xd fs=>obtain⟨_,⟨_,_,_,e,_⟩,_⟩:=x;exact Heap.lt_size e
 |rng lo hi=>obtain⟨_,_,_,e⟩:=x;exact Heap.lt_size e
 |Av ob u=>obtain⟨e,_⟩:=x;exact Heap.lt_size e
 |Zn ps=>exact Heap.lt_size (show h.get? a=some _ from x)
 |met f y=>exact Heap.lt_size (show h.get? a=some _ from x)
 |ext φ=>obtain⟨_,⟨_,e⟩,_⟩:=x;exact Heap.lt_size e
theorem Paired.Yp {α β:Type}{F G:α->β->Prop}:∀{l₁:List α}{l₂:List β},Paired F l₁ l₂->(∀a b,F a b->G a b)->Paired G l₁ l₂
 |_,_,.nil,_=> .nil
 |_,_,.cons r t,f=> .cons (f _ _ r) (Paired.Yp t f)
theorem fW.stay (x:fW P w H h a o)(k:∀b u,(b=a\/H b=some (.own a))->h.get? b=some u->h'.get? b=some u)
 (ho:∀b,H b=some (.own a)->H' b=some (.own a))(ht:∀b xs,H b=some (.tup xs)->H' b=some (.tup xs)):fW P w H' h' a o:=by
 induction o with
 |lst xs=>obtain⟨z,its,n,r,e⟩:=x;exact⟨z,its,n,r,k _ _ (.inl rfl) e⟩
 |tup xs=>obtain⟨z,its,r,ob,e,c⟩:=x;exact⟨z,its,r,ob,k _ _ (.inl rfl) e,c⟩
 |dK kvs=>obtain⟨z,y,vs,r,ob,es,ep,e,c⟩:=x;exact⟨z,y,vs,r,ob,es,ep,k _ _ (.inl rfl) e,c⟩
 |dT kvs=>
  obtain⟨z,y,xs,r,ob,es,ep,e,c⟩:=x
  exact⟨z,y,xs,Paired.Yp r λp q z=>⟨z.1,ht _ _ z.2.1,z.2.2⟩,ob,es,ep,k _ _ (.inl rfl) e,c⟩
 |set S n=>obtain⟨ob,es,ep,t,e,c⟩:=x;exact⟨ob,es,ep,t,k _ _ (.inl rfl) e,c⟩
 |ins C dx fs=>
  obtain⟨d,z,ne,e,mA,⟨od,es,ep,e2,c⟩,r⟩:=x
  exact⟨ho _ d,z,ne,k _ _ (.inl rfl) e,mA,⟨od,es,ep,k _ _ (.inr d) e2,c⟩,r⟩
 |own y=>obtain⟨ob,e⟩:=x;exact⟨ob,k _ _ (.inl rfl) e⟩
 |xd fs=>obtain⟨mA,⟨od,es,ep,e,c⟩,r⟩:=x;exact⟨mA,⟨od,es,ep,k _ _ (.inl rfl) e,c⟩,r⟩
 |rng lo hi=>obtain⟨t,u,v,e⟩:=x;exact⟨t,u,v,k _ _ (.inl rfl) e⟩
 |Av ob u ih=>obtain⟨e,q⟩:=x;exact⟨k _ _ (.inl rfl) e,ih q⟩
 |Zn ps=>
  have e:h.get? a=some { cls:= .none,data:= .fields ps }:=x
  show h'.get? a=some { cls:= .none,data:= .fields ps }
  exact k a _ (.inl rfl) e
 |met f y=>
  have e:h.get? a=some (PySem.W.methodObj (.ref f) (.ref y)):=x
  show h'.get? a=some (PySem.W.methodObj (.ref f) (.ref y))
  exact k a _ (.inl rfl) e
 |ext φ=>obtain⟨p,⟨o,e⟩,st⟩:=x;exact⟨st _ _ p λo q=>k _ _ (.inl rfl) q,⟨o,k _ _ (.inl rfl) e⟩,st⟩
theorem uU.lt (x:uU P w H h)(e:H a=some o):a<h.objs.size:=(x a o e).lt
theorem uU.fresh (x:uU P w H h)(e:h.objs.size<=a):H a=none:=by
 cases q:H a with
 |none=>rfl
 |some u=>exact absurd (Nat.lt_of_lt_of_le (x.lt q) e) (Nat.lt_irrefl _)
theorem uU.kept (x:uU P w H h)(k:∀b u,h.get? b=some u->h'.get? b=some u):uU P w H h':=λa o e=>
 (x a o e).stay (λb u _ q=>k b u q) (λ_ q=>q) λ_ _ q=>q
theorem uU.laid (x:uU P w H h)(k:∀b u,h.get? b=some u->h'.get? b=some u)(hp:h.objs.size<=a)(new:fW P w (upd H a o) h' a o):uU P w (upd H a o) h':=λb u e=>by
 have hn:=x.fresh hp
 by_cases hb:b=a
 ·subst hb;rw[cH]at e;cases e;exact new
 ·rw[bY hb]at e
  exact(x b u e).stay (λc v _ q=>k c v q) (λc q=>by rw[bY (cM q hn)];exact q) λc xs q=>by rw[bY (cM q hn)];exact q
end
def Rd (H:Hp)(a:Addr)(u:HO):Prop:=H a=some u\/∃o,H a=some (.Av o u)
theorem Rd.ok {P:Program}{w:World}{H:Hp}{h:Heap}{a:Addr}{u:HO}(r:Rd H a u)(x:uU P w H h):fW P w H h a u:=by
 rcases r with r|⟨o,r⟩
 ·exact x a u r
 ·obtain⟨_,q⟩:=x a _ r
  exact q
def ZQ:Option HO->Prop
 |some (.lst _)=>True
 |some (.dK _)=>True
 |some (.dT _)=>True
 |some (.set _ _)=>True
 |some (.ins _ _ _)=>True
 |some (.ext _)=>True
 |_=>False
section
variable {P:Program}{w:World}{H:Hp}{h h':Heap}{x e:Addr}{o':HO}
theorem uU.write (ok:uU P w H h)(mu:ZQ (H x))(he:e=x\/H e=some (.own x))(k:∀b u,b≠e->h.get? b=some u->h'.get? b=some u)(heo:∃u,h'.get? e=some u)
 (new:fW P w (upd H x o') h' x o'):uU P w (upd H x o') h':=λb u q=>by
 have a0u:∀c y,H c=some (.own y)->c≠x:=λc y r z=>by subst z;rw[r]at mu;exact mu
 have a1E:∀c xs,H c=some (.tup xs)->c≠x:=λc xs r z=>by subst z;rw[r]at mu;exact mu
 by_cases hb:b=x
 ·subst hb;rw[cH]at q;cases q;exact new
 ·rw[bY hb]at q
  by_cases hbe:b=e
  ·have q':H b=some (.own x):=by
    rcases he with z|z
    ·exact absurd (hbe.trans z) hb
    ·rw[hbe];exact z
   rw[q]at q';cases q'
   obtain⟨v,hv⟩:=heo
   exact⟨v,by rw[hbe];exact hv⟩
  ·refine(ok b u q).stay (λc v hc r=>k c v ?_ r) (λc r=>by rw[bY (a0u c b r)];exact r) λc xs r=>by rw[bY (a1E c xs r)];exact r
   rcases hc with rfl|hc
   ·exact hbe
   ·rintro rfl
    rcases he with z|z
    ·exact a0u c b hc z
    ·rw[hc]at z;cases z;exact hb rfl
end
structure Un (fs ex:List Addr)(H H':Hp)(h h':Heap):Prop where
 keep:∀b o,h.get? b=some o->H b=none->b∉fs->b∉ex->h'.get? b=some o
 slot:∀b o,h.get? b=some o->H b=none->b∈fs->b∉ex->∃sl,h'.get? b=some { o with slots:=sl }
 free:∀b o,h.get? b=some o->H b=none->b∉ex->H' b=none
 there:∀b o,h.get? b=some o->b∉ex->∃o',h'.get? b=some o'
 tups:∀b xs,H b=some (.tup xs)->H' b=some (.tup xs)
 Ec:∀b o u,H b=some (.Av o u)->H' b=some (.Av o u)
 Ie:∀b ps,H b=some (.Zn ps)->∃more,H' b=some (.Zn (ps++more))
section
variable {fs fs' ex ex':List Addr}{H H1 H2:Hp}{h h1 h2 h':Heap}{a x e:Addr}{o:HO}
theorem Un.any (u:Un fs ex H H1 h h1){b:Addr}{ob:Obj}(q:h.get? b=some ob)(n:H b=none)(hx:b∉ex):∃sl,h1.get? b=some { ob with slots:=sl }:=by
 by_cases hb:b∈fs
 ·exact u.slot b ob q n hb hx
 ·exact⟨ob.slots,u.keep b ob q n hb hx⟩
theorem Un.kept (k:∀b u,h.get? b=some u->h'.get? b=some u):Un fs ex H H h h':=
 ⟨λb ob q _ _ _=>k b ob q,λb ob q _ _ _=>⟨ob.slots,k b ob q⟩,λ_ _ _ n _=>n,λb ob q _=>⟨ob,k b ob q⟩,λ_ _ q=>q,λ_ _ _ q=>q,λ_ ps q=>⟨#[],by rw[q];simp⟩⟩
theorem Un.refl:Un fs ex H H h h:=Un.kept λ_ _ q=>q
theorem Un.laid (k:∀b u,h.get? b=some u->h'.get? b=some u)(hp:h.objs.size<=a)(hn:H a=none):Un fs ex H (upd H a o) h h' where
 keep:=λb u q _ _ _=>k b u q
 slot:=λb u q _ _ _=>⟨u.slots,k b u q⟩
 free:=λb u q n _=>by rw[bY (Nat.ne_of_lt (Nat.lt_of_lt_of_le (Heap.lt_size q) hp))];exact n
 there:=λb u q _=>⟨u,k b u q⟩
 tups:=λb xs q=>by rw[bY (cM q hn)];exact q
 Ec:=λb u xs q=>by rw[bY (cM q hn)];exact q
 Ie:=λb ps q=>⟨#[],by rw[bY (cM q hn),q];simp⟩
theorem Un.write (mu:ZQ (H x))(he:e=x\/H e=some (.own x))(k:∀b u,b≠e->h.get? b=some u->h'.get? b=some u)(heo:∃u,h'.get? e=some u):Un fs ex H (upd H x o) h h':=by
 have hx:∀b,H b=none->b≠x:=λb n z=>by subst z;rw[n]at mu;exact mu
 have hb:∀b,H b=none->b≠e:=λb n z=>by
  subst z
  rcases he with r|r
  ·exact hx b n r
  ·rw[n]at r;cases r
 have hm:∀b u,H b=some u->¬ZQ (some u)->b≠x:=λb u q nm z=>by subst z;rw[q]at mu;exact nm mu
 refine⟨λb u q n _ _=>k b u (hb b n) q,λb u q n _ _=>⟨u.slots,k b u (hb b n) q⟩,λb u q n _=>by rw[bY (hx b n)];exact n,λb u q _=>?_,
  λb xs q=>by rw[bY (hm b _ q λz=>z)];exact q,λb u xs q=>by rw[bY (hm b _ q λz=>z)];exact q,λb ps q=>⟨#[],by rw[bY (hm b _ q λz=>z),q];simp⟩⟩
 by_cases hbe:b=e
 ·subst hbe;exact heo
 ·exact⟨u,k b u hbe q⟩
end
def trk (h:Heap)(H:Hp):List Addr:=(List.range h.objs.size).filter λa=>(H a).isSome
def Hl (h:Heap)(H:Hp):Heap:=PySem.W.hideAll h (trk h H)
theorem Py (h:Heap)(H:Hp):(Hl h H).objs.size=h.objs.size:=PySem.W.hideAll_size _ _
theorem Ru {h:Heap}{H:Hp}{b:Addr}{o:Obj}(e:h.get? b=some o)(n:H b=none):(Hl h H).get? b=some o:=
 PySem.W.hideAll_get _ e λhm=>by
  have q:(H b).isSome=true:=(List.mem_filter.mp hm).2
  rw[n]at q;simp at q
theorem Vv {h:Heap}{H:Hp}{b:Addr}{o:Obj}(e:(Hl h H).get? b=some o):h.get? b=some o/\H b=none:=by
 have e':h.get? b=some o:=PySem.W.of_hideAll (trk h H) e
 refine⟨e',?_⟩
 cases q:H b with
 |none=>rfl
 |some x=>
  have hm:b∈trk h H:=List.mem_filter.mpr ⟨List.mem_range.mpr (Heap.lt_size e'),by simp[q]⟩
  have z:(Hl h H).get? b=none:=PySem.W.hideAll_none (trk h H) hm
  rw[z]at e;cases e
end L2
namespace L2
open PySem PySem.Spec PyProof.Rows
structure Mod (K:Fg)(mg:Str->Option Value)(base:Heap):Prop where
 kin:K.In base
 glob:base.Ns mainGlobals mg
 blt:∃mb,base.Ns builtinsNs mb/\∀x:Str,x≠"__name__"->mb x=bootBuiltins x
 nolimit:base.NoLimit
structure Cx where
 prog:Program
 w:World
 K:Fg
 mg:Str->Option Value
 base:Heap
 A:Around
 N:List Str
 s₀:Shared
 H₀:Hp
 env:Env
 outer:List Env
 stack:List Env
 ex:List Addr
 fn:Str->Bool
 calm:Bool
 pn:List (Addr×Obj)
 xe:Value->Shared->Prop
def frs (l:List Env):List Addr:=l.filterMap (·.frame)
abbrev Cx.fs (X:Cx):List Addr:=frs X.outer
def ZX (sc:Scope)(x:Str):Prop:=sc.names.lookup x=some .local\/sc.names.lookup x=some .cell\/sc.names.lookup x=some .free
def Loc (sc:Scope)(x:Str):Prop:=sc.names.lookup x=some .local\/sc.names.lookup x=some .cell
def Look (env:Env)(h:Heap)(m:Str->Option Value)(x:Str)(u:Value):Prop:=
 (env.kindOf x=some .local/\m x=some u)\/((env.kindOf x=some .cell\/env.kindOf x=some .free)/\∃c,env.cells.lookup x=some c/\h.IsCell c (some u))
structure Cx.Ok (X:Cx):Prop where
 mod:Mod X.K X.mg X.base
 kind:X.env.scope.kind= .function
 glob:X.env.globals=mainGlobals
 blt:X.env.builtins=builtinsNs
 above:X.s₀.heap.objs.size<=X.env.locals
 inj:∀x y c,X.env.cells.lookup x=some c->X.env.cells.lookup y=some c->x=y
 has:∀x,(X.env.kindOf x=some .cell\/X.env.kindOf x=some .free)->∃c,X.env.cells.lookup x=some c
 cab:∀x c,X.fn x=true->X.env.cells.lookup x=some c->X.s₀.heap.objs.size<=c
 hd:X.calm=true->X.A.handled=none
 frames:X.A.frames=some X.stack
 stk:X.stack=X.outer\/(X.stack=X.env::X.outer/\X.env.frame=some X.env.locals)
 exf:∀b∈X.ex,b≠X.env.locals/\∀x c,X.env.cells.lookup x=some c->c≠b
 bs:∀b o,X.base.get? b=some o->X.s₀.heap.get? b=some o/\X.H₀ b=none
 Uz:X.base.objs.size<=X.s₀.heap.objs.size
 RX:∀b o,X.base.get? b=some o->b∉X.ex
 Rm:∀b∈X.ex,b∉X.fs
 zX:X.s₀.heap.FunFrames X.base X.outer
 Y5:∀b∈X.fs,X.H₀ b=none
structure Inv (X:Cx)(pins:List (Addr×Obj))(σ:List (Option V))(H:Hp)(s:Shared):Prop where
 ok:X.Ok
 os:s.os=X.s₀.os
 bare:AllBare s.gens
 base:Un X.fs X.ex X.H₀ H X.s₀.heap s.heap
 loc:∃m,s.heap.Ns X.env.locals m/\∀(i:Nat) (x:Str) (v:V),X.N[i]?=some x->σ[i]?=some (some v)->ZX X.env.scope x->∃u,RelV v u/\Look X.env s.heap m x u
 cell:∀x c,X.env.cells.lookup x=some c->∃v,s.heap.IsCell c v
 free:H X.env.locals=none
 tL:∀x c,X.env.cells.lookup x=some c->H c=none
 pin:∀p∈X.pn++pins,s.heap.get? p.1=some p.2/\H p.1=none/\p.1≠X.env.locals/\p.1∉X.fs/\∀v,p.2.data≠ .cell v
 hok:uU X.prog X.w H s.heap
 len:σ.length=X.N.length
section
variable {X:Cx}{pins:List (Addr×Obj)}{σ:List (Option V)}{H H':Hp}{s:Shared}{h':Heap}
theorem Cx.Ok.a1C (ok:X.Ok){b:Addr}{o:Obj}(e:X.base.get? b=some o):b∉X.fs:=λhb=>by
 have:=(ok.zX.mem hb).1
 rw[e]at this;cases this
theorem Inv.bs (I:Inv X pins σ H s):∀b o,X.base.get? b=some o->s.heap.get? b=some o/\H b=none:=λb o e=>
 ⟨I.base.keep b o (I.ok.bs b o e).1 (I.ok.bs b o e).2 (I.ok.a1C e) (I.ok.RX b o e),I.base.free b o (I.ok.bs b o e).1 (I.ok.bs b o e).2 (I.ok.RX b o e)⟩
theorem Inv.bk (I:Inv X pins σ H s):∀b o,X.base.get? b=some o->s.heap.get? b=some o:=λb o e=>(I.bs b o e).1
theorem Inv.mod (I:Inv X pins σ H s):Mod X.K X.mg X.base:=I.ok.mod
theorem Inv.yS (I:Inv X pins σ H s):X.K.In s.heap:=I.ok.mod.kin.keeps I.bk
theorem Inv.lt (I:Inv X pins σ H s):X.env.locals<s.heap.objs.size:=let⟨_,hn,_⟩:=I.loc;hn.lt
theorem Inv.sz (I:Inv X pins σ H s):X.s₀.heap.objs.size<=s.heap.objs.size:=Nat.le_trans I.ok.above (Nat.le_of_lt I.lt)
theorem Inv.a1D (I:Inv X pins σ H s){a:Addr}(h:s.heap.objs.size<=a):a∉X.fs:=λhb=>by
 obtain⟨_,o,ho,_⟩:=I.ok.zX.mem hb
 exact absurd (Nat.lt_of_lt_of_le (Heap.lt_size ho) (Nat.le_trans I.sz h)) (Nat.lt_irrefl _)
theorem Inv.Xx (I:Inv X pins σ H s):∀x c,X.env.cells.lookup x=some c->c≠X.env.locals:=λx c e z=>by
 obtain⟨v,o,ho,hd⟩:=I.cell x c e
 obtain⟨m,⟨o',es,ep,ho',hd',_⟩,_⟩:=I.loc
 rw[z,ho']at ho;cases ho;rw[hd']at hd;cases hd
theorem Inv.zX (I:Inv X pins σ H s):s.heap.FunFrames X.base X.outer:=by
 have all:∀(l:List Env),(∀b∈frs l,b∈X.fs)->X.s₀.heap.FunFrames X.base l->s.heap.FunFrames X.base l:=by
  intro l
  induction l with
  |nil=>intro _ _;trivial
  |cons env r ih=>
   intro hs hl
   obtain⟨hk,⟨L,o,hf,hn,ho,hd⟩,hr⟩:=hl
   have hL:L∈X.fs:=hs L (by unfold frs;rw[List.filterMap_cons,hf];exact List.mem_cons_self)
   obtain⟨sl,e⟩:=I.base.slot L o ho (I.ok.Y5 L hL) hL λz=>I.ok.Rm L z hL
   exact⟨hk,⟨L,_,hf,hn,e,hd⟩,ih (λb hb=>hs b (by unfold frs;rw[List.filterMap_cons,hf];exact List.mem_cons_of_mem _ hb)) hr⟩
 exact all X.outer (λ_ hb=>hb) I.ok.zX
theorem Inv.stack (I:Inv X pins σ H s):s.heap.FunFrames X.base X.stack:=by
 rcases I.ok.stk with e|⟨e,hf⟩
 ·rw[e];exact I.zX
 ·rw[e]
  obtain⟨m,hn,_⟩:=I.loc
  refine .cons (by rw[I.ok.kind];decide) hf hn ?_ I.zX
  exact Heap.get?_none_of_le (Nat.le_trans I.ok.Uz I.ok.above)
theorem Inv.M8 (I:Inv X pins σ H s):∀b∈frs X.stack,b∈X.env.locals::X.fs:=λb hb=>by
 rcases I.ok.stk with e|⟨e,hf⟩
 ·rw[e]at hb;exact List.mem_cons_of_mem _ hb
 ·rw[e]at hb
  unfold frs at hb
  rw[List.filterMap_cons,hf]at hb
  exact hb
theorem Inv.O1 (I:Inv X pins σ H s):∀b∈frs X.stack,H b=none:=λb hb=>by
 rcases List.mem_cons.mp (I.M8 b hb)with e|hb
 ·rw[e];exact I.free
 ·obtain⟨_,o,ho,_⟩:=I.ok.zX.mem hb
  exact I.base.free b o ho (I.ok.Y5 b hb) λz=>I.ok.Rm b z hb
theorem Inv.step {g':Array GenState}{t':Nat}{d':Drawn}{ch:List Addr}(I:Inv X pins σ H s)
 (hch:∀b∈ch,(b∈X.ex\/X.s₀.heap.objs.size<=b)/\b≠X.env.locals/\(∀x c,X.env.cells.lookup x=some c->c≠b)/\∀p∈X.pn++pins,p.1≠b)
 (keep:∀b o,b≠X.env.locals->b∉X.fs->b∉ch->s.heap.get? b=some o->H b=none->h'.get? b=some o)
 (slot:∀b o,b≠X.env.locals->b∈X.fs->b∉ch->s.heap.get? b=some o->H b=none->∃sl,h'.get? b=some { o with slots:=sl })(free:∀b o,b∉ch->s.heap.get? b=some o->H b=none->H' b=none)
 (there:∀b o,b∉ch->s.heap.get? b=some o->∃o',h'.get? b=some o')
 (tups:∀b xs,H b=some (.tup xs)->H' b=some (.tup xs))(Ec:∀b o u,H b=some (.Av o u)->H' b=some (.Av o u))(Ie:∀b ps,H b=some (.Zn ps)->∃more,H' b=some (.Zn (ps++more)))
 (ns:∀m,s.heap.Ns X.env.locals m->h'.Ns X.env.locals m)(hok:uU X.prog X.w H' h')(hg:AllBare g'):
 Inv X pins σ H' { s with heap:=h',gens:=g',drawn:=d',toks:=t' }:=by
 have neL:∀b o,X.s₀.heap.get? b=some o->b≠X.env.locals:=λb o e=>Nat.ne_of_lt (Nat.lt_of_lt_of_le (Heap.lt_size e) I.ok.above)
 have Uo:∀b o,X.s₀.heap.get? b=some o->b∉X.ex->b∉ch:=λb o e hx hb=>by
  rcases(hch b hb).1 with z|z
  ·exact hx z
  ·exact absurd (Nat.lt_of_lt_of_le (Heap.lt_size e) z) (Nat.lt_irrefl _)
 have cellK:∀x c,X.env.cells.lookup x=some c->∀v,s.heap.IsCell c v->h'.IsCell c v:=λx c e v ⟨o,ho,hd⟩=>by
  have nch:c∉ch:=λz=>(hch c z).2.2.1 x c e rfl
  by_cases hc:c∈X.fs
  ·obtain⟨sl,q⟩:=slot c o (I.Xx x c e) hc nch ho (I.tL x c e)
   exact⟨_,q,hd⟩
  ·exact⟨o,keep c o (I.Xx x c e) hc nch ho (I.tL x c e),hd⟩
 refine⟨I.ok,I.os,hg,⟨λb o e n hb hx=>?_,λb o e n hb hx=>?_,λb o e n hx=>?_,λb o e hx=>?_,λb xs e=>tups b xs (I.base.tups b xs e),λb o xs e=>Ec b o xs (I.base.Ec b o xs e),λb ps e=>?_⟩,?_,λx c e=>?_,?_,λx c e=>?_,λp hp=>?_,hok,I.len⟩
 ·exact keep b o (neL b o e) hb (Uo b o e hx) (I.base.keep b o e n hb hx) (I.base.free b o e n hx)
 ·obtain⟨sl,e1⟩:=I.base.slot b o e n hb hx
  obtain⟨sl',e2⟩:=slot b _ (neL b o e) hb (Uo b o e hx) e1 (I.base.free b o e n hx)
  exact⟨sl',e2⟩
 ·obtain⟨o',e1⟩:=I.base.there b o e hx
  exact free b o' (Uo b o e hx) e1 (I.base.free b o e n hx)
 ·obtain⟨o',e1⟩:=I.base.there b o e hx
  exact there b o' (Uo b o e hx) e1
 ·obtain⟨m1,e1⟩:=I.base.Ie b ps e
  obtain⟨m2,e2⟩:=Ie b _ e1
  exact⟨m1++m2,by rw[e2,Array.append_assoc]⟩
 ·obtain⟨m,hn,hl⟩:=I.loc
  refine⟨m,ns m hn,λi x v e1 e2 e3=>?_⟩
  obtain⟨u,r,l⟩:=hl i x v e1 e2 e3
  refine⟨u,r,?_⟩
  rcases l with l|⟨k,c,e,z⟩
  ·exact .inl l
  ·exact .inr ⟨k,c,e,cellK x c e _ z⟩
 ·obtain⟨v,z⟩:=I.cell x c e
  exact⟨v,cellK x c e v z⟩
 ·obtain⟨m,⟨o,_,_,ho,_⟩,_⟩:=I.loc
  exact free _ o (λz=>(hch _ z).2.1 rfl) ho I.free
 ·obtain⟨v,o,ho,hd⟩:=I.cell x c e
  exact free c o (λz=>(hch c z).2.2.1 x c e rfl) ho (I.tL x c e)
 ·obtain⟨e,n,ne,nf,d⟩:=I.pin p hp
  have nch:p.1∉ch:=λz=>(hch p.1 z).2.2.2 p hp rfl
  exact⟨keep p.1 p.2 ne nf nch e n,free p.1 p.2 nch e n,ne,nf,d⟩
theorem Inv.un {t':Nat}(I:Inv X pins σ H s)(u:Un X.fs [] H H' s.heap h')(hok:uU X.prog X.w H' h'):Inv X pins σ H' { s with heap:=h',toks:=t' }:=by
 obtain⟨m,⟨o,es,ep,ho,r⟩,_⟩:=id I.loc
 obtain⟨sl,hL⟩:=u.any ho I.free (by simp)
 exact I.step (g':=s.gens) (d':=s.drawn) (ch:=[]) (λ_ z=>nomatch z) (λb o _ hb _ e n=>u.keep b o e n hb (by simp)) (λb o _ hb _ e n=>u.slot b o e n hb (by simp)) (λb o _ e n=>u.free b o e n (by simp)) (λb o _ e=>u.there b o e (by simp)) u.tups u.Ec u.Ie (λm' hm=>by
  obtain⟨o',es',ep',ho',r'⟩:=hm
  rw[ho]at ho';cases ho'
  exact⟨_,es',ep',hL,r'⟩) hok I.bare
theorem Inv.call {g':Array GenState}{t':Nat}{d':Drawn}{ch:List Addr}(I:Inv X pins σ H s)(u:Un (frs X.stack) ch H H' s.heap h')(hok:uU X.prog X.w H' h')(hg:AllBare g')
 (hch:∀b∈ch,(b∈X.ex\/X.s₀.heap.objs.size<=b)/\b≠X.env.locals/\(∀x c,X.env.cells.lookup x=some c->c≠b)/\∀p∈X.pn++pins,p.1≠b):
 Inv X pins σ H' { s with heap:=h',gens:=g',drawn:=d',toks:=t' }:=by
 obtain⟨m,⟨o,es,ep,ho,r⟩,_⟩:=id I.loc
 obtain⟨sl,hL⟩:=u.any ho I.free λz=>(hch _ z).2.1 rfl
 exact I.step (ch:=ch) hch (λb o hL hb hc e n=>u.keep b o e n (λz=>(List.mem_cons.mp (I.M8 b z)).elim hL hb) hc) (λb o _ _ hc e n=>u.any e n hc) (λb o hc e n=>u.free b o e n hc) (λb o hc e=>u.there b o e hc) u.tups u.Ec u.Ie (λm' hm=>by
  obtain⟨o',es',ep',ho',r'⟩:=hm
  rw[ho]at ho';cases ho'
  exact⟨_,es',ep',hL,r'⟩) hok hg
theorem Inv.turned {t':Nat}{it:Addr}(I:Inv X pins σ H s)(k:∀b o,b≠it->s.heap.get? b=some o->h'.get? b=some o)(hn:H it=none)(hL:it≠X.env.locals)
 (h1:it∈X.ex\/X.s₀.heap.objs.size<=it)(h2:∀x c,X.env.cells.lookup x=some c->c≠it)(h3:∀p∈X.pn++pins,p.1≠it):Inv X pins σ H { s with heap:=h',toks:=t' }:=by
 have nit:∀b u,H b=some u->b≠it:=λb u e z=>by rw[z,hn]at e;cases e
 refine I.step (g':=s.gens) (d':=s.drawn) (ch:=[it]) (λb hb=>?_) (λb o _ _ hc e _=>k b o (λz=>hc (by simp[z])) e) (λb o _ _ hc e _=>⟨o.slots,k b o (λz=>hc (by simp[z])) e⟩) (λ_ _ _ _ n=>n)
  (λb o hc e=>⟨o,k b o (λz=>hc (by simp[z])) e⟩) (λ_ _ e=>e) (λ_ _ _ e=>e) (λb ps e=>⟨#[],by rw[e];simp⟩) (λm hm=>?_) (λb u e=>?_) I.bare
 ·have e:b=it:=by simpa using hb
  subst e
  exact⟨h1,hL,h2,h3⟩
 ·obtain⟨o,es,ep,ho,r⟩:=hm
  exact⟨o,es,ep,k _ o (Ne.symm hL) ho,r⟩
 ·refine(I.hok b u e).stay (λc v hc q=>k c v ?_ q) (λ_ q=>q) λ_ _ q=>q
  rcases hc with z|z
  ·rw[z];exact nit b u e
  ·exact nit c _ z
theorem Inv.tok (I:Inv X pins σ H s)(t:Nat):Inv X pins σ H { s with toks:=t }:=I.un (h':=s.heap) (t':=t) Un.refl I.hok
theorem Inv.kept {t':Nat}(I:Inv X pins σ H s)(k:∀b u,s.heap.get? b=some u->h'.get? b=some u):Inv X pins σ H { s with heap:=h',toks:=t' }:=I.un (Un.kept k) (I.hok.kept k)
theorem Inv.laid {a:Addr}{o:HO}{t':Nat}(I:Inv X pins σ H s)(k:∀b u,s.heap.get? b=some u->h'.get? b=some u)(hp:s.heap.objs.size<=a)(new:fW X.prog X.w (upd H a o) h' a o):
 Inv X pins σ (upd H a o) { s with heap:=h',toks:=t' }:=I.un (Un.laid k hp (I.hok.fresh hp)) (I.hok.laid k hp new)
theorem Inv.write {x e:Addr}{o:HO}{t':Nat}(I:Inv X pins σ H s)(mu:ZQ (H x))(he:e=x\/H e=some (.own x))(k:∀b u,b≠e->s.heap.get? b=some u->h'.get? b=some u)(heo:∃u,h'.get? e=some u)
 (new:fW X.prog X.w (upd H x o) h' x o):Inv X pins σ (upd H x o) { s with heap:=h',toks:=t' }:=I.un (Un.write mu he k heo) (I.hok.write mu he k heo new)
theorem Inv.weak {σ':List (Option V)}(I:Inv X pins σ H s)(hl:σ'.length=σ.length)(w:∀(i:Nat) v,σ'[i]?=some (some v)->σ[i]?=some (some v)):Inv X pins σ' H s:=
 ⟨I.ok,I.os,I.bare,I.base,let⟨m,hn,hl'⟩:=I.loc;⟨m,hn,λi x v e1 e2 e3=>hl' i x v e1 (w i v e2) e3⟩,I.cell,I.free,I.tL,I.pin,I.hok,hl.trans I.len⟩
theorem Inv.Nt {Xb:List (Addr×Obj)}(I:Inv X pins σ H s)(h:∀p∈Xb,s.heap.get? p.1=some p.2/\H p.1=none/\p.1≠X.env.locals/\p.1∉X.fs/\∀v,p.2.data≠ .cell v):Inv X Xb σ H s:=
 ⟨I.ok,I.os,I.bare,I.base,I.loc,I.cell,I.free,I.tL,λp hp=>(List.mem_append.mp hp).elim (λz=>I.pin p (List.mem_append_left _ z)) (h p),I.hok,I.len⟩
theorem Jy {N:List Str}(hN:N.Nodup){i j:Nat}{x:Str}(a:N[i]?=some x)(b:N[j]?=some x):i=j:=by
 obtain⟨h1,e1⟩:=List.getElem?_eq_some_iff.mp a
 obtain⟨h2,e2⟩:=List.getElem?_eq_some_iff.mp b
 exact(List.getElem_inj hN).mp (e1.trans e2.symm)
theorem Gv {M:Model}{A:Around}{E:Value->Shared->Prop}{i:Nat}{x:Str}{v:V}{u:Value}{Q:Unit->Shared->Prop}(I:Inv X pins σ H s)(hN:X.N.Nodup)(hi:X.N[i]?=some x)(hx:Loc X.env.scope x)(r:RelV v u)
 (h:∀s',Inv X pins (σ.set i (some v)) H s'->(∃a,Heap.SameBut a s.heap s'.heap/\(a=X.env.locals\/X.env.cells.lookup x=some a))->Q () s')(hf:X.fn x=true\/X.env.scope.names.lookup x=some .local:=by first|exact .inl rfl|exact .inr rfl|assumption):wpAny M A (storeName X.env x u) Q E s:=by
 obtain⟨m,hn,hl⟩:=id I.loc
 have hcls:(X.env.scope.kind== .class||(X.env.scope.kind== .module&&X.env.locals !=X.env.globals))=false:=by rw[I.ok.kind];rfl
 have a0h:i<σ.length:=by rw[I.len];exact(List.getElem?_eq_some_iff.mp hi).1
 have Xx:=I.Xx
 have tracked:∀{a:Addr}{h':Heap},(∃o,s.heap.get? a=some o/\H a=none)->Heap.SameBut a s.heap h'->uU X.prog X.w H h':=λ{a h'} ha hs b ob e=>by
  obtain⟨_,_,hfree⟩:=ha
  refine(I.hok b ob e).stay (λc w' hc q=>(hs.2 c ?_).trans q) (λ_ q=>q) λ_ _ q=>q
  rintro rfl
  rcases hc with rfl|hc
  ·rw[hfree]at e;cases e
  ·rw[hfree]at hc;cases hc
 rcases hx with hk|hk
 ·refine wpAny_storeName_local hk hn (λh' hn' hs=>?_) hcls
  obtain⟨oL,_,_,hoL,_⟩:=id hn
  refine h _ ⟨I.ok,I.os,I.bare,⟨λb o e n hb hx=>?_,λb o e n hb hx=>?_,I.base.free,λb o e hx=>?_,I.base.tups,I.base.Ec,I.base.Ie⟩,⟨_,hn',λj y v' e1 e2 e3=>?_⟩,λy c e=>?_,I.free,I.tL,λp hp=>?_,tracked ⟨oL,hoL,I.free⟩ hs,by simpa using I.len⟩ ⟨_,hs,.inl rfl⟩
  ·exact(hs.2 b (Nat.ne_of_lt (Nat.lt_of_lt_of_le (Heap.lt_size e) I.ok.above))).trans (I.base.keep b o e n hb hx)
  ·obtain⟨sl,e1⟩:=I.base.slot b o e n hb hx
   exact⟨sl,(hs.2 b (Nat.ne_of_lt (Nat.lt_of_lt_of_le (Heap.lt_size e) I.ok.above))).trans e1⟩
  ·obtain⟨o',e1⟩:=I.base.there b o e hx
   exact⟨o',(hs.2 b (Nat.ne_of_lt (Nat.lt_of_lt_of_le (Heap.lt_size e) I.ok.above))).trans e1⟩
  ·by_cases hj:j=i
   ·subst hj
    rw[hi]at e1;cases e1
    rw[List.getElem?_set_self a0h]at e2
    cases e2
    exact⟨u,r,.inl ⟨hk,by simp⟩⟩
   ·rw[List.getElem?_set_ne (Ne.symm hj)]at e2
    obtain⟨u',r',q⟩:=hl j y v' e1 e2 e3
    refine⟨u',r',?_⟩
    rcases q with⟨k,e⟩|⟨k,c,e,z⟩
    ·refine .inl ⟨k,?_⟩
     have:y≠x:=λe=>hj (Jy hN e1 (e▸hi))
     simp[this,e]
    ·exact .inr ⟨k,c,e,z.sameBut hs (Xx y c e)⟩
  ·obtain⟨w',z⟩:=I.cell y c e
   exact⟨w',z.sameBut hs (Xx y c e)⟩
  ·obtain⟨e,n,ne,nf,d⟩:=I.pin p hp
   exact⟨(hs.2 p.1 ne).trans e,n,ne,nf,d⟩
 ·have hfn:X.fn x=true:=by
   rcases hf with z|z
   ·exact z
   ·rw[z]at hk;cases hk
  obtain⟨c,hc⟩:=I.ok.has x (.inl hk)
  obtain⟨w',z⟩:=I.cell x c hc
  refine wpAny_storeName_cell I.ok.kind hk hc z (λh' hc' hs=>?_)
  obtain⟨oc,hoc,a1u⟩:=id z
  refine h { s with heap:=h' } ⟨I.ok,I.os,I.bare,⟨λb o e n hb hx=>?_,λb o e n hb hx=>?_,I.base.free,λb o e hx=>?_,I.base.tups,I.base.Ec,I.base.Ie⟩,⟨m,hn.sameBut hs (Ne.symm (Xx x c hc)),λj y v' e1 e2 e3=>?_⟩,λy c' e=>?_,I.free,I.tL,λp hp=>?_,tracked ⟨oc,hoc,I.tL x c hc⟩ hs,by simpa using I.len⟩ ⟨c,hs,.inr hc⟩
  ·exact(hs.2 b (Nat.ne_of_lt (Nat.lt_of_lt_of_le (Heap.lt_size e) (I.ok.cab x c hfn hc)))).trans (I.base.keep b o e n hb hx)
  ·obtain⟨sl,e1⟩:=I.base.slot b o e n hb hx
   exact⟨sl,(hs.2 b (Nat.ne_of_lt (Nat.lt_of_lt_of_le (Heap.lt_size e) (I.ok.cab x c hfn hc)))).trans e1⟩
  ·obtain⟨o',e1⟩:=I.base.there b o e hx
   exact⟨o',(hs.2 b (Nat.ne_of_lt (Nat.lt_of_lt_of_le (Heap.lt_size e) (I.ok.cab x c hfn hc)))).trans e1⟩
  ·by_cases hj:j=i
   ·subst hj
    rw[hi]at e1;cases e1
    rw[List.getElem?_set_self a0h]at e2
    cases e2
    exact⟨u,r,.inr ⟨.inl hk,c,hc,hc'⟩⟩
   ·rw[List.getElem?_set_ne (Ne.symm hj)]at e2
    obtain⟨u',r',q⟩:=hl j y v' e1 e2 e3
    refine⟨u',r',?_⟩
    rcases q with q|⟨k,c',e,z'⟩
    ·exact .inl q
    ·refine .inr ⟨k,c',e,z'.sameBut hs ?_⟩
     rintro rfl
     exact hj (Jy hN e1 (I.ok.inj _ _ _ e hc▸hi))
  ·by_cases hcc:c'=c
   ·subst hcc;exact⟨_,hc'⟩
   ·obtain⟨w2,z2⟩:=I.cell y c' e
    exact⟨w2,z2.sameBut hs hcc⟩
  ·obtain⟨e,n,ne,nf,d⟩:=I.pin p hp
   refine⟨(hs.2 p.1 ?_).trans e,n,ne,nf,d⟩
   intro q
   rw[q,hoc]at e
   have q':oc=p.2:=Option.some.inj e
   exact d w' (by rw[<-q'];exact a1u)
theorem yu {M:Model}{A:Around}{E:Value->Shared->Prop}{i:Nat}{x:Str}{v:V}{u:Value}{Q:Unit->Shared->Prop}(I:Inv X pins σ H s)(hN:X.N.Nodup)(hi:X.N[i]?=some x)(hx:Loc X.env.scope x)(r:RelV v u)
 (h:∀s',Inv X pins (σ.set i (some v)) H s'->Q () s')(hf:X.fn x=true\/X.env.scope.names.lookup x=some .local:=by first|exact .inl rfl|exact .inr rfl|assumption):wpAny M A (storeName X.env x u) Q E s:=
 Gv I hN hi hx r (λs' I' _=>h s' I') hf
theorem Inv.call' {s':Shared}{ch:List Addr}(I:Inv X pins σ H s)(ho:s'.os=s.os)(u:Un (frs X.stack) ch H H' s.heap s'.heap)(hok:uU X.prog X.w H' s'.heap)(hg:AllBare s'.gens)
 (hch:∀b∈ch,(b∈X.ex\/X.s₀.heap.objs.size<=b)/\b≠X.env.locals/\(∀x c,X.env.cells.lookup x=some c->c≠b)/\∀p∈X.pn++pins,p.1≠b):Inv X pins σ H' s':=by
 obtain⟨h',g',d',t',o'⟩:=s'
 have e:o'=s.os:=ho
 subst e
 exact I.call (g':=g') (t':=t') (d':=d') u hok hg hch
end
abbrev XK:=Value->Option Addr->Hp->Prop
abbrev St:=List (Option V)
abbrev VK:=V->Hp->Prop
abbrev TE:=St->Hp->VK->Prop
abbrev TT:=St->Hp->(Bool->Hp->Prop)->Prop
abbrev TA:=St->Hp->(List V->Hp->Prop)->Prop
structure Ends where
 nx:St->Hp->Prop
 rt:VK
 bk:St->Hp->Prop:=λ_ _=>False
 ct:St->Hp->Prop:=λ_ _=>False
abbrev TS:=Ends->St->Hp->Prop
def EP (X:Cx)(pins:List (Addr×Obj))(σ:St)(Q:VK)(u:Value)(s':Shared):Prop:=∃v H',Inv X pins σ H' s'/\RelV v u/\Q v H'
def TP (X:Cx)(pins:List (Addr×Obj))(σ:St)(Q:Bool->Hp->Prop)(b:Bool)(s':Shared):Prop:=∃H',Inv X pins σ H' s'/\Q b H'
def AP (X:Cx)(pins:List (Addr×Obj))(σ:St)(Q:List V->Hp->Prop)(us:List Value)(s':Shared):Prop:=∃vs H',Inv X pins σ H' s'/\Vals vs us/\Q vs H'
def SP (X:Cx)(pins:List (Addr×Obj))(D:Ends)(f:Flow)(s':Shared):Prop:=
 match f with
 | .next=>∃σ' H',Inv X pins σ' H' s'/\D.nx σ' H'
 | .brk=>∃σ' H',Inv X pins σ' H' s'/\D.bk σ' H'
 | .cont=>∃σ' H',Inv X pins σ' H' s'/\D.ct σ' H'
 | .ret u=>∃v σ' H',Inv X pins σ' H' s'/\RelV v u/\D.rt v H'
def PE (X:Cx)(e:Expr)(t:TE):Prop:=
 ∀(pins:List (Addr×Obj)) (s:Shared) (σ:St) (H:Hp) (Q:VK),Inv X pins σ H s->t σ H Q->wpAny (model X.prog X.w) X.A (eval e X.env) (EP X pins σ Q) X.xe s
def PT (X:Cx)(e:Expr)(t:TT):Prop:=
 ∀(pins:List (Addr×Obj)) (s:Shared) (σ:St) (H:Hp) (Q:Bool->Hp->Prop),Inv X pins σ H s->t σ H Q->wpAny (model X.prog X.w) X.A (isTrue e X.env (eval e X.env)) (TP X pins σ Q) X.xe s
def PW (X:Cx)(e:Expr)(t:TT):Prop:=
 ∀(whole:Sem Value) (pins:List (Addr×Obj)) (s:Shared) (σ:St) (H:Hp) (Q:Bool->Hp->Prop),Inv X pins σ H s->t σ H Q->wpAny (model X.prog X.w) X.A (isTrue e X.env whole) (TP X pins σ Q) X.xe s
theorem PW.pt {X:Cx}{e:Expr}{t:TT}(h:PW X e t):PT X e t:=h _
def PA (X:Cx)(es:List Expr)(t:TA):Prop:=
 ∀(pos:Pos) (pins:List (Addr×Obj)) (s:Shared) (σ:St) (H:Hp) (Q:List V->Hp->Prop),Inv X pins σ H s->t σ H Q->wpAny (model X.prog X.w) X.A (spliced (backTo pos (starEach es X.env))) (AP X pins σ Q) X.xe s
def PS (X:Cx)(st:Stmt)(t:TS):Prop:=
 ∀(pins:List (Addr×Obj)) (s:Shared) (σ:St) (H:Hp) (D:Ends),Inv X pins σ H s->t D σ H->wpAny (model X.prog X.w) X.A (exec st X.env) (SP X pins D) X.xe s
def yF (X:Cx)(st:List Stmt)(t:TS):Prop:=
 ∀(pins:List (Addr×Obj)) (s:Shared) (σ:St) (H:Hp) (D:Ends),Inv X pins σ H s->t D σ H->wpAny (model X.prog X.w) X.A (execs st X.env) (SP X pins D) X.xe s
theorem iD {α:Type}{t:Sem α}{Q Q':α->Shared->Prop}{M:Model}{A:Around}{E:Value->Shared->Prop}{s:Shared}(h:wpAny M A t Q E s)(hQ:∀a s,Q a s->Q' a s):wpAny M A t Q' E s:=wpAny_mono h hQ λ_ _ x=>x
end L2
namespace L2
open PySem PySem.Spec PyProof.Rows
section
variable {X:Cx}
def Ep (i:Nat):TE:=λσ H Q=>∃v,σ[i]?=some (some v)/\Q v H
def tC (v:V):TE:=λ_ H Q=>Q v H
theorem YM {i:Nat}{x:Str}{pos:Pos}(hN:X.N[i]?=some x)(hv:ZX X.env.scope x)(hd:(x==("__debug__":Str))=false:=by decide)(hcd:(x==("__classdict__":Str))=false:=by decide):PE X (.Name x pos) (Ep i):=by
 intro pins s σ H Q I h
 obtain⟨v,e,h⟩:=h
 obtain⟨m,hn,hl⟩:=I.loc
 obtain⟨u,r,l⟩:=hl i x v hN e hv
 have fin:EP X pins σ Q u s:=⟨v,H,I,r,h⟩
 rcases l with⟨hk,hm⟩|⟨hk,c,hc,hcell⟩
 ·exact wpAny_Name (wpAny_loadName_local I.ok.kind hk hn hm fin) hd
 ·rcases hk with hk|hk
  ·exact wpAny_Name (wpAny_loadName_cell I.ok.kind hk hc hcell fin) hd
  ·exact wpAny_Name (wpAny_loadName_free I.ok.kind hk hc hcell fin hcd) hd
theorem YF {i j pos}:PE X (.Constant (.int i) j pos) (tC (.int i)):=λ_ _ _ H _ I h=>wpAny_Constant_int ⟨.int i,H,I.tok _,⟨_,rfl⟩,h⟩
theorem a0z {b j pos}:PE X (.Constant (.bool b) j pos) (tC (.bl b)):=λ_ _ _ H _ I h=>Constant_bool ⟨.bl b,H,I,rfl,h⟩
theorem YG {j pos}:PE X (.Constant .none j pos) (tC .non):=λ_ _ _ H _ I h=>Constant_none ⟨.non,H,I,rfl,h⟩
theorem YK {x j pos}:PE X (.Constant (.str x) j pos) (tC (.str x)):=λ_ _ _ H _ I h=>Calls.Constant_str ⟨.str x,H,I.tok _,⟨_,rfl⟩,h⟩
def Gl (X:Cx)(x:Str):Prop:=X.env.kindOf x=some .globalImplicit
theorem Hq {E:Value->Shared->Prop}{pins:List (Addr×Obj)}{s:Shared}{σ:St}{H:Hp}{x:Str}{u:Value}{pos:Pos}{Q:Value->Shared->Prop}(I:Inv X pins σ H s)(hg:Gl X x)(hm:X.mg x=some u)(h:Q u s)
 (hd:(x==("__debug__":Str))=false:=by decide):wpAny (model X.prog X.w) X.A (eval (.Name x pos) X.env) Q E s:=
 Calls.Name_function_global I.ok.kind hg (Calls.loadGlobal_global (by rw[I.ok.glob];exact I.mod.glob.keeps I.bk) hm h) hd
theorem tR {E:Value->Shared->Prop}{pins:List (Addr×Obj)}{s:Shared}{σ:St}{H:Hp}{x:Str}{u:Value}{pos:Pos}{Q:Value->Shared->Prop}(I:Inv X pins σ H s)(hg:Gl X x)(hm:X.mg x=none)(hv:bootBuiltins x=some u)(h:Q u s)
 (hn:x≠"__name__":=by decide)(hd:(x==("__debug__":Str))=false:=by decide):wpAny (model X.prog X.w) X.A (eval (.Name x pos) X.env) Q E s:=by
 obtain⟨mb,h1,h2⟩:=I.mod.blt
 exact Calls.Name_function_global I.ok.kind hg (Calls.loadGlobal_builtin (by rw[I.ok.glob];exact I.mod.glob.keeps I.bk) hm (by rw[I.ok.blt];exact h1.keeps I.bk) ((h2 x hn).trans hv) h) hd
theorem VJ {x:Str}{v:V}{u:Value}{pos:Pos}(hg:Gl X x)(hm:X.mg x=none)(hv:bootBuiltins x=some u)(r:RelV v u)(hn:x≠"__name__":=by decide)(hd:(x==("__debug__":Str))=false:=by decide):PE X (.Name x pos) (tC v):=
 λ_ _ _ H _ I h=>tR I hg hm hv ⟨v,H,I,r,h⟩ hn hd
variable {a b:Expr}{ta tb:TE}{pos:Pos}
def tB (t:TE):TT:=λσ H Q=>t σ H λx H1=>∃c,x= .bl c/\Q c H1
theorem Z2 {e:Expr}{t:TE}(h:PE X e t)(he:∀whole,isTrue e X.env whole=(do let v<-whole;standAt e.pos;holding [v] (truthy v)):=by intro _;rfl):PT X e (tB t):=by
 intro pins s σ H Q I hw
 refine isTrue_plain (iD (h pins s σ H _ I hw) λv s1 ⟨x,H1,I1,r1,q1⟩=>?_) (he _)
 obtain⟨d,rfl,q⟩:=q1
 cases r1
 exact wpAny_truthy_bool ⟨H1,I1,q⟩
variable {tA tB':TT}{rest:List Expr}
def lR (t u:TT):TT:=λσ H Q=>t σ H λc H1=>if c=true then u σ H1 Q else Q false H1
def Dt (t u:TT):TT:=λσ H Q=>t σ H λc H1=>if c=true then Q true H1 else u σ H1 Q
def yw (t:TT):TT:=λσ H Q=>t σ H λc H1=>Q (!c) H1
theorem Wc (ha:PT X a tA):PW X (.BoolOp .And [a] pos) tA:=by
 intro wh pins s σ H Q I h
 refine isTrue_and (iD (ha pins s σ H Q I h) λc s1 e=>?_)
 cases c with
 |true=>exact isTrue_and_nil e
 |false=>exact e
theorem Z4 (ha:PT X a tA):PW X (.BoolOp .Or [a] pos) tA:=by
 intro wh pins s σ H Q I h
 refine isTrue_or (iD (ha pins s σ H Q I h) λc s1 e=>?_)
 cases c with
 |false=>exact isTrue_or_nil e
 |true=>exact e
theorem Z3 (ha:PT X a tA)(hb:PW X (.BoolOp .And (b::rest) pos) tB'):PW X (.BoolOp .And (a::b::rest) pos) (lR tA tB'):=by
 intro wh pins s σ H Q I h
 refine isTrue_and (iD (ha pins s σ H _ I h) λc s1 ⟨H1,I1,q1⟩=>?_)
 cases c with
 |true=>exact hb wh pins s1 σ H1 Q I1 q1
 |false=>exact⟨H1,I1,q1⟩
theorem a0F (ha:PT X a tA)(hb:PW X (.BoolOp .Or (b::rest) pos) tB'):PW X (.BoolOp .Or (a::b::rest) pos) (Dt tA tB'):=by
 intro wh pins s σ H Q I h
 refine isTrue_or (iD (ha pins s σ H _ I h) λc s1 ⟨H1,I1,q1⟩=>?_)
 cases c with
 |true=>exact⟨H1,I1,q1⟩
 |false=>exact hb wh pins s1 σ H1 Q I1 q1
theorem Z1 (ha:PT X a tA):PT X (.UnaryOp .Not a pos) (yw tA):=by
 intro pins s σ H Q I h
 exact isTrue_not (ha pins s σ H (λc H1=>Q (!c) H1) I h)
def a0U (ta tb:TE):TE:=λσ H Q=>ta σ H λx H1=>∃c,x= .bl c/\if c=true then tb σ H1 Q else Q (.bl false) H1
def a1Z (ta tb:TE):TE:=λσ H Q=>ta σ H λx H1=>∃c,x= .bl c/\if c=true then Q (.bl true) H1 else tb σ H1 Q
def a1c (ta:TE):TE:=λσ H Q=>ta σ H λx H1=>∃c,x= .bl c/\Q (.bl (!c)) H1
theorem YJ {op}{t:TE}(h:PE X a t):PE X (.BoolOp op [a] pos) t:=λpins s σ H Q I hw=>BoolOp_one (h pins s σ H Q I hw)
theorem YB (ha:PE X a ta)(hb:PE X (.BoolOp .And (b::rest) pos) tb):PE X (.BoolOp .And (a::b::rest) pos) (a0U ta tb):=by
 intro pins s σ H Q I h
 refine BoolOp_and (iD (ha pins s σ H _ I h) λv s1 ⟨x,H1,I1,r1,q1⟩=>?_)
 obtain⟨c,rfl,q1⟩:=q1
 cases r1
 refine wpAny_truthy_bool ?_
 cases c with
 |true=>exact hb pins s1 σ H1 Q I1 q1
 |false=>exact⟨.bl false,H1,I1,rfl,q1⟩
theorem a0C (ha:PE X a ta)(hb:PE X (.BoolOp .Or (b::rest) pos) tb):PE X (.BoolOp .Or (a::b::rest) pos) (a1Z ta tb):=by
 intro pins s σ H Q I h
 refine BoolOp_or (iD (ha pins s σ H _ I h) λv s1 ⟨x,H1,I1,r1,q1⟩=>?_)
 obtain⟨c,rfl,q1⟩:=q1
 cases r1
 refine wpAny_truthy_bool ?_
 cases c with
 |false=>exact hb pins s1 σ H1 Q I1 q1
 |true=>exact⟨.bl true,H1,I1,rfl,q1⟩
theorem YH (ha:PE X a ta):PE X (.UnaryOp .Not a pos) (a1c ta):=by
 intro pins s σ H Q I h
 refine UnaryOp_ (iD (ha pins s σ H _ I h) λv s1 ⟨x,H1,I1,r1,q1⟩=>?_)
 obtain⟨c,rfl,q1⟩:=q1
 cases r1
 exact not_of (wpAny_truthy_bool ⟨.bl (!c),H1,I1,rfl,q1⟩)
def tIf (t:TT)(ta tb:TE):TE:=λσ H Q=>t σ H λc H1=>if c=true then ta σ H1 Q else tb σ H1 Q
theorem Sv {c:Expr}(hc:PT X c tA)(ha:PE X a ta)(hb:PE X b tb):PE X (.IfExp c a b pos) (tIf tA ta tb):=by
 intro pins s σ H Q I h
 refine wpAny_IfExp (iD (hc pins s σ H _ I h) λd s1 ⟨H1,I1,q1⟩=>?_)
 cases d with
 |true=>exact ha pins s1 σ H1 Q I1 q1
 |false=>exact hb pins s1 σ H1 Q I1 q1
end
end L2
namespace L2
open PySem PySem.Spec PyProof.Rows
def qK (K:Fg)(H:Hp)(a:Addr)(xs:List V):Prop:=
 Rd H a (.lst xs)\/
  ∃(o:Obj) (its:Array Value) (n:Nat),K.lookup a=some o/\o.cls= .type "list"/\o.dict=none/\o.data= .seq its n/\its.size<=sizeLine/\Vals xs its.toList
def vW (K:Fg)(H:Hp)(a:Addr)(xs:List V):Prop:=
 Rd H a (.tup xs)\/
  ∃(o:Obj) (its:Array Value) (n:Nat),K.lookup a=some o/\o.cls= .type "tuple"/\o.dict=none/\o.data= .seq its n/\its.size<=sizeLine/\Vals xs its.toList
def a1l:Value->Option V
 | .none=>some .non
 | .bool b=>some (.bl b)
 | .int i _=>some (.int i)
 | .str x _=>some (.str x)
 | .bytes b _=>some (.Zw b)
 | .float b _=>some (.flt b)
 | .ref a=>some (.ref a)
 | .type n=>some (.ty n)
 |_=>none
theorem RelV.abs {x:V}{u:Value}(r:RelV x u):a1l u=some x:=by
 cases x with
 |non=>cases r;rfl
 |bl _=>cases r;rfl
 |int _=>obtain⟨t,rfl⟩:=r;rfl
 |str _=>obtain⟨t,rfl⟩:=r;rfl
 |Zw _=>obtain⟨t,rfl⟩:=r;rfl
 |flt _=>obtain⟨t,rfl⟩:=r;rfl
 |ref _=>cases r;rfl
 |ty _=>cases r;rfl
theorem RelV.inj {x y:V}{u:Value}(r:RelV x u)(q:RelV y u):x=y:=Option.some.inj (r.abs.symm.trans q.abs)
theorem Vals.inj:∀{xs ys:List V}{us:List Value},Vals xs us->Vals ys us->xs=ys
 |_,_,_,.nil,.nil=>rfl
 |_,_,_,.cons r t,.cons r' t'=>by rw[r.inj r',Vals.inj t t']
section
variable {X:Cx}{pins:List (Addr×Obj)}{σ:St}{H:Hp}{s:Shared}{a:Addr}{xs ys:List V}
theorem qK.of {K:Fg}(h:H a=some (.lst xs)):qK K H a xs:= .inl (.inl h)
theorem vW.of {K:Fg}(h:H a=some (.tup xs)):vW K H a xs:= .inl (.inl h)
theorem Inv.list (I:Inv X pins σ H s)(h:qK X.K H a xs):∃its:List Value,Vals xs its/\PlainL s.heap a its.toArray/\xs.length<=sizeLine:=by
 rcases h with h|⟨o,its,n,hk,hc,hd,hs,hz,r⟩
 ·obtain⟨z,its,n,r,e⟩:=h.ok I.hok
  exact⟨its,r,⟨_,n,e,rfl,rfl,rfl⟩,z⟩
 ·refine⟨its.toList,r,⟨o,n,I.yS a o hk,hc,hd,by simpa using hs⟩,?_⟩
  have e:=r.length
  simp only[Array.length_toList]at e
  omega
theorem Inv.tuple (I:Inv X pins σ H s)(h:vW X.K H a xs):∃its:List Value,Vals xs its/\IsTup s.heap a its.toArray/\xs.length<=sizeLine:=by
 rcases h with h|⟨o,its,n,hk,hc,hdn,hs,hz,r⟩
 ·obtain⟨z,its,r,p⟩:=h.ok I.hok
  exact⟨its,r,p.isTup,z⟩
 ·refine⟨its.toList,r,⟨o,I.yS a o hk,hc,n,by simpa using hs⟩,?_⟩
  have e:=r.length
  simp only[Array.length_toList]at e
  omega
theorem Inv.Jr (I:Inv X pins σ H s)(h:qK X.K H a xs)(h':qK X.K H a ys):xs=ys:=by
 obtain⟨its,r,⟨o,n,e,_,_,d⟩,_⟩:=I.list h
 obtain⟨its',r',⟨o',n',e',_,_,d'⟩,_⟩:=I.list h'
 rw[e]at e';cases e'
 rw[d]at d'
 injection d' with d1 _
 have:its=its':=by simpa using congrArg Array.toList d1
 subst this
 exact r.inj r'
theorem Inv.Gw (I:Inv X pins σ H s)(h:vW X.K H a xs)(h':vW X.K H a ys):xs=ys:=by
 obtain⟨its,r,⟨o,e,_,n,d⟩,_⟩:=I.tuple h
 obtain⟨its',r',⟨o',e',_,n',d'⟩,_⟩:=I.tuple h'
 rw[e]at e';cases e'
 rw[d]at d'
 injection d' with d1 _
 have:its=its':=by simpa using congrArg Array.toList d1
 subst this
 exact r.inj r'
end
abbrev Cx.wish (X:Cx)(E:Value->Shared->Prop):Cx:={ X with xe:=E }
abbrev Cx.QJ (X:Cx):Cx:=X.wish λ_ _=>False
theorem Cx.Ok.wish {X:Cx}(ok:X.Ok)(E:Value->Shared->Prop):(X.wish E).Ok:=
 ⟨ok.mod,ok.kind,ok.glob,ok.blt,ok.above,ok.inj,ok.has,ok.cab,ok.hd,ok.frames,ok.stk,ok.exf,ok.bs,ok.Uz,ok.RX,ok.Rm,ok.zX,ok.Y5⟩
theorem Cx.Ok.uw {X:Cx}{E:Value->Shared->Prop}(ok:(X.wish E).Ok):X.Ok:=
 ⟨ok.mod,ok.kind,ok.glob,ok.blt,ok.above,ok.inj,ok.has,ok.cab,ok.hd,ok.frames,ok.stk,ok.exf,ok.bs,ok.Uz,ok.RX,ok.Rm,ok.zX,ok.Y5⟩
section
variable {X:Cx}{pins:List (Addr×Obj)}{σ:St}{H:Hp}{s:Shared}{E:Value->Shared->Prop}
theorem Inv.wish (I:Inv X pins σ H s)(E:Value->Shared->Prop):Inv (X.wish E) pins σ H s:=⟨I.ok.wish E,I.os,I.bare,I.base,I.loc,I.cell,I.free,I.tL,I.pin,I.hok,I.len⟩
theorem Inv.uw (I:Inv (X.wish E) pins σ H s):Inv X pins σ H s:=⟨I.ok.uw,I.os,I.bare,I.base,I.loc,I.cell,I.free,I.tL,I.pin,I.hok,I.len⟩
theorem SP.uw {D:Ends}{f:Flow}{s':Shared}(h:SP (X.wish E) pins D f s'):SP X pins D f s':=by
 cases f with
 |next=>obtain⟨σ',H',I,q⟩:=h;exact⟨σ',H',I.uw,q⟩
 |brk=>obtain⟨σ',H',I,q⟩:=h;exact⟨σ',H',I.uw,q⟩
 |cont=>obtain⟨σ',H',I,q⟩:=h;exact⟨σ',H',I.uw,q⟩
 |ret u=>obtain⟨v,σ',H',I,r,q⟩:=h;exact⟨v,σ',H',I.uw,r,q⟩
theorem yF.QJ {st:List Stmt}{t:TS}(h:yF X.QJ st t):yF X st t:=λpins s σ H D I hw=>
 wpAny_mono (h pins s σ H D (I.wish _) hw) (λ_ _ q=>q.uw) λ_ _ z=>False.elim z
end
section
variable {X:Cx}{st:Stmt}{rest:List Stmt}{t u:TS}{e:Expr}{te:TE}{pos:Pos}
def a1b:TS:=λD σ H=>D.nx σ H
def a2b (t u:TS):TS:=λD σ H=>t { D with nx:=u D } σ H
theorem Nv:yF X [] a1b:=λ_ _ σ H _ I h=>wpAny_execs_nil ⟨σ,H,I,h⟩
theorem JQ (h1:PS X st t)(h2:yF X rest u):yF X (st::rest) (a2b t u):=by
 intro pins s σ H D I h
 refine wpAny_execs_cons (iD (h1 pins s σ H { D with nx:=u D } I h) λf s1 q=>?_)
 cases f with
 |next=>
  obtain⟨σ',H',I',q⟩:=q
  exact h2 pins s1 σ' H' D I' q
 |ret v=>exact q
 |brk=>exact q
 |cont=>exact q
theorem Wa (h1:PS X st t):yF X [st] t:=by
 intro pins s σ H D I h
 refine wpAny_execs_cons (iD (h1 pins s σ H D I h) λf s1 q=>?_)
 cases f with
 |next=>exact wpAny_execs_nil q
 |ret v=>exact q
 |brk=>exact q
 |cont=>exact q
def Zi:TS:=λD σ H=>D.bk σ H
theorem T3:PS X (.Break pos) Zi:=λ_ _ σ H _ I h=>wpAny_Break ⟨σ,H,I,h⟩
theorem Inv.quiet {pins:List (Addr×Obj)}{σ:St}{H:Hp}{s:Shared}(I:Inv X pins σ H s):interactive X.env=false:=by simp[interactive,I.ok.kind]
def a0Z (te:TE):TS:=λD σ H=>te σ H λ_ H1=>D.nx σ H1
theorem Nu (he:PE X e te)(hs:swapsWith e none pos.line X.env=pure false:=by rfl):PS X (.Expr e pos) (a0Z te):=by
 intro pins s σ H D I h
 exact wpAny_Expr_any (iD (he pins s σ H _ I h) λv s1 ⟨x,H1,I1,r1,q1⟩=>⟨σ,H1,I1,q1⟩) I.quiet hs
def a2a (te:TE):TS:=λD σ H=>te σ H D.rt
theorem LC (he:PE X e te):PS X (.Return (some e) pos) (a2a te):=by
 intro pins s σ H D I h
 exact wpAny_Return_some (iD (he pins s σ H _ I h) λv s1 ⟨x,H1,I1,r1,q1⟩=>⟨x,σ,H1,I1,r1,q1⟩)
def a1X (c:TT)(t u:TS):TS:=λD σ H=>c σ H λb H1=>if b=true then t D σ H1 else u D σ H1
theorem a0E {c:Expr}{a b:List Stmt}{tc:TT}(hc:PT X c tc)(ha:yF X a t)(hb:yF X b u):PS X (.If c a b pos) (a1X tc t u):=by
 intro pins s σ H D I h
 refine wpAny_If (iD (hc pins s σ H _ I h) λd s1 ⟨H1,I1,q1⟩=>?_)
 cases d with
 |true=>exact ha pins s1 σ H1 D I1 q1
 |false=>exact hb pins s1 σ H1 D I1 q1
def Zk:TS:=λ_ _ _=>False
theorem T4:PS X st Zk:=λ_ _ _ _ _ _ h=>h.elim
end
abbrev TG:=V->St->Hp->(St->Hp->Prop)->Prop
abbrev Ul:=List V->St->Hp->(St->Hp->Prop)->Prop
def PG (X:Cx)(target:Expr)(t:TG):Prop:=
 ∀(pins:List (Addr×Obj)) (s:Shared) (σ:St) (H:Hp) (v:V) (u:Value) (Q:St->Hp->Prop),Inv X pins σ H s->RelV v u->t v σ H Q->
  wpAny (model X.prog X.w) X.A (assign target X.env u) (λ_ s'=>∃σ' H',Inv X pins σ' H' s'/\Q σ' H') X.xe s
def Oo (X:Cx)(ts:List Expr)(t:Ul):Prop:=
 ∀(pins:List (Addr×Obj)) (s:Shared) (σ:St) (H:Hp) (vs:List V) (us:List Value) (Q:St->Hp->Prop),Inv X pins σ H s->Vals vs us->t vs σ H Q->
  wpAny (model X.prog X.w) X.A (assignInOrder ((assignEach ts X.env).map (·.2)) us) (λ_ s'=>∃σ' H',Inv X pins σ' H' s'/\Q σ' H') X.xe s
abbrev Xu:=V->V->V->Hp->(Hp->Prop)->Prop
def ZV (X:Cx)(t:Xu):Prop:=
 ∀(pins:List (Addr×Obj)) (s:Shared) (σ:St) (H:Hp) (o i v:V) (ov iv u:Value) (Q:Hp->Prop),Inv X pins σ H s->RelV o ov->RelV i iv->RelV v u->t o i v H Q->
  wpAny (model X.prog X.w) X.A (setItem ov iv u) (λ_ s'=>∃H',Inv X pins σ H' s'/\Q H') X.xe s
section
variable {X:Cx}{pos:Pos}
def Rp (i:Nat):TG:=λv σ H Q=>Q (σ.set i (some v)) H
theorem Nq {i:Nat}{x:Str}(hN:X.N.Nodup)(hi:X.N[i]?=some x)(hx:Loc X.env.scope x)(hf:X.fn x=true\/X.env.scope.names.lookup x=some .local:=by first|exact .inl rfl|exact .inr rfl|assumption):PG X (.Name x pos) (Rp i):=by
 intro pins s σ H v u Q I r h
 exact wpAny_assign_Name (yu I hN hi hx r (λs' I'=>⟨_,H,I',h⟩) hf)
def a1p:Ul:=λvs σ H Q=>vs=[]/\Q σ H
def a0d (t:TG)(u:Ul):Ul:=λvs σ H Q=>∃v r,vs=v::r/\t v σ H λσ' H'=>u r σ' H' Q
theorem Nr:Oo X [] a1p:=by
 intro pins s σ H vs us Q I r h
 obtain⟨e,h⟩:=h
 subst e
 cases r
 exact assignInOrder_nil ⟨σ,H,I,h⟩
theorem JN {e:Expr}{es:List Expr}{t:TG}{u:Ul}(h1:PG X e t)(h2:Oo X es u)
 (hs:(assignEach (e::es) X.env).map (·.2)=assign e X.env::(assignEach es X.env).map (·.2):=by rfl):Oo X (e::es) (a0d t u):=by
 intro pins s σ H vs us Q I r h
 obtain⟨v,vr,e1,h⟩:=h
 subst e1
 cases r with
 |cons r rr=>
  rw[hs]
  refine assignInOrder_cons (iD (h1 pins s σ H _ _ _ I r h) λ_ s1 ⟨σ1,H1,I1,q1⟩=>?_)
  exact h2 pins s1 σ1 H1 _ _ Q I1 rr q1
def a1r (K:Fg)(n:Nat)(t:Ul):TG:=λv σ H Q=>∃a xs,v= .ref a/\vW K H a xs/\xs.length=n/\t xs σ H Q
theorem SJ {es:List Expr}{k:Nat}{t:Ul}{n:Nat}(hc:X.calm=true)(h:Oo X es t)
 (hn:(assignEach es X.env).length=n:=by rfl)(hst:(assignEach es X.env).findIdx? (·.1)=none:=by rfl):PG X (.Tuple es k pos) (a1r X.K n t):=by
 intro pins s σ H v u Q I r hw
 obtain⟨a,xs,e1,hq,hl,hw⟩:=hw
 subst e1
 cases r
 obtain⟨its,rv,ht,hz⟩:=I.tuple hq
 refine assign_Tuple_tuple (I.ok.hd hc) ht (by simp[hn,<-hl,rv.length]) hst λh' hx=>?_
 have I1:Inv X pins σ H { s with heap:=h' }:=I.kept (t':=s.toks) λb o e=>hx b o (Nat.ne_of_lt (Heap.lt_size e)) e
 exact h pins _ σ H xs _ Q I1 (by simpa using rv) hw
def a1q (to ti:TE)(t:Xu):TG:=λv σ H Q=>to σ H λo H1=>ti σ H1 λi H2=>t o i v H2 λH3=>Q σ H3
theorem YQ {o i:Expr}{to ti:TE}{t:Xu}(ho:PE X o to)(hi:PE X i ti)(hs:ZV X t)
 (ha:∀v,assign (.Subscript o i pos) X.env v=(do
  let ov<-holding [v] (eval o X.env)
  let iv<-holding [v,ov] (eval i X.env)
  standAt pos
  holding [v,ov,iv] (setItem ov iv v)
  release [v,ov,iv] []):=by intro _;rfl):PG X (.Subscript o i pos) (a1q to ti t):=by
 intro pins s σ H v u Q I r h
 rw[ha]
 refine wpAny_bind (wpAny_holding (iD (ho pins s σ H _ I h) λov s1 ⟨x,H1,I1,r1,q1⟩=>?_))
 refine wpAny_bind (wpAny_holding (iD (hi pins s1 σ H1 _ I1 q1) λiv s2 ⟨y,H2,I2,r2,q2⟩=>?_))
 refine wpAny_bind (wpAny_standAt (wpAny_bind (wpAny_holding (iD (hs pins s2 σ H2 x y v ov iv u _ I2 r1 r2 r q2) λ_ s3 ⟨H3,I3,q3⟩=>?_))))
 exact wpAny_release ⟨σ,H3,I3,q3⟩
def Zh (te:TE)(g:TG):TS:=λD σ H=>te σ H λx H1=>g x σ H1 D.nx
theorem Lz {tg e:Expr}{te:TE}{g:TG}(he:PE X e te)(hg:PG X tg g)(hs:swapsWithSole [tg] e pos.line X.env=pure false:=by rfl)(hw:swappedStores [tg] e X.env=pure none:=by rfl)
 (h1:(assignEach [tg] X.env).map (·.2)=[assign tg X.env]:=by rfl):PS X (.Assign [tg] e pos) (Zh te g):=by
 intro pins s σ H D I h
 refine wpAny_Assign_stores (iD (he pins s σ H _ I h) λv s1 ⟨x,H1,I1,r1,q1⟩=>?_) hs hw
 rw[h1]
 exact iD (hg pins s1 σ H1 x v _ I1 r1 q1) λ_ s2 q=>q
theorem LK {i:Nat}{x:Str}{e:Expr}{te:TE}{pos':Pos}(hN:X.N.Nodup)(hi:X.N[i]?=some x)(hx:Loc X.env.scope x)(he:PE X e te)(hs:swapsWith e (some (.Name x pos')) pos.line X.env=pure false:=by rfl)(hf:X.fn x=true\/X.env.scope.names.lookup x=some .local:=by first|exact .inl rfl|exact .inr rfl|assumption):
 PS X (.Assign [.Name x pos'] e pos) (Zh te (Rp i)):=by
 intro pins s σ H D I h
 refine wpAny_Assign_Name (iD (he pins s σ H _ I h) λv s1 ⟨y,H1,I1,r1,q1⟩=>?_) hs
 exact yu I1 hN hi hx r1 (λs2 I2=>⟨_,H1,I2,q1⟩) hf
def a1' (i j:Nat)(ta:TA):TS:=λD σ H=>ta σ H λvs H1=>∃v w,vs=[v,w]/\D.nx ((σ.set i (some v)).set j (some w)) H1
theorem YZ {i j:Nat}{x y:Str}{a b:Expr}{ta:TA}{px py pt:Pos}{kt k2 Z0}(hc:X.calm=true)(hN:X.N.Nodup)(hi:X.N[i]?=some x)(hj:X.N[j]?=some y)(hij:i≠j)
 (hx:X.env.scope.names.lookup x=some .local)(hy:X.env.scope.names.lookup y=some .local)(ha:PA X [a,b] ta)
 (hw:swappedStores [.Tuple [.Name x px,.Name y py] kt pt] (.Tuple [a,b] k2 Z0) X.env=pure (some [x,y]))
 (hs:swapsWithSole [.Tuple [.Name x px,.Name y py] kt pt] (.Tuple [a,b] k2 Z0) pos.line X.env=pure false:=by rfl):
 PS X (.Assign [.Tuple [.Name x px,.Name y py] kt pt] (.Tuple [a,b] k2 Z0) pos) (a1' i j ta):=by
 intro pins s σ H D I h
 rw[exec_Assign_arm]
 refine wpAny_bind (wpAny_standAt ?_)
 rw[hs]
 refine wpAny_bind (wpAny_pure ?_)
 rw[if_neg (by decide)]
 refine wpAny_bind (Tuple_ (iD (ha _ pins s σ H _ I h) λus s1 ⟨vs,H1,I1,r1,q1⟩=>?_))
 obtain⟨v,w,e1,q1⟩:=q1
 subst e1
 obtain⟨u1,u2,rfl,rv,rw'⟩:∃u1 u2,us=[u1,u2]/\RelV v u1/\RelV w u2:=by
  cases r1 with
  |cons p q=>
   cases q with
   |cons p' q'=>
    cases q'
    exact⟨_,_,rfl,p,p'⟩
 refine wpAny_newObj_type ?_ (by show 2<=sizeLine;decide)
 have I2:Inv X pins σ H1 { s1 with heap:=s1.heap.push { cls:= .type "tuple",data:= .seq [u1,u2].toArray } }:=I1.kept (t':=s1.toks) λb o e=>Heap.get?_push_of_some _ e
 rw[hw]
 refine wpAny_bind (wpAny_pure ?_)
 show wpAny (model X.prog X.w) X.A (do rule "assign.swapped-stores";let items<-unpackItems (.ref s1.heap.objs.size) 2 none;assignInOrder [λv=>bindName X.env y v,λv=>bindName X.env x v] items.reverse;pure Flow.next) _ _ _
 refine wpAny_bind (wpAny_rule (wpAny_bind (unpackItems_tuple (items:=#[u1,u2]) (I.ok.hd hc) (IsTup.new s1.heap _) λh' hx'=>?_)))
 have I3:=I2.kept (h':=h') (t':=s1.toks) λb o e=>hx' b o (Nat.ne_of_lt (Heap.lt_size e)) e
 show wpAny _ _ (assignInOrder [λv=>bindName X.env y v,λv=>bindName X.env x v] [u2,u1]>>=λ_=>pure Flow.next) _ _ _
 refine wpAny_bind (assignInOrder_cons (wpAny_bindName (yu I3 hN hj (.inl hy) rw' (λs2 I4=>?_) (.inr hy))))
 refine assignInOrder_cons (wpAny_bindName (yu I4 hN hi (.inl hx) rv (λs3 I5=>assignInOrder_nil (wpAny_pure ?_)) (.inr hx)))
 rw[List.set_comm _ _ (Ne.symm hij)]at I5
 exact⟨_,H1,I5,q1⟩
end
section
variable {X:Cx}{pos:Pos}
end
structure It where
 go:Nat->Hp->Prop
 yld:Nat->Hp->V->Hp->Prop
 stop:Nat->Hp->Prop
def zU (X:Cx)(pins:List (Addr×Obj))(H:Hp)(b:Addr):Prop:=
 H b=none/\b≠X.env.locals/\b∉X.fs/\(b∈X.ex\/X.s₀.heap.objs.size<=b)/\(∀x c,X.env.cells.lookup x=some c->c≠b)/\∀p∈X.pn++pins,p.1≠b
theorem Inv.Pr {X:Cx}{pins:List (Addr×Obj)}{σ:St}{H H':Hp}{s:Shared}{b:Addr}(I:Inv X pins σ H s)(hb:s.heap.objs.size<=b)(hn:H' b=none):zU X pins H' b:=by
 refine⟨hn,Nat.ne_of_gt (Nat.lt_of_lt_of_le I.lt hb),I.a1D hb,.inr (Nat.le_trans I.sz hb),λx c e z=>?_,λp hp z=>?_⟩
 ·obtain⟨v,q⟩:=I.cell x c e
  exact absurd (Nat.lt_of_lt_of_le q.lt (by rw[z];exact hb)) (Nat.lt_irrefl _)
 ·exact absurd (Nat.lt_of_lt_of_le (Heap.lt_size (I.pin p hp).1) (by rw[z];exact hb)) (Nat.lt_irrefl _)
structure Turn (P:Program)(w:World)(K:Fg)(tg:Expr)(J:It)(fp:List Addr)(it:Addr)(tn:Nat->Heap->Prop):Prop where
 mem:it∈fp
 obj:∀i h,tn i h->∀b∈fp,∃o,h.get? b=some o/\∀v,o.data≠ .cell v
 keep:∀i h h',tn i h->(∀b∈fp,∀o,h.get? b=some o->h'.get? b=some o)->tn i h'
 item:∀(X:Cx),X.prog=P->X.w=w->X.K=K->X.calm=true->∀(i:Nat) (pins:List (Addr×Obj)) (s:Shared) (σ:St) (H:Hp) (E:Value->Shared->Prop),Inv X pins σ H s->(∀b∈fp,zU X pins H b)->tn i s.heap->J.go i H->
  wpAny (model P w) X.A (pyNext (.ref it)) (λr s1=>∃u,r=some u/\
   wpAny (model P w) X.A (letOwnedTupleGo tg (.ref it) u) (λ_ s2=>∃x H',Inv X pins σ H' s2/\RelV x u/\J.yld i H x H'/\tn (i+1) s2.heap/\∀b∈fp,H' b=none) E s1) E s
 done:∀(X:Cx),X.prog=P->X.w=w->X.K=K->X.calm=true->∀(i:Nat) (pins:List (Addr×Obj)) (s:Shared) (σ:St) (H:Hp) (E:Value->Shared->Prop),Inv X pins σ H s->(∀b∈fp,zU X pins H b)->tn i s.heap->J.stop i H->
  wpAny (model P w) X.A (pyNext (.ref it)) (λr s1=>r=none/\Inv X pins σ H s1) E s
 self:∀(A:Around) (i:Nat) (s:Shared) (Q:Value->Shared->Prop) (E:Value->Shared->Prop),tn i s.heap->Q (.ref it) s->wpAny (model P w) A (pyIter (.ref it)) Q E s
abbrev TI:=St->Hp->(It->Hp->Prop)->Prop
def PIE (X:Cx)(pins:List (Addr×Obj))(σ:St)(tg:Expr)(R:It->Hp->Prop)(itv:Value)(s2:Shared):Prop:=
 ∃(it:Addr) (fp:List Addr) (tn:Nat->Heap->Prop) (J:It) (H':Hp),itv= .ref it/\Inv X pins σ H' s2/\Turn X.prog X.w X.K tg J fp it tn/\tn 0 s2.heap/\(∀b∈fp,zU X pins H' b)/\R J H'
def PI (X:Cx)(tg iter:Expr)(wi:TI):Prop:=
 ∀(pins:List (Addr×Obj)) (s:Shared) (σ:St) (H:Hp) (R:It->Hp->Prop),Inv X pins σ H s->wi σ H R->
  wpAny (model X.prog X.w) X.A (eval iter X.env) (λv s1=>wpAny (model X.prog X.w) X.A (pyIter v) (PIE X pins σ tg R) X.xe s1) X.xe s
theorem Rt {M:Model}{A:Around}{E:Value->Shared->Prop}{s:Shared}{tg:Expr}{it:Addr}{u:Value}{o:Obj}{n:String}{vs:Array Value}{Q:Unit->Shared->Prop}(ho:s.heap.get? it=some o)(hc:o.cls= .type n)(hd:o.data= .fields vs)
 (hn:["enumerate","zip","dict_itemiterator","dict_reverseitemiterator","odict_iterator","itertools.zip_longest","itertools.pairwise"].contains n=false)(hQ:Q () s):wpAny M A (letOwnedTupleGo tg (.ref it) u) Q E s:=by
 unfold letOwnedTupleGo
 cases tg<;>first
  |exact wpAny_pure hQ
  |(cases u<;>first
   |exact wpAny_pure hQ
   |(refine wpAny_bind (wpAny_load ho ?_)
     rw[hc,hd]
     show wpAny M A (if(["enumerate","zip","dict_itemiterator","dict_reverseitemiterator","odict_iterator","itertools.zip_longest","itertools.pairwise"].contains n&&vs[0]?==some (rawInt _))=true then _ else _) Q E s
     rw[if_neg (by intro h;rw[hn,Bool.false_and]at h;cases h)]
     exact wpAny_pure hQ))
def Itl (K:Fg)(a:Addr):It:=
 ⟨λi H=>∃xs x,qK K H a xs/\xs[i]?=some x,λi H x H'=>H'=H/\∀xs,qK K H a xs->xs[i]?=some x,λi H=>∃xs,qK K H a xs/\xs.length<=i⟩
def Itt (K:Fg)(a:Addr):It:=
 ⟨λi H=>∃xs x,vW K H a xs/\xs[i]?=some x,λi H x H'=>H'=H/\∀xs,vW K H a xs->xs[i]?=some x,λi H=>∃xs,vW K H a xs/\xs.length<=i⟩
def Itr (lo:Int)(n:Nat):It:=⟨λi _=>i<n,λi H x H'=>H'=H/\x= .int (lo+i),λi _=>n<=i⟩
theorem Qx {P:Program}{w:World}{K:Fg}{tg:Expr}(a it:Addr):Turn P w K tg (Itl K a) [it] it (λi h=>h.IsListIter it a i) where
 mem:=by simp
 obj:=λi h st b hb=>by
  have e:b=it:=by simpa using hb
  subst e
  obtain⟨o,e,c,d⟩:=st
  exact⟨o,e,λv z=>by rw[d]at z;cases z⟩
 keep:=λi h h' st k=>st.at λo e=>k it (by simp) o e
 item:=by
  intro X hP hw hK hc i pins s σ H E I hf st hg
  subst hP hw hK
  obtain⟨xs,x,hq,hx⟩:=hg
  obtain⟨its,rv,p,hz⟩:=I.list hq
  obtain⟨u,hu,ru⟩:=rv.get hx
  obtain⟨f0,f1,f2,f3,f4,f5⟩:=hf it (by simp)
  refine wpAny_pyNext_list_item st p.isList (x:=u) (by simpa using hu) λh' st' sb=>?_
  have I1:Inv X pins σ H { s with heap:=h' }:=I.turned (t':=s.toks) (λb o hb e=>(sb.2 b hb).trans e) f0 f1 f3 f4 f5
  obtain⟨o,e,c,d⟩:=id st'
  exact⟨u,rfl,Rt (s:={ s with heap:=h' }) e c d (by decide) ⟨x,H,I1,ru,⟨rfl,λys hy=>by rw[I.Jr hy hq];exact hx⟩,st',λb hb=>(hf b hb).1⟩⟩
 done:=by
  intro X hP hw hK hc i pins s σ H E I hf st hg
  subst hP hw hK
  obtain⟨xs,hq,hx⟩:=hg
  obtain⟨its,rv,p,hz⟩:=I.list hq
  obtain⟨f0,f1,f2,f3,f4,f5⟩:=hf it (by simp)
  have hl:=rv.length
  exact wpAny_pyNext_list_end (I.ok.hd hc) st p.isList (by simp;omega) λh' eb=>⟨rfl,I.turned (t':=s.toks) (λb o hb e=>eb b o hb e) f0 f1 f3 f4 f5⟩
 self:=λ_ _ _ _ _ st h=>wpAny_pyIter_listiter st h
theorem Mf {P:Program}{w:World}{K:Fg}{tg:Expr}(a it:Addr):Turn P w K tg (Itt K a) [it] it (λi h=>h.IsTupleIter it a i) where
 mem:=by simp
 obj:=λi h st b hb=>by
  have e:b=it:=by simpa using hb
  subst e
  obtain⟨o,e,c,d⟩:=st
  exact⟨o,e,λv z=>by rw[d]at z;cases z⟩
 keep:=λi h h' st k=>st.at λo e=>k it (by simp) o e
 item:=by
  intro X hP hw hK hc i pins s σ H E I hf st hg
  subst hP hw hK
  obtain⟨xs,x,hq,hx⟩:=hg
  obtain⟨its,rv,p,hz⟩:=I.tuple hq
  obtain⟨u,hu,ru⟩:=rv.get hx
  obtain⟨f0,f1,f2,f3,f4,f5⟩:=hf it (by simp)
  refine wpAny_pyNext_tuple_item st (show s.heap.IsTuple a its.toArray from p) (x:=u) (by simpa using hu) λh' st' sb=>?_
  have I1:Inv X pins σ H { s with heap:=h' }:=I.turned (t':=s.toks) (λb o hb e=>(sb.2 b hb).trans e) f0 f1 f3 f4 f5
  obtain⟨o,e,c,d⟩:=id st'
  exact⟨u,rfl,Rt (s:={ s with heap:=h' }) e c d (by decide) ⟨x,H,I1,ru,⟨rfl,λys hy=>by rw[I.Gw hy hq];exact hx⟩,st',λb hb=>(hf b hb).1⟩⟩
 done:=by
  intro X hP hw hK hc i pins s σ H E I hf st hg
  subst hP hw hK
  obtain⟨xs,hq,hx⟩:=hg
  obtain⟨its,rv,p,hz⟩:=I.tuple hq
  obtain⟨f0,f1,f2,f3,f4,f5⟩:=hf it (by simp)
  have hl:=rv.length
  exact wpAny_pyNext_tuple_end (I.ok.hd hc) st (show s.heap.IsTuple a its.toArray from p) (by simp;omega) λh' eb=>⟨rfl,I.turned (t':=s.toks) (λb o hb e=>eb b o hb e) f0 f1 f3 f4 f5⟩
 self:=λ_ _ _ _ _ st h=>wpAny_pyIter_tupleiter st h
theorem Ma {P:Program}{w:World}{K:Fg}{tg:Expr}(it:Addr)(lo:Int)(n:Nat):Turn P w K tg (Itr lo n) [it] it (λi h=>IsRangeIter h it (lo+(i:Nat)*1) ((n:Int) - (i:Nat)) 1) where
 mem:=by simp
 obj:=λi h st b hb=>by
  have e:b=it:=by simpa using hb
  subst e
  exact⟨_,st,λv z=>by
   have z':Data.fields _=Data.cell v:=z
   cases z'⟩
 keep:=λi h h' st k=>k it (by simp) _ st
 item:=by
  intro X hP hw hK hc i pins s σ H E I hf st hg
  subst hP hw hK
  obtain⟨f0,f1,f2,f3,f4,f5⟩:=hf it (by simp)
  have W:=Walks.range (prog:=X.prog) (w:=X.w) (I.ok.hd hc) it lo 1 n
  refine W.item i s _ _ hg st λv h' tk hv st' kk=>?_
  obtain⟨t,rfl⟩:=hv
  have I1:Inv X pins σ H { s with heap:=h',toks:=tk }:=I.turned (λb o hb e=>kk b o (by simpa using hb) e) f0 f1 f3 f4 f5
  refine⟨_,rfl,Rt (s:={ s with heap:=h',toks:=tk }) (n:="range_iterator") st' rfl rfl (by decide) ⟨.int (lo+i),H,I1,⟨t,?_⟩,⟨rfl,rfl⟩,st',λb hb=>(hf b hb).1⟩⟩
  rw[Int.mul_one]
 done:=by
  intro X hP hw hK hc i pins s σ H E I hf st hg
  subst hP hw hK
  obtain⟨f0,f1,f2,f3,f4,f5⟩:=hf it (by simp)
  exact wpAny_pyNext_range_end (I.ok.hd hc) st (by have:n<=i:=hg;omega) λh' eb=>⟨rfl,I.turned (t':=s.toks) (λb o hb e=>eb b o hb e) f0 f1 f3 f4 f5⟩
 self:=λ_ _ _ _ _ st h=>wpAny_pyIter_rangeiter st h
end L2
namespace L2
open PySem PySem.Spec PyProof.Rows
section
variable {X:Cx}{tg:Expr}
def a0m (K:Fg)(tl:TE):TI:=λσ H R=>tl σ H λx H1=>∃a,x= .ref a/\(∃xs,qK K H1 a xs)/\R (Itl K a) H1
def a1x (K:Fg)(tl:TE):TI:=λσ H R=>tl σ H λx H1=>∃a,x= .ref a/\(∃xs,vW K H1 a xs)/\R (Itt K a) H1
theorem W3 {l:Expr}{tl:TE}(hl:PE X l tl):PI X tg l (a0m X.K tl):=by
 intro pins s σ H R I h
 refine iD (hl pins s σ H _ I h) λv s1 ⟨x,H1,I1,r1,q1⟩=>?_
 obtain⟨a,e,⟨xs,hq⟩,q⟩:=q1
 subst e
 cases r1
 obtain⟨its,rv,p,hz⟩:=I1.list hq
 refine wpAny_pyIter_list p.isList ?_
 refine⟨s1.heap.objs.size,[s1.heap.objs.size],_,_,H1,rfl,I1.kept (t':=s1.toks) λb o e=>Heap.get?_push_of_some _ e,Qx a _,⟨_,Heap.get?_push_size _ rfl,rfl,rfl⟩,λb hb=>?_,q⟩
 have e:b=s1.heap.objs.size:=by simpa using hb
 subst e
 exact I1.Pr (Nat.le_refl _) (I1.hok.fresh (Nat.le_refl _))
theorem YS {l:Expr}{tl:TE}(hl:PE X l tl):PI X tg l (a1x X.K tl):=by
 intro pins s σ H R I h
 refine iD (hl pins s σ H _ I h) λv s1 ⟨x,H1,I1,r1,q1⟩=>?_
 obtain⟨a,e,⟨xs,hq⟩,q⟩:=q1
 subst e
 cases r1
 obtain⟨its,rv,p,hz⟩:=I1.tuple hq
 refine wpAny_pyIter_tuple (show s1.heap.IsTuple a its.toArray from p) ?_
 refine⟨s1.heap.objs.size,[s1.heap.objs.size],_,_,H1,rfl,I1.kept (t':=s1.toks) λb o e=>Heap.get?_push_of_some _ e,Mf a _,⟨_,Heap.get?_push_size _ rfl,rfl,rfl⟩,λb hb=>?_,q⟩
 have e:b=s1.heap.objs.size:=by simpa using hb
 subst e
 exact I1.Pr (Nat.le_refl _) (I1.hok.fresh (Nat.le_refl _))
theorem T9 {pins:List (Addr×Obj)}{σ:St}{H:Hp}{s:Shared}{R:It->Hp->Prop}{E:Value->Shared->Prop}{lo hi:Int}{t u v:Tok}{tk:Nat}(I:Inv X pins σ H s)(h1: -(2 ^ 62)<=lo)(h2:lo<2 ^ 62)(h3: -(2 ^ 62)<=hi)(h4:hi<2 ^ 62)
 (q:R (Itr lo (hi - lo).toNat) H):wpAny (model X.prog X.w) X.A (pyIter (.ref s.heap.objs.size)) (PIE X pins σ tg R) E { s with heap:=s.heap.push { cls:= .type "range",data:= .fields #[.int lo t,.int hi u,.int 1 v] },toks:=tk }:=by
 refine wpAny_pyIter_range (IsRange.new ..) (small_one h1 h2 h3 h4) ?_
 have I1:Inv X pins σ H { s with heap:=s.heap.push { cls:= .type "range",data:= .fields #[.int lo t,.int hi u,.int 1 v] },toks:=tk }:=I.kept λb o e=>Heap.get?_push_of_some _ e
 refine⟨(s.heap.push { cls:= .type "range",data:= .fields #[.int lo t,.int hi u,.int 1 v] }).objs.size,[(s.heap.push { cls:= .type "range",data:= .fields #[.int lo t,.int hi u,.int 1 v] }).objs.size],_,_,H,rfl,
  I1.kept (t':=tk) λb o e=>Heap.get?_push_of_some _ e,Ma _ lo (hi - lo).toNat,?_,λb hb=>?_,q⟩
 ·have e1:lo+((0:Nat):Int)*1=lo:=by simp
  have e2:(((hi - lo).toNat:Nat):Int) - ((0:Nat):Int)=Builtin.Range.rangeSize lo hi 1:=by rw[rangeSize_one];split<;>omega
  show IsRangeIter _ _ (lo+((0:Nat):Int)*1) ((((hi - lo).toNat:Nat):Int) - ((0:Nat):Int)) 1
  rw[e1,e2]
  exact Heap.get?_push_size _ rfl
 ·have e:b=(s.heap.push { cls:= .type "range",data:= .fields #[.int lo t,.int hi u,.int 1 v] }).objs.size:=by simpa using hb
  subst e
  exact I1.Pr (Nat.le_refl _) (I1.hok.fresh (Nat.le_refl _))
def a0n (ta:TA):TI:=λσ H R=>ta σ H λvs H1=>∃j:Int,vs=[.int j]/\ -(2 ^ 62)<=j/\j<2 ^ 62/\R (Itr 0 j.toNat) H1
theorem Qh {a:Expr}{ta:TA}{p pos:Pos}(hg:Gl X "range")(hm:X.mg "range"=none)(ha:PA X [a] ta)(hs:starEach [a] X.env=[(false,eval a X.env)]:=by rfl):PI X tg (.Call (.Name "range" p) [a] [] pos) (a0n ta):=by
 intro pins s σ H R I h
 refine Call_ (tR I hg hm boot_range (PyProof.Rows.callWith_type1 (iD (ha pos pins s σ H _ I h) λus s1 ⟨vs,H1,I1,r1,q1⟩=>?_) hs rfl))
 obtain⟨j,e,q1,q2,q⟩:=q1
 subst e
 cases r1 with
 |cons r rr=>
  cases rr
  obtain⟨t,rfl⟩:=r
  exact call_range_1 (T9 I1 (by omega) (by omega) q1 q2 (by simpa using q))
def a1V (wi:TI)(g:TG)(tb:TS):TS:=λD σ H=>wi σ H λJ H1=>∃W:Nat->Nat->St->Hp->Prop,(∃m,W 0 m σ H1)/\∀i m σ H,W i m σ H->
 (J.stop i H/\D.nx σ H)\/(J.go i H/\∃N:St->Hp->Prop,(∀σ' H',N σ' H'->∃m',m'<m/\W (i+1) m' σ' H')/\∀x H',J.yld i H x H'->g x σ H' λσ2 H2=>tb { D with nx:=N,ct:=N,bk:=D.nx } σ2 H2)
def Dd (fp:List Addr)(h:Heap):List (Addr×Obj):=fp.filterMap λb=>(h.get? b).map λo=>(b,o)
theorem qZ {fp:List Addr}{h:Heap}{b:Addr}{o:Obj}(hb:b∈fp)(e:h.get? b=some o):(b,o)∈Dd fp h:=List.mem_filterMap.mpr ⟨b,hb,by rw[e];rfl⟩
theorem Qa {fp:List Addr}{h:Heap}{p:Addr×Obj}(hp:p∈Dd fp h):p.1∈fp/\h.get? p.1=some p.2:=by
 obtain⟨b,hb,e⟩:=List.mem_filterMap.mp hp
 cases q:h.get? b with
 |none=>rw[q]at e;cases e
 |some o=>
  rw[q]at e
  have e':(b,o)=p:=Option.some.inj e
  subst e'
  exact⟨hb,q⟩
theorem Inv.pinned {pins:List (Addr×Obj)}{σ:St}{H:Hp}{s:Shared}{fp:List Addr}(I:Inv X pins σ H s)(hf:∀b∈fp,zU X pins H b)(ho:∀b∈fp,∃o,s.heap.get? b=some o/\∀v,o.data≠ .cell v):Inv X (pins++Dd fp s.heap) σ H s:=
 I.Nt λp hp=>(List.mem_append.mp hp).elim (λz=>I.pin p (List.mem_append_right _ z)) λz=>by
  obtain⟨hb,e⟩:=Qa z
  obtain⟨f0,f1,f2,_⟩:=hf p.1 hb
  obtain⟨o,e',d⟩:=ho p.1 hb
  rw[e]at e';cases e'
  exact⟨e,f0,f1,f2,d⟩
theorem Inv.yx {pins pl:List (Addr×Obj)}{σ:St}{H:Hp}{s:Shared}(I:Inv X (pins++pl) σ H s):Inv X pins σ H s:=I.Nt λp hp=>I.pin p (List.mem_append_right _ (List.mem_append_left _ hp))
theorem YX {iter:Expr}{body:List Stmt}{wi:TI}{g:TG}{tb:TS}{pos:Pos}(hp:PassesOwn (model X.prog X.w) X.A X.env X.xe)(hc:X.calm=true)(hi:PI X tg iter wi)(hg:PG X tg g)(hb:yF X body tb)
 (hs:∀x,foldedSetIterable iter X.env x=pure x:=by intro _;rfl):PS X (.For tg iter body [] pos) (a1V wi g tb):=by
 intro pins s σ H D I h
 refine wpAny_For (iD (hi pins s σ H _ I h) λv s1 h1=>iD h1 λitv s2 h2=>?_) hs
 obtain⟨it,fp,tn,J,H2,e,I2,T,st2,f2,W,⟨m0,w0⟩,turn⟩:=h2
 subst e
 have stat:∀{H':Hp},(∀b∈fp,H' b=none)->∀b∈fp,zU X pins H' b:=λhn b hb=>⟨hn b hb,(f2 b hb).2⟩
 refine codeAny_forLoop_any (λn s'=>∃i σ' H',Inv X pins σ' H' s'/\tn i s'.heap/\(∀b∈fp,H' b=none)/\W i n σ' H') ?_ m0 ⟨0,σ,H2,I2,st2,λb hb=>(f2 b hb).1,w0⟩
 rintro n s3 ⟨i,σ3,H3,I3,st3,fr3,w3⟩
 rcases turn i n σ3 H3 w3 with⟨stop,qn⟩|⟨go,N,hN,step⟩
 ·refine wpAny_passesOwn hp (iD (T.done X rfl rfl rfl hc i pins s3 σ3 H3 X.xe I3 (stat fr3) st3 stop) λr s4 ⟨hr,I4⟩=>?_)
  subst hr
  exact wpAny_execs_nil ⟨σ3,H3,I4,qn⟩
 ·refine wpAny_passesOwn hp (iD (T.item X rfl rfl rfl hc i pins s3 σ3 H3 X.xe I3 (stat fr3) st3 go) λr s4 ⟨u,hr,h4⟩=>?_)
  subst hr
  refine wpAny_passesOwn hp (iD h4 λ_ s5 ⟨x,H5,I5,r5,y5,ZF,fr5⟩=>?_)
  have I5':=I5.pinned (stat fr5) (T.obj _ _ ZF)
  refine wpAny_passesOwn hp (iD (hg _ s5 σ3 H5 x u _ I5' r5 (step x H5 y5)) λ_ s6 ⟨σ6,H6,I6,q6⟩=>?_)
  refine wpAny_passesOwn hp (iD (hb _ s6 σ6 H6 _ I6 q6) λf s7 q7=>?_)
  have again:∀{Uj:St}{H7:Hp},Inv X (pins++Dd fp s5.heap) Uj H7 s7->N Uj H7->∃m,m<n/\∃i σ' H',Inv X pins σ' H' s7/\tn i s7.heap/\(∀b∈fp,H' b=none)/\W i m σ' H':=λ{Uj H7} I7 n7=>by
   obtain⟨m',hm,w7⟩:=hN Uj H7 n7
   refine⟨m',hm,i+1,Uj,H7,I7.yx,T.keep _ _ _ ZF λb hb o e=>(I7.pin (b,o) (List.mem_append_right _ (List.mem_append_right _ (qZ hb e)))).1,λb hb=>?_,w7⟩
   obtain⟨o,e,d⟩:=T.obj _ _ ZF b hb
   exact(I7.pin (b,o) (List.mem_append_right _ (List.mem_append_right _ (qZ hb e)))).2.1
  cases f with
  |next=>obtain⟨Uj,H7,I7,n7⟩:=q7;exact again I7 n7
  |cont=>obtain⟨Uj,H7,I7,n7⟩:=q7;exact again I7 n7
  |brk=>obtain⟨Uj,H7,I7,q7⟩:=q7;exact⟨Uj,H7,I7.yx,q7⟩
  |ret v=>obtain⟨x7,Uj,H7,I7,r7,q7⟩:=q7;exact⟨x7,Uj,H7,I7.yx,r7,q7⟩
end
end L2
namespace L2
open PySem PySem.Spec PyProof.Rows
abbrev R2:=V->V->Hp->VK->Prop
def uz (X:Cx)(f:Value->Value->Sem Value)(r:R2):Prop:=
 ∀(pins:List (Addr×Obj)) (s:Shared) (σ:St) (H:Hp) (x y:V) (v u:Value) (Q:VK),Inv X pins σ H s->RelV x v->RelV y u->r x y H Q->
  wpAny (model X.prog X.w) X.A (f v u) (EP X pins σ Q) X.xe s
def UnR (X:Cx)(f:Value->Sem Value)(r:V->Hp->VK->Prop):Prop:=
 ∀(pins:List (Addr×Obj)) (s:Shared) (σ:St) (H:Hp) (x:V) (v:Value) (Q:VK),Inv X pins σ H s->RelV x v->r x H Q->
  wpAny (model X.prog X.w) X.A (f v) (EP X pins σ Q) X.xe s
def jO (X:Cx)(f:Value)(r:List V->Hp->VK->Prop):Prop:=
 ∀(pins:List (Addr×Obj)) (s:Shared) (σ:St) (H:Hp) (xs:List V) (us:List Value) (Q:VK),Inv X pins σ H s->Vals xs us->r xs H Q->
  wpAny (model X.prog X.w) X.A (call f us) (EP X pins σ Q) X.xe s
def tOp (r:R2)(ta tb:TE):TE:=λσ H Q=>ta σ H λx H1=>tb σ H1 λy H2=>r x y H2 Q
def tUn (r:V->Hp->VK->Prop)(ta:TE):TE:=λσ H Q=>ta σ H λx H1=>r x H1 Q
def rI (C:Int->Int->Prop)(g:Int->Int->V):R2:=λx y H Q=>∃i j,x= .int i/\y= .int j/\C i j/\Q (g i j) H
def Up (g:Int->Int->V):R2:=λx y H Q=>∃i j,x= .int i/\y= .int j/\Q (g i j) H
def rU (g:Int->V):V->Hp->VK->Prop:=λx H Q=>∃i,x= .int i/\Q (g i) H
section
variable {X:Cx}{a b c:Expr}{ta tb tc:TE}{pos:Pos}
theorem Xv (ha:PE X a ta)(hb:PE X b tb){pins:List (Addr×Obj)}{s:Shared}{σ:St}{H:Hp}{R:V->V->Hp->Prop}(I:Inv X pins σ H s)
 (h:ta σ H λx H1=>tb σ H1 λy H2=>R x y H2){Q:Value->Shared->Prop}{f:Value->Value->Sem Value}
 (hf:∀v u s2 x y H2,Inv X pins σ H2 s2->RelV x v->RelV y u->R x y H2->wpAny (model X.prog X.w) X.A (f v u) Q X.xe s2):
 wpAny (model X.prog X.w) X.A (eval a X.env) (λv s₁=>wpAny (model X.prog X.w) X.A (eval b X.env) (λu s₂=>wpAny (model X.prog X.w) X.A (f v u) Q X.xe s₂) X.xe s₁) X.xe s:=by
 refine iD (ha pins s σ H _ I h) λv s1 ⟨x,H1,I1,r1,q1⟩=>?_
 refine iD (hb pins s1 σ H1 _ I1 q1) λu s2 ⟨y,H2,I2,r2,q2⟩=>?_
 exact hf v u s2 x y H2 I2 r1 r2 q2
theorem a0B {op:Operator}{r:R2}(ho:uz X (binaryOp op) r)(ha:PE X a ta)(hb:PE X b tb):PE X (.BinOp a op b pos) (tOp r ta tb):=by
 intro pins s σ H Q I h
 exact wpAny_BinOp (Xv ha hb I h λv u s2 x y H2 I2 rx ry q=>ho pins s2 σ H2 x y v u Q I2 rx ry q)
theorem a0D {op:UnaryOp}{r:V->Hp->VK->Prop}(ho:UnR X (unaryOp op) r)(ha:PE X a ta):PE X (.UnaryOp op a pos) (tUn r ta):=by
 intro pins s σ H Q I h
 exact UnaryOp_ (iD (ha pins s σ H _ I h) λv s1 ⟨x,H1,I1,r1,q1⟩=>ho pins s1 σ H1 x v Q I1 r1 q1)
theorem opI {f:Value->Value->Sem Value}{C:Int->Int->Prop}{g:Int->Int->Int}
 (rule:∀(i j:Int) (t u:Tok) (s:Shared) (Q:Value->Shared->Prop) (E:Value->Shared->Prop),C i j->Q (.int (g i j) s.toks) { s with toks:=s.toks+1 }->wpAny (model X.prog X.w) X.A (f (.int i t) (.int j u)) Q E s):
 uz X f (rI C λi j=> .int (g i j)):=by
 intro pins s σ H x y v u Q I rx ry h
 obtain⟨i,j,rfl,rfl,hc,q⟩:=h
 obtain⟨t,rfl⟩:=rx
 obtain⟨t',rfl⟩:=ry
 exact rule i j t t' s _ _ hc ⟨.int (g i j),H,I.tok _,⟨_,rfl⟩,q⟩
theorem a0x {f:Value->Value->Sem Value}{g:Int->Int->Int}
 (rule:∀(i j:Int) (t u:Tok) (s:Shared) (Q:Value->Shared->Prop) (E:Value->Shared->Prop),Q (.int (g i j) s.toks) { s with toks:=s.toks+1 }->wpAny (model X.prog X.w) X.A (f (.int i t) (.int j u)) Q E s):
 uz X f (Up λi j=> .int (g i j)):=by
 intro pins s σ H x y v u Q I rx ry h
 obtain⟨i,j,rfl,rfl,q⟩:=h
 obtain⟨t,rfl⟩:=rx
 obtain⟨t',rfl⟩:=ry
 exact rule i j t t' s _ _ ⟨.int (g i j),H,I.tok _,⟨_,rfl⟩,q⟩
theorem Yv {f:Value->Value->Sem Value}{g:Int->Int->Bool}
 (rule:∀(i j:Int) (t u:Tok) (s:Shared) (Q:Value->Shared->Prop) (E:Value->Shared->Prop),Q (.bool (g i j)) s->wpAny (model X.prog X.w) X.A (f (.int i t) (.int j u)) Q E s):
 uz X f (Up λi j=> .bl (g i j)):=by
 intro pins s σ H x y v u Q I rx ry h
 obtain⟨i,j,rfl,rfl,q⟩:=h
 obtain⟨t,rfl⟩:=rx
 obtain⟨t',rfl⟩:=ry
 exact rule i j t t' s _ _ ⟨.bl (g i j),H,I,rfl,q⟩
def ZK (i j:Int):Prop:=0<j/\j<1073741824
def Uq (i j:Int):Prop:=(-(2 ^ 64)<i/\i<2 ^ 64)\/(-(2 ^ 64)<j/\j<2 ^ 64)
theorem Uq.ok {i j:Int}(h:Uq i j):IntMulOk i j:=by
 rcases h with⟨h1,h2⟩|⟨h1,h2⟩
 ·exact .of_left (intBits_le_64 h1 h2)
 ·exact .of_right (intBits_le_64 h1 h2)
theorem Yw:uz X (binaryOp .Add) (Up λi j=> .int (i+j)):=a0x λ_ _ _ _ _ _ _ q=>add_int q
theorem zj:uz X (binaryOp .Sub) (Up λi j=> .int (i - j)):=a0x λ_ _ _ _ _ _ _ q=>sub_int q
theorem Yy:uz X (binaryOp .Mult) (rI Uq λi j=> .int (i*j)):=opI λ_ _ _ _ _ _ _ hc q=>mul_int q hc.ok
theorem dY:uz X (binaryOp .FloorDiv) (rI ZK λi j=> .int (i/j)):=opI λi j _ _ _ _ _ hc q=>by
 have h1:(0:Int)<j:=hc.1
 have h2:j<1073741824:=hc.2
 exact floordiv_int (by omega) (by rw[Int.fdiv_eq_ediv_of_nonneg i (by omega)];exact q) (.inl (PyProof.noPylong_small (by omega)))
theorem di:uz X (binaryOp .Mod) (rI (λ_ j=>0<j) λi j=> .int (i % j)):=opI λi j _ _ _ _ _ hc q=>by
 have h1:(0:Int)<j:=hc
 exact mod_int' (by omega) (by rw[Int.fmod_eq_emod_of_nonneg i (by omega)];exact q)
theorem unI {f:Value->Sem Value}{g:Int->Int}
 (rule:∀(i:Int) (t:Tok) (s:Shared) (Q:Value->Shared->Prop) (E:Value->Shared->Prop),Q (.int (g i) s.toks) { s with toks:=s.toks+1 }->wpAny (model X.prog X.w) X.A (f (.int i t)) Q E s):
 UnR X f (rU λi=> .int (g i)):=by
 intro pins s σ H x v Q I rx h
 obtain⟨i,rfl,q⟩:=h
 obtain⟨t,rfl⟩:=rx
 exact rule i t s _ _ ⟨.int (g i),H,I.tok _,⟨_,rfl⟩,q⟩
theorem Zr:UnR X (unaryOp .USub) (rU λi=> .int (-i)):=unI λ_ _ _ _ _ q=>neg_int q
end
section
variable {X:Cx}{a b c:Expr}{ta tb tc:TE}{pos:Pos}
theorem XX {pins:List (Addr×Obj)}{σ:St}{H:Hp}{s:Shared}{Q:VK}{k k':Bool}(I:Inv X pins σ H s)(q:Q (.bl k) H)(e:k=k'):EP X pins σ Q (.bool k') s:=by
 subst e
 exact⟨.bl k,H,I,rfl,q⟩
theorem Gg:uz X (compareOp .Lt) (Up λi j=> .bl (decide (i<j))):=Yv λ_ _ _ _ _ _ _ q=>lt_int q
theorem Sq:uz X (compareOp .Gt) (Up λi j=> .bl (decide (j<i))):=Yv λ_ _ _ _ _ _ _ q=>gt_int q
theorem a0y:uz X (compareOp .GtE) (Up λi j=> .bl (decide (j<=i))):=Yv λ_ _ _ _ _ _ _ q=>ge_int q
theorem VF:uz X (compareOp .IsNot) (λx y H Q=>y= .non/\Q (.bl (!decide (x= .non))) H):=by
 intro pins s σ H x y v u Q I rx ry h
 obtain⟨rfl,q⟩:=h
 cases ry
 refine isnot_none_gen (XX I q ?_)
 cases x<;>first
  |(cases rx;rfl)
  |(obtain⟨t,rfl⟩:=rx;rfl)
theorem uz.or {f:Value->Value->Sem Value}{r r':R2}(h:uz X f r)(h':uz X f r'):uz X f (λx y H Q=>r x y H Q\/r' x y H Q):=by
 intro pins s σ H x y v u Q I rx ry q
 rcases q with q|q
 ·exact h pins s σ H x y v u Q I rx ry q
 ·exact h' pins s σ H x y v u Q I rx ry q
theorem RZ (b:Expr){op:CmpOp}(h:op≠ .In:=by decide)(h2:op≠ .NotIn:=by decide):behindInMarks op b=false:=by
 have e1:(op==CmpOp.In)=false:=by cases op<;>first|rfl|exact absurd rfl h
 have e2:(op==CmpOp.NotIn)=false:=by cases op<;>first|rfl|exact absurd rfl h2
 cases b<;>simp[behindInMarks,e1,e2]
theorem VL {op:CmpOp}{r:R2}(ho:uz X (compareOp op) r)(ha:PE X a ta)(hb:PE X b tb)(hm:behindInMarks op b=false):PE X (.Compare a [op] [b] pos) (tOp r ta tb):=by
 intro pins s σ H Q I h
 exact wpAny_Compare1 (Xv ha hb I h λv u s2 x y H2 I2 rx ry q=>ho pins s2 σ H2 x y v u Q I2 rx ry q) hm
def a1e (t:TE):TT:=λσ H Q=>t σ H λx H'=>∃k,x= .bl k/\Q k H'
theorem Wb {op:CmpOp}{r:R2}(ho:uz X (compareOp op) r)(ha:PE X a ta)(hb:PE X b tb)(hm:behindInMarks op b=false):PT X (.Compare a [op] [b] pos) (a1e (tOp r ta tb)):=by
 intro pins s σ H Q I h
 refine wpAny_isTrue_Compare1 (iD (ha pins s σ H _ I h) λv s1 ⟨x,H1,I1,r1,q1⟩=>iD (hb pins s1 σ H1 _ I1 q1) λu s2 ⟨y,H2,I2,r2,q2⟩=>
  iD (ho pins s2 σ H2 x y v u _ I2 r1 r2 q2) λc s3 ⟨z,H3,I3,r3,k,e,q3⟩=>?_) hm
 subst e
 cases r3
 exact wpAny_truthy_bool ⟨H3,I3,q3⟩
theorem vG:(sizeLine:Nat)<2 ^ 63:=by rw[sizeLine_eq];decide
theorem Lw:uz X (binaryOp .Add) (λx y H Q=>∃i j,x= .str i/\y= .str j/\i.length+j.length<=sizeLine/\Q (.str (i++j)) H):=by
 intro pins s σ H x y v u Q I rx ry h
 obtain⟨i,j,rfl,rfl,hz,q⟩:=h
 obtain⟨t,rfl⟩:=rx
 obtain⟨t',rfl⟩:=ry
 exact add_str (λt' tk=>⟨.str (i++j),H,I.tok _,⟨_,rfl⟩,q⟩) hz
theorem vals1 {x:V}{us:List Value}(r:Vals [x] us):∃u,us=[u]/\RelV x u:=by
 cases r with
 |cons r1 r2=>cases r2;exact⟨_,rfl,r1⟩
theorem vals2 {x y:V}{us:List Value}(r:Vals [x,y] us):∃u w',us=[u,w']/\RelV x u/\RelV y w':=by
 cases r with
 |cons r1 r2=>
  cases r2 with
  |cons r3 r4=>cases r4;exact⟨_,_,rfl,r1,r3⟩
theorem yK (hc:X.calm=true):jO X (.builtin "min") (λxs H Q=>∃i j,xs=[.int i,.int j]/\Q (.int (if j<i then j else i)) H):=by
 intro pins s σ H xs us Q I r h
 obtain⟨i,j,rfl,q⟩:=h
 obtain⟨u,w',rfl,⟨t,rfl⟩,⟨t',rfl⟩⟩:=vals2 r
 refine min_two_ints (I.ok.hd hc) λh' tk k=>⟨_,H,I.kept k,?_,q⟩
 by_cases hj:j<i
 ·rw[if_pos hj,if_pos hj];exact⟨_,rfl⟩
 ·rw[if_neg hj,if_neg hj];exact⟨_,rfl⟩
theorem qj:jO X (.type "int") (λxs H Q=>(∃i,xs=[.int i]/\Q (.int i) H)\/∃k,xs=[.bl k]/\Q (.int (if k then 1 else 0)) H):=by
 intro pins s σ H xs us Q I r h
 rcases h with⟨i,rfl,q⟩|⟨k,rfl,q⟩
 ·obtain⟨u,rfl,t,rfl⟩:=vals1 r
  exact call_int_int ⟨.int i,H,I,⟨_,rfl⟩,q⟩
 ·obtain⟨u,rfl,r1⟩:=vals1 r
  cases r1
  exact call_int_bool ⟨.int (if k then 1 else 0),H,I.tok _,⟨_,rfl⟩,q⟩
def ZP (K:Fg)(x:V)(H:Hp)(n:Nat):Prop:=
 match x with
 | .str y=>y.length<=sizeLine/\n=y.length
 | .Zw y=>y.size<=sizeLine/\n=y.size
 | .ref p=>(∃xs,qK K H p xs/\n=xs.length)\/∃xs,vW K H p xs/\n=xs.length
 |_=>False
theorem jP:jO X (.builtin "len") (λxs H Q=>∃x n,xs=[x]/\ZP X.K x H n/\Q (.int n) H):=by
 intro pins s σ H xs us Q I r h
 obtain⟨x,n,rfl,e,q⟩:=h
 obtain⟨u,rfl,rx⟩:=vals1 r
 have hl:=vG
 have hs:sizeLine=16777216:=sizeLine_eq
 cases x with
 |str y=>
  obtain⟨t,rfl⟩:=rx
  obtain⟨hy,e'⟩:y.length<=sizeLine/\n=y.length:=e
  subst e'
  exact len_str (by omega) ⟨.int _,H,I.tok _,⟨_,rfl⟩,q⟩
 |Zw y=>
  obtain⟨t,rfl⟩:=rx
  obtain⟨hy,e'⟩:y.size<=sizeLine/\n=y.size:=e
  subst e'
  exact PySem.W.len_bytes (by omega) ⟨.int _,H,I.tok _,⟨_,rfl⟩,q⟩
 |ref p=>
  cases rx
  have e':(∃xs,qK X.K H p xs/\n=xs.length)\/∃xs,vW X.K H p xs/\n=xs.length:=e
  rcases e' with⟨xs,hx,e'⟩|⟨xs,hx,e'⟩
  ·subst e'
   obtain⟨its,r',pl,hz⟩:=I.list hx
   have hlen:=r'.length
   exact Calls.call_len_list pl.isList (by simp only[List.size_toArray];omega) ⟨.int xs.length,H,I.tok _,⟨_,by simp only[List.size_toArray];rw[hlen]⟩,q⟩
  ·subst e'
   obtain⟨its,r',pl,hz⟩:=I.tuple hx
   have hlen:=r'.length
   exact len_tuple pl (by simp only[List.size_toArray];omega) ⟨.int xs.length,H,I.tok _,⟨_,by simp only[List.size_toArray];rw[hlen]⟩,q⟩
 |_=>exact(show False from e).elim
end
end L2
namespace L2
open PySem PySem.Spec PyProof.Rows
structure Km (h:Heap)(x dx C:Addr)(mA:Str->Option Value):Prop where
 obj:h.get? x=some (PySem.W.instObj C dx)
 ns:h.Ns1 dx mA
 ne:dx≠x
theorem PX {h:Heap}{dx:Addr}{mA:Str->Option Value}(n:h.Ns1 dx mA):∃od,h.get? dx=some od/\∀name,PySem.W.lookIn name od=some (mA name):=by
 obtain⟨o,es,ep,ho,hd,hk,_,hm⟩:=n
 refine⟨o,ho,λname=>?_⟩
 have e:=hm name
 unfold nsFind findBy at e
 rw[<-Array.find?_toList]at e
 unfold PySem.W.lookIn
 rw[hd]
 dsimp only
 split
 ·rename_i y q
  rw[q]at e
  exact congrArg some e
 ·rename_i q
  rw[q]at e
  have a:es.toList.any (·.refKey)=false:=by
   rw[List.any_eq_false]
   intro y hy
   obtain⟨z,t,hkey⟩:=hk y (Array.mem_toList_iff.mp hy)
   simp[DictEntry.refKey,hkey]
  have a':¬es.toList.any (·.refKey)=true:=by rw[a];exact Bool.false_ne_true
  rw[if_neg a']
  exact congrArg some e
theorem Km.look {h:Heap}{x dx C:Addr}{mA:Str->Option Value}(I:Km h x dx C mA):∃od,PySem.W.InstAt h x (PySem.W.instObj C dx) C (some od)/\∀name,PySem.W.lookIn name od=some (mA name):=
 let⟨od,ho,hl⟩:=PX I.ns
 ⟨od,⟨I.obj,rfl,rfl,ho⟩,hl⟩
section
variable {prog:Program}{w:World}{A:Around}{E:Value->Shared->Prop}{s:Shared}{K:Fg}{x dx C f:Addr}{mA:Str->Option Value}{name:Str}{v:Value}
theorem get_map {expr:Bool}{Q:Value->Shared->Prop}(X:K.In s.heap)(I:Km s.heap x dx C mA)(hg:PySem.W.plainGet K C name=true)(hh:PySem.W.hasDictIn K C=true)
 (ha:PySem.W.findIn K (.ref C) name=some none)(hv:mA name=some v)(hv':PySem.W.handedIn v=true)(h:Q v { s with toks:=s.toks+1 }):
 wpAny (model prog w) A (getAttr (.ref x) name expr) Q E s:=by
 obtain⟨od,J,hl⟩:=I.look
 exact PySem.W.get_value X J (PySem.W.plainGet_of hg).1 (PySem.W.findObj_own hh ha rfl (by rw[hl,hv])) hv' h
theorem Rr {pl:Sem Bool}{Q:Value×List Value->Shared->Prop}(X:K.In s.heap)(I:Km s.heap x dx C mA)(hg:PySem.W.plainGet K C name=true)
 (hf:PySem.W.findIn K (.ref C) name=some (some (.ref f)))(ht:PySem.W.isFn K (.ref f)=true)(hv:mA name=none)(h:Q (.ref f,[.ref x]) s):
 wpAny (model prog w) A (getMethod (.ref x) name pl) Q E s:=by
 obtain⟨od,J,hl⟩:=I.look
 exact PySem.W.method_fn X J (PySem.W.plainGet_of hg).1 (PySem.W.plainGet_of hg).2 hf (beq_iff_eq.mp ht) (by show(PySem.W.lookIn name od).map (·.isSome)=some false;rw[hl,hv];rfl) h
theorem Wi {ns:List Str}{Q:Unit->Shared->Prop}(X:K.In s.heap)(I:Km s.heap x dx C mA)
 (hs:PySem.W.findIn K (.ref C) "__setattr__"=some (some (.builtin "object.__setattr__")))(hp:PySem.W.plainOver K C=true)(ht:PySem.W.takerIn K C name=some none)(hh:PySem.W.hasDictIn K C=true)
 (hw:PySem.Within mA ns)(hsz:ns.length<=sizeLine)
 (h:∀h',Km h' x dx C (λy=>if y=name then some v else mA y)->Heap.SameBut dx s.heap h'->Q () { s with heap:=h',toks:=s.toks+2 }):
 wpAny (model prog w) A (setAttr (.ref x) name v) Q E s:=by
 obtain⟨od,J,hl⟩:=I.look
 refine PySem.W.set_plain X J hs (PySem.W.osa_open (s:={ s with toks:=s.toks+1 }) (r:=none) X J hp ht λb=>?_)
 obtain⟨cd,hc,hd'⟩:=PySem.W.any_some hh
 have hx:s.heap.get? x=some ⟨.ref C,some dx,.plain,#[]⟩:=I.obj
 refine wpAny_bind (wpAny_pure (wpAny_bind (wpAny_bind (wpAny_loadPart hx (wpAny_bind (PySem.W.Looks.here (s:={ s with toks:=s.toks+1 }) (PySem.W.looks_clsIn X hc) ?_))))))
 rw[hd']
 refine wpAny_pure (a:=some dx) (wpAny_bind (wpAny_pure (wpAny_bind ?_)))
 refine wpAny_nsSet1 (s:={ s with toks:=s.toks+1 }) I.ns λh' hn2 hs2=>?_
 obtain⟨oD,esD,epD,hoD,hdD,hcD⟩:=hn2.count (PySem.Within.cons name v hw)
 refine wpAny_bind (wpAny_lookBehind hoD (by rw[hdD];exact pastItsLine_dict (Nat.le_trans hcD (by rw[List.length_cons];omega))) ?_)
 exact wpAny_pure (h _ ⟨(hs2.2 _ (Ne.symm I.ne)).trans I.obj,hn2,I.ne⟩ hs2)
theorem RN {R:Result->Shared->Prop}{vs:List Value}{kw:List (Str×Value)}(X:K.In s.heap)(hm:PySem.W.makesIn K C=true)
 (hi:PySem.W.findIn K (.ref C) "__init__"=some (some (.ref f)))(hf:PySem.W.typeIn K (.ref f)=some (.type "function"))
 (h:codeAny (model prog w) (A.under (.builtin "type.__call__" ⟨.ref C::vs,kw⟩)) (.call (.ref f) ⟨.ref (s.heap.objs.size+1)::vs,kw⟩) (PySem.W.InitBack (s.heap.objs.size+1) R)
  { s with heap:=(s.heap.push PySem.W.emptyDict).push (PySem.W.instObj C s.heap.objs.size) }):
 codeAny (model prog w) A (.call (.ref C) ⟨vs,kw⟩) R s:=by
 obtain⟨hh,g,d,t,os⟩:=s
 exact PySem.W.make_core (PySem.W.makes_of X hm) (PySem.W.looks_findIn X hi) (λself=>PySem.W.bind_fn X self hf) (.inl rfl) h
end
def rC (f:Str)(v:V):List (Str×V)->List (Str×V)
 |[]=>[(f,v)]
 |(g,x)::r=>if g=f then(g,v)::r else(g,x)::rC f v r
theorem zG (f g:Str)(v:V):∀fs:List (Str×V),(rC f v fs).lookup g=if g=f then some v else fs.lookup g
 |[]=>by
  show List.lookup g [(f,v)]=_
  by_cases h:g=f
  ·have hb:(g==f)=true:=beq_iff_eq.mpr h
   simp only[List.lookup,hb,if_pos h]
  ·have hb:(g==f)=false:=beq_eq_false_iff_ne.mpr h
   simp only[List.lookup,hb,if_neg h]
 |(k,x)::r=>by
  have ih:=zG f g v r
  rw[show rC f v ((k,x)::r)=(if k=f then(k,v)::r else(k,x)::rC f v r) from rfl]
  by_cases hk:k=f
  ·rw[if_pos hk]
   by_cases h:g=k
   ·have hb:(g==k)=true:=beq_iff_eq.mpr h
    simp only[List.lookup,hb,if_pos (h.trans hk)]
   ·have hb:(g==k)=false:=beq_eq_false_iff_ne.mpr h
    simp only[List.lookup,hb,if_neg (λe:g=f=>h (e.trans hk.symm))]
  ·rw[if_neg hk]
   by_cases h:g=k
   ·have hb:(g==k)=true:=beq_iff_eq.mpr h
    simp only[List.lookup,hb,if_neg (λe:g=f=>hk (h.symm.trans e))]
   ·have hb:(g==k)=false:=beq_eq_false_iff_ne.mpr h
    simp only[List.lookup,hb]
    exact ih
theorem yW (f:Str)(v:V):∀fs:List (Str×V),f∈(rC f v fs).map (·.1)/\∀g,g∈fs.map (·.1)->g∈(rC f v fs).map (·.1)
 |[]=>⟨by simp[rC],λg h=>by simp at h⟩
 |(k,x)::r=>by
  obtain⟨i1,i2⟩:=yW f v r
  rw[show rC f v ((k,x)::r)=(if k=f then(k,v)::r else(k,x)::rC f v r) from rfl]
  by_cases hk:k=f
  ·rw[if_pos hk]
   subst hk
   exact⟨by simp,λg h=>by simpa using h⟩
  ·rw[if_neg hk]
   refine⟨?_,λg h=>?_⟩
   ·rw[List.map_cons]
    exact List.mem_cons_of_mem _ i1
   ·rw[List.map_cons]at h ⊢
    rcases List.mem_cons.mp h with e|e
    ·exact List.mem_cons.mpr (.inl e)
    ·exact List.mem_cons_of_mem _ (i2 g e)
theorem zE (f:Str)(v:V):∀fs:List (Str×V),(rC f v fs).length<=fs.length+1
 |[]=>by simp[rC]
 |(k,x)::r=>by
  have ih:=zE f v r
  rw[show rC f v ((k,x)::r)=(if k=f then(k,v)::r else(k,x)::rC f v r) from rfl]
  by_cases hk:k=f
  ·rw[if_pos hk,List.length_cons,List.length_cons];omega
  ·rw[if_neg hk,List.length_cons,List.length_cons];omega
theorem uP.some_of {v:V}{o:Option Value}(r:uP (some v) o):∃u,o=some u/\RelV v u:=by
 cases o with
 |none=>exact(show False from r).elim
 |some u=>exact⟨u,rfl,r⟩
theorem uP.none_of {o:Option Value}(r:uP none o):o=none:=by
 cases o with
 |none=>rfl
 |some u=>exact(show False from r).elim
theorem Px {v:V}{u:Value}(r:RelV v u):PySem.W.handedIn u=true:=by
 cases v with
 |non=>cases(show u=Value.none from r);rfl
 |bl b=>cases(show u=Value.bool b from r);rfl
 |int i=>obtain⟨t,e⟩:=(show ∃t,u=Value.int i t from r);cases e;rfl
 |str x=>obtain⟨t,e⟩:=(show ∃t,u=Value.str x t from r);cases e;rfl
 |Zw b=>obtain⟨t,e⟩:=(show ∃t,u=Value.bytes b t from r);cases e;rfl
 |flt b=>obtain⟨t,e⟩:=(show ∃t,u=Value.float b t from r);cases e;rfl
 |ref a=>cases(show u=Value.ref a from r);rfl
 |ty n=>cases(show u=Value.type n from r);rfl
section
variable {P:Program}{w:World}{H H':Hp}{h h':Heap}{a C dx:Addr}{fs fs':List (Str×V)}
theorem Ax (hok:uU P w H h)(e:H a=some (.ins C dx fs)):∃mA,Km h a dx C mA/\(∀f,uP (fs.lookup f) (mA f))/\PySem.Within mA (fs.map (·.1))/\fs.length<=1000/\H dx=some (.own a):=by
 obtain⟨d,z,ne,ob,mA,n,r,q⟩:=(show fW P w H h a (.ins C dx fs) from hok a _ e)
 exact⟨mA,⟨ob,n,ne⟩,r,q,z,d⟩
end
structure Ew (K:Fg)(C:Addr):Prop where
 pg:PySem.W.plainGet K C Str.empty=true
 hd:PySem.W.hasDictIn K C=true
 po:PySem.W.plainOver K C=true
 sa:PySem.W.findIn K (.ref C) "__setattr__"=some (some (.builtin "object.__setattr__"))
theorem Ew.get {K:Fg}{C:Addr}(c:Ew K C)(f:Str):PySem.W.plainGet K C f=true:=c.pg
def gK (K:Fg)(C:Addr)(f:Str):Prop:=PySem.W.findIn K (.ref C) f=some none
theorem gK.taker {K:Fg}{C:Addr}{f:Str}(n:gK K C f):PySem.W.takerIn K C f=some none:=by
 unfold PySem.W.takerIn
 rw[show PySem.W.findIn K (.ref C) f=some none from n]
 rfl
structure Meth (K:Fg)(C:Addr)(m:Str)(f:Addr):Prop where
 at_:PySem.W.findIn K (.ref C) m=some (some (.ref f))
 fn:PySem.W.isFn K (.ref f)=true
 kp:PySem.W.keepIn K (.ref f)=true
section
variable {X:Cx}{pins:List (Addr×Obj)}{σ:St}{H:Hp}{s:Shared}{a C dx:Addr}{fs:List (Str×V)}{f:Str}{v:V}{A:Around}{E:Value->Shared->Prop}
theorem KQ {b:Bool}{Q:Value->Shared->Prop}(I:Inv X pins σ H s)(e:H a=some (.ins C dx fs))(c:Ew X.K C)(n:gK X.K C f)(l:fs.lookup f=some v)
 (h:∀u s',Inv X pins σ H s'->RelV v u->Q u s'):wpAny (model X.prog X.w) A (getAttr (.ref a) f b) Q E s:=by
 obtain⟨mA,O,r,_,_,_⟩:=Ax I.hok e
 obtain⟨u,hu,ru⟩:=uP.some_of (v:=v) (o:=mA f) (by rw[<-l];exact r f)
 exact get_map I.yS O (c.get f) c.hd n hu (Px ru) (h u _ (I.tok _) ru)
theorem KR {m:Str}{g:Addr}{pl:Sem Bool}{Q:Value×List Value->Shared->Prop}(I:Inv X pins σ H s)(e:H a=some (.ins C dx fs))(c:Ew X.K C)(k:Meth X.K C m g)(l:fs.lookup m=none)
 (h:Q (.ref g,[.ref a]) s):wpAny (model X.prog X.w) A (getMethod (.ref a) m pl) Q E s:=by
 obtain⟨mA,O,r,_,_,_⟩:=Ax I.hok e
 have hn:mA m=none:=uP.none_of (by rw[<-l];exact r m)
 exact Rr I.yS O (c.get m) k.at_ k.fn hn h
theorem M6 {y:V}{u:Value}{Q:Unit->Shared->Prop}(I:Inv X pins σ H s)(e:H a=some (.ins C dx fs))(c:Ew X.K C)(n:gK X.K C f)(hl:fs.length<1000)(ry:RelV y u)
 (h:∀s',Inv X pins σ (upd H a (.ins C dx (rC f y fs))) s'->Q () s'):wpAny (model X.prog X.w) A (setAttr (.ref a) f u) Q E s:=by
 obtain⟨mA,O,r,wi,_,ho⟩:=Ax I.hok e
 have hz:(fs.map (·.1)).length<=sizeLine:=by rw[List.length_map,sizeLine_eq];omega
 refine Wi I.yS O c.sa c.po n.taker c.hd wi hz λh' O' sb=>h _ ?_
 have hd:∃o,h'.get? dx=some o:=let⟨o,_,_,e',_⟩:=O'.ns;⟨o,e'⟩
 refine I.write (x:=a) (e:=dx) (by rw[e];exact True.intro) (.inr ho) (λb q hb z=>(sb.2 b hb).trans z) hd ?_
 refine⟨by rw[bY O.ne];exact ho,?_,O.ne,O'.obj,_,O'.ns,λg=>?_,λg hg=>?_⟩
 ·have:=zE f y fs;omega
 ·show uP ((rC f y fs).lookup g) (if g=f then some u else mA g)
  rw[zG]
  by_cases q:g=f
  ·rw[if_pos q,if_pos q];exact ry
  ·rw[if_neg q,if_neg q];exact r g
 ·by_cases q:g=f
  ·rw[q];exact(yW f y fs).1
  ·refine(yW f y fs).2 g (wi g λz=>hg ?_)
   show(if g=f then some u else mA g)=none
   rw[if_neg q];exact z
theorem Inv.made (I:Inv X pins σ H s):Inv X pins σ (upd (upd H s.heap.objs.size (.own (s.heap.objs.size+1))) (s.heap.objs.size+1) (.ins C s.heap.objs.size []))
 { s with heap:=(s.heap.push PySem.W.emptyDict).push (PySem.W.instObj C s.heap.objs.size) }:=by
 have e1:(s.heap.push PySem.W.emptyDict).get? s.heap.objs.size=some PySem.W.emptyDict:=Heap.get?_push_size s.heap rfl
 have e2:((s.heap.push PySem.W.emptyDict).push (PySem.W.instObj C s.heap.objs.size)).get? (s.heap.objs.size+1)=some (PySem.W.instObj C s.heap.objs.size):=by
  have:=Heap.get?_push_size (s.heap.push PySem.W.emptyDict) (o:=PySem.W.instObj C s.heap.objs.size) rfl
  rwa[Heap.size_push]at this
 have e3:(s.heap.push PySem.W.emptyDict).Ns s.heap.objs.size (λ_=>none):=⟨PySem.W.emptyDict,#[],_,e1,rfl,(λe he=>absurd he (by simp)),λ_=>rfl⟩
 have I1:=I.laid (a:=s.heap.objs.size) (o:= .own (s.heap.objs.size+1)) (h':=s.heap.push PySem.W.emptyDict) (t':=s.toks) (λb u q=>Heap.get?_push_of_some _ q) (Nat.le_refl _) ⟨_,e1⟩
 refine I1.laid (a:=s.heap.objs.size+1) (o:= .ins C s.heap.objs.size []) (t':=s.toks) (λb u q=>Heap.get?_push_of_some _ q) (Nat.le_of_eq (Heap.size_push _ _)) ?_
 have ne:s.heap.objs.size≠s.heap.objs.size+1:=Nat.ne_of_lt (Nat.lt_succ_self _)
 refine⟨by rw[bY ne,cH],Nat.zero_le _,ne,e2,λ_=>none,(Heap.Ns1.of_empty e3).at λo q=>Heap.get?_push_of_some _ q,λ_=>True.intro,λy hy=>absurd rfl hy⟩
theorem Uy {prog:Program}{w:World}{env:Env}{e:Expr}{f:Str}{pos:Pos}{s:Shared}{Q:Value->Shared->Prop}(hb:attributeBase e f env (eval e env)=eval e env)
 (h:wpAny (model prog w) A (eval e env) (λo s₁=>wpAny (model prog w) A (getAttr o f true) Q E s₁) E s):wpAny (model prog w) A (eval (.Attribute e f pos) env) Q E s:=
 Attribute_any_ h (by rw[arm_eval_Attribute,hb])
end
def a1U (K:Fg)(ta:TE)(f:Str):TE:=λσ H Q=>ta σ H λx H1=>∃a C dx fs v,x= .ref a/\H1 a=some (.ins C dx fs)/\Ew K C/\gK K C f/\fs.lookup f=some v/\Q v H1
def a1P (K:Fg)(ta tv:TE)(f:Str):TS:=λD σ H=>tv σ H λy H1=>ta σ H1 λx H2=>∃a C dx fs,x= .ref a/\H2 a=some (.ins C dx fs)/\Ew K C/\gK K C f/\fs.length<1000/\
 D.nx σ (upd H2 a (.ins C dx (rC f y fs)))
section
variable {X:Cx}{o e value:Expr}{f:Str}{pos pos' tpos:Pos}{ta tv:TE}
theorem YD (he:PE X e ta)(hb:attributeBase e f X.env (eval e X.env)=eval e X.env):PE X (.Attribute e f pos) (a1U X.K ta f):=by
 intro pins s σ H Q I h
 refine Uy hb (iD (he pins s σ H _ I h) λu s1 ⟨x,H1,I1,rx,a,C,dx,fs,v,ex,ea,c,n,l,q⟩=>?_)
 subst ex
 obtain rfl:u=Value.ref a:=rx
 exact KQ I1 ea c n l λu' s2 I2 ru=>⟨v,H1,I2,ru,q⟩
theorem YW (ha:PE X o ta)(hv:PE X value tv)(hs:swapsWith value (some (.Attribute o f pos')) pos.line X.env=pure false):PS X (.Assign [.Attribute o f pos'] value pos) (a1P X.K ta tv f):=by
 intro pins s σ H D I h
 refine plainObj_wpAny_Assign_Attribute (iD (hv pins s σ H _ I h) λu s1 ⟨y,H1,I1,ry,q⟩=>iD (ha pins s1 σ H1 _ I1 q) λov s2 ⟨x,H2,I2,rx,a,C,dx,fs,ex,ea,c,n,l,q2⟩=>?_) hs
 subst ex
 obtain rfl:ov=Value.ref a:=rx
 exact M6 I2 ea c n l ry λs3 I3=>⟨σ,_,I3,q2⟩
end
section
variable {X:Cx}{pins:List (Addr×Obj)}{σ:St}{H:Hp}{s:Shared}{A:Around}{E:Value->Shared->Prop}{Q:Value->Shared->Prop}{c:Value}{b:Bool}
inductive zV (K:Fg)(H:Hp):V->Value->Prop where
 |non:zV K H .non (.type "NoneType")
 |bl (x:Bool):zV K H (.bl x) (.type "bool")
 |int (i:Int):zV K H (.int i) (.type "int")
 |str (x:Str):zV K H (.str x) (.type "str")
 |flt (x:UInt64):zV K H (.flt x) (.type "float")
 |lst {a:Addr}{xs:List V} (e:H a=some (.lst xs)):zV K H (.ref a) (.type "list")
 |Av {a:Addr}{o:Obj}{xs:List V} (e:H a=some (.Av o (.lst xs))):zV K H (.ref a) (.type "list")
 |tup {a:Addr}{xs:List V} (e:H a=some (.tup xs)):zV K H (.ref a) (.type "tuple")
 |dK {a:Addr}{kvs:List (Key×V)} (e:H a=some (.dK kvs)):zV K H (.ref a) (.type "dict")
 |dT {a:Addr}{kvs:List (List Key×V)} (e:H a=some (.dT kvs)):zV K H (.ref a) (.type "dict")
 |ins {a C dx:Addr}{fs:List (Str×V)} (e:H a=some (.ins C dx fs)) (cl:Ew K C) (ha:PySem.W.findIn K (.ref C) "__class__"=some (some (.builtin "object.__class__")))
  (hn:PySem.W.specialIn K (.builtin "object.__class__") "__get__"=some (some (.builtin "getset_descriptor.__get__"))) (htk:PySem.W.takesIn K (.builtin "object.__class__")=some true)
  (hm:PySem.W.mroIn K C (.type "object")=some true):zV K H (.ref a) (.ref C)
theorem nY {x:V}{u t:Value}(I:Inv X pins σ H s)(rx:RelV x u)(ty:zV X.K H x t)(e:PySem.W.kitOne X.K t c=some b)(h:∀tk,Q (.bool b) { s with toks:=tk }):
 wpAny (model X.prog X.w) A (call (.builtin "isinstance") [u,c]) Q E s:=by
 cases ty with
 |non=>cases(show u=Value.none from rx);exact PySem.W.kia_one PySem.W.kitx_none I.yS True.intro e (λz=>nomatch z) h
 |bl y=>cases(show u=Value.bool y from rx);exact PySem.W.kia_one PySem.W.kitx_bool I.yS True.intro e (λz=>nomatch z) h
 |int i=>obtain⟨t,q⟩:=(show ∃t,u=Value.int i t from rx);cases q;exact PySem.W.kia_one PySem.W.kitx_int I.yS True.intro e (λz=>nomatch z) h
 |str y=>obtain⟨t,q⟩:=(show ∃t,u=Value.str y t from rx);cases q;exact PySem.W.kia_one PySem.W.kitx_str I.yS True.intro e (λz=>nomatch z) h
 |flt y=>obtain⟨t,q⟩:=(show ∃t,u=Value.float y t from rx);cases q;exact PySem.W.kia_one PySem.W.kitx_float I.yS True.intro e (λz=>nomatch z) h
 |@lst a xs ea=>
  cases(show u=Value.ref a from rx)
  obtain⟨_,_,n,_,h1⟩:=(show fW X.prog X.w H s.heap a (.lst xs) from I.hok a _ ea)
  exact PySem.W.kia_one PySem.W.kitx_list I.yS ⟨_,h1,rfl⟩ e (λz=>nomatch z) h
 |@Av a ob xs ea=>
  cases(show u=Value.ref a from rx)
  obtain⟨_,_,_,n,_,h1⟩:=(show fW X.prog X.w H s.heap a (.Av ob (.lst xs)) from I.hok a _ ea)
  exact PySem.W.kia_one PySem.W.kitx_list I.yS ⟨_,h1,rfl⟩ e (λz=>nomatch z) h
 |@tup a xs ea=>
  cases(show u=Value.ref a from rx)
  obtain⟨_,_,_,p⟩:=(show fW X.prog X.w H s.heap a (.tup xs) from I.hok a _ ea)
  obtain⟨o,h1,h2,_⟩:=p
  exact PySem.W.kia_one PySem.W.kitx_tuple I.yS ⟨o,h1,h2⟩ e (λz=>nomatch z) h
 |@dK a kvs ea=>
  cases(show u=Value.ref a from rx)
  obtain⟨_,_,vs,_,p⟩:=(show fW X.prog X.w H s.heap a (.dK kvs) from I.hok a _ ea)
  obtain⟨o,es,ep,h1,h2,_⟩:=p
  exact PySem.W.kia_one PySem.W.kitx_dict I.yS ⟨o,h1,h2.1⟩ e (λz=>nomatch z) h
 |@dT a kvs ea=>
  cases(show u=Value.ref a from rx)
  obtain⟨_,_,xs,_,o,es,ep,h1,h2,_⟩:=(show fW X.prog X.w H s.heap a (.dT kvs) from I.hok a _ ea)
  exact PySem.W.kia_one PySem.W.kitx_dict I.yS ⟨o,h1,h2.1⟩ e (λz=>nomatch z) h
 |@ins a C dx fs ea cl ha hn htk hm=>
  cases(show u=Value.ref a from rx)
  obtain⟨mA,O,_⟩:=Ax I.hok ea
  obtain⟨od,J,_⟩:=O.look
  exact PySem.W.kia_one (PySem.W.kitx_own (cl.get _) cl.hd ha hn htk hm) I.yS J e (λz=>nomatch z) h
end
end L2
namespace L2
open PySem PySem.Spec PyProof.Rows
structure gY (k:Nat)(A:Around):Prop where
 hd:A.handled=none
 dp:A.depth+3*k+5<recursionLimit
 un:A.units+16*k+200<cLine
theorem gY.mono {j k:Nat}{A:Around}(r:gY k A)(h:j<=k):gY j A:=⟨r.hd,by have:=r.dp;omega,by have:=r.un;omega⟩
theorem gY.deeper {k:Nat}{A:Around}(r:gY (k+1) A)(env:Env):gY k (A.deeper env):=
 ⟨r.hd,by have:=r.dp;show A.depth+1+3*k+5<_;omega,by have:=r.un;show A.units+3+16*k+200<_;omega⟩
theorem Lf {A:Around}{C:Addr}{us:List Value}{kw:List (Str×Value)}:(A.under (.builtin "type.__call__" ⟨.ref C::us,kw⟩)).depth=A.depth+1:=by
 first|rfl|simp[Around.under,Code.weight,Code.isCreation,Code.isGuard,Code.isCaller,Code.frames,Code.isFrame,guardIds]
theorem Lg {A:Around}{C:Addr}{us:List Value}{kw:List (Str×Value)}:(A.under (.builtin "type.__call__" ⟨.ref C::us,kw⟩)).units=A.units+1:=by
 first|rfl|simp[Around.under,Code.cUnits,Code.frames,Code.isFrame]
theorem gY.make {k:Nat}{A:Around}(r:gY (k+1) A)(C:Addr)(us:List Value)(kw:List (Str×Value)):gY k (A.under (.builtin "type.__call__" ⟨.ref C::us,kw⟩)):=
 ⟨r.hd,by have:=r.dp;rw[Lf];omega,by have:=r.un;rw[Lg];omega⟩
theorem gY.depth {k:Nat}{A:Around}(r:gY k A):A.depth<recursionLimit:=by have:=r.dp;omega
def Zm:TA:=λ_ H Q=>Q [] H
def Xm (ta:TE)(tr:TA):TA:=λσ H Q=>ta σ H λx H1=>tr σ H1 λxs H2=>Q (x::xs) H2
section
variable {X:Cx}{e:Expr}{es:List Expr}{te:TE}{t:TA}{pos:Pos}
theorem zm:PA X [] Zm:=λ_ _ _ _ H Q I h=>Calls.spliced_nil ⟨[],H,I,.nil,h⟩
theorem pF (ha:PE X e te)(hr:PA X es t)(hs:starEach (e::es) X.env=(false,eval e X.env)::starEach es X.env:=by rfl):PA X (e::es) (Xm te t):=by
 intro pos pins s σ H Q I h
 rw[hs]
 show wpAny _ _ (spliced ((false,eval e X.env)::backTo pos (starEach es X.env))) _ _ s
 refine Calls.spliced_cons (iD (ha pins s σ H _ I h) λu s1 ⟨x,H1,I1,r1,q1⟩=>?_)
 exact iD (hr pos pins s1 σ H1 _ I1 q1) λus s2 ⟨xs,H2,I2,r2,q2⟩=>⟨x::xs,H2,I2,.cons r1 r2,q2⟩
def a2c (t:TA):TE:=λσ H Q=>t σ H λxs H1=>xs.length<=sizeLine/\∀p,H1 p=none->Q (.ref p) (upd H1 p (.tup xs))
def a1Y (t:TA):TE:=λσ H Q=>t σ H λxs H1=>xs.length<=sizeLine/\∀p,H1 p=none->Q (.ref p) (upd H1 p (.lst xs))
theorem YL {x1}(h:PA X es t):PE X (.Tuple es x1 pos) (a2c t):=by
 intro pins s σ H Q I hq
 refine wpAny_Tuple_spliced (iD (h pos pins s σ H _ I hq) λus s1 ⟨xs,H1,I1,r,z,q⟩=>⟨by rw[<-r.length];exact z,?_⟩)
 have hf:H1 s1.heap.objs.size=none:=I1.hok.fresh (Nat.le_refl _)
 refine⟨.ref s1.heap.objs.size,upd H1 s1.heap.objs.size (.tup xs),I1.laid (t':=s1.toks) (λb u e=>Heap.get?_push_of_some _ e) (Nat.le_refl _) ?_,rfl,q _ hf⟩
 exact⟨z,us,r,⟨_,Heap.get?_push_size _ rfl,rfl,⟨_,rfl⟩,rfl⟩⟩
theorem Sw (h:PA X es t):PE X (.List es pos) (a1Y t):=by
 intro pins s σ H Q I hq
 refine wpAny_List_spliced (iD (h pos pins s σ H _ I hq) λus s1 ⟨xs,H1,I1,r,z,q⟩=>⟨by rw[<-r.length];exact z,?_⟩)
 have hf:H1 s1.heap.objs.size=none:=I1.hok.fresh (Nat.le_refl _)
 refine⟨.ref s1.heap.objs.size,upd H1 s1.heap.objs.size (.lst xs),I1.laid (t':=s1.toks) (λb u e=>Heap.get?_push_of_some _ e) (Nat.le_refl _) ?_,rfl,q _ hf⟩
 exact⟨z,us,0,r,Heap.get?_push_size _ rfl⟩
end
abbrev Sp:=List V->Hp->VK->XK->Prop
abbrev Oi:=List Env->Hp->Shared->XK->Value->Shared->Prop
structure Kg (P:Program)(w:World)(K:Fg)(mg:Str->Option Value)(base:Heap)(A:Around)(outer:List Env)(s:Shared)(H:Hp):Prop where
 frames:A.frames=some outer
 mod:Mod K mg base
 bs:∀b o,base.get? b=some o->s.heap.get? b=some o/\H b=none
 Uz:base.objs.size<=s.heap.objs.size
 zX:s.heap.FunFrames base outer
 Y5:∀b∈frs outer,H b=none
 hok:uU P w H s.heap
 bare:AllBare s.gens
def CE (outer:List Env)(P:Program)(w:World)(H:Hp)(s:Shared)(Q:VK)(u:Value)(s':Shared):Prop:=
 ∃v H',s'.os=s.os/\AllBare s'.gens/\Un (frs outer) [] H H' s.heap s'.heap/\uU P w H' s'.heap/\RelV v u/\Q v H'
def CR (CX:Oi)(outer:List Env)(P:Program)(w:World)(H:Hp)(s:Shared)(Q:VK)(E:XK)(r:Result)(s':Shared):Prop:=
 match r with
 | .ok (.ret u)=>CE outer P w H s Q u s'
 | .ok _=>False
 | .error e=>CX outer H s E e s'
structure cU (P:Program)(w:World)(K:Fg)(mg:Str->Option Value)(base:Heap)(CX:Oi)(k:Nat)(f:Addr)(fd:FuncData)(ps:List Str)(sp:Sp):Prop where
 len:∀vs H Q E,sp vs H Q E->vs.length=ps.length
 run:∀(A:Around) (outer:List Env) (s:Shared) (H:Hp) (args:Args) (us:List Value) (vs:List V) (Q:VK) (E:XK),gY k A->Kg P w K mg base A outer s H->BindsTo s fd args (ps.zip us)->Vals vs us->sp vs H Q E->
  codeAny (model P w) A (.call (.ref f) args) (CR CX outer P w H s Q E) s
theorem cU.imp {P:Program}{w:World}{K:Fg}{mg:Str->Option Value}{base:Heap}{CX:Oi}{k:Nat}{f:Addr}{fd:FuncData}{ps:List Str}{sp sp':Sp}(F:cU P w K mg base CX k f fd ps sp)
 (h:∀vs H Q E,sp' vs H Q E->sp vs H Q E):cU P w K mg base CX k f fd ps sp':=
 ⟨λvs H Q E q=>F.len vs H Q E (h _ _ _ _ q),λA outer s H args us vs Q E hr he hb hv hs=>F.run A outer s H args us vs Q E hr he hb hv (h _ _ _ _ hs)⟩
theorem Kg.make {P:Program}{w:World}{K:Fg}{mg:Str->Option Value}{base:Heap}{A:Around}{outer:List Env}{s:Shared}{H:Hp}(e:Kg P w K mg base A outer s H)(C:Addr)(us:List Value)(kw:List (Str×Value)):
 Kg P w K mg base (A.under (.builtin "type.__call__" ⟨.ref C::us,kw⟩)) outer s H:=⟨by first|exact e.frames|(simpa[Around.under,Code.envs,Code.isFrame,pushEnvs]using e.frames),e.mod,e.bs,e.Uz,e.zX,e.Y5,e.hok,e.bare⟩
section
variable {X:Cx}{pins:List (Addr×Obj)}{σ:St}{H:Hp}{s s':Shared}
theorem Inv.env0 (I:Inv X pins σ H s):Kg X.prog X.w X.K X.mg X.base X.A X.stack s H:=
 ⟨I.ok.frames,I.ok.mod,I.bs,Nat.le_trans I.ok.Uz I.sz,I.stack,I.O1,I.hok,I.bare⟩
theorem Inv.after {Q:VK}{u:Value}(I:Inv X pins σ H s)(h:CE X.stack X.prog X.w H s Q u s'):EP X pins σ Q u s':=by
 obtain⟨v,H',os,bare,un,hok,r,q⟩:=h
 obtain⟨hh,g,d,t,os'⟩:=s'
 obtain rfl:os'=s.os:=os
 exact⟨v,H',I.call (h':=hh) (g':=g) (d':=d) (t':=t) (ch:=[]) un hok bare (λb z=>absurd z (by simp)),r,q⟩
end
def a0W (sp:Sp)(yG:List V)(E:XK)(t:TA):TE:=λσ H Q=>t σ H λvs H1=>sp (vs++yG) H1 Q E
def a1a (C:Addr)(m:Str)(sp:Sp)(yG:List V)(E:XK)(ta:TE)(t:TA):TE:=λσ H Q=>ta σ H λx H1=>∃a dx fs,x= .ref a/\H1 a=some (.ins C dx fs)/\fs.lookup m=none/\
 t σ H1 λvs H2=>sp (x::(vs++yG)) H2 Q E
def a0' (C:Addr)(sp:Sp)(yG:List V)(E:XK)(t:TA):TE:=λσ H Q=>t σ H λvs H1=>∀x dx,H1 x=none->H1 dx=none->dx≠x->
 sp (.ref x::(vs++yG)) (upd (upd H1 dx (.own x)) x (.ins C dx [])) (λv H2=>v= .non/\Q (.ref x) H2) E
def Binds (K:Fg)(fd:FuncData)(ps:List Str)(ds:List Value):Prop:=
 ∀(s:Shared) (us:List Value),K.In s.heap->(us++ds).length=ps.length->BindsTo s fd ⟨us,[]⟩ (ps.zip (us++ds))
theorem Binds.all {K:Fg}{fd:FuncData}{ps:List Str}(h:∀us:List Value,us.length=ps.length->bindArgs fd ⟨us,[]⟩=pure (ps.zip us)):Binds K fd ps []:=λs us _ hl=>by
 rw[List.append_nil]at hl ⊢
 exact .of_eq (h us hl)
def Passes (CX:Oi)(X:Cx)(E:XK):Prop:=∀(pins:List (Addr×Obj)) (σ:St) (H:Hp) (s:Shared) (e:Value) (s':Shared),Inv X pins σ H s->CX X.stack H s E e s'->X.xe e s'
section
variable {X:Cx}{CX:Oi}{k:Nat}{f C:Addr}{fd:FuncData}{ps:List Str}{sp:Sp}{yG:List V}{ds:List Value}{E:XK}{x m:Str}{p pos apos:Pos}{e o:Expr}{es:List Expr}{ta:TE}{t:TA}
theorem Tg {pins:List (Addr×Obj)}{σ:St}{H:Hp}{s:Shared}{Q:VK}{us:List Value}{vs:List V}(F:cU X.prog X.w X.K X.mg X.base CX k f fd ps sp)(hr:gY k X.A)(hb:Binds X.K fd ps ds)(hd:Vals yG ds)(hx:Passes CX X E)
 (I:Inv X pins σ H s)(r:Vals vs us)(h:sp (vs++yG) H Q E):wpAny (model X.prog X.w) X.A (call (.ref f) us) (EP X pins σ Q) X.xe s:=by
 have r2:Vals (vs++yG) (us++ds):=r.append hd
 have hl:(us++ds).length=ps.length:=by rw[<-r2.length];exact F.len _ _ _ _ h
 refine wpAny_call (codeAny_mono (F.run X.A X.stack s H ⟨us,[]⟩ (us++ds) (vs++yG) Q E hr I.env0 (hb s us I.yS hl) r2 h) λr s' hq=>?_)
 cases r with
 |error e=>exact hx pins σ H s e s' I hq
 |ok fl=>
  cases fl with
  |ret u=>exact I.after hq
  |next=>exact False.elim hq
  |brk=>exact False.elim hq
  |cont=>exact False.elim hq
theorem HH (F:cU X.prog X.w X.K X.mg X.base CX k f fd ps sp)(hr:gY k X.A)(hg:Gl X x)(hm:X.mg x=some (.ref f))(hk:PySem.W.keepIn X.K (.ref f)=true)(hb:Binds X.K fd ps ds)(hd:Vals yG ds)(hx:Passes CX X E)
 (ha:PA X (e::es) t)(hdb:(x==("__debug__":Str))=false:=by decide)(he:starEach (e::es) X.env=(false,eval e X.env)::starEach es X.env:=by rfl)(hpl:(backTo pos (starEach es X.env)).any (·.1)=false:=by rfl):
 PE X (.Call (.Name x p) (e::es) [] pos) (a0W sp yG E t):=by
 intro pins s σ H Q I h
 refine wpAny_Call_Name_kw (Hq I hg hm ?_ hdb)
 refine PySem.W.callWith_K (h₀:=X.base) I.ok.mod.kin hk (iD (ha pos pins s σ H _ I h) λus s1 ⟨vs,H1,I1,r,q⟩=>⟨I1.yS,?_⟩) he hpl
 exact Tg F hr hb hd hx I1 r q
theorem Sx {pl:Sem Bool}(he:PE X o ta)(c:Ew X.K C)(hm:Meth X.K C m f)(F:cU X.prog X.w X.K X.mg X.base CX k f fd ps sp)(hr:gY k X.A)(hb:Binds X.K fd ps ds)(hd:Vals yG ds)(hx:Passes CX X E)
 (ht:eval (.Call (.Attribute o m apos) [] [] pos) X.env=(do
  let ov<-eval o X.env
  standAt apos.atName
  let(f,first)<-holding [ov] (getMethod ov m pl)
  callWith pos f first (backTo pos (starEach [] X.env)) (backToKw pos (keywordEach [] X.env))):=by rfl):
 PE X (.Call (.Attribute o m apos) [] [] pos) (a1a C m sp yG E ta Zm):=by
 intro pins s σ H Q I h
 refine PySem.W.methodCall_KW (pl:=pl) (iD (he pins s σ H _ I h) λu s1 ⟨x,H1,I1,rx,a,dx,fs,ex,ea,l,q⟩=>?_) ht
 subst ex
 obtain rfl:u=Value.ref a:=rx
 refine KR I1 ea c hm l ?_
 exact PySem.W.callWith_K0 (first:=[.ref a]) I1.yS hm.kp (Tg (us:=[.ref a]) (vs:=[.ref a]) F hr hb hd hx I1 (.cons rfl .nil) q)
structure Mk (K:Fg)(C f:Addr):Prop where
 makes:PySem.W.makesIn K C=true
 init:PySem.W.findIn K (.ref C) "__init__"=some (some (.ref f))
 fn:PySem.W.isFn K (.ref f)=true
 kp:PySem.W.keepIn K (.ref C)=true
theorem Ti {pins:List (Addr×Obj)}{σ:St}{H:Hp}{s:Shared}{Q:VK}{us:List Value}{vs:List V}(M:Mk X.K C f)(F:cU X.prog X.w X.K X.mg X.base CX k f fd ps sp)(hr:gY (k+1) X.A)(hb:Binds X.K fd ps ds)(hd:Vals yG ds)
 (hx:Passes CX X E)(I:Inv X pins σ H s)(r:Vals vs us)
 (h:∀x dx,H x=none->H dx=none->dx≠x->sp (.ref x::(vs++yG)) (upd (upd H dx (.own x)) x (.ins C dx [])) (λv H2=>v= .non/\Q (.ref x) H2) E):
 wpAny (model X.prog X.w) X.A (call (.ref C) us) (EP X pins σ Q) X.xe s:=by
 have hq:=h (s.heap.objs.size+1) s.heap.objs.size (I.hok.fresh (Nat.le_succ _)) (I.hok.fresh (Nat.le_refl _)) (Nat.ne_of_lt (Nat.lt_succ_self _))
 have I2:=Inv.made (C:=C) I
 have r2:Vals (V.ref (s.heap.objs.size+1)::(vs++yG)) (Value.ref (s.heap.objs.size+1)::(us++ds)):= .cons rfl (r.append hd)
 have hl:(Value.ref (s.heap.objs.size+1)::us++ds).length=ps.length:=by
  have e:=r2.length
  rw[F.len _ _ _ _ hq]at e
  exact e.symm
 refine wpAny_call (RN (f:=f) I.yS M.makes M.init (beq_iff_eq.mp M.fn) (codeAny_mono (F.run _ X.stack _ _ ⟨Value.ref (s.heap.objs.size+1)::us,[]⟩ (Value.ref (s.heap.objs.size+1)::(us++ds)) _ _ E (hr.make C us [])
  (I2.env0.make C us []) (hb _ (Value.ref (s.heap.objs.size+1)::us) I2.yS hl) r2 hq) λr s' hq'=>?_))
 cases r with
 |error e=>exact hx pins σ _ _ e s' I2 hq'
 |ok fl=>
  cases fl with
  |ret u=>
   obtain⟨v,H',I3,rv,ev,q3⟩:=I2.after hq'
   subst ev
   exact⟨rv,⟨V.ref (s.heap.objs.size+1),H',I3,rfl,q3⟩⟩
  |next=>exact False.elim hq'
  |brk=>exact False.elim hq'
  |cont=>exact False.elim hq'
theorem VR (M:Mk X.K C f)(F:cU X.prog X.w X.K X.mg X.base CX k f fd ps sp)(hr:gY (k+1) X.A)(hg:Gl X x)(hm:X.mg x=some (.ref C))(hb:Binds X.K fd ps ds)(hd:Vals yG ds)(hx:Passes CX X E)
 (ha:PA X (e::es) t)(hdb:(x==("__debug__":Str))=false:=by decide)(he:starEach (e::es) X.env=(false,eval e X.env)::starEach es X.env:=by rfl)(hpl:(backTo pos (starEach es X.env)).any (·.1)=false:=by rfl):
 PE X (.Call (.Name x p) (e::es) [] pos) (a0' C sp yG E t):=by
 intro pins s σ H Q I h
 refine wpAny_Call_Name_kw (Hq I hg hm ?_ hdb)
 refine PySem.W.callWith_K (h₀:=X.base) I.ok.mod.kin M.kp (iD (ha pos pins s σ H _ I h) λus s1 ⟨vs,H1,I1,r,q⟩=>⟨I1.yS,?_⟩) he hpl
 exact Ti M F hr hb hd hx I1 r q
end
section
variable {X:Cx}{CX:Oi}{k:Nat}{f C:Addr}{fd:FuncData}{ps ks:List Str}{sp:Sp}{E:XK}{x m:Str}{p pos apos kpos:Pos}{e o:Expr}{es:List Expr}{kws:List Keyword}{te ta:TE}{t tk:TA}{nm:Option Str}
variable {g:List Value->List Value->List Value}{gV:List V->List V->List V}
end
structure bI (N P:List Str)(sc:Scope):Prop where
 kind:sc.kind= .function
 co:sc.isCoroutine=false
 gen:sc.isGenerator=false
 nd:N.Nodup
 pre:N.take P.length=P
 par:∀x∈P,sc.names.lookup x=some .local\/sc.names.lookup x=some .cell
 Yq:∀y∈sc.names,y.2≠ .free
theorem Fq {kindOf:Str->Option NameKind}{x:Str}:∀{binds:List (Str×Value)}{m:Str->Option Value},(∀v,(x,v)∉binds)->bindL kindOf binds m x=m x
 |[],_,_=>rfl
 |(n,v)::r,m,h=>by
  unfold bindL
  rw[Fq λw hw=>h w (List.mem_cons_of_mem _ hw)]
  split
  ·have:x≠n:=by rintro rfl;exact h v List.mem_cons_self
   simp[this]
  ·rfl
theorem Fj {kindOf:Str->Option NameKind}{x:Str}:∀{binds:List (Str×Value)}{m:Str->Option Value},(∀v,(x,v)∉binds)->bindC kindOf binds m x=m x
 |[],_,_=>rfl
 |(n,v)::r,m,h=>by
  unfold bindC
  rw[Fj λw hw=>h w (List.mem_cons_of_mem _ hw)]
  split
  ·rfl
  ·have:x≠n:=by rintro rfl;exact h v List.mem_cons_self
   simp[this]
theorem Fp {kindOf:Str->Option NameKind}{x:Str}{v:Value}:∀{P:List Str}{vs:List Value}{i:Nat}{m:Str->Option Value},P.Nodup->P[i]?=some x->vs[i]?=some v->kindOf x=some .local->
 bindL kindOf (P.zip vs) m x=some v
 |[],_,_,_,_,h,_,_=>by simp at h
 |_::_,[],_,_,_,_,h,_=>by simp at h
 |p::P,w::vs,0,m,nd,h1,h2,hk=>by
  simp at h1 h2;subst h1;subst h2
  show bindL kindOf ((p,w)::P.zip vs) m p=_
  unfold bindL
  rw[Fq λv hv=>(List.nodup_cons.mp nd).1 (List.of_mem_zip hv).1,if_pos hk]
  simp
 |p::P,w::vs,i+1,m,nd,h1,h2,hk=>by
  show bindL kindOf ((p,w)::P.zip vs) m x=_
  unfold bindL
  exact Fp (i:=i) (List.nodup_cons.mp nd).2 (by simpa using h1) (by simpa using h2) hk
theorem Fd {kindOf:Str->Option NameKind}{x:Str}{v:Value}:∀{P:List Str}{vs:List Value}{i:Nat}{m:Str->Option Value},P.Nodup->P[i]?=some x->vs[i]?=some v->kindOf x≠some .local->
 bindC kindOf (P.zip vs) m x=some v
 |[],_,_,_,_,h,_,_=>by simp at h
 |_::_,[],_,_,_,_,h,_=>by simp at h
 |p::P,w::vs,0,m,nd,h1,h2,hk=>by
  simp at h1 h2;subst h1;subst h2
  show bindC kindOf ((p,w)::P.zip vs) m p=_
  unfold bindC
  rw[Fj λv hv=>(List.nodup_cons.mp nd).1 (List.of_mem_zip hv).1,if_neg hk]
  simp
 |p::P,w::vs,i+1,m,nd,h1,h2,hk=>by
  show bindC kindOf ((p,w)::P.zip vs) m x=_
  unfold bindC
  exact Fd (i:=i) (List.nodup_cons.mp nd).2 (by simpa using h1) (by simpa using h2) hk
def start (N:List Str)(vs:List V):St:=vs.map some++List.replicate (N.length - vs.length) none
def yN (CX:Oi)(P:Program)(w:World)(K:Fg)(mg:Str->Option Value)(base:Heap)(N:List Str)(qual:Str)(scope:Scope)(f:Addr)(cd:Value)(A:Around)(outer:List Env)(s:Shared)(H:Hp)(E:XK):Cx where
 prog:=P
 w:=w
 K:=K
 mg:=mg
 base:=base
 A:=A.deeper (envOfC qual scope s.heap.objs.size f cd)
 N:=N
 s₀:=s
 H₀:=H
 env:=envOfC qual scope s.heap.objs.size f cd
 outer:=outer
 stack:=envOfC qual scope s.heap.objs.size f cd::outer
 ex:=[]
 calm:=true
 fn:=λ_=>true
 pn:=[]
 xe:=λe s'=>wpAny (model P w) (A.deeper (envOfC qual scope s.heap.objs.size f cd)) (leaving (envOfC qual scope s.heap.objs.size f cd) e) (λ_ s''=>CX outer H s E e s'') (λe' s''=>CX outer H s E e' s'') s'
theorem IV {sc:Scope}{n:Nat}{x:Str}(h:sc.names.lookup x=some .cell):∃c,(cellsFrom n sc.names []).lookup x=some c:=by
 have q:=PySem.W.cellsFrom_some sc.names n [] (.inl h)
 exact Option.isSome_iff_exists.mp q
theorem Pz {CX:Oi}{P:Program}{w:World}{K:Fg}{mg:Str->Option Value}{base:Heap}{N ps:List Str}{qual:Str}{scope:Scope}{f:Addr}{cd:Value}{A:Around}{outer:List Env}{s s1:Shared}{H:Hp}{E:XK}{us:List Value}{vs:List V}
 (S:bI N ps scope)(hd:A.handled=none)(e0:Kg P w K mg base A outer s H)(hl:vs.length=ps.length)(r:Vals vs us)
 (x:InCallC s s.heap.objs.size (bindL (envOfC qual scope s.heap.objs.size f cd).kindOf (ps.zip us) λ_=>none) (cellsFrom (s.heap.objs.size+1) scope.names []) (bindC (envOfC qual scope s.heap.objs.size f cd).kindOf (ps.zip us) λ_=>none) s1):
 Inv (yN CX P w K mg base N qual scope f cd A outer s H E) [] (start N vs) H s1:=by
 have hpl:ps.length<=N.length:=by have:=congrArg List.length S.pre;rw[List.length_take]at this;omega
 obtain⟨h1,tk,rfl,hk⟩:=x.done
 have noA:∀b:Addr,b∉(yN CX P w K mg base N qual scope f cd A outer s H E).ex:=λb z=>absurd (show b∈([]:List Addr) from z) (by simp)
 refine⟨⟨e0.mod,S.kind,rfl,rfl,Nat.le_refl _,λy z c h1 h2=>?_,λy hy=>?_,λy c _ h=>?_,λ_=>hd,Around.frames_deeper e0.frames,.inr ⟨rfl,rfl⟩,λb z=>absurd z (noA b),e0.bs,e0.Uz,λb _ _=>noA b,λb z=>absurd z (noA b),e0.zX,e0.Y5⟩,
  rfl,e0.bare,Un.kept hk,⟨_,x.toInCall.ns,λi y v h1 h2 h3=>?_⟩,λy c h=>⟨_,x.cell y c h⟩,e0.hok.fresh (Nat.le_refl _),λy c h=>?_,λp hp=>absurd (show p∈([]:List (Addr×Obj)) from hp) (by simp),e0.hok.kept hk,?_⟩
 ·exact name_of_addr x.apart (PySem.mem_of_lookup h1) (PySem.mem_of_lookup h2)
 ·have hy:scope.names.lookup y=some .cell\/scope.names.lookup y=some .free:=hy
  rcases hy with hy|hy
  ·exact IV hy
  ·exact absurd rfl (S.Yq _ (PySem.mem_of_lookup hy))
 ·exact Nat.le_of_lt (x.above y c (PySem.mem_of_lookup h))
 ·have hi:i<vs.length:=by
   unfold start at h2
   by_cases hi:i<vs.length
   ·exact hi
   ·rw[List.getElem?_append_right (by simpa using hi)]at h2
    rw[List.getElem?_replicate]at h2
    split at h2<;>cases h2
  have ha:vs[i]?=some v:=by
   unfold start at h2
   rw[List.getElem?_append_left (by simpa using hi),List.getElem?_map]at h2
   cases e:vs[i]? with
   |none=>rw[e]at h2;cases h2
   |some a=>rw[e]at h2;cases h2;rfl
  obtain⟨u,hu,rv⟩:=r.get ha
  have hp:ps[i]?=some y:=by
   rw[<-S.pre,List.getElem?_take_of_lt (by omega)];exact h1
  have ndP:ps.Nodup:=by rw[<-S.pre];exact S.nd.sublist (List.take_sublist _ _)
  refine⟨u,rv,?_⟩
  rcases S.par y (List.mem_of_getElem? hp)with k|k
  ·exact .inl ⟨k,Fp ndP hp hu k⟩
  ·obtain⟨c,e⟩:=IV (n:=s.heap.objs.size+1) k
   refine .inr ⟨.inl k,c,e,?_⟩
   have q:=x.cell y c e
   rw[Fd ndP hp hu (by show scope.names.lookup y≠_;rw[k];decide)]at q
   exact q
 ·exact e0.hok.fresh (Nat.le_of_lt (x.above y c (PySem.mem_of_lookup h)))
 ·unfold start
  show _=N.length
  rw[List.length_append,List.length_map,List.length_replicate]
  omega
theorem X3 {CX:Oi}{P:Program}{w:World}{K:Fg}{mg:Str->Option Value}{base:Heap}{k:Nat}{f:Addr}{name qual:Str}{params:Arguments}{body:List Stmt}{scope:Scope}{dV kV doc pm cdv ct oc:Value}{an od:Option Addr}
 {osl:Array (Option Value)}{N ps:List Str}{sp:Sp}(lk:K.lookup f=some ⟨oc,od,.func (PySem.W.fnOf name qual params body scope dV kV doc pm an cdv ct),osl⟩)(hcd:PySem.W.codeIn K cdv qual=true)(S:bI N ps scope)
 (len:∀vs H Q E,sp vs H Q E->vs.length=ps.length)
 (hbody:∀(A:Around) (outer:List Env) (s:Shared) (H:Hp) (vs:List V) (Q:VK) (E:XK),gY k (A.deeper (envOfC qual scope s.heap.objs.size f cdv))->sp vs H Q E->
  ∃t,yF (yN CX P w K mg base N qual scope f cdv A outer s H E) body t/\t { nx:=λ_ H'=>Q .non H',rt:=Q } (start N vs) H):
 cU P w K mg base CX (k+1) f (PySem.W.fnOf name qual params body scope dV kV doc pm an cdv ct) ps sp:=by
 refine⟨len,λA outer s H args us vs Q E hr e0 hb r hsp=>?_⟩
 have hl:=len _ _ _ _ hsp
 have KX:K.In s.heap:=e0.mod.kin.keeps λb o e=>(e0.bs b o e).1
 have lim:s.heap.NoLimit:=e0.mod.nolimit.keeps λb o e=>(e0.bs b o e).1
 have hkind:∀y∈ps.zip us,scope.names.lookup y.1=some .local\/(scope.names.lookup y.1=some .cell/\((cellsFrom (s.heap.objs.size+1) scope.names []).lookup y.1).isSome=true):=λ⟨n,v⟩ hy=>by
  rcases S.par n (List.of_mem_zip hy).1 with q|q
  ·exact .inl q
  ·exact .inr ⟨q,PySem.W.cellsFrom_some _ _ _ (.inl q)⟩
 refine codeAny_call_function hr.depth (KX _ _ lk) rfl S.co S.gen rfl (PySem.W.codeRec_of KX hcd) (hb _ _ _ _ ?_)
 refine wpAny_newFunctionEnv_cells S.kind hkind λenv he s1 x=>?_
 subst he
 refine⟨lim.keeps x.toInCall.keep,codeAny_func ?_⟩
 obtain⟨t,ht,hq⟩:=hbody A outer s H vs Q E (hr.deeper _) hsp
 have I:Inv (yN CX P w K mg base N qual scope f cdv A outer s H E) [] (start N vs) H s1:=Pz S hr.hd e0 hl r x
 refine wpAny_mono (ht [] s1 (start N vs) H _ I hq) (λfl s' hs=>?_) λe s' hs=>hs
 have fin:∀{σ':St}{H':Hp}{v:V}{u:Value},Inv (yN CX P w K mg base N qual scope f cdv A outer s H E) [] σ' H' s'->RelV v u->Q v H'->CE outer P w H s Q u s':=
  λ{σ' H' v u} J rv q=>⟨v,H',J.os,J.bare,J.base,J.hok,rv,q⟩
 cases fl with
 |ret u=>
  obtain⟨v,σ',H',J,rv,q⟩:=hs
  exact fin J rv q
 |next=>
  obtain⟨σ',H',J,q⟩:=hs
  exact fin (v:=V.non) (u:=Value.none) J rfl q
 |brk=>
  obtain⟨_,_,_,q⟩:=hs
  exact False.elim q
 |cont=>
  obtain⟨_,_,_,q⟩:=hs
  exact False.elim q
end L2
namespace L2
open PySem PySem.Spec PyProof.Rows
section
variable {X:Cx}{x:Str}{p pos:Pos}{e:Expr}{es:List Expr}{t:TA}{id T:String}{r:List V->Hp->VK->Prop}
def tCB (r:List V->Hp->VK->Prop)(t:TA):TE:=λσ H Q=>t σ H λvs H1=>r vs H1 Q
theorem Dc (hc:jO X (.builtin id) r)(hg:Gl X x)(hm:X.mg x=none)(hv:bootBuiltins x=some (.builtin id))(ha:PA X (e::es) t)(hn:x≠"__name__":=by decide)(hdb:(x==("__debug__":Str))=false:=by decide)
 (he:starEach (e::es) X.env=(false,eval e X.env)::starEach es X.env:=by rfl)(hpl:(backTo pos (starEach es X.env)).any (·.1)=false:=by rfl):PE X (.Call (.Name x p) (e::es) [] pos) (tCB r t):=by
 intro pins s σ H Q I h
 refine wpAny_Call_Name_kw (tR I hg hm hv ?_ hn hdb)
 exact PyProof.Rows.callWith_builtin1 (iD (ha pos pins s σ H _ I h) λus s1 ⟨vs,H1,I1,r1,q1⟩=>hc pins s1 σ H1 vs us Q I1 r1 q1) he hpl
theorem uG (hc:jO X (.type T) r)(hg:Gl X x)(hm:X.mg x=none)(hv:bootBuiltins x=some (.type T))(ha:PA X (e::es) t)(hn:x≠"__name__":=by decide)(hdb:(x==("__debug__":Str))=false:=by decide)
 (he:starEach (e::es) X.env=(false,eval e X.env)::starEach es X.env:=by rfl)(hpl:(backTo pos (starEach es X.env)).any (·.1)=false:=by rfl):PE X (.Call (.Name x p) (e::es) [] pos) (tCB r t):=by
 intro pins s σ H Q I h
 refine wpAny_Call_Name_kw (tR I hg hm hv ?_ hn hdb)
 exact PyProof.Rows.callWith_type1 (iD (ha pos pins s σ H _ I h) λus s1 ⟨vs,H1,I1,r1,q1⟩=>hc pins s1 σ H1 vs us Q I1 r1 q1) he hpl
end
end L2
namespace HT
open PySem PyProof.Rows
section
open PySem.SeqAt
open PySem.AutoSeq1 (wpAny_loadPart')
open PySem.MeetsSeq PySem.MeetsSeq2 PySem.MeetsSeq3
end
section
variable {prog:Program}{w:World}{A:Around}{E:Value->Shared->Prop}{s:Shared}
theorem UL {t b:Addr}{vs ws:List Value}{Q:Value->Shared->Prop}(ht:IsTup s.heap t vs.toArray)(hb:IsTup s.heap b ws.toArray)(hv:vs≠[])
 (h1:ws=[]->Q (.ref t) s)(h2:ws≠[]->Q (.ref s.heap.objs.size) { s with heap:=s.heap.push { cls:= .type "tuple",data:= .seq (vs++ws).toArray } })
 (hsz:vs.length+ws.length<=sizeLine):wpAny (model prog w) A (binaryOp .Add (.ref t) (.ref b)) Q E s:=by
 obtain⟨⟨cls,dd,data,sl⟩,ho,hc,n,hd⟩:=id ht
 obtain⟨⟨cls2,dd2,data2,sl2⟩,ho2,hc2,n2,hd2⟩:=id hb
 simp only at hc hd hc2 hd2
 subst hc hd hc2 hd2
 have e:vs.toArray++ws.toArray=(vs++ws).toArray:=by simp
 by_cases hw:ws=[]
 ·exact concat_meets ⟨_,ho,rfl⟩ ⟨_,ho2,rfl⟩ noFill_tuple_add seq_tuple_add PySem.F.slot_tuple_add PySem.F.entry_tuple_add (PySem.F.args_tuple_add_2 _ _)
   (tuple_addW1 t b vs.toArray ws.toArray n n2 dd dd2 sl sl2 (by simpa using hv) (by simp[hw])) ⟨ho,ho2,h1 hw⟩
 ·refine concat_meets ⟨_,ho,rfl⟩ ⟨_,ho2,rfl⟩ noFill_tuple_add seq_tuple_add PySem.F.slot_tuple_add PySem.F.entry_tuple_add (PySem.F.args_tuple_add_2 _ _)
   (tuple_addW2 t b vs.toArray ws.toArray n n2 dd dd2 sl sl2 (by simpa using hv) (by simpa using hw) (by rw[List.size_toArray,List.size_toArray];exact hsz)) ⟨ho,ho2,?_⟩
  rw[e]
  exact h2 hw
def jc (n d:Nat):Option Int->Nat
 |none=>d
 |some v=>if v<0 then(v+(n:Int)).toNat else min v.toNat n
theorem Z9 (n d:Nat)(hd:d<=n)(o:Option Int):jc n d o<=n:=by
 cases o with
 |none=>exact hd
 |some v=>
  show(if v<0 then(v+(n:Int)).toNat else min v.toNat n)<=n
  by_cases hv:v<0
  ·rw[if_pos hv];omega
  ·rw[if_neg hv];exact Nat.min_le_right _ _
theorem Mw (v:Int)(n d:Nat):(if v<0 then max (v+(n:Int)) 0 else min v (n:Int))=((jc n d (some v):Nat):Int):=by
 show(if v<0 then max (v+(n:Int)) 0 else min v (n:Int))=(((if v<0 then(v+(n:Int)).toNat else min v.toNat n):Nat):Int)
 by_cases hv:v<0
 ·simp only[if_pos hv];omega
 ·simp only[if_neg hv];omega
theorem Ko (lo hi:Option Int)(n:Nat):Builtin.Slice.sliceAdjust lo hi 1 (n:Int)=(((jc n 0 lo:Nat):Int),((jc n n hi:Nat):Int)):=by
 have h1:¬((1:Int)<0):=by omega
 unfold Builtin.Slice.sliceAdjust
 simp only[h1,if_false]
 refine Prod.ext ?_ ?_
 ·cases lo with
  |none=>rfl
  |some v=>exact Mw v n 0
 ·cases hi with
  |none=>rfl
  |some v=>exact Mw v n n
theorem Ly (i j:Nat):Builtin.Slice.slicePlaces (i:Int) (j:Int) 1=j - i:=by
 unfold Builtin.Slice.slicePlaces
 have h1:(1:Int)>0:=by omega
 simp only[h1,if_true,Int.ediv_one]
 split<;>omega
theorem Dn {v:Value}{o:Option Int}{Q:Option Int->Shared->Prop}(p:IsPart v o)(h:Q o s):wpAny (model prog w) A (Builtin.Slice.slicePartIndex v) Q E s:=by
 cases p with
 |none=>exact slicePart_none h
 |int i t=>exact slicePart_int h
theorem qI {sl:Addr}{vl vu:Value}{lo hi:Option Int}{n:Nat}{Q:Int×Int×Nat->Shared->Prop}(hs:s.heap.IsSliceOf sl vl vu .none)(pl:IsPart vl lo)(pu:IsPart vu hi)
 (h:Q (((jc n 0 lo:Nat):Int),1,jc n n hi - jc n 0 lo) s):wpAny (model prog w) A (Builtin.Slice.sliceApplied (.ref sl) (pure (n:Int))) Q E s:=by
 obtain⟨os,hos,hcs,hds⟩:=id hs
 unfold Builtin.Slice.sliceApplied Builtin.Slice.sliceFields
 refine wpAny_bind (wpAny_bind (wpAny_field hos hds (x:=vl) rfl (wpAny_bind (wpAny_field hos hds (x:=vu) rfl (wpAny_bind (wpAny_field hos hds (x:= .none) rfl (wpAny_pure ?_)))))))
 refine wpAny_bind (slicePart_none ?_)
 show wpAny _ _ (if((1:Int)==0)=true then _ else _) _ _ s
 rw[if_neg (by decide)]
 refine wpAny_bind (Dn pl (wpAny_bind (Dn pu (wpAny_bind (wpAny_pure ?_)))))
 show wpAny _ _ (match Builtin.Slice.sliceAdjust lo hi 1 (n:Int)with|(lo,hi)=>pure (lo,(1:Int),Builtin.Slice.slicePlaces lo hi 1)) _ _ s
 rw[Ko lo hi n]
 show wpAny _ _ (pure (((jc n 0 lo:Nat):Int),(1:Int),Builtin.Slice.slicePlaces ((jc n 0 lo:Nat):Int) ((jc n n hi:Nat):Int) 1)) _ _ s
 rw[Ly]
 exact wpAny_pure h
theorem SM (xs:Array Value)(i k:Nat):((List.range k).filterMap λ(m:Nat)=>xs[((i:Int)+(m:Int)*1).toNat]?).toArray=((xs.toList.drop i).take k).toArray:=by
 have e:(λ(m:Nat)=>xs[((i:Int)+(m:Int)*1).toNat]?)=λm=>xs[i+m]?:=by
  funext m
  have:((i:Int)+(m:Int)*1).toNat=i+m:=by omega
  rw[this]
 rw[e]
 have:=pick_run xs i k
 rw[List.filterMap_map]at this
 have e2:((λx=>xs[x]?)∘λx=>i+x)=λm=>xs[i+m]?:=rfl
 rw[e2]at this
 rw[this]
theorem wI {t sl:Addr}{items:Array Value}{vl vu:Value}{lo hi:Option Int}{Q:Value->Shared->Prop}(ht:IsTup s.heap t items)(hs:s.heap.IsSliceOf sl vl vu .none)(pl:IsPart vl lo)(pu:IsPart vu hi)
 (hw:¬(jc items.size 0 lo=0/\jc items.size items.size hi=items.size))
 (h:Q (.ref s.heap.objs.size) { s with heap:=s.heap.push { cls:= .type "tuple",data:= .seq ((items.toList.drop (jc items.size 0 lo)).take (jc items.size items.size hi - jc items.size 0 lo)).toArray } })
 (hsz:items.size<=sizeLine):wpAny (model prog w) A (getItem (.ref t) (.ref sl)) Q E s:=by
 have N5:sizeOk (.seq ((items.toList.drop (jc items.size 0 lo)).take (jc items.size items.size hi - jc items.size 0 lo)).toArray):=by
  show((items.toList.drop (jc items.size 0 lo)).take (jc items.size items.size hi - jc items.size 0 lo)).toArray.size<=sizeLine
  rw[List.size_toArray,List.length_take,List.length_drop,Array.length_toList]
  omega
 have hj:jc items.size items.size hi<=items.size:=Z9 _ _ (Nat.le_refl _) hi
 obtain⟨os,hos,hcs,hds⟩:=id hs
 have hTs:s.TypeIs (.ref sl) "slice":=⟨os,hos,hcs⟩
 unfold getItem
 try with_reducible refine wpAny_holding ?_
 first|refine wpAny_bind (wpAny_pure ?_)|skip
 refine wpAny_bind (wpAny_sequenceKey ht.typeIs (by decide) ?_)
 refine wpAny_bind (wpAny_callSpecial?_slot (name:=Str.ofString "__getitem__") ht.typeIs PyProof.Rows.slot_tuple_getitem
  (wpAny_call_entry PyProof.Rows.slot_tuple_getitem ht.typeIs entry_tuple_getitem ?_ (args_tuple_getitem _ _)))
 show wpAny _ _ (Builtin.Tuple.tupleItemsOf (.ref t)>>=_) _ _ s
 refine wpAny_bind (tupleItemsOf_ ht ?_)
 refine wpAny_bind (wpAny_typeOf hTs ?_)
 rw[if_pos (by decide)]
 refine wpAny_bind (qI hs pl pu ?_)
 have hno:¬((((jc items.size 0 lo:Nat):Int)==0&&(1:Int)==1&&(jc items.size items.size hi - jc items.size 0 lo)==items.size)=true):=by
  intro q
  rw[Bool.and_eq_true,Bool.and_eq_true]at q
  have q1:((jc items.size 0 lo:Nat):Int)=0:=eq_of_beq q.1.1
  have q2:jc items.size items.size hi - jc items.size 0 lo=items.size:=eq_of_beq q.2
  exact hw ⟨by omega,by omega⟩
 show wpAny _ _ (if(((jc items.size 0 lo:Nat):Int)==0&&(1:Int)==1&&(jc items.size items.size hi - jc items.size 0 lo)==items.size)=true then _ else _) _ _ s
 rw[if_neg hno,SM]
 first
  |exact wpAny_bind (m:=Builtin.Tuple.tupleExact _) (wpAny_newObj_type (wpAny_pure ⟨_,rfl,wpAny_pure h⟩) N5)
  |exact wpAny_bind (m:=Builtin.Tuple.tupleExact _) (wpAny_newObj_type (wpAny_bind (wpAny_pure (wpAny_pure ⟨_,rfl,wpAny_pure h⟩))) N5)
  |exact wpAny_bind (wpAny_bind (m:=Builtin.Tuple.tupleExact _) (wpAny_newObj_type (wpAny_pure (wpAny_pure ⟨_,rfl,wpAny_pure h⟩)) N5))
  |exact wpAny_bind (wpAny_bind (m:=Builtin.Tuple.tupleExact _) (wpAny_newObj_type (wpAny_pure ⟨_,rfl,wpAny_pure h⟩) N5))
end
end HT
namespace L2
open PySem PySem.Spec PyProof.Rows
abbrev TO:=St->Hp->(Option Int->Hp->Prop)->Prop
def PO (X:Cx)(e:Option Expr)(t:TO):Prop:=
 ∀(pins:List (Addr×Obj)) (s:Shared) (σ:St) (H:Hp) (Q:Option Int->Hp->Prop),Inv X pins σ H s->t σ H Q->
  wpAny (model X.prog X.w) X.A (evalPart e X.env) (λu s'=>∃o H',Inv X pins σ H' s'/\IsPart u o/\Q o H') X.xe s
def Wn:TO:=λ_ H Q=>Q none H
def a1d (t:TE):TO:=λσ H Q=>t σ H λx H1=>∃i,x= .int i/\Q (some i) H1
section
variable {X:Cx}{e:Expr}{te:TE}{lo hi:Option Expr}{tl th:TO}{pos p2:Pos}
theorem W4:PO X none Wn:=by
 intro pins s σ H Q I h
 rw[evalPart_none]
 exact wpAny_pure ⟨none,H,I,.none,h⟩
theorem W5 (h:PE X e te):PO X (some e) (a1d te):=by
 intro pins s σ H Q I hw
 rw[evalPart_some]
 refine iD (h pins s σ H _ I hw) λu s1 ⟨x,H1,I1,r1,q1⟩=>?_
 obtain⟨i,rfl,q⟩:=q1
 obtain⟨t,rfl⟩:=r1
 exact⟨some i,H1,I1,.int i t,q⟩
def Ut (X:Cx)(r:V->Option Int->Option Int->Hp->VK->Prop):Prop:=
 ∀(pins:List (Addr×Obj)) (s:Shared) (σ:St) (H:Hp) (x:V) (v vl vu:Value) (lo hi:Option Int) (sl:Addr) (Q:VK),Inv X pins σ H s->RelV x v->s.heap.IsSliceOf sl vl vu .none->IsPart vl lo->IsPart vu hi->r x lo hi H Q->
  ∃T id,typeLookup (.type T) "__getitem__"=pure (some (.builtin id))/\s.TypeIs v T/\wpAny (model X.prog X.w) X.A (getItem v (.ref sl)) (EP X pins σ Q) X.xe s
theorem Ut.or {r r':V->Option Int->Option Int->Hp->VK->Prop}(h:Ut X r)(h':Ut X r'):Ut X (λx lo hi H Q=>r x lo hi H Q\/r' x lo hi H Q):=by
 intro pins s σ H x v vl vu lo hi sl Q I rx hs pl pu q
 rcases q with q|q
 ·exact h pins s σ H x v vl vu lo hi sl Q I rx hs pl pu q
 ·exact h' pins s σ H x v vl vu lo hi sl Q I rx hs pl pu q
def tSl (r:V->Option Int->Option Int->Hp->VK->Prop)(te:TE)(tl th:TO):TE:=λσ H Q=>te σ H λx H1=>tl σ H1 λl H2=>th σ H2 λu H3=>r x l u H3 Q
theorem Sy {r:V->Option Int->Option Int->Hp->VK->Prop}(hr:Ut X r)(he:PE X e te)(hl:PO X lo tl)(hu:PO X hi th):PE X (.Subscript e (.Slice lo hi none p2) pos) (tSl r te tl th):=by
 intro pins s σ H Q I h
 refine Subscript_ (iD (he pins s σ H _ I h) λv s1 ⟨x,H1,I1,r1,q1⟩=>?_)
 refine wpAny_Slice (iD (hl pins s1 σ H1 _ I1 q1) λvl s2 ⟨l,H2,I2,pl,q2⟩=>iD (hu pins s2 σ H2 _ I2 q2) λvu s3 ⟨u,H3,I3,pu,q3⟩=>?_)
 rw[evalPart_none]
 refine wpAny_pure ?_
 have I4:Inv X pins σ H3 { s3 with heap:=s3.heap.push { cls:= .type "slice",data:= .fields #[vl,vu,.none] } }:=I3.kept (t':=s3.toks) λb ob q=>Heap.get?_push_of_some _ q
 obtain⟨T,id,hT,ht,hg⟩:=hr pins { s3 with heap:=s3.heap.push { cls:= .type "slice",data:= .fields #[vl,vu,.none] } } σ H3 x v vl vu l u s3.heap.objs.size Q I4 r1 (Heap.IsSliceOf.new ..) pl pu q3
 show wpAny (model X.prog X.w) X.A (subscriptTail e (.Slice lo hi none p2) v (.ref s3.heap.objs.size)) (EP X pins σ Q) X.xe { s3 with heap:=s3.heap.push { cls:= .type "slice",data:= .fields #[vl,vu,.none] } }
 exact tail_any (ops:=[.ref s3.heap.objs.size,v]) ht hT hg (by with_unfolding_all rfl)
def J1 (xs:List V)(lo hi:Option Int):List V:=(xs.drop (HT.jc xs.length 0 lo)).take (HT.jc xs.length xs.length hi - HT.jc xs.length 0 lo)
theorem zA (xs:List V)(lo hi:Option Int):(J1 xs lo hi).length<=xs.length:=by
 unfold J1
 rw[List.length_take,List.length_drop]
 omega
def a0O (K:Fg):V->Option Int->Option Int->Hp->VK->Prop:=λx lo hi H Q=>∃a xs,x= .ref a/\vW K H a xs/\
 ¬(HT.jc xs.length 0 lo=0/\HT.jc xs.length xs.length hi=xs.length)/\∀p,H p=none->Q (.ref p) (upd H p (.tup (J1 xs lo hi)))
theorem Zg:Ut X (a0O X.K):=by
 intro pins s σ H x v vl vu lo hi sl Q I rx hs pl pu h
 obtain⟨a,xs,rfl,hx,hw,q⟩:=h
 cases rx
 obtain⟨its,r,ht,hz⟩:=I.tuple hx
 have hlen:its.toArray.size=xs.length:=by rw[List.size_toArray];exact r.length.symm
 refine⟨"tuple",_,PyProof.Rows.slot_tuple_getitem.lookup,ht.typeIs,?_⟩
 refine HT.wI ht hs pl pu (by rw[hlen];exact hw) ?_ (by rw[hlen];exact hz)
 rw[hlen]
 refine⟨.ref s.heap.objs.size,_,I.laid (t':=s.toks) (o:= .tup (J1 xs lo hi)) (λb ob q=>Heap.get?_push_of_some _ q) (Nat.le_refl _) ?_,rfl,q _ (I.hok.fresh (Nat.le_refl _))⟩
 exact⟨Nat.le_trans (zA xs lo hi) hz,_,(r.drop (HT.jc xs.length 0 lo)).take (HT.jc xs.length xs.length hi - HT.jc xs.length 0 lo),vB.new _ _⟩
def Xe (K:Fg):R2:=λx y H Q=>∃a b xs ys,x= .ref a/\y= .ref b/\vW K H a xs/\vW K H b ys/\xs≠[]/\xs.length+ys.length<=sizeLine/\
 (ys=[]->Q (.ref a) H)/\(ys≠[]->∀p,H p=none->Q (.ref p) (upd H p (.tup (xs++ys))))
theorem Vals.rz {xs:List V}{us:List Value}(r:Vals xs us):us=[]↔xs=[]:=by
 cases r with
 |nil=>simp
 |cons _ _=>simp
theorem VD:uz X (binaryOp .Add) (Xe X.K):=by
 intro pins s σ H x y v u Q I rx ry h
 obtain⟨a,b,xs,ys,rfl,rfl,ha,hb,hx,hz,q1,q2⟩:=h
 cases rx
 cases ry
 obtain⟨its,r1,p1,_⟩:=I.tuple ha
 obtain⟨its2,r2,p2,_⟩:=I.tuple hb
 refine HT.UL p1 p2 (λz=>hx (r1.rz.mp z)) (λz=>⟨.ref a,H,I,rfl,q1 (r2.rz.mp z)⟩) (λz=>?_) (by rw[<-r1.length,<-r2.length];exact hz)
 refine⟨.ref s.heap.objs.size,_,I.laid (t':=s.toks) (o:= .tup (xs++ys)) (λb ob q=>Heap.get?_push_of_some _ q) (Nat.le_refl _) ?_,rfl,q2 (λw=>z (r2.rz.mpr w)) _ (I.hok.fresh (Nat.le_refl _))⟩
 exact⟨by rw[List.length_append];exact hz,_,r1.append r2,vB.new _ _⟩
end
end L2
namespace L2
open PySem PySem.Spec PyProof.Rows
def Ld (n:Nat)(i:Int):Option Nat:=if 0<=i then(if i<n then some i.toNat else none)else if -(n:Int)<=i then some (i+n).toNat else none
def zz {α:Type}(xs:List α)(i:Int):Option α:=(Ld xs.length i).bind λj=>xs[j]?
theorem N8 {n:Nat}{i:Int}{j:Nat}(h:Ld n i=some j):seqIndex? i n=some j/\j<n/\ -(n:Int)<=i/\i<n:=by
 unfold Ld at h
 by_cases h0:0<=i
 ·rw[if_pos h0]at h
  by_cases h1:i<n
  ·rw[if_pos h1]at h
   have e:i.toNat=j:=Option.some.inj h
   exact⟨by rw[seqIndex_of h0 h1,e],by omega,by omega,h1⟩
  ·rw[if_neg h1]at h;cases h
 ·rw[if_neg h0]at h
  by_cases h1: -(n:Int)<=i
  ·rw[if_pos h1]at h
   have e:(i+n).toNat=j:=Option.some.inj h
   exact⟨by rw[seqIndex_neg (by omega) h1,e],by omega,h1,by omega⟩
  ·rw[if_neg h1]at h;cases h
theorem GJ {α:Type}{xs:List α}{i:Int}{v:α}(h:zz xs i=some v):∃j,seqIndex? i xs.length=some j/\xs[j]?=some v/\j<xs.length/\ -(xs.length:Int)<=i/\i<xs.length:=by
 unfold zz at h
 cases e:Ld xs.length i with
 |none=>rw[e]at h;cases h
 |some j=>
  rw[e]at h
  obtain⟨h1,h2,h3,h4⟩:=N8 e
  exact⟨j,h1,h,h2,h3,h4⟩
def GD (b:Expr):Prop:=∀o i,subscripted b false o i=operate [o,i] (getItem o i)
def Uk (X:Cx)(r:R2):Prop:=
 ∀(value slice:Expr) (pins:List (Addr×Obj)) (s:Shared) (σ:St) (H:Hp) (x y:V) (v u:Value) (Q:VK),Inv X pins σ H s->RelV x v->RelV y u->r x y H Q->
  subscripted slice false v u=operate [v,u] (getItem v u)->wpAny (model X.prog X.w) X.A (subscriptTail value slice v u) (EP X pins σ Q) X.xe s
def Om (X:Cx)(id:String)(r:V->List V->Hp->VK->Prop):Prop:=
 ∀(pins:List (Addr×Obj)) (s:Shared) (σ:St) (H:Hp) (x:V) (xs:List V) (v:Value) (us:List Value) (Q:VK),Inv X pins σ H s->RelV x v->Vals xs us->r x xs H Q->
  wpAny (model X.prog X.w) X.A (call (.builtin id) (v::us)) (EP X pins σ Q) X.xe s
section
variable {X:Cx}{a b:Expr}{ta tb:TE}{pos:Pos}
theorem Uk.or {r r':R2}(h:Uk X r)(h':Uk X r'):Uk X (λx y H Q=>r x y H Q\/r' x y H Q):=by
 intro value slice pins s σ H x y v u Q I rx ry q hs
 rcases q with q|q
 ·exact h value slice pins s σ H x y v u Q I rx ry q hs
 ·exact h' value slice pins s σ H x y v u Q I rx ry q hs
theorem a0A {r:R2}(hr:Uk X r)(ha:PE X a ta)(hb:PE X b tb)(hs:GD b):PE X (.Subscript a b pos) (tOp r ta tb):=by
 intro pins s σ H Q I h
 exact Subscript_ (Xv ha hb I h λv u s2 x y H2 I2 rx ry q=>hr a b pins s2 σ H2 x y v u Q I2 rx ry q (hs _ _))
def a0I (K:Fg):R2:=λx y H Q=>∃p xs i v,x= .ref p/\y= .int i/\qK K H p xs/\zz xs i=some v/\Q v H
def a0K (K:Fg):R2:=λx y H Q=>∃p xs i v,x= .ref p/\y= .int i/\vW K H p xs/\zz xs i=some v/\Q v H
def a0J:R2:=λx y H Q=>∃z i c,x= .str z/\y= .int i/\z.length<=sizeLine/\zz z.cps.toList i=some c/\Q (.str ⟨#[c]⟩) H
theorem Vi:Uk X (a0I X.K):=by
 intro value slice pins s σ H x y v u Q I rx ry h hs
 obtain⟨p,xs,i,z,rfl,rfl,hq,he,q⟩:=h
 cases rx
 obtain⟨t,rfl⟩:=ry
 obtain⟨its,r,pl,hz⟩:=I.list hq
 obtain⟨j,h1,h2,h3,h4,h5⟩:=GJ he
 obtain⟨w,ew,rw'⟩:=r.get h2
 have hl:=r.length
 have hn:=vG
 have fin:EP X pins σ Q w s:=⟨z,H,I,rw',q⟩
 by_cases h0:0<=i
 ·have hj:i.toNat=j:=by
   rw[seqIndex_of h0 h5]at h1
   exact Option.some.inj h1
  exact item_listR pl.isList h0 (by omega) (by rw[hj];simpa using ew) fin hs
 ·have hj:(i+(its.toArray.size:Int)).toNat=j:=by
   rw[seqIndex_neg (by omega) h4]at h1
   rw[List.size_toArray,<-hl]
   exact Option.some.inj h1
  exact subscriptTail_builtinR (x:=w) pl.isList.typeIs slot_list_getitem.lookup
   (wpAny_getItem_list_neg (Q:=λr s'=>r=w/\EP X pins σ Q r s') pl.isList (by omega) (by rw[List.size_toArray]<;>omega) (by omega) (by rw[hj];simpa using ew) ⟨rfl,fin⟩) hs
theorem Yh:Uk X (a0K X.K):=by
 intro value slice pins s σ H x y v u Q I rx ry h hs
 obtain⟨p,xs,i,z,rfl,rfl,hq,he,q⟩:=h
 cases rx
 obtain⟨t,rfl⟩:=ry
 obtain⟨its,r,pl,hz⟩:=I.tuple hq
 obtain⟨j,h1,h2,h3,h4,h5⟩:=GJ he
 obtain⟨w,ew,rw'⟩:=r.get h2
 have hl:=r.length
 have hn:=vG
 have fin:EP X pins σ Q w s:=⟨z,H,I,rw',q⟩
 exact subscriptTail_builtinR (x:=w) pl.typeIs slot_tuple_getitem.lookup
  (getItem_tuple (j:=j) (Q:=λr s'=>r=w/\EP X pins σ Q r s') pl (by omega) (by omega) (by rw[List.size_toArray,<-hl];exact h1) (by simpa using ew) ⟨rfl,fin⟩) hs
theorem Yg:Uk X a0J:=by
 intro value slice pins s σ H x y v u Q I rx ry h hs
 obtain⟨z,i,c,rfl,rfl,hz,he,q⟩:=h
 obtain⟨t,rfl⟩:=rx
 obtain⟨t',rfl⟩:=ry
 obtain⟨j,h1,h2,h3,h4,h5⟩:=GJ he
 have hl:z.cps.toList.length=z.length:=by simp[Str.length]
 rw[hl]at h1 h4 h5
 have hn:=vG
 exact tail_any (typeIs_str s z t) slot_str_getitem.lookup (getItem_str (c:=c) (by
  have e1:decide (i< -(2 ^ 63:Int))=false:=decide_eq_false (by omega)
  have e2:decide (i≥2 ^ 63)=false:=decide_eq_false (by omega)
  rw[e1,e2,Bool.or_false]) (by rw[h1];simpa using h2) ⟨.str ⟨#[c]⟩,H,I.tok _,⟨_,rfl⟩,q⟩) hs
def rIx (K:Fg):R2:=λx y H Q=>a0I K x y H Q\/a0K K x y H Q\/a0J x y H Q
theorem Ye:Uk X (rIx X.K):=Vi.or (Yh.or Yg)
theorem Lh (its:List Value)(n j:Nat)(u:Value):Obj.mapSeq (·.setIfInBounds j u) { cls:= .type "list",data:= .seq its.toArray n }={ cls:= .type "list",data:= .seq (its.set j u).toArray n }:=by
 simp[Obj.mapSeq]
theorem Inv.lst {pins:List (Addr×Obj)}{σ:St}{H:Hp}{s:Shared}{p:Addr}{xs:List V}(I:Inv X pins σ H s)(h:H p=some (.lst xs)):
 ∃(its:List Value) (n:Nat),Vals xs its/\s.heap.get? p=some { cls:= .type "list",data:= .seq its.toArray n }/\xs.length<=sizeLine:=by
 obtain⟨z,its,n,r,e⟩:=I.hok p _ h
 exact⟨its,n,r,e,z⟩
theorem Inv.Yn {pins:List (Addr×Obj)}{σ:St}{H:Hp}{s:Shared}{p:Addr}{xs ys:List V}{its its':List Value}{n n':Nat}{f:Obj->Obj}(I:Inv X pins σ H s)(h:H p=some (.lst xs))
 (ho:s.heap.get? p=some { cls:= .type "list",data:= .seq its.toArray n })(hf:f { cls:= .type "list",data:= .seq its.toArray n }={ cls:= .type "list",data:= .seq its'.toArray n' })(r:Vals ys its')(hz:ys.length<=sizeLine)(t:Nat):
 Inv X pins σ (upd H p (.lst ys)) { s with heap:=s.heap.update p f,toks:=t }:=by
 have e:(s.heap.update p f).get? p=some { cls:= .type "list",data:= .seq its'.toArray n' }:=by
  rw[Heap.get?_update_self f ho (by rw[hf]<;>rfl),hf]
 refine I.write (x:=p) (e:=p) (by rw[h];trivial) (.inl rfl) (λb u hb q=>(Heap.get?_update_other _ _ (Ne.symm hb)).trans q) ⟨_,e⟩ ?_
 exact⟨hz,its',n',r,e⟩
def a0M:V->V->V->Hp->(Hp->Prop)->Prop:=λo i v H Q=>∃p xs k j,o= .ref p/\i= .int k/\H p=some (.lst xs)/\Ld xs.length k=some j/\Q (upd H p (.lst (xs.set j v)))
theorem set_list:ZV X a0M:=by
 intro pins s σ H o i v ov iv u Q I ro ri rv h
 obtain⟨p,xs,k,j,rfl,rfl,hp,hj,q⟩:=h
 cases ro
 obtain⟨t,rfl⟩:=ri
 obtain⟨its,n,r,ho,hz⟩:=I.lst hp
 obtain⟨h1,h2,h3,h4⟩:=N8 hj
 have hl:=r.length
 have hn:=vG
 have I':Inv X pins σ (upd H p (.lst (xs.set j v))) { s with heap:=s.heap.update p (Obj.mapSeq (·.setIfInBounds j u)) }:=
  I.Yn hp ho (Lh its n j u) (r.set rv j) (by rw[List.length_set];exact hz) s.toks
 by_cases h0:0<=k
 ·have hk:k.toNat=j:=by
   rw[seqIndex_of h0 h4]at h1
   exact Option.some.inj h1
  exact PySem.W.ki_setAt ho h0 (by omega) (by rw[List.size_toArray,<-hl];exact h4) (by rw[hk];exact⟨_,I',q⟩)
 ·have hk:(k+(its.toArray.size:Int)).toNat=j:=by
   rw[seqIndex_neg (by omega) h3]at h1
   rw[List.size_toArray,<-hl]
   exact Option.some.inj h1
  exact PySem.W.ki_setBack ho (by omega) (by rw[List.size_toArray,<-hl];exact h3) (by omega) (by rw[hk];exact⟨_,I',q⟩)
theorem HY (lo hi:Option Int)(n:Nat):(sliceBounds lo hi none n).1=((HT.jc n 0 lo:Nat):Int)/\(sliceBounds lo hi none n).2.1=((HT.jc n n hi:Nat):Int)/\(sliceBounds lo hi none n).2.2=1:=by
 refine⟨?_,?_,rfl⟩
 ·cases lo with
  |none=>simp[sliceBounds,HT.jc]
  |some i=>
   simp only[sliceBounds,HT.jc,Option.getD_none,show(1:Int)>0 by decide,if_true]
   by_cases h:i<0
   ·simp only[h,if_true]<;>omega
   ·simp only[h,if_false]<;>omega
 ·cases hi with
  |none=>simp[sliceBounds,HT.jc]
  |some i=>
   simp only[sliceBounds,HT.jc,Option.getD_none,show(1:Int)>0 by decide,if_true]
   by_cases h:i<0
   ·simp only[h,if_true]<;>omega
   ·simp only[h,if_false]<;>omega
theorem Eo (its:List Value)(lo hi:Option Int):slicePick its.toArray lo hi none=((its.drop (HT.jc its.length 0 lo)).take (HT.jc its.length its.length hi - HT.jc its.length 0 lo)).toArray:=by
 obtain⟨h1,h2,h3⟩:=HY lo hi its.toArray.size
 unfold slicePick
 rw[h1,h2,h3]
 simp only[sliceRange_one,pick_run,List.size_toArray]<;>rfl
def a0N (K:Fg):V->Option Int->Option Int->Hp->VK->Prop:=λx lo hi H Q=>∃a xs,x= .ref a/\qK K H a xs/\∀p,H p=none->Q (.ref p) (upd H p (.lst (J1 xs lo hi)))
theorem Wl:Ut X (a0N X.K):=by
 intro pins s σ H x v vl vu lo hi sl Q I rx hs pl pu h
 obtain⟨a,xs,rfl,hx,q⟩:=h
 cases rx
 obtain⟨its,r,ht,hz⟩:=I.list hx
 have hlen:=r.length
 refine⟨"list",_,slot_list_getitem.lookup,ht.isList.typeIs,?_⟩
 refine wpAny_getItem_list_slice ht.isList hs pl pu .none (by simp) ?_ (by rw[List.size_toArray]<;>omega)
 rw[Eo,<-hlen]
 refine⟨.ref s.heap.objs.size,_,I.laid (t':=s.toks) (o:= .lst (J1 xs lo hi)) (λb ob q=>Heap.get?_push_of_some _ q) (Nat.le_refl _) ?_,rfl,q _ (I.hok.fresh (Nat.le_refl _))⟩
 exact⟨Nat.le_trans (zA xs lo hi) hz,_,0,(r.drop (HT.jc xs.length 0 lo)).take (HT.jc xs.length xs.length hi - HT.jc xs.length 0 lo),Heap.get?_push_size _ rfl⟩
theorem jO.or {f:Value}{r r':List V->Hp->VK->Prop}(h:jO X f r)(h':jO X f r'):jO X f (λxs H Q=>r xs H Q\/r' xs H Q):=by
 intro pins s σ H xs us Q I rs q
 rcases q with q|q
 ·exact h pins s σ H xs us Q I rs q
 ·exact h' pins s σ H xs us Q I rs q
theorem GR:jO X (.type "list") (λxs H Q=>∃p ys,xs=[.ref p]/\(qK X.K H p ys\/vW X.K H p ys)/\∀l,H l=none->Q (.ref l) (upd H l (.lst ys))):=by
 intro pins s σ H xs us Q I r h
 obtain⟨p,ys,rfl,hq,q⟩:=h
 obtain⟨u,rfl,rx⟩:=vals1 r
 cases rx
 have fin:∀(its:List Value),Vals ys its->ys.length<=sizeLine->∀(h':Heap) (c':Nat),(∀b o',s.heap.get? b=some o'->h'.get? b=some o')->
  h'.get? s.heap.objs.size=some { cls:= .type "list",dict:=none,data:= .seq its.toArray c',slots:=#[] }->EP X pins σ Q (.ref s.heap.objs.size) { s with heap:=h' }:=λits r' hz h' c' kp e=>
  ⟨.ref s.heap.objs.size,_,I.laid (t':=s.toks) kp (Nat.le_refl _) (show fW X.prog X.w _ h' _ (.lst ys) from⟨hz,its,c',r',e⟩),rfl,q _ (I.hok.fresh (Nat.le_refl _))⟩
 rcases hq with hq|hq
 ·obtain⟨its,r',pl,hz⟩:=I.list hq
  have hlen:=r'.length
  obtain⟨o,ho,hc,n,hd⟩:=pl.isList
  exact call_list_seq p (.inl rfl) ho hc hd (λh' c' kp e=>fin its r' hz h' c' kp e) (by simp only[List.size_toArray]<;>omega)
 ·obtain⟨its,r',pl,hz⟩:=I.tuple hq
  have hlen:=r'.length
  obtain⟨o,ho,hc,n,hd⟩:=pl
  exact call_list_seq p (.inr rfl) ho hc hd (λh' c' kp e=>fin its r' hz h' c' kp e) (by simp only[List.size_toArray]<;>omega)
theorem bZ:jO X (.type "tuple") (λxs H Q=>∃p ys,xs=[.ref p]/\((qK X.K H p ys/\∀l,H l=none->Q (.ref l) (upd H l (.tup ys)))\/(vW X.K H p ys/\Q (.ref p) H))):=by
 intro pins s σ H xs us Q I r h
 obtain⟨p,ys,rfl,h⟩:=h
 obtain⟨u,rfl,rx⟩:=vals1 r
 cases rx
 rcases h with⟨hq,q⟩|⟨hq,q⟩
 ·obtain⟨its,r',pl,hz⟩:=I.list hq
  have hlen:=r'.length
  refine call_tuple_list pl.isList (λh' kp=>?_) (by simp only[List.size_toArray]<;>omega)
  have I1:Inv X pins σ H { s with heap:=h' }:=I.kept (t':=s.toks) kp
  have I2:Inv X pins σ (upd H h'.objs.size (.tup ys)) { s with heap:=h'.push { cls:= .type "tuple",data:= .seq its.toArray } }:=
   I1.laid (t':=s.toks) (λb o e=>Heap.get?_push_of_some _ e) (Nat.le_refl _) (show fW X.prog X.w _ _ _ (.tup ys) from⟨hz,its,r',vB.new _ _⟩)
  exact⟨.ref h'.objs.size,_,I2,rfl,q _ (I1.hok.fresh (Nat.le_refl _))⟩
 ·obtain⟨its,r',pl,hz⟩:=I.tuple hq
  exact call_tuple_same pl ⟨.ref p,H,I,rfl,q⟩
def tyV (K:Fg)(T:String)(x:V)(H:Hp):Prop:=match x with
 | .str _=>T="str"
 | .int _=>T="int"
 | .ref p=>(T="list"/\∃xs,qK K H p xs)\/(T="tuple"/\∃o,K.lookup p=some o/\o.cls= .type "tuple"/\o.dict=none)\/
  (T="dict"/\((∃kvs,H p=some (.dK kvs))\/∃kvs,H p=some (.dT kvs)))\/(T="set"/\∃S n,H p=some (.set S n))
 |_=>False
theorem U0 {pins:List (Addr×Obj)}{σ:St}{H:Hp}{s:Shared}{T:String}{x:V}{v:Value}(I:Inv X pins σ H s)(r:RelV x v)(ty:tyV X.K T x H):
 s.TypeIs v T/\∀a,v= .ref a->∃ob,s.heap.get? a=some ob/\ob.dict=none:=by
 cases x with
 |str z=>
  obtain⟨t,rfl⟩:=r
  cases(show T="str" from ty)
  exact⟨typeIs_str s z t,λ_ e=>nomatch e⟩
 |int i=>
  obtain⟨t,rfl⟩:=r
  cases(show T="int" from ty)
  exact⟨typeIs_int s i t,λ_ e=>nomatch e⟩
 |ref p=>
  cases r
  rcases ty with⟨rfl,xs,hq⟩|⟨rfl,o,hk,hc,hd⟩|⟨rfl,hk⟩|⟨rfl,S,n,hk⟩
  ·obtain⟨its,_,pl,_⟩:=I.list hq
   refine⟨pl.isList.typeIs,λa e=>?_⟩
   cases e
   obtain⟨o,n,e,c,hd,_⟩:=pl
   exact⟨o,e,hd⟩
  ·refine⟨⟨o,I.yS p o hk,hc⟩,λa e=>?_⟩
   cases e
   exact⟨o,I.yS _ o hk,hd⟩
  ·have z:∃o,s.heap.get? p=some o/\o.ExactDict:=by
    rcases hk with⟨kvs,hk⟩|⟨kvs,hk⟩
    ·obtain⟨_,_,_,_,o,_,_,e,ex,_⟩:=I.hok p _ hk
     exact⟨o,e,ex⟩
    ·obtain⟨_,_,_,_,o,_,_,e,ex,_⟩:=I.hok p _ hk
     exact⟨o,e,ex⟩
   obtain⟨o,e,ex⟩:=z
   refine⟨⟨o,e,ex.1⟩,λa e2=>?_⟩
   cases e2
   exact⟨o,e,ex.2.1⟩
  ·obtain⟨o,_,_,_,e,ex,_⟩:=I.hok p _ hk
   refine⟨⟨o,e,ex.1⟩,λa e2=>?_⟩
   cases e2
   exact⟨o,e,ex.2.1⟩
 |_=>exact False.elim ty
def tBM (K:Fg)(T:String)(r:V->List V->Hp->VK->Prop)(to:TE)(t:TA):TE:=λσ H Q=>to σ H λx H1=>tyV K T x H1/\t σ H1 λxs H2=>r x xs H2 Q
variable {o e:Expr}{es:List Expr}{to:TE}{t:TA}{name:Str}{apos cpos:Pos}{T id:String}{r:V->List V->Hp->VK->Prop}
theorem Xa (pa:PlainAttrs T)(slot:Slot T name id)(hty:typeOf (.builtin id)=pure (.type "method_descriptor"))(hm:Om X id r)(ho:PE X o to)(ha:PA X (e::es) t)
 (hbase:attributeBase o name X.env (eval o X.env)=eval o X.env:=by rfl)
 (hfew:((backTo cpos (starEach (e::es) X.env)).all (λx=>!x.1)&&(backToKw cpos (keywordEach [] X.env)).all (λx=>x.1.isSome)
  &&decide ((e::es).length+([]:List Keyword).length+(if([]:List Keyword).isEmpty then 0 else 1)<30))=true:=by rfl)
 (hline:(apos.endLine==cpos.line)=true:=by rfl)(hs:starEach (e::es) X.env=(false,eval e X.env)::starEach es X.env:=by rfl)(hplain:(backTo cpos (starEach es X.env)).any (·.1)=false:=by rfl):
 PE X (.Call (.Attribute o name apos) (e::es) [] cpos) (tBM X.K T r to t):=by
 intro pins s σ H Q I h
 refine wpAny_Call_method_late hbase hfew hline rfl (iD (ho pins s σ H _ I h) λv s1 ⟨x,H1,I1,r1,ty,q1⟩=>?_)
 obtain⟨h1,h2⟩:=U0 I1 r1 ty
 refine⟨T,id,pa,slot,hty,h1,h2,?_⟩
 have hA:=ha cpos pins s1 σ H1 _ I1 q1
 rw[hs]at hA ⊢
 refine Calls.callWith_builtin (by show(false||(backTo cpos (starEach es X.env)).any (·.1))=false;rw[hplain]<;>rfl) (Calls.evalArgs_plain ?_)
 exact iD hA λus s2 ⟨vs,H2,I2,r2,q2⟩=>hm pins s2 σ H2 x vs v us Q I2 r1 r2 q2
end
end L2
namespace L2
open PySem PySem.Spec PyProof.Rows
def MtM (X:Cx)(id:String)(r:V->List V->Hp->VK->Prop):Prop:=
 ∀(pins:List (Addr×Obj)) (s:Shared) (σ:St) (H:Hp) (x:V) (xs:List V) (v:Value) (us:List Value) (Q:VK),Inv X pins σ H s->RelV x v->Vals xs us->r x xs H Q->
  wpAny (model X.prog X.w) X.A (call (.builtin id) (v::us)) (EP X pins σ Q) X.xe s
theorem Vals.one:∀{x:V}{us:List Value},Vals [x] us->∃u,us=[u]/\RelV x u
 |_,_,.cons r .nil=>⟨_,rfl,r⟩
theorem Vals.rep {xs:List V}{us:List Value}(h:Vals xs us):∀k:Nat,Vals (List.replicate k xs).flatten (List.replicate k us).flatten
 |0=> .nil
 |k+1=>by
  rw[List.replicate_succ,List.replicate_succ,List.flatten_cons,List.flatten_cons]
  exact Vals.append h (Vals.rep h k)
theorem foldl_rep (its:List Value):∀(k:Nat) (acc:List Value),
 List.foldl (λx1 x2=>x1++x2) acc.toArray (List.replicate k its.toArray)=(acc++(List.replicate k its).flatten).toArray
 |0,acc=>by simp
 |k+1,acc=>by
  have e:acc.toArray++its.toArray=(acc++its).toArray:=by simp
  have e2:(acc++its)++(List.replicate k its).flatten=acc++(List.replicate (k+1) its).flatten:=by
   rw[List.replicate_succ,List.flatten_cons,List.append_assoc]
  rw[<-e2,<-foldl_rep its k (acc++its),<-e,List.replicate_succ,List.foldl_cons]
section
variable {X:Cx}{pins:List (Addr×Obj)}{σ:St}{H:Hp}{s:Shared}{l b:Addr}{xs ys zs:List V}
theorem Inv.a1B {its its':List Value}{n:Nat}{f:Array Value->Array Value}{t':Nat}(I:Inv X pins σ H s)(hH:H l=some (.lst xs))
 (e:s.heap.get? l=some { cls:= .type "list",data:= .seq its.toArray n })(hf:f its.toArray=its'.toArray)(hv:Vals ys its')(hz:ys.length<=sizeLine):
 Inv X pins σ (upd H l (.lst ys)) { s with heap:=s.heap.update l (Obj.mapSeq f),toks:=t' }:=by
 have q:=PySem.IsL.update e f
 rw[hf]at q
 refine I.write (x:=l) (e:=l) (by rw[hH];exact trivial) (.inl rfl) (λb' u hb hu=>(Heap.get?_update_other s.heap (Obj.mapSeq f) (Ne.symm hb)).trans hu) ⟨_,q⟩ ?_
 exact⟨hz,its',_,hv,q⟩
theorem Inv.Ym {its:List Value}{t':Nat}(I:Inv X pins σ H s)(hv:Vals ys its)(hz:ys.length<=sizeLine):
 Inv X pins σ (upd H s.heap.objs.size (.lst ys)) { s with heap:=s.heap.push { cls:= .type "list",data:= .seq its.toArray },toks:=t' }:=
 I.laid (λ_ _ q=>Heap.get?_push_of_some _ q) (Nat.le_refl _) ⟨hz,its,0,hv,Heap.get?_push_size _ rfl⟩
theorem Inv.fresh (I:Inv X pins σ H s):H s.heap.objs.size=none:=I.hok.fresh (Nat.le_refl _)
theorem Inv.Vn (I:Inv X pins σ H s)(hH:H l=some (.lst xs)):xs.length<=sizeLine/\∃(its:List Value) (n:Nat),Vals xs its/\xs.length=its.length/\s.heap.get? l=some { cls:= .type "list",data:= .seq its.toArray n }:=by
 obtain⟨z,its,n,r,e⟩:=I.hok l _ hH
 exact⟨z,its,n,r,r.length,e⟩
theorem S5 {n:Nat}(h:n<=sizeLine):Builtin.List.listTooLong n=false:=by
 unfold Builtin.List.listTooLong
 exact decide_eq_false (by omega)
end
section
variable {X:Cx}
def Nx:V->List V->Hp->VK->Prop:=λx vs H Q=>∃l xs y,x= .ref l/\vs=[y]/\H l=some (.lst xs)/\xs.length<sizeLine/\Q .non (upd H l (.lst (xs++[y])))
theorem Gd:MtM X "list.append" Nx:=by
 intro pins s σ H x vs v us Q I rx rv h
 obtain⟨l,xs,y,rfl,rfl,hH,hz,q⟩:=h
 cases rx
 obtain⟨u,rfl,ru⟩:=rv.one
 obtain⟨z,its,n,r,hl,e⟩:=I.Vn hH
 refine call_meets F.slot_list_append ⟨_,e,rfl⟩ F.entry_list_append (F.args_list_append_2 _ _) (PySem.list_append l its.toArray n u (by rw[List.size_toArray];omega)) ⟨e,?_⟩
 refine⟨.non,_,I.a1B (its':=its++[u]) hH e (by simp) (r.append (.cons ru .nil)) ?_,rfl,q⟩
 rw[List.length_append,List.length_singleton]
 omega
def a0H:R2:=λx y H Q=>∃l b xs zs,x= .ref l/\y= .ref b/\H l=some (.lst xs)/\H b=some (.lst zs)/\xs.length+zs.length<=sizeLine/\∀p,H p=none->Q (.ref p) (upd H p (.lst (xs++zs)))
theorem Yx:uz X (binaryOp .Add) a0H:=by
 intro pins s σ H x y v u Q I rx ry h
 obtain⟨l,b,xs,zs,rfl,rfl,hH,hB,hz,q⟩:=h
 cases rx
 cases ry
 obtain⟨z,its,n,r,hl,e⟩:=I.Vn hH
 obtain⟨z2,its2,n2,r2,hl2,e2⟩:=I.Vn hB
 refine PySem.P.add_list e e2 ?_ (by rw[List.size_toArray,List.size_toArray];omega)
 have ea:its.toArray++its2.toArray=(its++its2).toArray:=by simp
 rw[ea]
 exact⟨.ref _,_,I.Ym (t':=s.toks) (r.append r2) (by rw[List.length_append];omega),rfl,q _ I.fresh⟩
def a0L:R2:=λx y H Q=>∃l k xs,x= .ref l/\y= .int k/\H l=some (.lst xs)/\ -(2 ^ 63)<=k/\k<2 ^ 63/\xs.length*k.toNat<=sizeLine/\
 ∀p,H p=none->Q (.ref p) (upd H p (.lst (List.replicate k.toNat xs).flatten))
theorem len_rep {α:Type}(xs:List α)(k:Nat):(List.replicate k xs).flatten.length=k*xs.length:=by
 induction k with
 |zero=>simp
 |succ k ih=>rw[List.replicate_succ,List.flatten_cons,List.length_append,ih,Nat.succ_mul,Nat.add_comm]
theorem Yz:uz X (binaryOp .Mult) a0L:=by
 intro pins s σ H x y v u Q I rx ry h
 obtain⟨l,k,xs,rfl,rfl,hH,h1,h2,hz,q⟩:=h
 cases rx
 obtain⟨t,rfl⟩:=ry
 obtain⟨z,its,n,r,hl,e⟩:=I.Vn hH
 have hlen:its.toArray.size*k.toNat<=sizeLine:=by rw[List.size_toArray,<-hl];exact hz
 have hcap:¬its.toArray.size*k.toNat>(2 ^ 63 - 1)/8:=by
  have:(sizeLine:Nat)<=(2 ^ 63 - 1)/8:=by decide
  omega
 have hfit:¬(!Builtin.List.listFitsIndex k)=true:=by
  rw[fitsIndex_both h1 h2]
  exact Bool.false_ne_true
 have a0i:¬Builtin.List.listTooLong (its.toArray.size*k.toNat)=true:=by
  rw[S5 hlen]
  exact Bool.false_ne_true
 have hnew:List.foldl (λx1 x2=>x1++x2) #[] (List.replicate (if its.toArray.isEmpty=true then 0 else k.toNat) its.toArray)=(List.replicate k.toNat its).flatten.toArray:=by
  have f0:∀m:Nat,List.foldl (λx1 x2=>x1++x2) #[] (List.replicate m its.toArray)=(List.replicate m its).flatten.toArray:=λm=>by
   have:=foldl_rep its m []
   rw[List.nil_append]at this
   exact this
  rw[f0]
  cases its with
  |nil=>simp
  |cons a r'=>rw[if_neg (by simp)]
 refine wpAny_binaryOp_repeat_ref (T:="list") (U:="int") (by decide) ⟨_,e,rfl⟩ (λs'=>typeIs_int s' k t) noFill_list_mul F.fills_int_mul F.slot_int_rmul repeat_list F.slot_int_index.lookup
  (call_meets F.slot_int_rmul (typeIs_int s k t) F.entry_int_rmul (F.args_int_rmul_2 _ _) (int___rmul___int_list k t l its.toArray n)
   ⟨e,rfl,⟨_,e,rfl⟩,call_meets F.slot_list_mul ⟨_,e,rfl⟩ F.entry_list_mul (F.args_list_mul_2 _ _) (AutoListH.list___mul___list_int_3 l its.toArray n k t hfit hcap a0i) ⟨e,?_⟩⟩)
 rw[hnew]
 exact⟨.ref _,_,I.Ym (t':=s.toks) (r.rep k.toNat) (by rw[len_rep,Nat.mul_comm];exact hz),rfl,q _ I.fresh⟩
end
section
variable {prog:Program}{w:World}{A:Around}{E:Value->Shared->Prop}{s:Shared}
end
section
variable {X:Cx}
end
end L2
namespace L2
open PySem PySem.Spec PyProof.Rows
section
variable {κ:Type} [DecidableEq κ]
def Ah (kvs:List (κ×V))(k:κ):Option V:=(kvs.find? λkv=>decide (kv.1=k)).map (·.2)
def putK (kvs:List (κ×V))(k:κ)(v:V):List (κ×V):=
 if(kvs.any λkv=>decide (kv.1=k))=true then kvs.map (λkv=>if kv.1=k then(kv.1,v)else kv)else kvs++[(k,v)]
theorem yC {p:κ×V}{r:List (κ×V)}{k:κ}(e:p.1=k):Ah (p::r) k=some p.2:=by simp[Ah,List.find?_cons,e]
theorem yz {p:κ×V}{r:List (κ×V)}{k:κ}(e:¬p.1=k):Ah (p::r) k=Ah r k:=by simp[Ah,List.find?_cons,e]
theorem Ke (k:κ):∀kvs:List (κ×V),(kvs.any λkv=>decide (kv.1=k))=(Ah kvs k).isSome
 |[]=>rfl
 |p::r=>by
  rw[List.any_cons]
  by_cases e:p.1=k
  ·simp only[yC e,decide_eq_true e,Bool.true_or,Option.isSome_some]
  ·rw[yz e,decide_eq_false e,Bool.false_or];exact Ke k r
theorem tU (kvs:List (κ×V))(k:κ)(v:V):(putK kvs k v).length<=kvs.length+1:=by
 unfold putK
 split
 ·rw[List.length_map];omega
 ·rw[List.length_append,List.length_cons,List.length_nil];omega
theorem uP.PJ {o:Option V}{u:Option Value}(r:uP o u):o.isSome=u.isSome:=by
 cases o with
 |none=>cases u with
  |none=>rfl
  |some _=>exact(show False from r).elim
 |some _=>cases u with
  |none=>exact(show False from r).elim
  |some _=>rfl
theorem KV.val {kvs:List (κ×V)}{vs:List (κ×Value)}(r:KV kvs vs)(k:κ):uP (Ah kvs k) (valueAt vs k):=by
 unfold KV at r
 induction r with
 |nil=>exact True.intro
 |@cons p q ps qs h t ih=>
  obtain⟨h1,h2⟩:=h
  by_cases e:p.1=k
  ·have e':q.1=k:=h1.symm.trans e
   have b:valueAt (q::qs) k=some q.2:=by simp[valueAt,List.find?_cons,e']
   rw[yC e,b];exact h2
  ·have e':¬q.1=k:=λz=>e (h1.trans z)
   have b:valueAt (q::qs) k=valueAt qs k:=by simp[valueAt,List.find?_cons,e']
   rw[yz e,b];exact ih
theorem KV.any {kvs:List (κ×V)}{vs:List (κ×Value)}(r:KV kvs vs)(k:κ):(kvs.any λkv=>decide (kv.1=k))=vs.any λkv=>decide (kv.1=k):=by
 unfold KV at r
 induction r with
 |nil=>rfl
 |cons h t ih=>rw[List.any_cons,List.any_cons,ih,h.1]
theorem KV.repl {kvs:List (κ×V)}{vs:List (κ×Value)}(r:KV kvs vs)(k:κ){y:V}{u:Value}(ry:RelV y u):
 KV (kvs.map λkv=>if kv.1=k then(kv.1,y)else kv) (vs.map λkv=>if kv.1=k then(kv.1,u)else kv):=by
 unfold KV at r ⊢
 induction r with
 |nil=>exact .nil
 |@cons p q ps qs h t ih=>
  rw[List.map_cons,List.map_cons]
  refine .cons ?_ ih
  obtain⟨h1,h2⟩:=h
  by_cases e:p.1=k
  ·rw[if_pos e,if_pos (h1.symm.trans e)];exact⟨h1,ry⟩
  ·rw[if_neg e,if_neg (λz=>e (h1.trans z))];exact⟨h1,h2⟩
theorem KV.put {kvs:List (κ×V)}{vs:List (κ×Value)}(r:KV kvs vs)(k:κ){y:V}{u:Value}(ry:RelV y u):KV (putK kvs k y) (stored vs k u):=by
 unfold putK stored
 rw[r.any k]
 by_cases e:(vs.any λkv=>decide (kv.1=k))=true
 ·rw[if_pos e,if_pos e];exact r.repl k ry
 ·rw[if_neg e,if_neg e];exact Paired.snoc r ⟨rfl,ry⟩
theorem KV.length {kvs:List (κ×V)}{vs:List (κ×Value)}(r:KV kvs vs):kvs.length=vs.length:=Paired.length r
end
theorem G9 {P:Program}{w:World}{k:Key}{u:Value}(r:RelV (kV k) u):(bO P w).is k u=true:=by
 cases k with
 |inl i=>obtain⟨t,e⟩:=(show ∃t,u=Value.int i t from r);subst e;exact Jv P w i t
 |inr x=>obtain⟨t,e⟩:=(show ∃t,u=Value.str x t from r);subst e;exact Jw P w x t
theorem G7 {P:Program}{w:World}:∀{ks:List Key}{us:List Value},Vals (ks.map kV) us->ItemsAre (bO P w) ks us
 |[],_,r=>by rw[List.map_nil]at r;cases r;exact .nil
 |k::ks,_,r=>by
  rw[List.map_cons]at r
  cases r with
  |cons h t=>exact .cons (G9 h) (G7 t)
abbrev KT (H:Hp):List (List Key×V)->List (List Key×Addr×Value)->Prop:=Paired λp q=>p.1=q.1/\H q.2.1=some (.tup (p.1.map kV))/\RelV p.2 q.2.2
theorem KT.val {H:Hp}{kvs:List (List Key×V)}{xs:List (List Key×Addr×Value)}(r:KT H kvs xs)(k:List Key):uP (Ah kvs k) ((atKey xs k).map (·.2)):=by
 induction r with
 |nil=>exact True.intro
 |@cons p q ps qs h t ih=>
  obtain⟨h1,_,h2⟩:=h
  by_cases e:p.1=k
  ·have e':q.1=k:=h1.symm.trans e
   have b:atKey (q::qs) k=some q.2:=by simp[atKey,List.find?_cons,e']
   rw[yC e,b];exact h2
  ·have e':¬q.1=k:=λz=>e (h1.trans z)
   have b:atKey (q::qs) k=atKey qs k:=by simp[atKey,List.find?_cons,e']
   rw[yz e,b];exact ih
theorem KT.repl {H:Hp}{kvs:List (List Key×V)}{xs:List (List Key×Addr×Value)}(r:KT H kvs xs)(k:List Key){y:V}{u:Value}(ry:RelV y u):
 KT H (kvs.map λkv=>if kv.1=k then(kv.1,y)else kv) (xs.map (putAt k u)):=by
 induction r with
 |nil=>exact .nil
 |@cons p q ps qs h t ih=>
  rw[List.map_cons,List.map_cons]
  refine .cons ?_ ih
  obtain⟨h1,h2,h3⟩:=h
  unfold putAt
  by_cases e:p.1=k
  ·rw[if_pos e,if_pos (h1.symm.trans e)];exact⟨h1,h2,ry⟩
  ·rw[if_neg e,if_neg (λz=>e (h1.trans z))];exact⟨h1,h2,h3⟩
theorem KT.put {H:Hp}{kvs:List (List Key×V)}{xs:List (List Key×Addr×Value)}(r:KT H kvs xs)(k:List Key){b:Addr}{y:V}{u:Value}(hb:H b=some (.tup (k.map kV)))(ry:RelV y u):
 KT H (putK kvs k y) (storedH xs k b u):=by
 have e:(kvs.any λkv=>decide (kv.1=k))=(atKey xs k).isSome:=by
  rw[Ke,(r.val k).PJ,Option.isSome_map]
 unfold putK storedH
 rw[e]
 by_cases q:(atKey xs k).isSome=true
 ·rw[if_pos q,if_pos q];exact r.repl k ry
 ·rw[if_neg q,if_neg q];exact Paired.snoc r ⟨rfl,hb,ry⟩
theorem KT.keeps {H H':Hp}{kvs:List (List Key×V)}{xs:List (List Key×Addr×Value)}(r:KT H kvs xs)(ht:∀b ys,H b=some (.tup ys)->H' b=some (.tup ys)):KT H' kvs xs:=
 Paired.Yp r λ_ _ z=>⟨z.1,ht _ _ z.2.1,z.2.2⟩
section
variable {P:Program}{w:World}{H:Hp}{h:Heap}{a:Addr}
theorem Xl {u:HO}(ok:uU P w H h)(e:Rd H a u):fW P w H h a u:=e.ok ok
theorem Rb {kvs:List (Key×V)}(ok:uU P w H h)(e:Rd H a (.dK kvs)):kvs.length<=sizeLine/\(a==sysModules)=false/\∃vs,KV kvs vs/\h.DictOf (bO P w) a vs:=
 show fW P w H h a (.dK kvs) from Xl ok e
theorem J5 {kvs:List (Key×V)}(ok:uU P w H h)(e:H a=some (.dK kvs)):kvs.length<=sizeLine/\(a==sysModules)=false/\∃vs,KV kvs vs/\h.DictOf (bO P w) a vs:=Rb ok (.inl e)
theorem Le {ks:List Key}(ok:uU P w H h)(e:H a=some (.tup (ks.map kV))):(tupleKind (bO P w)).is h ks a:=by
 obtain⟨_,its,r,o,h1,h2,⟨n,h3⟩,_⟩:=(show fW P w H h a (.tup (ks.map kV)) from ok a _ e)
 exact⟨o,its.toArray,n,h1,h2,h3,by simpa using G7 r⟩
theorem Rc {kvs:List (List Key×V)}(ok:uU P w H h)(e:Rd H a (.dT kvs)):kvs.length<=sizeLine/\(a==sysModules)=false/\
 ∃xs,KT H kvs xs/\h.DictOfH (tupleKind (bO P w)) a xs:=by
 obtain⟨z,y,xs,r,o,es,ep,h1,h2,h3,h4,h5⟩:=(show fW P w H h a (.dT kvs) from Xl ok e)
 refine⟨z,y,xs,r,o,es,ep,h1,h2,h3,h4,λx hx=>?_,h5⟩
 have all:∀{l:List (List Key×V)}{m:List (List Key×Addr×Value)},KT H l m->∀x∈m,(tupleKind (bO P w)).is h x.1 x.2.1:=by
  intro l m q
  induction q with
  |nil=>intro x hx;exact nomatch hx
  |@cons p q ps qs hq t ih=>
   intro x hx
   rcases List.mem_cons.mp hx with e|hx
   ·subst e
    exact Le ok (by rw[<-hq.1];exact hq.2.1)
   ·exact ih x hx
 exact all r x hx
theorem a00 {kvs:List (List Key×V)}(ok:uU P w H h)(e:H a=some (.dT kvs)):kvs.length<=sizeLine/\(a==sysModules)=false/\
 ∃xs,KT H kvs xs/\h.DictOfH (tupleKind (bO P w)) a xs:=Rc ok (.inl e)
end
def Oj (H:Hp)(a:Addr)(y:V)(r:Option V):Prop:=
 (∃kvs k,Rd H a (.dK kvs)/\y=kV k/\r=Ah kvs k)\/∃kvs k b,Rd H a (.dT kvs)/\y= .ref b/\H b=some (.tup (k.map kV))/\r=Ah kvs k
def QK (H:Hp)(a:Addr)(y v:V)(H':Hp):Prop:=
 (∃kvs k,H a=some (.dK kvs)/\y=kV k/\kvs.length<sizeLine/\H'=upd H a (.dK (putK kvs k v)))\/
 ∃kvs k b,H a=some (.dT kvs)/\y= .ref b/\H b=some (.tup (k.map kV))/\kvs.length<sizeLine/\H'=upd H a (.dT (putK kvs k v))
theorem Oj.k {H:Hp}{a:Addr}{kvs:List (Key×V)}{k:Key}(e:H a=some (.dK kvs)):Oj H a (kV k) (Ah kvs k):= .inl ⟨kvs,k,.inl e,rfl,rfl⟩
theorem QK.k {H:Hp}{a:Addr}{kvs:List (Key×V)}{k:Key}{v:V}(e:H a=some (.dK kvs))(hl:kvs.length<sizeLine):QK H a (kV k) v (upd H a (.dK (putK kvs k v))):= .inl ⟨kvs,k,e,rfl,hl,rfl⟩
section
variable {X:Cx}{pins:List (Addr×Obj)}{σ:St}{H:Hp}{s:Shared}{a:Addr}{y v:V}{u r:Value}{o:Option V}{A:Around}{E:Value->Shared->Prop}
theorem Inv.big (I:Inv X pins σ H s):sysModules<s.heap.objs.size:=by
 have h:mainGlobals<s.heap.objs.size:=(I.mod.glob.keeps I.bk).lt
 exact Nat.lt_trans (by decide) h
theorem Pa {Q:Value->Shared->Prop}(hu:A.units+1<cLine)(I:Inv X pins σ H s)(g:Oj H a y (some v))(ry:RelV y u)(h:∀w' s',Inv X pins σ H s'->RelV v w'->Q w' s'):
 wpAny (model X.prog X.w) A (getItem (.ref a) u) Q E s:=by
 rcases g with⟨kvs,k,e,ey,l⟩|⟨kvs,k,b,e,ey,eb,l⟩
 ·subst ey
  obtain⟨z,hd,vs,rel,dd⟩:=Rb I.hok e
  obtain⟨w',hw,rw'⟩:=uP.some_of (v:=v) (o:=valueAt vs k) (by rw[l];exact rel.val k)
  exact wpAny_getItem_of (G9 ry) dd.mapOf hw (h w' _ (I.tok _) rw')
 ·subst ey
  cases(show u=Value.ref b from ry)
  obtain⟨z,hd,xs,rel,dd⟩:=Rc I.hok e
  obtain⟨w',hw,rw'⟩:=uP.some_of (v:=v) (o:=(atKey xs k).map (·.2)) (by rw[l];exact rel.val k)
  obtain⟨p,hp,hp2⟩:=Option.map_eq_some_iff.mp hw
  refine wpAny_getItem_heap (tupleKind_room_in1 hu) (Le I.hok eb) dd hp ?_
  rw[hp2]
  exact h w' _ (I.tok _) rw'
theorem GZ {h':Heap}{t':Nat}{ob:HO}(I:Inv X pins σ H s)(mu:ZQ (H a))(hs:Heap.SameBut a s.heap h')(he:∃q,h'.get? a=some q)(new:fW X.prog X.w (upd H a ob) h' a ob):
 Inv X pins σ (upd H a ob) { s with heap:=h',toks:=t' }:=
 I.write (x:=a) (e:=a) mu (.inl rfl) (λb q hb z=>(hs.2 b hb).trans z) he new
theorem Ra {P:Program}{w:World}{H':Hp}{h':Heap}{kvs:List (Key×V)}{vs:List (Key×Value)}(z:kvs.length<=sizeLine)(hd:(a==sysModules)=false)(rel:KV kvs vs)(dd:h'.DictOf (bO P w) a vs):
 fW P w H' h' a (.dK kvs):=⟨z,hd,vs,rel,dd⟩
theorem Pb {H':Hp}{Q:Unit->Shared->Prop}(hu:A.units+1<cLine)(I:Inv X pins σ H s)(g:QK H a y v H')(ry:RelV y u)(rv:RelV v r)(h:∀s',Inv X pins σ H' s'->Q () s'):
 wpAny (model X.prog X.w) A (setItem (.ref a) u r) Q E s:=by
 rcases g with⟨kvs,k,e,ey,l,eH⟩|⟨kvs,k,b,e,ey,eb,l,eH⟩
 ·subst ey eH
  obtain⟨z,hd,vs,rel,dd⟩:=J5 I.hok e
  have hz:vs.length<=sizeLine:=by rw[<-rel.length];exact z
  have hl:(putK kvs k v).length<=sizeLine:=by have:=tU kvs k v;omega
  refine wpAny_setItem_pairs (hsz:=hz) (G9 ry) dd λh' XC hs=>h _ ?_
  have he:∃q,h'.get? a=some q:=let⟨q,_,_,hq,_⟩:=XC;⟨q,hq⟩
  exact GZ I (by rw[e];exact True.intro) hs he (Ra hl hd (rel.put k rv) XC)
 ·subst ey eH
  cases(show u=Value.ref b from ry)
  obtain⟨z,hd,xs,rel,dd⟩:=a00 I.hok e
  have hz:xs.length<=sizeLine:=by rw[<-Paired.length rel];exact z
  have hl:(putK kvs k v).length<=sizeLine:=by have:=tU kvs k v;omega
  refine wpAny_setItem_heap (hsz:=hz) (tupleKind_room_in1 hu) (Le I.hok eb) dd λh' XC hs=>h _ ?_
  obtain⟨q,es,ep,hq,h2,h3,h4,_,h5⟩:=XC
  refine GZ I (by rw[e];exact True.intro) hs ⟨q,hq⟩ ⟨hl,hd,_,(rel.put k eb rv).keeps λc ys ec=>?_,q,es,ep,hq,h2,h3,h4,h5⟩
  rw[bY (a0t ec e (λz=>nomatch z))]
  exact ec
end
section
variable {X:Cx}{pins:List (Addr×Obj)}{σ:St}{H:Hp}{s:Shared}{a:Addr}{kvs:List (Key×V)}{k:Key}{u:Value}{A:Around}{E:Value->Shared->Prop}
end
def Us (i:Expr):Prop:=∀ov iv,subscripted i false ov iv=operate [ov,iv] (getItem ov iv)
theorem O3 {prog:Program}{w:World}{A:Around}{E:Value->Shared->Prop}{s:Shared}{env:Env}{value slice:Expr}{pos:Pos}{T id:String}{Q:Value->Shared->Prop}
 (hl:typeLookup (.type T) "__getitem__"=pure (some (.builtin id)))(hs:Us slice)
 (h:wpAny (model prog w) A (eval value env) (λo s₁=>wpAny (model prog w) A (eval slice env) (λi s₂=>s₂.TypeIs o T/\wpAny (model prog w) A (getItem o i) Q E s₂) E s₁) E s):
 wpAny (model prog w) A (eval (.Subscript value slice pos) env) Q E s:=by
 refine Subscript_ (wpAny_mono h (λo s₁ h₁=>wpAny_mono h₁ (λi s₂ h₂=>?_) λ_ _ x=>x) λ_ _ x=>x)
 obtain⟨hT,h₂⟩:=h₂
 unfold subscriptTail
 refine wpAny_bind ?_
 rw[getitemInPython_of_ne hT.not_modules]
 refine wpAny_bind (wpAny_specialOf hT hl ?_)
 have fin:wpAny (model prog w) A (subscripted slice false o i) (λr s₃=>wpAny (model prog w) A (letTemporaryGo value o r>>=λ_=>pure r) Q E s₃) E s₂:=by
  rw[hs o i]
  exact wpAny_operating (wpAny_mono h₂ (λr s₃ h₃=>wpAny_bind (wpAny_letTemporaryGo (wpAny_pure h₃))) λ_ _ x=>x)
 first
  |exact wpAny_pure (wpAny_bind fin)
  |exact wpAny_bind (wpAny_pure (wpAny_bind fin))
  |exact wpAny_bind fin
theorem J3 {X:Cx}{pins:List (Addr×Obj)}{σ:St}{H:Hp}{s:Shared}{a:Addr}{y:V}{o:Option V}(I:Inv X pins σ H s)(g:Oj H a y o):s.TypeIs (.ref a) "dict":=by
 rcases g with⟨kvs,k,e,_,_⟩|⟨kvs,k,b,e,_,_,_⟩
 ·obtain⟨_,_,vs,_,dd⟩:=Rb I.hok e
  exact dd.typeIs
 ·obtain⟨_,_,xs,_,dd⟩:=Rc I.hok e
  exact dd.typeIs
def a0X (td ty:TE):TE:=λσ H Q=>td σ H λx H1=>ty σ H1 λy H2=>∃a v,x= .ref a/\Oj H2 a y (some v)/\Q v H2
def a0R (td ty tv:TE):TS:=λD σ H=>tv σ H λv H1=>td σ H1 λx H2=>ty σ H2 λy H3=>∃a H4,x= .ref a/\QK H3 a y v H4/\D.nx σ H4
section
variable {X:Cx}{o i e value:Expr}{pos pos' tpos:Pos}{td ty tv:TE}
theorem VN (hu:X.A.units+1<cLine)(ho:PE X o td)(hi:PE X i ty)(hs:Us i):PE X (.Subscript o i pos) (a0X td ty):=by
 intro pins s σ H Q I h
 refine O3 PySem.F.slot_dict_getitem.lookup hs (iD (ho pins s σ H _ I h) λu s1 ⟨x,H1,I1,rx,q1⟩=>iD (hi pins s1 σ H1 _ I1 q1) λiv s2 ⟨y,H2,I2,ry,a,v,ex,g,q2⟩=>?_)
 subst ex
 obtain rfl:u=Value.ref a:=rx
 exact⟨J3 I2 g,Pa hu I2 g ry λw' s3 I3 rw'=>⟨v,H2,I3,rw',q2⟩⟩
theorem W9 (hu:X.A.units+1<cLine)(ho:PE X o td)(hi:PE X i ty)(hv:PE X value tv)(hs:swapsWith value (some (.Subscript o i pos')) pos.line X.env=pure false):
 PS X (.Assign [.Subscript o i pos'] value pos) (a0R td ty tv):=by
 intro pins s σ H D I h
 refine wpAny_Assign_Subscript (iD (hv pins s σ H _ I h) λr s1 ⟨v,H1,I1,rv,q1⟩=>iD (ho pins s1 σ H1 _ I1 q1) λu s2 ⟨x,H2,I2,rx,q2⟩=>iD (hi pins s2 σ H2 _ I2 q2) λiv s3 ⟨y,H3,I3,ry,a,H4,ex,g,q3⟩=>?_) hs
 subst ex
 obtain rfl:u=Value.ref a:=rx
 exact Pb hu I3 g ry rv λs4 I4=>⟨σ,H4,I4,q3⟩
end
theorem J4 {P:Program}{w:World}{H:Hp}(h:Heap)(hb:sysModules<h.objs.size):fW P w H (h.push { cls:= .type "dict",data:= .dict #[] }) h.objs.size (.dK []):=
 ⟨Nat.zero_le _,beq_eq_false_iff_ne.mpr (Ne.symm (Nat.ne_of_lt hb)),[],.nil,Heap.DictOf.new h⟩
def Zj:TE:=λ_ H Q=>∀p,H p=none->Q (.ref p) (upd H p (.dK []))
section
variable {X:Cx}{pos:Pos}
theorem Su:PE X (.Dict [] [] pos) Zj:=λpins s σ H Q I h=>
 wpAny_Dict_empty ⟨.ref s.heap.objs.size,_,I.laid (a:=s.heap.objs.size) (o:= .dK []) (t':=s.toks) (λ_ _ q=>Heap.get?_push_of_some _ q) (Nat.le_refl _) (J4 s.heap I.big),rfl,h _ (I.hok.fresh (Nat.le_refl _))⟩
end
def Ib:List (TE×TE)->St->Hp->(List (V×V)->Hp->Prop)->Prop
 |[],_,H,Q=>Q [] H
 |(tk,tv)::r,σ,H,Q=>tk σ H λx H1=>tv σ H1 λy H2=>Ib r σ H2 λps H3=>Q ((x,y)::ps) H3
abbrev VV:List (V×V)->List (Value×Value)->Prop:=Paired λp q=>RelV p.1 q.1/\RelV p.2 q.2
def ZR (X:Cx)(pos:Pos)(keys:List (Option Expr))(values:List Expr)(Wr:List (TE×TE)):Prop:=
 ∀(pins:List (Addr×Obj)) (s:Shared) (σ:St) (H:Hp) (Q:List (V×V)->Hp->Prop),Inv X pins σ H s->Ib Wr σ H Q->
  wpAny (model X.prog X.w) X.A (evalPairs (pairTrees keys values X.env pos)) (λvs s'=>∃ps H',Inv X pins σ H' s'/\VV ps vs/\Q ps H') X.xe s
theorem W7 {X:Cx}{pos:Pos}:ZR X pos [] [] []:=λpins s σ H Q I h=>pairTrees_nil_walk ⟨[],H,I,.nil,h⟩
theorem SX {X:Cx}{pos:Pos}{k v:Expr}{ks:List (Option Expr)}{vs:List Expr}{tk tv:TE}{Wr:List (TE×TE)}(hk:PE X k tk)(hv:PE X v tv)(hr:ZR X pos ks vs Wr):
 ZR X pos (some k::ks) (v::vs) ((tk,tv)::Wr):=λpins s σ H Q I h=>
 pairTrees_cons_walk (iD (hk pins s σ H _ I h) λu s1 ⟨x,H1,I1,rx,q1⟩=>iD (hv pins s1 σ H1 _ I1 q1) λw2 s2 ⟨y,H2,I2,ry,q2⟩=>
  iD (hr pins s2 σ H2 _ I2 q2) λws s3 ⟨ps,H3,I3,rel,q3⟩=>⟨(x,y)::ps,H3,I3,.cons ⟨rx,ry⟩ rel,q3⟩)
def rm (kvs more:List (Key×V)):List (Key×V):=more.foldl (λacc kv=>putK acc kv.1 kv.2) kvs
theorem KV.merge:∀{more:List (Key×V)}{rs:List (Key×Value)}{kvs:List (Key×V)}{vs:List (Key×Value)},KV more rs->KV kvs vs->KV (rm kvs more) (merged vs rs):=by
 intro more rs kvs vs r
 unfold KV at r
 induction r generalizing kvs vs with
 |nil=>intro q;exact q
 |@cons p q ps qs h t ih=>
  intro r0
  have e:KV (putK kvs p.1 p.2) (stored vs q.1 q.2):=by
   have:=r0.put p.1 h.2
   rw[<-h.1];exact this
  exact ih e
theorem uX:∀(more kvs:List (Key×V)),(rm kvs more).length<=kvs.length+more.length
 |[],kvs=>by show kvs.length<=kvs.length+0;omega
 |p::r,kvs=>by
  have h1:=uX r (putK kvs p.1 p.2)
  have h2:=tU kvs p.1 p.2
  show(rm (putK kvs p.1 p.2) r).length<=_
  rw[List.length_cons];omega
theorem Bm {P:Program}{w:World}:∀{kvs:List (Key×V)}{ws:List (Value×Value)},VV (kvs.map λkv=>(kV kv.1,kv.2)) ws->∃rs,Carries (bO P w) ws rs/\KV kvs rs
 |[],_,r=>by rw[List.map_nil]at r;cases r;exact⟨[],True.intro,.nil⟩
 |p::kvs,_,r=>by
  rw[List.map_cons]at r
  cases r with
  |@cons a b as bs h t=>
   obtain⟨rs,c,q⟩:=Bm (P:=P) (w:=w) t
   obtain⟨b1,b2⟩:=b
   exact⟨(p.1,b2)::rs,⟨G9 h.1,rfl,c⟩,.cons ⟨rfl,h.2⟩ q⟩
def a0Y (Wr:List (TE×TE)):TE:=λσ H Q=>∀p,H p=none->Ib Wr σ (upd H p (.dK [])) λps H2=>H2 p=some (.dK [])/\∃kvs:List (Key×V),ps=kvs.map (λkv=>(kV kv.1,kv.2))/\kvs.length<=15/\Q (.ref p) (upd H2 p (.dK (rm [] kvs)))
theorem VP {X:Cx}{pos:Pos}{keys:List (Option Expr)}{values:List Expr}{Wr:List (TE×TE)}(h:ZR X pos keys values Wr)(hall:keys.all (·.isSome)=true)(hl:keys.length=values.length)(h0:keys≠[])
 (h15:keys.length<=15):PE X (.Dict keys values pos) (a0Y Wr):=by
 intro pins s σ H Q I q
 have hn:=I.hok.fresh (Nat.le_refl s.heap.objs.size)
 have I1:=I.laid (a:=s.heap.objs.size) (o:= .dK []) (h':=s.heap.push { cls:= .type "dict",data:= .dict #[] }) (t':=s.toks) (λ_ _ q=>Heap.get?_push_of_some _ q) (Nat.le_refl _) (J4 s.heap I.big)
 refine wpAny_Dict_walk (knd:=bO X.prog X.w) hall hl h0 h15 (iD (h pins _ σ _ _ I1 (q _ hn)) λws s2 ⟨ps,H2,I2,rel,e,kvs,ep,lk,q2⟩=>?_)
 subst ep
 obtain⟨rs,c,rk⟩:=Bm (P:=X.prog) (w:=X.w) rel
 obtain⟨z,hd,vs0,r0,dd⟩:=J5 I2.hok e
 cases r0
 refine⟨rs,c,dd,λh' XC hs=>⟨.ref s.heap.objs.size,_,?_,rfl,q2⟩⟩
 have hz:(rm [] kvs).length<=sizeLine:=by
  have h1:=uX kvs []
  rw[List.length_nil]at h1
  rw[sizeLine_eq];omega
 have he:∃q,h'.get? s.heap.objs.size=some q:=let⟨q,_,_,hq,_⟩:=XC;⟨q,hq⟩
 exact GZ I2 (by rw[e];exact True.intro) hs he (Ra hz hd (rk.merge .nil) XC)
section
variable {X:Cx}{pins:List (Addr×Obj)}{σ:St}{H:Hp}{s:Shared}{a:Addr}{y d:V}{u r:Value}{o:Option V}{A:Around}{E:Value->Shared->Prop}
end
section
variable {X:Cx}{o e f:Expr}{apos cpos:Pos}{td ty tx:TE}
end
section
variable {X:Cx}{pins:List (Addr×Obj)}{σ:St}{H:Hp}{s:Shared}{a:Addr}{kvs:List (Key×V)}{A:Around}{E:Value->Shared->Prop}
end
section
variable {X:Cx}{pins:List (Addr×Obj)}{σ:St}{H:Hp}{s:Shared}{a:Addr}{y:V}{u:Value}{A:Around}{E:Value->Shared->Prop}
end
end L2
namespace Att
open PySem PySem.W PySem.Calls PyProof.Rows
theorem zY {P:Params}{h:Heap}:∀(ns:List Int) (vs:List Value),WellAll P h vs (ns.map WData.int)->IntsAre vs ns:=by
 intro ns
 induction ns with
 |nil=>
  intro vs w
  rw[List.map_nil]at w
  cases w
  exact .nil
 |cons n ns ih=>
  intro vs w
  rw[List.map_cons]at w
  cases w with
  |cons a b=>
   cases a
   exact .cons _ _ (ih _ b)
theorem Qm {l:OpenLaw}{n:Nat}(hn:l.most=some n){P:Params}{h:Heap}{args:List WData}{vals:List Value}
 (hpre:l.row.toRowW.claim.pre args=true)(hwl:WellAll P h vals args):
 ∃a vs ns,vals=[Value.ref a]/\args=[WData.list (ns.map WData.int)]/\h.get? a=some { cls:= .type "list",data:= .seq vs.toArray }/\IntsAre vs ns/\ns.length<=n:=by
 have hsh:WShape.hasAll [] args [.list .int]=true:=(pre_splitW hpre).1
 have hc:l.pre.holds [] { args:=args }=true:=(pre_splitW hpre).2
 obtain⟨d,r,rfl,h1,h2⟩:=hasAllW_cons hsh
 obtain rfl:=hasAllW_nil h2
 obtain⟨xs,rfl,h3⟩:=hasW_list h1
 obtain⟨ns,rfl⟩:=items_int h3
 have hlen:ns.length<=n:=by
  unfold OpenLaw.pre at hc
  have h4:(WTm.not (.lt (.lit (.int (n:Int))) (.len (.arg 0)))).holds [] { args:=[.list (ns.map .int)] }=true:=by
   have h4:=(holds_andW hc).1
   rw[hn]at h4
   exact h4
  have h5:=condW_of h4 (w_not (w_lt w_lit (w_len_list (w_arg rfl))))
  rw[List.length_map]at h5
  refine Nat.le_of_not_lt λq=>?_
  have q':(n:Int)<((ns.length:Nat):Int):=by omega
  first
   |(rw[decide_eq_true q']at h5;exact absurd h5 (by decide))
   |(simp at h5;omega)
 cases hwl with
 |cons w1 w2=>
  cases w2
  cases w1 with
  |list ho hall=>exact⟨_,_,ns,rfl,rfl,ho,zY ns _ hall,hlen⟩
theorem Qi (l:OpenLaw)(args:List WData):l.row.toRowW.claim.post args (.bool true) args=true:=
 postW_of (r:=l.row.toRowW) (X:=(true==true))
  (show WShape.has [] (.bool true) .bool=true by first|rfl|decide|simp[WShape.has,WShape.arms,WShape.armsAll])
  (show(WTm.eq .res (.lit (.bool true))).value [] { args:=args,res:=some (.bool true),after:=args }=some (.bool (true==true)) from w_eq_bool (w_res rfl) w_lit) rfl
theorem Iu {l:OpenLaw}{n:Nat}{q:Program}{loose:List Str}{XP:(Str->Option Value)->Heap->Prop}{YP:World->Heap->Prop}{d:DefRec}
 (hn:l.most=some n)(hdf:d.params.defaults=[])
 (call:∀(w:World) (s₀ s₁:Shared) (mg mb:Str->Option Value) (fa:Addr) (o:Obj) (pm cd doc:Value) (a:Addr) (vs:List Value) (ns:List Int),
  Ground q loose [] XP w s₀ mg mb s₁.heap->YP w s₁.heap->
  s₁.heap.get? fa=some o->o.data= .func (docDef d.name d.params d.body d.scope pm cd doc)->s₁.heap.CodeRec cd d.name->mg d.name=some (.ref fa)->
  s₁.heap.get? a=some { cls:= .type "list",data:= .seq vs.toArray }->IntsAre vs ns->ns.length<=n->s₁.gens=#[]->
  codeAny (model l.prog w) callerA (.call (.ref fa) ⟨[.ref a],[]⟩) (λr s'=>r= .ok (.ret (.bool true))/\OldK s₁.heap s'.heap/\s'.os=s₁.os/\AllBare s'.gens) s₁):
 WalkO q loose XP YP l.row.toRowW d [] (λf vs=>PySem.call f vs):=by
 intro w s₀ s₁ mg mb G Y fa o pm cd doc dV kV ho hd hcd hD hmg hg args vals as hpre hlay hrd hwl hlo
 obtain rfl:dV= .none:=Dflts.none hD hdf
 obtain rfl:kV= .none:=Dflts.noKw hD
 obtain⟨a,vs,ns,rfl,rfl,hobj,hints,hlen⟩:=Qm hn hpre hwl
 refine enter_call (codeAny_mono (call w s₀ s₁ mg mb fa o pm cd doc a vs ns G Y ho (fd_plain hd) hcd hmg hobj hints hlen hg) λr s' hq=>?_)
 obtain⟨rfl,h2,h3,h4⟩:=hq
 exact⟨.inl ⟨.bool true,.bool true,[],rfl,λ_=>rfl,.bool true,Qi l _,λ_=>⟨List.Pairwise.nil,λ_ hm=>(nomatch hm)⟩⟩,h2,h3,h4⟩
section
variable {prog:Program}{w:World}{A:Around}{E:Value->Shared->Prop}{s:Shared}{K:Frag}
end
end Att
namespace L2
open PySem PySem.Spec PyProof.Rows
theorem Gx:∀{vs:List Value}{ns:List Int},IntsAre vs ns->Vals (ns.map V.int) vs
 |_,_,.nil=> .nil
 |_,_,.cons n t h=> .cons ⟨t,rfl⟩ (Gx h)
def Only (H:Hp):Prop:=∀b,H b=none\/∃o xs,H b=some (.Av o (.lst xs))
theorem RJ {P:Program}{w:World}{K:Fg}{mg mb:Str->Option Value}{CX:Oi}{k:Nat}{fa a:Addr}{fd:FuncData}{x:Str}{sp:Sp}{s₁:Shared}{vs:List Value}{ns:List Int}
 (KX:K.In s₁.heap)(hns:s₁.heap.Ns mainGlobals mg)(hb:s₁.heap.Ns builtinsNs mb)(hbb:∀x:Str,x≠"__name__"->mb x=bootBuiltins x)(hlim:s₁.heap.NoLimit)(hg:s₁.gens=#[])
 (ha:s₁.heap.get? a=some { cls:= .type "list",data:= .seq vs.toArray })(hi:IntsAre vs ns)(hl:ns.length<=sizeLine)(hr:gY k callerA)
 (F:∀base:Heap,K.In base->base.Ns mainGlobals mg->cU P w K mg base CX k fa fd [x] sp)(hbind:∀(s:Shared) (u:Value),BindsTo s fd ⟨[u],[]⟩ [(x,u)])
 (hsp:∀H:Hp,Only H->qK K H a (ns.map V.int)->sp [.ref a] H (λv _=>v= .bl true) λ_ _ _=>False)
 (hCX:∀H e s',CX [] H s₁ (λ_ _ _=>False) e s'->False):
 codeAny (model P w) callerA (.call (.ref fa) ⟨[.ref a],[]⟩) (λr s'=>r= .ok (.ret (.bool true))/\OldK s₁.heap s'.heap/\s'.os=s₁.os/\AllBare s'.gens) s₁:=by
 have rv:=Gx hi
 have lenV:=hi.length
 have core:∀H:Hp,Only H->qK K H a (ns.map V.int)->uU P w H s₁.heap->(∀b,H b≠none->b=a)->(H a≠none->K.lookup a=none)->
  codeAny (model P w) callerA (.call (.ref fa) ⟨[.ref a],[]⟩) (λr s'=>r= .ok (.ret (.bool true))/\OldK s₁.heap s'.heap/\s'.os=s₁.os/\AllBare s'.gens) s₁:=by
  intro H hO hS hok hA hK
  have Ms:∀{b:Addr}{o:Obj},s₁.heap.get? b=some o->H b=none->(Hl s₁.heap H).get? b=some o:=λe n=>Ru e n
  have noA:∀{b:Addr}{o:Obj}{es:Array DictEntry}{ep:Nat},s₁.heap.get? b=some o->o.data= .dict es ep->H b=none:=λ{b o es ep} e d=>by
   cases q:H b with
   |none=>rfl
   |some u=>
    have e':b=a:=hA b (by rw[q];simp)
    subst e'
    rw[ha]at e;cases e
    have d':Data.seq vs.toArray _=Data.dict es ep:=d
    cases d'
  have nsK:∀{b:Addr}{m:Str->Option Value},s₁.heap.Ns b m->(Hl s₁.heap H).Ns b m:=λ{b m} ⟨o,es,ep,e,d,r⟩=>⟨o,es,ep,Ms e (noA e d),d,r⟩
  have hKb:K.In (Hl s₁.heap H):=λb o e=>Ms (KX b o e) (by
   cases q:H b with
   |none=>rfl
   |some u=>
    have e':b=a:=hA b (by rw[q];simp)
    subst e'
    rw[hK (by rw[q];simp)]at e;cases e)
  have hM:Mod K mg (Hl s₁.heap H):=⟨hKb,nsK hns,⟨mb,nsK hb,hbb⟩,let⟨mc,h1,h2⟩:=hlim;⟨mc,nsK h1,h2⟩⟩
  have e0:Kg P w K mg (Hl s₁.heap H) callerA [] s₁ H:=⟨rfl,hM,λb o e=>Vv e,Nat.le_of_eq (Py _ _),trivial,λb hb=>absurd (show b∈([]:List Addr) from hb) (by simp),hok,.of_eq hg⟩
  refine codeAny_mono ((F _ hKb (nsK hns)).run callerA [] s₁ H ⟨[.ref a],[]⟩ [.ref a] [.ref a] _ _ hr e0 (hbind s₁ (.ref a)) (.cons rfl .nil) (hsp H hO hS)) λr s' h=>?_
  cases r with
  |error e=>exact(hCX H e s' h).elim
  |ok fl=>
   cases fl with
   |next=>exact False.elim h
   |brk=>exact False.elim h
   |cont=>exact False.elim h
   |ret u=>
    obtain⟨v,H',os,bare,un,hok',r',q⟩:=h
    have q':v= .bl true:=q
    subst q'
    obtain rfl:u=Value.bool true:=r'
    refine⟨rfl,OldK.of_keep λb o e=>?_,os,bare⟩
    cases q:H b with
    |none=>exact un.keep b o e q (by intro z;exact absurd (show b∈([]:List Addr) from z) (by simp)) (by simp)
    |some u=>
     rcases hO b with z|⟨ob,xs,z⟩
     ·rw[q]at z;cases z
     ·have z2:=un.Ec b ob _ z
      obtain⟨e1,_⟩:=hok b _ z
      obtain⟨e2,_⟩:=hok' b _ z2
      rw[e]at e1;cases e1
      exact e2
 cases hk:K.lookup a with
 |some o=>
  have e:=KX a o hk
  rw[ha]at e
  cases e
  refine core (λ_=>none) (λ_=> .inl rfl) (.inr ⟨_,vs.toArray,_,hk,rfl,rfl,rfl,by rw[List.size_toArray,lenV];exact hl,by simpa using rv⟩) (λb u z=>by have z':(none:Option HO)=some u:=z;cases z') (λb z=>absurd rfl z) λz=>absurd rfl z
 |none=>
  refine core (λb=>if b=a then some (.Av { cls:= .type "list",data:= .seq vs.toArray } (.lst (ns.map V.int)))else none) (λb=>?_) (.inl (.inr ⟨{ cls:= .type "list",data:= .seq vs.toArray },if_pos rfl⟩)) (λb u z=>?_) (λb z=>?_) λ_=>hk
  ·by_cases hb:b=a
   ·exact .inr ⟨_,_,if_pos hb⟩
   ·exact .inl (if_neg hb)
  ·by_cases hb:b=a
   ·have z':=(if_pos hb).symm.trans z
    cases z'
    subst hb
    exact⟨ha,by rw[List.length_map];exact hl,vs,_,rv,ha⟩
   ·have z':=(if_neg hb).symm.trans z
    cases z'
  ·by_cases hb:b=a
   ·exact hb
   ·exact absurd (if_neg hb) z
end L2
namespace L2
open PySem PySem.Spec PyProof.Rows
theorem WD {l:PySem.W.OpenLaw}{n k:Nat}{q:Program}{loose:List Str}{XP:(Str->Option Value)->Heap->Prop}{YP:World->Heap->Prop}{d:DefRec}{K:Params->Fg}{CX:World->Oi}{sp:World->Sp}{x:Str}
 (hn:l.most=some n)(hn2:n<=sizeLine)(hdf:d.params.defaults=[])(hr:gY k callerA)
 (hY:∀(w:World) (h:Heap),YP w h->(K w.params).In h)
 (F:∀(w:World) (mg:Str->Option Value) (fa:Addr) (h:Heap),(K w.params).In h->h.Ns mainGlobals mg->mg d.name=some (.ref fa)->
  ∃fd:FuncData,(∀(s:Shared) (u:Value),BindsTo s fd ⟨[u],[]⟩ [(x,u)])/\
   ∀base:Heap,(K w.params).In base->base.Ns mainGlobals mg->cU l.prog w (K w.params) mg base (CX w) k fa fd [x] (sp w))
 (hsp:∀(w:World) (H:Hp) (a:Addr) (ns:List Int),ns.length<=n->Only H->qK (K w.params) H a (ns.map V.int)->sp w [.ref a] H (λv _=>v= .bl true) λ_ _ _=>False)
 (hCX:∀(w:World) (H:Hp) (s:Shared) (e:Value) (s':Shared),CX w [] H s (λ_ _ _=>False) e s'->False):
 PySem.W.WalkO q loose XP YP l.row.toRowW d [] (λf vs=>PySem.call f vs):=by
 refine Att.Iu hn hdf λw s₀ s₁ mg mb fa o pm cd doc a vs ns G Y ho hd hcd hmg hobj hints hlen hg=>?_
 have KX:=hY w _ Y
 obtain⟨fd,hb,hF⟩:=F w mg fa _ KX G.T.g hmg
 exact RJ KX G.T.g G.T.b G.T.builtins G.T.nolimit hg hobj hints (Nat.le_trans hlen hn2) hr hF hb (λH hO hS=>hsp w H a ns hlen hO hS) λH e s'=>hCX w H s₁ e s'
end L2
namespace L2
open PySem PySem.Spec PyProof.Rows
def inClass (s:Stmt)(j:Nat):Stmt:=match s with
 | .ClassDef _ _ _ body _ _ _ _ _ _ _=>body.getD j (.Pass ⟨0,0,0,0⟩)
 |_=> .Pass ⟨0,0,0,0⟩
def bK (s:Stmt):Arguments:=match s with
 | .FunctionDef _ a _ _ _ _ _ _ _ _=>a
 |_=>{ posonlyargs:=[],args:=[],vararg:=none,kwonlyargs:=[],kw_defaults:=[],kwarg:=none,defaults:=[] }
def bz (s:Stmt):List Stmt:=match s with
 | .FunctionDef _ _ b _ _ _ _ _ _ _=>b
 |_=>[]
def aF (s:Stmt):Scope:=match s with
 | .FunctionDef _ _ _ _ _ _ sc _ _ _=>sc
 |_=>{ kind:= .function,names:=[],isGenerator:=false,isCoroutine:=false }
abbrev j9:Oi:=λ_ _ _ _ _ _=>False
abbrev E0:XK:=λ_ _ _=>False
theorem JM {X:Cx}:Passes j9 X E0:=λ_ _ _ _ _ _ _ h=>h.elim
structure nW (K:Fg)(x qual:Str)(st:Stmt)(f:Addr)(fd:FuncData):Prop where
 ex:∃(oc:Value) (od:Option Addr) (kV doc pm:Value) (an:Option Addr) (cdv ct:Value) (osl:Array (Option Value)),
  fd=PySem.W.fnOf x qual (bK st) (bz st) (aF st) .none kV doc pm an cdv ct/\K.lookup f=some ⟨oc,od,.func fd,osl⟩/\PySem.W.codeIn K cdv qual=true
 kp:PySem.W.keepIn K (.ref f)=true
section
variable {P:Program}{w:World}{K:Fg}{mg:Str->Option Value}{base:Heap}
theorem nW.ok {x qual:Str}{st:Stmt}{f:Addr}{fd:FuncData}{N ps:List Str}{k:Nat}{sp:Sp}(F:nW K x qual st f fd)(S:bI N ps (aF st))(len:∀vs H Q E,sp vs H Q E->vs.length=ps.length)
 (hbody:∀(cdv:Value) (A:Around) (outer:List Env) (s:Shared) (H:Hp) (vs:List V) (Q:VK) (E:XK),gY k (A.deeper (envOfC qual (aF st) s.heap.objs.size f cdv))->sp vs H Q E->
  ∃t,yF (yN j9 P w K mg base N qual (aF st) f cdv A outer s H E).QJ (bz st) t/\t { nx:=λ_ H'=>Q .non H',rt:=Q } (start N vs) H):cU P w K mg base j9 (k+1) f fd ps sp:=by
 obtain⟨oc,od,kV,doc,pm,an,cdv,ct,osl,rfl,lk,hcd⟩:=F.ex
 refine X3 lk hcd S len λA outer s H vs Q E hr hsp=>?_
 obtain⟨t,h,q⟩:=hbody cdv A outer s H vs Q E hr hsp
 exact⟨t,h.QJ,q⟩
theorem nW.binds {x qual:Str}{st:Stmt}{f:Addr}{fd:FuncData}{ps:List Str}(F:nW K x qual st f fd)
 (h:∀(kV doc pm:Value) (an:Option Addr) (cdv ct:Value) (us:List Value),us.length=ps.length->bindArgs (PySem.W.fnOf x qual (bK st) (bz st) (aF st) .none kV doc pm an cdv ct) ⟨us,[]⟩=pure (ps.zip us)):Binds K fd ps []:=by
 obtain⟨oc,od,kV,doc,pm,an,cdv,ct,osl,rfl,lk,hcd⟩:=F.ex
 exact .all (h kV doc pm an cdv ct)
theorem cO {x qual:Str}{st:Stmt}{f:Addr}{oc:Value}{od an:Option Addr}{osl:Array (Option Value)}{kV doc pm cdv ct:Value}(l:K.lookup f=some ⟨oc,od,.func (PySem.W.fnOf x qual (bK st) (bz st) (aF st) .none kV doc pm an cdv ct),osl⟩)
 (c:PySem.W.codeIn K cdv qual=true)(k:PySem.W.keepIn K (.ref f)=true):nW K x qual st f (PySem.W.fnOf x qual (bK st) (bz st) (aF st) .none kV doc pm an cdv ct):=⟨⟨oc,od,kV,doc,pm,an,cdv,ct,osl,rfl,l,c⟩,k⟩
end
section
variable {X:Cx}
theorem pv (i:Nat){x:Str}{pos:Pos}(hN:X.N[i]?=some x:=by rfl)(hv:ZX X.env.scope x:=by first|exact Or.inl rfl|exact Or.inr (Or.inl rfl)|exact Or.inr (Or.inr rfl))(hd:(x==("__debug__":Str))=false:=by decide)
 (hcd:(x==("__classdict__":Str))=false:=by decide):PE X (.Name x pos) (Ep i):=YM hN hv hd hcd
end
theorem La {A B:Prop}(h:B):if false=true then A else B:=by
 rw[if_neg Bool.false_ne_true]
 exact h
theorem Lb {A B:Prop}(h:A):if true=true then A else B:=by
 rw[if_pos rfl]
 exact h
def bV (H H':Hp):Prop:=∀b o,H b=some o->H' b=some o
theorem bV.refl (H:Hp):bV H H:=λ_ _ h=>h
theorem bV.trans {H H1 H2:Hp}(a:bV H H1)(b:bV H1 H2):bV H H2:=λc o h=>b c o (a c o h)
theorem bV.free {H H':Hp}(e:bV H H'){l:Addr}(h:H' l=Option.none):H l=Option.none:=by
 cases q:H l with
 |none=>rfl
 |some o=>
  rw[e l o q]at h
  cases h
section
variable {κ:Type} [DecidableEq κ]
end
end L2
namespace DL
open PySem PySem.Spec PyProof.Rows L2
inductive D where
 |non
 |bl (b:Bool)
 |int (i:Int)
 |str (x:Str)
 |tup (l:List D)
 |lst (l:List D)
 |dct (ks:List Key) (l:List D)
 |ins (C:Addr) (ks:List Str) (l:List D)
 |uR (l:List Int)
abbrev KL (K:Fg)(a:Addr)(xs:List V):Prop:=
 ∃(o:Obj) (its:Array Value) (n:Nat),K.lookup a=some o/\o.cls= .type "list"/\o.dict=none/\o.data= .seq its n/\its.size<=sizeLine/\Vals xs its.toList
def ZW (K:Fg)(H:Hp)(a:Addr)(xs:List V):Prop:=(∃o,H a=some (.Av o (.lst xs)))\/KL K a xs
theorem ZW.sq {K:Fg}{H:Hp}{a:Addr}{xs:List V}(h:ZW K H a xs):qK K H a xs:=by
 rcases h with h|h
 ·exact .inl (.inr h)
 ·exact .inr h
mutual
def Rep (O:Addr->Prop)(K:Fg)(H:Hp):D->V->Prop
 | .non,v=>v= .non
 | .bl b,v=>v= .bl b
 | .int i,v=>v= .int i
 | .str x,v=>v= .str x
 | .tup l,v=>∃a vs,v= .ref a/\vW K H a vs/\aV O K H l vs
 | .lst l,v=>∃a vs,v= .ref a/\(H a=some (.lst vs)/\¬O a)/\aV O K H l vs
 | .dct ks l,v=>∃a vs,v= .ref a/\(H a=some (.dK (ks.zip vs))/\¬O a)/\ks.length=vs.length/\aV O K H l vs
 | .ins C ks l,v=>∃a dx vs,v= .ref a/\H a=some (.ins C dx (ks.zip vs))/\ks.length=vs.length/\aV O K H l vs
 | .uR l,v=>∃a,v= .ref a/\ZW K H a (l.map V.int)
def aV (O:Addr->Prop)(K:Fg)(H:Hp):List D->List V->Prop
 |[],vs=>vs=[]
 |d::l,vs=>∃v r,vs=v::r/\Rep O K H d v/\aV O K H l r
end
def pP (O:Addr->Prop)(H H':Hp):Prop:=∀b u,H b=some u->H' b=some u\/(O b/\((∃xs,u= .lst xs)\/∃kvs,u= .dK kvs))
theorem bV.keep {O:Addr->Prop}{H H':Hp}(h:bV H H'):pP O H H':=λb u e=> .inl (h b u e)
theorem pP.Ob {O:Addr->Prop}{H:Hp}{p:Addr}{xs:List V}{o:HO}(hO:O p)(h:H p=some (.lst xs)):pP O H (upd H p o):=λb u e=>by
 by_cases hb:b=p
 ·subst hb
  rw[h]at e
  cases e
  exact .inr ⟨hO,.inl ⟨_,rfl⟩⟩
 ·exact .inl (by rw[bY hb];exact e)
theorem pP.Oa {O:Addr->Prop}{H:Hp}{p:Addr}{xs:List (Key×V)}{o:HO}(hO:O p)(h:H p=some (.dK xs)):pP O H (upd H p o):=λb u e=>by
 by_cases hb:b=p
 ·subst hb
  rw[h]at e
  cases e
  exact .inr ⟨hO,.inr ⟨_,rfl⟩⟩
 ·exact .inl (by rw[bY hb];exact e)
section
variable {O O':Addr->Prop}{K:Fg}{H H':Hp}
theorem pP.a2d {a:Addr}{vs:List V}(k:pP O H H')(h:vW K H a vs):vW K H' a vs:=by
 rcases h with(h|⟨o,h⟩)|h
 ·rcases k a _ h with z|⟨_,⟨_,z⟩|⟨_,z⟩⟩
  ·exact .inl (.inl z)
  ·cases z
  ·cases z
 ·rcases k a _ h with z|⟨_,⟨_,z⟩|⟨_,z⟩⟩
  ·exact .inl (.inr ⟨o,z⟩)
  ·cases z
  ·cases z
 ·exact .inr h
theorem pP.a0s {a:Addr}{u:HO}(k:pP O H H')(h:H a=some u/\¬O a):H' a=some u:=by
 rcases k a _ h.1 with z|⟨z,_⟩
 ·exact z
 ·exact absurd z h.2
theorem pP.uR {a:Addr}{xs:List V}(k:pP O H H')(h:ZW K H a xs):ZW K H' a xs:=by
 rcases h with⟨o,h⟩|h
 ·rcases k a _ h with z|⟨_,⟨_,z⟩|⟨_,z⟩⟩
  ·exact .inl ⟨o,z⟩
  ·cases z
  ·cases z
 ·exact .inr h
mutual
theorem Rep.keep (hO:∀a,O' a->O a)(k:pP O H H'):∀(d:D) {v:V},Rep O K H d v->Rep O' K H' d v
 | .non,_,h=>h
 | .bl _,_,h=>h
 | .int _,_,h=>h
 | .str _,_,h=>h
 | .tup l,_,h=>by
   obtain⟨a,vs,e,h1,h2⟩:=h
   exact⟨a,vs,e,k.a2d h1,aV.keep hO k l h2⟩
 | .lst l,_,h=>by
   obtain⟨a,vs,e,h1,h2⟩:=h
   exact⟨a,vs,e,⟨k.a0s h1,λz=>h1.2 (hO a z)⟩,aV.keep hO k l h2⟩
 | .dct ks l,_,h=>by
   obtain⟨a,vs,e,h1,h3,h2⟩:=h
   exact⟨a,vs,e,⟨k.a0s h1,λz=>h1.2 (hO a z)⟩,h3,aV.keep hO k l h2⟩
 | .ins C ks l,_,h=>by
   obtain⟨a,dx,vs,e,h1,h3,h2⟩:=h
   refine⟨a,dx,vs,e,?_,h3,aV.keep hO k l h2⟩
   rcases k a _ h1 with z|⟨_,⟨_,z⟩|⟨_,z⟩⟩
   ·exact z
   ·cases z
   ·cases z
 | .uR l,_,h=>by
   obtain⟨a,e,h1⟩:=h
   exact⟨a,e,k.uR h1⟩
theorem aV.keep (hO:∀a,O' a->O a)(k:pP O H H'):∀(l:List D) {vs:List V},aV O K H l vs->aV O' K H' l vs
 |[],_,h=>h
 |d::l,_,h=>by
  obtain⟨v,r,e,h1,h2⟩:=h
  exact⟨v,r,e,Rep.keep hO k d h1,aV.keep hO k l h2⟩
end
theorem Rep.mono {d:D}{v:V}(hs:bV H H')(h:Rep O K H d v):Rep O K H' d v:=Rep.keep (λ_ z=>z) (bV.keep hs) d h
theorem aV.mono {l:List D}{vs:List V}(hs:bV H H')(h:aV O K H l vs):aV O K H' l vs:=aV.keep (λ_ z=>z) (bV.keep hs) l h
theorem Rep.weak {d:D}{v:V}(hO:∀a,O' a->O a)(h:Rep O K H d v):Rep O' K H d v:=Rep.keep hO (bV.keep (bV.refl H)) d h
theorem aV.weak {l:List D}{vs:List V}(hO:∀a,O' a->O a)(h:aV O K H l vs):aV O' K H l vs:=aV.keep hO (bV.keep (bV.refl H)) l h
def flat:D->Bool
 | .tup l=>flats l
 | .lst _=>false
 | .dct _ _=>false
 | .ins _ _ _=>false
 | .uR _=>false
 |_=>true
where
 flats:List D->Bool
 |[]=>true
 |d::l=>flat d&&flats l
mutual
theorem Rep.cX:∀(d:D) {v:V},flat d=true->Rep O K H d v->Rep O' K H d v
 | .non,_,_,h=>h
 | .bl _,_,_,h=>h
 | .int _,_,_,h=>h
 | .str _,_,_,h=>h
 | .tup l,_,f,h=>by
   obtain⟨a,vs,e,h1,h2⟩:=h
   exact⟨a,vs,e,h1,aV.cX l (by simpa only[flat]using f) h2⟩
 | .lst l,_,f,h=>by simp[flat]at f
 | .dct ks l,_,f,h=>by simp[flat]at f
 | .ins C ks l,_,f,h=>by simp[flat]at f
 | .uR l,_,f,h=>by simp[flat]at f
theorem aV.cX:∀(l:List D) {vs:List V},flat.flats l=true->aV O K H l vs->aV O' K H l vs
 |[],_,_,h=>h
 |d::l,_,f,h=>by
  obtain⟨v,r,e,h1,h2⟩:=h
  simp only[flat.flats,Bool.and_eq_true]at f
  exact⟨v,r,e,Rep.cX d f.1 h1,aV.cX l f.2 h2⟩
end
mutual
theorem Rep.join {p:Addr}(hp:H p=none):∀(d:D) {v:V},Rep O K H d v->Rep (λa=>O a\/a=p) K H d v
 | .non,_,h=>h
 | .bl _,_,h=>h
 | .int _,_,h=>h
 | .str _,_,h=>h
 | .tup l,_,h=>by
   obtain⟨a,vs,e,h1,h2⟩:=h
   exact⟨a,vs,e,h1,aV.join hp l h2⟩
 | .lst l,_,h=>by
   obtain⟨a,vs,e,h1,h2⟩:=h
   refine⟨a,vs,e,⟨h1.1,λz=>z.elim h1.2 λz=>?_⟩,aV.join hp l h2⟩
   rw[<-z,h1.1]at hp;cases hp
 | .dct ks l,_,h=>by
   obtain⟨a,vs,e,h1,h3,h2⟩:=h
   refine⟨a,vs,e,⟨h1.1,λz=>z.elim h1.2 λz=>?_⟩,h3,aV.join hp l h2⟩
   rw[<-z,h1.1]at hp;cases hp
 | .ins C ks l,_,h=>by
   obtain⟨a,dx,vs,e,h1,h3,h2⟩:=h
   exact⟨a,dx,vs,e,h1,h3,aV.join hp l h2⟩
 | .uR l,_,h=>h
theorem aV.join {p:Addr}(hp:H p=none):∀(l:List D) {vs:List V},aV O K H l vs->aV (λa=>O a\/a=p) K H l vs
 |[],_,h=>h
 |d::l,_,h=>by
  obtain⟨v,r,e,h1,h2⟩:=h
  exact⟨v,r,e,Rep.join hp d h1,aV.join hp l h2⟩
end
theorem aV.length:∀{l:List D}{vs:List V},aV O K H l vs->l.length=vs.length
 |[],_,h=>by subst h;rfl
 |d::l,_,h=>by
  obtain⟨v,r,rfl,_,h2⟩:=h
  simp[aV.length h2]
theorem aV.get:∀{l:List D}{vs:List V}{i:Nat}{d:D},aV O K H l vs->l[i]?=some d->∃v,vs[i]?=some v/\Rep O K H d v
 |[],_,_,_,_,e=>by simp at e
 |d::l,_,0,_,h,e=>by
  obtain⟨v,r,rfl,h1,h2⟩:=h
  simp at e;subst e
  exact⟨v,rfl,h1⟩
 |d::l,_,i+1,_,h,e=>by
  obtain⟨v,r,rfl,h1,h2⟩:=h
  obtain⟨w,a,b⟩:=aV.get (i:=i) h2 (by simpa using e)
  exact⟨w,by simpa using a,b⟩
theorem aV.Pu:∀{l:List D}{vs:List V}{i:Nat}{v:V},aV O K H l vs->vs[i]?=some v->∃d,l[i]?=some d/\Rep O K H d v
 |[],_,_,_,h,e=>by subst h;simp at e
 |d::l,_,0,_,h,e=>by
  obtain⟨v,r,rfl,h1,h2⟩:=h
  simp at e;subst e
  exact⟨d,rfl,h1⟩
 |d::l,_,i+1,_,h,e=>by
  obtain⟨v,r,rfl,h1,h2⟩:=h
  obtain⟨w,a,b⟩:=aV.Pu (i:=i) h2 (by simpa using e)
  exact⟨w,by simpa using a,b⟩
theorem aV.append:∀{l l':List D}{vs vs':List V},aV O K H l vs->aV O K H l' vs'->aV O K H (l++l') (vs++vs')
 |[],_,_,_,h,h'=>by subst h;exact h'
 |d::l,_,_,_,h,h'=>by
  obtain⟨v,r,rfl,h1,h2⟩:=h
  exact⟨v,_,rfl,h1,aV.append h2 h'⟩
theorem aV.one {d:D}{v:V}(h:Rep O K H d v):aV O K H [d] [v]:=⟨v,[],rfl,h,rfl⟩
theorem aV.take:∀{l:List D}{vs:List V} (n:Nat),aV O K H l vs->aV O K H (l.take n) (vs.take n)
 |[],_,n,h=>by subst h;simp[aV]
 |d::l,_,0,h=>by simp[aV]
 |d::l,_,n+1,h=>by
  obtain⟨v,r,rfl,h1,h2⟩:=h
  exact⟨v,_,rfl,h1,aV.take n h2⟩
theorem aV.drop:∀{l:List D}{vs:List V} (n:Nat),aV O K H l vs->aV O K H (l.drop n) (vs.drop n)
 |[],_,n,h=>by subst h;simp[aV]
 |d::l,_,0,h=>h
 |d::l,_,n+1,h=>by
  obtain⟨v,r,rfl,h1,h2⟩:=h
  exact aV.drop n h2
theorem aV.set:∀{l:List D}{vs:List V}{d:D}{v:V} (i:Nat),aV O K H l vs->Rep O K H d v->aV O K H (l.set i d) (vs.set i v)
 |[],_,_,_,i,h,_=>by subst h;simp[aV]
 |d::l,_,_,_,0,h,h'=>by
  obtain⟨v,r,rfl,h1,h2⟩:=h
  exact⟨_,_,rfl,h',h2⟩
 |d::l,_,_,_,i+1,h,h'=>by
  obtain⟨v,r,rfl,h1,h2⟩:=h
  exact⟨v,_,rfl,h1,aV.set i h2 h'⟩
theorem aV.rep {l:List D}{vs:List V}(h:aV O K H l vs):∀k:Nat,aV O K H (List.replicate k l).flatten (List.replicate k vs).flatten
 |0=>by simp[aV]
 |k+1=>by
  rw[List.replicate_succ,List.replicate_succ,List.flatten_cons,List.flatten_cons]
  exact aV.append h (aV.rep h k)
theorem aV.zz {l:List D}{vs:List V}{i:Int}{d:D}(h:aV O K H l vs)(e:L2.zz l i=some d):∃v,L2.zz vs i=some v/\Rep O K H d v:=by
 unfold L2.zz at e ⊢
 rw[h.length]at e
 cases q:Ld vs.length i with
 |none=>rw[q]at e;cases e
 |some j=>
  rw[q]at e
  obtain⟨v,a,b⟩:=h.get (i:=j) e
  exact⟨v,a,b⟩
end
abbrev aK:=List (Option D)
def nA (O:Addr->Prop)(K:Fg)(H:Hp)(σ:L2.St)(ρ:aK):Prop:=∀(i:Nat) (d:D),ρ[i]?=some (some d)->∃v,σ[i]?=some (some v)/\Rep O K H d v
theorem nA.mono {O:Addr->Prop}{K:Fg}{H H':Hp}{σ:L2.St}{ρ:aK}(hs:bV H H')(h:nA O K H σ ρ):nA O K H' σ ρ:=λi d e=>
 let⟨v,a,b⟩:=h i d e
 ⟨v,a,b.mono hs⟩
def at? (ρ:aK)(i:Nat):Option D:=match ρ[i]? with
 |some (some d)=>some d
 |_=>none
theorem QT {ρ:aK}{i:Nat}{d:D}(h:at? ρ i=some d):ρ[i]?=some (some d):=by
 unfold at? at h
 split at h
 ·rename_i e;cases h;exact e
 ·cases h
def Within (O:Addr->Prop)(H:Hp):Prop:=∀a,O a->H a≠none
theorem Within.mono {O:Addr->Prop}{H H':Hp}(hs:bV H H')(h:Within O H):Within O H':=λa z e=>by
 cases q:H a with
 |none=>exact h a z q
 |some u=>rw[hs a u q]at e;cases e
theorem Within.new {O:Addr->Prop}{H:Hp}{p:Addr}(h:Within O H)(hp:H p=none):¬O p:=λz=>h p z hp
def tD (K:Fg)(F:aK->Option D):TE:=λσ H Q=>∃(O:Addr->Prop) (ρ:aK) (d:D),Within O H/\nA O K H σ ρ/\F ρ=some d/\∀v H',bV H H'->Rep O K H' d v->Q v H'
structure ED (X:Cx)(e:Expr)(F:aK->Option D):Prop where
 mk::(h:PE X e (tD X.K F))
def tDs (K:Fg)(F:aK->Option (List D)):TA:=λσ H Q=>∃(O:Addr->Prop) (ρ:aK) (l:List D),Within O H/\nA O K H σ ρ/\F ρ=some l/\∀vs H',bV H H'->aV O K H' l vs->Q vs H'
structure DQ (X:Cx)(es:List Expr)(F:aK->Option (List D)):Prop where
 mk::(h:PA X es (tDs X.K F))
def M9 (K:Fg)(F:aK->Option Bool):TT:=λσ H Q=>∃(O:Addr->Prop) (ρ:aK) (b:Bool),Within O H/\nA O K H σ ρ/\F ρ=some b/\∀H',bV H H'->Q b H'
structure QH (X:Cx)(e:Expr)(F:aK->Option Bool):Prop where
 mk::(h:PT X e (M9 X.K F))
theorem _root_.L2.PE.imp {X:Cx}{e:Expr}{t t':TE}(h:PE X e t)(k:∀σ H Q,t' σ H Q->t σ H Q):PE X e t':=λpins s σ H Q I q=>h pins s σ H Q I (k σ H Q q)
theorem _root_.L2.PT.imp {X:Cx}{e:Expr}{t t':TT}(h:PT X e t)(k:∀σ H Q,t' σ H Q->t σ H Q):PT X e t':=λpins s σ H Q I q=>h pins s σ H Q I (k σ H Q q)
theorem _root_.L2.PA.imp {X:Cx}{es:List Expr}{t t':TA}(h:PA X es t)(k:∀σ H Q,t' σ H Q->t σ H Q):PA X es t':=λpos pins s σ H Q I q=>h pos pins s σ H Q I (k σ H Q q)
theorem bind_some {α β:Type}{o:Option α}{f:α->Option β}{b:β}(h:o.bind f=some b):∃a,o=some a/\f a=some b:=by
 cases o with
 |none=>cases h
 |some a=>exact⟨a,rfl,h⟩
section
variable {X:Cx}{a b c:Expr}{Fa Fb Fc:aK->Option D}{pos:Pos}
theorem ao (i:Nat){x:Str}(h:PE X (.Name x pos) (Ep i):=by exact pv _):ED X (.Name x pos) (λρ=>at? ρ i):= .mk<|h.imp λσ H Q ⟨O,ρ,d,w,r,e,q⟩=>by
 obtain⟨v,e1,e2⟩:=r i d (QT e)
 exact⟨v,e1,q v H (bV.refl H) e2⟩
theorem w6 {e:Expr}{v:V}{d:D}(h:PE X e (tC v))(r:∀O K H,Rep O K H d v):ED X e (λ_=>some d):= .mk<|h.imp λσ H Q ⟨O,ρ,d',w,rr,e1,q⟩=>by
 cases e1
 exact q v H (bV.refl H) (r O X.K H)
theorem az {i j}:ED X (.Constant (.int i) j pos) (λ_=>some (.int i)):=w6 YF λ_ _ _=>rfl
theorem FJ {i j}:ED X (.Constant (.bool i) j pos) (λ_=>some (.bl i)):=w6 a0z λ_ _ _=>rfl
theorem Rg {j}:ED X (.Constant .none j pos) (λ_=>some .non):=w6 YG λ_ _ _=>rfl
theorem aX {i j}:ED X (.Constant (.str i) j pos) (λ_=>some (.str i)):=w6 YK λ_ _ _=>rfl
def EY (K:Fg)(r:R2)(g:D->D->Option D):Prop:=∀(O:Addr->Prop) (H:Hp) (x y:V) (dx dy d:D) (Q:VK),Within O H->Rep O K H dx x->Rep O K H dy y->g dx dy=some d->
 (∀v H',bV H H'->Rep O K H' d v->Q v H')->r x y H Q
theorem Kv {t:TE->TE->TE}{r:R2}{g:D->D->Option D}{e:Expr}(h:PE X e (tOp r (tD X.K Fa) (tD X.K Fb)))(ho:EY X.K r g):ED X e (λρ=>(Fa ρ).bind λx=>(Fb ρ).bind λy=>g x y):= .mk<|h.imp λσ H Q ⟨O,ρ,d,w,r,e,q⟩=>by
 obtain⟨dx,e1,e⟩:=bind_some e
 obtain⟨dy,e2,e⟩:=bind_some e
 refine⟨O,ρ,dx,w,r,e1,λx H1 s1 r1=>?_⟩
 refine⟨O,ρ,dy,w.mono s1,r.mono s1,e2,λy H2 s2 r2=>?_⟩
 exact ho O H2 x y dx dy d Q ((w.mono s1).mono s2) (r1.mono s2) r2 e λv H' s3 r3=>q v H' ((s1.trans s2).trans s3) r3
theorem aP {op:Operator}{r:R2}{g:D->D->Option D}(ho:uz X (binaryOp op) r)(hg:EY X.K r g)(ha:ED X a Fa)(hb:ED X b Fb):ED X (.BinOp a op b pos) (λρ=>(Fa ρ).bind λx=>(Fb ρ).bind λy=>g x y):=have ha:=ha.1;have hb:=hb.1;Kv (t:=λ_ u=>u) (a0B ho ha hb) hg
theorem nC {op:CmpOp}{r:R2}{g:D->D->Option D}(ho:uz X (compareOp op) r)(hg:EY X.K r g)(ha:ED X a Fa)(hb:ED X b Fb)(hm:behindInMarks op b=false:=by exact RZ _):ED X (.Compare a [op] [b] pos) (λρ=>(Fa ρ).bind λx=>(Fb ρ).bind λy=>g x y):=have ha:=ha.1;have hb:=hb.1;Kv (t:=λ_ u=>u) (VL ho ha hb hm) hg
theorem a03 {r:R2}{g:D->D->Option D}(ho:Uk X r)(hg:EY X.K r g)(ha:ED X a Fa)(hb:ED X b Fb)(hs:GD b):ED X (.Subscript a b pos) (λρ=>(Fa ρ).bind λx=>(Fb ρ).bind λy=>g x y):=have ha:=ha.1;have hb:=hb.1;Kv (t:=λ_ u=>u) (a0A ho ha hb hs) hg
def zW:D->Option Bool
 | .bl b=>some b
 |_=>none
theorem Bl {d:D}{b:Bool}(h:zW d=some b):d= .bl b:=by
 cases d<;>simp[zW]at h
 rw[h]
theorem bF {op:CmpOp}{r:R2}{g:D->D->Option D}(ho:uz X (compareOp op) r)(hg:EY X.K r g)(ha:ED X a Fa)(hb:ED X b Fb)(hm:behindInMarks op b=false:=by exact RZ _):QH X (.Compare a [op] [b] pos) (λρ=>(Fa ρ).bind λx=>(Fb ρ).bind λy=>(g x y).bind zW):=have ha:=ha.1;have hb:=hb.1; .mk<|(Wb ho ha hb hm).imp λσ H Q ⟨O,ρ,d,w,r,e,q⟩=>by
 obtain⟨dx,e1,e⟩:=bind_some e
 obtain⟨dy,e2,e⟩:=bind_some e
 obtain⟨dz,e3,e⟩:=bind_some e
 refine⟨O,ρ,dx,w,r,e1,λx H1 s1 r1=>?_⟩
 refine⟨O,ρ,dy,w.mono s1,r.mono s1,e2,λy H2 s2 r2=>?_⟩
 refine hg O H2 x y dx dy dz _ ((w.mono s1).mono s2) (r1.mono s2) r2 e3 λv H' s3 r3=>?_
 rw[Bl e]at r3
 exact⟨d,r3,q H' ((s1.trans s2).trans s3)⟩
variable {Ta Tb Tc:aK->Option Bool}{rest:List Expr}
theorem mX (ha:QH X a Ta):PW X (.BoolOp .And [a] pos) (M9 X.K Ta):=have ha:=ha.1;Wc ha
theorem pB (ha:QH X a Ta):PW X (.BoolOp .Or [a] pos) (M9 X.K Ta):=have ha:=ha.1;Z4 ha
theorem _root_.L2.PW.imp {X:Cx}{e:Expr}{t t':TT}(h:PW X e t)(k:∀σ H Q,t' σ H Q->t σ H Q):PW X e t':=λwh pins s σ H Q I q=>h wh pins s σ H Q I (k σ H Q q)
theorem pA (ha:QH X a Ta)(hb:PW X (.BoolOp .And (b::rest) pos) (M9 X.K Tb)):PW X (.BoolOp .And (a::b::rest) pos) (M9 X.K λρ=>(Ta ρ).bind λx=>if x=true then Tb ρ else some false):=have ha:=ha.1;(Z3 ha hb).imp λσ H Q ⟨O,ρ,d,w,r,e,q⟩=>by
 obtain⟨x,e1,e⟩:=bind_some e
 refine⟨O,ρ,x,w,r,e1,λH1 s1=>?_⟩
 cases x with
 |true=>exact Lb ⟨O,ρ,d,w.mono s1,r.mono s1,e,λH2 s2=>q H2 (s1.trans s2)⟩
 |false=>cases e;exact La (q H1 s1)
theorem t8 (ha:QH X a Ta)(hb:PW X (.BoolOp .Or (b::rest) pos) (M9 X.K Tb)):PW X (.BoolOp .Or (a::b::rest) pos) (M9 X.K λρ=>(Ta ρ).bind λx=>if x=true then some true else Tb ρ):=have ha:=ha.1;(a0F ha hb).imp λσ H Q ⟨O,ρ,d,w,r,e,q⟩=>by
 obtain⟨x,e1,e⟩:=bind_some e
 refine⟨O,ρ,x,w,r,e1,λH1 s1=>?_⟩
 cases x with
 |true=>cases e;exact Lb (q H1 s1)
 |false=>exact La ⟨O,ρ,d,w.mono s1,r.mono s1,e,λH2 s2=>q H2 (s1.trans s2)⟩
theorem nG (h:PW X a (M9 X.K Ta)):QH X a Ta:= .mk<|h.pt
theorem uC (ha:QH X a Ta):QH X (.UnaryOp .Not a pos) (λρ=>(Ta ρ).map λx=>!x):=have ha:=ha.1; .mk<|(Z1 ha).imp λσ H Q ⟨O,ρ,d,w,r,e,q⟩=>by
 dsimp only at e
 cases e1:Ta ρ with
 |none=>rw[e1]at e;cases e
 |some x=>
  rw[e1]at e
  cases e
  exact⟨O,ρ,x,w,r,e1,λH1 s1=>q H1 s1⟩
theorem ir (ha:ED X a Fa)(he:∀whole,isTrue a X.env whole=(do let v<-whole;standAt a.pos;holding [v] (truthy v)):=by intro _;rfl):QH X a (λρ=>(Fa ρ).bind zW):=have ha:=ha.1; .mk<|(Z2 ha he).imp λσ H Q ⟨O,ρ,d,w,r,e,q⟩=>by
 obtain⟨x,e1,e⟩:=bind_some e
 refine⟨O,ρ,x,w,r,e1,λv H1 s1 r1=>?_⟩
 rw[Bl e]at r1
 exact⟨d,r1,q H1 s1⟩
theorem Bs {op}(ha:ED X a Fa):ED X (.BoolOp op [a] pos) Fa:=have ha:=ha.1; .mk<|YJ ha
theorem Hf (ha:ED X a Fa)(hb:ED X (.BoolOp .And (b::rest) pos) Fb):ED X (.BoolOp .And (a::b::rest) pos) (λρ=>(Fa ρ).bind λx=>(zW x).bind λy=>if y=true then Fb ρ else some (.bl false)):=have ha:=ha.1;have hb:=hb.1; .mk<|(YB ha hb).imp λσ H Q ⟨O,ρ,d,w,r,e,q⟩=>by
 obtain⟨x,e1,e⟩:=bind_some e
 obtain⟨y,e2,e⟩:=bind_some e
 refine⟨O,ρ,x,w,r,e1,λv H1 s1 r1=>?_⟩
 rw[Bl e2]at r1
 refine⟨y,r1,?_⟩
 cases y with
 |true=>exact Lb ⟨O,ρ,d,w.mono s1,r.mono s1,e,λv H2 s2=>q v H2 (s1.trans s2)⟩
 |false=>cases e;exact La (q _ H1 s1 rfl)
theorem WT (ha:ED X a Fa)(hb:ED X (.BoolOp .Or (b::rest) pos) Fb):ED X (.BoolOp .Or (a::b::rest) pos) (λρ=>(Fa ρ).bind λx=>(zW x).bind λy=>if y=true then some (.bl true)else Fb ρ):=have ha:=ha.1;have hb:=hb.1; .mk<|(a0C ha hb).imp λσ H Q ⟨O,ρ,d,w,r,e,q⟩=>by
 obtain⟨x,e1,e⟩:=bind_some e
 obtain⟨y,e2,e⟩:=bind_some e
 refine⟨O,ρ,x,w,r,e1,λv H1 s1 r1=>?_⟩
 rw[Bl e2]at r1
 refine⟨y,r1,?_⟩
 cases y with
 |true=>cases e;exact Lb (q _ H1 s1 rfl)
 |false=>exact La ⟨O,ρ,d,w.mono s1,r.mono s1,e,λv H2 s2=>q v H2 (s1.trans s2)⟩
theorem Rh (ha:ED X a Fa):ED X (.UnaryOp .Not a pos) (λρ=>(Fa ρ).bind λx=>(zW x).map λy=> .bl (!y)):=have ha:=ha.1; .mk<|(YH ha).imp λσ H Q ⟨O,ρ,d,w,r,e,q⟩=>by
 obtain⟨x,e1,e⟩:=bind_some e
 refine⟨O,ρ,x,w,r,e1,λv H1 s1 r1=>?_⟩
 cases e2:zW x with
 |none=>rw[e2]at e;cases e
 |some y=>
  rw[e2]at e
  cases e
  rw[Bl e2]at r1
  exact⟨y,r1,q _ H1 s1 rfl⟩
theorem wg (hc:QH X c Tc)(ha:ED X a Fa)(hb:ED X b Fb):ED X (.IfExp c a b pos) (λρ=>(Tc ρ).bind λx=>if x=true then Fa ρ else Fb ρ):=have hc:=hc.1;have ha:=ha.1;have hb:=hb.1; .mk<|(Sv hc ha hb).imp λσ H Q ⟨O,ρ,d,w,r,e,q⟩=>by
 obtain⟨x,e1,e⟩:=bind_some e
 refine⟨O,ρ,x,w,r,e1,λH1 s1=>?_⟩
 cases x with
 |true=>exact Lb ⟨O,ρ,d,w.mono s1,r.mono s1,e,λv H2 s2=>q v H2 (s1.trans s2)⟩
 |false=>exact La ⟨O,ρ,d,w.mono s1,r.mono s1,e,λv H2 s2=>q v H2 (s1.trans s2)⟩
variable {es:List Expr}{Fs:aK->Option (List D)}
theorem au:DQ X [] (λ_=>some []):= .mk<|PA.imp zm λσ H Q ⟨O,ρ,l,w,r,e,q⟩=>by
 cases e
 exact q [] H (bV.refl H) rfl
theorem ak (ha:ED X a Fa)(hr:DQ X es Fs)(hs:starEach (a::es) X.env=(false,eval a X.env)::starEach es X.env:=by rfl):DQ X (a::es) (λρ=>(Fa ρ).bind λx=>(Fs ρ).map λl=>x::l):=have ha:=ha.1;have hr:=hr.1; .mk<|PA.imp (pF ha hr hs) λσ H Q ⟨O,ρ,l,w,r,e,q⟩=>by
 obtain⟨x,e1,e⟩:=bind_some e
 cases e2:Fs ρ with
 |none=>rw[e2]at e;cases e
 |some l'=>
  rw[e2]at e
  cases e
  exact⟨O,ρ,x,w,r,e1,λv H1 s1 r1=>⟨O,ρ,l',w.mono s1,r.mono s1,e2,λvs H2 s2 r2=>q (v::vs) H2 (s1.trans s2) ⟨v,vs,rfl,r1.mono s2,r2⟩⟩⟩
theorem bQ {H:Hp}{p:Addr}{o:HO}(h:H p=none):bV H (upd H p o):=λb u q=>by rw[bY (cM q h)];exact q
def Cq (l:List D):Option D:=if l.length<=sizeLine then some (.tup l)else none
def tW (l:List D):Option D:=if l.length<=sizeLine then some (.lst l)else none
theorem RT {l:List D}{d:D}(h:Cq l=some d):l.length<=sizeLine/\d= .tup l:=by
 unfold Cq at h
 split at h
 ·cases h;exact⟨by assumption,rfl⟩
 ·cases h
theorem RQ {l:List D}{d:D}(h:tW l=some d):l.length<=sizeLine/\d= .lst l:=by
 unfold tW at h
 split at h
 ·cases h;exact⟨by assumption,rfl⟩
 ·cases h
theorem nR {O:Addr->Prop}{K:Fg}{H:Hp}{p:Addr}{l:List D}{vs:List V}(hp:H p=none)(h:aV O K H l vs):Rep O K (upd H p (.tup vs)) (.tup l) (.ref p):=
 ⟨p,vs,rfl,vW.of cH,h.mono (bQ hp)⟩
theorem Bc {O:Addr->Prop}{K:Fg}{H:Hp}{p:Addr}{l:List D}{vs:List V}(w:Within O H)(hp:H p=none)(h:aV O K H l vs):Rep O K (upd H p (.lst vs)) (.lst l) (.ref p):=
 ⟨p,vs,rfl,⟨cH,w.new hp⟩,h.mono (bQ hp)⟩
theorem bR {k}(h:DQ X es Fs):ED X (.Tuple es k pos) (λρ=>(Fs ρ).bind Cq):=have h:=h.1; .mk<|(YL h).imp λσ H Q ⟨O,ρ,d,w,r,e,q⟩=>by
 obtain⟨l,e1,e⟩:=bind_some e
 obtain⟨z,rfl⟩:=RT e
 exact⟨O,ρ,l,w,r,e1,λvs H1 s1 r1=>⟨by rw[<-r1.length];exact z,λp hp=>q _ _ (s1.trans (bQ hp)) (nR hp r1)⟩⟩
theorem fL (h:DQ X es Fs):ED X (.List es pos) (λρ=>(Fs ρ).bind tW):=have h:=h.1; .mk<|(Sw h).imp λσ H Q ⟨O,ρ,d,w,r,e,q⟩=>by
 obtain⟨l,e1,e⟩:=bind_some e
 obtain⟨z,rfl⟩:=RQ e
 exact⟨O,ρ,l,w,r,e1,λvs H1 s1 r1=>⟨by rw[<-r1.length];exact z,λp hp=>q _ _ (s1.trans (bQ hp)) (Bc (w.mono s1) hp r1)⟩⟩
end
section
variable {X:Cx}
def Xd (K:Fg):R2:=λx y H Q=>∃a b ys,x= .ref a/\y= .ref b/\vW K H a []/\vW K H b ys/\Q (.ref b) H
theorem VB:uz X (binaryOp .Add) (Xd X.K):=by
 intro pins s σ H x y v u Q I rx ry h
 obtain⟨a,b,ys,rfl,rfl,ha,hb,q⟩:=h
 cases rx
 cases ry
 obtain⟨its,r1,p1,_⟩:=I.tuple ha
 obtain⟨its2,r2,p2,_⟩:=I.tuple hb
 cases r1
 obtain⟨⟨cls,dd,data,sl⟩,ho,hc,n,hd⟩:=id p1
 obtain⟨⟨cls2,dd2,data2,sl2⟩,ho2,hc2,n2,hd2⟩:=id p2
 simp only at hc hd hc2 hd2
 subst hc hd hc2 hd2
 exact concat_meets ⟨_,ho,rfl⟩ ⟨_,ho2,rfl⟩ noFill_tuple_add seq_tuple_add PySem.F.slot_tuple_add PySem.F.entry_tuple_add (PySem.F.args_tuple_add_2 _ _)
  (tuple_addW0 a b _ _ n n2 dd dd2 sl sl2 (by simp)) ⟨ho,ho2,⟨.ref b,H,I,rfl,q⟩⟩
def Xc (K:Fg):R2:=λx y H Q=>(Up λi j=> .int (i+j)) x y H Q\/(∃i j,x= .str i/\y= .str j/\i.length+j.length<=sizeLine/\Q (.str (i++j)) H)\/a0H x y H Q\/Xe K x y H Q\/Xd K x y H Q
theorem bA:uz X (binaryOp .Add) (Xc X.K):=Yw.or (Lw.or (Yx.or (VD.or VB)))
def aW:D->D->Option D
 | .int a,.int b=>some (.int (a+b))
 | .str a,.str b=>if a.length+b.length<=sizeLine then some (.str (a++b))else none
 | .tup a,.tup b=>if a.length+b.length<=sizeLine then some (.tup (a++b))else none
 | .lst a,.lst b=>if a.length+b.length<=sizeLine then some (.lst (a++b))else none
 |_,_=>none
theorem lW {α:Type}{c:Prop} [Decidable c]{a b:α}(h:(if c then some a else none)=some b):c/\a=b:=by
 split at h
 ·cases h;exact⟨by assumption,rfl⟩
 ·cases h
theorem aV.rz {O:Addr->Prop}{K:Fg}{H:Hp}{l:List D}{vs:List V}(h:aV O K H l vs):l=[]↔vs=[]:=by
 have:=h.length
 constructor
 ·rintro rfl;exact List.eq_nil_of_length_eq_zero this.symm
 ·rintro rfl;exact List.eq_nil_of_length_eq_zero this
theorem bB {K:Fg}:EY K (Xc K) aW:=by
 intro O H x y dx dy d Q w rx ry e q
 cases dx<;>cases dy<;>simp only[aW]at e<;>try (cases e;done)
 case int.int i j=>
  cases rx;cases ry;cases e
  exact .inl ⟨i,j,rfl,rfl,q _ H (bV.refl H) rfl⟩
 case str.str i j=>
  cases rx;cases ry
  obtain⟨z,rfl⟩:=lW e
  exact .inr (.inl ⟨i,j,rfl,rfl,z,q _ H (bV.refl H) rfl⟩)
 case tup.tup l m=>
  obtain⟨a,vs,rfl,h1,h2⟩:=rx
  obtain⟨b,us,rfl,h3,h4⟩:=ry
  obtain⟨z,rfl⟩:=lW e
  by_cases hl:l=[]
  ·subst hl
   cases h2
   exact .inr (.inr (.inr (.inr ⟨a,b,us,rfl,rfl,h1,h3,q _ H (bV.refl H) ⟨b,us,rfl,h3,h4⟩⟩)))
  ·refine .inr (.inr (.inr (.inl ⟨a,b,vs,us,rfl,rfl,h1,h3,λz=>hl (h2.rz.mpr z),by rw[<-h2.length,<-h4.length];exact z,λz=>?_,λz p hp=>?_⟩)))
   ·have:m=[]:=h4.rz.mpr z
    subst this
    rw[List.append_nil]at q
    exact q _ H (bV.refl H) ⟨a,vs,rfl,h1,h2⟩
   ·exact q _ _ (bQ hp) (nR hp (h2.append h4))
 case lst.lst l m=>
  obtain⟨a,vs,rfl,h1,h2⟩:=rx
  obtain⟨b,us,rfl,h3,h4⟩:=ry
  obtain⟨z,rfl⟩:=lW e
  exact .inr (.inr (.inl ⟨a,b,vs,us,rfl,rfl,h1.1,h3.1,by rw[<-h2.length,<-h4.length];exact z,λp hp=>q _ _ (bQ hp) (Bc w hp (h2.append h4))⟩))
def pU:D->D->Option D
 | .int a,.int b=>some (.int (a - b))
 |_,_=>none
theorem uI {K:Fg}:EY K (Up λi j=> .int (i - j)) pU:=by
 intro O H x y dx dy d Q w rx ry e q
 cases dx<;>cases dy<;>simp only[pU]at e<;>try (cases e;done)
 cases rx;cases ry;cases e
 exact⟨_,_,rfl,rfl,q _ H (bV.refl H) rfl⟩
def cW:D->D->Option D
 | .int a,.int b=>if(-(2 ^ 64)<a/\a<2 ^ 64)\/(-(2 ^ 64)<b/\b<2 ^ 64)then some (.int (a*b))else none
 | .lst l,.int k=>if(-(2 ^ 63)<=k/\k<2 ^ 63)/\l.length*k.toNat<=sizeLine then some (.lst (List.replicate k.toNat l).flatten)else none
 |_,_=>none
def Xi:R2:=λx y H Q=>(rI Uq λi j=> .int (i*j)) x y H Q\/a0L x y H Q
theorem dG:uz X (binaryOp .Mult) Xi:=Yy.or Yz
theorem dJ {K:Fg}:EY K Xi cW:=by
 intro O H x y dx dy d Q w rx ry e q
 cases dx<;>cases dy<;>simp only[cW]at e<;>try (cases e;done)
 case int.int i j=>
  cases rx;cases ry
  obtain⟨z,rfl⟩:=lW e
  exact .inl ⟨_,_,rfl,rfl,z,q _ H (bV.refl H) rfl⟩
 case lst.int l k=>
  obtain⟨a,vs,rfl,h1,h2⟩:=rx
  cases ry
  obtain⟨⟨⟨z1,z2⟩,z3⟩,rfl⟩:=lW e
  exact .inr ⟨a,k,vs,rfl,rfl,h1.1,z1,z2,by rw[<-h2.length];exact z3,λp hp=>q _ _ (bQ hp) (Bc w hp (h2.rep _))⟩
def cC:D->D->Option D
 | .int a,.int b=>if 0<b then some (.int (a % b))else none
 |_,_=>none
theorem cA {K:Fg}:EY K (rI (λ_ j=>0<j) λi j=> .int (i % j)) cC:=by
 intro O H x y dx dy d Q w rx ry e q
 cases dx<;>cases dy<;>simp only[cC]at e<;>try (cases e;done)
 cases rx;cases ry
 obtain⟨z,rfl⟩:=lW e
 exact⟨_,_,rfl,rfl,z,q _ H (bV.refl H) rfl⟩
def eN:D->D->Option D
 | .int a,.int b=>if 0<b/\b<1073741824 then some (.int (a/b))else none
 |_,_=>none
theorem dZ {K:Fg}:EY K (rI ZK λi j=> .int (i/j)) eN:=by
 intro O H x y dx dy d Q w rx ry e q
 cases dx<;>cases dy<;>simp only[eN]at e<;>try (cases e;done)
 cases rx;cases ry
 obtain⟨z,rfl⟩:=lW e
 exact⟨_,_,rfl,rfl,z,q _ H (bV.refl H) rfl⟩
def lO (p:Int->Int->Bool):D->D->Option D
 | .int a,.int b=>some (.bl (p a b))
 |_,_=>none
theorem mQ {K:Fg}{p:Int->Int->Bool}:EY K (Up λi j=> .bl (p i j)) (lO p):=by
 intro O H x y dx dy d Q w rx ry e q
 cases dx<;>cases dy<;>simp only[lO]at e<;>try (cases e;done)
 cases rx;cases ry;cases e
 exact⟨_,_,rfl,rfl,q _ H (bV.refl H) rfl⟩
def UW:D->D->Option D
 | .tup l,.int i=>zz l i
 | .lst l,.int i=>zz l i
 | .uR l,.int i=>(zz l i).map .int
 | .str x,.int i=>if x.length<=sizeLine then(zz x.cps.toList i).map λc=> .str ⟨#[c]⟩else none
 |_,_=>none
theorem Ux {α β:Type}{f:α->β}{l:List α}{i:Int}:zz (l.map f) i=(zz l i).map f:=by
 unfold zz
 rw[List.length_map]
 cases Ld l.length i with
 |none=>rfl
 |some j=>simp[List.getElem?_map]
theorem Z8 {K:Fg}:EY K (rIx K) UW:=by
 intro O H x y dx dy d Q w rx ry e q
 cases dx<;>cases dy<;>simp only[UW]at e<;>try (cases e;done)
 case tup.int l i=>
  obtain⟨a,vs,rfl,h1,h2⟩:=rx
  cases ry
  obtain⟨v,e1,r1⟩:=h2.zz e
  exact .inr (.inl ⟨a,vs,i,v,rfl,rfl,h1,e1,q v H (bV.refl H) r1⟩)
 case lst.int l i=>
  obtain⟨a,vs,rfl,h1,h2⟩:=rx
  cases ry
  obtain⟨v,e1,r1⟩:=h2.zz e
  exact .inl ⟨a,vs,i,v,rfl,rfl,qK.of h1.1,e1,q v H (bV.refl H) r1⟩
 case uR.int l i=>
  obtain⟨a,rfl,h1⟩:=rx
  cases ry
  cases e1:zz l i with
  |none=>rw[e1]at e;cases e
  |some n=>
   rw[e1]at e
   cases e
   exact .inl ⟨a,_,i,.int n,rfl,rfl,h1.sq,by rw[Ux,e1];rfl,q _ H (bV.refl H) rfl⟩
 case str.int z i=>
  cases rx;cases ry
  split at e
  ·cases e1:zz z.cps.toList i with
   |none=>rw[e1]at e;cases e
   |some c=>
    rw[e1]at e
    cases e
    exact .inr (.inr ⟨z,i,c,rfl,rfl,by assumption,e1,q _ H (bV.refl H) rfl⟩)
  ·cases e
def cutD (l:List D)(lo hi:Option Int):List D:=(l.drop (HT.jc l.length 0 lo)).take (HT.jc l.length l.length hi - HT.jc l.length 0 lo)
theorem aV.cut {O:Addr->Prop}{K:Fg}{H:Hp}{l:List D}{vs:List V}(h:aV O K H l vs)(lo hi:Option Int):aV O K H (cutD l lo hi) (J1 vs lo hi):=by
 unfold cutD J1
 rw[h.length]
 exact(h.drop _).take _
end
section
variable {prog:Program}{w:World}{A:Around}{R:Result->Shared->Prop}{s:Shared}
theorem Q0 {elt target iter:Expr}{ifs:List Expr}{scope:Scope}{pos:Pos}{it acc:Value}{env:Env}(I:Nat->Shared->Prop)
 (turn:∀n s,I n s->wpAny (model prog w) A (pyNext it) (λr s₁=>match r with
  |none=>R (.ok .next) s₁
  |some v=>wpAny (model prog w) A (letOwnedTupleGo target it v) (λ_ s₂=>wpAny (model prog w) A (assign target env v) (λ_ s₃=>
   wpAny (model prog w) A (forIn ifs true λc r=>if r=true then do let ok<-isTrue c env (eval c env);pure (ForInStep.yield ok)else pure (ForInStep.yield r)) (λok s₄=>
    if ok=true then wpAny (model prog w) A (eval elt env) (λx s₅=>
     wpAny (model prog w) A (call (.builtin "list.append") [acc,x]) (λ_ s₆=>∃m,m<n/\I m s₆) (notedBy (model prog w) A env λe s'=>R (.error e) s') s₅) (notedBy (model prog w) A env λe s'=>R (.error e) s') s₄
    else ∃m,m<n/\I m s₄) (notedBy (model prog w) A env λe s'=>R (.error e) s') s₃) (notedBy (model prog w) A env λe s'=>R (.error e) s') s₂) (notedBy (model prog w) A env λe s'=>R (.error e) s') s₁) (notedBy (model prog w) A env λe s'=>R (.error e) s') s)
 (n:Nat)(h:I n s):
 codeAny (model prog w) A (.compLoop (.ListComp elt [⟨target,iter,ifs,0⟩] scope pos) 0 it acc env) R s:=by
 refine codeAny_loop rfl I (λn s hI=>?_) n h
 show wpAny _ A ((compTurn (.ListComp elt [⟨target,iter,ifs,0⟩] scope pos) 0 it acc env).onRaise (λx=>do noteFrame x env;theTreesLotGoes x)) _ _ s
 refine wpAny_noted ?_
 rw[compTurn_list]
 refine wpAny_bind (wpAny_standAt (wpAny_bind (wpAny_mono (turn n s hI) (λr s₁ h₁=>?_) λ_ _ h'=>h')))
 cases r with
 |none=>exact wpAny_pure h₁
 |some v=>
  refine wpAny_bind (wpAny_mono h₁ (λ_ s₂ h₂=>?_) λ_ _ h'=>h')
  refine wpAny_bind (wpAny_mono h₂ (λ_ s₃ h₃=>wpAny_bind (wpAny_mono h₃ (λok s₄ h₄=>?_) λ_ _ h'=>h')) λ_ _ h'=>h')
  cases ok with
  |false=>exact wpAny_pure ⟨rfl,h₄⟩
  |true=>
   exact wpAny_bind (wpAny_bind (wpAny_mono h₄ (λx s₅ h₅=>wpAny_bind (wpAny_mono h₅ (λ_ s₆ h₆=>wpAny_pure (wpAny_pure ⟨rfl,h₆⟩)) λ_ _ h'=>h')) λ_ _ h'=>h'))
end
def lG (X:Cx)(scope:Scope)(jr:List Str)(cl:List (Str×Addr))(s:Shared)(H:Hp)(C:Addr)(fp:List Addr):Cx:=
 { X with N:=jr,s₀:=s,H₀:=H,env:=compEnvC scope cl C X.env,outer:=X.stack,stack:=X.stack,ex:=fp,fn:=λ_=>false,pn:=[],xe:=λ_ _=>False }
structure ZL (scope:Scope)(env:Env)(cl:List (Str×Addr)):Prop where
 run:closureFor scope env=pure cl
 sub:∀x c,cl.lookup x=some c->env.cells.lookup x=some c
 has:∀x,(x,NameKind.free)∈scope.names->∃c,cl.lookup x=some c
theorem yM (env:Env):∀(names:List (Str×NameKind)) (cs:List (Str×Addr)),(∀y∈names,y.2= .free->∃c,env.cells.lookup y.1=some c)->
 (∀x c,cs.lookup x=some c->env.cells.lookup x=some c)->
 ∃cl,(forIn (m:=Sem) names cs λ(y:Str×NameKind) (r:List (Str×Addr))=>(if(y.2==NameKind.free)=true then do let a<-cellOf env y.1;pure (ForInStep.yield ((y.1,a)::r))else pure (ForInStep.yield r)))=pure cl/\
  (∀x c,cl.lookup x=some c->env.cells.lookup x=some c)/\(∀x,(x,NameKind.free)∈names->∃c,cl.lookup x=some c)/\(∀x c,cs.lookup x=some c->∃c',cl.lookup x=some c')
 |[],cs,_,hs=>⟨cs,by simp,hs,λ_ h=>by simp at h,λx c h=>⟨c,h⟩⟩
 |(n,k)::r,cs,hf,hs=>by
  by_cases hk:k= .free
  ·subst hk
   obtain⟨c,hc⟩:=hf (n,.free) List.mem_cons_self rfl
   have hs':∀x d,List.lookup x ((n,c)::cs)=some d->env.cells.lookup x=some d:=λx d h=>by
    rw[List.lookup_cons]at h
    cases hx:x==n with
    |true=>
     rw[hx]at h
     have e:x=n:=by simpa using hx
     subst e
     cases h
     exact hc
    |false=>rw[hx]at h;exact hs x d h
   obtain⟨cl,h1,h2,h3,h4⟩:=yM env r ((n,c)::cs) (λy hy=>hf y (List.mem_cons_of_mem _ hy)) hs'
   refine⟨cl,?_,h2,λx hx=>?_,λx d h=>?_⟩
   ·rw[List.forIn_cons]
    have e:cellOf env n=pure c:=by unfold cellOf;rw[hc]
    simp only[beq_self_eq_true,if_true,e,pure_bind]
    exact h1
   ·rcases List.mem_cons.mp hx with e|hx
    ·cases e
     exact h4 _ c (by simp)
    ·exact h3 x hx
   ·by_cases hx:x=n
    ·subst hx;exact h4 x c (by simp)
    ·refine h4 x d ?_
     rw[List.lookup_cons]
     have:(x==n)=false:=by simpa using hx
     rw[this];exact h
  ·obtain⟨cl,h1,h2,h3,h4⟩:=yM env r cs (λy hy=>hf y (List.mem_cons_of_mem _ hy)) hs
   refine⟨cl,?_,h2,λx hx=>?_,h4⟩
   ·rw[List.forIn_cons]
    have e:(k==NameKind.free)=false:=by simpa using hk
    simp only[e,Bool.false_eq_true,if_false,pure_bind]
    exact h1
   ·rcases List.mem_cons.mp hx with e|hx
    ·cases e;exact absurd rfl hk
    ·exact h3 x hx
theorem UT {scope:Scope}{env:Env}(hf:∀y∈scope.names,y.2= .free->∃c,env.cells.lookup y.1=some c):∃cl,ZL scope env cl:=by
 obtain⟨cl,h1,h2,h3,_⟩:=yM env scope.names [] hf (λx c h=>by simp at h)
 refine⟨cl,?_,h2,h3⟩
 unfold closureFor
 show(do let r<-forIn scope.names [] _;pure r)=pure cl
 rw[h1]
 rfl
def vD (cap:List (Option Nat))(σ:L2.St):L2.St:=cap.map λo=>match o with
 |some i=>match σ[i]? with
  |some (some v)=>some v
  |_=>none
 |none=>none
theorem Jh {cap:List (Option Nat)}{σ:L2.St}{j:Nat}{v:V}(h:(vD cap σ)[j]?=some (some v)):∃i:Nat,cap[j]?=some (some i)/\σ[i]?=some (some v):=by
 unfold vD at h
 rw[List.getElem?_map]at h
 cases e:cap[j]? with
 |none=>rw[e]at h;cases h
 |some o=>
  rw[e]at h
  cases o with
  |none=>cases h
  |some i=>
   simp only[Option.map_some,Option.some.injEq]at h
   refine⟨i,rfl,?_⟩
   cases e2:σ[i]? with
   |none=>rw[e2]at h;cases h
   |some u=>
    rw[e2]at h
    cases u with
    |none=>cases h
    |some z=>cases h;rfl
def GC (X:Cx)(ifs:List Expr)(t:TT):Prop:=
 ∀(pins:List (Addr×Obj)) (s:Shared) (σ:L2.St) (H:Hp) (Q:Bool->Hp->Prop),Inv X pins σ H s->t σ H Q->
  wpAny (model X.prog X.w) X.A (forIn ifs true λc r=>if r=true then do let ok<-isTrue c X.env (eval c X.env);pure (ForInStep.yield ok)else pure (ForInStep.yield r)) (TP X pins σ Q) X.xe s
theorem SN {X:Cx}:GC X [] (λ_ H Q=>Q true H):=λpins s σ H Q I h=>wpAny_tests_nil ⟨H,I,h⟩
theorem SQ {X:Cx}{c:Expr}{t:TT}(h:PT X c t):GC X [c] t:=λpins s σ H Q I q=>wpAny_tests_one (h pins s σ H Q I q)
def O4 (cap:List (Option Nat))(wi:TI)(g:TG)(tt:TT)(te:TE):TE:=λσ H Q=>wi σ H λJ H1=>∀p,H1 p=none->∃W:Nat->Nat->List V->Hp->Prop,(∃m,W 0 m [] (upd H1 p (.lst [])))/\
 ∀i m ys H2,W i m ys H2->H2 p=some (.lst ys)/\((J.stop i H2/\Q (.ref p) H2)\/(J.go i H2/\∃N:List V->Hp->Prop,(∀ys' H',N ys' H'->∃m',m'<m/\W (i+1) m' ys' H')/\
  ∀x H3,J.yld i H2 x H3->g x (vD cap σ) H3 λσ2 H4=>(∀(j:Nat) v,(vD cap σ)[j]?=some (some v)->σ2[j]?=some (some v))/\tt σ2 H4 λb H5=>
   if b=true then te σ2 H5 λy H6=>H6 p=some (.lst ys)/\ys.length<sizeLine/\N (ys++[y]) (upd H6 p (.lst (ys++[y])))else N ys H5))
section
variable {X:Cx}{elt tg iter:Expr}{ifs:List Expr}{scope:Scope}{pos:Pos}{wi:TI}{jr:List Str}{cap:List (Option Nat)}{g:TG}{tt:TT}{te:TE}
structure vq (X:Cx)(scope:Scope)(jr:List Str)(cap:List (Option Nat)):Prop where
 kind:scope.kind= .function
 cell:∀y∈scope.names,y.2≠ .cell
 names:∀y∈scope.names,y.2= .local->scope.names.lookup y.1=some .local
 free:∀y∈scope.names,y.2= .free->X.env.kindOf y.1=some .cell\/X.env.kindOf y.1=some .free
 excl:∀x,(x,NameKind.free)∈scope.names->scope.names.lookup x=some .free
 len:cap.length=jr.length
 cap:∀(j i:Nat) (x:Str),cap[j]?=some (some i)->jr[j]?=some x->X.N[i]?=some x/\(x,NameKind.free)∈scope.names
theorem lH {env:Env}:∀{names:List (Str×NameKind)}{x:Str}{k:NameKind},(names.map λ(n,k)=>if(k==NameKind.free&&env.scope.kind== .function&&env.kindOf n==some .cell)then(n,NameKind.cell)else(n,k)).lookup x=some k->
 names.lookup x=some k\/(k= .cell/\names.lookup x=some .free)
 |[],_,_,h=>by simp at h
 |(n,k)::r,x,k',h=>by
  have ih:=@lH env r x k'
  rw[List.map_cons]at h
  by_cases hc:(k==NameKind.free&&env.scope.kind== .function&&env.kindOf n==some .cell)=true
  ·have hk:k= .free:=by
    simp only[Bool.and_eq_true,beq_iff_eq]at hc
    exact hc.1.1
   subst hk
   dsimp only at h
   rw[if_pos hc,List.lookup_cons]at h
   rw[List.lookup_cons]
   cases hx:x==n with
   |true=>rw[hx]at h;cases h;exact .inr ⟨rfl,rfl⟩
   |false=>rw[hx]at h;exact ih h
  ·dsimp only at h
   rw[if_neg hc,List.lookup_cons]at h
   rw[List.lookup_cons]
   cases hx:x==n with
   |true=>rw[hx]at h;cases h;exact .inl rfl
   |false=>rw[hx]at h;exact ih h
theorem yZ {names:List (Str×NameKind)}{x:Str}{k:NameKind}(h:names.lookup x=some k):(x,k)∈names:=PySem.mem_of_lookup h
theorem Rv {pins:List (Addr×Obj)}{σ:L2.St}{H:Hp}{s s':Shared}{cl:List (Str×Addr)}{C:Addr}{fp:List Addr}{m:Str->Option Value}(ok:vq X scope jr cap)(I:Inv X pins σ H s)(hcl:ZL scope X.env cl)(hf:∀b∈fp,zU X pins H b)
 (ho:∀b∈fp,∃o,s.heap.get? b=some o)(hC:C=s.heap.objs.size)(hn:s'.heap.Ns C m)(hk:∀b o,s.heap.get? b=some o->s'.heap.get? b=some o)(hos:s'.os=s.os)(hg:s'.gens=s.gens):
 Inv (lG X scope jr cl s H C fp) [] (vD cap σ) H s':=by
 subst hC
 have hH:H s.heap.objs.size=none:=I.hok.fresh (Nat.le_refl _)
 have sub:∀x c,(lG X scope jr cl s H s.heap.objs.size fp).env.cells.lookup x=some c->X.env.cells.lookup x=some c:=λx c h=>hcl.sub x c h
 have Vc:∀x,(lG X scope jr cl s H s.heap.objs.size fp).env.kindOf x=some .cell\/(lG X scope jr cl s H s.heap.objs.size fp).env.kindOf x=some .free->(x,NameKind.free)∈scope.names:=λx h=>by
  rcases h with h|h
  ·rcases lH (env:=X.env) (names:=scope.names) (x:=x) h with z|⟨_,z⟩
   ·exact absurd rfl (ok.cell _ (yZ z))
   ·exact yZ z
  ·rcases lH (env:=X.env) (names:=scope.names) (x:=x) h with z|⟨z,_⟩
   ·exact yZ z
   ·cases z
 have Y4:∀b∈fp,b<s.heap.objs.size:=λb hb=>let⟨o,e⟩:=ho b hb;Heap.lt_size e
 refine⟨⟨I.ok.mod,ok.kind,I.ok.glob,I.ok.blt,Nat.le_refl _,λx y c h1 h2=>I.ok.inj x y c (sub x c h1) (sub y c h2),λx h=>hcl.has x (Vc x h),λx c h _=>(by cases h),I.ok.hd,I.ok.frames,.inl rfl,
  λb hb=>⟨Nat.ne_of_lt (Y4 b hb),λx c h=>(hf b hb).2.2.2.2.1 x c (sub x c h)⟩,I.bs,Nat.le_trans I.ok.Uz I.sz,λb o e hb=>?_,λb hb=>?_,I.stack,I.O1⟩,
  hos,by rw[hg];exact I.bare,Un.kept hk,⟨m,hn,λj x v e1 e2 e3=>?_⟩,λx c h=>?_,hH,λx c h=>I.tL x c (sub x c h),λp hp=>?_,I.hok.kept hk,?_⟩
 ·obtain⟨f0,f1,f2,f3,_⟩:=hf b hb
  rcases f3 with f3|f3
  ·exact I.ok.RX b o e f3
  ·exact absurd (Nat.lt_of_lt_of_le (Heap.lt_size e) (Nat.le_trans I.ok.Uz f3)) (Nat.lt_irrefl _)
 ·intro hz
  obtain⟨f0,f1,f2,_⟩:=hf b hb
  rcases List.mem_cons.mp (I.M8 b hz)with e|e
  ·exact f1 e
  ·exact f2 e
 ·obtain⟨i,e4,e5⟩:=Jh e2
  obtain⟨e6,e7⟩:=ok.cap j i x e4 e1
  obtain⟨m0,hn0,hl⟩:=I.loc
  have hkind:=ok.free _ e7 rfl
  have vis:ZX X.env.scope x:=by
   rcases hkind with z|z
   ·exact .inr (.inl z)
   ·exact .inr (.inr z)
  obtain⟨u,r,l⟩:=hl i x v e6 e5 vis
  refine⟨u,r,?_⟩
  rcases l with⟨l,_⟩|⟨_,c,hc,z⟩
  ·rcases hkind with z|z
   ·rw[z]at l;cases l
   ·rw[z]at l;cases l
  ·obtain⟨c',hc'⟩:=hcl.has x e7
   have:c'=c:=by
    have:=hcl.sub x c' hc'
    rw[hc]at this
    exact(Option.some.inj this).symm
   subst this
   have k2:(lG X scope jr cl s H s.heap.objs.size fp).env.kindOf x=some .cell\/(lG X scope jr cl s H s.heap.objs.size fp).env.kindOf x=some .free:=by
    have e3':ZX (relabel scope X.env) x:=e3
    rcases e3' with z1|z1|z1
    ·exfalso
     rcases lH (env:=X.env) (names:=scope.names) (x:=x) z1 with z2|⟨z2,_⟩
     ·rw[ok.excl x e7]at z2;cases z2
     ·cases z2
    ·exact .inl z1
    ·exact .inr z1
   obtain⟨o,ho1,hd1⟩:=z
   exact .inr ⟨k2,c',hc',o,hk _ _ ho1,hd1⟩
 ·obtain⟨v,o,ho1,hd1⟩:=I.cell x c (sub x c h)
  exact⟨v,o,hk _ _ ho1,hd1⟩
 ·exact absurd (show p∈([]:List (Addr×Obj)) from hp) (by simp)
 ·unfold vD
  show _=jr.length
  rw[List.length_map]
  exact ok.len
theorem Vf {P:Program}{w:World}{H:Hp}{h h':Heap}{C:Addr}(x:uU P w H h)(hC:H C=none)(hs:Heap.SameBut C h h'):uU P w H h':=λb ob e=>by
 refine(x b ob e).stay (λc w' hc q=>(hs.2 c ?_).trans q) (λ_ q=>q) λ_ _ q=>q
 rintro rfl
 rcases hc with rfl|hc
 ·rw[hC]at e;cases e
 ·rw[hC]at hc;cases hc
theorem Fx {Q':Value->Shared->Prop}{use:Option (Value->Sem Unit)}{pins:List (Addr×Obj)}{s:Shared}{σ:L2.St}{H:Hp}{Q:VK}(hc:X.calm=true)(ok:vq X scope jr cap)(hi:PI X tg iter wi)
 (hin:∀cl s H C fp,PG (lG X scope jr cl s H C fp) tg g/\GC (lG X scope jr cl s H C fp) ifs tt/\PE (lG X scope jr cl s H C fp) elt te)
 (hs:∀x,foldedSetIterable iter X.env x=pure x)(I:Inv X pins σ H s)(h:O4 cap wi g tt te σ H Q)
 (fin:∀(s6:Shared) (H5:Hp) (p C:Addr) (m:Str->Option Value),Inv X pins σ H5 s6->zU X pins H5 C->s6.heap.Ns C m->(∀h',Heap.SameBut C s6.heap h'->Inv X pins σ H5 { s6 with heap:=h' })->Q (.ref p) H5->
  compPost (model X.prog X.w) X.A X.xe use Q' (.ref p) C (.ok .next) s6):
 wpAny (model X.prog X.w) X.A (comprehension (.ListComp elt [⟨tg,iter,ifs,0⟩] scope pos) scope X.env (firstIterPos [⟨tg,iter,ifs,0⟩] pos) (newList []) false (eval iter X.env) use) Q' X.xe s:=by
 obtain⟨cl,hcl⟩:=UT (scope:=scope) (env:=X.env) λy hy hk=>I.ok.has y.1 (ok.free y hy hk)
 refine wpAny_comprehension_free (use:=use) rfl hs hcl.run ok.kind ok.names ?_
 refine iD (hi pins s σ H _ I h) λv s1 h1=>iD h1 λitv s2 h2=>?_
 obtain⟨it,fp,tn,J,H2,e,I2,T,st2,f2,R⟩:=h2
 subst e
 refine wpAny_newObj_type (wpAny_newFunctionEnv ok.cell (by intro y hy;simp at hy) (λh₁ hns₁ hsb₁=>?_) ok.kind)
 have hp2:H2 s2.heap.objs.size=none:=I2.hok.fresh (Nat.le_refl _)
 have I3:Inv X pins σ (upd H2 s2.heap.objs.size (.lst [])) { s2 with heap:=s2.heap.push { cls:= .type "list",dict:=none,data:= .seq ([]:List Value).toArray } }:=
  I2.laid (t':=s2.toks) (λb u e=>Heap.get?_push_of_some _ e) (Nat.le_refl _) ⟨Nat.zero_le _,[],0,.nil,Heap.get?_push_size _ rfl⟩
 obtain⟨W,⟨m0,w0⟩,turn⟩:=R _ hp2
 have fpo:∀b∈fp,∃o,s2.heap.get? b=some o:=λb hb=>let⟨o,e,_⟩:=T.obj _ _ st2 b hb;⟨o,e⟩
 have a0b:∀b∈fp,b≠s2.heap.objs.size:=λb hb=>let⟨o,e⟩:=fpo b hb;Nat.ne_of_lt (Heap.lt_size e)
 have f3:∀b∈fp,zU X pins (upd H2 s2.heap.objs.size (.lst [])) b:=λb hb=>⟨by rw[bY (a0b b hb)];exact(f2 b hb).1,(f2 b hb).2⟩
 generalize hS:({ s2 with heap:=s2.heap.push { cls:= .type "list",dict:=none,data:= .seq ([]:List Value).toArray } }:Shared)=s3 at I3 hns₁ hsb₁ ⊢
 have h3:∀b o,s2.heap.get? b=some o->s3.heap.get? b=some o:=λb o e=>by rw[<-hS];exact Heap.get?_push_of_some _ e
 have a0c:∀b∈fp,∃o,s3.heap.get? b=some o:=λb hb=>let⟨o,e⟩:=fpo b hb;⟨o,h3 b o e⟩
 have hk3:∀b o,s3.heap.get? b=some o->h₁.get? b=some o:=λb o e=>hsb₁.extBut b o (Nat.ne_of_lt (Heap.lt_size e)) (Heap.get?_push_of_some _ e)
 have hH3:(upd H2 s2.heap.objs.size (.lst [])) s3.heap.objs.size=none:=I3.hok.fresh (Nat.le_refl _)
 have I4:Inv (lG X scope jr cl s3 (upd H2 s2.heap.objs.size (.lst [])) s3.heap.objs.size fp) [] (vD cap σ) (upd H2 s2.heap.objs.size (.lst [])) { s3 with heap:=h₁,toks:=s3.toks+([]:List (Str×Value)).length }:=
  Rv ok I3 hcl f3 a0c rfl hns₁ hk3 rfl rfl
 have st4:tn 0 h₁:=T.keep _ _ _ st2 λb hb o e=>hk3 b o (h3 b o e)
 have Y4:∀b∈fp,b≠s3.heap.objs.size:=λb hb=>let⟨o,e⟩:=a0c b hb;Nat.ne_of_lt (Heap.lt_size e)
 have Y0:∀{H':Hp},(∀b∈fp,H' b=none)->∀b∈fp,zU (lG X scope jr cl s3 (upd H2 s2.heap.objs.size (.lst [])) s3.heap.objs.size fp) [] H' b:=λhn b hb=>
  ⟨hn b hb,Y4 b hb,I4.ok.Rm b hb,.inl hb,λx c e=>(I4.ok.exf b hb).2 x c e,λp hp=>absurd (show p∈([]:List (Addr×Obj)) from hp) (by simp)⟩
 obtain⟨hg,ht,he⟩:=hin cl s3 (upd H2 s2.heap.objs.size (.lst [])) s3.heap.objs.size fp
 have loop:codeAny (model X.prog X.w) X.A (.compLoop (.ListComp elt [⟨tg,iter,ifs,0⟩] scope pos) 0 (.ref it) (.ref s2.heap.objs.size) (compEnvC scope cl s3.heap.objs.size X.env))
  (compPost (model X.prog X.w) X.A X.xe use Q' (.ref s2.heap.objs.size) s3.heap.objs.size) { s3 with heap:=h₁,toks:=s3.toks+([]:List (Str×Value)).length }:=by
  refine Q0 (λn s'=>∃i ys H',Inv (lG X scope jr cl s3 (upd H2 s2.heap.objs.size (.lst [])) s3.heap.objs.size fp) [] (vD cap σ) H' s'/\tn i s'.heap/\(∀b∈fp,H' b=none)/\W i n ys H') ?_ m0
   ⟨0,[],_,I4,st4,λb hb=>by rw[bY (a0b b hb)];exact(f2 b hb).1,w0⟩
  rintro n s5 ⟨i,ys,H5,I5,ZF,fr5,w5⟩
  obtain⟨hp5,alt⟩:=turn i n ys H5 w5
  rcases alt with⟨stop,q⟩|⟨go,N,hN,step⟩
  ·refine iD (T.done (lG X scope jr cl s3 (upd H2 s2.heap.objs.size (.lst [])) s3.heap.objs.size fp) rfl rfl rfl hc i [] s5 (vD cap σ) H5 _ I5 (Y0 fr5) ZF stop) λr s6 ⟨hr,I6⟩=>?_
   subst hr
   obtain⟨m,hn,_⟩:=id I6.loc
   have hC6:H5 s3.heap.objs.size=none:=I6.free
   have bu:Un (frs X.stack) fp (upd H2 s2.heap.objs.size (.lst [])) H5 s3.heap s6.heap:=I6.base
   have Uo:∀b o,s3.heap.get? b=some o->b≠s3.heap.objs.size:=λb o e=>Nat.ne_of_lt (Heap.lt_size e)
   have out:∀h',Heap.SameBut s3.heap.objs.size s6.heap h'->Inv X pins σ H5 { s6 with heap:=h' }:=λh' hs'=>by
    have bu':Un (frs X.stack) fp (upd H2 s2.heap.objs.size (.lst [])) H5 s3.heap h':=⟨λb o e n1 n2 n3=>(hs'.2 b (Uo b o e)).trans (bu.keep b o e n1 n2 n3),
     λb o e n1 n2 n3=>let⟨sl,q⟩:=bu.slot b o e n1 n2 n3;⟨sl,(hs'.2 b (Uo b o e)).trans q⟩,bu.free,λb o e n1=>let⟨o',q⟩:=bu.there b o e n1;⟨o',(hs'.2 b (Uo b o e)).trans q⟩,bu.tups,bu.Ec,bu.Ie⟩
    exact I3.call' (s':={ s6 with heap:=h' }) (ch:=fp) I6.os bu' (Vf I6.hok hC6 hs') I6.bare (λb hb=>⟨(f3 b hb).2.2.2.1,(f3 b hb).2.1,(f3 b hb).2.2.2.2.1,(f3 b hb).2.2.2.2.2⟩)
   exact fin s6 H5 s2.heap.objs.size s3.heap.objs.size m (out s6.heap (Heap.SameBut.refl ..)) (I3.Pr (Nat.le_refl _) hC6) hn out q
  ·refine iD (T.item (lG X scope jr cl s3 (upd H2 s2.heap.objs.size (.lst [])) s3.heap.objs.size fp) rfl rfl rfl hc i [] s5 (vD cap σ) H5 _ I5 (Y0 fr5) ZF go) λr s6 ⟨u,hr,h6⟩=>?_
   subst hr
   refine iD h6 λ_ s7 ⟨x,H7,I7,r7,y7,st7,fr7⟩=>?_
   have I7':=I7.pinned (Y0 fr7) (T.obj _ _ st7)
   refine wpAny_mono (hg _ s7 _ H7 x u _ I7' r7 (step x H7 y7)) (λ_ s8 ⟨σ8,H8,I8,a0q,q8⟩=>?_) λ_ _ z=>False.elim z
   refine wpAny_mono (ht _ s8 σ8 H8 _ I8 q8) (λokb s9 ⟨H9,I9,q9⟩=>?_) λ_ _ z=>False.elim z
   have again:∀{H':Hp}{ys':List V}{s':Shared},Inv (lG X scope jr cl s3 (upd H2 s2.heap.objs.size (.lst [])) s3.heap.objs.size fp) ([]++Dd fp s7.heap) σ8 H' s'->N ys' H'->
    ∃m,m<n/\∃i ys H',Inv (lG X scope jr cl s3 (upd H2 s2.heap.objs.size (.lst [])) s3.heap.objs.size fp) [] (vD cap σ) H' s'/\tn i s'.heap/\(∀b∈fp,H' b=none)/\W i m ys H':=λ{H' ys' s'} I' n'=>by
    obtain⟨m',hm,w'⟩:=hN ys' H' n'
    refine⟨m',hm,i+1,ys',H',(I'.yx).weak (I4.len.trans I'.len.symm) a0q,T.keep _ _ _ st7 λb hb o e=>(I'.pin (b,o) (List.mem_append_right _ (List.mem_append_right _ (qZ hb e)))).1,λb hb=>?_,w'⟩
    obtain⟨o,e,d⟩:=T.obj _ _ st7 b hb
    exact(I'.pin (b,o) (List.mem_append_right _ (List.mem_append_right _ (qZ hb e)))).2.1
   cases okb with
   |false=>
    rw[if_neg Bool.false_ne_true]at q9 ⊢
    exact again I9 q9
   |true=>
    rw[if_pos rfl]at q9 ⊢
    refine wpAny_mono (he _ s9 σ8 H9 _ I9 q9) (λyv s10 ⟨y,H10,I10,r10,a1v,hz,n10⟩=>?_) λ_ _ z=>False.elim z
    refine wpAny_mono (Gd (X:=lG X scope jr cl s3 (upd H2 s2.heap.objs.size (.lst [])) s3.heap.objs.size fp) _ s10 σ8 H10 (.ref s2.heap.objs.size) [y] (.ref s2.heap.objs.size) [yv] (λ_ H'=>N (ys++[y]) H') I10 rfl (.cons r10 .nil) ⟨_,ys,y,rfl,rfl,a1v,hz,n10⟩) (λ_ s11 ⟨_,H11,I11,_,n11⟩=>?_) λ_ _ z=>False.elim z
    exact again I11 n11
 exact codeAny_compStart_list loop (T.self _ 0 _ _ _ st4 loop)
theorem VM (hc:X.calm=true)(ok:vq X scope jr cap)(hi:PI X tg iter wi)
 (hin:∀cl s H C fp,PG (lG X scope jr cl s H C fp) tg g/\GC (lG X scope jr cl s H C fp) ifs tt/\PE (lG X scope jr cl s H C fp) elt te)
 (hs:∀x,foldedSetIterable iter X.env x=pure x:=by intro _;rfl):PE X (.ListComp elt [⟨tg,iter,ifs,0⟩] scope pos) (O4 cap wi g tt te):=by
 intro pins s σ H Q I h
 rw[eval_ListComp]
 refine Fx (use:=none) hc ok hi hin hs I h λs6 H5 p C m I6 hC hn out q=>?_
 exact⟨m,hn,λh' hs'=>⟨.ref p,H5,out h' hs',rfl,q⟩⟩
theorem W8 {i:Nat}{x:Str}{spos pos':Pos}(hc:X.calm=true)(ok:vq X scope jr cap)(hi:PI X tg iter wi)
 (hin:∀cl s H C fp,PG (lG X scope jr cl s H C fp) tg g/\GC (lG X scope jr cl s H C fp) ifs tt/\PE (lG X scope jr cl s H C fp) elt te)
 (hN:X.N.Nodup)(hix:X.N[i]?=some x)(hx:X.env.scope.names.lookup x=some .local)
 (hsw:swapsWith (.ListComp elt [⟨tg,iter,ifs,0⟩] scope pos) (some (.Name x pos')) spos.line X.env=pure true)
 (hs:∀x,foldedSetIterable iter X.env x=pure x:=by intro _;rfl):
 PS X (.Assign [.Name x pos'] (.ListComp elt [⟨tg,iter,ifs,0⟩] scope pos) spos) (Zh (O4 cap wi g tt te) (Rp i)):=by
 intro pins s σ H E I h
 rw[exec_Assign_Name_used _ _ _ _ hsw]
 refine wpAny_bind (wpAny_standAt (wpAny_bind ?_))
 show wpAny _ X.A (do let _<-comprehension (.ListComp elt [⟨tg,iter,ifs,0⟩] scope pos) scope X.env _ (newList []) false (eval iter X.env) (some (assign (.Name x pos') X.env))) _ _ s
 refine wpAny_bind (wpAny_mono (Fx (Q':=λ_ s'=>SP X pins E .next s') (use:=some (assign (.Name x pos') X.env)) hc ok hi hin hs I h ?_) (λ_ s' hq=>wpAny_pure (wpAny_pure hq)) λ_ _ e=>e)
 intro s6 H5 p C m I6 hC hn out q
 show wpAny (model X.prog X.w) X.A (assign (.Name x pos') X.env (.ref p)) _ _ s6
 refine wpAny_assign_Name (Gv (v:= .ref p) I6 hN hix (.inl hx) rfl (λs7 I7 sb=>?_) (.inr hx))
 obtain⟨a,sb,ha⟩:=sb
 have Uo:a≠C:=by
  rcases ha with rfl|ha
  ·exact Ne.symm hC.2.1
  ·exact hC.2.2.2.2.1 x a ha
 refine⟨m,hn.sameBut sb (Ne.symm Uo),λh' hs'=>⟨σ.set i (some (.ref p)),H5,?_,q⟩⟩
 exact I7.turned (t':=s7.toks) (λb o hb e=>(hs'.2 b hb).trans e) hC.1 hC.2.1 hC.2.2.2.1 hC.2.2.2.2.1 hC.2.2.2.2.2
end
inductive L where
 |val (d:D) (fr:Bool)
 |own (l:List D) (fr:Bool) (tg:Option Nat)
 |jx (ks:List Key) (l:List D) (fr:Bool)
abbrev bw:=List (Option L)
structure Gh where
 d:D
 fr:Bool
 v:V
 tag:Option Nat:=none
def L.isOwn:L->Bool
 | .val _ _=>false
 |_=>true
def L.toD:L->D
 | .val d _=>d
 | .own l _ _=> .lst l
 | .jx ks l _=> .dct ks l
def AV (fr:Bool)(O:Addr->Prop)(H₀:Hp):Addr->Prop:=λa=>O a\/(fr=true/\H₀ a≠none)
def RL (O:Addr->Prop)(K:Fg)(H₀ H:Hp):L->V->Prop
 | .val d fr,v=>Rep (AV fr O H₀) K H d v
 | .own l fr _,v=>∃p vs,v= .ref p/\O p/\H p=some (.lst vs)/\aV (AV fr O H₀) K H l vs
 | .jx ks l fr,v=>∃p vs,v= .ref p/\O p/\H p=some (.dK (ks.zip vs))/\ks.length=vs.length/\aV (AV fr O H₀) K H l vs
structure fD (O:Addr->Prop)(K:Fg)(H₀ H:Hp)(σ:L2.St)(ρ:bw)(γ:List Gh):Prop where
 same:bV H₀ H
 wi:Within O H
 new:∀a,O a->H₀ a=none
 rel:∀(i:Nat) (l:L),ρ[i]?=some (some l)->∃v,σ[i]?=some (some v)/\RL O K H₀ H l v
 apart:∀(i j:Nat) (l m:L) (p:Addr),ρ[i]?=some (some l)->l.isOwn=true->σ[i]?=some (some (.ref p))->ρ[j]?=some (some m)->m.isOwn=true->σ[j]?=some (some (.ref p))->i=j
 len:σ.length=ρ.length
 gh:∀g∈γ,g.tag=none->Rep (AV g.fr O H₀) K H g.d g.v
 tag:∀(i:Nat) (l:List D) (fr:Bool) (t:Nat),ρ[i]?=some (some (.own l fr (some t)))->∃g∈γ,g.tag=some t/\σ[i]?=some (some g.v)
def WL (K:Fg)(H₀ H:Hp)(σ:L2.St)(ρ:bw)(γ:List Gh):Prop:=∃O,fD O K H₀ H σ ρ γ
section
variable {O O':Addr->Prop}{K:Fg}{H₀ H H':Hp}{σ:L2.St}{ρ:bw}{γ:List Gh}
theorem AV.within {fr:Bool}(w:Within O H)(s:bV H₀ H):Within (AV fr O H₀) H:=λa z e=>by
 rcases z with z|⟨_,z⟩
 ·exact w a z e
 ·exact z (s.free e)
theorem RL.mono {l:L}{v:V}(s:bV H H')(h:RL O K H₀ H l v):RL O K H₀ H' l v:=by
 cases l with
 |val d fr=>exact Rep.mono s h
 |own l fr tg=>
  obtain⟨p,vs,e,o,h1,h2⟩:=h
  exact⟨p,vs,e,o,s _ _ h1,h2.mono s⟩
 |jx ks l fr=>
  obtain⟨p,vs,e,o,h1,h3,h2⟩:=h
  exact⟨p,vs,e,o,s _ _ h1,h3,h2.mono s⟩
theorem fD.mono (s:bV H H')(h:fD O K H₀ H σ ρ γ):fD O K H₀ H' σ ρ γ:=
 ⟨h.same.trans s,h.wi.mono s,h.new,λi l e=>let⟨v,a,b⟩:=h.rel i l e;⟨v,a,b.mono s⟩,h.apart,h.len,λg hg ht=>(h.gh g hg ht).mono s,h.tag⟩
def vis (ρ:bw):aK:=ρ.map λo=>o.map L.toD
def cj:Addr->Prop:=λ_=>False
theorem fD.vis (h:fD O K H₀ H σ ρ γ):nA cj K H σ (vis ρ):=λi d e=>by
 unfold DL.vis at e
 rw[List.getElem?_map]at e
 cases e1:ρ[i]? with
 |none=>rw[e1]at e;cases e
 |some o=>
  rw[e1]at e
  cases o with
  |none=>cases e
  |some l=>
   simp only[Option.map_some,Option.some.injEq]at e
   subst e
   obtain⟨v,a,b⟩:=h.rel i l e1
   refine⟨v,a,?_⟩
   cases l with
   |val d fr=>exact Rep.weak (λ_ z=>z.elim) b
   |own l fr tg=>
    obtain⟨p,vs,rfl,o,h1,h2⟩:=b
    exact⟨p,vs,rfl,⟨h1,λz=>z⟩,h2.weak λ_ z=>z.elim⟩
   |jx ks l fr=>
    obtain⟨p,vs,rfl,o,h1,h3,h2⟩:=b
    exact⟨p,vs,rfl,⟨h1,λz=>z⟩,h3,h2.weak λ_ z=>z.elim⟩
theorem eF:Within cj H:=λ_ z=>z.elim
def pick (fr:Bool):Option L->Option D
 |some (.val d f)=>if !fr||f||flat d then some d else none
 |_=>none
def vals (fr:Bool)(ρ:bw):aK:=ρ.map (pick fr)
theorem fD.vals {fr:Bool}(h:fD O K H₀ H σ ρ γ):nA (AV fr O H₀) K H σ (vals fr ρ):=λi d e=>by
 unfold DL.vals at e
 rw[List.getElem?_map]at e
 cases e1:ρ[i]? with
 |none=>rw[e1]at e;cases e
 |some o=>
  rw[e1]at e
  simp only[Option.map_some,Option.some.injEq]at e
  cases o with
  |none=>cases e
  |some l=>
   cases l with
   |own l f tg=>cases e
   |jx ks l f=>cases e
   |val d' f=>
    simp only[pick]at e
    split at e
    ·rename_i hc
     cases e
     obtain⟨v,a,b⟩:=h.rel i _ e1
     refine⟨v,a,?_⟩
     have b':Rep (AV f O H₀) K H d v:=b
     simp only[Bool.or_eq_true,Bool.not_eq_true']at hc
     rcases hc with(hc|hc)|hc
     ·subst hc
      exact b'.weak λa z=>z.elim .inl λz=>by cases z.1
     ·subst hc
      exact b'.weak λa z=>z.elim .inl λz=> .inr ⟨rfl,z.2⟩
     ·exact Rep.cX d hc b'
    ·cases e
theorem dj {α:Type}{l:List α}{i j:Nat}{a b:α}(h:(l.set i a)[j]?=some b):(j=i/\a=b/\i<l.length)\/(j≠i/\l[j]?=some b):=by
 by_cases e:i=j
 ·subst e
  by_cases hl:i<l.length
  ·rw[List.getElem?_set_self hl]at h
   exact .inl ⟨rfl,Option.some.inj h,hl⟩
  ·rw[List.getElem?_eq_none (by rw[List.length_set];omega)]at h
   cases h
 ·rw[List.getElem?_set_ne e]at h
  exact .inr ⟨λz=>e z.symm,h⟩
theorem fD.HX {i:Nat}{d:D}{fr:Bool}{v:V}(h:fD O K H₀ H σ ρ γ)(r:Rep (AV fr O H₀) K H d v):fD O K H₀ H (σ.set i (some v)) (ρ.set i (some (.val d fr))) γ:=by
 refine⟨h.same,h.wi,h.new,λj l e=>?_,λj k l m p e1 o1 e2 e3 o2 e4=>?_,by rw[List.length_set,List.length_set];exact h.len,h.gh,λj l fr t e=>?_⟩
 rotate_left 2
 ·rcases dj e with⟨rfl,e,hl⟩|⟨hj,e⟩
  ·cases e
  ·obtain⟨g,a,b,c⟩:=h.tag j l fr t e
   exact⟨g,a,b,by rw[List.getElem?_set_ne (Ne.symm hj)];exact c⟩
 ·rcases dj e with⟨rfl,e,hl⟩|⟨hj,e⟩
  ·cases e
   exact⟨v,List.getElem?_set_self (by rw[h.len];exact hl),r⟩
  ·obtain⟨w,a,b⟩:=h.rel j l e
   exact⟨w,by rw[List.getElem?_set_ne (Ne.symm hj)];exact a,b⟩
 ·rcases dj e1 with⟨rfl,e,_⟩|⟨hj,e1⟩
  ·cases e;cases o1
  ·rcases dj e3 with⟨rfl,e,_⟩|⟨hk,e3⟩
   ·cases e;cases o2
   ·rw[List.getElem?_set_ne (Ne.symm hj)]at e2
    rw[List.getElem?_set_ne (Ne.symm hk)]at e4
    exact h.apart j k l m p e1 o1 e2 e3 o2 e4
theorem fD.Tw {i:Nat}{l:List D}{fr:Bool}{p:Addr}{vs:List V}(h:fD O K H₀ H σ ρ γ)(s:bV H H')(hp:H p=none)(hl:H' p=some (.lst vs))(r:aV (λa=>AV fr O H₀ a\/a=p) K H' l vs):
 fD (λa=>O a\/a=p) K H₀ H' (σ.set i (some (.ref p))) (ρ.set i (some (.own l fr none))) γ:=by
 have up:∀(f:Bool) a,AV f (λa=>O a\/a=p) H₀ a->(AV f O H₀ a\/a=p):=λf a z=>by
  rcases z with(z|z)|z
  ·exact .inl (.inl z)
  ·exact .inr z
  ·exact .inl (.inr z)
 have old:∀(m:L) (v:V),RL O K H₀ H m v->RL (λa=>O a\/a=p) K H₀ H' m v:=λm v b=>by
  cases m with
  |val d f=>
   have b':Rep (AV f O H₀) K H d v:=b
   exact((Rep.join hp d b').mono s).weak (up f)
  |own l f tg=>
   obtain⟨q,us,e,o,h1,h2⟩:=b
   exact⟨q,us,e,.inl o,s _ _ h1,((aV.join hp l h2).mono s).weak (up f)⟩
  |jx ks l f=>
   obtain⟨q,us,e,o,h1,h3,h2⟩:=b
   exact⟨q,us,e,.inl o,s _ _ h1,h3,((aV.join hp l h2).mono s).weak (up f)⟩
 refine⟨h.same.trans s,λa z=>?_,λa z=>?_,λj m e=>?_,λj k m n q e1 o1 e2 e3 o2 e4=>?_,by rw[List.length_set,List.length_set];exact h.len,λg hg ht=>((Rep.join hp _ (h.gh g hg ht)).mono s).weak (up g.fr),λj l fr t e=>?_⟩
 rotate_left 4
 ·rcases dj e with⟨rfl,e,hl'⟩|⟨hj,e⟩
  ·cases e
  ·obtain⟨g,a,b,c⟩:=h.tag j l fr t e
   exact⟨g,a,b,by rw[List.getElem?_set_ne (Ne.symm hj)];exact c⟩
 ·rcases z with z|rfl
  ·exact(h.wi.mono s) a z
  ·rw[hl];simp
 ·rcases z with z|rfl
  ·exact h.new a z
  ·exact h.same.free hp
 ·rcases dj e with⟨rfl,e,hl'⟩|⟨hj,e⟩
  ·cases e
   exact⟨.ref p,List.getElem?_set_self (by rw[h.len];exact hl'),p,vs,rfl,.inr rfl,hl,r.weak (up fr)⟩
  ·obtain⟨w,a,b⟩:=h.rel j m e
   exact⟨w,by rw[List.getElem?_set_ne (Ne.symm hj)];exact a,old m w b⟩
 ·have S6:∀(j:Nat) (m:L),ρ[j]?=some (some m)->m.isOwn=true->σ[j]?=some (some (.ref p))->False:=λj m e o e'=>by
   obtain⟨w,a,b⟩:=h.rel j m e
   rw[e']at a
   cases a
   cases m with
   |val d f=>cases o
   |own l f tg=>obtain⟨q,us,e5,_,h1,_⟩:=b;cases e5;rw[hp]at h1;cases h1
   |jx ks l f=>obtain⟨q,us,e5,_,h1,_⟩:=b;cases e5;rw[hp]at h1;cases h1
  have hlt:∀{x:Option L}{y:Option L}{j:Nat},(ρ.set i x)[j]?=some y->j<σ.length:=λe=>by
   have:=(List.getElem?_eq_some_iff.mp e).1
   rw[List.length_set]at this
   rw[h.len];exact this
  rcases dj e1 with⟨rfl,e,hi⟩|⟨hj,f1⟩
  ·rcases dj e3 with⟨rfl,e',_⟩|⟨hk,f3⟩
   ·rfl
   ·rw[List.getElem?_set_self (by rw[h.len];exact hi)]at e2
    cases e2
    rw[List.getElem?_set_ne (Ne.symm hk)]at e4
    exact(S6 k n f3 o2 e4).elim
  ·rw[List.getElem?_set_ne (Ne.symm hj)]at e2
   rcases dj e3 with⟨rfl,e',hi⟩|⟨hk,f3⟩
   ·rw[List.getElem?_set_self (by rw[h.len];exact hi)]at e4
    cases e4
    exact(S6 j m f1 o1 e2).elim
   ·rw[List.getElem?_set_ne (Ne.symm hk)]at e4
    exact h.apart j k m n q f1 o1 e2 f3 o2 e4
theorem fD.turn {i:Nat}{l l':List D}{fr:Bool}{tg:Option Nat}{p:Addr}{vs vs':List V}(h:fD O K H₀ H σ ρ γ)(e:ρ[i]?=some (some (.own l fr tg)))(e2:σ[i]?=some (some (.ref p)))(hp:H p=some (.lst vs))(hO:O p)
 (r:aV (AV fr O H₀) K H l' vs'):fD O K H₀ (upd H p (.lst vs')) σ (ρ.set i (some (.own l' fr tg))) γ:=by
 have hi:i<ρ.length:=(List.getElem?_eq_some_iff.mp e).1
 have kp:∀f,pP (AV f O H₀) H (upd H p (.lst vs')):=λf=>pP.Ob (.inl hO) hp
 have sm:bV H₀ (upd H p (.lst vs')):=λb u z=>by
  rw[bY (cM z (h.new p hO))]
  exact h.same b u z
 refine⟨sm,λa z q=>?_,h.new,λj m e3=>?_,λj k m n q e3 o1 e4 e5 o2 e6=>?_,by rw[List.length_set];exact h.len,λg hg ht=>Rep.keep (λ_ z=>z) (kp g.fr) _ (h.gh g hg ht),λj l2 Zz t e3=>?_⟩
 rotate_left 3
 ·rcases dj e3 with⟨rfl,e3,_⟩|⟨hj,e3⟩
  ·cases e3
   exact h.tag _ _ _ _ e
  ·exact h.tag j l2 Zz t e3
 ·by_cases ha:a=p
  ·subst ha;rw[cH]at q;cases q
  ·rw[bY ha]at q;exact h.wi a z q
 ·rcases dj e3 with⟨rfl,e3,_⟩|⟨hj,e3⟩
  ·cases e3
   exact⟨.ref p,e2,p,vs',rfl,hO,cH,aV.keep (λ_ z=>z) (kp fr) l' r⟩
  ·obtain⟨w,a,b⟩:=h.rel j m e3
   refine⟨w,a,?_⟩
   cases m with
   |val d f=>exact Rep.keep (λ_ z=>z) (kp f) d b
   |own l2 f tg2=>
    obtain⟨q,us,rfl,o,h1,h2⟩:=b
    have hq:q≠p:=λz=>by
     subst z
     exact hj (h.apart j i _ _ q e3 rfl a e rfl e2)
    exact⟨q,us,rfl,o,by rw[bY hq];exact h1,aV.keep (λ_ z=>z) (kp f) l2 h2⟩
   |jx ks l2 f=>
    obtain⟨q,us,rfl,o,h1,h3,h2⟩:=b
    have hq:q≠p:=λz=>by
     subst z
     rw[hp]at h1;cases h1
    exact⟨q,us,rfl,o,by rw[bY hq];exact h1,h3,aV.keep (λ_ z=>z) (kp f) l2 h2⟩
 ·have back:∀{j:Nat}{m:L},(ρ.set i (some (.own l' fr tg)))[j]?=some (some m)->m.isOwn=true->∃m',ρ[j]?=some (some m')/\m'.isOwn=true:=λ{j m} z o=>by
   rcases dj z with⟨rfl,_,_⟩|⟨_,z⟩
   ·exact⟨_,e,rfl⟩
   ·exact⟨m,z,o⟩
  obtain⟨m',e7,o3⟩:=back e3 o1
  obtain⟨n',e8,o4⟩:=back e5 o2
  exact h.apart j k m' n' q e7 o3 e4 e8 o4 e6
theorem fD.freeze {i:Nat}{l:List D}{fr:Bool}{tg:Option Nat}(h:fD O K H₀ H σ ρ γ)(e:ρ[i]?=some (some (.own l fr tg))):∃O',fD O' K H₀ H σ (ρ.set i (some (.val (.lst l) fr))) γ:=by
 have hi:i<ρ.length:=(List.getElem?_eq_some_iff.mp e).1
 obtain⟨v,e2,p,vs,rfl,hO,hp,r⟩:=h.rel i _ e
 have dn:∀(f:Bool) a,AV f (λa=>O a/\a≠p) H₀ a->AV f O H₀ a:=λf a z=>z.imp (λz=>z.1) id
 refine⟨λa=>O a/\a≠p,h.same,λa z=>h.wi a z.1,λa z=>h.new a z.1,λj m e3=>?_,λj k m n q e3 o1 e4 e5 o2 e6=>?_,by rw[List.length_set];exact h.len,λg hg ht=>(h.gh g hg ht).weak (dn g.fr),λj l2 Zz t e3=>?_⟩
 rotate_left 2
 ·rcases dj e3 with⟨rfl,e3,_⟩|⟨hj,e3⟩
  ·cases e3
  ·exact h.tag j l2 Zz t e3
 ·rcases dj e3 with⟨rfl,e3,_⟩|⟨hj,e3⟩
  ·cases e3
   refine⟨.ref p,e2,p,vs,rfl,⟨hp,λz=>?_⟩,r.weak (dn fr)⟩
   rcases z with z|z
   ·exact z.2 rfl
   ·exact z.2 (h.new p hO)
  ·obtain⟨w,a,b⟩:=h.rel j m e3
   refine⟨w,a,?_⟩
   cases m with
   |val d f=>exact Rep.weak (dn f) b
   |own l2 f tg2=>
    obtain⟨q,us,rfl,o,h1,h2⟩:=b
    exact⟨q,us,rfl,⟨o,λz=>by subst z;exact hj (h.apart j i _ _ q e3 rfl a e rfl e2)⟩,h1,h2.weak (dn f)⟩
   |jx ks l2 f=>
    obtain⟨q,us,rfl,o,h1,h3,h2⟩:=b
    exact⟨q,us,rfl,⟨o,λz=>by subst z;rw[hp]at h1;cases h1⟩,h1,h3,h2.weak (dn f)⟩
 ·have back:∀{j:Nat}{m:L},(ρ.set i (some (.val (.lst l) fr)))[j]?=some (some m)->m.isOwn=true->ρ[j]?=some (some m):=λ{j m} z o=>by
   rcases dj z with⟨rfl,z,_⟩|⟨_,z⟩
   ·cases z;cases o
   ·exact z
  exact h.apart j k m n q (back e3 o1) o1 e4 (back e5 o2) o2 e6
end
inductive RK where
 |any|new|own
def QM (K:Fg)(H₀ H:Hp)(d:D):RK->V->Prop
 | .any,v=>Rep cj K H d v
 | .new,v=>Rep (λa=>H₀ a≠none) K H d v
 | .own,v=>∃l p vs,d= .lst l/\v= .ref p/\H₀ p=none/\H p=some (.lst vs)/\aV (λa=>H₀ a≠none\/a=p) K H l vs
theorem QM.rep {K:Fg}{H₀ H:Hp}{d:D}{k:RK}{v:V}(h:QM K H₀ H d k v):Rep cj K H d v:=by
 cases k with
 |any=>exact h
 |new=>exact Rep.weak (λ_ z=>z.elim) h
 |own=>
  obtain⟨l,p,vs,rfl,rfl,h0,h1,h2⟩:=h
  exact⟨p,vs,rfl,⟨h1,λz=>z⟩,h2.weak λ_ z=>z.elim⟩
inductive DR where
 |nx (ρ:bw)|bk (ρ:bw)|ct (ρ:bw)|rt (d:D) (k:RK) (ρ:bw)
def a1k (K:Fg)(H₀:Hp)(γ:List Gh)(E:Ends):DR->Prop
 | .nx ρ=>∀σ H,WL K H₀ H σ ρ γ->E.nx σ H
 | .bk ρ=>∀σ H,WL K H₀ H σ ρ γ->E.bk σ H
 | .ct ρ=>∀σ H,WL K H₀ H σ ρ γ->E.ct σ H
 | .rt d k ρ=>∀v σ H,WL K H₀ H σ ρ γ->QM K H₀ H d k v->E.rt v H
def tS (K:Fg)(H₀:Hp)(G:bw->Option DR):TS:=λE σ H=>∃ρ γ r,WL K H₀ H σ ρ γ/\G ρ=some r/\a1k K H₀ γ E r
structure SD (X:Cx)(st:Stmt)(H₀:Hp)(G:bw->Option DR):Prop where
 mk::(h:PS X st (tS X.K H₀ G))
structure QS (X:Cx)(st:List Stmt)(H₀:Hp)(G:bw->Option DR):Prop where
 mk::(h:yF X st (tS X.K H₀ G))
theorem _root_.L2.PS.imp {X:Cx}{st:Stmt}{t t':TS}(h:PS X st t)(k:∀E σ H,t' E σ H->t E σ H):PS X st t':=λpins s σ H E I q=>h pins s σ H E I (k E σ H q)
theorem _root_.L2.yF.imp {X:Cx}{st:List Stmt}{t t':TS}(h:yF X st t)(k:∀E σ H,t' E σ H->t E σ H):yF X st t':=λpins s σ H E I q=>h pins s σ H E I (k E σ H q)
section
variable {X:Cx}{H₀:Hp}{st:Stmt}{rest a b:List Stmt}{G G1 G2:bw->Option DR}{pos:Pos}
def bJ:bw->Option DR:=λρ=>some (.nx ρ)
def aL (G1 G2:bw->Option DR):bw->Option DR:=λρ=>(G1 ρ).bind λr=>match r with
 | .nx ρ'=>G2 ρ'
 |r=>some r
theorem cB:QS X [] H₀ bJ:= .mk<|yF.imp Nv λE σ H ⟨ρ,γ,r,R,e,q⟩=>by
 cases e
 exact q σ H R
theorem aB (h1:SD X st H₀ G1)(h2:QS X rest H₀ G2):QS X (st::rest) H₀ (aL G1 G2):=have h1:=h1.1;have h2:=h2.1; .mk<|yF.imp (JQ h1 h2) λE σ H ⟨ρ,γ,r,R,e,q⟩=>by
 obtain⟨r1,e1,e2⟩:=bind_some e
 refine⟨ρ,γ,r1,R,e1,?_⟩
 cases r1 with
 |nx ρ'=>exact λσ' H' R'=>⟨ρ',γ,r,R',e2,q⟩
 |bk ρ'=>cases e2;exact q
 |ct ρ'=>cases e2;exact q
 |rt d k ρ'=>cases e2;exact q
theorem aJ (h1:SD X st H₀ G):QS X [st] H₀ G:=have h1:=h1.1; .mk<|Wa h1
theorem Tr:SD X (.Break pos) H₀ (λρ=>some (.bk ρ)):= .mk<|PS.imp T3 λE σ H ⟨ρ,γ,r,R,e,q⟩=>by
 cases e
 exact q σ H R
theorem Tv:SD X st H₀ (λ_=>none):= .mk<|PS.imp T4 λE σ H ⟨ρ,γ,r,R,e,q⟩=>by cases e
def gj (T:aK->Option Bool)(G1 G2:bw->Option DR):bw->Option DR:=λρ=>(T (vis ρ)).bind λx=>if x=true then G1 ρ else G2 ρ
theorem eE {c:Expr}{T:aK->Option Bool}(hc:QH X c T)(ha:QS X a H₀ G1)(hb:QS X b H₀ G2):SD X (.If c a b pos) H₀ (gj T G1 G2):=have hc:=hc.1;have ha:=ha.1;have hb:=hb.1; .mk<|PS.imp (a0E hc ha hb) λE σ H ⟨ρ,γ,r,⟨O,R⟩,e,q⟩=>by
 obtain⟨x,e1,e2⟩:=bind_some e
 refine⟨cj,vis ρ,x,eF,R.vis,e1,λH1 s1=>?_⟩
 cases x with
 |true=>exact Lb ⟨ρ,γ,r,⟨O,R.mono s1⟩,e2,q⟩
 |false=>exact La ⟨ρ,γ,r,⟨O,R.mono s1⟩,e2,q⟩
def three {α β:Type}(F:aK->Option α)(fl:α->Bool)(k:α->Bool->β)(ρ:bw):Option β:=(F (vis ρ)).bind λd=>
 if fl d=true then some (k d true)else match F (vals true ρ)with
  |some d'=>some (k d' true)
  |none=>(F (vals false ρ)).map λd'=>k d' false
theorem ur {α β:Type}{F:aK->Option α}{fl:α->Bool}{k:α->Bool->β}{ρ:bw}{r:β}(h:three F fl k ρ=some r):
 (∃d,F (vis ρ)=some d/\fl d=true/\r=k d true)\/∃fr d,F (vals fr ρ)=some d/\r=k d fr:=by
 unfold three at h
 obtain⟨d,e1,e2⟩:=bind_some h
 split at e2
 ·rename_i hc
  cases e2
  exact .inl ⟨d,e1,hc,rfl⟩
 ·split at e2
  ·rename_i d' e3
   cases e2
   exact .inr ⟨true,d',e3,rfl⟩
  ·cases e3:F (vals false ρ)with
   |none=>rw[e3]at e2;cases e2
   |some d'=>rw[e3]at e2;cases e2;exact .inr ⟨false,d',e3,rfl⟩
variable {e:Expr}{F:aK->Option D}
def aZ (i:Nat)(F:aK->Option D):bw->Option DR:=λρ=>three F flat (λd fr=> .nx (ρ.set i (some (.val d fr)))) ρ
theorem Kp {σ:L2.St}{H:Hp}{O:Addr->Prop}{ρ:bw}{γ:List Gh}{β:Type}{k:D->Bool->β}{r:β}{Q:VK}(R:fD O X.K H₀ H σ ρ γ)(h:three F flat k ρ=some r)
 (q:∀d fr v H',r=k d fr->bV H H'->fD O X.K H₀ H' σ ρ γ->Rep (AV fr O H₀) X.K H' d v->Q v H'):tD X.K F σ H Q:=by
 rcases ur h with⟨d,e1,hf,e2⟩|⟨fr,d,e1,e2⟩
 ·exact⟨cj,vis ρ,d,eF,R.vis,e1,λv H' s1 r1=>q d true v H' e2 s1 (R.mono s1) (Rep.cX d hf r1)⟩
 ·exact⟨AV fr O H₀,vals fr ρ,d,AV.within R.wi R.same,R.vals,e1,λv H' s1 r1=>q d fr v H' e2 s1 (R.mono s1) r1⟩
theorem aY {i:Nat}{x:Str}{pos':Pos}(hN:X.N.Nodup)(hi:X.N[i]?=some x)(hx:Loc X.env.scope x)(he:ED X e F)(hs:swapsWith e (some (.Name x pos')) pos.line X.env=pure false:=by rfl)
 (hf:X.fn x=true\/X.env.scope.names.lookup x=some .local:=by first|exact .inl rfl|exact .inr rfl|assumption):SD X (.Assign [.Name x pos'] e pos) H₀ (aZ i F):=have he:=he.1; .mk<|PS.imp (LK hN hi hx he hs hf) λE σ H ⟨ρ,γ,r,⟨O,R⟩,e,q⟩=>Kp R e λd fr v H' e2 s1 R1 r1=>by
 subst e2
 exact q _ _ ⟨O,R1.HX r1⟩
def tN (K:Fg)(F:aK->Option (List D)):TE:=λσ H Q=>∃(O:Addr->Prop) (ρ:aK) (l:List D),Within O H/\nA O K H σ ρ/\F ρ=some l/\
 ∀p vs H',bV H H'->H p=none->H' p=some (.lst vs)->aV (λa=>O a\/a=p) K H' l vs->Q (.ref p) H'
structure EN (X:Cx)(e:Expr)(F:aK->Option (List D)):Prop where
 mk::(h:PE X e (tN X.K F))
variable {Fl:aK->Option (List D)}
def ju (i:Nat)(F:aK->Option (List D)):bw->Option DR:=λρ=>three F flat.flats (λl fr=> .nx (ρ.set i (some (.own l fr none)))) ρ
theorem Lx {σ:L2.St}{H:Hp}{O:Addr->Prop}{ρ:bw}{γ:List Gh}{β:Type}{k:List D->Bool->β}{r:β}{Q:VK}(R:fD O X.K H₀ H σ ρ γ)(h:three Fl flat.flats k ρ=some r)
 (q:∀l fr p vs H',r=k l fr->bV H H'->H p=none->H' p=some (.lst vs)->aV (λa=>AV fr O H₀ a\/a=p) X.K H' l vs->Q (.ref p) H'):tN X.K Fl σ H Q:=by
 rcases ur h with⟨l,e1,hf,e2⟩|⟨fr,l,e1,e2⟩
 ·exact⟨cj,vis ρ,l,eF,R.vis,e1,λp vs H' s1 hp hl r1=>q l true p vs H' e2 s1 hp hl (aV.cX l hf r1)⟩
 ·exact⟨AV fr O H₀,vals fr ρ,l,AV.within R.wi R.same,R.vals,e1,λp vs H' s1 hp hl r1=>q l fr p vs H' e2 s1 hp hl r1⟩
theorem lM {i:Nat}{x:Str}{pos':Pos}(hN:X.N.Nodup)(hi:X.N[i]?=some x)(hx:Loc X.env.scope x)(he:EN X e Fl)(hs:swapsWith e (some (.Name x pos')) pos.line X.env=pure false:=by rfl)
 (hf:X.fn x=true\/X.env.scope.names.lookup x=some .local:=by first|exact .inl rfl|exact .inr rfl|assumption):SD X (.Assign [.Name x pos'] e pos) H₀ (ju i Fl):=have he:=he.1; .mk<|PS.imp (LK hN hi hx he hs hf) λE σ H ⟨ρ,γ,r,⟨O,R⟩,e,q⟩=>Lx R e λl fr p vs H' e2 s1 hp hl r1=>by
 subst e2
 exact q _ _ ⟨_,R.Tw s1 hp hl r1⟩
theorem oO {es:List Expr}{Fs:aK->Option (List D)}(h:DQ X es Fs):EN X (.List es pos) (λρ=>(Fs ρ).bind λl=>if l.length<=sizeLine then some l else none):=have h:=h.1; .mk<|PE.imp (Sw h) λσ H Q ⟨O,ρ,l,w,r,e,q⟩=>by
 obtain⟨l',e1,e2⟩:=bind_some e
 split at e2
 case isFalse=>cases e2
 rename_i z
 cases e2
 exact⟨O,ρ,l,w,r,e1,λvs H1 s1 r1=>⟨by rw[<-r1.length];exact z,λp hp=>q p vs _ (s1.trans (bQ hp)) (s1.free hp) cH ((aV.join hp l r1).mono (bQ hp))⟩⟩
def dg (F:aK->Option D):bw->Option DR:=λρ=>three F flat (λd fr=> .rt d (if fr=true then .new else .any) ρ) ρ
theorem cu (he:ED X e F):SD X (.Return (some e) pos) H₀ (dg F):=have he:=he.1; .mk<|PS.imp (LC he) λE σ H ⟨ρ,γ,r,⟨O,R⟩,e,q⟩=>Kp R e λd fr v H' e2 s1 R1 r1=>by
 subst e2
 refine q v σ H' ⟨O,R1⟩ ?_
 cases fr with
 |true=>exact Rep.weak (λa z=> .inr ⟨rfl,z⟩) r1
 |false=>exact Rep.weak (λ_ z=>z.elim) r1
def qY (F:aK->Option (List D)):bw->Option DR:=λρ=>three F flat.flats (λl fr=> .rt (.lst l) (if fr=true then .own else .any) ρ) ρ
theorem zy (he:EN X e Fl):SD X (.Return (some e) pos) H₀ (qY Fl):=have he:=he.1; .mk<|PS.imp (LC he) λE σ H ⟨ρ,γ,r,⟨O,R⟩,e,q⟩=>Lx R e λl fr p vs H' e2 s1 hp hl r1=>by
 subst e2
 refine q (.ref p) σ H' ⟨O,R.mono s1⟩ ?_
 cases fr with
 |true=>exact⟨l,p,vs,rfl,rfl,R.same.free hp,hl,r1.weak λa z=>z.imp (λz=> .inr ⟨rfl,z⟩) id⟩
 |false=>exact⟨p,vs,rfl,⟨hl,λz=>z⟩,r1.weak λ_ z=>z.elim⟩
def nP (i:Nat):bw->Option DR:=λρ=>match ρ[i]? with
 |some (some (.own l fr _))=>some (.rt (.lst l) (if fr||flat.flats l then .own else .any) ρ)
 |some (some (.val d fr))=>some (.rt d (if fr||flat d then .new else .any) ρ)
 |_=>none
theorem o6 (i:Nat){x:Str}{p:Pos}(h:PE X (.Name x p) (Ep i)):SD X (.Return (some (.Name x p)) pos) H₀ (nP i):= .mk<|PS.imp (LC h) λE σ H ⟨ρ,γ,r,⟨O,R⟩,e,q⟩=>by
 unfold nP at e
 split at e
 ·rename_i l fr tg e1
  cases e
  obtain⟨v,e2,p,vs,rfl,hO,hp,r1⟩:=R.rel i _ e1
  refine⟨_,e2,q _ σ H ⟨O,R⟩ ?_⟩
  split
  ·rename_i hc
   refine⟨l,p,vs,rfl,rfl,R.new p hO,hp,?_⟩
   rw[Bool.or_eq_true]at hc
   rcases hc with hc|hc
   ·subst hc
    exact r1.weak λa z=>z.elim (λz=> .inr ⟨rfl,z⟩) λz=> .inl (by rw[z];exact hO)
   ·exact aV.cX l hc r1
  ·exact⟨p,vs,rfl,⟨hp,λz=>z⟩,r1.weak λ_ z=>z.elim⟩
 ·rename_i d fr e1
  cases e
  obtain⟨v,e2,r1⟩:=R.rel i _ e1
  have r1':Rep (AV fr O H₀) X.K H d v:=r1
  refine⟨_,e2,q _ σ H ⟨O,R⟩ ?_⟩
  split
  ·rename_i hc
   rw[Bool.or_eq_true]at hc
   rcases hc with hc|hc
   ·subst hc
    exact Rep.weak (λa z=> .inr ⟨rfl,z⟩) r1'
   ·exact Rep.cX d hc r1'
  ·exact Rep.weak (λ_ z=>z.elim) r1'
 ·cases e
def fU (i:Nat)(F:aK->Option D):bw->Option DR:=λρ=>match ρ[i]? with
 |some (some (.own l fr tg))=>if l.length<sizeLine then(F (vis ρ)).bind λd=>if flat d=true then some (.nx (ρ.set i (some (.own (l++[d]) fr tg))))else(F (vals fr ρ)).map λd'=> .nx (ρ.set i (some (.own (l++[d']) fr tg)))else none
 |_=>none
theorem mC (i:Nat){x:Str}{p apos cpos:Pos}(h:PE X (.Name x p) (Ep i))(he:ED X e F)(hbase:attributeBase (.Name x p) "append" X.env (eval (.Name x p) X.env)=eval (.Name x p) X.env:=by rfl)
 (hfew:((backTo cpos (starEach (e::[]) X.env)).all (λx=>!x.1)&&(backToKw cpos (keywordEach [] X.env)).all (λx=>x.1.isSome)
  &&decide ((e::[]).length+([]:List Keyword).length+(if([]:List Keyword).isEmpty then 0 else 1)<30))=true:=by rfl)
 (hline:(apos.endLine==cpos.line)=true:=by rfl)(hs:starEach (e::[]) X.env=(false,eval e X.env)::starEach [] X.env:=by rfl)(hsw:swapsWith (.Call (.Attribute (.Name x p) "append" apos) [e] [] cpos) none pos.line X.env=pure false:=by rfl):
 SD X (.Expr (.Call (.Attribute (.Name x p) "append" apos) [e] [] cpos) pos) H₀ (fU i F):=have he:=he.1; .mk<|PS.imp (Nu (Xa PySem.F.plainAttrs_list PySem.F.slot_list_append PySem.F.type_list_append Gd h (pF he zm hs) hbase hfew hline hs rfl) hsw) λE σ H ⟨ρ,γ,r,⟨O,R⟩,e,q⟩=>by
 unfold fU at e
 split at e
 ·rename_i l fr tg e1
  split at e
  ·rename_i hz
   obtain⟨v,e2,p,vs,rfl,hO,hp,r1⟩:=id (R.rel i _ e1)
   refine⟨_,e2,.inl ⟨rfl,vs,qK.of hp⟩,?_⟩
   have fin:∀{H1:Hp}{d:D}{u:V},bV H H1->Rep (AV fr O H₀) X.K H1 d u->r= .nx (ρ.set i (some (.own (l++[d]) fr tg)))->Nx (.ref p) [u] H1 (λ_ H3=>E.nx σ H3):=λ{H1 d u} s1 ru er=>by
    subst er
    refine⟨p,vs,u,rfl,rfl,s1 _ _ hp,by rw[<-r1.length];exact hz,?_⟩
    exact q σ _ ⟨O,(R.mono s1).turn e1 e2 (s1 _ _ hp) hO ((r1.mono s1).append (aV.one ru))⟩
   obtain⟨d,e3,e4⟩:=bind_some e
   split at e4
   ·rename_i hf
    cases e4
    exact⟨cj,vis ρ,d,eF,R.vis,e3,λu H1 s1 ru=>fin s1 (Rep.cX d hf ru) rfl⟩
   ·cases e5:F (vals fr ρ)with
    |none=>rw[e5]at e4;cases e4
    |some d'=>
     rw[e5]at e4
     cases e4
     exact⟨AV fr O H₀,vals fr ρ,d',AV.within R.wi R.same,R.vals,e5,λu H1 s1 ru=>fin s1 ru rfl⟩
  ·cases e
 ·cases e
def Av (i:Nat)(G:bw->Option DR):bw->Option DR:=λρ=>match ρ[i]? with
 |some (some (.own l fr _))=>G (ρ.set i (some (.val (.lst l) fr)))
 |_=>G ρ
theorem Tu (i:Nat)(h:SD X st H₀ G):SD X st H₀ (Av i G):=have h:=h.1; .mk<|PS.imp h λE σ H ⟨ρ,γ,r,⟨O,R⟩,e,q⟩=>by
 unfold Av at e
 split at e
 ·rename_i l fr tg e1
  obtain⟨O',R'⟩:=R.freeze e1
  exact⟨_,γ,r,⟨O',R'⟩,e,q⟩
 ·exact⟨ρ,γ,r,⟨O,R⟩,e,q⟩
def Walk (K:Fg)(ds:List D)(J:It)(γ:List (D×V)):Prop:=∀H2,(∀g∈γ,Rep cj K H2 g.1 g.2)->
 (∀i,i<ds.length->J.go i H2)/\J.stop ds.length H2/\∀i x H3,i<ds.length->J.yld i H2 x H3->bV H2 H3/\∀O,Within O H2->(∀g∈γ,Rep O K H2 g.1 g.2)->∃d,ds[i]?=some d/\Rep O K H3 d x
def tI (K:Fg)(F:aK->Option (List D×List D)):TI:=λσ H R=>∃(O:Addr->Prop) (ρ:aK) (ds gs:List D),Within O H/\nA O K H σ ρ/\F ρ=some (ds,gs)/\
 ∀J H1 γ,bV H H1->γ.map (·.1)=gs->(∀g∈γ,Rep O K H1 g.1 g.2)->Walk K ds J γ->R J H1
structure EI (X:Cx)(tg iter:Expr)(F:aK->Option (List D×List D)):Prop where
 mk::(h:PI X tg iter (tI X.K F))
def tG (K:Fg)(H₀:Hp)(T:D->Bool->bw->Option bw):TG:=λv σ H Q=>∃(O:Addr->Prop) (ρ ρ':bw) (γ:List Gh) (d:D) (fr:Bool),fD O K H₀ H σ ρ γ/\Rep (AV fr O H₀) K H d v/\T d fr ρ=some ρ'/\∀σ',fD O K H₀ H σ' ρ' γ->Q σ' H
structure EG (X:Cx)(H₀:Hp)(tg:Expr)(T:D->Bool->bw->Option bw):Prop where
 mk::(h:PG X tg (tG X.K H₀ T))
theorem _root_.L2.PG.imp {X:Cx}{e:Expr}{t t':TG}(h:PG X e t)(k:∀v σ H Q,t' v σ H Q->t v σ H Q):PG X e t':=λpins s σ H v u Q I r q=>h pins s σ H v u Q I r (k v σ H Q q)
def bf (i:Nat):D->Bool->bw->Option bw:=λd fr ρ=>some (ρ.set i (some (.val d fr)))
theorem dF {i:Nat}{x:Str}(hN:X.N.Nodup)(hi:X.N[i]?=some x)(hx:Loc X.env.scope x)(hf:X.fn x=true\/X.env.scope.names.lookup x=some .local:=by first|exact .inl rfl|exact .inr rfl|assumption):EG X H₀ (.Name x pos) (bf i):= .mk<|PG.imp (Nq hN hi hx hf) λv σ H Q ⟨O,ρ,ρ',γ,d,fr,R,r,e,q⟩=>by
 cases e
 exact q _ (R.HX r)
def tGs (K:Fg)(H₀:Hp)(T:List D->Bool->bw->Option bw):Ul:=λvs σ H Q=>∃(O:Addr->Prop) (ρ ρ':bw) (γ:List Gh) (l:List D) (fr:Bool),fD O K H₀ H σ ρ γ/\aV (AV fr O H₀) K H l vs/\T l fr ρ=some ρ'/\∀σ',fD O K H₀ H σ' ρ' γ->Q σ' H
structure EGs (X:Cx)(H₀:Hp)(ts:List Expr)(T:List D->Bool->bw->Option bw):Prop where
 mk::(h:Oo X ts (tGs X.K H₀ T))
theorem _root_.L2.Oo.imp {X:Cx}{e:List Expr}{t t':Ul}(h:Oo X e t)(k:∀v σ H Q,t' v σ H Q->t v σ H Q):Oo X e t':=λpins s σ H v u Q I r q=>h pins s σ H v u Q I r (k v σ H Q q)
def lF:List D->Bool->bw->Option bw:=λl _ ρ=>match l with
 |[]=>some ρ
 |_=>none
theorem wu:EGs X H₀ [] lF:= .mk<|Oo.imp Nr λvs σ H Q ⟨O,ρ,ρ',γ,l,fr,R,r,e,q⟩=>by
 cases l with
 |nil=>cases e;exact⟨r,q σ R⟩
 |cons d l=>cases e
def cJ (T:D->Bool->bw->Option bw)(U:List D->Bool->bw->Option bw):List D->Bool->bw->Option bw:=λl fr ρ=>match l with
 |d::l=>(T d fr ρ).bind λρ'=>U l fr ρ'
 |[]=>none
theorem jh {tg:Expr}{Ig:List Expr}{T:D->Bool->bw->Option bw}{U:List D->Bool->bw->Option bw}(h1:EG X H₀ tg T)(h2:EGs X H₀ Ig U)
 (hs:(assignEach (tg::Ig) X.env).map (·.2)=assign tg X.env::(assignEach Ig X.env).map (·.2):=by rfl):EGs X H₀ (tg::Ig) (cJ T U):=have h1:=h1.1;have h2:=h2.1; .mk<|Oo.imp (JN h1 h2 hs) λvs σ H Q ⟨O,ρ,ρ',γ,l,fr,R,r,e,q⟩=>by
 cases l with
 |nil=>cases e
 |cons d l=>
  obtain⟨Aj,e1,e2⟩:=bind_some e
  obtain⟨v,us,rfl,r1,r2⟩:=r
  exact⟨v,us,rfl,O,ρ,Aj,γ,d,fr,R,r1,e1,λσ' R'=>⟨O,Aj,ρ',γ,l,fr,R',r2,e2,q⟩⟩
def kJ (n:Nat)(T:List D->Bool->bw->Option bw):D->Bool->bw->Option bw:=λd fr ρ=>match d with
 | .tup l=>if l.length=n then T l fr ρ else none
 |_=>none
theorem Bt {Ig:List Expr}{k n:Nat}{T:List D->Bool->bw->Option bw}(hc:X.calm=true)(h:EGs X H₀ Ig T)(hn:(assignEach Ig X.env).length=n:=by rfl)(hst:(assignEach Ig X.env).findIdx? (·.1)=none:=by rfl):
 EG X H₀ (.Tuple Ig k pos) (kJ n T):=have h:=h.1; .mk<|PG.imp (SJ hc h hn hst) λv σ H Q ⟨O,ρ,ρ',γ,d,fr,R,r,e,q⟩=>by
 cases d with
 |tup l=>
  simp only[kJ]at e
  split at e
  ·rename_i hl
   obtain⟨a,vs,rfl,h1,h2⟩:=r
   exact⟨a,vs,rfl,h1,by rw[<-h2.length];exact hl,O,ρ,ρ',γ,l,fr,R,h2,e,q⟩
  ·cases e
 |_=>cases e
def Ja (T:D->Bool->bw->Option bw)(F:aK->Option D):bw->Option DR:=λρ=>(three F flat (λd fr=>(d,fr)) ρ).bind λr=>(T r.1 r.2 ρ).map .nx
theorem Wg {tg:Expr}{T:D->Bool->bw->Option bw}(he:ED X e F)(hg:EG X H₀ tg T)(hs:swapsWithSole [tg] e pos.line X.env=pure false:=by rfl)(hw:swappedStores [tg] e X.env=pure none:=by rfl)
 (h1:(assignEach [tg] X.env).map (·.2)=[assign tg X.env]:=by rfl):SD X (.Assign [tg] e pos) H₀ (Ja T F):=have he:=he.1;have hg:=hg.1; .mk<|PS.imp (Lz he hg hs hw h1) λE σ H ⟨ρ,γ,r,⟨O,R⟩,e,q⟩=>by
 obtain⟨⟨d,fr⟩,e1,e2⟩:=bind_some e
 cases e3:T d fr ρ with
 |none=>simp only[e3]at e2;cases e2
 |some ρ'=>
  simp only[e3]at e2
  cases e2
  exact Kp R e1 λd' fr' v H' e4 s1 R1 r1=>by
   cases e4
   exact⟨O,ρ,ρ',γ,d,fr,R1,r1,e3,λσ' R'=>q σ' H' ⟨O,R'⟩⟩
def dX (T:D->Bool->bw->Option bw)(G:bw->Option DR)(fr:Bool):List D->bw->Option DR
 |[],ρ=>some (.nx ρ)
 |d::ds,ρ=>(T d fr ρ).bind λAj=>(G Aj).bind λr=>match r with
  | .nx yH=>dX T G fr ds yH
  | .ct yH=>dX T G fr ds yH
  | .bk yH=>some (.nx yH)
  | .rt d k yH=>some (.rt d k yH)
def gM (F:aK->Option (List D×List D))(T:D->Bool->bw->Option bw)(G:bw->Option DR):bw->Option DR:=λρ=>
 (three F (λr=>flat.flats r.1&&flat.flats r.2) (λr fr=>(r.1,fr)) ρ).bind λr=>dX T G r.2 r.1 ρ
theorem yQ:∀{l:List D}{d:D},flat.flats l=true->d∈l->flat d=true
 |x::l,d,h,hm=>by
  simp only[flat.flats,Bool.and_eq_true]at h
  rcases List.mem_cons.mp hm with rfl|hm
  ·exact h.1
  ·exact yQ h.2 hm
theorem fD.more {O:Addr->Prop}{K:Fg}{H:Hp}{σ:L2.St}{ρ:bw}{γ γ':List Gh}(h:fD O K H₀ H σ ρ γ)(hg:∀g∈γ',Rep (AV g.fr O H₀) K H g.d g.v):fD O K H₀ H σ ρ (γ'++γ):=
 ⟨h.same,h.wi,h.new,h.rel,h.apart,h.len,λg hm ht=>(List.mem_append.mp hm).elim (hg g) (λz=>h.gh g z ht),λi l fr t e=>let⟨g,a,b,c⟩:=h.tag i l fr t e;⟨g,List.mem_append_right _ a,b,c⟩⟩
theorem fD.less {O:Addr->Prop}{K:Fg}{H:Hp}{σ:L2.St}{ρ:bw}{γ γ':List Gh}(h:fD O K H₀ H σ ρ (γ'++γ))(hn:∀g∈γ',g.tag=none):fD O K H₀ H σ ρ γ:=
 ⟨h.same,h.wi,h.new,h.rel,h.apart,h.len,λg hm ht=>h.gh g (List.mem_append_right _ hm) ht,λi l fr t e=>by
  obtain⟨g,a,b,c⟩:=h.tag i l fr t e
  rcases List.mem_append.mp a with a|a
  ·rw[hn g a]at b;cases b
  ·exact⟨g,a,b,c⟩⟩
theorem jM {tg iter:Expr}{body:List Stmt}{FI:aK->Option (List D×List D)}{T:D->Bool->bw->Option bw}(hp:PassesOwn (model X.prog X.w) X.A X.env X.xe)(hc:X.calm=true)(hi:EI X tg iter FI)(hg:EG X H₀ tg T)(hb:QS X body H₀ G)
 (hs:∀x,foldedSetIterable iter X.env x=pure x:=by intro _;rfl):SD X (.For tg iter body [] pos) H₀ (gM FI T G):=have hi:=hi.1;have hg:=hg.1;have hb:=hb.1; .mk<|PS.imp (YX hp hc hi hg hb hs) λE σ H ⟨ρ,γ,r,⟨O,R⟩,e,q⟩=>by
 obtain⟨⟨ds,fr⟩,e1,e2⟩:=bind_some e
 have core:∀(gs:List D) (J:It) (H1:Hp) (γ':List (D×V)),(flat.flats ds=true\/True)->bV H H1->(∀g∈γ',Rep (AV fr O H₀) X.K H1 g.1 g.2)->Walk X.K ds J γ'->
  ∃W:Nat->Nat->L2.St->Hp->Prop,(∃m,W 0 m σ H1)/\∀i m σ H,W i m σ H->(J.stop i H/\E.nx σ H)\/(J.go i H/\∃N:L2.St->Hp->Prop,(∀σ' H',N σ' H'->∃m',m'<m/\W (i+1) m' σ' H')/\
   ∀x H',J.yld i H x H'->tG X.K H₀ T x σ H' λσ2 H2=>tS X.K H₀ G { E with nx:=N,ct:=N,bk:=E.nx } σ2 H2):=by
  intro gs J H1 γ' _ s1 Y8 wk
  have gm:∀{O:Addr->Prop}{H:Hp}{σ:L2.St}{ρ:bw},fD O X.K H₀ H σ ρ (γ'.map (λg=>(⟨g.1,fr,g.2,none⟩:Gh))++γ)->∀g∈γ',Rep (AV fr O H₀) X.K H g.1 g.2:=λR g hg=>R.gh ⟨g.1,fr,g.2,none⟩ (List.mem_append_left _ (List.mem_map.mpr ⟨g,hg,rfl⟩)) rfl
  have gn:∀g∈γ'.map (λg=>(⟨g.1,fr,g.2,none⟩:Gh)),g.tag=none:=λg hm=>by
   obtain⟨g',_,rfl⟩:=List.mem_map.mp hm
   rfl
  refine⟨λi m σ H=>m=ds.length - i/\i<=ds.length/\∃ρi,WL X.K H₀ H σ ρi (γ'.map (λg=>(⟨g.1,fr,g.2,none⟩:Gh))++γ)/\dX T G fr (ds.drop i) ρi=some r,⟨ds.length,by simp,Nat.zero_le _,ρ,⟨O,(R.mono s1).more λg hm=>?_⟩,e2⟩,?_⟩
  ·obtain⟨g',hg',rfl⟩:=List.mem_map.mp hm
   exact Y8 g' hg'
  ·rintro i m σ2 H2 ⟨rfl,hi,ρi,⟨O2,R2⟩,e3⟩
   obtain⟨w1,w2,w3⟩:=wk H2 λg hg=>Rep.weak (λ_ z=>z.elim) (gm R2 g hg)
   by_cases hlt:i<ds.length
   ·rw[List.drop_eq_getElem_cons hlt]at e3
    obtain⟨Aj,e4,e5⟩:=bind_some e3
    obtain⟨r1,e6,e7⟩:=bind_some e5
    refine .inr ⟨w1 i hlt,λσ' H'=>∃yH,WL X.K H₀ H' σ' yH (γ'.map (λg=>(⟨g.1,fr,g.2,none⟩:Gh))++γ)/\dX T G fr (ds.drop (i+1)) yH=some r,λσ' H' ⟨yH,R',e8⟩=>⟨ds.length - (i+1),by omega,rfl,hlt,yH,R',e8⟩,λx H' y=>?_⟩
    obtain⟨s2,w4⟩:=w3 i x H' hlt y
    obtain⟨d,e8,r8⟩:=w4 (AV fr O2 H₀) (AV.within R2.wi R2.same) (gm R2)
    rw[List.getElem?_eq_getElem hlt]at e8
    cases e8
    refine⟨O2,ρi,Aj,_,_,fr,R2.mono s2,r8,e4,λσ3 R3=>⟨Aj,_,r1,⟨O2,R3⟩,e6,?_⟩⟩
    cases r1 with
    |nx yH=>exact λσ' H' R'=>⟨yH,R',e7⟩
    |ct yH=>exact λσ' H' R'=>⟨yH,R',e7⟩
    |bk yH=>cases e7;exact λσ' H' ⟨O',R'⟩=>q σ' H' ⟨O',R'.less gn⟩
    |rt d k yH=>cases e7;exact λv σ' H' ⟨O',R'⟩ hr=>q v σ' H' ⟨O',R'.less gn⟩ hr
   ·have:i=ds.length:=by omega
    subst this
    rw[List.drop_length]at e3
    cases e3
    exact .inl ⟨w2,q σ2 H2 ⟨O2,R2.less gn⟩⟩
 rcases ur e1 with⟨⟨ds',gs⟩,e3,hf,e4⟩|⟨fr',⟨ds',gs⟩,e3,e4⟩
 ·cases e4
  refine⟨cj,vis ρ,_,gs,eF,R.vis,e3,λJ H1 γ' s1 eg Y8 wk=>core gs J H1 γ' (.inr trivial) s1 (λg hg=>?_) wk⟩
  rw[Bool.and_eq_true]at hf
  exact Rep.cX _ (yQ hf.2 (by rw[<-eg];exact List.mem_map.mpr ⟨g,hg,rfl⟩)) (Y8 g hg)
 ·cases e4
  exact⟨AV _ O H₀,vals _ ρ,_,gs,AV.within R.wi R.same,R.vals,e3,λJ H1 γ' s1 eg Y8 wk=>core gs J H1 γ' (.inr trivial) s1 Y8 wk⟩
def nq (K:Fg)(F:List D->Option (D×RK)):Sp:=λvs H Q _=>∃ds d k,aV cj K H ds vs/\F ds=some (d,k)/\∀v H',bV H H'->QM K H H' d k v->Q v H'
def aH (n:Nat)(ds:List D):bw:=ds.map (λd=>some (.val d false))++List.replicate (n - ds.length) none
def cI:Option DR->Option (D×RK)
 |some (.rt d k _)=>some (d,k)
 |some (.nx _)=>some (.non,.new)
 |_=>none
theorem Gu {K:Fg}{H:Hp}{N:List Str}{ds:List D}{vs:List V}(h:aV cj K H ds vs):fD cj K H H (L2.start N vs) (aH N.length ds) []:=by
 have hl:=h.length
 refine⟨bV.refl H,eF,λ_ z=>z.elim,λi l e=>?_,λi j l m p e o=>?_,?_,λg hg=>(nomatch hg),λi l fr t e=>?_⟩
 rotate_left 3
 ·exfalso
  unfold aH at e
  by_cases hi:i<ds.length
  ·rw[List.getElem?_append_left (by simpa using hi),List.getElem?_map]at e
   cases e1:ds[i]? with
   |none=>rw[e1]at e;cases e
   |some d=>rw[e1]at e;cases e
  ·rw[List.getElem?_append_right (by simpa using hi),List.getElem?_replicate]at e
   split at e<;>cases e
 ·unfold aH at e
  by_cases hi:i<ds.length
  ·rw[List.getElem?_append_left (by simpa using hi),List.getElem?_map]at e
   cases e1:ds[i]? with
   |none=>rw[e1]at e;cases e
   |some d=>
    rw[e1]at e
    cases e
    obtain⟨v,e2,r⟩:=h.get e1
    refine⟨v,?_,Rep.weak (λa z=>z.elim id λz=>by cases z.1) r⟩
    unfold L2.start
    rw[List.getElem?_append_left (by simpa using(by omega:i<vs.length)),List.getElem?_map,e2]
    rfl
  ·rw[List.getElem?_append_right (by simpa using hi),List.getElem?_replicate]at e
   split at e<;>cases e
 ·exfalso
  unfold aH at e
  by_cases hi:i<ds.length
  ·rw[List.getElem?_append_left (by simpa using hi),List.getElem?_map]at e
   cases e1:ds[i]? with
   |none=>rw[e1]at e;cases e
   |some d=>rw[e1]at e;cases e;cases o
  ·rw[List.getElem?_append_right (by simpa using hi),List.getElem?_replicate]at e
   split at e<;>cases e
 ·unfold L2.start aH
  simp[hl]
theorem a1o {P:Program}{w:World}{K:Fg}{mg:Str->Option Value}{base:Heap}{x qual:Str}{st:Stmt}{f:Addr}{fd:FuncData}{N ps:List Str}{k:Nat}{Gb:bw->Option DR}(F:nW K x qual st f fd)(S:bI N ps (aF st))
 (hb:∀(cdv:Value) (A:Around) (outer:List Env) (s:Shared) (H:Hp) (E:XK),gY k (A.deeper (envOfC qual (aF st) s.heap.objs.size f cdv))->yF (yN j9 P w K mg base N qual (aF st) f cdv A outer s H E).QJ (bz st) (tS K H Gb)):
 cU P w K mg base j9 (k+1) f fd ps (nq K λds=>if ds.length=ps.length then cI (Gb (aH N.length ds))else none):=by
 refine F.ok S (λvs H Q E h=>?_) λcdv A outer s H vs Q E hr h=>⟨_,hb cdv A outer s H E hr,?_⟩
 ·obtain⟨ds,d,k',r,e,q⟩:=h
  dsimp only at e
  split at e
  ·rename_i hl
   rw[<-r.length];exact hl
  ·cases e
 ·obtain⟨ds,d,k',r,e,q⟩:=h
  dsimp only at e
  split at e
  ·cases eg:Gb (aH N.length ds)with
   |none=>rw[eg]at e;cases e
   |some r1=>
    rw[eg]at e
    refine⟨aH N.length ds,[],r1,⟨cj,Gu r⟩,eg,?_⟩
    cases r1 with
    |nx ρ=>cases e;exact λσ H' ⟨O,R⟩=>q .non H' R.same rfl
    |bk ρ=>cases e
    |ct ρ=>cases e
    |rt d' k2 yH=>cases e;exact λv σ H' ⟨O,R⟩ r1=>q v H' R.same r1
  ·cases e
def rQ:D×RK->Option D
 |(d,.any)=>if flat d=true then some d else none
 |(d,_)=>some d
theorem NB {O:Addr->Prop}{K:Fg}{H H':Hp}{d d':D}{k:RK}{v:V}(w:Within O H)(h:QM K H H' d k v)(e:rQ (d,k)=some d'):d'=d/\Rep O K H' d v:=by
 cases k with
 |any=>
  simp only[rQ]at e
  split at e
  ·rename_i hf
   cases e
   exact⟨rfl,Rep.cX d hf h⟩
  ·cases e
 |new=>cases e;exact⟨rfl,Rep.weak w h⟩
 |own=>
  cases e
  obtain⟨l,p,vs,rfl,rfl,h0,h1,h2⟩:=h
  exact⟨rfl,p,vs,rfl,⟨h1,w.new h0⟩,h2.weak λa z=> .inl (w a z)⟩
section
variable {CX:Oi}{k:Nat}{f C:Addr}{fd:FuncData}{ps:List Str}{yG:List V}{DN:List D}{ds:List Value}{x m:Str}{p apos:Pos}{o:Expr}{es:List Expr}{Fs:aK->Option (List D)}{Ff:List D->Option (D×RK)}
theorem UJ {σ:L2.St}{H:Hp}{Q:VK}{E:XK}(hdd:∀H,aV cj X.K H DN yG)(h:tD X.K (λρ=>(Fs ρ).bind λl=>(Ff (l++DN)).bind rQ) σ H Q):tDs X.K Fs σ H λvs H1=>nq X.K Ff (vs++yG) H1 Q E:=by
 obtain⟨O,ρ,d,w,r,e,q⟩:=h
 obtain⟨l,e1,e2⟩:=bind_some e
 obtain⟨⟨d',k'⟩,e3,e4⟩:=bind_some e2
 refine⟨O,ρ,l,w,r,e1,λvs H1 s1 r1=>⟨l++DN,d',k',(r1.weak λ_ z=>z.elim).append (hdd H1),e3,λv H' s2 r2=>?_⟩⟩
 obtain⟨rfl,r3⟩:=NB (w.mono s1) r2 e4
 exact q v H' (s1.trans s2) r3
theorem Hg (F:cU X.prog X.w X.K X.mg X.base j9 k f fd ps (nq X.K Ff))(hr:gY k X.A)(hg:Gl X x)(hm:X.mg x=some (.ref f))(hk:PySem.W.keepIn X.K (.ref f)=true)(hb:Binds X.K fd ps ds)(hd:Vals yG ds)(hdd:∀H,aV cj X.K H DN yG)
 (ha:DQ X (e::es) Fs)(hdb:(x==("__debug__":Str))=false:=by decide)(he:starEach (e::es) X.env=(false,eval e X.env)::starEach es X.env:=by rfl)(hpl:(backTo pos (starEach es X.env)).any (·.1)=false:=by rfl):
 ED X (.Call (.Name x p) (e::es) [] pos) (λρ=>(Fs ρ).bind λl=>(Ff (l++DN)).bind rQ):=have ha:=ha.1; .mk<|PE.imp (HH (E:=E0) F hr hg hm hk hb hd JM ha hdb he hpl) λσ H Q h=>UJ hdd h
def Jp:D×RK->Option (List D)
 |(.lst l,.own)=>some l
 |_=>none
theorem QX {σ:L2.St}{H:Hp}{Q:VK}{E:XK}(hdd:∀H,aV cj X.K H DN yG)(h:tN X.K (λρ=>(Fs ρ).bind λl=>(Ff (l++DN)).bind Jp) σ H Q):tDs X.K Fs σ H λvs H1=>nq X.K Ff (vs++yG) H1 Q E:=by
 obtain⟨O,ρ,d,w,r,e,q⟩:=h
 obtain⟨l,e1,e2⟩:=bind_some e
 obtain⟨⟨d',k'⟩,e3,e4⟩:=bind_some e2
 refine⟨O,ρ,l,w,r,e1,λvs H1 s1 r1=>⟨l++DN,d',k',(r1.weak λ_ z=>z.elim).append (hdd H1),e3,λv H' s2 r2=>?_⟩⟩
 cases d'<;>cases k'<;>simp only[Jp]at e4<;>try (cases e4;done)
 cases e4
 obtain⟨l',p,vs',el,rfl,h0,h1,h2⟩:=r2
 cases el
 exact q p vs' H' (s1.trans s2) (s1.free h0) h1 (h2.weak λa z=>z.imp ((w.mono s1) a) id)
theorem V6 (F:cU X.prog X.w X.K X.mg X.base j9 k f fd ps (nq X.K Ff))(hr:gY k X.A)(hg:Gl X x)(hm:X.mg x=some (.ref f))(hk:PySem.W.keepIn X.K (.ref f)=true)(hb:Binds X.K fd ps ds)(hd:Vals yG ds)(hdd:∀H,aV cj X.K H DN yG)
 (ha:DQ X (e::es) Fs)(hdb:(x==("__debug__":Str))=false:=by decide)(he:starEach (e::es) X.env=(false,eval e X.env)::starEach es X.env:=by rfl)(hpl:(backTo pos (starEach es X.env)).any (·.1)=false:=by rfl):
 EN X (.Call (.Name x p) (e::es) [] pos) (λρ=>(Fs ρ).bind λl=>(Ff (l++DN)).bind Jp):=have ha:=ha.1; .mk<|PE.imp (HH (E:=E0) F hr hg hm hk hb hd JM ha hdb he hpl) λσ H Q h=>QX hdd h
end
theorem eU {Fl:aK->Option (List D)}(h:EN X e Fl):ED X e (λρ=>(Fl ρ).map .lst):=have h:=h.1; .mk<|PE.imp h λσ H Q ⟨O,ρ,d,w,r,e1,q⟩=>by
 dsimp only at e1
 cases e2:Fl ρ with
 |none=>rw[e2]at e1;cases e1
 |some l=>
  rw[e2]at e1
  cases e1
  exact⟨O,ρ,l,w,r,e2,λp vs H' s1 hp hl r1=>q _ H' s1 ⟨p,vs,rfl,⟨hl,w.new hp⟩,r1.weak λ_ z=> .inl z⟩⟩
end
section
variable {X:Cx}{tg e:Expr}{F:aK->Option D}{pos:Pos}
def itL:D->Option (List D×List D)
 | .lst l=>some (l,[.lst l])
 |_=>none
def itT:D->Option (List D×List D)
 | .tup l=>some (l,[.tup l])
 |_=>none
theorem _root_.L2.PI.imp {X:Cx}{tg e:Expr}{t t':TI}(h:PI X tg e t)(k:∀σ H R,t' σ H R->t σ H R):PI X tg e t':=λpins s σ H R I q=>h pins s σ H R I (k σ H R q)
theorem Ua {K:Fg}{a:Addr}{l:List D}:Walk K l (Itl K a) [(.lst l,.ref a)]:=λH2 h=>by
 obtain⟨a',vs,ea,⟨h1,_⟩,h2⟩:=h _ (List.mem_singleton.mpr rfl)
 cases ea
 have hl:=h2.length
 refine⟨λi hi=>⟨vs,vs[i],qK.of h1,by simp⟩,⟨vs,qK.of h1,by omega⟩,λi x H3 hi y=>?_⟩
 obtain⟨rfl,y⟩:=y
 refine⟨bV.refl _,λO w hg=>?_⟩
 obtain⟨a',us,ea,⟨h3,_⟩,h4⟩:=hg _ (List.mem_singleton.mpr rfl)
 cases ea
 exact h4.Pu (y us (qK.of h3))
theorem Uc {K:Fg}{a:Addr}{l:List D}:Walk K l (Itt K a) [(.tup l,.ref a)]:=λH2 h=>by
 obtain⟨a',vs,ea,h1,h2⟩:=h _ (List.mem_singleton.mpr rfl)
 cases ea
 have hl:=h2.length
 refine⟨λi hi=>⟨vs,vs[i],h1,by simp⟩,⟨vs,h1,by omega⟩,λi x H3 hi y=>?_⟩
 obtain⟨rfl,y⟩:=y
 refine⟨bV.refl _,λO w hg=>?_⟩
 obtain⟨a',us,ea,h3,h4⟩:=hg _ (List.mem_singleton.mpr rfl)
 cases ea
 exact h4.Pu (y us h3)
theorem XM (h:ED X e F):EI X tg e (λρ=>(F ρ).bind itL):=have h:=h.1; .mk<|PI.imp (W3 h) λσ H R ⟨O,ρ,ds,gs,w,r,e,q⟩=>by
 obtain⟨d,e1,e2⟩:=bind_some e
 cases d<;>simp only[itL]at e2<;>try (cases e2;done)
 cases e2
 refine⟨O,ρ,.lst ds,w,r,e1,λv H1 s1 r1=>?_⟩
 obtain⟨a,vs,rfl,h1,h2⟩:=id r1
 exact⟨a,rfl,⟨vs,qK.of h1.1⟩,q _ H1 [(.lst ds,.ref a)] s1 rfl (λg hg=>by rw[List.mem_singleton.mp hg];exact r1) Ua⟩
theorem XN (h:ED X e F):EI X tg e (λρ=>(F ρ).bind itT):=have h:=h.1; .mk<|PI.imp (YS h) λσ H R ⟨O,ρ,ds,gs,w,r,e,q⟩=>by
 obtain⟨d,e1,e2⟩:=bind_some e
 cases d<;>simp only[itT]at e2<;>try (cases e2;done)
 cases e2
 refine⟨O,ρ,.tup ds,w,r,e1,λv H1 s1 r1=>?_⟩
 obtain⟨a,vs,rfl,h1,h2⟩:=id r1
 exact⟨a,rfl,⟨vs,h1⟩,q _ H1 [(.tup ds,.ref a)] s1 rfl (λg hg=>by rw[List.mem_singleton.mp hg];exact r1) Uc⟩
def su (lo:Int)(n:Nat):List D:=(List.range n).map λi=> .int (lo+(i:Nat))
def itR:D->Option (List D×List D)
 | .int j=>if -(2 ^ 62)<=j/\j<2 ^ 62 then some (su 0 j.toNat,[])else none
 |_=>none
theorem Tf {lo:Int}{n i:Nat}(h:i<n):(su lo n)[i]?=some (.int (lo+(i:Nat))):=by
 unfold su
 rw[List.getElem?_map,List.getElem?_range h]
 rfl
theorem uc {lo:Int}{n:Nat}:(su lo n).length=n:=by simp[su]
theorem Ub {K:Fg}{lo:Int}{n:Nat}:Walk K (su lo n) (Itr lo n) []:=λH2 h=>by
 refine⟨λi hi=>by rw[uc]at hi;exact hi,by rw[uc];exact Nat.le_refl _,λi x H3 hi y=>?_⟩
 obtain⟨rfl,rfl⟩:=y
 rw[uc]at hi
 exact⟨bV.refl _,λO w hg=>⟨_,Tf hi,rfl⟩⟩
theorem mY {a:Expr}{Fa:aK->Option D}{p:Pos}(hg:Gl X "range")(hm:X.mg "range"=none)(ha:ED X a Fa)(hs:starEach [a] X.env=[(false,eval a X.env)]:=by rfl):
 EI X tg (.Call (.Name "range" p) [a] [] pos) (λρ=>(Fa ρ).bind itR):=have ha:=ha.1; .mk<|PI.imp (Qh hg hm (ak ⟨ha⟩ au hs).1 hs) λσ H R ⟨O,ρ,ds,gs,w,r,e,q⟩=>by
 obtain⟨d,e1,e2⟩:=bind_some e
 cases d<;>simp only[itR]at e2<;>try (cases e2;done)
 rename_i j
 split at e2
 ·rename_i hj
  cases e2
  refine⟨O,ρ,[.int j],w,r,by simp only[e1];rfl,λvs H1 s1 r1=>?_⟩
  obtain⟨v,us,rfl,r2,r3⟩:=r1
  cases r2
  cases r3
  exact⟨j,rfl,hj.1,hj.2,q _ H1 [] s1 rfl (λg hg=>by cases hg) Ub⟩
 ·cases e2
variable {elt iter:Expr}{ifs:List Expr}{scope:Scope}{jr:List Str}{cap:List (Option Nat)}
def inD (cap:List (Option Nat))(ρ:aK):aK:=cap.map λo=>match o with
 |some i=>at? ρ i
 |none=>none
theorem Vg {O:Addr->Prop}{K:Fg}{H:Hp}{σ:L2.St}{ρ:aK}(h:nA O K H σ ρ):nA O K H (vD cap σ) (inD cap ρ):=λj d e=>by
 unfold inD at e
 rw[List.getElem?_map]at e
 cases e1:cap[j]? with
 |none=>rw[e1]at e;cases e
 |some o=>
  rw[e1]at e
  cases o with
  |none=>cases e
  |some i=>
   simp only[Option.map_some,Option.some.injEq]at e
   obtain⟨v,a,b⟩:=h i d (QT e)
   refine⟨v,?_,b⟩
   unfold vD
   rw[List.getElem?_map,e1]
   simp[a]
def tGD (K:Fg)(js:List Nat)(T:D->aK->Option aK):TG:=λv σ H Q=>∃(O:Addr->Prop) (ρ ρ':aK) (d:D),nA O K H σ ρ/\σ.length=ρ.length/\Rep O K H d v/\T d ρ=some ρ'/\
 ∀σ',nA O K H σ' ρ'->σ'.length=ρ'.length->(∀j,j∉js->σ'[j]?=σ[j]?)->Q σ' H
structure ZM (X:Cx)(tg:Expr)(js:List Nat)(T:D->aK->Option aK):Prop where
 mk::(h:PG X tg (tGD X.K js T))
def bC (i:Nat):D->aK->Option aK:=λd ρ=>some (ρ.set i (some d))
theorem nA.set {O:Addr->Prop}{K:Fg}{H:Hp}{σ:L2.St}{ρ:aK}{i:Nat}{d:D}{v:V}(h:nA O K H σ ρ)(hl:σ.length=ρ.length)(r:Rep O K H d v):nA O K H (σ.set i (some v)) (ρ.set i (some d)):=λj d' e=>by
 rcases dj e with⟨rfl,e,hi⟩|⟨hj,e⟩
 ·cases e
  exact⟨v,List.getElem?_set_self (by rw[hl];exact hi),r⟩
 ·obtain⟨u,a,b⟩:=h j d' e
  exact⟨u,by rw[List.getElem?_set_ne (Ne.symm hj)];exact a,b⟩
theorem cN {i:Nat}{x:Str}(hN:X.N.Nodup)(hi:X.N[i]?=some x)(hx:Loc X.env.scope x)(hf:X.fn x=true\/X.env.scope.names.lookup x=some .local:=by first|exact .inl rfl|exact .inr rfl|assumption):ZM X (.Name x pos) [i] (bC i):= .mk<|PG.imp (Nq hN hi hx hf) λv σ H Q ⟨O,ρ,ρ',d,R,hl,r,e,q⟩=>by
 cases e
 exact q _ (R.set hl r) (by rw[List.length_set,List.length_set];exact hl) λj hj=>List.getElem?_set_ne (λz=>hj (by rw[z];exact List.mem_singleton.mpr rfl))
def a1W (K:Fg)(js:List Nat)(T:List D->aK->Option aK):Ul:=λvs σ H Q=>∃(O:Addr->Prop) (ρ ρ':aK) (l:List D),nA O K H σ ρ/\σ.length=ρ.length/\aV O K H l vs/\T l ρ=some ρ'/\
 ∀σ',nA O K H σ' ρ'->σ'.length=ρ'.length->(∀j,j∉js->σ'[j]?=σ[j]?)->Q σ' H
structure Ur (X:Cx)(ts:List Expr)(js:List Nat)(T:List D->aK->Option aK):Prop where
 mk::(h:Oo X ts (a1W X.K js T))
def tQ:List D->aK->Option aK:=λl ρ=>match l with
 |[]=>some ρ
 |_=>none
theorem tu:Ur X [] [] tQ:= .mk<|Oo.imp Nr λvs σ H Q ⟨O,ρ,ρ',l,R,hl,r,e,q⟩=>by
 cases l with
 |nil=>cases e;exact⟨r,q σ R hl λ_ _=>rfl⟩
 |cons d l=>cases e
def gO (T:D->aK->Option aK)(U:List D->aK->Option aK):List D->aK->Option aK:=λl ρ=>match l with
 |d::l=>(T d ρ).bind λρ'=>U l ρ'
 |[]=>none
theorem iI {Ig:List Expr}{js ks:List Nat}{T:D->aK->Option aK}{U:List D->aK->Option aK}(h1:ZM X tg js T)(h2:Ur X Ig ks U)
 (hs:(assignEach (tg::Ig) X.env).map (·.2)=assign tg X.env::(assignEach Ig X.env).map (·.2):=by rfl):Ur X (tg::Ig) (js++ks) (gO T U):=have h1:=h1.1;have h2:=h2.1; .mk<|Oo.imp (JN h1 h2 hs) λvs σ H Q ⟨O,ρ,ρ',l,R,hl,r,e,q⟩=>by
 cases l with
 |nil=>cases e
 |cons d l=>
  obtain⟨Aj,e1,e2⟩:=bind_some e
  obtain⟨v,us,rfl,r1,r2⟩:=r
  exact⟨v,us,rfl,O,ρ,Aj,d,R,hl,r1,e1,λσ' R' hl' k1=>⟨O,Aj,ρ',l,R',hl',r2,e2,λσ2 R2 hl2 k2=>q σ2 R2 hl2 λj hj=>(k2 j λz=>hj (List.mem_append_right _ z)).trans (k1 j λz=>hj (List.mem_append_left _ z))⟩⟩
def rO (n:Nat)(T:List D->aK->Option aK):D->aK->Option aK:=λd ρ=>match d with
 | .tup l=>if l.length=n then T l ρ else none
 |_=>none
theorem wj {Ig:List Expr}{k n:Nat}{js:List Nat}{T:List D->aK->Option aK}(hc:X.calm=true)(h:Ur X Ig js T)(hn:(assignEach Ig X.env).length=n:=by rfl)(hst:(assignEach Ig X.env).findIdx? (·.1)=none:=by rfl):
 ZM X (.Tuple Ig k pos) js (rO n T):=have h:=h.1; .mk<|PG.imp (SJ hc h hn hst) λv σ H Q ⟨O,ρ,ρ',d,R,hl,r,e,q⟩=>by
 cases d with
 |tup l=>
  simp only[rO]at e
  split at e
  ·rename_i hn
   obtain⟨a,vs,rfl,h1,h2⟩:=r
   exact⟨a,vs,rfl,h1,by rw[<-h2.length];exact hn,O,ρ,ρ',l,R,hl,h2,e,q⟩
  ·cases e
 |_=>cases e
def gf (T:D->aK->Option aK)(Tt:aK->Option Bool)(Fe:aK->Option D)(ρ:aK):List D->Option (List D)
 |[]=>some []
 |d::ds=>(T d ρ).bind λAj=>(Tt Aj).bind λb=>if b=true then(Fe Aj).bind λx=>(gf T Tt Fe ρ ds).map λl=>x::l else gf T Tt Fe ρ ds
def dM (cap:List (Option Nat))(FI:aK->Option (List D×List D))(T:D->aK->Option aK)(Tt:aK->Option Bool)(Fe:aK->Option D):aK->Option (List D):=λρ=>(FI ρ).bind λr=>if r.1.length<=sizeLine then gf T Tt Fe (inD cap ρ) r.1 else none
variable {FI:aK->Option (List D×List D)}{T:D->aK->Option aK}{Tt:aK->Option Bool}{Fe:aK->Option D}{js:List Nat}
theorem Mx {K:Fg}{σ:L2.St}{H:Hp}{Q:VK}(hcap:∀j∈js,cap[j]?=some none\/cap[j]?=none)(h:tN K (dM cap FI T Tt Fe) σ H Q):O4 cap (tI K FI) (tGD K js T) (M9 K Tt) (tD K Fe) σ H Q:=by
 obtain⟨O,ρ,l,w,r,e,q⟩:=h
 obtain⟨⟨ds,gs⟩,e1,e2⟩:=bind_some e
 dsimp only at e2
 split at e2
 ·rename_i hz
  refine⟨O,ρ,ds,gs,w,r,e1,λJ H1 γ s1 eg Y8 wk p hp=>?_⟩
  have w1:Within O H1:=w.mono s1
  have Vk:∀(j:Nat) (v:V),(vD cap σ)[j]?=some (some v)->j∉js:=λj v e hj=>by
   obtain⟨i,e5,_⟩:=Jh e
   rcases hcap j hj with z|z
   ·rw[e5]at z;cases z
   ·rw[e5]at z;cases z
  refine⟨λi m ys H2=>m=ds.length - i/\i<=ds.length/\bV H1 H2/\Within (λa=>O a\/a=p) H2/\nA (λa=>O a\/a=p) K H2 σ ρ/\(∀g∈γ,Rep (λa=>O a\/a=p) K H2 g.1 g.2)/\H2 p=some (.lst ys)/\ys.length<=i/\
   ∃ls rs,aV (λa=>O a\/a=p) K H2 ls ys/\gf T Tt Fe (inD cap ρ) (ds.drop i)=some rs/\l=ls++rs,⟨ds.length,by simp,Nat.zero_le _,bQ hp,λa z=>?_,λi d e5=>?_,λg hg=>?_,cH,Nat.le_refl _,[],l,rfl,e2,rfl⟩,?_⟩
  ·rcases z with z|rfl
   ·exact(w1.mono (bQ hp)) a z
   ·rw[cH];simp
  ·obtain⟨v,a,b⟩:=r i d e5
   exact⟨v,a,(Rep.join hp d (b.mono s1)).mono (bQ hp)⟩
  ·exact(Rep.join hp _ (Y8 g hg)).mono (bQ hp)
  ·rintro i m ys H2 ⟨rfl,hi,s2,w2,r2,g2,hp2,hy,ls,rs,q1,q2,q3⟩
   refine⟨hp2,?_⟩
   obtain⟨k1,k2,k3⟩:=wk H2 λg hg=>Rep.weak (λ_ z=>z.elim) (g2 g hg)
   by_cases hlt:i<ds.length
   ·rw[List.drop_eq_getElem_cons hlt]at q2
    obtain⟨Aj,e5,q2⟩:=bind_some q2
    obtain⟨b,e6,q2⟩:=bind_some q2
    refine .inr ⟨k1 i hlt,λys' H'=>ys'.length<=i+1/\bV H1 H'/\Within (λa=>O a\/a=p) H'/\nA (λa=>O a\/a=p) K H' σ ρ/\(∀g∈γ,Rep (λa=>O a\/a=p) K H' g.1 g.2)/\H' p=some (.lst ys')/\
     ∃ls rs,aV (λa=>O a\/a=p) K H' ls ys'/\gf T Tt Fe (inD cap ρ) (ds.drop (i+1))=some rs/\l=ls++rs,λys' H' ⟨z0,z1,z2,z3,z4,z5,z6⟩=>⟨ds.length - (i+1),by omega,rfl,hlt,z1,z2,z3,z4,z5,z0,z6⟩,λx H3 y=>?_⟩
    obtain⟨s3,k4⟩:=k3 i x H3 hlt y
    obtain⟨d,e7,r7⟩:=k4 _ w2 g2
    rw[List.getElem?_eq_getElem hlt]at e7
    cases e7
    refine⟨λa=>O a\/a=p,inD cap ρ,Aj,_,(Vg r2).mono s3,by simp[vD,inD],r7,e5,λσ2 R2 hl2 kp=>⟨λj v e8=>by rw[kp j (Vk j v e8)];exact e8,?_⟩⟩
    have w3:=w2.mono s3
    refine⟨λa=>O a\/a=p,Aj,b,w3,R2,e6,λH4 s4=>?_⟩
    cases b with
    |false=>
     rw[if_neg Bool.false_ne_true]at q2
     exact La ⟨Nat.le_succ_of_le hy,(s2.trans s3).trans s4,(w3.mono s4),(r2.mono s3).mono s4,λg hg=>((g2 g hg).mono s3).mono s4,s4 _ _ (s3 _ _ hp2),ls,rs,(q1.mono s3).mono s4,q2,q3⟩
    |true=>
     rw[if_pos rfl]at q2
     obtain⟨dx,e8,q2⟩:=bind_some q2
     cases e9:gf T Tt Fe (inD cap ρ) (ds.drop (i+1))with
     |none=>rw[e9]at q2;cases q2
     |some rs'=>
      rw[e9]at q2
      cases q2
      refine Lb ⟨λa=>O a\/a=p,Aj,dx,w3.mono s4,R2.mono s4,e8,λv H5 s5 r5=>?_⟩
      have hp5:H5 p=some (.lst ys):=s5 _ _ (s4 _ _ (s3 _ _ hp2))
      have s35:=(s3.trans s4).trans s5
      have kp5:pP (λa=>O a\/a=p) H5 (upd H5 p (.lst (ys++[v]))):=pP.Ob (.inr rfl) hp5
      have id1:∀a,(O a\/a=p)->(O a\/a=p):=λ_ z=>z
      refine⟨hp5,by omega,by rw[List.length_append,List.length_singleton];omega,λb u z=>?_,λa z z2=>?_,λi d z=>?_,λg hg=>Rep.keep id1 kp5 _ ((g2 g hg).mono s35),cH,ls++[dx],rs',aV.keep id1 kp5 _ ((q1.mono s35).append (aV.one r5)),rfl,?_⟩
      ·rw[bY (cM z hp)]
       exact(s2.trans s35) b u z
      ·by_cases ha:a=p
       ·subst ha;rw[cH]at z2;cases z2
       ·rw[bY ha]at z2;exact(w2.mono s35) a z z2
      ·obtain⟨v',a,b⟩:=(r2.mono s35) i d z
       exact⟨v',a,Rep.keep id1 kp5 _ b⟩
      ·rw[q3,List.append_assoc];rfl
   ·have:i=ds.length:=by omega
    subst this
    rw[List.drop_length]at q2
    cases q2
    rw[List.append_nil]at q3
    subst q3
    exact .inl ⟨k2,q p ys H2 (s1.trans s2) (s1.free hp) hp2 q1⟩
 ·cases e2
theorem j6 (hc:X.calm=true)(ok:vq X scope jr cap)(hcap:∀j∈js,cap[j]?=some none\/cap[j]?=none)(hi:EI X tg iter FI)
 (hin:∀cl s H C fp,ZM (lG X scope jr cl s H C fp) tg js T/\GC (lG X scope jr cl s H C fp) ifs (M9 X.K Tt)/\ED (lG X scope jr cl s H C fp) elt Fe)
 (hs:∀x,foldedSetIterable iter X.env x=pure x:=by intro _;rfl):EN X (.ListComp elt [⟨tg,iter,ifs,0⟩] scope pos) (dM cap FI T Tt Fe):=have hi:=hi.1; .mk<|PE.imp (VM (g:=tGD X.K js T) (tt:=M9 X.K Tt) (te:=tD X.K Fe) hc ok hi (λcl s H C fp=>let⟨a,b,c⟩:=hin cl s H C fp;⟨a.1,b,c.1⟩) hs) λσ H Q h=>Mx hcap h
theorem uM {H₀:Hp}{i:Nat}{x:Str}{spos pos':Pos}(hc:X.calm=true)(ok:vq X scope jr cap)(hcap:∀j∈js,cap[j]?=some none\/cap[j]?=none)(hi:EI X tg iter FI)
 (hin:∀cl s H C fp,ZM (lG X scope jr cl s H C fp) tg js T/\GC (lG X scope jr cl s H C fp) ifs (M9 X.K Tt)/\ED (lG X scope jr cl s H C fp) elt Fe)
 (hN:X.N.Nodup)(hix:X.N[i]?=some x)(hx:X.env.scope.names.lookup x=some .local)
 (hsw:swapsWith (.ListComp elt [⟨tg,iter,ifs,0⟩] scope pos) (some (.Name x pos')) spos.line X.env=pure true)
 (hs:∀x,foldedSetIterable iter X.env x=pure x:=by intro _;rfl):SD X (.Assign [.Name x pos'] (.ListComp elt [⟨tg,iter,ifs,0⟩] scope pos) spos) H₀ (ju i (dM cap FI T Tt Fe)):=have hi:=hi.1; .mk<|PS.imp (W8 (g:=tGD X.K js T) (tt:=M9 X.K Tt) (te:=tD X.K Fe) hc ok hi (λcl s H C fp=>let⟨a,b,c⟩:=hin cl s H C fp;⟨a.1,b,c.1⟩) hN hix hx hsw hs) λE σ H ⟨ρ,γ,r,⟨O,R⟩,e,q⟩=>Mx hcap (Lx R e λl fr p vs H' e2 s1 hp hl r1=>by
 subst e2
 exact q _ _ ⟨_,R.Tw s1 hp hl r1⟩)
end
mutual
def rK:D->PyData
 | .non=> .none
 | .bl b=> .bool b
 | .int i=> .int i
 | .str x=> .str x
 | .tup l=> .tuple (iG l)
 | .lst l=> .list (iG l)
 | .dct _ _=> .none
 | .ins _ _ _=> .none
 | .uR _=> .none
def iG:List D->List PyData
 |[]=>[]
 |d::l=>rK d::iG l
end
mutual
def Ni:D->Bool
 | .tup l=>Ed l
 | .lst l=>Ed l
 | .dct _ _=>false
 | .ins _ _ _=>false
 | .uR _=>false
 |_=>true
def Ed:List D->Bool
 |[]=>true
 |d::l=>Ni d&&Ed l
end
section
variable {X:Cx}{pins:List (Addr×Obj)}{σ:L2.St}{H:Hp}{s:Shared}{O:Addr->Prop}
mutual
theorem jV (I:Inv X pins σ H s):∀(d:D) {v:V}{u:Value},Ni d=true->Rep O X.K H d v->RelV v u->∃as,Reads s.heap u (rK d) as
 | .non,_,_,_,h,r=>by cases h;cases r;exact⟨_,.none⟩
 | .bl b,_,_,_,h,r=>by cases h;cases r;exact⟨_,.bool b⟩
 | .int i,_,_,_,h,r=>by cases h;obtain⟨t,rfl⟩:=r;exact⟨_,.int i t⟩
 | .str x,_,_,_,h,r=>by cases h;obtain⟨t,rfl⟩:=r;exact⟨_,.str x t⟩
 | .tup l,_,_,k,h,r=>by
   obtain⟨a,vs,rfl,h1,h2⟩:=h
   cases r
   obtain⟨its,rv,⟨o,ho,hc,n,hd⟩,_⟩:=I.tuple h1
   obtain⟨as,q⟩:=uH I l (by simpa only[Ni]using k) h2 rv
   exact⟨as,.tuple ho hc hd (by simpa using q)⟩
 | .lst l,_,_,k,h,r=>by
   obtain⟨a,vs,rfl,h1,h2⟩:=h
   cases r
   obtain⟨its,rv,⟨o,n,ho,hc,_,hd⟩,_⟩:=I.list (qK.of h1.1)
   obtain⟨as,q⟩:=uH I l (by simpa only[Ni]using k) h2 rv
   exact⟨_,.list ho hc hd (by simpa using q)⟩
 | .dct _ _,_,_,k,_,_=>by simp[Ni]at k
 | .ins _ _ _,_,_,k,_,_=>by simp[Ni]at k
 | .uR _,_,_,k,_,_=>by simp[Ni]at k
theorem uH (I:Inv X pins σ H s):∀(l:List D) {vs:List V}{us:List Value},Ed l=true->aV O X.K H l vs->Vals vs us->∃as,ReadsAll s.heap us (iG l) as
 |[],_,_,_,h,r=>by
  cases h
  cases r
  exact⟨_,.nil⟩
 |d::l,_,_,k,h,r=>by
  obtain⟨v,vs,rfl,h1,h2⟩:=h
  simp only[Ed,Bool.and_eq_true]at k
  cases r with
  |cons r1 r2=>
   obtain⟨as,q1⟩:=jV I d k.1 h1 r1
   obtain⟨bs,q2⟩:=uH I l k.2 h2 r2
   exact⟨_,.cons q1 q2⟩
end
end
def sE (d:D):Bool:=Ni d&&SeqAt.shaped (rK d)
def sr (a b:D):Bool:=PyData.eqv (rK a) (rK b)
def cR (neg:Bool)(a b:D):Option D:=if sE a&&sE b then some (.bl (if neg then !sr a b else sr a b))else none
def Z5 (K:Fg)(neg:Bool):R2:=λx y H Q=>∃(O:Addr->Prop) (a b:D),Rep O K H a x/\Rep O K H b y/\sE a=true/\sE b=true/\Q (.bl (if neg then !sr a b else sr a b)) H
theorem cz {K:Fg}{neg:Bool}:EY K (Z5 K neg) (cR neg):=by
 intro O H x y dx dy d Q w rx ry e q
 unfold cR at e
 obtain⟨z,rfl⟩:=lW e
 rw[Bool.and_eq_true]at z
 exact⟨O,dx,dy,rx,ry,z.1,z.2,q _ H (bV.refl H) rfl⟩
section
variable {X:Cx}
theorem cY (hu:X.A.units+64<cLine):uz X (compareOp .Eq) (Z5 X.K false):=by
 intro pins s σ H x y v u Q I rx ry h
 obtain⟨O,a,b,ra,rb,za,zb,q⟩:=h
 unfold sE at za zb
 rw[Bool.and_eq_true]at za zb
 obtain⟨as,q1⟩:=jV I a za.1 ra rx
 obtain⟨bs,q2⟩:=jV I b zb.1 rb ry
 exact eq_dataH q1 q2 za.2 zb.2 hu ⟨.bl _,H,I,rfl,q⟩
theorem u6 (hu:X.A.units+64<cLine):uz X (compareOp .NotEq) (Z5 X.K true):=by
 intro pins s σ H x y v u Q I rx ry h
 obtain⟨O,a,b,ra,rb,za,zb,q⟩:=h
 unfold sE at za zb
 rw[Bool.and_eq_true]at za zb
 obtain⟨as,q1⟩:=jV I a za.1 ra rx
 obtain⟨bs,q2⟩:=jV I b zb.1 rb ry
 exact ne_dataH q1 q2 za.2 zb.2 hu ⟨.bl _,H,I,rfl,q⟩
def nD:D->Option (List D)
 | .lst l=>some l
 | .tup l=>some l
 |_=>none
def lU (neg:Bool)(a b:D):Option D:=(nD b).bind λl=>if sE a&&sE b then some (.bl (if neg then !(l.any λy=>sr y a)else l.any λy=>sr y a))else none
def Z6 (K:Fg)(neg:Bool):R2:=λx y H Q=>∃(O:Addr->Prop) (a b:D) (l:List D),Rep O K H a x/\Rep O K H b y/\nD b=some l/\sE a=true/\sE b=true/\Q (.bl (if neg then !(l.any λy=>sr y a)else l.any λy=>sr y a)) H
theorem oX {K:Fg}{neg:Bool}:EY K (Z6 K neg) (lU neg):=by
 intro O H x y dx dy d Q w rx ry e q
 unfold lU at e
 obtain⟨l,e1,e⟩:=bind_some e
 obtain⟨z,rfl⟩:=lW e
 rw[Bool.and_eq_true]at z
 exact⟨O,dx,dy,l,rx,ry,e1,z.1,z.2,q _ H (bV.refl H) rfl⟩
theorem sU (a:D):∀l:List D,((iG l).any λy=>PyData.eqv y (rK a))=l.any λy=>sr y a
 |[]=>by simp[iG]
 |d::l=>by simp only[iG,List.any_cons,sU a l,sr]
theorem oY {l:List PyData}(h:SeqAt.shaped (.list l)=true\/SeqAt.shaped (.tuple l)=true):PyData.canLayAll0 l=true/\PyData.depthAll l<=64:=by
 rcases h with h|h
 ·unfold SeqAt.shaped at h
  rw[Bool.and_eq_true]at h
  refine⟨by simpa only[PyData.canLay0]using h.1,?_⟩
  have:=of_decide_eq_true h.2
  simp only[PyData.depth]at this
  omega
 ·unfold SeqAt.shaped at h
  rw[Bool.and_eq_true]at h
  refine⟨by simpa only[PyData.canLay0]using h.1,?_⟩
  have:=of_decide_eq_true h.2
  simp only[PyData.depth]at this
  omega
theorem zg (hu:X.A.units+200<cLine):uz X (compareOp .In) (Z6 X.K false):=by
 intro pins s σ H x y v u Q I rx ry h
 obtain⟨O,a,b,l,ra,rb,el,za,zb,q⟩:=h
 unfold sE at za zb
 rw[Bool.and_eq_true]at za zb
 obtain⟨as,q1⟩:=jV I a za.1 ra rx
 obtain⟨bs,q2⟩:=jV I b zb.1 rb ry
 have da:=SeqAt.depth_of_shaped za.2
 have ca:=SeqAt.canLay_of_shaped za.2
 cases b<;>simp only[nD]at el<;>try (cases el;done)
 case tup l'=>
  cases el
  simp only[rK]at q2 zb
  obtain⟨c1,c2⟩:=oY (.inr zb.2)
  exact SeqAt.in_tuple_reads q2 q1 c1 ca (by have:=Nat.min_le_right (PyData.depthAll (iG l)) (rK a).depth;omega) ⟨.bl _,H,I,by rw[sU];rfl,q⟩
 case lst l'=>
  cases el
  simp only[rK]at q2 zb
  obtain⟨c1,c2⟩:=oY (.inl zb.2)
  exact SeqAt.in_list_reads q2 q1 c1 ca (by have:=Nat.min_le_right (PyData.depthAll (iG l)) (rK a).depth;omega) ⟨.bl _,H,I,by rw[sU];rfl,q⟩
theorem qu (hu:X.A.units+200<cLine):uz X (compareOp .NotIn) (Z6 X.K true):=by
 intro pins s σ H x y v u Q I rx ry h
 obtain⟨O,a,b,l,ra,rb,el,za,zb,q⟩:=h
 unfold sE at za zb
 rw[Bool.and_eq_true]at za zb
 obtain⟨as,q1⟩:=jV I a za.1 ra rx
 obtain⟨bs,q2⟩:=jV I b zb.1 rb ry
 have da:=SeqAt.depth_of_shaped za.2
 have ca:=SeqAt.canLay_of_shaped za.2
 cases b<;>simp only[nD]at el<;>try (cases el;done)
 case tup l'=>
  cases el
  simp only[rK]at q2 zb
  obtain⟨c1,c2⟩:=oY (.inr zb.2)
  exact SeqAt.notIn_tuple_reads q2 q1 c1 ca (by have:=Nat.min_le_right (PyData.depthAll (iG l)) (rK a).depth;omega) ⟨.bl _,H,I,by rw[sU];rfl,q⟩
 case lst l'=>
  cases el
  simp only[rK]at q2 zb
  obtain⟨c1,c2⟩:=oY (.inl zb.2)
  exact SeqAt.notIn_list_reads q2 q1 c1 ca (by have:=Nat.min_le_right (PyData.depthAll (iG l)) (rK a).depth;omega) ⟨.bl _,H,I,by rw[sU];rfl,q⟩
def vA (K:Fg)(r:List V->Hp->VK->Prop)(g:List D->Option D):Prop:=∀(O:Addr->Prop) (H:Hp) (xs:List V) (l:List D) (d:D) (Q:VK),Within O H->aV O K H l xs->g l=some d->
 (∀v H',bV H H'->Rep O K H' d v->Q v H')->r xs H Q
variable {x:Str}{p pos:Pos}{e:Expr}{es:List Expr}{Fs:aK->Option (List D)}{id T:String}{r:List V->Hp->VK->Prop}{g:List D->Option D}
theorem QV {K:Fg}{σ:L2.St}{H:Hp}{Q:VK}(hr:vA K r g)(h:tD K (λρ=>(Fs ρ).bind g) σ H Q):tCB r (tDs K Fs) σ H Q:=by
 obtain⟨O,ρ,d,w,rr,e,q⟩:=h
 obtain⟨l,e1,e2⟩:=bind_some e
 exact⟨O,ρ,l,w,rr,e1,λvs H1 s1 r1=>hr O H1 vs l d Q (w.mono s1) r1 e2 λv H' s2 r2=>q v H' (s1.trans s2) r2⟩
theorem fX (hc:jO X (.builtin id) r)(hr:vA X.K r g)(hg:Gl X x)(hm:X.mg x=none)(hv:bootBuiltins x=some (.builtin id))(ha:DQ X (e::es) Fs)(hn:x≠"__name__":=by decide)(hdb:(x==("__debug__":Str))=false:=by decide)
 (he:starEach (e::es) X.env=(false,eval e X.env)::starEach es X.env:=by rfl)(hpl:(backTo pos (starEach es X.env)).any (·.1)=false:=by rfl):ED X (.Call (.Name x p) (e::es) [] pos) (λρ=>(Fs ρ).bind g):=have ha:=ha.1; .mk<|PE.imp (Dc hc hg hm hv ha hn hdb he hpl) λσ H Q h=>QV hr h
theorem cL (hc:jO X (.type T) r)(hr:vA X.K r g)(hg:Gl X x)(hm:X.mg x=none)(hv:bootBuiltins x=some (.type T))(ha:DQ X (e::es) Fs)(hn:x≠"__name__":=by decide)(hdb:(x==("__debug__":Str))=false:=by decide)
 (he:starEach (e::es) X.env=(false,eval e X.env)::starEach es X.env:=by rfl)(hpl:(backTo pos (starEach es X.env)).any (·.1)=false:=by rfl):ED X (.Call (.Name x p) (e::es) [] pos) (λρ=>(Fs ρ).bind g):=have ha:=ha.1; .mk<|PE.imp (uG hc hg hm hv ha hn hdb he hpl) λσ H Q h=>QV hr h
theorem jk {O:Addr->Prop}{K:Fg}{H:Hp}{d:D}{xs:List V}(h:aV O K H [d] xs):∃v,xs=[v]/\Rep O K H d v:=by
 obtain⟨v,r,rfl,h1,h2⟩:=h
 cases h2
 exact⟨v,rfl,h1⟩
theorem Nz {O:Addr->Prop}{K:Fg}{H:Hp}{d d':D}{xs:List V}(h:aV O K H [d,d'] xs):∃v u,xs=[v,u]/\Rep O K H d v/\Rep O K H d' u:=by
 obtain⟨v,r,rfl,h1,h2⟩:=h
 obtain⟨u,rfl,h3⟩:=jk h2
 exact⟨v,u,rfl,h1,h3⟩
def iZ:List D->Option D
 |[.tup l]=>some (.int l.length)
 |[.lst l]=>some (.int l.length)
 |[.uR l]=>some (.int l.length)
 |[.str z]=>if z.length<=sizeLine then some (.int z.length)else none
 |_=>none
theorem mK {K:Fg}:vA K (λxs H Q=>∃x n,xs=[x]/\ZP K x H n/\Q (.int n) H) iZ:=by
 intro O H xs l d Q w h e q
 unfold iZ at e
 split at e
 ·cases e
  obtain⟨v,rfl,a,vs,rfl,h1,h2⟩:=jk h
  exact⟨_,_,rfl,.inr ⟨vs,h1,h2.length⟩,q _ H (bV.refl H) rfl⟩
 ·cases e
  obtain⟨v,rfl,a,vs,rfl,h1,h2⟩:=jk h
  exact⟨_,_,rfl,.inl ⟨vs,qK.of h1.1,h2.length⟩,q _ H (bV.refl H) rfl⟩
 ·cases e
  obtain⟨v,rfl,a,rfl,h1⟩:=jk h
  exact⟨_,_,rfl,.inl ⟨_,h1.sq,by rw[List.length_map]⟩,q _ H (bV.refl H) rfl⟩
 ·obtain⟨hz,rfl⟩:=lW e
  obtain⟨v,rfl,rfl⟩:=jk h
  exact⟨_,_,rfl,⟨hz,rfl⟩,q _ H (bV.refl H) rfl⟩
 ·cases e
def Ks:List D->Option D
 |[.int i,.int j]=>some (.int (if j<i then j else i))
 |_=>none
theorem HF {K:Fg}:vA K (λxs H Q=>∃i j,xs=[.int i,.int j]/\Q (.int (if j<i then j else i)) H) Ks:=by
 intro O H xs l d Q w h e q
 first|unfold Ks at e|unfold a2f at e
 split at e
 ·cases e
  obtain⟨v,u,rfl,rfl,rfl⟩:=Nz h
  exact⟨_,_,rfl,q _ H (bV.refl H) rfl⟩
 ·cases e
def oN:List D->Option D
 |[.int i]=>some (.int i)
 |[.bl k]=>some (.int (if k then 1 else 0))
 |_=>none
theorem wX {K:Fg}:vA K (λxs H Q=>(∃i,xs=[.int i]/\Q (.int i) H)\/∃k,xs=[.bl k]/\Q (.int (if k then 1 else 0)) H) oN:=by
 intro O H xs l d Q w h e q
 unfold oN at e
 split at e
 ·cases e
  obtain⟨v,rfl,rfl⟩:=jk h
  exact .inl ⟨_,rfl,q _ H (bV.refl H) rfl⟩
 ·cases e
  obtain⟨v,rfl,rfl⟩:=jk h
  exact .inr ⟨_,rfl,q _ H (bV.refl H) rfl⟩
 ·cases e
def cF:List D->Option D
 |[.lst l]=>some (.tup l)
 |[.tup l]=>some (.tup l)
 |_=>none
theorem dD {K:Fg}:vA K (λxs H Q=>∃p ys,xs=[.ref p]/\((qK K H p ys/\∀l,H l=none->Q (.ref l) (upd H l (.tup ys)))\/(vW K H p ys/\Q (.ref p) H))) cF:=by
 intro O H xs l d Q w h e q
 unfold cF at e
 split at e
 ·cases e
  obtain⟨v,rfl,a,vs,rfl,h1,h2⟩:=jk h
  exact⟨a,vs,rfl,.inl ⟨qK.of h1.1,λp hp=>q _ _ (bQ hp) (nR hp h2)⟩⟩
 ·cases e
  obtain⟨v,rfl,a,vs,rfl,h1,h2⟩:=jk h
  exact⟨a,vs,rfl,.inr ⟨h1,q _ H (bV.refl H) ⟨a,vs,rfl,h1,h2⟩⟩⟩
 ·cases e
def nList:List D->Option (List D)
 |[.lst l]=>some l
 |[.tup l]=>some l
 |_=>none
theorem An {pt:Pos}{a:Expr}{Fa:aK->Option (List D)}(hg:Gl X "list")(hm:X.mg "list"=none)(ha:DQ X [a] Fa)(he:starEach [a] X.env=(false,eval a X.env)::starEach [] X.env:=by rfl):
 EN X (.Call (.Name "list" p) [a] [] pos) (λρ=>(Fa ρ).bind nList):=have ha:=ha.1; .mk<|PE.imp (uG GR hg hm (by decide+kernel) ha (by decide) (by decide) he rfl) λσ H Q ⟨O,ρ,l,w,r,e,q⟩=>by
 obtain⟨as,e1,e2⟩:=bind_some e
 refine⟨O,ρ,as,w,r,e1,λvs H1 s1 r1=>?_⟩
 unfold nList at e2
 split at e2
 ·cases e2
  obtain⟨v,rfl,a,vs,rfl,h1,h2⟩:=jk r1
  exact⟨a,vs,rfl,.inl (qK.of h1.1),λp hp=>q p vs _ (s1.trans (bQ hp)) (s1.free hp) cH ((aV.join hp _ h2).mono (bQ hp))⟩
 ·cases e2
  obtain⟨v,rfl,a,vs,rfl,h1,h2⟩:=jk r1
  exact⟨a,vs,rfl,.inr h1,λp hp=>q p vs _ (s1.trans (bQ hp)) (s1.free hp) cH ((aV.join hp _ h2).mono (bQ hp))⟩
 ·cases e2
end
section
variable {X:Cx}{o e:Expr}{es:List Expr}{Fo:aK->Option D}{Fs:aK->Option (List D)}{name:Str}{apos cpos:Pos}{T id:String}{r:V->List V->Hp->VK->Prop}{g:D->List D->Option D}
def Xp (T:String):D->Bool
 | .str _=>T=="str"
 | .int _=>T=="int"
 | .lst _=>T=="list"
 | .tup _=>T=="tuple"
 | .dct _ _=>T=="dict"
 |_=>false
theorem Inv.Zo {pins:List (Addr×Obj)}{σ:L2.St}{H:Hp}{s:Shared}{a:Addr}{xs:List V}(I:Inv X pins σ H s)(h:vW X.K H a xs):∃its:List Value,Vals xs its/\vB s.heap a its.toArray/\xs.length<=sizeLine:=by
 rcases h with h|⟨o,its,n,hk,hc,hdn,hs,hz,r⟩
 ·obtain⟨z,its,r,p⟩:=h.ok I.hok
  exact⟨its,r,p,z⟩
 ·refine⟨its.toList,r,⟨o,I.yS a o hk,hc,⟨n,by simpa using hs⟩,hdn⟩,?_⟩
  have e:=r.length
  simp only[Array.length_toList]at e
  omega
def Wt (K:Fg)(T:String)(x:V)(H:Hp):Prop:=tyV K T x H\/(T="tuple"/\∃p xs,x= .ref p/\vW K H p xs)
theorem O9 {pins:List (Addr×Obj)}{σ:L2.St}{H:Hp}{s:Shared}{T:String}{x:V}{v:Value}(I:Inv X pins σ H s)(r:RelV x v)(ty:Wt X.K T x H):
 s.TypeIs v T/\∀a,v= .ref a->∃ob,s.heap.get? a=some ob/\ob.dict=none:=by
 rcases ty with ty|⟨rfl,p,xs,rfl,h⟩
 ·exact U0 I r ty
 ·cases r
  obtain⟨its,_,⟨o,h1,h2,_,h3⟩,_⟩:=Inv.Zo I h
  exact⟨⟨o,h1,h2⟩,λa e=>by cases e;exact⟨o,h1,h3⟩⟩
def a0V (K:Fg)(T:String)(r:V->List V->Hp->VK->Prop)(to:TE):TE:=λσ H Q=>to σ H λx H1=>Wt K T x H1/\r x [] H1 Q
def a1T (K:Fg)(T:String)(r:V->List V->Hp->VK->Prop)(to:TE)(t:TA):TE:=λσ H Q=>to σ H λx H1=>Wt K T x H1/\t σ H1 λxs H2=>r x xs H2 Q
theorem Nm {to:TE}(pa:PlainAttrs T)(slot:Slot T name id)(hty:typeOf (.builtin id)=pure (.type "method_descriptor"))(hm:Om X id r)(ho:PE X o to)
 (hbase:attributeBase o name X.env (eval o X.env)=eval o X.env:=by rfl)(hline:(apos.endLine==cpos.line)=true:=by rfl):PE X (.Call (.Attribute o name apos) [] [] cpos) (a0V X.K T r to):=by
 intro pins s σ H Q I h
 refine wpAny_Call_method0_late hbase hline (iD (ho pins s σ H _ I h) λv s1 ⟨x,H1,I1,r1,ty,q1⟩=>?_)
 obtain⟨h1,h2⟩:=O9 I1 r1 ty
 exact⟨T,id,pa,slot,hty,h1,h2,Calls.callWith_builtin rfl (PySem.evalArgs_none (hm pins s1 σ H1 x [] v [] Q I1 r1 .nil q1))⟩
theorem YC {to:TE}{t:TA}(pa:PlainAttrs T)(slot:Slot T name id)(hty:typeOf (.builtin id)=pure (.type "method_descriptor"))(hm:Om X id r)(ho:PE X o to)(ha:PA X (e::es) t)
 (hbase:attributeBase o name X.env (eval o X.env)=eval o X.env:=by rfl)
 (hfew:((backTo cpos (starEach (e::es) X.env)).all (λx=>!x.1)&&(backToKw cpos (keywordEach [] X.env)).all (λx=>x.1.isSome)
  &&decide ((e::es).length+([]:List Keyword).length+(if([]:List Keyword).isEmpty then 0 else 1)<30))=true:=by rfl)
 (hline:(apos.endLine==cpos.line)=true:=by rfl)(hs:starEach (e::es) X.env=(false,eval e X.env)::starEach es X.env:=by rfl)(hplain:(backTo cpos (starEach es X.env)).any (·.1)=false:=by rfl):
 PE X (.Call (.Attribute o name apos) (e::es) [] cpos) (a1T X.K T r to t):=by
 intro pins s σ H Q I h
 refine wpAny_Call_method_late hbase hfew hline rfl (iD (ho pins s σ H _ I h) λv s1 ⟨x,H1,I1,r1,ty,q1⟩=>?_)
 obtain⟨h1,h2⟩:=O9 I1 r1 ty
 refine⟨T,id,pa,slot,hty,h1,h2,?_⟩
 have hA:=ha cpos pins s1 σ H1 _ I1 q1
 rw[hs]at hA ⊢
 refine Calls.callWith_builtin (by show(false||(backTo cpos (starEach es X.env)).any (·.1))=false;rw[hplain]<;>rfl) (Calls.evalArgs_plain ?_)
 exact iD hA λus s2 ⟨vs,H2,I2,r2,q2⟩=>hm pins s2 σ H2 x vs v us Q I2 r1 r2 q2
theorem Xq {O:Addr->Prop}{K:Fg}{H:Hp}{d:D}{v:V}(h:Rep O K H d v)(t:Xp T d=true):Wt K T v H:=by
 cases d<;>simp only[Xp,beq_iff_eq]at t<;>try (cases t;done)
 case int i=>cases h;exact .inl t
 case str x=>cases h;exact .inl t
 case lst l=>
  obtain⟨a,vs,rfl,h1,_⟩:=h
  exact .inl (.inl ⟨t,vs,qK.of h1.1⟩)
 case tup l=>
  obtain⟨a,vs,rfl,h1,_⟩:=h
  exact .inr ⟨t,a,vs,rfl,h1⟩
 case dct ks l=>
  obtain⟨a,vs,rfl,h1,_⟩:=h
  exact .inl (.inr (.inr (.inl ⟨t,.inl ⟨_,h1.1⟩⟩)))
def WK (K:Fg)(r:V->List V->Hp->VK->Prop)(g:D->List D->Option D):Prop:=∀(O:Addr->Prop) (H:Hp) (x:V) (xs:List V) (dx:D) (l:List D) (d:D) (Q:VK),Within O H->Rep O K H dx x->aV O K H l xs->g dx l=some d->
 (∀v H',bV H H'->Rep O K H' d v->Q v H')->r x xs H Q
theorem t6 (pa:PlainAttrs T)(slot:Slot T name id)(hty:typeOf (.builtin id)=pure (.type "method_descriptor"))(hm:Om X id r)(hg:WK X.K r g)(ho:ED X o Fo)(ha:DQ X (e::es) Fs)
 (hbase:attributeBase o name X.env (eval o X.env)=eval o X.env:=by rfl)
 (hfew:((backTo cpos (starEach (e::es) X.env)).all (λx=>!x.1)&&(backToKw cpos (keywordEach [] X.env)).all (λx=>x.1.isSome)
  &&decide ((e::es).length+([]:List Keyword).length+(if([]:List Keyword).isEmpty then 0 else 1)<30))=true:=by rfl)
 (hline:(apos.endLine==cpos.line)=true:=by rfl)(hs:starEach (e::es) X.env=(false,eval e X.env)::starEach es X.env:=by rfl)(hplain:(backTo cpos (starEach es X.env)).any (·.1)=false:=by rfl):
 ED X (.Call (.Attribute o name apos) (e::es) [] cpos) (λρ=>(Fo ρ).bind λx=>if Xp T x=true then(Fs ρ).bind λl=>g x l else none):=have ho:=ho.1;have ha:=ha.1; .mk<|PE.imp (YC pa slot hty hm ho ha hbase hfew hline hs hplain) λσ H Q ⟨O,ρ,d,w,rr,e,q⟩=>by
 obtain⟨dx,e1,e⟩:=bind_some e
 split at e
 ·rename_i ht
  obtain⟨l,e2,e⟩:=bind_some e
  refine⟨O,ρ,dx,w,rr,e1,λx H1 s1 r1=>⟨Xq r1 ht,O,ρ,l,w.mono s1,rr.mono s1,e2,λvs H2 s2 r2=>?_⟩⟩
  exact hg O H2 x vs dx l d Q ((w.mono s1).mono s2) (r1.mono s2) r2 e λv H' s3 r3=>q v H' ((s1.trans s2).trans s3) r3
 ·cases e
theorem XH (pa:PlainAttrs T)(slot:Slot T name id)(hty:typeOf (.builtin id)=pure (.type "method_descriptor"))(hm:Om X id r)(hg:WK X.K r g)(ho:ED X o Fo)
 (hbase:attributeBase o name X.env (eval o X.env)=eval o X.env:=by rfl)(hline:(apos.endLine==cpos.line)=true:=by rfl):
 ED X (.Call (.Attribute o name apos) [] [] cpos) (λρ=>(Fo ρ).bind λx=>if Xp T x=true then g x [] else none):=have ho:=ho.1; .mk<|PE.imp (Nm pa slot hty hm ho hbase hline) λσ H Q ⟨O,ρ,d,w,rr,e,q⟩=>by
 obtain⟨dx,e1,e⟩:=bind_some e
 split at e
 ·rename_i ht
  refine⟨O,ρ,dx,w,rr,e1,λx H1 s1 r1=>⟨Xq r1 ht,?_⟩⟩
  exact hg O H1 x [] dx [] d Q (w.mono s1) r1 rfl e λv H' s3 r3=>q v H' (s1.trans s3) r3
 ·cases e
def JT:V->List V->Hp->VK->Prop:=λx xs H Q=>∃z,x= .str z/\xs=[]/\Q (.bl (Txt.isdigit z)) H
theorem Lk:Om X "str.isdigit" JT:=by
 intro pins s σ H x xs v us Q I rx rs h
 obtain⟨z,rfl,rfl,q⟩:=h
 obtain⟨t,rfl⟩:=rx
 cases rs
 exact SC.isdigit ⟨.bl _,H,I,rfl,q⟩
def sY:D->List D->Option D
 | .str z,[]=>some (.bl (Txt.isdigit z))
 |_,_=>none
theorem JW {K:Fg}:WK K JT sY:=by
 intro O H x xs dx l d Q w rx rs e q
 unfold sY at e
 split at e
 ·cases e;cases rx;cases rs
  exact⟨_,rfl,rfl,q _ H (bV.refl H) rfl⟩
 ·cases e
def Xf:V->List V->Hp->VK->Prop:=λx xs H Q=>∃z y,x= .str z/\xs=[.str y]/\Q (.int (Txt.find z y)) H
theorem Vr:Om X "str.find" Xf:=by
 intro pins s σ H x xs v us Q I rx rs h
 obtain⟨z,y,rfl,rfl,q⟩:=h
 obtain⟨t,rfl⟩:=rx
 obtain⟨u,rfl,t',rfl⟩:=vals1 rs
 exact SC.find ⟨.int _,H,I.tok _,⟨_,rfl⟩,q⟩
def Fy:D->List D->Option D
 | .str z,[.str y]=>some (.int (Txt.find z y))
 |_,_=>none
theorem Te {K:Fg}:WK K Xf Fy:=by
 intro O H x xs dx l d Q w rx rs e q
 unfold Fy at e
 split at e
 ·cases e;cases rx
  obtain⟨v,rfl,rfl⟩:=jk rs
  exact⟨_,_,rfl,rfl,q _ H (bV.refl H) rfl⟩
 ·cases e
def zO:List D->Option (List Str)
 |[]=>some []
 | .str x::l=>(zO l).map λr=>x::r
 |_=>none
theorem Ka {O:Addr->Prop}{K:Fg}{H:Hp}:∀{l:List D}{xs:List Str}{vs:List V}{us:List Value},zO l=some xs->aV O K H l vs->Vals vs us->StrsAre us xs
 |[],_,_,_,e,h,r=>by cases e;cases h;cases r;exact .nil
 | .str x::l,_,_,_,e,h,r=>by
   obtain⟨v,vs,rfl,h1,h2⟩:=h
   cases h1
   simp only[zO]at e
   cases e1:zO l with
   |none=>rw[e1]at e;cases e
   |some xs=>
    rw[e1]at e
    cases e
    cases r with
    |cons r1 r2=>
     obtain⟨t,rfl⟩:=r1
     exact .cons x t (Ka e1 h2 r2)
def rJoin (K:Fg):V->List V->Hp->VK->Prop:=λx xs H Q=>∃(O:Addr->Prop) (z:Str) (v:V) (l:List D) (ys:List Str),x= .str z/\xs=[v]/\Rep O K H (.lst l) v/\zO l=some ys/\(ys.map (·.length)).sum+ys.length*z.length<=16777216/\Q (.str (Txt.join z ys)) H
theorem Hs:Om X "str.join" (rJoin X.K):=by
 intro pins s σ H x xs v us Q I rx rs h
 obtain⟨O,z,w,l,ys,rfl,rfl,rl,es,hz,q⟩:=h
 obtain⟨t,rfl⟩:=rx
 obtain⟨u,rfl,ru⟩:=vals1 rs
 obtain⟨a,vs,rfl,h1,h2⟩:=rl
 cases ru
 obtain⟨its,rv,pl,_⟩:=I.list (qK.of h1.1)
 exact join_list pl.isList (by simpa using Ka es h2 rv) hz λt' k=>⟨.str _,H,I.tok _,⟨_,rfl⟩,q⟩
def mW:D->List D->Option D
 | .str z,[.lst l]=>(zO l).bind λys=>if(ys.map (·.length)).sum+ys.length*z.length<=16777216 then some (.str (Txt.join z ys))else none
 |_,_=>none
theorem Di {K:Fg}:WK K (rJoin K) mW:=by
 intro O H x xs dx l d Q w rx rs e q
 unfold mW at e
 split at e
 ·obtain⟨ys,e1,e⟩:=bind_some e
  obtain⟨hz,rfl⟩:=lW e
  cases rx
  obtain⟨v,rfl,rv⟩:=jk rs
  exact⟨O,_,v,_,ys,rfl,rfl,rv,e1,hz,q _ H (bV.refl H) rfl⟩
 ·cases e
end
section
variable {X:Cx}
theorem Gy:∀(l:List (Str×Tok)),Vals ((l.map (·.1)).map V.str) (strValues l)
 |[]=> .nil
 |(x,t)::l=> .cons ⟨t,rfl⟩ (Gy l)
def Z7:V->List V->Hp->VK->Prop:=λx xs H Q=>∃z y,x= .str z/\xs=[.str y]/\(y.length==0)=false/\z.length<=sizeLine/\(Builtin.Str.partsBetween z (Builtin.Str.occurrences z y 0 z.length (z.length+1)) y.length).length<=sizeLine/\
 (Txt.split z y).length<=sizeLine/\∀p,H p=none->Q (.ref p) (upd H p (.lst ((Txt.split z y).map V.str)))
theorem RW:Om X "str.split" Z7:=by
 intro pins s σ H x xs v us Q I rx rs h
 obtain⟨x,y,rfl,rfl,hy,hsz,hsz2,hsz3,q⟩:=h
 obtain⟨t,rfl⟩:=rx
 obtain⟨_,rfl,u,rfl⟩:=vals1 rs
 have fin:∀(l:List (Str×Tok)) (tk:Nat),l.map (·.1)=Txt.split x y->EP X pins σ Q (.ref s.heap.objs.size) { s with heap:=s.heap.push { cls:= .type "list",data:= .seq (strValues l).toArray },toks:=tk }:=λl tk e=>
  ⟨.ref _,_,I.Ym (by rw[<-e];exact Gy l) (by rw[List.length_map];exact hsz3),rfl,q _ I.fresh⟩
 cases h1:(decide (x.length<y.length)||decide (PySem.Builtin.Str.strKind x<PySem.Builtin.Str.strKind y))
 ·cases hf:(Builtin.Str.occurrences x y 0 x.length (x.length+1)).isEmpty
  ·refine call_meets F.slot_str_split (typeIs_str _ _ _) F.entry_str_split (F.args_str_split_2 _ _) (meets_str_split_sep x y t u h1 hy hf hsz hsz2) ?_
   show EP X pins σ Q _ { s with toks:=_,heap:=s.heap.push { cls:= .type "list",data:= .seq (strsFrom s.toks (Builtin.Str.partsBetween x (Builtin.Str.occurrences x y 0 x.length (x.length+1)) y.length)).toArray } }
   rw[strsFrom_eq]
   exact fin (numbered s.toks _) _ ((numbered_texts _ _).trans ((if_neg (ne_true_of_eq_false h1)).trans (if_neg (ne_true_of_eq_false hf))).symm)
  ·exact call_meets F.slot_str_split (typeIs_str _ _ _) F.entry_str_split (F.args_str_split_2 _ _) (meets_str_split_not_found x y t u h1 hy hf)
    (fin [(x,t)] s.toks ((if_neg (ne_true_of_eq_false h1)).trans (if_pos hf)).symm)
 ·exact call_meets F.slot_str_split (typeIs_str _ _ _) F.entry_str_split (F.args_str_split_2 _ _) (meets_str_split_cannot_occur x y t u h1)
   (fin [(x,t)] s.toks (if_pos h1).symm)
theorem Gj {O:Addr->Prop}{K:Fg}{H:Hp}:∀(l:List Str),aV O K H (l.map D.str) (l.map V.str)
 |[]=>rfl
 |x::l=>⟨_,_,rfl,rfl,Gj l⟩
def pY (z y:Str):Option (List D):=if(y.length==0)=false/\z.length<=sizeLine/\(Builtin.Str.partsBetween z (Builtin.Str.occurrences z y 0 z.length (z.length+1)) y.length).length<=sizeLine/\(Txt.split z y).length<=sizeLine then some ((Txt.split z y).map .str)else none
variable {o e:Expr}{Fo:aK->Option D}{Fs:aK->Option (List D)}{apos cpos:Pos}
theorem wz (ho:ED X o Fo)(ha:DQ X [e] Fs)
 (hbase:attributeBase o "split" X.env (eval o X.env)=eval o X.env:=by rfl)
 (hfew:((backTo cpos (starEach (e::[]) X.env)).all (λx=>!x.1)&&(backToKw cpos (keywordEach [] X.env)).all (λx=>x.1.isSome)
  &&decide ((e::[]).length+([]:List Keyword).length+(if([]:List Keyword).isEmpty then 0 else 1)<30))=true:=by rfl)
 (hline:(apos.endLine==cpos.line)=true:=by rfl)(hs:starEach (e::[]) X.env=(false,eval e X.env)::starEach [] X.env:=by rfl)(hplain:(backTo cpos (starEach [] X.env)).any (·.1)=false:=by rfl):
 EN X (.Call (.Attribute o "split" apos) [e] [] cpos) (λρ=>(Fo ρ).bind λx=>(Fs ρ).bind λl=>match x,l with
  | .str z,[.str y]=>pY z y
  |_,_=>none):=have ho:=ho.1;have ha:=ha.1; .mk<|PE.imp (Xa PySem.F.plainAttrs_str PySem.F.slot_str_split PySem.F.type_str_split RW ho ha hbase hfew hline hs hplain) λσ H Q ⟨O,ρ,d,w,rr,e,q⟩=>by
 obtain⟨dx,e1,e⟩:=bind_some e
 obtain⟨l,e2,e⟩:=bind_some e
 split at e
 ·unfold pY at e
  obtain⟨⟨z1,z2,z3,z4⟩,rfl⟩:=lW e
  refine⟨O,ρ,_,w,rr,e1,λx H1 s1 r1=>?_⟩
  cases r1
  refine⟨rfl,O,ρ,_,w.mono s1,rr.mono s1,e2,λvs H2 s2 r2=>?_⟩
  obtain⟨v,rfl,rfl⟩:=jk r2
  exact⟨_,_,rfl,rfl,z1,z2,z3,z4,λp hp=>q p _ _ ((s1.trans s2).trans (bQ hp)) ((s1.trans s2).free hp) cH (Gj _)⟩
 ·cases e
def Qo (x:D)(l:List D):Bool:=sE x&&sE (.lst l)
theorem Qp {l:List D}(h:sE (.lst l)=true):Ed l=true/\PyData.canLayAll0 (iG l)=true/\PyData.depthAll (iG l)<=64:=by
 unfold sE at h
 rw[Bool.and_eq_true]at h
 have h1:Ed l=true:=by simpa only[Ni]using h.1
 have h2:SeqAt.shaped (.list (iG l))=true:=by simpa only[rK]using h.2
 exact⟨h1,oY (.inl h2)⟩
noncomputable def Bv (h:Heap)(x:D)(u:Value):Bool:=PyData.eqv (SeqAt.readOf h u) (rK x)
theorem BZ {pins:List (Addr×Obj)}{σ:L2.St}{H:Hp}{s:Shared}{O:Addr->Prop}{l:List D}{x:D}{vs:List V}{us:List Value}{v:V}{u:Value}{A:Around}(I:Inv X pins σ H s)(hl:sE (.lst l)=true)(hx:sE x=true)(rl:aV O X.K H l vs)(rv:Vals vs us)
 (rx:Rep O X.K H x v)(ru:RelV v u)(hu:A.units+66<cLine):(∀y,y∈us.toArray->SeqAt.EqAt A.in1 s y u (Bv s.heap x y))/\us.map (Bv s.heap x)=l.map λy=>sr y x:=by
 obtain⟨k1,k2,k3⟩:=Qp hl
 unfold sE at hx
 rw[Bool.and_eq_true]at hx
 obtain⟨as,q1⟩:=uH I l k1 rl rv
 obtain⟨bs,q2⟩:=jV I x hx.1 rx ru
 have dx:=SeqAt.depth_of_shaped hx.2
 refine⟨SeqAt.items_eqAt (vs:=us.toArray) (by simpa using q1) q2 k2 (SeqAt.canLay_of_shaped hx.2) (by have:=Nat.min_le_right (PyData.depthAll (iG l)) (rK x).depth;omega),?_⟩
 have e1:=SeqAt.readsAll_map (iG l) us as k2 q1
 have e2:us.map (Bv s.heap x)=(us.map (SeqAt.readOf s.heap)).map λy=>PyData.eqv y (rK x):=by rw[List.map_map];rfl
 rw[e2,e1]
 have:∀l:List D,(iG l).map (λy=>PyData.eqv y (rK x))=l.map λy=>sr y x:=λl=>by
  induction l with
  |nil=>rfl
  |cons d l ih=>simp only[iG,List.map_cons,ih,sr]
 exact this l
def T7 (K:Fg):V->List V->Hp->VK->Prop:=λx xs H Q=>∃(O:Addr->Prop) (l:List D) (y:D) (v:V),xs=[v]/\Rep O K H (.lst l) x/\Rep O K H y v/\Qo y l=true/\Q (.int ((l.countP λz=>sr z y):Nat)) H
theorem countP_map {α β:Type}(f:α->β)(p:β->Bool)(l:List α):l.countP (λa=>p (f a))=(l.map f).countP p:=by
 rw[List.countP_map];rfl
theorem RV (hu:X.A.units+66<cLine):Om X "list.count" (T7 X.K):=by
 intro pins s σ H x xs v us Q I rx rs h
 obtain⟨O,l,y,w,rfl,rl,ry,hs,q⟩:=h
 unfold Qo at hs
 rw[Bool.and_eq_true]at hs
 obtain⟨u,rfl,ru⟩:=vals1 rs
 obtain⟨a,vs,rfl,h1,h2⟩:=rl
 cases rx
 obtain⟨its,n,rv,ho,_⟩:=I.lst h1.1
 obtain⟨q1,q2⟩:=BZ (A:=X.A) I hs.2 hs.1 h2 rv ry ru hu
 refine call_meets F.slot_list_count ⟨_,ho,rfl⟩ F.entry_list_count (F.args_list_count_2 _ _) (SeqAt.list_countAt a its.toArray n none #[] u (Bv s.heap y)) ⟨ho,q1,?_⟩
 have e:its.toArray.toList.countP (Bv s.heap y)=l.countP λz=>sr z y:=by
  have e1:=countP_map (Bv s.heap y) id its
  have e2:=countP_map (λz=>sr z y) id l
  simp only[id]at e1 e2
  rw[List.toList_toArray,e1,q2,<-e2]
 show EP X pins σ Q (.int ((its.toArray.toList.countP (Bv s.heap y):Nat):Int) s.toks) _
 rw[e]
 exact⟨.int _,H,I.tok _,⟨_,rfl⟩,q⟩
def yO:D->List D->Option D
 | .lst l,[y]=>if Qo y l=true then some (.int ((l.countP λz=>sr z y):Nat))else none
 |_,_=>none
theorem Qk {K:Fg}:WK K (T7 K) yO:=by
 intro O H x xs dx l d Q w rx rs e q
 unfold yO at e
 split at e
 ·obtain⟨hz,rfl⟩:=lW e
  obtain⟨v,rfl,rv⟩:=jk rs
  exact⟨O,_,_,v,rfl,rx,rv,hz,q _ H (bV.refl H) rfl⟩
 ·cases e
def Jl (y:D)(l:List D):Option Nat:=l.findIdx? λz=>sr z y
def T8 (K:Fg):V->List V->Hp->VK->Prop:=λx xs H Q=>∃(O:Addr->Prop) (l:List D) (y:D) (v:V) (j:Nat),xs=[v]/\Rep O K H (.lst l) x/\Rep O K H y v/\Qo y l=true/\Jl y l=some j/\Q (.int (j:Nat)) H
theorem tY (hu:X.A.units+66<cLine):Om X "list.index" (T8 X.K):=by
 intro pins s σ H x xs v us Q I rx rs h
 obtain⟨O,l,y,w,j,rfl,rl,ry,hs,hj,q⟩:=h
 unfold Qo at hs
 rw[Bool.and_eq_true]at hs
 obtain⟨u,rfl,ru⟩:=vals1 rs
 obtain⟨a,vs,rfl,h1,h2⟩:=rl
 cases rx
 obtain⟨its,n,rv,ho,hz⟩:=I.lst h1.1
 obtain⟨q1,q2⟩:=BZ (A:=X.A) I hs.2 hs.1 h2 rv ry ru hu
 have hlen:its.length=l.length:=by rw[<-rv.length,<-h2.length]
 obtain⟨hlt,hit,hno⟩:=List.findIdx?_eq_some_iff_getElem.mp hj
 have at_:∀(m:Nat) (hm:m<its.length),Bv s.heap y its[m]=sr (l[m]'(by omega)) y:=λm hm=>by
  have e:=congrArg (λr=>r[m]?) q2
  simp only[List.getElem?_map]at e
  rw[List.getElem?_eq_getElem hm,List.getElem?_eq_getElem (by omega)]at e
  exact Option.some.inj e
 have hn:=vG
 refine call_meets F.slot_list_index ⟨_,ho,rfl⟩ F.entry_list_index (F.args_list_index_2 _ _) (SeqAt.list_indexAt a its.toArray n none #[] u (Bv s.heap y) j (by rw[List.size_toArray];omega) (by have:=h2.length;omega)
  (by have:=at_ j (by omega);simp only[List.getElem_toArray];rw[this];exact hit) λm hm hmj=>?_) ⟨ho,q1,⟨.int _,H,I.tok _,⟨_,rfl⟩,q⟩⟩
 rw[List.size_toArray]at hm
 have:=at_ m hm
 simp only[List.getElem_toArray]
 rw[this]
 exact Bool.eq_false_iff.mpr (hno m hmj)
def jg:D->List D->Option D
 | .lst l,[y]=>if Qo y l=true then(Jl y l).map λj=> .int (j:Nat)else none
 |_,_=>none
theorem qx {K:Fg}:WK K (T8 K) jg:=by
 intro O H x xs dx l d Q w rx rs e q
 unfold jg at e
 split at e
 ·split at e
  ·rename_i l' y hz
   cases e1:Jl y l' with
   |none=>rw[e1]at e;cases e
   |some j=>
    rw[e1]at e
    cases e
    obtain⟨v,rfl,rv⟩:=jk rs
    exact⟨O,_,_,v,j,rfl,rx,rv,hz,e1,q _ H (bV.refl H) rfl⟩
  ·cases e
 ·cases e
end
section
variable {X:Cx}
def Es:D->Option String
 | .non=>some "NoneType"
 | .bl _=>some "bool"
 | .int _=>some "int"
 | .str _=>some "str"
 | .lst _=>some "list"
 | .tup _=>some "tuple"
 | .dct _ _=>some "dict"
 |_=>none
def Qt (n T:String):Bool:=n==T||(n=="bool"&&T=="int")
theorem Vl {K:Fg}{T:String}(hT:T∈["tuple","int","bool","str","list"]):∀n∈["NoneType","bool","int","str","list","tuple","dict"],PySem.W.kitOne K (.type n) (.type T)=some (Qt n T):=by
 intro n hn
 simp only[List.mem_cons,List.not_mem_nil,or_false]at hT hn
 rcases hT with rfl|rfl|rfl|rfl|rfl<;>rcases hn with rfl|rfl|rfl|rfl|rfl|rfl|rfl<;>first|rfl|decide+kernel
theorem U3 {d:D}{n:String}(h:Es d=some n):n∈["NoneType","bool","int","str","list","tuple","dict"]:=by
 cases d<;>simp only[Es]at h<;>cases h<;>simp
theorem Yc {pins:List (Addr×Obj)}{σ:L2.St}{H:Hp}{s:Shared}{A:Around}{E:Value->Shared->Prop}{Q:Value->Shared->Prop}{O:Addr->Prop}{d:D}{v:V}{u c:Value}{n:String}{b:Bool}(I:Inv X pins σ H s)(h:Rep O X.K H d v)(ru:RelV v u)(ht:Es d=some n)
 (e:PySem.W.kitOne X.K (.type n) c=some b)(hq:∀tk,Q (.bool b) { s with toks:=tk }):wpAny (model X.prog X.w) A (call (.builtin "isinstance") [u,c]) Q E s:=by
 cases d<;>simp only[Es]at ht<;>cases ht
 case non=>cases h;exact nY I ru .non e hq
 case bl b=>cases h;exact nY I ru (.bl _) e hq
 case int i=>cases h;exact nY I ru (.int _) e hq
 case str x=>cases h;exact nY I ru (.str _) e hq
 case tup l=>
  obtain⟨a,vs,rfl,h1,h2⟩:=h
  cases ru
  obtain⟨its,_,⟨o,ho,hc,_⟩,_⟩:=I.tuple h1
  exact PySem.W.kia_one PySem.W.kitx_tuple I.yS ⟨o,ho,hc⟩ e (λz=>nomatch z) hq
 case lst l=>
  obtain⟨a,vs,rfl,h1,h2⟩:=h
  exact nY I ru (.lst h1.1) e hq
 case dct ks l=>
  obtain⟨a,vs,rfl,h1,h2⟩:=h
  exact nY I ru (.dK h1.1) e hq
theorem qR {e:Expr}{F:aK->Option D}{Tn:Str}{T:String}{p p2 pos:Pos}(hT:T∈["tuple","int","bool","str","list"])(hg:Gl X "isinstance")(hm:X.mg "isinstance"=none)(hgT:Gl X Tn)(hmT:X.mg Tn=none)(hvT:bootBuiltins Tn=some (.type T))(he:ED X e F)
 (hn:Tn≠"__name__":=by decide)(hdb:(Tn==("__debug__":Str))=false:=by decide)(hs:starEach [e,.Name Tn p2] X.env=(false,eval e X.env)::starEach [.Name Tn p2] X.env:=by rfl)(hs2:starEach [.Name Tn p2] X.env=(false,eval (.Name Tn p2) X.env)::starEach [] X.env:=by rfl)
 (hpl:(backTo pos (starEach [.Name Tn p2] X.env)).any (·.1)=false:=by rfl):
 ED X (.Call (.Name "isinstance" p) [e,.Name Tn p2] [] pos) (λρ=>(F ρ).bind λd=>(Es d).map λn=> .bl (Qt n T)):=have he:=he.1; .mk<|by
 have hc:jO X (.builtin "isinstance") (λxs H Q=>∃(O:Addr->Prop) (d:D) (v:V) (n:String),xs=[v,.ty T]/\Rep O X.K H d v/\Es d=some n/\Q (.bl (Qt n T)) H):=by
  intro pins s σ H xs us Q I r h
  obtain⟨O,d,v,n,rfl,rd,ht,q⟩:=h
  obtain⟨u,c,rfl,ru,rc⟩:=vals2 r
  cases rc
  exact Yc I rd ru ht (Vl hT n (U3 ht)) λtk=>⟨.bl _,H,I.tok tk,rfl,q⟩
 refine PE.imp (Dc hc hg hm (by decide+kernel) (pF he (pF (VJ (v:= .ty T) hgT hmT hvT rfl hn hdb) zm hs2) hs) (by decide) (by decide) hs hpl) λσ H Q ⟨O,ρ,d,w,r,e,q⟩=>?_
 obtain⟨d',e1,e2⟩:=bind_some e
 cases e3:Es d' with
 |none=>rw[e3]at e2;cases e2
 |some n=>
  rw[e3]at e2
  cases e2
  exact⟨O,ρ,d',w,r,e1,λv H1 s1 r1=>⟨O,d',v,n,rfl,r1,e3,q _ H1 s1 rfl⟩⟩
structure POD (X:Cx)(e:Option Expr)(F:aK->Option (Option Int)):Prop where
 mk::(h:PO X e (λσ H Q=>∃(O:Addr->Prop) (ρ:aK) (i:Option Int),Within O H/\nA O X.K H σ ρ/\F ρ=some i/\∀H',bV H H'->Q i H'))
theorem jj:POD X none (λ_=>some none):= .mk<|λpins s σ H Q I ⟨O,ρ,i,w,r,e,q⟩=>by
 cases e
 exact W4 pins s σ H Q I (q H (bV.refl H))
def WM:D->Option Int
 | .int i=>some i
 |_=>none
theorem gP {e:Expr}{F:aK->Option D}(h:ED X e F):POD X (some e) (λρ=>(F ρ).bind λd=>(WM d).map some):=have h:=h.1; .mk<|λpins s σ H Q I ⟨O,ρ,i,w,r,e,q⟩=>by
 obtain⟨d,e1,e2⟩:=bind_some e
 cases d<;>simp only[WM]at e2<;>cases e2
 exact W5 h pins s σ H Q I ⟨O,ρ,_,w,r,e1,λv H1 s1 r1=>⟨_,r1,q H1 s1⟩⟩
theorem Qv {t sl:Addr}{items:Array Value}{vl vu:Value}{lo hi:Option Int}{Q:Value->Shared->Prop}{prog:Program}{w:World}{A:Around}{E:Value->Shared->Prop}{s:Shared}(ht:IsTup s.heap t items)(hs:s.heap.IsSliceOf sl vl vu .none)(pl:IsPart vl lo)(pu:IsPart vu hi)
 (hw:HT.jc items.size 0 lo=0/\HT.jc items.size items.size hi=items.size)(h:Q (.ref t) s):wpAny (model prog w) A (getItem (.ref t) (.ref sl)) Q E s:=by
 obtain⟨os,hos,hcs,hds⟩:=id hs
 have hTs:s.TypeIs (.ref sl) "slice":=⟨os,hos,hcs⟩
 unfold getItem
 try with_reducible refine wpAny_holding ?_
 first|refine wpAny_bind (wpAny_pure ?_)|skip
 refine wpAny_bind (wpAny_sequenceKey ht.typeIs (by decide) ?_)
 refine wpAny_bind (wpAny_callSpecial?_slot (name:=Str.ofString "__getitem__") ht.typeIs PyProof.Rows.slot_tuple_getitem
  (wpAny_call_entry PyProof.Rows.slot_tuple_getitem ht.typeIs entry_tuple_getitem ?_ (args_tuple_getitem _ _)))
 show wpAny _ _ (Builtin.Tuple.tupleItemsOf (.ref t)>>=_) _ _ s
 refine wpAny_bind (tupleItemsOf_ ht ?_)
 refine wpAny_bind (wpAny_typeOf hTs ?_)
 rw[if_pos (by decide)]
 refine wpAny_bind (HT.qI hs pl pu ?_)
 show wpAny _ _ (if(((HT.jc items.size 0 lo:Nat):Int)==0&&(1:Int)==1&&(HT.jc items.size items.size hi - HT.jc items.size 0 lo)==items.size)=true then _ else _) _ _ s
 rw[hw.1,hw.2,if_pos (by simp)]
 obtain⟨o,ho,hc,n,hd⟩:=id ht
 obtain⟨hp,g,dd,tk,oss⟩:=s
 unfold Builtin.Tuple.tupleIsExact
 wp_walk using wpAny_typeOf ht.typeIs
 exact⟨_,rfl,wpAny_pure h⟩
def a0P (K:Fg):V->Option Int->Option Int->Hp->VK->Prop:=λx lo hi H Q=>∃a xs,x= .ref a/\vW K H a xs/\(HT.jc xs.length 0 lo=0/\HT.jc xs.length xs.length hi=xs.length)/\Q (.ref a) H
theorem TF:Ut X (a0P X.K):=by
 intro pins s σ H x v vl vu lo hi sl Q I rx hs pl pu h
 obtain⟨a,xs,rfl,hx,hw,q⟩:=h
 cases rx
 obtain⟨its,r,ht,hz⟩:=I.tuple hx
 have hlen:its.toArray.size=xs.length:=by rw[List.size_toArray];exact r.length.symm
 exact⟨"tuple",_,PyProof.Rows.slot_tuple_getitem.lookup,ht.typeIs,Qv ht hs pl pu (by rw[hlen];exact hw) ⟨.ref a,H,I,rfl,q⟩⟩
def a1K (K:Fg):V->Option Int->Option Int->Hp->VK->Prop:=λx lo hi H Q=>a0N K x lo hi H Q\/a0O K x lo hi H Q\/a0P K x lo hi H Q
theorem a1R:Ut X (a1K X.K):=Wl.or (Zg.or TF)
theorem P0 {α:Type}{l:List α}{lo hi:Option Int}(h:HT.jc l.length 0 lo=0/\HT.jc l.length l.length hi=l.length):(l.drop (HT.jc l.length 0 lo)).take (HT.jc l.length l.length hi - HT.jc l.length 0 lo)=l:=by
 rw[h.1,h.2];simp
def Ea (d:D)(lo hi:Option Int):Option D:=match d with
 | .lst l=>some (.lst (cutD l lo hi))
 | .tup l=>some (.tup (cutD l lo hi))
 |_=>none
theorem iw {e:Expr}{lo hi:Option Expr}{F:aK->Option D}{Fl Fh:aK->Option (Option Int)}{pos p2:Pos}(he:ED X e F)(hl:POD X lo Fl)(hu:POD X hi Fh):
 ED X (.Subscript e (.Slice lo hi none p2) pos) (λρ=>(F ρ).bind λd=>(Fl ρ).bind λa=>(Fh ρ).bind λb=>Ea d a b):=have he:=he.1;have hl:=hl.1;have hu:=hu.1; .mk<|PE.imp (Sy a1R he hl hu) λσ H Q ⟨O,ρ,d,w,r,e,q⟩=>by
 obtain⟨dx,e1,e⟩:=bind_some e
 obtain⟨a,e2,e⟩:=bind_some e
 obtain⟨b,e3,e⟩:=bind_some e
 refine⟨O,ρ,dx,w,r,e1,λv H1 s1 r1=>⟨O,ρ,a,w.mono s1,r.mono s1,e2,λH2 s2=>⟨O,ρ,b,(w.mono s1).mono s2,(r.mono s1).mono s2,e3,λH3 s3=>?_⟩⟩⟩
 have s13:=(s1.trans s2).trans s3
 have r3:=(r1.mono s2).mono s3
 unfold Ea at e
 split at e
 ·cases e
  obtain⟨p,vs,rfl,h1,h2⟩:=r3
  exact .inl ⟨p,vs,rfl,qK.of h1.1,λz hz=>q _ _ (s13.trans (bQ hz)) (Bc (w.mono s13) hz (h2.cut a b))⟩
 ·cases e
  obtain⟨p,vs,rfl,h1,h2⟩:=r3
  by_cases hw:HT.jc vs.length 0 a=0/\HT.jc vs.length vs.length b=vs.length
  ·refine .inr (.inr ⟨p,vs,rfl,h1,hw,q _ _ s13 ⟨p,vs,rfl,h1,?_⟩⟩)
   have:cutD _ a b=_:=P0 (by rw[h2.length];exact hw)
   rw[this];exact h2
  ·exact .inr (.inl ⟨p,vs,rfl,h1,hw,λz hz=>q _ _ (s13.trans (bQ hz)) (nR hz (h2.cut a b))⟩)
 ·cases e
theorem zc:fillsNumberSlot (.type "tuple") "mul"=pure false:=
 PySem.fillsNumberSlot_seq (id:="tuple.__mul__") (r:=some (.builtin "tuple.__rmul__")) PySem.F.slot_tuple_mul.lookup (by decide+kernel) PySem.F.slot_tuple_rmul.lookup (by decide+kernel)
theorem HQ:seqRepeat? (.type "tuple")=pure (some (.builtin "tuple.__mul__")):=by
 unfold seqRepeat?
 rw[PySem.seqSlot_of (T:="tuple") (name:="__mul__") (id:="tuple.__mul__") PySem.F.slot_tuple_mul.lookup (by decide+kernel),PySem.seqSlot_of (T:="tuple") (name:="__rmul__") (id:="tuple.__rmul__") PySem.F.slot_tuple_rmul.lookup (by decide+kernel)]
 rfl
theorem Dj (a:Int)(t:Tok)(l:Addr)(items:Array Value)(n:Nat)(dd:Option Addr)(sl:Array (Option Value)):
 Meets (Builtin.«int.__rmul__» ⟨[.int a t,.ref l],[]⟩) (λ_ R s=>s.heap.get? l=some { cls:= .type "tuple",dict:=dd,data:= .seq items n,slots:=sl }/\R (.ok (.ret Value.notImplemented)) s):=
 .of_wp λprog w A R s h=>by obtain⟨hp,g,d,tk,os⟩:=s;obtain⟨hl,h⟩:=h;wp_walk;exact⟨_,rfl,h⟩
theorem Dz (l:Addr)(items:Array Value)(n:Nat)(dd:Option Addr)(sl:Array (Option Value))(x:Int)(u:Tok)(h0:¬(decide (x< -(2 ^ 63))||decide (x≥2 ^ 63))=true)(h1:(items.isEmpty||x==1)=true):
 Meets (Builtin.«tuple.__mul__» ⟨[.ref l,.int x u],[]⟩) (λ_ R s=>s.heap.get? l=some { cls:= .type "tuple",dict:=dd,data:= .seq items n,slots:=sl }/\R (.ok (.ret (.ref l))) s):=
 .of_wp λprog w A R s h=>by
  obtain⟨hp,g,d,tk,os⟩:=s;obtain⟨hl,h⟩:=h
  have f1:=AutoSeq1.idx_int
  wp_walk
  rw[if_neg h0]
  wp_walk using AutoSeq1.wpAny_loadPart' hl
  exact⟨_,rfl,h⟩
theorem Dy (l:Addr)(items:Array Value)(n:Nat)(dd:Option Addr)(sl:Array (Option Value))(x:Int)(u:Tok)(h0:¬(decide (x< -(2 ^ 63))||decide (x≥2 ^ 63))=true)(h1:¬(items.isEmpty||x==1)=true)(h2:(decide (x<=0)||items.isEmpty)=true):
 Meets (Builtin.«tuple.__mul__» ⟨[.ref l,.int x u],[]⟩) (λ_ R s=>s.heap.get? l=some { cls:= .type "tuple",dict:=dd,data:= .seq items n,slots:=sl }/\R (.ok (.ret (.ref s.heap.objs.size))) { s with heap:=s.heap.push { cls:= .type "tuple",data:= .seq #[] } }):=
 .of_wp λprog w A R s h=>by
  obtain⟨hp,g,d,tk,os⟩:=s;obtain⟨hl,h⟩:=h
  have f1:=AutoSeq1.idx_int
  wp_walk
  rw[if_neg h0]
  wp_walk using AutoSeq1.wpAny_loadPart' hl
  exact⟨_,rfl,h⟩
theorem Dw (l:Addr)(items:Array Value)(n:Nat)(dd:Option Addr)(sl:Array (Option Value))(x:Int)(u:Tok)(h0:¬(decide (x< -(2 ^ 63))||decide (x≥2 ^ 63))=true)(h1:¬(items.isEmpty||x==1)=true)(h2:¬(decide (x<=0)||items.isEmpty)=true)
 (h3:¬(items.size:Int)*x>(2 ^ 63 - 1)/8)(h4:¬Builtin.Tuple.tupleTooMany ((items.size:Int)*x)=true)(h5:(List.foldl (λx1 x2=>x1++x2) #[] (List.replicate x.toNat items)).size<=sizeLine):
 Meets (Builtin.«tuple.__mul__» ⟨[.ref l,.int x u],[]⟩) (λ_ R s=>s.heap.get? l=some { cls:= .type "tuple",dict:=dd,data:= .seq items n,slots:=sl }/\
  R (.ok (.ret (.ref s.heap.objs.size))) { s with heap:=s.heap.push { cls:= .type "tuple",data:= .seq (List.foldl (λx1 x2=>x1++x2) #[] (List.replicate x.toNat items)) } }):=
 .of_wp λprog w A R s h=>by
  obtain⟨hp,g,d,tk,os⟩:=s;obtain⟨hl,h⟩:=h
  have f1:=AutoSeq1.idx_int
  wp_walk
  rw[if_neg h0]
  wp_walk using AutoSeq1.wpAny_loadPart' hl
  rw[if_neg h3]
  wp_walk
  exact⟨_,rfl,h⟩
def Xj (K:Fg):R2:=λx y H Q=>∃a k xs,x= .ref a/\y= .int k/\vW K H a xs/\ -(2 ^ 63)<=k/\k<2 ^ 63/\xs.length*k.toNat<=sizeLine/\((xs=[]\/k=1)->Q (.ref a) H)/\
 (¬(xs=[]\/k=1)->∀p,H p=none->Q (.ref p) (upd H p (.tup (List.replicate k.toNat xs).flatten)))
theorem dH:uz X (binaryOp .Mult) (Xj X.K):=by
 intro pins s σ H x y v u Q I rx ry h
 obtain⟨a,k,xs,rfl,rfl,ha,k1,k2,hz,q1,q2⟩:=h
 cases rx
 obtain⟨t,rfl⟩:=ry
 obtain⟨its,r1,p1,_⟩:=I.tuple ha
 obtain⟨⟨cls,dd,data,sl⟩,ho,hc,n,hd⟩:=id p1
 simp only at hc hd
 subst hc hd
 have hlen:=r1.length
 have h0:¬(decide (k< -(2 ^ 63))||decide (k≥2 ^ 63))=true:=by simp;omega
 have emp:its.toArray.isEmpty=decide (xs=[]):=by
  cases r1<;>simp
 refine wpAny_binaryOp_repeat_ref (T:="tuple") (U:="int") (by decide) ⟨_,ho,rfl⟩ (λs'=>typeIs_int s' k t) zc PySem.F.fills_int_mul PySem.F.slot_int_rmul HQ PySem.F.slot_int_index.lookup
  (call_meets PySem.F.slot_int_rmul (typeIs_int s k t) PySem.F.entry_int_rmul (PySem.F.args_int_rmul_2 _ _) (Dj k t a its.toArray n dd sl)
   ⟨ho,rfl,⟨_,ho,rfl⟩,?_⟩)
 by_cases hs:xs=[]\/k=1
 ·exact call_meets PySem.F.slot_tuple_mul ⟨_,ho,rfl⟩ PySem.F.entry_tuple_mul (PySem.F.args_tuple_mul_2 _ _) (Dz a its.toArray n dd sl k t h0 (by rw[emp];simpa using hs)) ⟨ho,⟨.ref a,H,I,rfl,q1 hs⟩⟩
 ·have h1:¬(its.toArray.isEmpty||k==1)=true:=by rw[emp];simpa using hs
  have fin:∀(arr:List Value),Vals (List.replicate k.toNat xs).flatten arr->EP X pins σ Q (.ref s.heap.objs.size) { s with heap:=s.heap.push { cls:= .type "tuple",data:= .seq arr.toArray } }:=λarr rv=>
   ⟨.ref _,_,I.laid (t':=s.toks) (o:= .tup (List.replicate k.toNat xs).flatten) (λb ob q=>Heap.get?_push_of_some _ q) (Nat.le_refl _) ⟨by rw[len_rep,Nat.mul_comm];exact hz,arr,rv,vB.new _ _⟩,rfl,q2 hs _ I.fresh⟩
  have rv:=r1.rep k.toNat
  have f0:List.foldl (λx1 x2=>x1++x2) #[] (List.replicate k.toNat its.toArray)=(List.replicate k.toNat its).flatten.toArray:=by
   have:=foldl_rep its k.toNat []
   rw[List.nil_append]at this
   exact this
  by_cases hn:k<=0
  ·have e0:k.toNat=0:=by omega
   refine call_meets PySem.F.slot_tuple_mul ⟨_,ho,rfl⟩ PySem.F.entry_tuple_mul (PySem.F.args_tuple_mul_2 _ _) (Dy a its.toArray n dd sl k t h0 h1 (by simp[hn])) ⟨ho,?_⟩
   exact fin [] (by rw[e0];exact .nil)
  ·have e1:((its.toArray.size:Nat):Int)*k=((its.length*k.toNat:Nat):Int):=by
    rw[List.size_toArray,Int.natCast_mul]
    congr 1
    omega
   have hz':its.length*k.toNat<=sizeLine:=by rw[<-hlen];exact hz
   have a2i:=vG
   have h63:¬((its.toArray.size:Nat):Int)*k>(2 ^ 63 - 1)/8:=by
    rw[e1]
    have:(sizeLine:Nat)<=(2 ^ 63 - 1)/8:=by decide
    omega
   have hne:¬(decide (k<=0)||its.toArray.isEmpty)=true:=by
    rw[emp]
    simp only[Bool.or_eq_true,decide_eq_true_eq,not_or]
    exact⟨hn,λz=>hs (.inl z)⟩
   refine call_meets PySem.F.slot_tuple_mul ⟨_,ho,rfl⟩ PySem.F.entry_tuple_mul (PySem.F.args_tuple_mul_2 _ _) (Dw a its.toArray n dd sl k t h0 h1 hne h63
    (by rw[e1];unfold Builtin.Tuple.tupleTooMany;intro z;have z:=of_decide_eq_true z;omega) (by rw[f0,List.size_toArray,len_rep,Nat.mul_comm];exact hz')) ⟨ho,?_⟩
   show EP X pins σ Q (.ref s.heap.objs.size) { s with heap:=s.heap.push { cls:= .type "tuple",data:= .seq (List.foldl (λx1 x2=>x1++x2) #[] (List.replicate k.toNat its.toArray)) } }
   rw[f0]
   exact fin _ rv
def bN:D->D->Option D
 | .tup l,.int k=>if(-(2 ^ 63)<=k/\k<2 ^ 63)/\l.length*k.toNat<=sizeLine then some (.tup (List.replicate k.toNat l).flatten)else none
 |_,_=>none
theorem cT {K:Fg}:EY K (Xj K) bN:=by
 intro O H x y dx dy d Q w rx ry e q
 unfold bN at e
 split at e
 ·obtain⟨⟨⟨z1,z2⟩,z3⟩,rfl⟩:=lW e
  obtain⟨a,vs,rfl,h1,h2⟩:=rx
  cases ry
  refine⟨a,_,vs,rfl,rfl,h1,z1,z2,by rw[<-h2.length];exact z3,λhs=>?_,λhs p hp=>q _ _ (bQ hp) (nR hp (h2.rep _))⟩
  refine q _ H (bV.refl H) ⟨a,vs,rfl,h1,?_⟩
  rcases hs with rfl|rfl
  ·have:_=[]:=h2.rz.mpr rfl
   rw[this]
   simp[aV]
  ·simpa using h2
 ·cases e
end
section
variable {prog:Program}{w:World}{A:Around}{E:Value->Shared->Prop}{s:Shared}
theorem wR {it l:Addr}{i:Nat}{items}{x:Value}{Q:Value->Shared->Prop}(hit:s.heap.IsTupleIter it l i)(hl:s.heap.IsTuple l items)(hx:items[i]?=some x)
 (hQ:∀h',h'.IsTupleIter it l (i+1)->Heap.SameBut it s.heap h'->Q x { s with heap:=h' }):wpAny (model prog w) A (Builtin.SmallTypes.nextOf (.ref it)) Q E s:=by
 obtain⟨o,ho,hc,hd⟩:=id hit
 obtain⟨ol,hol,_,nl,hdl⟩:=hl
 unfold Builtin.SmallTypes.nextOf
 refine wpAny_bind (wpAny_callSpecial?_slot (name:=Str.ofString "__next__") hit.typeIs PySem.F.slot_tuple_iterator_next
  (wpAny_call_entry PySem.F.slot_tuple_iterator_next hit.typeIs PySem.F.entry_tuple_iterator_next ?_ (PySem.F.args_tuple_iterator_next_1 _)))
 show wpAny _ _ (field (.ref it) 0>>=_) _ _ s
 refine wpAny_bind (wpAny_field ho hd (x:= .ref l) rfl ?_)
 show wpAny _ _ (if(Value.ref l==Value.none)=true then _ else _) _ _ s
 rw[if_neg (show ¬((Value.ref l==Value.none)=true) from Bool.false_ne_true)]
 show wpAny _ _ (field (.ref it) 1>>=_) _ _ s
 refine wpAny_bind (wpAny_field ho hd (x:= .int i 0) rfl ?_)
 show wpAny _ _ (seqItems? (.ref l)>>=_) _ _ s
 refine wpAny_bind (wpAny_seqItems hol hdl ?_)
 simp only[Int.toNat_natCast,hx]
 refine wpAny_bind (wpAny_setField ho hd (by simp) (wpAny_pure ⟨x,rfl,wpAny_pure (hQ _ ?_ (Heap.SameBut.update ..))⟩))
 exact⟨_,Heap.get?_update_self _ ho (Obj.isFreed_of_fields (Obj.data_mapFields hd _)),(Obj.cls_mapFields ..).trans hc,by
  rw[Obj.data_mapFields hd];simp[rawInt]⟩
theorem z8 {it l:Addr}{i:Nat}{items}{Q:Value->Shared->Prop}(hh:A.handled=none)(hit:s.heap.IsTupleIter it l i)(hl:s.heap.IsTuple l items)(hx:items[i]?=none)
 (hE:∀h' e,Heap.ExtBut it s.heap h'->(∃o,h'.get? e=some o/\o.cls= .type "StopIteration")->E (.ref e) { s with heap:=h' }):wpAny (model prog w) A (Builtin.SmallTypes.nextOf (.ref it)) Q E s:=by
 obtain⟨o,ho,hc,hd⟩:=id hit
 obtain⟨ol,hol,_,nl,hdl⟩:=hl
 unfold Builtin.SmallTypes.nextOf
 refine wpAny_bind (wpAny_callSpecial?_slot (name:=Str.ofString "__next__") hit.typeIs PySem.F.slot_tuple_iterator_next
  (wpAny_call_entry PySem.F.slot_tuple_iterator_next hit.typeIs PySem.F.entry_tuple_iterator_next ?_ (PySem.F.args_tuple_iterator_next_1 _)))
 show wpAny _ _ (field (.ref it) 0>>=_) _ _ s
 refine wpAny_bind (wpAny_field ho hd (x:= .ref l) rfl ?_)
 show wpAny _ _ (if(Value.ref l==Value.none)=true then _ else _) _ _ s
 rw[if_neg (show ¬((Value.ref l==Value.none)=true) from Bool.false_ne_true)]
 show wpAny _ _ (field (.ref it) 1>>=_) _ _ s
 refine wpAny_bind (wpAny_field ho hd (x:= .int i 0) rfl ?_)
 show wpAny _ _ (seqItems? (.ref l)>>=_) _ _ s
 refine wpAny_bind (wpAny_seqItems hol hdl ?_)
 simp only[Int.toNat_natCast,hx]
 refine wpAny_bind (wpAny_rule (wpAny_bind (wpAny_setField ho hd (by simp) ?_)))
 show wpAny _ _ (newExc (.type "StopIteration") []>>=_) _ _ _
 refine wpAny_bind ?_
 simp only[newExc,newTuple]
 refine wpAny_bind (wpAny_newObj_type ?_ (by size_fits))
 refine wpAny_bind (m:=firstArgMember _ _) (wpAny_of_eq (a:=Value.none) (by first|rfl|(simp only[firstArgMember];rfl)) ?_)
 refine wpAny_newObj_type ?_ (by size_fits)
 simp only[raiseNew]
 refine wpAny_bind (wpAny_handled ?_)
 first|rw[show A.in1.handled=none from hh]|rw[hh]
 refine wpAny_bind (wpAny_pure (wpAny_throw ?_))
 exact hE _ _ (((Heap.SameBut.update ..).extBut.push _).push _) ⟨_,Heap.get?_push_size _ rfl,rfl⟩
end
theorem J6 {prog:Program}{w:World}{A:Around}(hh:A.handled=none)(it l:Addr)(hne:l≠it)(items:Array Value):
 Draws prog w A it [it,l] items.size (λi v=>items[i]?=some v) (λi h=>h.IsTupleIter it l i/\h.IsTuple l items) where
 live:=λ_ _ st=>let⟨o,ho,_⟩:=st.1;⟨o,ho⟩
 frame:=λ_ _ _ st hk=>⟨let⟨o,ho,r⟩:=st.1;⟨o,hk it (by simp) o ho,r⟩,let⟨o,ho,r⟩:=st.2;⟨o,hk l (by simp) o ho,r⟩⟩
 item:=λi s Q E hi st hQ=>by
  refine wR st.1 st.2 (x:=items[i]) (by simp[hi]) λh' hit' hs'=>?_
  exact hQ _ h' s.toks (by simp[hi]) ⟨hit',st.2.extBut hs'.extBut hne⟩ hs'
 done:=λs Q E st hE=>z8 hh st.1 st.2 (by simp) hE
section
variable {prog:Program}{w:World}{A:Around}{E:Value->Shared->Prop}{s:Shared}
structure lC (z TI TO i1 i2:Addr)(wD wF:List Addr):Prop where
 TIz:TI≠z
 TOz:TO≠z
 i1z:i1≠z
 i2z:i2≠z
 TITO:TI≠TO
 TIi1:TI≠i1
 TIi2:TI≠i2
 TOi1:TO≠i1
 TOi2:TO≠i2
 i12:i1≠i2
 XQ:z∉wD
 f1T:TO∉wD
 f1i:i2∉wD
 f2z:z∉wF
 f2T:TO∉wF
 f2i:i1∉wF
variable {z TI TO i1 i2:Addr}{wD wF:List Addr}{n1 n2 k:Nat}{P1 P2:Nat->Value->Prop}{S1 S2:Nat->Heap->Prop}{a b:Value}
theorem cG {it c:Addr}{fp:List Addr}{n:Nat}{P:Nat->Value->Prop}{St:Nat->Heap->Prop}{i:Nat}{h h':Heap}(D:Draws prog w A it fp n P St)(hs:Heap.SameBut c h h')(hc:c∉fp)(st:St i h):St i h':=
 D.frame i h h' st λb hb o e=>(hs.2 b λq=>hc (q▸hb)).trans e
theorem QG {Q:Value->Shared->Prop}(D1:Draws prog w A i1 wD n1 P1 S1)(D2:Draws prog w A i2 wF n2 P2 S2)(D:lC z TI TO i1 i2 wD wF)
 (hz:IsZip s.heap z TI TO .none)(hTI:IsPair s.heap TI (.ref i1) (.ref i2))(hTO:IsPair s.heap TO a b)(h1:S1 k s.heap)(h2:S2 k s.heap)(hk1:k<n1)(hk2:k<n2)
 (hQ:∀x y h' tk,P1 k x->P2 k y->IsZip h' z TI TO (rawInt s.heap.objs.size)->IsPair h' TO x y->S1 (k+1) h'->S2 (k+1) h'->IsPair h' s.heap.objs.size x y->h'.objs.size=s.heap.objs.size+1->
  (∀c o,c≠z->c≠TO->c≠i1->c≠i2->s.heap.get? c=some o->h'.get? c=some o)->Q (.ref s.heap.objs.size) { s with heap:=h',toks:=tk }):
 wpAny (model prog w) A (Builtin.«zip.__next__» ⟨[.ref z],[]⟩) (λfin s'=>∃v,fin= .done (.ret v)/\Q v s') E s:=by
 obtain⟨hp,g,dr,tk₀,os⟩:=s
 show wpAny _ _ (field (.ref z) 2>>=_) _ _ _
 refine wpAny_bind (wpAny_field hz rfl (x:= .bool false) rfl ?_)
 show wpAny _ _ (field (.ref z) 3>>=_) _ _ _
 refine wpAny_bind (wpAny_field hz rfl (x:= .ref TI) rfl ?_)
 refine wpAny_bind (wpAny_seqItems hTI rfl ?_)
 show wpAny _ _ (Builtin.SmallTypes.ownedTupleIsFree (.ref z)>>=_) _ _ _
 refine wpAny_bind ?_
 unfold Builtin.SmallTypes.ownedTupleIsFree
 refine wpAny_bind (wpAny_field hz rfl (x:= .none) rfl (wpAny_pure ?_))
 simp only[if_true]
 refine wpAny_bind (wpAny_rule ?_)
 refine wpAny_bind (wpAny_field hz rfl (x:= .ref TO) rfl ?_)
 refine wpAny_bind (wpAny_setField_rec hz (by simp) λh₁ hz₁ hs₁=>?_)
 replace hs₁:Heap.SameBut z hp h₁:=hs₁
 replace hz₁:IsZip h₁ z TI TO .ellipsis:=hz₁
 refine wpAny_bind ?_
 simp only[List.zipIdx_cons,List.zipIdx_nil,List.forIn_cons,List.forIn_nil]
 refine wpAny_bind (wpAny_bind (wpAny_onRaise ?_))
 show wpAny _ _ (Builtin.SmallTypes.nextOf (.ref i1)>>=_) _ _ _
 refine wpAny_bind (D1.item k _ _ _ hk1 (cG D1 hs₁ D.XQ h1) λx h₂ tk₂ hx h1₂ hs₂=>wpAny_pure ?_)
 replace hs₂:Heap.SameBut i1 h₁ h₂:=hs₂
 have hTO₂:IsPair h₂ TO a b:=hs₂.extBut _ _ D.TOi1 (hs₁.extBut _ _ D.TOz hTO)
 refine wpAny_bind (wpAny_seqItems hTO₂ rfl ?_)
 refine wpAny_bind (wpAny_updateSeq_pair hTO₂ λh₃ hTO₃ hs₃=>?_)
 replace hs₃:Heap.SameBut TO h₂ h₃:=hs₃
 replace hTO₃:IsPair h₃ TO x b:=hTO₃
 refine wpAny_bind (wpAny_letGo (wpAny_pure ?_))
 refine wpAny_bind (wpAny_bind (wpAny_onRaise ?_))
 show wpAny _ _ (Builtin.SmallTypes.nextOf (.ref i2)>>=_) _ _ _
 refine wpAny_bind (D2.item k _ _ _ hk2 (cG D2 hs₃ D.f2T (cG D2 hs₂ D.f2i (cG D2 hs₁ D.f2z h2))) λy h₄ tk₄ hy h2₄ hs₄=>wpAny_pure ?_)
 replace hs₄:Heap.SameBut i2 h₃ h₄:=hs₄
 have hTO₄:IsPair h₄ TO x b:=hs₄.extBut _ _ D.TOi2 hTO₃
 refine wpAny_bind (wpAny_seqItems hTO₄ rfl ?_)
 refine wpAny_bind (wpAny_updateSeq_pair hTO₄ λh₅ hTO₅ hs₅=>?_)
 replace hs₅:Heap.SameBut TO h₄ h₅:=hs₅
 replace hTO₅:IsPair h₅ TO x y:=hTO₅
 refine wpAny_bind (wpAny_letGo (wpAny_pure (wpAny_pure ?_)))
 refine wpAny_bind (wpAny_seqItems hTO₅ rfl ?_)
 refine wpAny_bind (wpAny_newTuple ?_)
 have hsz:h₅.objs.size=hp.objs.size:=by rw[hs₅.1,hs₄.1,hs₃.1,hs₂.1,hs₁.1]
 have hz₅:IsZip h₅ z TI TO .ellipsis:=hs₅.extBut _ _ D.TOz.symm (hs₄.extBut _ _ D.i2z.symm (hs₃.extBut _ _ D.TOz.symm (hs₂.extBut _ _ D.i1z.symm hz₁)))
 have hk₅:∀c o,c≠z->c≠TO->c≠i1->c≠i2->hp.get? c=some o->h₅.get? c=some o:=λc o c1 c2 c3 c4 e=>
  hs₅.extBut _ _ c2 (hs₄.extBut _ _ c4 (hs₃.extBut _ _ c2 (hs₂.extBut _ _ c3 (hs₁.extBut _ _ c1 e))))
 have h1₅:S1 (k+1) h₅:=cG D1 hs₅ D.f1T (cG D1 hs₄ D.f1i (cG D1 hs₃ D.f1T h1₂))
 have h2₅:S2 (k+1) h₅:=cG D2 hs₅ D.f2T h2₄
 have hzlt:z<h₅.objs.size:=Heap.lt_size hz₅
 show wpAny _ _ (Builtin.SmallTypes.ownedTupleHandOut (.ref z) (.ref h₅.objs.size)>>=_) _ _ _
 refine wpAny_bind ?_
 unfold Builtin.SmallTypes.ownedTupleHandOut
 have hz₆:IsZip (h₅.push { cls:= .type "tuple",data:= .seq #[x,y] }) z TI TO .ellipsis:=Heap.get?_push_of_some _ hz₅
 refine wpAny_bind (wpAny_setField_rec hz₆ (by simp) λh₇ hz₇ hs₇=>?_)
 replace hz₇:IsZip h₇ z TI TO (rawInt h₅.objs.size):=hz₇
 refine wpAny_setField_rec hz₇ (by simp) λh₈ hz₈ hs₈=>?_
 replace hz₈:IsZip h₈ z TI TO (rawInt h₅.objs.size):=hz₈
 have up:∀c o,c≠z->h₅.get? c=some o->h₈.get? c=some o:=λc o c1 e=>hs₈.extBut _ _ c1 (hs₇.extBut _ _ c1 (Heap.get?_push_of_some _ e))
 have hT₈:IsPair h₈ h₅.objs.size x y:=hs₈.extBut _ _ (Nat.ne_of_gt hzlt) (hs₇.extBut _ _ (Nat.ne_of_gt hzlt) (Heap.get?_push_size _ rfl))
 have hz8:h₈.objs.size=h₅.objs.size+1:=by rw[hs₈.1,hs₇.1,Heap.size_push]
 rw[hsz]at hz₈ hT₈ hz8
 refine wpAny_pure ⟨_,rfl,?_⟩
 show Q (.ref h₅.objs.size) _
 rw[hsz]
 exact hQ x y h₈ _ hx hy hz₈ (up _ _ D.TOz hTO₅) (D1.frame _ _ _ h1₅ λc hc o e=>up c o (λq=>D.XQ (q▸hc)) e) (D2.frame _ _ _ h2₅ λc hc o e=>up c o (λq=>D.f2z (q▸hc)) e) hT₈ hz8 λc o c1 c2 c3 c4 e=>up c o c1 (hk₅ c o c1 c2 c3 c4 e)
theorem Ui {Q:PySem.Fin->Shared->Prop}(D1:Draws prog w A i1 wD n1 P1 S1)(D2:Draws prog w A i2 wF n2 P2 S2)(D:lC z TI TO i1 i2 wD wF)
 (hz:IsZip s.heap z TI TO .none)(hTI:IsPair s.heap TI (.ref i1) (.ref i2))(hTO:IsPair s.heap TO a b)(h1:S1 k s.heap)(h2:S2 k s.heap)(hend:k=n1\/(k<n1/\k=n2))
 (hE:∀h' e tk,(∀c o,c≠z->c≠TO->c≠i1->c≠i2->s.heap.get? c=some o->h'.get? c=some o)->(∃o,h'.get? e=some o/\o.cls= .type "StopIteration")->E (.ref e) { s with heap:=h',toks:=tk }):
 wpAny (model prog w) A (Builtin.«zip.__next__» ⟨[.ref z],[]⟩) Q E s:=by
 obtain⟨hp,g,dr,tk₀,os⟩:=s
 show wpAny _ _ (field (.ref z) 2>>=_) _ _ _
 refine wpAny_bind (wpAny_field hz rfl (x:= .bool false) rfl ?_)
 show wpAny _ _ (field (.ref z) 3>>=_) _ _ _
 refine wpAny_bind (wpAny_field hz rfl (x:= .ref TI) rfl ?_)
 refine wpAny_bind (wpAny_seqItems hTI rfl ?_)
 show wpAny _ _ (Builtin.SmallTypes.ownedTupleIsFree (.ref z)>>=_) _ _ _
 refine wpAny_bind ?_
 unfold Builtin.SmallTypes.ownedTupleIsFree
 refine wpAny_bind (wpAny_field hz rfl (x:= .none) rfl (wpAny_pure ?_))
 simp only[if_true]
 refine wpAny_bind (wpAny_rule ?_)
 refine wpAny_bind (wpAny_field hz rfl (x:= .ref TO) rfl ?_)
 refine wpAny_bind (wpAny_setField_rec hz (by simp) λh₁ hz₁ hs₁=>?_)
 replace hs₁:Heap.SameBut z hp h₁:=hs₁
 replace hz₁:IsZip h₁ z TI TO .ellipsis:=hz₁
 refine wpAny_bind ?_
 simp only[List.zipIdx_cons,List.zipIdx_nil,List.forIn_cons,List.forIn_nil]
 refine wpAny_bind (wpAny_bind (wpAny_onRaise ?_))
 show wpAny _ _ (Builtin.SmallTypes.nextOf (.ref i1)>>=_) _ _ _
 rcases hend with rfl|⟨hk1,rfl⟩
 ·refine wpAny_bind (D1.done _ _ _ (cG D1 hs₁ D.XQ h1) λh₂ e hs₂ he=>?_)
  replace hs₂:Heap.ExtBut i1 h₁ h₂:=hs₂
  obtain⟨oe,hoe,hce⟩:=he
  have hz₂:IsZip h₂ z TI TO .ellipsis:=hs₂ _ _ D.i1z.symm hz₁
  have hez:e≠z:=λx=>by subst x;rw[hz₂]at hoe;cases hoe;simp at hce
  refine wpAny_setField_rec hz₂ (by simp) λh₃ _ hs₃=>hE h₃ e _ (λc o c1 _ c3 _ x=>hs₃.extBut _ _ c1 (hs₂ _ _ c3 (hs₁.extBut _ _ c1 x))) ⟨oe,hs₃.extBut _ _ hez hoe,hce⟩
 ·refine wpAny_bind (D1.item k _ _ _ hk1 (cG D1 hs₁ D.XQ h1) λx h₂ tk₂ hx h1₂ hs₂=>wpAny_pure ?_)
  replace hs₂:Heap.SameBut i1 h₁ h₂:=hs₂
  have hTO₂:IsPair h₂ TO a b:=hs₂.extBut _ _ D.TOi1 (hs₁.extBut _ _ D.TOz hTO)
  refine wpAny_bind (wpAny_seqItems hTO₂ rfl ?_)
  refine wpAny_bind (wpAny_updateSeq_pair hTO₂ λh₃ hTO₃ hs₃=>?_)
  replace hs₃:Heap.SameBut TO h₂ h₃:=hs₃
  refine wpAny_bind (wpAny_letGo (wpAny_pure ?_))
  refine wpAny_bind (wpAny_bind (wpAny_onRaise ?_))
  show wpAny _ _ (Builtin.SmallTypes.nextOf (.ref i2)>>=_) _ _ _
  refine wpAny_bind (D2.done _ _ _ (cG D2 hs₃ D.f2T (cG D2 hs₂ D.f2i (cG D2 hs₁ D.f2z h2))) λh₄ e hs₄ he=>?_)
  replace hs₄:Heap.ExtBut i2 h₃ h₄:=hs₄
  obtain⟨oe,hoe,hce⟩:=he
  have hz₄:IsZip h₄ z TI TO .ellipsis:=hs₄ _ _ D.i2z.symm (hs₃.extBut _ _ D.TOz.symm (hs₂.extBut _ _ D.i1z.symm hz₁))
  have hez:e≠z:=λx=>by subst x;rw[hz₄]at hoe;cases hoe;simp at hce
  refine wpAny_setField_rec hz₄ (by simp) λh₅ _ hs₅=>hE h₅ e _ (λc o c1 c2 c3 c4 x=>hs₅.extBut _ _ c1 (hs₄ _ _ c4 (hs₃.extBut _ _ c2 (hs₂.extBut _ _ c3 (hs₁.extBut _ _ c1 x))))) ⟨oe,hs₅.extBut _ _ hez hoe,hce⟩
theorem qw {Q:Option Value->Shared->Prop}(D1:Draws prog w A.in1 i1 wD n1 P1 S1)(D2:Draws prog w A.in1 i2 wF n2 P2 S2)(D:lC z TI TO i1 i2 wD wF)
 (hz:IsZip s.heap z TI TO .none)(hTI:IsPair s.heap TI (.ref i1) (.ref i2))(hTO:IsPair s.heap TO a b)(h1:S1 k s.heap)(h2:S2 k s.heap)(hk1:k<n1)(hk2:k<n2)
 (hQ:∀x y h' tk,P1 k x->P2 k y->IsZip h' z TI TO (rawInt s.heap.objs.size)->IsPair h' TO x y->S1 (k+1) h'->S2 (k+1) h'->IsPair h' s.heap.objs.size x y->h'.objs.size=s.heap.objs.size+1->
  (∀c o,c≠z->c≠TO->c≠i1->c≠i2->s.heap.get? c=some o->h'.get? c=some o)->Q (some (.ref s.heap.objs.size)) { s with heap:=h',toks:=tk }):
 wpAny (model prog w) A (pyNext (.ref z)) Q E s:=by
 have hT:s.TypeIs (.ref z) "zip":=⟨_,hz,rfl⟩
 unfold pyNext
 exact wpAny_bind (wpAny_attempt (wpAny_callSpecial?_slot (name:=Str.ofString "__next__") hT PySem.F.slot_zip_next
  (wpAny_call_entry PySem.F.slot_zip_next hT PySem.F.entry_zip_next
   (QG D1 D2 D hz hTI hTO h1 h2 hk1 hk2 λx y h' tk b1 b2 a1 a2 a3 a4 a5 a6 a7=>wpAny_pure (hQ x y h' tk b1 b2 a1 a2 a3 a4 a5 a6 a7)) (PySem.F.args_zip_next_1 _))))
theorem rT {Q:Option Value->Shared->Prop}(D1:Draws prog w A.in1 i1 wD n1 P1 S1)(D2:Draws prog w A.in1 i2 wF n2 P2 S2)(D:lC z TI TO i1 i2 wD wF)
 (hz:IsZip s.heap z TI TO .none)(hTI:IsPair s.heap TI (.ref i1) (.ref i2))(hTO:IsPair s.heap TO a b)(h1:S1 k s.heap)(h2:S2 k s.heap)(hend:k=n1\/(k<n1/\k=n2))
 (hQ:∀h' tk,(∀c o,c≠z->c≠TO->c≠i1->c≠i2->s.heap.get? c=some o->h'.get? c=some o)->Q none { s with heap:=h',toks:=tk }):wpAny (model prog w) A (pyNext (.ref z)) Q E s:=by
 have hT:s.TypeIs (.ref z) "zip":=⟨_,hz,rfl⟩
 unfold pyNext
 refine wpAny_bind (wpAny_attempt (wpAny_callSpecial?_slot (name:=Str.ofString "__next__") hT PySem.F.slot_zip_next
  (wpAny_call_entry PySem.F.slot_zip_next hT PySem.F.entry_zip_next (Ui D1 D2 D hz hTI hTO h1 h2 hend λh' e tk hk he=>?_) (PySem.F.args_zip_next_1 _))))
 obtain⟨o,ho,hc⟩:=he
 refine wpAny_bind (wpAny_isInstance (T:="StopIteration") (b:=true) ⟨o,ho,hc⟩ isSubtype_stop ?_)
 exact wpAny_pure (hQ _ _ hk)
end
inductive dO where
 |lst (a:Addr)
 |tup (a:Addr)
 |str (x:Str) (t:Tok)
def dO.val:dO->Value
 | .lst a=> .ref a
 | .tup a=> .ref a
 | .str x t=> .str x t
def dO.obj:dO->Obj
 | .lst a=>{ cls:= .type "list_iterator",data:= .fields #[.ref a,.int 0 0] }
 | .tup a=>{ cls:= .type "tuple_iterator",data:= .fields #[.ref a,.int 0 0] }
 | .str x t=>{ cls:= .type (strIterType x),data:= .fields #[.str x t,.int 0 0] }
def dO.src (k:dO)(its:Array Value)(h:Heap):Prop:=match k with
 | .lst a=>h.IsList a its
 | .tup a=>h.IsTuple a its
 | .str x _=>its.size=x.cps.size
def dO.tn (k:dO)(it:Addr)(i:Nat)(h:Heap):Prop:=match k with
 | .lst a=>h.IsListIter it a i
 | .tup a=>h.IsTupleIter it a i
 | .str x t=>h.IsStrIter it (strIterType x) x t i
def dO.fp (k:dO)(it:Addr):List Addr:=match k with
 | .lst a=>[it,a]
 | .tup a=>[it,a]
 | .str _ _=>[it]
def dO.P (k:dO)(its:Array Value)(i:Nat)(v:Value):Prop:=match k with
 | .str x _=>∃c u,x.cps[i]?=some c/\v= .str ⟨#[c]⟩ u
 |_=>its[i]?=some v
theorem dO.iter {prog:Program}{w:World}{A:Around}{E:Value->Shared->Prop}{s:Shared}{Q:Value->Shared->Prop}(k:dO){its:Array Value}(h:k.src its s.heap)(hQ:Q (.ref s.heap.objs.size) { s with heap:=s.heap.push k.obj }):wpAny (model prog w) A (pyIter k.val) Q E s:=by
 cases k with
 |lst a=>exact wpAny_pyIter_list h hQ
 |tup a=>exact wpAny_pyIter_tuple h hQ
 |str x t=>exact wpAny_pyIter_strU hQ
theorem dO.push {k:dO}{its:Array Value}{h:Heap}(x:k.src its h)(o:Obj):k.src its (h.push o):=by
 cases k with
 |lst a=>exact Heap.IsList.push x o
 |tup a=>exact Heap.IsTuple.push x o
 |str x' t=>exact x
theorem dO.start {k:dO}{it:Addr}{h:Heap}(e:h.get? it=some k.obj):k.tn it 0 h:=by
 cases k with
 |lst a=>exact⟨_,e,rfl,rfl⟩
 |tup a=>exact⟨_,e,rfl,rfl⟩
 |str x t=>exact⟨_,e,rfl,rfl⟩
theorem dO.keep {k:dO}{it:Addr}{i:Nat}{h h':Heap}(x:k.tn it i h)(f:∀o,h.get? it=some o->h'.get? it=some o):k.tn it i h':=by
 cases k with
 |lst a=>exact x.at f
 |tup a=>obtain⟨o,ho,r⟩:=x;exact⟨o,f o ho,r⟩
 |str y t=>obtain⟨o,ho,r⟩:=x;exact⟨o,f o ho,r⟩
theorem dO.live {k:dO}{it:Addr}{i:Nat}{h:Heap}(x:k.tn it i h):∃o,h.get? it=some o/\∀v,o.data≠ .cell v:=by
 cases k with
 |lst a=>obtain⟨o,ho,c,d⟩:=x;exact⟨o,ho,λv z=>by rw[d]at z;cases z⟩
 |tup a=>obtain⟨o,ho,c,d⟩:=x;exact⟨o,ho,λv z=>by rw[d]at z;cases z⟩
 |str y t=>obtain⟨o,ho,c,d⟩:=x;exact⟨o,ho,λv z=>by rw[d]at z;cases z⟩
theorem dO.draws {prog:Program}{w:World}{A:Around}(hh:A.handled=none)(k:dO)(it:Addr)(its:Array Value)(hne:∀a,k.val= .ref a->a≠it)(h0:∃h,k.src its h):
 ∃St,Draws prog w A it (k.fp it) its.size (k.P its) St/\(∀i h,k.tn it i h->k.src its h->St i h)/\∀i h,St i h->k.tn it i h:=by
 cases k with
 |lst a=>exact⟨_,Draws.list hh it a (hne a rfl) its,λi h x y=>⟨x,y⟩,λi h x=>x.1⟩
 |tup a=>exact⟨_,J6 hh it a (hne a rfl) its,λi h x y=>⟨x,y⟩,λi h x=>x.1⟩
 |str x t=>
  obtain⟨_,e⟩:=h0
  have e':its.size=x.cps.size:=e
  rw[e']
  by_cases ha:x.cps.all (·<128)=true
  ·have es:strIterType x="str_ascii_iterator":=by unfold strIterType;rw[if_pos ha]
   refine⟨_,Draws.strAscii hh it x t,λi h y _=>?_,λi h y=>?_⟩
   ·have y':h.IsStrIter it (strIterType x) x t i:=y
    rw[es]at y';exact y'
   ·show h.IsStrIter it (strIterType x) x t i
    rw[es];exact y
  ·have es:strIterType x="str_iterator":=by unfold strIterType;rw[if_neg ha]
   refine⟨_,Draws.strWide hh it x t,λi h y _=>?_,λi h y=>?_⟩
   ·have y':h.IsStrIter it (strIterType x) x t i:=y
    rw[es]at y';exact y'
   ·show h.IsStrIter it (strIterType x) x t i
    rw[es];exact y
def dO.oZ (K:Fg)(H:Hp)(xs:List V):dO->Prop
 | .lst a=>qK K H a xs
 | .tup a=>vW K H a xs
 | .str x _=>xs=x.cps.toList.map λc=>V.str ⟨#[c]⟩
section
variable {X:Cx}{pins:List (Addr×Obj)}{σ:L2.St}{H:Hp}{s:Shared}
theorem dO.of {k:dO}{xs:List V}(I:Inv X pins σ H s)(h:k.oZ X.K H xs):∃its:Array Value,k.src its s.heap/\its.size=xs.length/\∀i v,k.P its i v->∃x,xs[i]?=some x/\RelV x v:=by
 cases k with
 |lst a=>
  obtain⟨its,r,p,z⟩:=I.list h
  exact⟨its.toArray,p.isList,by rw[List.size_toArray,r.length],λi v e=>by
   have e':its[i]?=some v:=by simpa[dO.P]using e
   cases q:xs[i]? with
   |none=>rw[r.none_of q]at e';cases e'
   |some x=>obtain⟨u,e1,e2⟩:=r.get q;rw[e1]at e';cases e';exact⟨x,rfl,e2⟩⟩
 |tup a=>
  obtain⟨its,r,p,z⟩:=I.tuple h
  exact⟨its.toArray,p,by rw[List.size_toArray,r.length],λi v e=>by
   have e':its[i]?=some v:=by simpa[dO.P]using e
   cases q:xs[i]? with
   |none=>rw[r.none_of q]at e';cases e'
   |some x=>obtain⟨u,e1,e2⟩:=r.get q;rw[e1]at e';cases e';exact⟨x,rfl,e2⟩⟩
 |str x t=>
  have h':xs=x.cps.toList.map λc=>V.str ⟨#[c]⟩:=h
  subst h'
  refine⟨x.cps.map λ_=> .none,by simp[dO.src],by simp,λi v e=>?_⟩
  obtain⟨c,u,e1,rfl⟩:=e
  exact⟨.str ⟨#[c]⟩,by rw[List.getElem?_map];simp[e1],⟨u,rfl⟩⟩
theorem dO.Dr {k:dO}{xs ys:List V}(I:Inv X pins σ H s)(h:k.oZ X.K H xs)(h':k.oZ X.K H ys):xs=ys:=by
 cases k with
 |lst a=>exact I.Jr h h'
 |tup a=>exact I.Gw h h'
 |str x t=>exact Eq.trans (show xs=_ from h) (show ys=_ from h').symm
theorem Inv.O8 {t':Nat}{h':Heap}{ch:List Addr}{p:Addr}{xs:List V}{us:List Value}(I:Inv X pins σ H s)(hp:p=s.heap.objs.size)(k:∀b o,b∉ch->s.heap.get? b=some o->h'.get? b=some o)(hc:∀b∈ch,zU X pins H b)(ho:∀b∈ch,∃o,h'.get? b=some o)
 (e:vB h' p us.toArray)(r:Vals xs us)(hz:xs.length<=sizeLine):Inv X pins σ (upd H p (.tup xs)) { s with heap:=h',toks:=t' }:=by
 subst hp
 have hn:H s.heap.objs.size=none:=I.hok.fresh (Nat.le_refl _)
 have nc:∀b u,H b=some u->b∉ch:=λb u q hb=>by rw[(hc b hb).1]at q;cases q
 have old:∀b o,s.heap.get? b=some o->b≠s.heap.objs.size:=λb o q=>Nat.ne_of_lt (Heap.lt_size q)
 refine I.step (g':=s.gens) (d':=s.drawn) (ch:=ch) (λb hb=>?_) (λb o _ _ hb q _=>k b o hb q) (λb o _ _ hb q _=>⟨o.slots,k b o hb q⟩) (λb o _ q n=>by rw[bY (old b o q)];exact n)
  (λb o hb q=>⟨o,k b o hb q⟩) (λb ys q=>by rw[bY (cM q hn)];exact q) (λb o u q=>by rw[bY (cM q hn)];exact q) (λb ps q=>⟨#[],by rw[bY (cM q hn),q];simp⟩) (λm hm=>?_) (λb u q=>?_) I.bare
 ·obtain⟨f0,f1,f2,f3,f4,f5⟩:=hc b hb
  exact⟨f3,f1,f4,f5⟩
 ·obtain⟨o,es,ep,hl,r'⟩:=hm
  exact⟨o,es,ep,k _ o (λz=>(hc _ z).2.1 rfl) hl,r'⟩
 ·by_cases hb:b=s.heap.objs.size
  ·subst hb
   rw[cH]at q
   cases q
   exact⟨hz,us,r,e⟩
  ·rw[bY hb]at q
   refine(I.hok b u q).stay (λc v hc' q'=>k c v ?_ q') (λc z=>by rw[bY (cM z hn)];exact z) λc ys z=>by rw[bY (cM z hn)];exact z
   rcases hc' with rfl|hc'
   ·exact nc _ _ q
   ·exact nc _ _ hc'
theorem Inv.Bf {t':Nat}{h':Heap}{ch:List Addr}(I:Inv X pins σ H s)(k:∀b o,b∉ch->s.heap.get? b=some o->h'.get? b=some o)(hc:∀b∈ch,zU X pins H b):Inv X pins σ H { s with heap:=h',toks:=t' }:=by
 have nc:∀b u,H b=some u->b∉ch:=λb u q hb=>by rw[(hc b hb).1]at q;cases q
 refine I.step (g':=s.gens) (d':=s.drawn) (ch:=ch) (λb hb=>?_) (λb o _ _ hb q _=>k b o hb q) (λb o _ _ hb q _=>⟨o.slots,k b o hb q⟩) (λb o _ q n=>n)
  (λb o hb q=>⟨o,k b o hb q⟩) (λb ys q=>q) (λb o u q=>q) (λb ps q=>⟨#[],by rw[q];simp⟩) (λm hm=>?_) (λb u q=>?_) I.bare
 ·obtain⟨f0,f1,f2,f3,f4,f5⟩:=hc b hb
  exact⟨f3,f1,f4,f5⟩
 ·obtain⟨o,es,ep,hl,r'⟩:=hm
  exact⟨o,es,ep,k _ o (λz=>(hc _ z).2.1 rfl) hl,r'⟩
 ·refine(I.hok b u q).stay (λc v hc' q'=>k c v ?_ q') (λc z=>z) λc ys z=>z
  rcases hc' with rfl|hc'
  ·exact nc _ _ q
  ·exact nc _ _ hc'
def Itz (K:Fg)(k1 k2:dO):It:=
 ⟨λi H=>∃xs ys,k1.oZ K H xs/\k2.oZ K H ys/\i<xs.length/\i<ys.length,
  λi H x H'=>∃p x1 x2,H p=none/\x= .ref p/\H'=upd H p (.tup [x1,x2])/\(∀xs,k1.oZ K H xs->xs[i]?=some x1)/\∀ys,k2.oZ K H ys->ys[i]?=some x2,
  λi H=>∃xs ys,k1.oZ K H xs/\k2.oZ K H ys/\(i=xs.length\/(i<xs.length/\i=ys.length))⟩
theorem TY {P:Program}{w:World}{K:Fg}{es:List Expr}{kt:Nat}{tp:Pos}(k1 k2:dO)(z TI TO i1 i2:Addr)(d1:TI≠z)(d2:TO≠z)(d3:i1≠z)(d4:i2≠z)(d5:TI≠TO)(d6:TI≠i1)(d7:TI≠i2)(d8:TO≠i1)(d9:TO≠i2)(Um:i1≠i2)
 (h1:∀a,k1.val= .ref a->a≠z/\a≠TO/\a≠i1/\a≠i2)(h2:∀a,k2.val= .ref a->a≠z/\a≠TO/\a≠i1/\a≠i2):
 Turn P w K (.Tuple es kt tp) (Itz K k1 k2) [z,TI,TO,i1,i2] z (λi h=>IsZip h z TI TO .none/\IsPair h TI (.ref i1) (.ref i2)/\(∃a b,IsPair h TO a b)/\k1.tn i1 i h/\k2.tn i2 i h) where
 mem:=by simp
 obj:=λi h st b hb=>by
  obtain⟨hz,hTI,⟨a,b',hTO⟩,t1,t2⟩:=st
  simp only[List.mem_cons,List.not_mem_nil,or_false]at hb
  rcases hb with rfl|rfl|rfl|rfl|rfl
  ·exact⟨_,hz,λv q=>by cases q⟩
  ·exact⟨_,hTI,λv q=>by cases q⟩
  ·exact⟨_,hTO,λv q=>by cases q⟩
  ·exact dO.live t1
  ·exact dO.live t2
 keep:=λi h h' st k=>by
  obtain⟨hz,hTI,⟨a,b',hTO⟩,t1,t2⟩:=st
  exact⟨k z (by simp) _ hz,k TI (by simp) _ hTI,⟨a,b',k TO (by simp) _ hTO⟩,dO.keep t1 λo e=>k i1 (by simp) o e,dO.keep t2 λo e=>k i2 (by simp) o e⟩
 item:=by
  intro X hP hw hK hc i pins s σ H E I hf st hg
  subst hP hw hK
  obtain⟨hz,hTI,⟨a,b',hTO⟩,t1,t2⟩:=st
  obtain⟨xs,ys,q1,q2,l1,l2⟩:=hg
  obtain⟨qp,r1,n1,p1⟩:=dO.of I q1
  obtain⟨its2,r2,n2,p2⟩:=dO.of I q2
  have hh:X.A.in1.handled=none:=I.ok.hd hc
  obtain⟨S1,D1,a1,b1⟩:=dO.draws (prog:=X.prog) (w:=X.w) hh k1 i1 qp (λa e=>(h1 a e).2.2.1) ⟨_,r1⟩
  obtain⟨S2,D2,a2,b2⟩:=dO.draws (prog:=X.prog) (w:=X.w) hh k2 i2 its2 (λa e=>(h2 a e).2.2.2) ⟨_,r2⟩
  have ap:lC z TI TO i1 i2 (k1.fp i1) (k2.fp i2):=by
   refine⟨d1,d2,d3,d4,d5,d6,d7,d8,d9,Um,?_,?_,?_,?_,?_,?_⟩
   ·cases k1<;>simp only[dO.fp,List.mem_cons,List.not_mem_nil,or_false,not_or]<;>first|exact⟨d3.symm,(h1 _ rfl).1.symm⟩|exact d3.symm
   ·cases k1<;>simp only[dO.fp,List.mem_cons,List.not_mem_nil,or_false,not_or]<;>first|exact⟨d8,(h1 _ rfl).2.1.symm⟩|exact d8
   ·cases k1<;>simp only[dO.fp,List.mem_cons,List.not_mem_nil,or_false,not_or]<;>first|exact⟨Um.symm,(h1 _ rfl).2.2.2.symm⟩|exact Um.symm
   ·cases k2<;>simp only[dO.fp,List.mem_cons,List.not_mem_nil,or_false,not_or]<;>first|exact⟨d4.symm,(h2 _ rfl).1.symm⟩|exact d4.symm
   ·cases k2<;>simp only[dO.fp,List.mem_cons,List.not_mem_nil,or_false,not_or]<;>first|exact⟨d9,(h2 _ rfl).2.1.symm⟩|exact d9
   ·cases k2<;>simp only[dO.fp,List.mem_cons,List.not_mem_nil,or_false,not_or]<;>first|exact⟨Um,(h2 _ rfl).2.2.1.symm⟩|exact Um
  refine qw D1 D2 ap hz hTI hTO (a1 _ _ t1 r1) (a2 _ _ t2 r2) (by omega) (by omega) λx y h' tk e1 e2 z1 z2 z3 z4 z5 z6 kk=>⟨_,rfl,?_⟩
  obtain⟨x1,u1,v1⟩:=p1 i x e1
  obtain⟨x2,u2,v2⟩:=p2 i y e2
  have zlt:z≠s.heap.objs.size:=Nat.ne_of_lt (Heap.lt_size hz)
  refine wpAny_letOwnedTupleGo_zip (s:={ s with heap:=h',toks:=tk }) z1 λh2' y1 y2=>?_
  replace y2:Heap.SameBut z h' h2':=y2
  have fin:Inv X pins σ (upd H s.heap.objs.size (.tup [x1,x2])) { s with heap:=h2',toks:=tk }:=by
   refine Inv.O8 (us:=[x,y]) (ch:=[z,TI,TO,i1,i2]) I rfl (λb o hb q=>?_) hf (λb hb=>?_) ⟨_,y2.extBut _ _ (Ne.symm zlt) z5,rfl,⟨_,rfl⟩,rfl⟩ (.cons v1 (.cons v2 .nil)) (by show 2<=sizeLine;decide)
   ·simp only[List.mem_cons,List.not_mem_nil,or_false,not_or]at hb
    exact y2.extBut b o hb.1 (kk b o hb.1 hb.2.2.1 hb.2.2.2.1 hb.2.2.2.2 q)
   ·simp only[List.mem_cons,List.not_mem_nil,or_false]at hb
    rcases hb with rfl|rfl|rfl|rfl|rfl
    ·exact⟨_,y1⟩
    ·exact⟨_,y2.extBut _ _ d1 (kk _ _ d1 d5 d6 d7 hTI)⟩
    ·exact⟨_,y2.extBut _ _ d2 z2⟩
    ·obtain⟨o,q,_⟩:=dO.live (b1 _ _ z3)
     exact⟨o,y2.extBut _ _ d3 q⟩
    ·obtain⟨o,q,_⟩:=dO.live (b2 _ _ z4)
     exact⟨o,y2.extBut _ _ d4 q⟩
  refine⟨.ref s.heap.objs.size,_,fin,rfl,⟨_,x1,x2,I.hok.fresh (Nat.le_refl _),rfl,rfl,λxs' q=>by rw[dO.Dr I q q1];exact u1,λys' q=>by rw[dO.Dr I q q2];exact u2⟩,
   ⟨y1,y2.extBut _ _ d1 (kk _ _ d1 d5 d6 d7 hTI),⟨x,y,y2.extBut _ _ d2 z2⟩,dO.keep (b1 _ _ z3) λo q=>y2.extBut _ _ d3 q,dO.keep (b2 _ _ z4) λo q=>y2.extBut _ _ d4 q⟩,λb hb=>?_⟩
  rw[bY ?_]
  ·exact(hf b hb).1
  ·have hobj:∃o,s.heap.get? b=some o:=by
    simp only[List.mem_cons,List.not_mem_nil,or_false]at hb
    rcases hb with rfl|rfl|rfl|rfl|rfl
    ·exact⟨_,hz⟩
    ·exact⟨_,hTI⟩
    ·exact⟨_,hTO⟩
    ·obtain⟨o,q,_⟩:=dO.live t1;exact⟨o,q⟩
    ·obtain⟨o,q,_⟩:=dO.live t2;exact⟨o,q⟩
   obtain⟨o,q⟩:=hobj
   exact Nat.ne_of_lt (Heap.lt_size q)
 done:=by
  intro X hP hw hK hc i pins s σ H E I hf st hg
  subst hP hw hK
  obtain⟨hz,hTI,⟨a,b',hTO⟩,t1,t2⟩:=st
  obtain⟨xs,ys,q1,q2,hend⟩:=hg
  obtain⟨qp,r1,n1,p1⟩:=dO.of I q1
  obtain⟨its2,r2,n2,p2⟩:=dO.of I q2
  have hh:X.A.in1.handled=none:=I.ok.hd hc
  obtain⟨S1,D1,a1,b1⟩:=dO.draws (prog:=X.prog) (w:=X.w) hh k1 i1 qp (λa e=>(h1 a e).2.2.1) ⟨_,r1⟩
  obtain⟨S2,D2,a2,b2⟩:=dO.draws (prog:=X.prog) (w:=X.w) hh k2 i2 its2 (λa e=>(h2 a e).2.2.2) ⟨_,r2⟩
  have ap:lC z TI TO i1 i2 (k1.fp i1) (k2.fp i2):=by
   refine⟨d1,d2,d3,d4,d5,d6,d7,d8,d9,Um,?_,?_,?_,?_,?_,?_⟩
   ·cases k1<;>simp only[dO.fp,List.mem_cons,List.not_mem_nil,or_false,not_or]<;>first|exact⟨d3.symm,(h1 _ rfl).1.symm⟩|exact d3.symm
   ·cases k1<;>simp only[dO.fp,List.mem_cons,List.not_mem_nil,or_false,not_or]<;>first|exact⟨d8,(h1 _ rfl).2.1.symm⟩|exact d8
   ·cases k1<;>simp only[dO.fp,List.mem_cons,List.not_mem_nil,or_false,not_or]<;>first|exact⟨Um.symm,(h1 _ rfl).2.2.2.symm⟩|exact Um.symm
   ·cases k2<;>simp only[dO.fp,List.mem_cons,List.not_mem_nil,or_false,not_or]<;>first|exact⟨d4.symm,(h2 _ rfl).1.symm⟩|exact d4.symm
   ·cases k2<;>simp only[dO.fp,List.mem_cons,List.not_mem_nil,or_false,not_or]<;>first|exact⟨d9,(h2 _ rfl).2.1.symm⟩|exact d9
   ·cases k2<;>simp only[dO.fp,List.mem_cons,List.not_mem_nil,or_false,not_or]<;>first|exact⟨Um,(h2 _ rfl).2.2.1.symm⟩|exact Um
  refine rT D1 D2 ap hz hTI hTO (a1 _ _ t1 r1) (a2 _ _ t2 r2) (by rw[n1,n2];exact hend) λh' tk kk=>⟨rfl,?_⟩
  refine Inv.Bf (ch:=[z,TI,TO,i1,i2]) I (λb o hb q=>?_) hf
  simp only[List.mem_cons,List.not_mem_nil,or_false,not_or]at hb
  exact kk b o hb.1 hb.2.2.1 hb.2.2.2.1 hb.2.2.2.2 q
 self:=λ_ _ _ _ _ st h=>wpAny_pyIter_zip st.1 h
end
abbrev zS1 (h:Heap)(k1:dO):Heap:=h.push k1.obj
abbrev zS2 (h:Heap)(k1 k2:dO):Heap:=(zS1 h k1).push k2.obj
abbrev zS3 (h:Heap)(k1 k2:dO):Heap:=(zS2 h k1 k2).push { cls:= .type "tuple",data:= .seq #[.ref h.objs.size,.ref (zS1 h k1).objs.size] }
abbrev zS4 (h:Heap)(k1 k2:dO):Heap:=(zS3 h k1 k2).push { cls:= .type "tuple",data:= .seq #[.none,.none] }
abbrev zS5 (h:Heap)(k1 k2:dO):Heap:=(zS4 h k1 k2).push { cls:= .type "zip",data:= .fields #[.none,.bool false,.bool false,.ref (zS2 h k1 k2).objs.size,.ref (zS3 h k1 k2).objs.size] }
theorem Cp (k1 k2:dO)(qp its2:Array Value):
 Meets (Builtin.«zip.__new__» ⟨[.type "zip",k1.val,k2.val],[]⟩) (λ_ R s=>k1.src qp s.heap/\k2.src its2 s.heap/\R (.ok (.ret (.ref (zS4 s.heap k1 k2).objs.size))) { s with heap:=zS5 s.heap k1 k2 }):=
 .of_wp λprog w A R s h=>by
  obtain⟨hp,g,d,tk,os⟩:=s;obtain⟨hl1,hl2,h⟩:=h
  have hsub:=sub_zip
  have hL1:k1.src qp (Shared.heap ⟨hp,g,d,tk,os⟩):=hl1
  have hL2:k2.src its2 (Shared.heap ⟨hp.push k1.obj,g,d,tk,os⟩):=dO.push hl2 _
  wp_walk using dO.iter k1 hL1,dO.iter k2 hL2
  exact⟨_,rfl,h⟩
section
variable {prog:Program}{w:World}{A:Around}{E:Value->Shared->Prop}{s:Shared}
theorem Fw {k1 k2:dO}{qp its2:Array Value}{Q:Value->Shared->Prop}(hl1:k1.src qp s.heap)(hl2:k2.src its2 s.heap)
 (h:∀h',IsZip h' (s.heap.objs.size+4) (s.heap.objs.size+2) (s.heap.objs.size+3) .none->IsPair h' (s.heap.objs.size+2) (.ref s.heap.objs.size) (.ref (s.heap.objs.size+1))->
  IsPair h' (s.heap.objs.size+3) .none .none->h'.get? s.heap.objs.size=some k1.obj->h'.get? (s.heap.objs.size+1)=some k2.obj->h'.objs.size=s.heap.objs.size+5->
  (∀c o,s.heap.get? c=some o->h'.get? c=some o)->Q (.ref (s.heap.objs.size+4)) { s with heap:=h' }):
 wpAny (model prog w) A (call (.type "zip") [k1.val,k2.val]) Q E s:=by
 refine callType_new PySem.F.called_zip (by decide) (PySem.F.typeCall_zip_2 _ _) (PySem.F.newCall_zip_2 _ _) (λobj=>PySem.F.args_object_init_3 obj _ _) PySem.F.entry_zip_new
  (Cp k1 k2 qp its2) ⟨hl1,hl2,?_⟩
 have fr:∀k:dO,k.obj.isFreed=false:=λk=>by cases k<;>rfl
 show(∃o,(zS5 s.heap k1 k2).get? (zS4 s.heap k1 k2).objs.size=some o/\_)/\_
 unfold zS5 zS4 zS3 zS2 zS1
 generalize e1:s.heap.push k1.obj=g1
 have z1:g1.objs.size=s.heap.objs.size+1:=by rw[<-e1];exact Heap.size_push ..
 have p1:∀c o,s.heap.get? c=some o->g1.get? c=some o:=λc o x=>by rw[<-e1];exact Heap.get?_push_of_some _ x
 have q1:g1.get? s.heap.objs.size=some k1.obj:=by rw[<-e1];exact Heap.get?_push_size _ (fr k1)
 generalize e2:g1.push k2.obj=g2
 have z2:g2.objs.size=s.heap.objs.size+2:=by rw[<-e2,Heap.size_push,z1]
 have p2:∀c o,g1.get? c=some o->g2.get? c=some o:=λc o x=>by rw[<-e2];exact Heap.get?_push_of_some _ x
 have q2:g2.get? (s.heap.objs.size+1)=some k2.obj:=by rw[<-e2,<-z1];exact Heap.get?_push_size _ (fr k2)
 generalize e3:g2.push { cls:= .type "tuple",data:= .seq #[.ref s.heap.objs.size,.ref g1.objs.size] }=g3
 have z3:g3.objs.size=s.heap.objs.size+3:=by rw[<-e3,Heap.size_push,z2]
 have p3:∀c o,g2.get? c=some o->g3.get? c=some o:=λc o x=>by rw[<-e3];exact Heap.get?_push_of_some _ x
 have q3:IsPair g3 (s.heap.objs.size+2) (.ref s.heap.objs.size) (.ref (s.heap.objs.size+1)):=by
  show g3.get? _=_
  rw[<-e3,<-z2,<-z1];exact Heap.get?_push_size _ rfl
 generalize e4:g3.push { cls:= .type "tuple",data:= .seq #[.none,.none] }=g4
 have z4:g4.objs.size=s.heap.objs.size+4:=by rw[<-e4,Heap.size_push,z3]
 have p4:∀c o,g3.get? c=some o->g4.get? c=some o:=λc o x=>by rw[<-e4];exact Heap.get?_push_of_some _ x
 have q4:IsPair g4 (s.heap.objs.size+3) .none .none:=by
  show g4.get? _=_
  rw[<-e4,<-z3];exact Heap.get?_push_size _ rfl
 generalize e5:g4.push { cls:= .type "zip",data:= .fields #[.none,.bool false,.bool false,.ref g2.objs.size,.ref g3.objs.size] }=g5
 have z5:g5.objs.size=s.heap.objs.size+5:=by rw[<-e5,Heap.size_push,z4]
 have p5:∀c o,g4.get? c=some o->g5.get? c=some o:=λc o x=>by rw[<-e5];exact Heap.get?_push_of_some _ x
 have q5:IsZip g5 (s.heap.objs.size+4) (s.heap.objs.size+2) (s.heap.objs.size+3) .none:=by
  show g5.get? _=_
  rw[<-e5,<-z4,<-z2,<-z3];exact Heap.get?_push_size _ rfl
 rw[z4]
 exact⟨⟨_,q5,rfl⟩,h g5 q5 (p5 _ _ (p4 _ _ q3)) (p5 _ _ q4) (p5 _ _ (p4 _ _ (p3 _ _ (p2 _ _ q1)))) (p5 _ _ (p4 _ _ (p3 _ _ q2))) z5 λc o x=>p5 _ _ (p4 _ _ (p3 _ _ (p2 _ _ (p1 _ _ x))))⟩
end
inductive SK where
 |lst (a:Addr)
 |tup (a:Addr)
 |str (z:Str)
def SK.v:SK->V
 | .lst a=> .ref a
 | .tup a=> .ref a
 | .str z=> .str z
def SK.Im (t:Tok):SK->dO
 | .lst a=> .lst a
 | .tup a=> .tup a
 | .str z=> .str z t
def SK.oZ (K:Fg)(H:Hp)(xs:List V)(k:SK):Prop:=(k.Im 0).oZ K H xs
theorem SK.iC {K:Fg}{H:Hp}{xs:List V}{k:SK}{t:Tok}:(k.Im t).oZ K H xs↔k.oZ K H xs:=by cases k<;>exact Iff.rfl
theorem SK.rel {k:SK}{u:Value}(r:RelV k.v u):∃t,u=(k.Im t).val:=by
 cases k with
 |lst a=>cases r;exact⟨0,rfl⟩
 |tup a=>cases r;exact⟨0,rfl⟩
 |str z=>obtain⟨t,rfl⟩:=r;exact⟨t,rfl⟩
theorem dO.lt {k:dO}{its:Array Value}{h:Heap}{a:Addr}(x:k.src its h)(e:k.val= .ref a):a<h.objs.size:=by
 cases k with
 |lst b=>cases e;obtain⟨o,ho,_⟩:=x;exact Heap.lt_size ho
 |tup b=>cases e;obtain⟨o,ho,_⟩:=x;exact Heap.lt_size ho
 |str z t=>cases e
section
variable {X:Cx}{es:List Expr}{kt:Nat}{tp p pos:Pos}{a b:Expr}
def a1y (K:Fg)(ta:TA):TI:=λσ H R=>ta σ H λvs H1=>∃k1 k2:SK,vs=[k1.v,k2.v]/\(∃xs,k1.oZ K H1 xs)/\(∃ys,k2.oZ K H1 ys)/\∀t1 t2,R (Itz K (k1.Im t1) (k2.Im t2)) H1
theorem YT {ta:TA}(hg:Gl X "zip")(hm:X.mg "zip"=none)(ha:PA X [a,b] ta)(hs:starEach [a,b] X.env=(false,eval a X.env)::starEach [b] X.env:=by rfl)(hpl:(backTo pos (starEach [b] X.env)).any (·.1)=false:=by rfl):
 PI X (.Tuple es kt tp) (.Call (.Name "zip" p) [a,b] [] pos) (a1y X.K ta):=by
 intro pins s σ H R I h
 refine Call_ (tR I hg hm boot_zip (PyProof.Rows.callWith_type1 (iD (ha pos pins s σ H _ I h) λus s1 ⟨vs,H1,I1,r1,q1⟩=>?_) hs hpl))
 obtain⟨k1,k2,rfl,⟨xs,x1⟩,⟨ys,y1⟩,q⟩:=q1
 obtain⟨u1,u2,rfl,ru1,ru2⟩:=vals2 r1
 obtain⟨t1,rfl⟩:=SK.rel ru1
 obtain⟨t2,rfl⟩:=SK.rel ru2
 obtain⟨qp,z1,n1,_⟩:=dO.of I1 (SK.iC.mpr x1:(k1.Im t1).oZ X.K H1 xs)
 obtain⟨its2,z2,n2,_⟩:=dO.of I1 (SK.iC.mpr y1:(k2.Im t2).oZ X.K H1 ys)
 refine Fw z1 z2 λh' a1 a2 a3 a4 a5 a6 kk=>?_
 have I2:Inv X pins σ H1 { s1 with heap:=h' }:=I1.kept (t':=s1.toks) kk
 refine wpAny_pyIter_zip (s:={ s1 with heap:=h' }) a1 ?_
 have X7:∀a,(k1.Im t1).val= .ref a->a<s1.heap.objs.size:=λa e=>dO.lt z1 e
 have ZC:∀a,(k2.Im t2).val= .ref a->a<s1.heap.objs.size:=λa e=>dO.lt z2 e
 have nz:∀(j k:Nat),j≠k->s1.heap.objs.size+j≠s1.heap.objs.size+k:=λj k h z=>h (by omega)
 refine⟨s1.heap.objs.size+4,[s1.heap.objs.size+4,s1.heap.objs.size+2,s1.heap.objs.size+3,s1.heap.objs.size,s1.heap.objs.size+1],_,_,H1,rfl,I2,
  TY (k1.Im t1) (k2.Im t2) (s1.heap.objs.size+4) (s1.heap.objs.size+2) (s1.heap.objs.size+3) s1.heap.objs.size (s1.heap.objs.size+1) (nz _ _ (by decide)) (nz _ _ (by decide)) (nz 0 _ (by decide)) (nz _ _ (by decide)) (nz _ _ (by decide)) (nz _ 0 (by decide)) (nz _ _ (by decide)) (nz _ 0 (by decide)) (nz _ _ (by decide)) (nz 0 _ (by decide))
   (λa e=>?_) (λa e=>?_),⟨a1,a2,⟨_,_,a3⟩,dO.start a4,dO.start a5⟩,λb hb=>?_,q t1 t2⟩
 ·have:=X7 a e
  exact⟨Nat.ne_of_lt (Nat.lt_of_lt_of_le this (Nat.le_add_right _ _)),Nat.ne_of_lt (Nat.lt_of_lt_of_le this (Nat.le_add_right _ _)),Nat.ne_of_lt this,Nat.ne_of_lt (Nat.lt_of_lt_of_le this (Nat.le_add_right _ _))⟩
 ·have:=ZC a e
  exact⟨Nat.ne_of_lt (Nat.lt_of_lt_of_le this (Nat.le_add_right _ _)),Nat.ne_of_lt (Nat.lt_of_lt_of_le this (Nat.le_add_right _ _)),Nat.ne_of_lt this,Nat.ne_of_lt (Nat.lt_of_lt_of_le this (Nat.le_add_right _ _))⟩
 ·have hb':s1.heap.objs.size<=b:=by
   simp only[List.mem_cons,List.not_mem_nil,or_false]at hb
   rcases hb with rfl|rfl|rfl|rfl|rfl<;>omega
  exact I1.Pr hb' (I1.hok.fresh hb')
def chD (z:Str):List D:=z.cps.toList.map λc=> .str ⟨#[c]⟩
def yq:D->Option (List D)
 | .lst l=>some l
 | .tup l=>some l
 | .str z=>some (chD z)
 |_=>none
def skD:D->V->Option SK
 | .lst _,.ref a=>some (.lst a)
 | .tup _,.ref a=>some (.tup a)
 | .str z,_=>some (.str z)
 |_,_=>none
theorem yt {O:Addr->Prop}{K:Fg}{H:Hp}{d:D}{v:V}{l:List D}(h:Rep O K H d v)(e:yq d=some l):∃k,skD d v=some k/\k.v=v/\∃xs,k.oZ K H xs/\aV O K H l xs:=by
 cases d<;>simp only[yq]at e<;>try (cases e;done)
 case lst m=>
  cases e
  obtain⟨a,vs,rfl,h1,h2⟩:=h
  exact⟨.lst a,rfl,rfl,vs,qK.of h1.1,h2⟩
 case tup m=>
  cases e
  obtain⟨a,vs,rfl,h1,h2⟩:=h
  exact⟨.tup a,rfl,rfl,vs,h1,h2⟩
 case str z=>
  cases e
  cases h
  refine⟨.str z,rfl,rfl,_,rfl,?_⟩
  unfold chD
  have:∀l:List Nat,aV O K H (l.map λc=> .str ⟨#[c]⟩) (l.map λc=>V.str ⟨#[c]⟩):=λl=>by
   induction l with
   |nil=>rfl
   |cons c l ih=>exact⟨_,_,rfl,rfl,ih⟩
  exact this _
def vV (l m:List D):List D:=(l.zip m).map λp=> .tup [p.1,p.2]
theorem Ud {K:Fg}{d1 d2:D}{v1 v2:V}{l m:List D}{k1 k2:SK}(e1:yq d1=some l)(e2:yq d2=some m)(s1:skD d1 v1=some k1)(s2:skD d2 v2=some k2)(t1 t2:Tok):
 Walk K (vV l m) (Itz K (k1.Im t1) (k2.Im t2)) [(d1,v1),(d2,v2)]:=λH2 h=>by
 obtain⟨k1',q1,_,xs,x1,r1⟩:=yt (h (d1,v1) (by simp)) e1
 obtain⟨k2',q2,_,ys,y1,r2⟩:=yt (h (d2,v2) (by simp)) e2
 rw[s1]at q1
 rw[s2]at q2
 cases q1
 cases q2
 have n1:=r1.length
 have n2:=r2.length
 have nz:(vV l m).length=min l.length m.length:=by simp[vV]
 refine⟨λi hi=>⟨xs,ys,SK.iC.mpr x1,SK.iC.mpr y1,by omega,by omega⟩,⟨xs,ys,SK.iC.mpr x1,SK.iC.mpr y1,by omega⟩,λi x H3 hi y=>?_⟩
 obtain⟨p,x1',x2',hp,rfl,rfl,f1,f2⟩:=y
 refine⟨bQ hp,λO w hg=>?_⟩
 obtain⟨k1',q1,_,xs',a1,b1⟩:=yt (hg (d1,v1) (by simp)) e1
 obtain⟨k2',q2,_,ys',a2,b2⟩:=yt (hg (d2,v2) (by simp)) e2
 rw[s1]at q1
 rw[s2]at q2
 cases q1
 cases q2
 obtain⟨c1,g1,w1⟩:=b1.Pu (f1 xs' (SK.iC.mpr a1))
 obtain⟨c2,g2,w2⟩:=b2.Pu (f2 ys' (SK.iC.mpr a2))
 refine⟨.tup [c1,c2],?_,nR hp ⟨_,_,rfl,w1,aV.one w2⟩⟩
 unfold vV
 rw[List.getElem?_map,List.getElem?_zip_eq_some (z:=(c1,c2))|>.mpr ⟨g1,g2⟩]
 rfl
theorem Kw {Fs:aK->Option (List D)}(hg:Gl X "zip")(hm:X.mg "zip"=none)(ha:DQ X [a,b] Fs)(hs:starEach [a,b] X.env=(false,eval a X.env)::starEach [b] X.env:=by rfl)(hpl:(backTo pos (starEach [b] X.env)).any (·.1)=false:=by rfl):
 EI X (.Tuple es kt tp) (.Call (.Name "zip" p) [a,b] [] pos) (λρ=>(Fs ρ).bind λl=>match l with
  |[d1,d2]=>(yq d1).bind λl=>(yq d2).map λm=>(vV l m,[d1,d2])
  |_=>none):=have ha:=ha.1; .mk<|PI.imp (YT hg hm ha hs hpl) λσ H R ⟨O,ρ,ds,gs,w,r,e,q⟩=>by
 obtain⟨l,e1,e2⟩:=bind_some e
 split at e2
 ·rename_i d1 d2
  obtain⟨l1,e3,e4⟩:=bind_some e2
  cases e5:yq d2 with
  |none=>rw[e5]at e4;cases e4
  |some l2=>
   rw[e5]at e4
   cases e4
   refine⟨O,ρ,[d1,d2],w,r,e1,λvs H1 s1 r1=>?_⟩
   obtain⟨v,u,rfl,rv,ru⟩:=Nz r1
   obtain⟨k1,q1,f1,xs,x1,_⟩:=yt rv e3
   obtain⟨k2,q2,f2,ys,y1,_⟩:=yt ru e5
   exact⟨k1,k2,by rw[f1,f2],⟨xs,x1⟩,⟨ys,y1⟩,λt1 t2=>q _ H1 [(d1,v),(d2,u)] s1 rfl (λg hg=>by
    simp only[List.mem_cons,List.not_mem_nil,or_false]at hg
    rcases hg with rfl|rfl
    ·exact rv
    ·exact ru) (Ud e3 e5 q1 q2 t1 t2)⟩
 ·cases e2
end
abbrev eS1 (h:Heap)(k:dO):Heap:=h.push k.obj
abbrev eS2 (h:Heap)(k:dO):Heap:=(eS1 h k).push { cls:= .type "enumerate",data:= .fields #[.none,.bool false,.ref h.objs.size,rawInt 0,.none,.none] }
theorem zZ (k:dO)(its:Array Value):
 Meets (Builtin.«enumerate.__new__» ⟨[.type "enumerate",k.val],[]⟩) (λ_ R s=>k.src its s.heap/\R (.ok (.ret (.ref (eS1 s.heap k).objs.size))) { s with heap:=eS2 s.heap k }):=
 .of_wp λprog w A R s h=>by
  obtain⟨hp,g,d,tk,os⟩:=s
  obtain⟨hl,h⟩:=h
  have hL:k.src its (Shared.heap ⟨hp,g,d,tk,os⟩):=hl
  have hsub:=sub_enumerate
  wp_walk
  refine wpAny_stack_any λst=>wpAny_pure ?_
  split
  ·rename_i c _ _ _ _ _
   cases(c==Value.type "enumerate")
   ·wp_walk using dO.iter k hL
    exact⟨_,rfl,h⟩
   ·wp_walk using dO.iter k hL
    exact⟨_,rfl,h⟩
  ·wp_walk using dO.iter k hL
   exact⟨_,rfl,h⟩
section
variable {prog:Program}{w:World}{A:Around}{E:Value->Shared->Prop}{s:Shared}
theorem Kr {k:dO}{its:Array Value}{Q:Value->Shared->Prop}(hl:k.src its s.heap)
 (h:∀h',IsEnum h' (s.heap.objs.size+1) s.heap.objs.size 0 .none->h'.get? s.heap.objs.size=some k.obj->(∀b o,s.heap.get? b=some o->h'.get? b=some o)->Q (.ref (s.heap.objs.size+1)) { s with heap:=h' }):
 wpAny (model prog w) A (call (.type "enumerate") [k.val]) Q E s:=by
 refine callType_new PySem.F.called_enumerate (by decide) (PySem.F.typeCall_enumerate_1 _) (PySem.F.newCall_enumerate_1 _) (λobj=>PySem.F.args_object_init_2 obj _) PySem.F.entry_enumerate_new
  (zZ k its) ⟨hl,?_⟩
 have fr:k.obj.isFreed=false:=by cases k<;>rfl
 show(∃o,(eS2 s.heap k).get? (eS1 s.heap k).objs.size=some o/\_)/\_
 unfold eS2 eS1
 generalize e1:s.heap.push k.obj=g1
 have z1:g1.objs.size=s.heap.objs.size+1:=by rw[<-e1];exact Heap.size_push ..
 have p1:∀c o,s.heap.get? c=some o->g1.get? c=some o:=λc o x=>by rw[<-e1];exact Heap.get?_push_of_some _ x
 have q1:g1.get? s.heap.objs.size=some k.obj:=by rw[<-e1];exact Heap.get?_push_size _ fr
 generalize e2:g1.push { cls:= .type "enumerate",data:= .fields #[.none,.bool false,.ref s.heap.objs.size,rawInt 0,.none,.none] }=g2
 have p2:∀c o,g1.get? c=some o->g2.get? c=some o:=λc o x=>by rw[<-e2];exact Heap.get?_push_of_some _ x
 have q2:IsEnum g2 (s.heap.objs.size+1) s.heap.objs.size 0 .none:=by
  show g2.get? _=_
  rw[<-e2,<-z1];exact Heap.get?_push_size _ rfl
 rw[z1]
 exact⟨⟨_,q2,rfl⟩,h g2 q2 (p2 _ _ q1) λc o x=>p2 _ _ (p1 _ _ x)⟩
end
section
variable {X:Cx}
def Ite (K:Fg)(k:dO):It:=
 ⟨λi H=>∃xs,k.oZ K H xs/\i<xs.length,
  λi H x H'=>∃p x1,H p=none/\x= .ref p/\H'=upd H p (.tup [.int (i:Nat),x1])/\∀xs,k.oZ K H xs->xs[i]?=some x1,
  λi H=>∃xs,k.oZ K H xs/\i=xs.length⟩
theorem Qw {P:Program}{w:World}{K:Fg}{es:List Expr}{kt:Nat}{tp:Pos}(k:dO)(e it:Addr)(d1:e≠it)(h1:∀a,k.val= .ref a->a≠e/\a≠it):
 Turn P w K (.Tuple es kt tp) (Ite K k) [e,it] e (λi h=>(∃old,IsEnum h e it i old)/\k.tn it i h) where
 mem:=by simp
 obj:=λi h st b hb=>by
  obtain⟨⟨old,he⟩,t1⟩:=st
  simp only[List.mem_cons,List.not_mem_nil,or_false]at hb
  rcases hb with rfl|rfl
  ·exact⟨_,he,λv q=>by cases q⟩
  ·exact dO.live t1
 keep:=λi h h' st f=>by
  obtain⟨⟨old,he⟩,t1⟩:=st
  exact⟨⟨old,f e (by simp) _ he⟩,dO.keep t1 λo q=>f it (by simp) o q⟩
 item:=by
  intro X hP hw hK hc i pins s σ H E I hf st hg
  subst hP hw hK
  obtain⟨⟨old,he⟩,t1⟩:=st
  obtain⟨xs,q1,l1⟩:=hg
  obtain⟨qp,r1,n1,p1⟩:=dO.of I q1
  have hh:X.A.in1.handled=none:=I.ok.hd hc
  obtain⟨S1,D1,a1,b1⟩:=dO.draws (prog:=X.prog) (w:=X.w) hh k it qp (λa e=>(h1 a e).2) ⟨_,r1⟩
  have hef:e∉k.fp it:=by
   cases k<;>simp only[dO.fp,List.mem_cons,List.not_mem_nil,or_false,not_or]<;>first|exact⟨d1,(h1 _ rfl).1.symm⟩|exact d1
  refine wpAny_pyNext_enum_itemD D1 he (a1 _ _ t1 r1) (by omega) d1 hef λx h' tk e1 z1 z2 z3 z4 kk=>⟨_,rfl,?_⟩
  obtain⟨x1,u1,v1⟩:=p1 i x e1
  have elt:e≠s.heap.objs.size:=Nat.ne_of_lt (Heap.lt_size he)
  refine wpAny_letOwnedTupleGo_enum (s:={ s with heap:=h',toks:=tk+1 }) z1 λh2' y1 y2=>?_
  replace y2:Heap.SameBut e h' h2':=y2
  have fin:Inv X pins σ (upd H s.heap.objs.size (.tup [.int (i:Nat),x1])) { s with heap:=h2',toks:=tk+1 }:=by
   refine Inv.O8 (us:=[.int i tk,x]) (ch:=[e,it]) I rfl (λb o hb q=>?_) hf (λb hb=>?_) ⟨_,y2.extBut _ _ (Ne.symm elt) z3,rfl,⟨_,rfl⟩,rfl⟩ (.cons ⟨tk,rfl⟩ (.cons v1 .nil)) (by show 2<=sizeLine;decide)
   ·simp only[List.mem_cons,List.not_mem_nil,or_false,not_or]at hb
    exact y2.extBut b o hb.1 (kk b o hb.1 hb.2 q)
   ·simp only[List.mem_cons,List.not_mem_nil,or_false]at hb
    rcases hb with rfl|rfl
    ·exact⟨_,y1⟩
    ·obtain⟨o,q,_⟩:=dO.live (b1 _ _ z2)
     exact⟨o,y2.extBut _ _ d1.symm q⟩
  refine⟨.ref s.heap.objs.size,_,fin,rfl,⟨_,x1,I.hok.fresh (Nat.le_refl _),rfl,rfl,λxs' q=>by rw[dO.Dr I q q1];exact u1⟩,
   ⟨⟨x,by simpa using y1⟩,dO.keep (b1 _ _ z2) λo q=>y2.extBut _ _ d1.symm q⟩,λb hb=>?_⟩
  rw[bY ?_]
  ·exact(hf b hb).1
  ·have hobj:∃o,s.heap.get? b=some o:=by
    simp only[List.mem_cons,List.not_mem_nil,or_false]at hb
    rcases hb with rfl|rfl
    ·exact⟨_,he⟩
    ·obtain⟨o,q,_⟩:=dO.live t1;exact⟨o,q⟩
   obtain⟨o,q⟩:=hobj
   exact Nat.ne_of_lt (Heap.lt_size q)
 done:=by
  intro X hP hw hK hc i pins s σ H E I hf st hg
  subst hP hw hK
  obtain⟨⟨old,he⟩,t1⟩:=st
  obtain⟨xs,q1,rfl⟩:=hg
  obtain⟨qp,r1,n1,p1⟩:=dO.of I q1
  have hh:X.A.in1.handled=none:=I.ok.hd hc
  obtain⟨S1,D1,a1,b1⟩:=dO.draws (prog:=X.prog) (w:=X.w) hh k it qp (λa e=>(h1 a e).2) ⟨_,r1⟩
  refine wpAny_pyNext_enum_endD D1 he (by rw[n1];exact a1 _ _ t1 r1) λh' kk=>⟨rfl,?_⟩
  refine Inv.Bf (t':=s.toks) (ch:=[e,it]) I (λb o hb q=>?_) hf
  simp only[List.mem_cons,List.not_mem_nil,or_false,not_or]at hb
  exact kk b o hb.2 q
 self:=λ_ _ _ _ _ st h=>wpAny_pyIter_enum st.1.choose_spec h
def a0l (K:Fg)(ta:TA):TI:=λσ H R=>ta σ H λvs H1=>∃k:SK,vs=[k.v]/\(∃xs,k.oZ K H1 xs)/\∀t,R (Ite K (k.Im t)) H1
variable {es:List Expr}{kt:Nat}{tp p pos:Pos}{a:Expr}
theorem Oq:bootBuiltins "enumerate"=some (.type "enumerate"):=by decide+kernel
theorem W2 {ta:TA}(hg:Gl X "enumerate")(hm:X.mg "enumerate"=none)(ha:PA X [a] ta)(hs:starEach [a] X.env=(false,eval a X.env)::starEach [] X.env:=by rfl)(hpl:(backTo pos (starEach [] X.env)).any (·.1)=false:=by rfl):
 PI X (.Tuple es kt tp) (.Call (.Name "enumerate" p) [a] [] pos) (a0l X.K ta):=by
 intro pins s σ H R I h
 refine Call_ (tR I hg hm Oq (PyProof.Rows.callWith_type1 (iD (ha pos pins s σ H _ I h) λus s1 ⟨vs,H1,I1,r1,q1⟩=>?_) hs hpl))
 obtain⟨k1,rfl,⟨xs,x1⟩,q⟩:=q1
 obtain⟨u1,rfl,ru1⟩:=vals1 r1
 obtain⟨t1,rfl⟩:=SK.rel ru1
 obtain⟨qp,z1,n1,_⟩:=dO.of I1 (SK.iC.mpr x1:(k1.Im t1).oZ X.K H1 xs)
 refine Kr z1 λh' a1 a4 kk=>?_
 have I2:Inv X pins σ H1 { s1 with heap:=h' }:=I1.kept (t':=s1.toks) kk
 refine wpAny_pyIter_enum (s:={ s1 with heap:=h' }) a1 ?_
 have X7:∀a,(k1.Im t1).val= .ref a->a<s1.heap.objs.size:=λa e=>dO.lt z1 e
 refine⟨s1.heap.objs.size+1,[s1.heap.objs.size+1,s1.heap.objs.size],_,_,H1,rfl,I2,
  Qw (k1.Im t1) (s1.heap.objs.size+1) s1.heap.objs.size (Nat.ne_of_gt (Nat.lt_succ_self _)) (λa e=>?_),⟨⟨_,a1⟩,dO.start a4⟩,λb hb=>?_,q t1⟩
 ·have:=X7 a e
  exact⟨Nat.ne_of_lt (Nat.lt_of_lt_of_le this (Nat.le_add_right _ _)),Nat.ne_of_lt this⟩
 ·have hb':s1.heap.objs.size<=b:=by
   simp only[List.mem_cons,List.not_mem_nil,or_false]at hb
   rcases hb with rfl|rfl
   ·exact Nat.le_succ _
   ·exact Nat.le_refl _
  exact I1.Pr hb' (I1.hok.fresh hb')
def j7 (i:Nat):List D->List D
 |[]=>[]
 |d::l=> .tup [.int (i:Nat),d]::j7 (i+1) l
theorem qT:∀(i:Nat) (l:List D),(j7 i l).length=l.length
 |_,[]=>rfl
 |i,d::l=>by simp[j7,qT (i+1) l]
theorem FP:∀{l:List D}{i j:Nat}{d:D},l[j]?=some d->(j7 i l)[j]?=some (.tup [.int ((i+j:Nat):Int),d])
 |[],_,_,_,h=>by simp at h
 |x::l,i,0,d,h=>by simp at h;subst h;rfl
 |x::l,i,j+1,d,h=>by
  have:=FP (l:=l) (i:=i+1) (j:=j) (d:=d) (by simpa using h)
  show(j7 (i+1) l)[j]?=_
  rw[this]
  congr 4
  omega
theorem QC {K:Fg}{d1:D}{v1:V}{l:List D}{k1:SK}(e1:yq d1=some l)(s1:skD d1 v1=some k1)(t1:Tok):Walk K (j7 0 l) (Ite K (k1.Im t1)) [(d1,v1)]:=λH2 h=>by
 obtain⟨k1',q1,_,xs,x1,r1⟩:=yt (h (d1,v1) (by simp)) e1
 rw[s1]at q1
 cases q1
 have n1:=r1.length
 refine⟨λi hi=>⟨xs,SK.iC.mpr x1,by rw[qT]at hi;omega⟩,⟨xs,SK.iC.mpr x1,by rw[qT];exact n1⟩,λi x H3 hi y=>?_⟩
 obtain⟨p,x1',hp,rfl,rfl,f1⟩:=y
 refine⟨bQ hp,λO w hg=>?_⟩
 obtain⟨k1',q1,_,xs',a1,b1⟩:=yt (hg (d1,v1) (by simp)) e1
 rw[s1]at q1
 cases q1
 obtain⟨c1,g1,w1⟩:=b1.Pu (f1 xs' (SK.iC.mpr a1))
 exact⟨_,FP g1,nR hp ⟨_,_,rfl,by rw[Nat.zero_add];rfl,aV.one w1⟩⟩
theorem MF {F:aK->Option D}(hg:Gl X "enumerate")(hm:X.mg "enumerate"=none)(ha:ED X a F)(hs:starEach [a] X.env=(false,eval a X.env)::starEach [] X.env:=by rfl)(hpl:(backTo pos (starEach [] X.env)).any (·.1)=false:=by rfl):
 EI X (.Tuple es kt tp) (.Call (.Name "enumerate" p) [a] [] pos) (λρ=>(F ρ).bind λd=>(yq d).map λl=>(j7 0 l,[d])):=have ha:=ha.1; .mk<|PI.imp (W2 hg hm (ak ⟨ha⟩ au hs).1 hs hpl) λσ H R ⟨O,ρ,ds,gs,w,r,e,q⟩=>by
 obtain⟨d1,e1,e2⟩:=bind_some e
 cases e5:yq d1 with
 |none=>rw[e5]at e2;cases e2
 |some l=>
  rw[e5]at e2
  cases e2
  refine⟨O,ρ,[d1],w,r,by simp only[e1];rfl,λvs H1 s1 r1=>?_⟩
  obtain⟨v,rfl,rv⟩:=jk r1
  obtain⟨k1,q1,f1,xs,x1,_⟩:=yt rv e5
  exact⟨k1,by rw[f1],⟨xs,x1⟩,λt1=>q _ H1 [(d1,v)] s1 rfl (λg hg=>by rw[List.mem_singleton.mp hg];exact rv) (QC e5 q1 t1)⟩
end
section
variable {X:Cx}
theorem Er (l:Addr)(o:Obj)(items:Array Value)(n:Nat)(hc:o.cls= .type "tuple")(hd:o.data= .seq items n)(x:Value)(e:Value->Bool)(j:Nat)(hj:j<items.size)
 (hit:e items[j]=true)(hno:∀m (hm:m<items.size),m<j->e items[m]=false):
 Meets (Builtin.«tuple.index» ⟨[.ref l,x],[]⟩)
  (λA R s=>s.heap.get? l=some o/\(∀y,y∈items->SeqAt.EqAt A.in1 s y x (e y))/\R (.ok (.ret (.int j s.toks))) { s with toks:=s.toks+1 }):=by
 intro prog w A R s h
 obtain⟨hp,g,d,tk,os⟩:=s;obtain⟨hl,he,h⟩:=h
 obtain⟨ocls,odict,odata,oslots⟩:=o
 simp only at hc hd
 subst hc;subst hd
 wp_walk using AutoSeq1.wpAny_loadPart' hl
 show wpAny _ _ (forIn ([0:min items.size items.size]:Std.Legacy.Range) ((none,()):Option Fin×Unit) λi (_:Option Fin×Unit)=>_) _ _ _
 rw[Std.Legacy.Range.forIn_eq_forIn_range',Nat.min_self]
 simp only[Std.Legacy.Range.size,Nat.sub_zero,Nat.add_sub_cancel,Nat.div_one]
 refine wpAny_forIn_list _ (λrest b s'=>∃i,rest=List.range' i (items.size - i)/\i<=j/\b=(none,())/\s'={ heap:=hp,gens:=g,drawn:=d,toks:=tk,os:=os }) _ ?_ ?_ _ _ ⟨0,by simp,Nat.zero_le _,rfl,rfl⟩
 ·rintro i' rest b s' ⟨i,hr,hij,rfl,rfl⟩
  obtain⟨rfl,hrest⟩:i'=i/\rest=List.range' (i+1) (items.size - (i+1)):=by
   have e:items.size - i=(items.size - (i+1))+1:=by omega
   rw[e,List.range'_succ]at hr
   injection hr with h1 h2
   exact⟨h1,h2⟩
  have hlt:i'<items.size:=by omega
  rw[Array.getElem?_eq_getElem hlt]
  refine wpAny_bind (he _ (Array.getElem_mem hlt) prog w _ _ ?_)
  by_cases hi:i'=j
  ·subst hi
   rw[hit]
   wp_walk
   exact h
  ·rw[hno i' hlt (by omega)]
   wp_walk
   exact⟨i'+1,hrest,by omega,rfl,rfl⟩
 ·rintro b s' ⟨i,hr,hij,rfl,rfl⟩
  have e:items.size - i=(items.size - (i+1))+1:=by omega
  rw[e,List.range'_succ]at hr
  cases hr
def Ny (K:Fg):V->List V->Hp->VK->Prop:=λx xs H Q=>∃(O:Addr->Prop) (l:List D) (y:D) (v:V) (j:Nat),xs=[v]/\Rep O K H (.tup l) x/\Rep O K H y v/\Qo y l=true/\Jl y l=some j/\Q (.int (j:Nat)) H
theorem Q7 (hu:X.A.units+66<cLine):Om X "tuple.index" (Ny X.K):=by
 intro pins s σ H x xs v us Q I rx rs h
 obtain⟨O,l,y,w,j,rfl,rl,ry,hs,hj,q⟩:=h
 unfold Qo at hs
 rw[Bool.and_eq_true]at hs
 obtain⟨u,rfl,ru⟩:=vals1 rs
 obtain⟨a,vs,rfl,h1,h2⟩:=rl
 cases rx
 obtain⟨its,rv,⟨o,ho,hc,n,hd⟩,hz⟩:=I.tuple h1
 obtain⟨q1,q2⟩:=BZ (A:=X.A) I hs.2 hs.1 h2 rv ry ru hu
 have hlen:its.length=l.length:=by rw[<-rv.length,<-h2.length]
 obtain⟨hlt,hit,hno⟩:=List.findIdx?_eq_some_iff_getElem.mp hj
 have at_:∀(m:Nat) (hm:m<its.length),Bv s.heap y its[m]=sr (l[m]'(by omega)) y:=λm hm=>by
  have e:=congrArg (λr=>r[m]?) q2
  simp only[List.getElem?_map]at e
  rw[List.getElem?_eq_getElem hm,List.getElem?_eq_getElem (by omega)]at e
  exact Option.some.inj e
 refine call_meets PySem.F.slot_tuple_index ⟨_,ho,hc⟩ PySem.F.entry_tuple_index (PySem.F.args_tuple_index_2 _ _) (Er a o its.toArray n hc hd u (Bv s.heap y) j (by rw[List.size_toArray];omega)
  (by have:=at_ j (by omega);simp only[List.getElem_toArray];rw[this];exact hit) λm hm hmj=>?_) ⟨ho,q1,⟨.int _,H,I.tok _,⟨_,rfl⟩,q⟩⟩
 rw[List.size_toArray]at hm
 have:=at_ m hm
 simp only[List.getElem_toArray]
 rw[this]
 exact Bool.eq_false_iff.mpr (hno m hmj)
def Am:D->List D->Option D
 | .tup l,[y]=>if Qo y l=true then(Jl y l).map λj=> .int (j:Nat)else none
 |_,_=>none
theorem LR {K:Fg}:WK K (Ny K) Am:=by
 intro O H x xs dx l d Q w rx rs e q
 unfold Am at e
 split at e
 ·split at e
  ·rename_i l' y hz
   cases e1:Jl y l' with
   |none=>rw[e1]at e;cases e
   |some j=>
    rw[e1]at e
    cases e
    obtain⟨v,rfl,rv⟩:=jk rs
    exact⟨O,_,_,v,j,rfl,rx,rv,hz,e1,q _ H (bV.refl H) rfl⟩
  ·cases e
 ·cases e
def GP:List D->Option (List Bool)
 |[]=>some []
 | .bl b::l=>(GP l).map λr=>b::r
 |_=>none
def Jj:List D->Option (List Int)
 |[]=>some []
 | .int b::l=>(Jj l).map λr=>b::r
 |_=>none
theorem Mt {O:Addr->Prop}{K:Fg}{H:Hp}:∀{l:List D}{xs:List Bool}{vs:List V}{us:List Value},GP l=some xs->aV O K H l vs->Vals vs us->us=xs.map Value.bool
 |[],_,_,_,e,h,r=>by cases e;cases h;cases r;rfl
 | .bl x::l,_,_,_,e,h,r=>by
   obtain⟨v,vs,rfl,h1,h2⟩:=h
   cases h1
   simp only[GP]at e
   cases e1:GP l with
   |none=>rw[e1]at e;cases e
   |some xs=>
    rw[e1]at e
    cases e
    cases r with
    |cons r1 r2=>
     cases r1
     rw[Mt e1 h2 r2]
     rfl
theorem N7 {O:Addr->Prop}{K:Fg}{H:Hp}:∀{l:List D}{xs:List Int}{vs:List V}{us:List Value},Jj l=some xs->aV O K H l vs->Vals vs us->IntsAre us xs
 |[],_,_,_,e,h,r=>by cases e;cases h;cases r;exact .nil
 | .int x::l,_,_,_,e,h,r=>by
   obtain⟨v,vs,rfl,h1,h2⟩:=h
   cases h1
   simp only[Jj]at e
   cases e1:Jj l with
   |none=>rw[e1]at e;cases e
   |some xs=>
    rw[e1]at e
    cases e
    cases r with
    |cons r1 r2=>
     obtain⟨t,rfl⟩:=r1
     exact .cons x t (N7 e1 h2 r2)
def a0G (K:Fg):List V->Hp->VK->Prop:=λxs H Q=>∃(O:Addr->Prop) (l:List D) (v:V) (bs:List Bool),xs=[v]/\Rep O K H (.lst l) v/\GP l=some bs/\Q (.bl (bs.all id)) H
theorem Ov (hc:X.calm=true):jO X (.builtin "all") (a0G X.K):=by
 intro pins s σ H xs us Q I r h
 obtain⟨O,l,v,bs,rfl,rl,eb,q⟩:=h
 obtain⟨u,rfl,ru⟩:=vals1 r
 obtain⟨a,vs,rfl,h1,h2⟩:=rl
 cases ru
 obtain⟨its,rv,pl,_⟩:=I.list (qK.of h1.1)
 have hl:=pl.isList
 have eu:=Mt eb h2 rv
 subst eu
 have hlt:a<s.heap.objs.size:=by obtain⟨_,e,_⟩:=hl;exact Heap.lt_size e
 refine call_all_walk (wpAny_pyIter_list hl ?_)
 refine⟨s.heap.objs.size,[s.heap.objs.size,a],[s.heap.objs.size],_,_,_,λi=>(bs[i]?).getD true,rfl,Walks.list (A:=X.A.in1) (I.ok.hd hc) _ a (Nat.ne_of_lt hlt) _,
  ⟨⟨_,Heap.get?_push_size _ rfl,rfl,rfl⟩,hl.push _⟩,λi v s' Q' E' hP hQ=>?_,λh' tk hk=>?_⟩
 ·have hP':(bs.map Value.bool)[i]?=some v:=by simpa using hP
  rw[List.getElem?_map]at hP'
  cases e:bs[i]? with
  |none=>rw[e]at hP';cases hP'
  |some b=>
   rw[e]at hP'
   cases hP'
   simp only[e,Option.getD_some]at hQ
   exact wpAny_truthy_bool hQ
 ·have e:((List.range (bs.map Value.bool).toArray.size).all λi=>(bs[i]?).getD true)=bs.all id:=by
   rw[List.size_toArray,List.length_map];exact LSm.range_all bs
  rw[e]
  exact⟨.bl _,H,Inv.Bf (s:=s) (t':=tk) (h':=h') (ch:=[]) I (λb o _ q=>LSm.kept_iter hk b o q) (λb hb=>by cases hb),rfl,q⟩
def R5:List D->Option D
 |[.lst l]=>(GP l).map λbs=> .bl (bs.all id)
 |_=>none
theorem Vz {K:Fg}:vA K (a0G K) R5:=by
 intro O H xs l d Q w h e q
 unfold R5 at e
 split at e
 ·rename_i l'
  cases e1:GP l' with
  |none=>rw[e1]at e;cases e
  |some bs=>
   rw[e1]at e
   cases e
   obtain⟨v,rfl,h1⟩:=jk h
   exact⟨O,_,v,bs,rfl,h1,e1,q _ H (bV.refl H) rfl⟩
 ·cases e
def Q5:List Int->Option Int
 |[]=>none
 |a::l=>some (l.foldl max a)
theorem Vp:∀{ns:List Int}{M:Int},M∈ns->(∀a,a∈ns->a<=M)->Q5 ns=some M:=by
 intro ns M hm hle
 cases ns with
 |nil=>cases hm
 |cons a l=>
  have key:∀(l:List Int) (a:Int),(M=a\/M∈l)->a<=M->(∀b∈l,b<=M)->l.foldl max a=M:=by
   intro l
   induction l with
   |nil=>intro a h _ _;rcases h with h|h
         ·exact h.symm
         ·cases h
   |cons b l ih=>
    intro a h ha hl
    simp only[List.foldl_cons]
    have hb:=hl b (List.mem_cons_self)
    refine ih (max a b) ?_ (by omega) λc hc=>hl c (List.mem_cons_of_mem _ hc)
    rcases h with h|h
    ·left;omega
    ·rcases List.mem_cons.mp h with h|h
     ·left;omega
     ·right;exact h
  simp only[Q5,Option.some.injEq]
  exact key l a (by rcases List.mem_cons.mp hm with h|h<;>simp[h]) (hle a List.mem_cons_self) λb hb=>hle b (List.mem_cons_of_mem _ hb)
def Xh (K:Fg):List V->Hp->VK->Prop:=λxs H Q=>∃(O:Addr->Prop) (l:List D) (v:V) (ns:List Int) (m:Int),xs=[v]/\Rep O K H (.lst l) v/\Jj l=some ns/\Q5 ns=some m/\Q (.int m) H
theorem Ow (hc:X.calm=true):jO X (.builtin "max") (Xh X.K):=by
 intro pins s σ H xs us Q I r h
 obtain⟨O,l,v,ns,m,rfl,rl,eb,em,q⟩:=h
 obtain⟨u,rfl,ru⟩:=vals1 r
 obtain⟨a,vs,rfl,h1,h2⟩:=rl
 cases ru
 obtain⟨its,rv,pl,_⟩:=I.list (qK.of h1.1)
 have hl:=pl.isList
 have hi:=N7 eb h2 rv
 have hne:0<ns.length:=by
  cases ns with
  |nil=>cases em
  |cons _ _=>simp
 obtain⟨xs,e⟩:=hi.allInts.items
 have hns:ns=xs.toList.map (·.1):=by
  rw[<-hi.numsOf,<-nums_intItems,<-e]
 have hsz:0<xs.size:=by
  have h3:=hne;rw[hns,List.length_map,Array.length_toList]at h3;exact h3
 rw[e]at hl
 refine max_intList (I.ok.hd hc) hl hsz λv h' tk hv hk=>?_
 obtain⟨t,rfl⟩:=intItems_at hv
 obtain⟨h1,h2⟩:=argBest_gt (numAt xs) (xs.size - 1)
 have e3:=Vp (ns:=ns) (M:=numAt xs (argBest (λi j=>decide (numAt xs i>numAt xs j)) (xs.size - 1))) (by rw[hns,numAt_eq];exact getD_mem (by rw[List.length_map,Array.length_toList];omega)) λa ha=>by
  rw[hns]at ha
  obtain⟨j,hj,rfl⟩:=mem_getD ha
  rw[List.length_map,Array.length_toList]at hj
  rw[<-numAt_eq];exact h2 j (by omega)
 rw[em]at e3
 have e4:=Option.some.inj e3
 exact⟨.int m,H,Inv.Bf (ch:=[]) I (λb o _ q=>hk b o q) (λb hb=>by cases hb),⟨t,by rw[e4]⟩,q⟩
def vZ:List D->Option D
 |[.lst l]=>(Jj l).bind λns=>(Q5 ns).map .int
 |_=>none
theorem Sh {K:Fg}:vA K (Xh K) vZ:=by
 intro O H xs l d Q w h e q
 unfold vZ at e
 split at e
 ·rename_i l'
  obtain⟨ns,e1,e⟩:=bind_some e
  cases e2:Q5 ns with
  |none=>rw[e2]at e;cases e
  |some m=>
   rw[e2]at e
   cases e
   obtain⟨v,rfl,h1⟩:=jk h
   exact⟨O,_,v,ns,m,rfl,h1,e1,e2,q _ H (bV.refl H) rfl⟩
 ·cases e
end
def DP (l:List Key)(v:Key):Bool:=l.any λx=>decide (x=v)
theorem wJ {l:List Key}{v:Key}:DP l v=true↔v∈l:=by
 unfold DP
 rw[List.any_eq_true]
 constructor
 ·rintro⟨x,h,e⟩
  rw[<-of_decide_eq_true e];exact h
 ·intro h
  exact⟨v,h,decide_eq_true rfl⟩
def sZ (l:List Key)(v:Key):List Key:=if DP l v=true then l else l++[v]
def dedup (l:List Key):List Key:=l.foldl sZ []
theorem Li {l:List Key}{v k:Key}:DP (sZ l v) k=(DP l k||decide (k=v)):=by
 rw[Bool.eq_iff_iff,wJ,Bool.or_eq_true,wJ,decide_eq_true_iff]
 unfold sZ
 split
 ·rename_i h
  rw[wJ]at h
  constructor
  ·exact .inl
  ·rintro(h'|rfl)
   ·exact h'
   ·exact h
 ·simp
theorem K6 {prog:Program}{w:World}{h:Heap}{a:Addr}{S S':Key->Bool}{n n':Nat}(hS:h.SetOf (bO prog w) a S n)(e:∀k,S k=S' k)(en:n=n'):h.SetOf (bO prog w) a S' n':=by
 have:S=S':=funext e
 subst this;subst en;exact hS
theorem Br (l:List Key){i:Nat}{k:Key}(h:l[i]?=some k):dedup (l.take (i+1))=sZ (dedup (l.take i)) k:=by
 unfold dedup
 rw[List.take_add_one,h]
 simp[List.foldl_append]
theorem Bq (l:List Key)(v:Key):(sZ l v).length=if DP l v=true then l.length else l.length+1:=by
 unfold sZ
 by_cases h:DP l v=true<;>simp[h]
theorem Pg:∀(l:List Key),(dedup l).length<=l.length:=by
 have key:∀(l acc:List Key),(l.foldl sZ acc).length<=acc.length+l.length:=by
  intro l
  induction l with
  |nil=>intro acc;simp
  |cons a l ih=>
   intro acc
   have:=ih (sZ acc a)
   have h2:=Bq acc a
   simp only[List.foldl_cons,List.length_cons]
   split at h2<;>omega
 intro l
 have:=key l []
 simpa[dedup]using this
section
variable {prog:Program}{w:World}{A:Around}{R:Result->Shared->Prop}{I:Addr}{fp wr:List Addr}{G:Array GenState->Array GenState->Prop}{n:Nat}{P:Nat->Value->Prop}{St:Nat->Shared->Prop}
theorem yX (W:WalksS prog w A.in1 I fp wr G n P St)(S:Addr)(hSf:S∉fp)(ks:List Key)(hn:n=ks.length)
 (hval:∀i v,P i v->∃k,ks[i]?=some k/\(bO prog w).is k v=true/\v.scannable=true)(hb:n+1<scanBound):
 ∀(k i:Nat) (s:Shared),n - i=k->i<=n->St i s->
  s.heap.SetOf (bO prog w) S (λk'=>DP (dedup (ks.take i)) k') (dedup (ks.take i)).length->
  (∀s',Moved (S::wr) G s s'->s'.heap.SetOf (bO prog w) S (λk'=>DP (dedup ks) k') (dedup ks).length->R (.ok (.ret .none)) s')->
  codeAny (model prog w) A (.builtin "set.update.loop" ⟨[.ref S,.ref I],[]⟩) R s:=by
 have hSw:S∉wr:=λh=>hSf (W.sub _ h)
 have hsub:∀b∈wr,b∈S::wr:=λb hb=>List.mem_cons_of_mem _ hb
 intro k
 induction k with
 |zero=>
  intro i s hk hi hst hS hR
  have hin:i=n:=by omega
  subst hin
  refine codeAny_builtin PyProof.Rows.F.entry_set_update_loop ?_
  rw[Around.under_plainId PyProof.Rows.F.plain_set_update_loop _]
  show wpAny _ A.in1 (pyNext (.ref I)>>=_) _ _ s
  refine wpAny_bind (W.done s _ _ hst λs' hm=>?_)
  show wpAny _ A.in1 (ret Value.none) _ _ s'
  rw[List.take_of_length_le (by omega)]at hS
  exact wpAny_pure (hR s' (hm.mono hsub) (by
   obtain⟨o,es,ep,t,ho,rest⟩:=hS
   exact⟨o,es,ep,t,hm.heap S _ hSw ho,rest⟩))
 |succ k ih=>
  intro i s hk hi hst hS hR
  have hlt:i<n:=by omega
  refine codeAny_builtin PyProof.Rows.F.entry_set_update_loop ?_
  rw[Around.under_plainId PyProof.Rows.F.plain_set_update_loop _]
  show wpAny _ A.in1 (pyNext (.ref I)>>=_) _ _ s
  refine wpAny_bind (W.item i s _ _ hlt hst λv s' hP hst' hm=>?_)
  obtain⟨key,hkey,a0g,hsc⟩:=hval i v hP
  have hS':s'.heap.SetOf (bO prog w) S (λk'=>DP (dedup (ks.take i)) k') (dedup (ks.take i)).length:=by
   obtain⟨o,es,ep,tb,ho,rest⟩:=hS
   exact⟨o,es,ep,tb,hm.heap S _ hSw ho,rest⟩
  show wpAny _ A.in1 (holding [v] (setAdd S v)>>=_) _ _ s'
  refine wpAny_bind (wpAny_holding ?_)
  unfold setAdd
  refine wpAny_holding ?_
  refine wpAny_bind ((bO prog w).pyHash (k:=key) a0g ?_)
  have hroom:(dedup (ks.take i)).length+1<scanBound:=by
   have:=Pg (ks.take i)
   rw[List.length_take]at this
   omega
  refine wpAny_setAddHashed_of (knd:=bO prog w) (s:={ s' with toks:=s'.toks+1 }) a0g hsc hS' hroom λh' hsb hS2=>?_
  have hSi:h'.SetOf (bO prog w) S (λk'=>DP (dedup (ks.take (i+1))) k') (dedup (ks.take (i+1))).length:=
   K6 hS2 (λk'=>by rw[Br ks hkey,Li]) (by rw[Br ks hkey,Bq])
  refine wpAny_pure ⟨plainId_quiet PyProof.Rows.F.plain_set_update_loop _,ih (i+1) _ (by omega) hlt (W.frame _ s' _ _ hst' (Nat.le_succ _) λb hb o e=>?_) hSi λs'' hm'' hS''=>?_⟩
  ·rw[hsb.2 b (λh:b=S=>hSf (by rw[<-h];exact hb))];exact e
  ·refine hR s'' (Moved.trans W.gtrans ((hm.mono hsub).then_heap (Nat.le_succ _) λb o hb e=>?_) hm'') hS''
   rw[hsb.2 b (λh:b=S=>hb (by rw[h];exact List.mem_cons_self))];exact e
end
section
variable {prog:Program}{w:World}{A:Around}{E:Value->Shared->Prop}{s:Shared}
set_option maxHeartbeats 3200000 in
theorem DY {l:Addr}{items:Array Value}{ks:List Key}{Q:Value->Shared->Prop}
 (hh:A.handled=none)(hl:s.heap.IsList l items)(hn:items.size=ks.length)(hi:∀(i:Nat) (v:Value),items[i]?=some v->∃k,ks[i]?=some k/\(bO prog w).is k v=true/\v.scannable=true)(hb:items.size+1<scanBound)
 (h:∀(h':Heap) (tk:Nat),h'.SetOf (bO prog w) s.heap.objs.size (λk'=>DP (dedup ks) k') (dedup ks).length->
  (∀b o,b<s.heap.objs.size->s.heap.get? b=some o->h'.get? b=some o)->Q (.ref s.heap.objs.size) { s with heap:=h',toks:=tk }):
 wpAny (model prog w) A (call (.type "set") [.ref l]) Q E s:=by
 obtain⟨c,tl,hmro⟩:=PySem.F.called_set.mro
 have hmade:=PySem.F.called_set.made
 have hsub:=PySem.F.called_set.sub
 refine wpAny_call (codeAny_of_tree ?_)
 show wpAny _ _ (callAny (.type "set") _) _ _ _
 refine wpAny_pure ⟨Code.quiet_builtin _ (by decide+kernel),codeAny_builtin PySem.F.entry_type_call ?_⟩
 rw[Around.under_plain (weight_type_call_type "set" [.ref l] []) rfl]
 have h1:=PySem.F.called_set.notType
 have h2:=PySem.F.called_set.canCreate
 have hct:=PySem.F.typeCall_set_1 (.ref l)
 repeat (any_goals (first|assumption|wp_step))
 refine codeAny_mono (code_set_new_1 (.ref l) (E:=E) (Q₁:=λobj s₁=>∃led:Bool,obj= .ref s.heap.objs.size/\s₁={ s with heap:=s.heap.push { cls:= .type "set",dict:=none,data:= .set #[] 0 (.fresh 0 0 led) } }) λled=>⟨led,rfl,rfl⟩) λr s₁ hr=>?_
 cases r with
 |error e=>exact hr
 |ok fl=>
  cases fl with
  |ret obj=>
   obtain⟨led,rfl,rfl⟩:=hr
   have hS:(s.heap.push { cls:= .type "set",dict:=none,data:= .set #[] 0 (.fresh 0 0 led) }).get? s.heap.objs.size=some { cls:= .type "set",dict:=none,data:= .set #[] 0 (.fresh 0 0 led) }:=Heap.get?_push_size _ rfl
   have hT:Shared.TypeIs { s with heap:=s.heap.push { cls:= .type "set",dict:=none,data:= .set #[] 0 (.fresh 0 0 led) } } (.ref s.heap.objs.size) "set":=⟨_,hS,rfl⟩
   have hli:=PySem.F.called_set.init.lookup
   have hbi:=PySem.F.called_set.init.bind (.ref s.heap.objs.size)
   repeat (any_goals (first|assumption|wp_step))
   refine codeAny_mono (codeAny_call_builtin (R:=wants (λr s₂=>r= .none/\∃h' tk,s₂={ s with heap:=h',toks:=tk }/\
    h'.SetOf (bO prog w) s.heap.objs.size (λk'=>DP (dedup ks) k') (dedup ks).length/\
    (∀b o,b<s.heap.objs.size->s.heap.get? b=some o->h'.get? b=some o)) E) PySem.F.called_set.init.plain PySem.F.entry_set_init (check_set_init_1 hT ?_)) λr₂ s₂ hr₂=>?_
   ·obtain⟨ol,hol,hcl,nl,hdl⟩:=hl
    obtain⟨ocls,odict,odata,oslots⟩:=ol
    simp only at hcl hdl
    subst hcl;subst hdl
    have hol':(s.heap.push { cls:= .type "set",dict:=none,data:= .set #[] 0 (.fresh 0 0 led) }).get? l=some { cls:= .type "list",dict:=odict,data:= .seq items nl,slots:=oslots }:=Heap.get?_push_of_some _ hol
    have hsls:=PySem.F.sub_list_set
    have hslf:=PySem.F.sub_list_frozenset
    have hne:(Value.type "list"==Value.type "dict")=false:=by decide
    have hl1:(s.heap.push { cls:= .type "set",dict:=none,data:= .set #[] 0 (.fresh 0 0 led) }).IsList l items:=⟨_,hol',rfl,nl,rfl⟩
    unfold Builtin.«set.__init__» noKeywords Builtin.Frozenset.updateFrom
    generalize hPI:pyIter=PI
    wp_walk
    subst hPI
    refine wpAny_pyIter_list hl1 ?_
    refine wpAny_bind (wpAny_runValue ?_)
    have hlS:l<s.heap.objs.size:=Heap.lt_size hol
    have hh3:A.in1.in1.in1.handled=none:=by simp[hh]
    have hneI:l≠(s.heap.push { cls:= .type "set",dict:=none,data:= .set #[] 0 (.fresh 0 0 led) }).objs.size:=by
     rw[Heap.size_push];exact Nat.ne_of_lt (Nat.lt_succ_of_lt hlS)
    have hSf:s.heap.objs.size∉[(s.heap.push { cls:= .type "set",dict:=none,data:= .set #[] 0 (.fresh 0 0 led) }).objs.size,l]:=by
     rw[Heap.size_push];simp only[List.mem_cons,List.mem_singleton,List.not_mem_nil,or_false,not_or]
     exact⟨Nat.ne_of_lt (Nat.lt_succ_self _),Nat.ne_of_gt hlS⟩
    refine yX ((Walks.list hh3 _ l hneI items).toS) s.heap.objs.size
     hSf ks hn (λi v hv=>hi i v hv) hb (items.size - 0) 0 _ (by omega) (Nat.zero_le _)
     ⟨⟨_,Heap.get?_push_size _ rfl,rfl,rfl⟩,(hl1.push _)⟩ ?hS0 ?hR
    case hS0=>
     have hget:((s.heap.push { cls:= .type "set",dict:=none,data:= .set #[] 0 (.fresh 0 0 led) }).push { cls:= .type "list_iterator",data:= .fields #[.ref l,.int 0 0] }).get? s.heap.objs.size
      =some { cls:= .type "set",dict:=none,data:= .set #[] 0 (.fresh 0 0 led) }:=Heap.get?_push_of_some _ hS
     exact⟨_,#[],0,_,hget,⟨rfl,rfl,rfl⟩,rfl,λe he=>by simp at he,λk=>by simp[dedup,DP],by decide,by rfl,rfl⟩
    case hR=>
     intro s' hm hS'
     obtain⟨h',g',d',tk',os'⟩:=s'
     have eg:g'=s.gens:=hm.gens
     have ed:d'=s.drawn:=hm.drawn
     have eo:os'=s.os:=hm.os
     subst eg;subst ed;subst eo
     show wpAny _ _ _ _ _ _
     refine wpAny_pure ?_
     show wpAny _ _ (ret Value.none) _ _ _
     refine wpAny_pure ⟨rfl,h',tk',rfl,hS',λb o hb e=>?_⟩
     have hb1:b≠s.heap.objs.size:=Nat.ne_of_lt hb
     have hb2:b≠(s.heap.push { cls:= .type "set",dict:=none,data:= .set #[] 0 (.fresh 0 0 led) }).objs.size:=by
      rw[Heap.size_push];exact Nat.ne_of_lt (Nat.lt_succ_of_lt hb)
     exact hm.heap b o (by simp only[List.mem_cons,List.mem_singleton,List.not_mem_nil,or_false,not_or];exact⟨hb1,hb2⟩) (Heap.get?_push_of_some _ (Heap.get?_push_of_some _ e))
   ·cases r₂ with
    |error e=>exact hr₂
    |ok fl₂=>
     cases fl₂ with
     |ret r=>
      obtain⟨rfl,h',tk,rfl,hS',hk'⟩:=hr₂
      repeat (any_goals (first|assumption|wp_step))
      exact h _ _ hS' hk'
     |_=>exact hr₂.elim
  |_=>exact hr.elim
end
def Cd:D->Option Key
 | .int i=>some (.inl i)
 | .str x=>some (.inr x)
 |_=>none
def wM:List D->Option (List Key)
 |[]=>some []
 |d::l=>(Cd d).bind λk=>(wM l).map λr=>k::r
theorem wL {O:Addr->Prop}{K:Fg}{H:Hp}{d:D}{k:Key}{v:V}(e:Cd d=some k)(h:Rep O K H d v):v=kV k:=by
 cases d<;>simp only[Cd]at e<;>try (cases e;done)
 all_goals (cases e;cases h;rfl)
theorem yU {O:Addr->Prop}{K:Fg}{H:Hp}:∀{l:List D}{ks:List Key}{vs:List V},wM l=some ks->aV O K H l vs->vs=ks.map kV
 |[],_,_,e,h=>by cases e;cases h;rfl
 |d::l,_,_,e,h=>by
  obtain⟨v,vs,rfl,h1,h2⟩:=h
  simp only[wM]at e
  obtain⟨k,e1,e⟩:=bind_some e
  cases e2:wM l with
  |none=>rw[e2]at e;cases e
  |some ks=>
   rw[e2]at e
   cases e
   rw[wL e1 h1,yU e2 h2]
   rfl
theorem RD {k:Key}{u:Value}(r:RelV (kV k) u):u.scannable=true:=by
 cases k with
 |inl i=>obtain⟨t,rfl⟩:=r;rfl
 |inr x=>obtain⟨t,rfl⟩:=r;rfl
theorem DK:∀{vs:List V}{us:List Value}{i:Nat}{u:Value},Vals vs us->us[i]?=some u->∃v,vs[i]?=some v/\RelV v u
 |_,_,i,_,.nil,e=>by simp at e
 |_,_,0,_,.cons r _,e=>by simp at e;subst e;exact⟨_,rfl,r⟩
 |_,_,i+1,_,.cons _ t,e=>by
  simp only[List.getElem?_cons_succ]at e
  obtain⟨v,e1,r⟩:=DK t e
  exact⟨v,by simpa using e1,r⟩
section
variable {X:Cx}
def isSet (X:Cx)(p:Addr)(ks:List Key):HO:= .ext λh=>h.SetOf (bO X.prog X.w) p (λk'=>DP (dedup ks) k') (dedup ks).length
def a1J (X:Cx):List V->Hp->VK->Prop:=λxs H Q=>∃(O:Addr->Prop) (l:List D) (v:V) (ks:List Key),xs=[v]/\Rep O X.K H (.lst l) v/\wM l=some ks/\l.length+1<scanBound/\∀p,H p=none->Q (.ref p) (upd H p (isSet X p ks))
theorem Ox (hc:X.calm=true):jO X (.type "set") (a1J X):=by
 intro pins s σ H xs us Q I r h
 obtain⟨O,l,v,ks,rfl,rl,eb,hb,q⟩:=h
 obtain⟨u,rfl,ru⟩:=vals1 r
 obtain⟨a,vs,rfl,h1,h2⟩:=rl
 cases ru
 obtain⟨its,rv,pl,_⟩:=I.list (qK.of h1.1)
 have ek:=yU eb h2
 have e1:=h2.length
 have e2:=rv.length
 have e3:ks.length=vs.length:=by rw[ek,List.length_map]
 refine DY (ks:=ks) (I.ok.hd hc) pl.isList (by rw[List.size_toArray];omega) (λi v hv=>?_) (by rw[List.size_toArray];omega) λh' tk hS hk=>?_
 ·have hv':its[i]?=some v:=by simpa using hv
  obtain⟨w,e4,r4⟩:=DK rv hv'
  rw[ek,List.getElem?_map]at e4
  cases e5:ks[i]? with
  |none=>rw[e5]at e4;cases e4
  |some k=>
   rw[e5]at e4
   cases e4
   exact⟨k,rfl,G9 r4,RD r4⟩
 ·refine⟨.ref _,_,I.laid (h':=h') (t':=tk) (o:=isSet X s.heap.objs.size ks) (λb o e=>hk b o (Heap.lt_size e) e) (Nat.le_refl _) ⟨hS,?_,λg1 g2 z k=>?_⟩,rfl,q _ I.fresh⟩
  ·obtain⟨o,_,_,_,ho,_⟩:=hS
   exact⟨o,ho⟩
  ·obtain⟨o,es,ep,t,ho,rest⟩:=z
   exact⟨o,es,ep,t,k o ho,rest⟩
def Wd (X:Cx):List V->Hp->VK->Prop:=λxs H Q=>∃p ks,xs=[.ref p]/\H p=some (isSet X p ks)/\Q (.int ((dedup ks).length:Nat)) H
theorem Iw:jO X (.builtin "len") (Wd X):=by
 intro pins s σ H xs us Q I r h
 obtain⟨p,ks,rfl,hp,q⟩:=h
 obtain⟨u,rfl,ru⟩:=vals1 r
 cases ru
 obtain⟨hS,_,_⟩:=(show fW X.prog X.w H s.heap p (isSet X p ks) from I.hok p _ hp)
 obtain⟨o,es,ep,t,ho,hex,hd,_,_,hsz,hf,hn⟩:=hS
 refine call_len_set ho hex hd hf ?_ ?_
 ·have:scanBound=4096:=rfl
  omega
 ·rw[hn]
  exact⟨.int _,H,I.tok _,⟨_,rfl⟩,q⟩
def qQ:List D->Option D
 |[.lst l]=>(wM l).bind λks=>if l.length+1<scanBound then some (.int ((dedup ks).length:Nat))else none
 |_=>none
variable {p p2 pos pos2:Pos}{e:Expr}{Fs:aK->Option (List D)}
theorem Ph (hc:X.calm=true)(hg:Gl X "len")(hm:X.mg "len"=none)(hg2:Gl X "set")(hm2:X.mg "set"=none)(ha:DQ X [e] Fs)
 (he:starEach [.Call (.Name "set" p2) [e] [] pos2] X.env=(false,eval (.Call (.Name "set" p2) [e] [] pos2) X.env)::starEach [] X.env:=by rfl)(he2:starEach [e] X.env=(false,eval e X.env)::starEach [] X.env:=by rfl):
 ED X (.Call (.Name "len" p) [.Call (.Name "set" p2) [e] [] pos2] [] pos) (λρ=>(Fs ρ).bind qQ):=have ha:=ha.1; .mk<|PE.imp (Dc Iw hg hm (by decide+kernel) (pF (uG (Ox hc) hg2 hm2 (by decide+kernel) ha (by decide) (by decide) he2 rfl) zm he) (by decide) (by decide) he rfl) λσ H Q ⟨O,ρ,d,w,rr,e,q⟩=>by
 obtain⟨l,e1,e2⟩:=bind_some e
 unfold qQ at e2
 split at e2
 ·obtain⟨ks,e3,e2⟩:=bind_some e2
  obtain⟨hz,rfl⟩:=lW e2
  refine⟨O,ρ,_,w,rr,e1,λvs H1 s1 r1=>?_⟩
  obtain⟨v,rfl,h1⟩:=jk r1
  refine⟨O,_,v,ks,rfl,h1,e3,hz,λp' hp'=>?_⟩
  exact⟨p',ks,rfl,cH,q _ _ (s1.trans (bQ hp')) rfl⟩
 ·cases e2
end
section
variable {prog:Program}{w:World}{A:Around}{E:Value->Shared->Prop}{s:Shared}
theorem yE {M:Model}{a:Addr}{Q:Option Obj->Shared->Prop}(h:Q (s.heap.get? a) s):wpAny M A (loadIfAlive a) Q E s:=λ_ _ _=>h
def pO (h:Heap)(z TI TO a:Addr)(fl:Bool):Prop:=h.get? z=some { cls:= .type "zip",data:= .fields #[rawInt a,.bool fl,.bool false,.ref TI,.ref TO] }
variable {z TI TO i1 i2 p:Addr}{fl:Bool}{wD wF:List Addr}{n1 n2 k:Nat}{P1 P2:Nat->Value->Prop}{S1 S2:Nat->Heap->Prop}{a b:Value}{oa:Obj}
theorem busy (hz:pO s.heap z TI TO p fl)(ha:s.heap.get? p=some oa){Q:Bool->Shared->Prop}(hQ:∀h',pO h' z TI TO p true->Heap.SameBut z s.heap h'->Q false { s with heap:=h' }):
 wpAny (model prog w) A (Builtin.SmallTypes.ownedTupleIsFree (.ref z)) Q E s:=by
 unfold Builtin.SmallTypes.ownedTupleIsFree
 refine wpAny_bind (wpAny_field hz rfl (x:=rawInt p) rfl ?_)
 show wpAny _ _ (loadIfAlive (p:Int).toNat>>=_) _ _ _
 refine wpAny_bind (yE ?_)
 rw[Int.toNat_natCast,ha]
 show wpAny _ _ (field (.ref z) 1>>=_) _ _ _
 refine wpAny_bind (wpAny_field hz rfl (x:= .bool fl) rfl ?_)
 cases fl with
 |true=>exact wpAny_pure (hQ s.heap hz (Heap.SameBut.refl _ _))
 |false=>exact wpAny_bind (wpAny_setField_rec hz (by simp) λh₁ hz₁ hs₁=>wpAny_pure (hQ h₁ hz₁ hs₁))
theorem QF {Q:Value->Shared->Prop}(D1:Draws prog w A i1 wD n1 P1 S1)(D2:Draws prog w A i2 wF n2 P2 S2)(D:lC z TI TO i1 i2 wD wF)
 (hz:pO s.heap z TI TO p fl)(ha:s.heap.get? p=some oa)(hTI:IsPair s.heap TI (.ref i1) (.ref i2))(h1:S1 k s.heap)(h2:S2 k s.heap)(hk1:k<n1)(hk2:k<n2)
 (hQ:∀x y h' tk,P1 k x->P2 k y->pO h' z TI TO p true->S1 (k+1) h'->S2 (k+1) h'->IsPair h' s.heap.objs.size x y->h'.objs.size=s.heap.objs.size+1->
  (∀c o,c≠z->c≠i1->c≠i2->s.heap.get? c=some o->h'.get? c=some o)->Q (.ref s.heap.objs.size) { s with heap:=h',toks:=tk }):
 wpAny (model prog w) A (Builtin.«zip.__next__» ⟨[.ref z],[]⟩) (λfin s'=>∃v,fin= .done (.ret v)/\Q v s') E s:=by
 obtain⟨hp,g,dr,tk₀,os⟩:=s
 show wpAny _ _ (field (.ref z) 2>>=_) _ _ _
 refine wpAny_bind (wpAny_field hz rfl (x:= .bool false) rfl ?_)
 show wpAny _ _ (field (.ref z) 3>>=_) _ _ _
 refine wpAny_bind (wpAny_field hz rfl (x:= .ref TI) rfl ?_)
 refine wpAny_bind (wpAny_seqItems hTI rfl ?_)
 show wpAny _ _ (Builtin.SmallTypes.ownedTupleIsFree (.ref z)>>=_) _ _ _
 refine wpAny_bind (busy hz ha λh₁ hz₁ hs₁=>?_)
 replace hs₁:Heap.SameBut z hp h₁:=hs₁
 simp only[Bool.false_eq_true,if_false]
 rw[<-Array.forIn_toList]
 simp only[List.forIn_cons,List.forIn_nil]
 refine wpAny_bind (wpAny_bind (wpAny_bind (wpAny_holding ?_)))
 show wpAny _ _ (Builtin.SmallTypes.nextOf (.ref i1)>>=_) _ _ _
 refine wpAny_bind (D1.item k _ _ _ hk1 (cG D1 hs₁ D.XQ h1) λx h₂ tk₂ hx h1₂ hs₂=>wpAny_pure (wpAny_pure ?_))
 replace hs₂:Heap.SameBut i1 h₁ h₂:=hs₂
 refine wpAny_bind (wpAny_bind (wpAny_holding ?_))
 show wpAny _ _ (Builtin.SmallTypes.nextOf (.ref i2)>>=_) _ _ _
 refine wpAny_bind (D2.item k _ _ _ hk2 (cG D2 hs₂ D.f2i (cG D2 hs₁ D.f2z h2)) λy h₃ tk₃ hy a0f hs₃=>wpAny_pure (wpAny_pure (wpAny_pure ?_)))
 replace hs₃:Heap.SameBut i2 h₂ h₃:=hs₃
 refine wpAny_bind (wpAny_newTuple (hsz:=(show 2<=sizeLine by decide)) (wpAny_pure ⟨_,rfl,?_⟩))
 have hsz:h₃.objs.size=hp.objs.size:=by rw[hs₃.1,hs₂.1,hs₁.1]
 have a0e:S1 (k+1) h₃:=cG D1 hs₃ D.f1i h1₂
 have kk:∀c o,c≠z->c≠i1->c≠i2->hp.get? c=some o->(h₃.push { cls:= .type "tuple",data:= .seq #[x,y] }).get? c=some o:=λc o c1 c2 c3 e=>
  Heap.get?_push_of_some _ (hs₃.extBut _ _ c3 (hs₂.extBut _ _ c2 (hs₁.extBut _ _ c1 e)))
 have hz₃:pO (h₃.push { cls:= .type "tuple",data:= .seq #[x,y] }) z TI TO p true:=Heap.get?_push_of_some _ (hs₃.extBut _ _ D.i2z.symm (hs₂.extBut _ _ D.i1z.symm hz₁))
 have hT:IsPair (h₃.push { cls:= .type "tuple",data:= .seq #[x,y] }) h₃.objs.size x y:=Heap.get?_push_size _ rfl
 have hsp:(h₃.push { cls:= .type "tuple",data:= .seq #[x,y] }).objs.size=h₃.objs.size+1:=Heap.size_push ..
 show Q (.ref h₃.objs.size) _
 rw[hsz]at hT hsp ⊢
 exact hQ x y _ _ hx hy hz₃ (D1.frame _ _ _ a0e λc hc o e=>Heap.get?_push_of_some _ e) (D2.frame _ _ _ a0f λc hc o e=>Heap.get?_push_of_some _ e) hT hsp kk
theorem Uh {Q:PySem.Fin->Shared->Prop}(D1:Draws prog w A i1 wD n1 P1 S1)(D2:Draws prog w A i2 wF n2 P2 S2)(D:lC z TI TO i1 i2 wD wF)
 (hz:pO s.heap z TI TO p fl)(ha:s.heap.get? p=some oa)(hTI:IsPair s.heap TI (.ref i1) (.ref i2))(h1:S1 k s.heap)(h2:S2 k s.heap)(hend:k=n1\/(k<n1/\k=n2))
 (hE:∀h' e tk,(∀c o,c≠z->c≠i1->c≠i2->s.heap.get? c=some o->h'.get? c=some o)->(∃o,h'.get? e=some o/\o.cls= .type "StopIteration")->E (.ref e) { s with heap:=h',toks:=tk }):
 wpAny (model prog w) A (Builtin.«zip.__next__» ⟨[.ref z],[]⟩) Q E s:=by
 obtain⟨hp,g,dr,tk₀,os⟩:=s
 show wpAny _ _ (field (.ref z) 2>>=_) _ _ _
 refine wpAny_bind (wpAny_field hz rfl (x:= .bool false) rfl ?_)
 show wpAny _ _ (field (.ref z) 3>>=_) _ _ _
 refine wpAny_bind (wpAny_field hz rfl (x:= .ref TI) rfl ?_)
 refine wpAny_bind (wpAny_seqItems hTI rfl ?_)
 show wpAny _ _ (Builtin.SmallTypes.ownedTupleIsFree (.ref z)>>=_) _ _ _
 refine wpAny_bind (busy hz ha λh₁ hz₁ hs₁=>?_)
 replace hs₁:Heap.SameBut z hp h₁:=hs₁
 simp only[Bool.false_eq_true,if_false]
 rw[<-Array.forIn_toList]
 simp only[List.forIn_cons,List.forIn_nil]
 refine wpAny_bind (wpAny_bind (wpAny_bind (wpAny_holding ?_)))
 show wpAny _ _ (Builtin.SmallTypes.nextOf (.ref i1)>>=_) _ _ _
 rcases hend with rfl|⟨hk1,rfl⟩
 ·refine wpAny_bind (D1.done _ _ _ (cG D1 hs₁ D.XQ h1) λh₂ e hs₂ he=>?_)
  replace hs₂:Heap.ExtBut i1 h₁ h₂:=hs₂
  exact hE h₂ e _ (λc o c1 c3 _ x=>hs₂ _ _ c3 (hs₁.extBut _ _ c1 x)) he
 ·refine wpAny_bind (D1.item k _ _ _ hk1 (cG D1 hs₁ D.XQ h1) λx h₂ tk₂ hx h1₂ hs₂=>wpAny_pure (wpAny_pure ?_))
  replace hs₂:Heap.SameBut i1 h₁ h₂:=hs₂
  refine wpAny_bind (wpAny_bind (wpAny_holding ?_))
  show wpAny _ _ (Builtin.SmallTypes.nextOf (.ref i2)>>=_) _ _ _
  refine wpAny_bind (D2.done _ _ _ (cG D2 hs₂ D.f2i (cG D2 hs₁ D.f2z h2)) λh₃ e hs₃ he=>?_)
  replace hs₃:Heap.ExtBut i2 h₂ h₃:=hs₃
  exact hE h₃ e _ (λc o c1 c3 c4 x=>hs₃ _ _ c4 (hs₂.extBut _ _ c3 (hs₁.extBut _ _ c1 x))) he
theorem zu {Q:Option Value->Shared->Prop}(D1:Draws prog w A.in1 i1 wD n1 P1 S1)(D2:Draws prog w A.in1 i2 wF n2 P2 S2)(D:lC z TI TO i1 i2 wD wF)
 (hz:pO s.heap z TI TO p fl)(ha:s.heap.get? p=some oa)(hTI:IsPair s.heap TI (.ref i1) (.ref i2))(h1:S1 k s.heap)(h2:S2 k s.heap)(hk1:k<n1)(hk2:k<n2)
 (hQ:∀x y h' tk,P1 k x->P2 k y->pO h' z TI TO p true->S1 (k+1) h'->S2 (k+1) h'->IsPair h' s.heap.objs.size x y->h'.objs.size=s.heap.objs.size+1->
  (∀c o,c≠z->c≠i1->c≠i2->s.heap.get? c=some o->h'.get? c=some o)->Q (some (.ref s.heap.objs.size)) { s with heap:=h',toks:=tk }):
 wpAny (model prog w) A (pyNext (.ref z)) Q E s:=by
 have hT:s.TypeIs (.ref z) "zip":=⟨_,hz,rfl⟩
 unfold pyNext
 exact wpAny_bind (wpAny_attempt (wpAny_callSpecial?_slot (name:=Str.ofString "__next__") hT PySem.F.slot_zip_next
  (wpAny_call_entry PySem.F.slot_zip_next hT PySem.F.entry_zip_next
   (QF D1 D2 D hz ha hTI h1 h2 hk1 hk2 λx y h' tk b1 b2 a1 a3 a4 a5 a6 a7=>wpAny_pure (hQ x y h' tk b1 b2 a1 a3 a4 a5 a6 a7)) (PySem.F.args_zip_next_1 _))))
theorem Af {Q:Option Value->Shared->Prop}(D1:Draws prog w A.in1 i1 wD n1 P1 S1)(D2:Draws prog w A.in1 i2 wF n2 P2 S2)(D:lC z TI TO i1 i2 wD wF)
 (hz:pO s.heap z TI TO p fl)(ha:s.heap.get? p=some oa)(hTI:IsPair s.heap TI (.ref i1) (.ref i2))(h1:S1 k s.heap)(h2:S2 k s.heap)(hend:k=n1\/(k<n1/\k=n2))
 (hQ:∀h' tk,(∀c o,c≠z->c≠i1->c≠i2->s.heap.get? c=some o->h'.get? c=some o)->Q none { s with heap:=h',toks:=tk }):wpAny (model prog w) A (pyNext (.ref z)) Q E s:=by
 have hT:s.TypeIs (.ref z) "zip":=⟨_,hz,rfl⟩
 unfold pyNext
 refine wpAny_bind (wpAny_attempt (wpAny_callSpecial?_slot (name:=Str.ofString "__next__") hT PySem.F.slot_zip_next
  (wpAny_call_entry PySem.F.slot_zip_next hT PySem.F.entry_zip_next (Uh D1 D2 D hz ha hTI h1 h2 hend λh' e tk hk he=>?_) (PySem.F.args_zip_next_1 _))))
 obtain⟨o,ho,hc⟩:=he
 refine wpAny_bind (wpAny_isInstance (T:="StopIteration") (b:=true) ⟨o,ho,hc⟩ isSubtype_stop ?_)
 exact wpAny_pure (hQ _ _ hk)
end
theorem lD:entryFor table "dict.update.loop"=some Builtin.«dict.update.loop»:=entryFor_of_tree (by kernel_rfl)
theorem fM:plainId "dict.update.loop"=true:=by decide+kernel
section
variable {prog:Program}{w:World}{A:Around}{E:Value->Shared->Prop}{s:Shared}
variable {z TI TO i1 i2 d:Addr}{wD wF:List Addr}{n1 n2:Nat}{P1 P2:Nat->Value->Prop}{S1 S2:Nat->Heap->Prop}
theorem Ai {a:Addr}{x y:Value}{Q:List Value->Shared->Prop}(h:IsPair s.heap a x y)(hQ:Q [x,y] s):wpAny (model prog w) A (Builtin.Dict.pairItems (.ref a)) Q E s:=by
 unfold Builtin.Dict.pairItems
 refine wpAny_bind (wpAny_typeOf (T:="tuple") ⟨_,h,rfl⟩ ?_)
 rw[if_pos (by decide)]
 exact wpAny_bind (wpAny_seqItems h rfl (wpAny_pure hQ))
def ZS (z TI TO i1 i2 d:Addr)(i:Nat)(h:Heap):Prop:=IsPair h TI (.ref i1) (.ref i2)/\((IsZip h z TI TO .none/\∃a b,IsPair h TO a b)\/∃p oa fl,pO h z TI TO p fl/\h.get? p=some oa/\p≠z/\p≠i1/\p≠i2/\p≠d)
theorem V1 {R:Result->Shared->Prop}(D1:Draws prog w A.in1.in1 i1 wD n1 P1 S1)(D2:Draws prog w A.in1.in1 i2 wF n2 P2 S2)(D:lC z TI TO i1 i2 wD wF)(d1:d∉wD)(d2:d∉wF)(dz:d≠z)(dT:d≠TO)(dI:TI≠d)(di1:d≠i1)(di2:d≠i2)
 (kvs:List (Key×Value))(hn:kvs.length=min n1 n2)(hval:∀i x y,P1 i x->P2 i y->∃k,kvs[i]?=some (k,y)/\(bO prog w).is k x=true)(hsz:kvs.length<=sizeLine)(h₀:Heap)
 (hR:∀s':Shared,s'.gens=s.gens->s'.drawn=s.drawn->s'.os=s.os->s'.heap.DictOf (bO prog w) d (merged [] kvs)->(∀c o,c≠z->c≠TO->c≠i1->c≠i2->c≠d->h₀.get? c=some o->s'.heap.get? c=some o)->R (.ok (.ret .none)) s'):
 ∀(k i:Nat) (s2:Shared),min n1 n2 - i=k->i<=min n1 n2->s2.gens=s.gens->s2.drawn=s.drawn->s2.os=s.os->ZS z TI TO i1 i2 d i s2.heap->S1 i s2.heap->S2 i s2.heap->s2.heap.DictOf (bO prog w) d (merged [] (kvs.take i))->
  (∀c o,c≠z->c≠TO->c≠i1->c≠i2->c≠d->h₀.get? c=some o->s2.heap.get? c=some o)->
  codeAny (model prog w) A (.builtin "dict.update.loop" ⟨[.ref d,.ref z,rawInt i,.none],[]⟩) R s2:=by
 intro k
 induction k with
 |zero=>
  intro i s2 hk hi e1 e2 e3 hz h1 h2 hd hkeep
  have hin:i=min n1 n2:=by omega
  refine codeAny_builtin lD ?_
  rw[Around.under_plainId fM _]
  show wpAny _ A.in1 (pyNext (.ref z)>>=_) _ _ s2
  have hend:i=n1\/(i<n1/\i=n2):=by omega
  have fin:∀h' tk,(∀c o,c≠z->c≠TO->c≠i1->c≠i2->s2.heap.get? c=some o->h'.get? c=some o)->R (.ok (.ret .none)) { s2 with heap:=h',toks:=tk }:=λh' tk hk'=>by
   refine hR _ e1 e2 e3 ?_ λc o c1 c2 c3 c4 c5 x=>hk' c o c1 c2 c3 c4 (hkeep c o c1 c2 c3 c4 c5 x)
   rw[List.take_of_length_le (by omega)]at hd
   obtain⟨o,es,ep,ho,r⟩:=hd
   exact⟨o,es,ep,hk' d o dz dT di1 di2 ho,r⟩
  obtain⟨hTI,⟨hz,a,b,hTO⟩|⟨p,oa,fl,hz,ha,_⟩⟩:=hz
  ·refine wpAny_bind (rT D1 D2 D hz hTI hTO h1 h2 hend λh' tk hk'=>?_)
   show wpAny _ _ (Builtin.Dict.addKeywords d []>>=_) _ _ _
   exact wpAny_bind (wpAny_pure (wpAny_pure (fin h' tk hk')))
  ·refine wpAny_bind (Af D1 D2 D hz ha hTI h1 h2 hend λh' tk hk'=>?_)
   show wpAny _ _ (Builtin.Dict.addKeywords d []>>=_) _ _ _
   exact wpAny_bind (wpAny_pure (wpAny_pure (fin h' tk λc o c1 _ c3 c4 x=>hk' c o c1 c3 c4 x)))
 |succ k ih=>
  intro i s2 hk hi e1 e2 e3 hz h1 h2 hd hkeep
  refine codeAny_builtin lD ?_
  rw[Around.under_plainId fM _]
  show wpAny _ A.in1 (pyNext (.ref z)>>=_) _ _ s2
  have step:∀x y h' tk,P1 i x->P2 i y->ZS z TI TO i1 i2 d (i+1) h'->S1 (i+1) h'->S2 (i+1) h'->IsPair h' s2.heap.objs.size x y->
   (∀c o,c≠z->c≠TO->c≠i1->c≠i2->s2.heap.get? c=some o->h'.get? c=some o)->
   wpAny (model prog w) A.in1 (do
    holding [Value.ref s2.heap.objs.size] do
     let pair<-(Builtin.Dict.pairItems (.ref s2.heap.objs.size)).tryCatch λe=>do
      if !(<-isInstance e (.type "TypeError"))then throw e
      rule "dict.update.element-no-sequence"
      raiseError "TypeError" s!"cannot convert dictionary update sequence element #{(i : Int)} to a sequence"
     match pair with
     |[k,v]=>holding [k,v] (dictSet d k v)
     |l=>
      rule "dict.update.element-length"
      raiseError "ValueError" s!"dictionary update sequence element #{(i : Int)} has length {l.length}; 2 is required"
    again (.builtin "dict.update.loop" ⟨[.ref d,.ref z,rawInt ((i:Int)+1),.none],[]⟩))
    (λfin s'=>match fin with
     | .done f=>R (.ok f) s'
     | .again c'=>c'.quiet=true/\codeAny (model prog w) A c' R s') (λe s'=>R (.error e) s') { s2 with heap:=h',toks:=tk }:=by
   intro x y h' tk p1 p2 hz' s1' s2' hp hk'
   obtain⟨key,hkv,hkey⟩:=hval i x y p1 p2
   refine wpAny_bind (wpAny_holding (wpAny_bind (wpAny_tryCatch (Ai hp ?_))))
   have hd':h'.DictOf (bO prog w) d (merged [] (kvs.take i)):=by
    obtain⟨o,es,ep,ho,r⟩:=hd
    exact⟨o,es,ep,hk' d o dz dT di1 di2 ho,r⟩
   have hle:(merged [] (kvs.take i)).length<=sizeLine:=by
    have:=merged_length_le [] (kvs.take i)
    rw[List.length_nil,List.length_take]at this
    omega
   refine wpAny_holding (wpAny_dictSet_pairs (s:={ s2 with heap:=h',toks:=tk }) hkey hd' (λg hg hs=>?_) hle)
   replace hs:Heap.SameBut d h' g:=hs
   have hc:((i:Int)+1)=((i+1:Nat):Int):=by push_cast;rfl
   rw[hc]
   refine wpAny_pure ⟨plainId_quiet fM _,ih (i+1) _ (by omega) (by omega) e1 e2 e3 ?_ (cG D1 hs d1 s1') (cG D2 hs d2 s2') (by rw[merged_take_succ _ _ _ _ hkv];exact hg) λc o c1 c2 c3 c4 c5 q=>hs.extBut _ _ c5 (hk' c o c1 c2 c3 c4 (hkeep c o c1 c2 c3 c4 c5 q))⟩
   obtain⟨hTI,⟨hz,a,b,hTO⟩|⟨p,oa,fl,hz,ha,q1,q2,q3,q4⟩⟩:=hz'
   ·exact⟨hs.extBut _ _ dI hTI,.inl ⟨hs.extBut _ _ (Ne.symm dz) hz,a,b,hs.extBut _ _ (Ne.symm dT) hTO⟩⟩
   ·exact⟨hs.extBut _ _ dI hTI,.inr ⟨p,oa,fl,hs.extBut _ _ (Ne.symm dz) hz,hs.extBut _ _ q4 ha,q1,q2,q3,q4⟩⟩
  obtain⟨hTI,⟨hz,a,b,hTO⟩|⟨p,oa,fl,hz,ha,q1,q2,q3,q4⟩⟩:=hz
  ·have l1:z<s2.heap.objs.size:=Heap.lt_size hz
   have l2:i1<s2.heap.objs.size:=by obtain⟨o,ho⟩:=D1.live _ _ h1;exact Heap.lt_size ho
   have l3:i2<s2.heap.objs.size:=by obtain⟨o,ho⟩:=D2.live _ _ h2;exact Heap.lt_size ho
   have l4:d<s2.heap.objs.size:=by obtain⟨o,_,_,ho,_⟩:=hd;exact Heap.lt_size ho
   refine wpAny_bind (qw D1 D2 D hz hTI hTO h1 h2 (by omega) (by omega) λx y h' tk p1 p2 z1 z2 z3 z4 z5 z6 z7=>?_)
   exact step x y h' tk p1 p2 ⟨z7 _ _ D.TIz D.TITO D.TIi1 D.TIi2 hTI,.inr ⟨s2.heap.objs.size,_,false,z1,z5,Nat.ne_of_gt l1,Nat.ne_of_gt l2,Nat.ne_of_gt l3,Nat.ne_of_gt l4⟩⟩ z3 z4 z5 z7
  ·refine wpAny_bind (zu D1 D2 D hz ha hTI h1 h2 (by omega) (by omega) λx y h' tk p1 p2 z1 z3 z4 z5 z6 z7=>?_)
   exact step x y h' tk p1 p2 ⟨z7 _ _ D.TIz D.TIi1 D.TIi2 hTI,.inr ⟨p,oa,true,z1,z7 _ _ q1 q2 q3 ha,q1,q2,q3,q4⟩⟩ z3 z4 z5 λc o c1 _ c3 c4 x=>z7 c o c1 c3 c4 x
end
theorem Js:typeLookup (.type "zip") "keys"=pure none:=by rw[typeLookup_type,builtinLookup_eq_fast];kernel_rfl
theorem Cg:typeLookup (.type "zip") "__getattr__"=pure none:=by rw[typeLookup_type,builtinLookup_eq_fast];kernel_rfl
theorem Hh:entryFor table "zip.__getattribute__"=some Builtin.«object.__getattribute__»:=
 entryFor_alias (id':="object.__getattribute__") (by kernel_rfl) (by first|rfl|decide+kernel) (by decide+kernel) (by kernel_rfl)
theorem Hr (z:Addr)(fs:Array Value)(u:Tok):
 Meets (Builtin.«object.__getattribute__» ⟨[.ref z,.str "keys" u],[]⟩) (λA R s=>s.heap.get? z=some { cls:= .type "zip",data:= .fields fs }/\raisesAttr (.ref z) "keys" A R s):=
 Meets.of_wp λprog w A R s hs=>by
  obtain⟨h,g,d,t,os⟩:=s
  obtain⟨hx,hs⟩:=hs
  have hT:(⟨h,g,d,t,os⟩:Shared).TypeIs (.ref z) "zip":=⟨_,hx,rfl⟩
  have f4:=Js
  repeat (any_goals (first|assumption|wp_step))
  exact wpAny_raiseAttrError hs.1 hs.2 (attrMsg_fits (by decide+kernel) (by decide+kernel))
theorem Mp {prog:Program}{w:World}{A:Around}{E:Value->Shared->Prop}{s:Shared}{z:Addr}{fs:Array Value}{Q:Option Value->Shared->Prop}(hA:A.handled=none)
 (hx:s.heap.get? z=some { cls:= .type "zip",data:= .fields fs })(hQ:∀h' tk,(∀b o,s.heap.get? b=some o->h'.get? b=some o)->Q none { s with heap:=h',toks:=tk }):
 wpAny (model prog w) A (getAttr? (.ref z) "keys") Q E s:=by
 obtain⟨hp,g,d,tk,os⟩:=s
 have hT:∀tk',(⟨hp,g,d,tk',os⟩:Shared).TypeIs (.ref z) "zip":=λtk'=>⟨_,hx,rfl⟩
 have f1:=sub_AttributeError
 have f3:=PySem.F.slot_zip_getattribute.lookup
 have f4:=PySem.F.slot_zip_getattribute.bind (.ref z)
 have f5:=Cg
 unfold getAttr? getAttrBy? getAttrBy
 repeat (any_goals (first|assumption|exact hT _|((with_reducible show wpAny _ _ (call (Value.builtin "zip.__getattribute__") _ _) _ _ _);refine call_meets PySem.F.slot_zip_getattribute (hT _) Hh (PySem.F.args_zip_getattribute_2 _ _) (Hr z fs _) ⟨hx,hA,λh' tk' e hx=>?_⟩)|wp_step))
 obtain⟨t',u',he⟩:=hx.there
 show wpAny _ _ (getattributeRaised _ _ _ _ _ _ _) _ _ _
 unfold getattributeRaised
 repeat (any_goals (first|assumption|wp_step))
 exact hQ _ _ hx.keeps
section
variable {O O':Addr->Prop}{K:Fg}{H₀ H H':Hp}{σ:L2.St}{ρ:bw}{γ:List Gh}
theorem fD.NT {i:Nat}{ks:List Key}{l:List D}{fr:Bool}{p:Addr}{vs:List V}(h:fD O K H₀ H σ ρ γ)(s:bV H H')(hp:H p=none)(hl:H' p=some (.dK (ks.zip vs)))(hk:ks.length=vs.length)(r:aV (λa=>AV fr O H₀ a\/a=p) K H' l vs):
 fD (λa=>O a\/a=p) K H₀ H' (σ.set i (some (.ref p))) (ρ.set i (some (.jx ks l fr))) γ:=by
 have up:∀(f:Bool) a,AV f (λa=>O a\/a=p) H₀ a->(AV f O H₀ a\/a=p):=λf a z=>by
  rcases z with(z|z)|z
  ·exact .inl (.inl z)
  ·exact .inr z
  ·exact .inl (.inr z)
 have old:∀(m:L) (v:V),RL O K H₀ H m v->RL (λa=>O a\/a=p) K H₀ H' m v:=λm v b=>by
  cases m with
  |val d f=>
   have b':Rep (AV f O H₀) K H d v:=b
   exact((Rep.join hp d b').mono s).weak (up f)
  |own l f tg=>
   obtain⟨q,us,e,o,h1,h2⟩:=b
   exact⟨q,us,e,.inl o,s _ _ h1,((aV.join hp l h2).mono s).weak (up f)⟩
  |jx ks l f=>
   obtain⟨q,us,e,o,h1,h3,h2⟩:=b
   exact⟨q,us,e,.inl o,s _ _ h1,h3,((aV.join hp l h2).mono s).weak (up f)⟩
 refine⟨h.same.trans s,λa z=>?_,λa z=>?_,λj m e=>?_,λj k m n q e1 o1 e2 e3 o2 e4=>?_,by rw[List.length_set,List.length_set];exact h.len,λg hg ht=>((Rep.join hp _ (h.gh g hg ht)).mono s).weak (up g.fr),λj l fr t e=>?_⟩
 rotate_left 4
 ·rcases dj e with⟨rfl,e,hl'⟩|⟨hj,e⟩
  ·cases e
  ·obtain⟨g,a,b,c⟩:=h.tag j l fr t e
   exact⟨g,a,b,by rw[List.getElem?_set_ne (Ne.symm hj)];exact c⟩
 ·rcases z with z|rfl
  ·exact(h.wi.mono s) a z
  ·rw[hl];simp
 ·rcases z with z|rfl
  ·exact h.new a z
  ·exact h.same.free hp
 ·rcases dj e with⟨rfl,e,hl'⟩|⟨hj,e⟩
  ·cases e
   exact⟨.ref p,List.getElem?_set_self (by rw[h.len];exact hl'),p,vs,rfl,.inr rfl,hl,hk,r.weak (up fr)⟩
  ·obtain⟨w,a,b⟩:=h.rel j m e
   exact⟨w,by rw[List.getElem?_set_ne (Ne.symm hj)];exact a,old m w b⟩
 ·have S6:∀(j:Nat) (m:L),ρ[j]?=some (some m)->m.isOwn=true->σ[j]?=some (some (.ref p))->False:=λj m e o e'=>by
   obtain⟨w,a,b⟩:=h.rel j m e
   rw[e']at a
   cases a
   cases m with
   |val d f=>cases o
   |own l f tg=>obtain⟨q,us,e5,_,h1,_⟩:=b;cases e5;rw[hp]at h1;cases h1
   |jx ks l f=>obtain⟨q,us,e5,_,h1,_⟩:=b;cases e5;rw[hp]at h1;cases h1
  have hlt:∀{x:Option L}{y:Option L}{j:Nat},(ρ.set i x)[j]?=some y->j<σ.length:=λe=>by
   have:=(List.getElem?_eq_some_iff.mp e).1
   rw[List.length_set]at this
   rw[h.len];exact this
  rcases dj e1 with⟨rfl,e,hi⟩|⟨hj,f1⟩
  ·rcases dj e3 with⟨rfl,e',_⟩|⟨hk,f3⟩
   ·rfl
   ·rw[List.getElem?_set_self (by rw[h.len];exact hi)]at e2
    cases e2
    rw[List.getElem?_set_ne (Ne.symm hk)]at e4
    exact(S6 k n f3 o2 e4).elim
  ·rw[List.getElem?_set_ne (Ne.symm hj)]at e2
   rcases dj e3 with⟨rfl,e',hi⟩|⟨hk,f3⟩
   ·rw[List.getElem?_set_self (by rw[h.len];exact hi)]at e4
    cases e4
    exact(S6 j m f1 o1 e2).elim
   ·rw[List.getElem?_set_ne (Ne.symm hk)]at e4
    exact h.apart j k m n q f1 o1 e2 f3 o2 e4
theorem fD.a1f {i:Nat}{ks ks':List Key}{l l':List D}{fr:Bool}{p:Addr}{vs vs':List V}(h:fD O K H₀ H σ ρ γ)(e:ρ[i]?=some (some (.jx ks l fr)))(e2:σ[i]?=some (some (.ref p)))(hp:H p=some (.dK (ks.zip vs)))(hk:ks'.length=vs'.length)(hO:O p)
 (r:aV (AV fr O H₀) K H l' vs'):fD O K H₀ (upd H p (.dK (ks'.zip vs'))) σ (ρ.set i (some (.jx ks' l' fr))) γ:=by
 have hi:i<ρ.length:=(List.getElem?_eq_some_iff.mp e).1
 have kp:∀f,pP (AV f O H₀) H (upd H p (.dK (ks'.zip vs'))):=λf=>pP.Oa (.inl hO) hp
 have sm:bV H₀ (upd H p (.dK (ks'.zip vs'))):=λb u z=>by
  rw[bY (cM z (h.new p hO))]
  exact h.same b u z
 refine⟨sm,λa z q=>?_,h.new,λj m e3=>?_,λj k m n q e3 o1 e4 e5 o2 e6=>?_,by rw[List.length_set];exact h.len,λg hg ht=>Rep.keep (λ_ z=>z) (kp g.fr) _ (h.gh g hg ht),λj l2 Zz t e3=>?_⟩
 rotate_left 3
 ·rcases dj e3 with⟨rfl,e3,_⟩|⟨hj,e3⟩
  ·cases e3
  ·exact h.tag j l2 Zz t e3
 ·by_cases ha:a=p
  ·subst ha;rw[cH]at q;cases q
  ·rw[bY ha]at q;exact h.wi a z q
 ·rcases dj e3 with⟨rfl,e3,_⟩|⟨hj,e3⟩
  ·cases e3
   exact⟨.ref p,e2,p,vs',rfl,hO,cH,hk,aV.keep (λ_ z=>z) (kp fr) l' r⟩
  ·obtain⟨w,a,b⟩:=h.rel j m e3
   refine⟨w,a,?_⟩
   cases m with
   |val d f=>exact Rep.keep (λ_ z=>z) (kp f) d b
   |own l2 f tg2=>
    obtain⟨q,us,rfl,o,h1,h2⟩:=b
    have hq:q≠p:=λz=>by
     subst z
     rw[hp]at h1;cases h1
    exact⟨q,us,rfl,o,by rw[bY hq];exact h1,aV.keep (λ_ z=>z) (kp f) l2 h2⟩
   |jx ks2 l2 f=>
    obtain⟨q,us,rfl,o,h1,h3,h2⟩:=b
    have hq:q≠p:=λz=>by
     subst z
     exact hj (h.apart j i _ _ q e3 rfl a e rfl e2)
    exact⟨q,us,rfl,o,by rw[bY hq];exact h1,h3,aV.keep (λ_ z=>z) (kp f) l2 h2⟩
 ·have back:∀{j:Nat}{m:L},(ρ.set i (some (.jx ks' l' fr)))[j]?=some (some m)->m.isOwn=true->∃m',ρ[j]?=some (some m')/\m'.isOwn=true:=λ{j m} z o=>by
   rcases dj z with⟨rfl,_,_⟩|⟨_,z⟩
   ·exact⟨_,e,rfl⟩
   ·exact⟨m,z,o⟩
  obtain⟨m',e7,o3⟩:=back e3 o1
  obtain⟨n',e8,o4⟩:=back e5 o2
  exact h.apart j k m' n' q e7 o3 e4 e8 o4 e6
end
def rP (ks:List Key)(l:List D)(k:Key):Option D:=((ks.zip l).find? λp=>decide (p.1=k)).map (·.2)
def nH (ks:List Key)(l:List D)(k:Key)(d:D):List D:=(ks.zip l).map λp=>if p.1=k then d else p.2
def rR (ks:List Key)(l:List D)(k:Key)(d:D):List Key×List D:=if DP ks k=true then(ks,nH ks l k d)else(ks++[k],l++[d])
section
variable {O O':Addr->Prop}{K:Fg}{H H':Hp}
theorem G5:∀{ks:List Key}{l:List D}{vs:List V}{k:Key}{d:D},aV O K H l vs->rP ks l k=some d->∃v,Ah (ks.zip vs) k=some v/\Rep O K H d v
 |[],_,_,_,_,_,e=>by simp[rP]at e
 |_::_,[],_,_,_,_,e=>by simp[rP]at e
 |k0::ks,d0::l,_,k,d,h,e=>by
  obtain⟨v,vs,rfl,h1,h2⟩:=h
  rw[List.zip_cons_cons]
  by_cases hk:k0=k
  ·have e':rP (k0::ks) (d0::l) k=some d0:=by simp[rP,List.find?_cons,hk]
   rw[e']at e
   cases e
   exact⟨v,yC hk,h1⟩
  ·have e':rP (k0::ks) (d0::l) k=rP ks l k:=by simp[rP,List.find?_cons,hk]
   rw[e']at e
   obtain⟨u,q1,q2⟩:=G5 h2 e
   exact⟨u,by rw[yz hk];exact q1,q2⟩
theorem Gr {d:D}{u:V}{k:Key}(hd:Rep O K H d u):∀{ks:List Key}{l:List D}{vs:List V},ks.length=vs.length->aV O K H l vs->
 ∃vs',(ks.zip vs).map (λkv=>if kv.1=k then(kv.1,u)else kv)=ks.zip vs'/\ks.length=vs'.length/\aV O K H (nH ks l k d) vs'
 |[],l,vs,hl,h=>⟨[],by simp,rfl,by simp[nH,aV]⟩
 |k0::ks,[],_,hl,h=>by cases h;simp at hl
 |k0::ks,d0::l,_,hl,h=>by
  obtain⟨v,vs,rfl,h1,h2⟩:=h
  obtain⟨vs',e1,e2,r⟩:=Gr (k:=k) hd (ks:=ks) (by simpa using hl) h2
  by_cases hk:k0=k
  ·refine⟨u::vs',?_,by simp[e2],?_⟩
   ·rw[List.zip_cons_cons,List.zip_cons_cons,List.map_cons,e1,if_pos hk]
   ·have:nH (k0::ks) (d0::l) k d=d::nH ks l k d:=by simp[nH,hk]
    rw[this]
    exact⟨u,vs',rfl,hd,r⟩
  ·refine⟨v::vs',?_,by simp[e2],?_⟩
   ·rw[List.zip_cons_cons,List.zip_cons_cons,List.map_cons,e1,if_neg hk]
   ·have:nH (k0::ks) (d0::l) k d=d0::nH ks l k d:=by simp[nH,hk]
    rw[this]
    exact⟨v,vs',rfl,h1,r⟩
theorem Mr {k:Key}:∀{ks:List Key}{vs:List V},ks.length=vs.length->((ks.zip vs).any λkv=>decide (kv.1=k))=DP ks k
 |[],[],_=>rfl
 |_::_,[],h=>by simp at h
 |[],_::_,h=>by simp at h
 |a::ks,v::vs,h=>by
  have:=Mr (k:=k) (ks:=ks) (vs:=vs) (by simpa using h)
  unfold DP at this ⊢
  rw[List.zip_cons_cons,List.any_cons,List.any_cons,this]
theorem Qj {d:D}{u:V}{k:Key}{ks:List Key}{l:List D}{vs:List V}(hd:Rep O K H d u)(hl:ks.length=vs.length)(h:aV O K H l vs):
 ∃vs',putK (ks.zip vs) k u=(rR ks l k d).1.zip vs'/\(rR ks l k d).1.length=vs'.length/\aV O K H (rR ks l k d).2 vs':=by
 unfold putK rR
 rw[Mr hl]
 by_cases hk:DP ks k=true
 ·rw[if_pos hk,if_pos hk]
  exact Gr hd hl h
 ·rw[if_neg hk,if_neg hk]
  exact⟨vs++[u],by rw[List.zip_append hl];rfl,by simp[hl],h.append (aV.one hd)⟩
end
section
variable {X:Cx}{H₀:Hp}{o i e:Expr}{pos pos':Pos}{Fo Fi Fe:aK->Option D}
def Xy (x y:D):Option D:=match x with
 | .dct ks l=>(Cd y).bind (rP ks l)
 |_=>none
theorem V3 (hu:X.A.units+1<cLine)(ho:ED X o Fo)(hi:ED X i Fi)(hs:Us i):ED X (.Subscript o i pos) (λρ=>(Fo ρ).bind λx=>(Fi ρ).bind λy=>Xy x y):=have ho:=ho.1;have hi:=hi.1; .mk<|PE.imp (VN hu ho hi hs) λσ H Q ⟨O,ρ,d,w,r,e,q⟩=>by
 obtain⟨dx,e1,e⟩:=bind_some e
 obtain⟨dy,e2,e⟩:=bind_some e
 refine⟨O,ρ,dx,w,r,e1,λx H1 s1 r1=>⟨O,ρ,dy,w.mono s1,r.mono s1,e2,λy H2 s2 r2=>?_⟩⟩
 unfold Xy at e
 split at e
 ·rename_i ks l
  obtain⟨k,e3,e4⟩:=bind_some e
  obtain⟨a,vs,rfl,⟨ha,_⟩,hl,rs⟩:=r1.mono s2
  obtain⟨v,e5,rv⟩:=G5 rs e4
  rw[wL e3 r2]
  exact⟨a,v,rfl,by rw[<-e5];exact Oj.k ha,q v H2 (s1.trans s2) rv⟩
 ·cases e
def tND (K:Fg)(F:aK->Option (List Key×List D)):TE:=λσ H Q=>∃(O:Addr->Prop) (ρ:aK) (r:List Key×List D),Within O H/\nA O K H σ ρ/\F ρ=some r/\
 ∀p vs H',bV H H'->H p=none->H' p=some (.dK (r.1.zip vs))->r.1.length=vs.length->aV (λa=>O a\/a=p) K H' r.2 vs->Q (.ref p) H'
structure END (X:Cx)(e:Expr)(F:aK->Option (List Key×List D)):Prop where
 mk::(h:PE X e (tND X.K F))
variable {Fl:aK->Option (List Key×List D)}
def MT (i:Nat)(F:aK->Option (List Key×List D)):bw->Option DR:=λρ=>three F (λr=>flat.flats r.2) (λr fr=> .nx (ρ.set i (some (.jx r.1 r.2 fr)))) ρ
theorem NQ {i:Nat}{x:Str}{pos':Pos}(hN:X.N.Nodup)(hi:X.N[i]?=some x)(hx:Loc X.env.scope x)(he:END X e Fl)(hs:swapsWith e (some (.Name x pos')) pos.line X.env=pure false:=by rfl)
 (hf:X.fn x=true\/X.env.scope.names.lookup x=some .local:=by first|exact .inl rfl|exact .inr rfl|assumption):SD X (.Assign [.Name x pos'] e pos) H₀ (MT i Fl):=have he:=he.1; .mk<|PS.imp (LK hN hi hx he hs hf) λE σ H ⟨ρ,γ,r,⟨O,R⟩,e,q⟩=>by
 rcases ur e with⟨l,e1,hf,rfl⟩|⟨fr,l,e1,rfl⟩
 ·exact⟨cj,vis ρ,l,eF,R.vis,e1,λp vs H' s1 hp hl hk r1=>q _ _ ⟨_,R.NT s1 hp hl hk (aV.cX _ hf r1)⟩⟩
 ·exact⟨AV fr O H₀,vals fr ρ,l,AV.within R.wi R.same,R.vals,e1,λp vs H' s1 hp hl hk r1=>q _ _ ⟨_,R.NT s1 hp hl hk r1⟩⟩
theorem V7:END X (.Dict [] [] pos) (λ_=>some ([],[])):= .mk<|PE.imp Su λσ H Q ⟨O,ρ,r,w,rr,e,q⟩ p hp=>by
 cases e
 exact q p [] _ (bQ hp) hp cH rfl rfl
def oU (i:Nat)(Fk Fv:aK->Option D):bw->Option DR:=λρ=>match ρ[i]? with
 |some (some (.jx ks l fr))=>if ks.length<sizeLine then(Fv (vis ρ)).bind λd=>if flat d=true then(Fk (vis ρ)).bind λy=>(Cd y).map λk=> .nx (ρ.set i (some (.jx (rR ks l k d).1 (rR ks l k d).2 fr)))else none else none
 |_=>none
theorem HW (hu:X.A.units+1<cLine)(j:Nat){x:Str}{p:Pos}(h:PE X (.Name x p) (Ep j))(hi:ED X i Fi)(he:ED X e Fe)(hs:swapsWith e (some (.Subscript (.Name x p) i pos')) pos.line X.env=pure false:=by rfl):
 SD X (.Assign [.Subscript (.Name x p) i pos'] e pos) H₀ (oU j Fi Fe):=have hi:=hi.1;have he:=he.1; .mk<|PS.imp (W9 hu h hi he hs) λE σ H ⟨ρ,γ,r,⟨O,R⟩,e,q⟩=>by
 unfold oU at e
 split at e
 ·rename_i ks l fr e1
  split at e
  ·rename_i hz
   obtain⟨d,e2,e⟩:=bind_some e
   split at e
   ·rename_i hf
    obtain⟨y,e3,e⟩:=bind_some e
    cases e4:Cd y with
    |none=>rw[e4]at e;cases e
    |some k=>
     rw[e4]at e
     cases e
     refine⟨cj,vis ρ,d,eF,R.vis,e2,λu H1 s1 ru=>?_⟩
     have R1:=R.mono s1
     obtain⟨v,e5,a,vs,rfl,hO,hp,hl,r1⟩:=R1.rel j _ e1
     refine⟨_,e5,cj,vis ρ,y,eF,R1.vis,e3,λw H2 s2 rw'=>?_⟩
     rw[wL e4 rw']
     obtain⟨vs',z1,z2,z3⟩:=Qj (k:=k) (Rep.cX (O':=AV fr O H₀) d hf (ru.mono s2)) hl (r1.mono s2)
     refine⟨a,_,rfl,QK.k (s2 _ _ hp) (by rw[List.length_zip];omega),?_⟩
     rw[z1]
     exact q σ _ ⟨O,(R1.mono s2).a1f e1 e5 (s2 _ _ hp) z2 hO z3⟩
   ·cases e
  ·cases e
 ·cases e
def Rk (Il:List ((aK->Option D)×(aK->Option D)))(ρ:aK):Option (List Key×List D):=match Il with
 |[]=>some ([],[])
 |p::r=>(p.1 ρ).bind λx=>(Cd x).bind λk=>(p.2 ρ).bind λy=>(Rk r ρ).map λq=>(k::q.1,y::q.2)
structure PDs (X:Cx)(pos:Pos)(keys:List (Option Expr))(values:List Expr)(Il:List ((aK->Option D)×(aK->Option D))):Prop where
 mk::(h:ZR X pos keys values (Il.map λp=>(tD X.K p.1,tD X.K p.2)))
theorem Nk:PDs X pos [] [] []:= .mk<|W7
theorem iy {k v:Expr}{ks:List (Option Expr)}{vs:List Expr}{Fk Fv:aK->Option D}{Il:List ((aK->Option D)×(aK->Option D))}(hk:ED X k Fk)(hv:ED X v Fv)(hr:PDs X pos ks vs Il):PDs X pos (some k::ks) (v::vs) ((Fk,Fv)::Il):=have hk:=hk.1;have hv:=hv.1;have hr:=hr.1; .mk<|SX hk hv hr
theorem JL {K:Fg}{σ:L2.St}{O:Addr->Prop}{ρ:aK}:∀(Il:List ((aK->Option D)×(aK->Option D))) {H:Hp}{Q:List (V×V)->Hp->Prop}{r:List Key×List D},Within O H->nA O K H σ ρ->Rk Il ρ=some r->
 (∀vs H',bV H H'->r.1.length=vs.length->aV O K H' r.2 vs->Q ((r.1.zip vs).map λkv=>(kV kv.1,kv.2)) H')->Ib (Il.map λp=>(tD K p.1,tD K p.2)) σ H Q
 |[],H,Q,r,w,R,e,q=>by
  cases e
  exact q [] H (bV.refl H) rfl rfl
 |p::Il,H,Q,r,w,R,e,q=>by
  simp only[Rk]at e
  obtain⟨x,e1,e⟩:=bind_some e
  obtain⟨k,e2,e⟩:=bind_some e
  obtain⟨y,e3,e⟩:=bind_some e
  cases e4:Rk Il ρ with
  |none=>rw[e4]at e;cases e
  |some r'=>
   rw[e4]at e
   cases e
   refine⟨O,ρ,x,w,R,e1,λv H1 s1 r1=>⟨O,ρ,y,w.mono s1,R.mono s1,e3,λu H2 s2 r2=>?_⟩⟩
   refine JL Il ((w.mono s1).mono s2) ((R.mono s1).mono s2) e4 λvs H3 s3 hl r3=>?_
   rw[wL e2 r1]
   exact q (u::vs) H3 ((s1.trans s2).trans s3) (by simp[hl]) ⟨u,vs,rfl,r2.mono s3,r3⟩
def rA:List Key->Bool
 |[]=>true
 |k::l=>!DP l k&&rA l
theorem LQ {kvs:List (Key×V)}{k:Key}{v:V}(h:∀kv∈kvs,kv.1≠k):putK kvs k v=kvs++[(k,v)]:=by
 unfold putK
 rw[if_neg]
 rw[List.any_eq_true]
 rintro⟨kv,hm,e⟩
 exact h kv hm (of_decide_eq_true e)
theorem wQ:∀(ks:List Key) (vs:List V) (acc:List (Key×V)),rA ks=true->(∀kv∈acc,∀k∈ks,kv.1≠k)->rm acc (ks.zip vs)=acc++ks.zip vs
 |[],_,acc,_,_=>by simp[rm]
 |_::_,[],acc,_,_=>by simp[rm]
 |k::ks,v::vs,acc,hn,ha=>by
  simp only[rA,Bool.and_eq_true,Bool.not_eq_true']at hn
  rw[List.zip_cons_cons]
  show rm (putK acc k v) (ks.zip vs)=_
  rw[LQ λkv hm=>ha kv hm k List.mem_cons_self,wQ ks vs _ hn.2]
  ·simp
  ·intro kv hm k' hk'
   rcases List.mem_append.mp hm with hm|hm
   ·exact ha kv hm k' (List.mem_cons_of_mem _ hk')
   ·rw[List.mem_singleton.mp hm]
    intro z
    subst z
    rw[wJ.mpr hk']at hn
    cases hn.1
def FQ (Il:List ((aK->Option D)×(aK->Option D))):aK->Option D:=λρ=>(Rk Il ρ).bind λr=>if rA r.1=true/\r.1.length<=15 then some (.dct r.1 r.2)else none
theorem Mz {keys:List (Option Expr)}{values:List Expr}{Il:List ((aK->Option D)×(aK->Option D))}(h:PDs X pos keys values Il)(hall:keys.all (·.isSome)=true:=by rfl)(hl:keys.length=values.length:=by rfl)(h0:keys≠[]:=by exact List.cons_ne_nil _ _)
 (h15:keys.length<=15:=by decide):ED X (.Dict keys values pos) (FQ Il):=have h:=h.1; .mk<|PE.imp (VP h hall hl h0 h15) λσ H Q ⟨O,ρ,d,w,R,e,q⟩ p hp=>by
 obtain⟨r,e1,e⟩:=bind_some e
 obtain⟨⟨hn,hz⟩,rfl⟩:=lW e
 have w':Within (λa=>O a\/a=p) (upd H p (.dK [])):=λa z q=>by
  rcases z with z|rfl
  ·exact(w.mono (bQ hp)) a z q
  ·rw[cH]at q;cases q
 refine JL (O:=λa=>O a\/a=p) Il w' (λi d e=>?_) e1 λvs H2 s2 hlen r2=>?_
 ·obtain⟨v,a1,a2⟩:=R i d e
  exact⟨v,a1,(Rep.join hp d a2).mono (bQ hp)⟩
 ·have hp2:H2 p=some (.dK []):=s2 _ _ cH
  refine⟨hp2,r.1.zip vs,rfl,by rw[List.length_zip];omega,?_⟩
  rw[wQ r.1 vs [] hn (λkv hm=>nomatch hm),List.nil_append]
  refine q _ _ (λb u z=>?_) ⟨p,vs,rfl,⟨cH,w.new hp⟩,hlen,aV.keep (λa z=> .inl z) (pP.Oa (.inr rfl) hp2) r.2 r2⟩
  have hb:b≠p:=cM z hp
  rw[bY hb]
  exact s2 b u (by rw[bY hb];exact z)
end
section
variable {prog:Program}{w:World}{A:Around}{E:Value->Shared->Prop}{s:Shared}
variable {z TI TO i1 i2:Addr}{wD wF:List Addr}{n1 n2:Nat}{P1 P2:Nat->Value->Prop}{S1 S2:Nat->Heap->Prop}
theorem DX {a b:Value}{Q:Value->Shared->Prop}(hh:A.handled=none)(D1:Draws prog w A.in1.in1.in1 i1 wD n1 P1 S1)(D2:Draws prog w A.in1.in1.in1 i2 wF n2 P2 S2)(D:lC z TI TO i1 i2 wD wF)
 (l1:∀c∈wD,c<s.heap.objs.size)(l2:∀c∈wF,c<s.heap.objs.size)
 (hz:IsZip s.heap z TI TO .none)(hTI:IsPair s.heap TI (.ref i1) (.ref i2))(hTO:IsPair s.heap TO a b)(h1:S1 0 s.heap)(h2:S2 0 s.heap)
 (kvs:List (Key×Value))(hn:kvs.length=min n1 n2)(hval:∀i x y,P1 i x->P2 i y->∃k,kvs[i]?=some (k,y)/\(bO prog w).is k x=true)(hsz:kvs.length<=sizeLine)
 (hQ:∀h' tk,h'.DictOf (bO prog w) s.heap.objs.size (merged [] kvs)->(∀c o,c≠z->c≠TO->c≠i1->c≠i2->s.heap.get? c=some o->h'.get? c=some o)->Q (.ref s.heap.objs.size) { s with heap:=h',toks:=tk }):
 wpAny (model prog w) A (call (.type "dict") [.ref z]) Q E s:=by
 refine callType_codes (Q₁:=λobj s₁=>obj= .ref s.heap.objs.size/\s₁={ s with heap:=s.heap.push { cls:= .type "dict",data:= .dict #[] } }) PySem.F.kt_called_dict (PySem.F.kt_typeCall_dict_1 _) PySem.F.entry_dict_init (kt_code_dict_new _ ⟨rfl,rfl⟩) ?_
 rintro obj s₁ ⟨rfl,rfl⟩
 have up:∀b o,s.heap.get? b=some o->(s.heap.push { cls:= .type "dict",data:= .dict #[] }).get? b=some o:=λb o e=>Heap.get?_push_of_some _ e
 have hnew:(s.heap.push { cls:= .type "dict",data:= .dict #[] }).DictOf (bO prog w) s.heap.objs.size []:=Heap.DictOf.new s.heap
 have hz':IsZip (s.heap.push { cls:= .type "dict",data:= .dict #[] }) z TI TO .none:=up _ _ hz
 refine⟨hnew.typeIs,PySem.F.args_dict_init_2 _ _,?_⟩
 unfold Builtin.«dict.__init__»
 refine wpAny_bind ?_
 unfold Builtin.Dict.selfAndRest
 refine wpAny_bind (wpAny_notOrdered_dict hnew.typeIs ?_)
 show wpAny _ _ (pure (s.heap.objs.size,[Value.ref z])) _ _ _
 refine wpAny_pure ?_
 show wpAny _ _ (Builtin.Dict.updateFrom "dict.__init__" s.heap.objs.size (.ref z) [] .none) _ _ _
 unfold Builtin.Dict.updateFrom
 refine wpAny_bind (wpAny_typeOf (T:="zip") ⟨_,hz',rfl⟩ ?_)
 rw[if_pos (by decide)]
 refine wpAny_bind (Mp (by simpa using hh) hz' λh' tk hk=>?_)
 have hz2:IsZip h' z TI TO .none:=hk _ _ hz'
 show wpAny _ _ (rule _>>=_) _ _ _
 refine wpAny_bind (wpAny_rule (wpAny_bind (wpAny_pyIter_zip (s:={ s with heap:=h',toks:=tk }) hz2 (wpAny_pure ?_))))
 have dl:s.heap.objs.size<(s.heap.push { cls:= .type "dict",data:= .dict #[] }).objs.size:=by rw[Heap.size_push];exact Nat.lt_succ_self _
 have ne:∀{c:Addr}{o:Obj},s.heap.get? c=some o->s.heap.objs.size≠c:=λe q=>by rw[<-q]at e;exact Nat.lt_irrefl _ (Heap.lt_size e)
 obtain⟨o1,ho1⟩:=D1.live _ _ h1
 obtain⟨o2,ho2⟩:=D2.live _ _ h2
 have hd:h'.DictOf (bO prog w) s.heap.objs.size (merged [] (kvs.take 0)):=by
  obtain⟨o,es,ep,ho,r⟩:=hnew
  exact⟨o,es,ep,hk _ _ ho,r⟩
 refine⟨plainId_quiet fM _,V1 (s:={ s with heap:=h',toks:=tk }) D1 D2 D (λq=>Nat.lt_irrefl _ (l1 _ q)) (λq=>Nat.lt_irrefl _ (l2 _ q)) (ne hz) (ne hTO) (Ne.symm (ne hTI)) (ne ho1) (ne ho2) kvs hn hval hsz h' ?_ _ 0 { s with heap:=h',toks:=tk } rfl (Nat.zero_le _) rfl rfl rfl ?_ (D1.frame _ _ _ h1 λb _ o e=>hk _ _ (up _ _ e)) (D2.frame _ _ _ h2 λb _ o e=>hk _ _ (up _ _ e)) hd λc o _ _ _ _ _ q=>q⟩
 ·intro s' e1 e2 e3 hd' hk'
  obtain⟨g1,g2,g3,g4,g5⟩:=s'
  simp only at e1 e2 e3
  subst e1;subst e2;subst e3
  exact⟨rfl,hQ g1 g4 hd' λc o c1 c2 c3 c4 e=>hk' c o c1 c2 c3 c4 (Ne.symm (ne e)) (hk _ _ (up _ _ e))⟩
 ·exact⟨hk _ _ (up _ _ hTI),.inl ⟨hz2,a,b,hk _ _ (up _ _ hTO)⟩⟩
end
theorem wU:∀{ks:List Key},rA ks=true->ks.Nodup
 |[],_=>List.nodup_nil
 |k::ks,h=>by
  simp only[rA,Bool.and_eq_true,Bool.not_eq_true']at h
  refine List.nodup_cons.mpr ⟨λm=>?_,wU h.2⟩
  rw[wJ.mpr m]at h
  cases h.1
theorem RG:∀{ks:List Key}{vs:List V}{us:List Value},Vals vs us->KV (ks.zip vs) (ks.zip us)
 |[],_,_,_=>by simp only[List.zip_nil_left];exact .nil
 |k::ks,_,_,.nil=>by simp only[List.zip_nil_right];exact .nil
 |k::ks,_,_,.cons r t=>by
  simp only[List.zip_cons_cons]
  exact .cons ⟨rfl,r⟩ (RG t)
theorem a1n {c n:Nat}(h:c<n):c≠n+4/\c≠n+3/\c≠n/\c≠n+1:=by omega
theorem in5 {c n a:Nat}(h:a<n):(c=n->c<n+5)/\(c=n+1->c<n+5)/\(c=a->c<n+5):=by omega
theorem apN (n a1 a2:Nat)(h1:a1<n)(h2:a2<n):lC (n+4) (n+2) (n+3) n (n+1) [n,a1] [n+1,a2]:=by
 have nz:∀(j k:Nat),j≠k->n+j≠n+k:=λj k h z=>h (by omega)
 have g1:∀j:Nat,n+j≠a1:=λj z=>by omega
 have g2:∀j:Nat,n+j≠a2:=λj z=>by omega
 have nm:∀{x y z:Addr},x≠y->x≠z->x∉[y,z]:=λe1 e2 m=>by
  rcases List.mem_cons.mp m with m|m
  ·exact e1 m
  ·exact e2 (List.mem_singleton.mp m)
 exact⟨nz 2 4 (by decide),nz 3 4 (by decide),nz 0 4 (by decide),nz 1 4 (by decide),nz 2 3 (by decide),nz 2 0 (by decide),nz 2 1 (by decide),nz 3 0 (by decide),nz 3 1 (by decide),nz 0 1 (by decide),
  nm (nz 4 0 (by decide)) (g1 4),nm (nz 3 0 (by decide)) (g1 3),nm (nz 1 0 (by decide)) (g1 1),nm (nz 4 1 (by decide)) (g2 4),nm (nz 3 1 (by decide)) (g2 3),nm (nz 0 1 (by decide)) (g2 0)⟩
theorem boot_dict:bootBuiltins "dict"=some (.type "dict"):=by decide+kernel
section
variable {X:Cx}{p p2 pos pos2:Pos}{a b:Expr}{Fs:aK->Option (List D)}
def Ge:List D->Option (List Key×List D)
 |[.tup l,.tup m]=>(wM l).bind λks=>if rA ks=true/\l.length=m.length then some (ks,m)else none
 |_=>none
theorem Ri (hc:X.calm=true)(hg:Gl X "dict")(hm:X.mg "dict"=none)(hg2:Gl X "zip")(hm2:X.mg "zip"=none)(ha:DQ X [a,b] Fs)
 (he:starEach [.Call (.Name "zip" p2) [a,b] [] pos2] X.env=(false,eval (.Call (.Name "zip" p2) [a,b] [] pos2) X.env)::starEach [] X.env:=by rfl)
 (hs:starEach [a,b] X.env=(false,eval a X.env)::starEach [b] X.env:=by rfl)(hpl:(backTo pos2 (starEach [b] X.env)).any (·.1)=false:=by rfl):
 END X (.Call (.Name "dict" p) [.Call (.Name "zip" p2) [a,b] [] pos2] [] pos) (λρ=>(Fs ρ).bind Ge):=have ha:=ha.1; .mk<|by
 intro pins s σ H Q I h
 obtain⟨O,ρ,r,w,R,e,q⟩:=h
 obtain⟨as,e1,e2⟩:=bind_some e
 refine wpAny_Call_Name_kw (tR I hg hm boot_dict (PyProof.Rows.callWith_type1 ?_ he rfl))
 rw[he]
 refine Calls.spliced_cons (wpAny_Call_Name_kw (tR I hg2 hm2 boot_zip (PyProof.Rows.callWith_type1 (iD (ha pos2 pins s σ H (λvs H1=>bV H H1/\aV O X.K H1 as vs) I ⟨O,ρ,as,w,R,e1,λvs H1 s1 r1=>⟨s1,r1⟩⟩) λus s1 ⟨vs,H1,I1,r1,s1',q1⟩=>?_) hs hpl)))
 unfold Ge at e2
 split at e2
 ·rename_i l m
  obtain⟨ks,e3,e2⟩:=bind_some e2
  obtain⟨⟨hn,hlm⟩,rfl⟩:=lW e2
  obtain⟨v1,v2,rfl,⟨a1,vs1,rfl,t1,rs1⟩,⟨a2,vs2,rfl,t2,rs2⟩⟩:=Nz q1
  obtain⟨u1,u2,rfl,ru1,ru2⟩:=vals2 r1
  cases ru1;cases ru2
  obtain⟨qp,rv1,p1,z1⟩:=I1.tuple t1
  obtain⟨its2,rv2,p2,z2⟩:=I1.tuple t2
  have X7:a1<s1.heap.objs.size:=p1.lt
  have ZC:a2<s1.heap.objs.size:=p2.lt
  refine Fw (k1:= .tup a1) (k2:= .tup a2) (qp:=qp.toArray) (its2:=its2.toArray) p1 p2 λh' b1 b2 b3 b4 b5 b6 kk=>?_
  refine Calls.spliced_nil ?_
  have hh:X.A.in1.in1.in1.handled=none:=I.ok.hd hc
  obtain⟨S1,D1,c1,_⟩:=dO.draws (prog:=X.prog) (w:=X.w) hh (.tup a1) s1.heap.objs.size qp.toArray (λa e=>by cases e;exact Nat.ne_of_lt X7) ⟨_,p1⟩
  obtain⟨S2,D2,c2,_⟩:=dO.draws (prog:=X.prog) (w:=X.w) hh (.tup a2) (s1.heap.objs.size+1) its2.toArray (λa e=>by cases e;exact Nat.ne_of_lt (Nat.lt_succ_of_lt ZC)) ⟨_,p2⟩
  have ek:=yU e3 rs1
  have n1:=rs1.length
  have n2:=rs2.length
  have n3:=rv1.length
  have n4:=rv2.length
  have n5:ks.length=vs1.length:=by rw[ek,List.length_map]
  have ap:lC (s1.heap.objs.size+4) (s1.heap.objs.size+2) (s1.heap.objs.size+3) s1.heap.objs.size (s1.heap.objs.size+1) (dO.fp (.tup a1) s1.heap.objs.size) (dO.fp (.tup a2) (s1.heap.objs.size+1)):=apN _ _ _ X7 ZC
  refine DX (s:={ s1 with heap:=h' }) (I.ok.hd hc) D1 D2 ap (λc hc'=>?_) (λc hc'=>?_) b1 b2 b3 (c1 0 _ (dO.start b4) (p1.keeps kk)) (c2 0 _ (dO.start b5) (p2.keeps kk)) (ks.zip its2) (by rw[List.length_zip,List.size_toArray,List.size_toArray];omega) (λi x y hx hy=>?_) (by rw[List.length_zip];omega) λh2 tk hd hk=>?_
  ·simp only[dO.fp,List.mem_cons,List.not_mem_nil,or_false]at hc'
   show c<h'.objs.size
   rw[b6]
   rcases hc' with q|q
   ·exact(in5 X7).1 q
   ·exact(in5 X7).2.2 q
  ·simp only[dO.fp,List.mem_cons,List.not_mem_nil,or_false]at hc'
   show c<h'.objs.size
   rw[b6]
   rcases hc' with q|q
   ·exact(in5 ZC).2.1 q
   ·exact(in5 ZC).2.2 q
  ·have hx':qp[i]?=some x:=by simpa[dO.P]using hx
   have hy':its2[i]?=some y:=by simpa[dO.P]using hy
   obtain⟨v,e4,r4⟩:=DK rv1 hx'
   rw[ek,List.getElem?_map]at e4
   cases e5:ks[i]? with
   |none=>rw[e5]at e4;cases e4
   |some k=>
    rw[e5]at e4
    cases e4
    exact⟨k,by rw[List.getElem?_zip_eq_some];exact⟨e5,hy'⟩,G9 r4⟩
  ·have hmg:merged [] (ks.zip its2)=ks.zip its2:=merged_nil_of_nodup _ (by rw[List.map_fst_zip (by omega)];exact wU hn)
   rw[hmg]at hd
   have hp:s1.heap.objs.size<=h'.objs.size:=by rw[b6];omega
   have hfree:H1 h'.objs.size=none:=I1.hok.fresh hp
   have kk2:∀c o,s1.heap.get? c=some o->h2.get? c=some o:=λc o x=>by
    have hlt:=Heap.lt_size x
    have f:=a1n hlt
    exact hk c o f.1 f.2.1 f.2.2.1 f.2.2.2 (kk c o x)
   refine⟨.ref h'.objs.size,upd H1 h'.objs.size (.dK (ks.zip vs2)),I1.laid (h':=h2) (t':=tk) kk2 hp ⟨by rw[List.length_zip];omega,?_,ks.zip its2,RG rv2,hd⟩,rfl,?_⟩
   ·have hb:=I1.big
    exact beq_eq_false_iff_ne.mpr (Ne.symm (Nat.ne_of_lt (Nat.lt_of_lt_of_le hb hp)))
   ·exact q _ vs2 _ (s1'.trans (bQ hfree)) (s1'.free hfree) cH (show ks.length=vs2.length by omega) ((aV.join hfree _ rs2).mono (bQ hfree))
 ·cases e2
end
open PySem.W (KdlSrc kdl_extend kdl_dict kdl_values)
section
variable {prog:Program}{w:World}{A:Around}{E:Value->Shared->Prop}{s:Shared}{T:String}{r d:Addr}{n:Nat}{P:Nat->Value->Prop}{OK:Heap->Prop}
theorem yD {Q:List Value->Shared->Prop}(K:KdlSrc prog w T r d n P OK)(hh:A.handled=none)(hok:OK s.heap)(hn:n<=sizeLine)
 (hQ:∀h' tk (acc:Array Value),(∀b o,s.heap.get? b=some o->h'.get? b=some o)->ItemsOf P acc n->Q acc.toList { s with heap:=h',toks:=tk }):
 wpAny (model prog w) A (collect (.ref r)) Q E s:=by
 unfold collect
 refine wpAny_bind (wpAny_runValue (codeAny_builtin PySem.F.entry_proto_collect ?_))
 rw[Around.under_plainId PySem.F.plain_proto_collect _]
 show wpAny _ A.in1 (newList []>>=λl=>again (.builtin "list.__iadd__" ⟨[l,.ref r],[]⟩)) _ _ s
 refine wpAny_bind (wpAny_newObj_type ?_)
 refine wpAny_pure ⟨plainId_quiet PySem.F.plain_list_iadd _,codeAny_builtin PySem.F.entry_list_iadd ?_⟩
 rw[Around.under_plainId PySem.F.plain_list_iadd _]
 show wpAny _ A.in1 (Builtin.List.listExtendWith (.ref s.heap.objs.size) (.ref r) (.ref s.heap.objs.size)) _ _ _
 have hS:(s.heap.push { cls:= .type "list",data:= .seq ([]:List Value).toArray }).get? s.heap.objs.size=some { cls:= .type "list",data:= .seq #[] 0 }:=Heap.get?_push_size _ rfl
 have hlt:=K.there _ hok
 have fin':∀s2:Shared,(∃h' tk acc' c',s2={ s with heap:=h',toks:=tk }/\(∀b o,s.heap.get? b=some o->h'.get? b=some o)/\h'.get? s.heap.objs.size=some { cls:= .type "list",dict:=none,data:= .seq acc' c',slots:=#[] }/\ItemsOf P acc' n)->
  wpAny (model prog w) A (match Value.ref s.heap.objs.size with
  |Value.ref a=>do
   match(<-load a).data with
    |Data.seq xs _=>pure xs.toList
    |_=>unsupported "internal:collect"
  |_=>unsupported "internal:collect") Q E s2:=by
  rintro _ ⟨h',tk,acc',c',rfl,hk,hS',hacc⟩
  show wpAny _ A (load s.heap.objs.size>>=_) _ _ _
  exact wpAny_bind (wpAny_load hS' (wpAny_pure (hQ h' tk acc' hk hacc)))
 refine wpAny_mono (kdl_extend (A:=A) (R:=λq s2=>q= .ok (.ret (.ref s.heap.objs.size))/\∃h' tk acc' c',s2={ s with heap:=h',toks:=tk }/\(∀b o,s.heap.get? b=some o->h'.get? b=some o)/\h'.get? s.heap.objs.size=some { cls:= .type "list",dict:=none,data:= .seq acc' c',slots:=#[] }/\ItemsOf P acc' n) (s:={ s with heap:=s.heap.push { cls:= .type "list",data:= .seq ([]:List Value).toArray } }) K hh (K.keep _ _ hok λb _ o e=>Heap.get?_push_of_some _ e) _ (Nat.ne_of_gt hlt.1) (Nat.ne_of_gt hlt.2) _ 0 hS (λh' tk acc' c' hk hS' hacc=>⟨rfl,h',tk,acc',c',rfl,λb o e=>hk b o (Nat.ne_of_lt (Heap.lt_size e)) (Heap.get?_push_of_some _ e),hS',hacc⟩) hn) (λfin s' h=>?_) (λe s' h=>?_)
 ·cases fin with
  |done f=>
   obtain⟨e,h⟩:=h
   cases e
   exact fin' _ h
  |again c'=>exact⟨h.1,codeAny_mono h.2 λr s'' hr=>by obtain⟨rfl,hr⟩:=hr;exact fin' _ hr⟩
 ·exact absurd h.1 (by simp)
theorem Aa (K:KdlSrc prog w T r d n P OK)(hn:n<=sizeLine):
 MeetsIn prog w (Builtin.«tuple.__new__» ⟨[.type "tuple",.ref r],[]⟩)
  (λA R s=>A.handled=none/\OK s.heap/\∀(h':Heap) tk (acc:Array Value),(∀b o',s.heap.get? b=some o'->h'.get? b=some o')->ItemsOf P acc n->R (.ok (.ret (.ref h'.objs.size))) { s with heap:=h'.push { cls:= .type "tuple",data:= .seq acc },toks:=tk }):=
 .of_wp λA R s h=>by
  obtain⟨hp,g,dr,tk,os⟩:=s;obtain⟨hh,hok,h⟩:=h
  have hsub:=sub_tuple_self
  have hinit:=init_tuple_lookup
  have hmh:=madeHere_tuple
  have hT:=K.type _ hok
  have hnt:=K.notTuple
  obtain⟨o,ho,hc⟩:=hT
  have hT:Shared.TypeIs ⟨hp,g,dr,tk,os⟩ (.ref r) T:=⟨o,ho,hc⟩
  wp_walk using AutoSeq1.wpAny_loadPart' ho,wpAny_typeOf hT,yD K (by simpa using hh) hok hn
  intro h' tk' acc hk hacc
  show wpAny _ _ (Builtin.Tuple.tupleExact acc.toList.toArray>>=λv=>ret v) _ _ _
  unfold Builtin.Tuple.tupleExact
  refine wpAny_bind (wpAny_newObj_type ?_ (by show acc.toList.toArray.size<=sizeLine;simpa using(by rw[hacc.1];exact hn)))
  refine wpAny_pure ⟨_,rfl,?_⟩
  have e:acc.toList.toArray=acc:=by simp
  rw[e]
  exact h h' tk' acc hk hacc
theorem sW {Q:Value->Shared->Prop}(K:KdlSrc prog w T r d n P OK)(hh:A.handled=none)(hok:OK s.heap)(hn:n<=sizeLine)
 (h:∀(h':Heap) tk (acc:Array Value),(∀b o',s.heap.get? b=some o'->h'.get? b=some o')->ItemsOf P acc n->Q (.ref h'.objs.size) { s with heap:=h'.push { cls:= .type "tuple",data:= .seq acc },toks:=tk }):
 wpAny (model prog w) A (call (.type "tuple") [.ref r]) Q E s:=by
 refine callType_newIn PySem.F.called_tuple (by decide) (PySem.F.typeCall_tuple_1 _) (PySem.F.newCall_tuple_1 _) (λobj=>PySem.F.args_object_init_2 obj _) PySem.F.entry_tuple_new
  (Aa K hn) ⟨hh,hok,λh' tk acc hk hacc=>⟨⟨_,Heap.get?_push_size _ rfl,rfl⟩,h h' tk acc hk hacc⟩⟩
end
theorem Ik:∀{vs:List V}{us:List Value},vs.length=us.length->(∀(i:Nat) (u:Value),us[i]?=some u->∃v,vs[i]?=some v/\RelV v u)->Vals vs us
 |[],[],_,_=> .nil
 |[],_::_,h,_=>by simp at h
 |_::_,[],h,_=>by simp at h
 |v::vs,u::us,h,k=>by
  obtain⟨v',e,r⟩:=k 0 u rfl
  simp at e
  subst e
  exact .cons r (Ik (by simpa using h) λi u e=>by
   obtain⟨w,e1,r1⟩:=k (i+1) u (by simpa using e)
   exact⟨w,by simpa using e1,r1⟩)
theorem Yb {P:Program}{w:World}{k:Key}{u:Value}(h:(bO P w).is k u=true):RelV (kV k) u:=by
 rw[Lj]at h
 rcases fQ h with⟨i,t,rfl,rfl⟩|⟨x,t,rfl,rfl⟩
 ·exact⟨t,rfl⟩
 ·exact⟨t,rfl⟩
theorem vJ {α β:Type}{R:α->β->Prop}:∀{xs:List α}{ys:List β}{i:Nat}{y:β},Paired R xs ys->ys[i]?=some y->∃x,xs[i]?=some x/\R x y
 |_,_,_,_,.nil,e=>by simp at e
 |_,_,0,_,.cons r _,e=>by simp at e;subst e;exact⟨_,rfl,r⟩
 |_,_,i+1,_,.cons _ t,e=>by
  simp only[List.getElem?_cons_succ]at e
  obtain⟨x,e1,r⟩:=vJ t e
  exact⟨x,by simpa using e1,r⟩
section
variable {X:Cx}
def Xk:List V->Hp->VK->Prop:=λxs H Q=>∃a kvs,xs=[.ref a]/\H a=some (.dK kvs)/\∀p,H p=none->Q (.ref p) (upd H p (.tup (kvs.map λkv=>kV kv.1)))
theorem dB (hc:X.calm=true):jO X (.type "tuple") Xk:=by
 intro pins s σ H xs us Q I r h
 obtain⟨a,kvs,rfl,ha,q⟩:=h
 obtain⟨u,rfl,ru⟩:=vals1 r
 cases ru
 obtain⟨z,lo,vs,rel,o,es,ep,h1,h2,h3,h4,h5,h6⟩:=J5 I.hok ha
 have hl:=rel.length
 refine sW (kdl_dict (knd:=bO X.prog X.w) (kvs:=vs) (ep:=ep) lo) (I.ok.hd hc) ⟨o,es,h1,h2,h3,h4,h5,h6⟩ (by omega) λh' tk acc hk hacc=>?_
 have I1:Inv X pins σ H { s with heap:=h',toks:=tk }:=I.kept (t':=tk) hk
 have hv:Vals (kvs.map λkv=>kV kv.1) acc.toList:=Ik (by have e:=hacc.1;simp only[List.length_map,Array.length_toList];omega) λi u e=>by
  obtain⟨k,x,e1,e2⟩:=hacc.2 i u (by simpa using e)
  obtain⟨p,e3,e4,_⟩:=vJ rel e1
  exact⟨kV k,by rw[List.getElem?_map,e3,Option.map_some,e4],Yb e2⟩
 have I2:Inv X pins σ (upd H h'.objs.size (.tup (kvs.map λkv=>kV kv.1))) { s with heap:=h'.push { cls:= .type "tuple",data:= .seq acc },toks:=tk }:=
  I1.laid (t':=tk) (λb o e=>Heap.get?_push_of_some _ e) (Nat.le_refl _) (show fW X.prog X.w _ _ _ (.tup (kvs.map λkv=>kV kv.1)) from⟨by rw[List.length_map];exact z,acc.toList,hv,by simpa using vB.new h' acc⟩)
 exact⟨.ref h'.objs.size,_,I2,rfl,q _ (I1.hok.fresh (Nat.le_refl _))⟩
def Ho (v d:Addr):HO:= .ext λh=>h.IsValuesView v d
def a0Q:List V->Hp->VK->Prop:=λxs H Q=>∃v a kvs,xs=[.ref v]/\H v=some (Ho v a)/\H a=some (.dK kvs)/\∀p,H p=none->Q (.ref p) (upd H p (.tup (kvs.map (·.2))))
theorem Oz (hc:X.calm=true):jO X (.type "tuple") a0Q:=by
 intro pins s σ H xs us Q I r h
 obtain⟨v,a,kvs,rfl,hv0,ha,q⟩:=h
 obtain⟨u,rfl,ru⟩:=vals1 r
 cases ru
 obtain⟨a0k,_,_⟩:=(show fW X.prog X.w H s.heap v (Ho v a) from I.hok v _ hv0)
 obtain⟨z,lo,vs,rel,o,es,ep,h1,h2,h3,h4,h5,h6⟩:=J5 I.hok ha
 have hl:=rel.length
 refine sW (kdl_values (knd:=bO X.prog X.w) (kvs:=vs) (ep:=ep)) (I.ok.hd hc) ⟨a0k,o,es,h1,h2,h3,h4,h5,h6⟩ (by omega) λh' tk acc hk hacc=>?_
 have I1:Inv X pins σ H { s with heap:=h',toks:=tk }:=I.kept (t':=tk) hk
 have hv:Vals (kvs.map (·.2)) acc.toList:=Ik (by have e:=hacc.1;simp only[List.length_map,Array.length_toList];omega) λi u e=>by
  obtain⟨k,e1⟩:=hacc.2 i u (by simpa using e)
  obtain⟨p,e3,_,e4⟩:=vJ rel e1
  exact⟨p.2,by rw[List.getElem?_map,e3,Option.map_some],e4⟩
 have I2:Inv X pins σ (upd H h'.objs.size (.tup (kvs.map (·.2)))) { s with heap:=h'.push { cls:= .type "tuple",data:= .seq acc },toks:=tk }:=
  I1.laid (t':=tk) (λb o e=>Heap.get?_push_of_some _ e) (Nat.le_refl _) (show fW X.prog X.w _ _ _ (.tup (kvs.map (·.2))) from⟨by rw[List.length_map];exact z,acc.toList,hv,by simpa using vB.new h' acc⟩)
 exact⟨.ref h'.objs.size,_,I2,rfl,q _ (I1.hok.fresh (Nat.le_refl _))⟩
def We:V->List V->Hp->VK->Prop:=λx xs H Q=>∃a kvs,x= .ref a/\xs=[]/\H a=some (.dK kvs)/\∀p,H p=none->Q (.ref p) (upd H p (Ho p a))
theorem Q8:Om X "dict.values" We:=by
 intro pins s σ H x xs v us Q I rx rs h
 obtain⟨a,kvs,rfl,rfl,ha,q⟩:=h
 cases rx
 cases rs
 obtain⟨z,lo,vs,rel,dd⟩:=J5 I.hok ha
 refine call_meetsIn PySem.F.slot_dict_values dd.typeIs PySem.F.entry_dict_values (PySem.F.args_dict_values_1 _) (meets_dict_values (bO X.prog X.w) a lo) ⟨⟨vs,dd⟩,?_⟩
 refine⟨.ref s.heap.objs.size,_,I.laid (t':=s.toks) (o:=Ho s.heap.objs.size a) (λb o e=>Heap.get?_push_of_some _ e) (Nat.le_refl _) ⟨⟨_,Heap.get?_push_size _ rfl,rfl,rfl⟩,⟨_,Heap.get?_push_size _ rfl⟩,λg1 g2 y k=>?_⟩,rfl,q _ I.fresh⟩
 obtain⟨o,ho,r⟩:=y
 exact⟨o,k o ho,r⟩
def kD:Key->D
 | .inl i=> .int i
 | .inr x=> .str x
theorem Og:∀{ks:List Key}{vs:List V},ks.length=vs.length->(ks.zip vs).map (λkv=>kV kv.1)=ks.map kV
 |[],[],_=>rfl
 |[],_::_,h=>by simp at h
 |_::_,[],h=>by simp at h
 |k::ks,v::vs,h=>by simp[Og (ks:=ks) (vs:=vs) (by simpa using h)]
theorem Oh:∀{ks:List Key}{vs:List V},ks.length=vs.length->(ks.zip vs).map (·.2)=vs
 |[],[],_=>rfl
 |[],_::_,h=>by simp at h
 |_::_,[],h=>by simp at h
 |k::ks,v::vs,h=>by simp[Oh (ks:=ks) (vs:=vs) (by simpa using h)]
theorem HR {O:Addr->Prop}{K:Fg}{H:Hp}:∀(ks:List Key),aV O K H (ks.map kD) (ks.map kV)
 |[]=>rfl
 | .inl i::ks=>⟨_,_,rfl,rfl,HR ks⟩
 | .inr x::ks=>⟨_,_,rfl,rfl,HR ks⟩
def dW:List D->Option D
 |[.dct ks _]=>some (.tup (ks.map kD))
 |_=>none
theorem eZ {K:Fg}:vA K Xk dW:=by
 intro O H xs l d Q w h e q
 unfold dW at e
 split at e
 ·cases e
  obtain⟨v,rfl,a,vs,rfl,⟨h1,_⟩,hl,h2⟩:=jk h
  refine⟨a,_,rfl,h1,λp hp=>?_⟩
  rw[Og hl]
  exact q _ _ (bQ hp) (nR hp (HR _))
 ·cases e
variable {o:Expr}{Fo:aK->Option D}{p pos apos cpos:Pos}
def R9:D->Option D
 | .dct _ l=>some (.tup l)
 |_=>none
theorem V5 (hc:X.calm=true)(hg:Gl X "tuple")(hm:X.mg "tuple"=none)(ho:ED X o Fo)
 (he:starEach [.Call (.Attribute o "values" apos) [] [] cpos] X.env=(false,eval (.Call (.Attribute o "values" apos) [] [] cpos) X.env)::starEach [] X.env:=by rfl)
 (hbase:attributeBase o "values" X.env (eval o X.env)=eval o X.env:=by rfl)(hline:(apos.endLine==cpos.line)=true:=by rfl):
 ED X (.Call (.Name "tuple" p) [.Call (.Attribute o "values" apos) [] [] cpos] [] pos) (λρ=>(Fo ρ).bind R9):=have ho:=ho.1; .mk<|PE.imp (uG (Oz hc) hg hm (by decide+kernel) (pF (Nm PySem.F.plainAttrs_dict PySem.F.slot_dict_values PySem.F.type_dict_values Q8 ho hbase hline) zm he) (by decide) (by decide) he rfl) λσ H Q ⟨O,ρ,d,w,rr,e,q⟩=>by
 obtain⟨x,e1,e2⟩:=bind_some e
 unfold R9 at e2
 split at e2
 ·cases e2
  refine⟨O,ρ,_,w,rr,e1,λv H1 s1 r1=>?_⟩
  obtain⟨a,vs,rfl,⟨h1,_⟩,hl,h2⟩:=r1
  refine⟨.inl (.inr (.inr (.inl ⟨rfl,.inl ⟨_,h1⟩⟩))),a,_,rfl,rfl,h1,λv hv=>?_⟩
  refine⟨v,a,_,rfl,cH,by rw[bY (cM h1 hv)];exact h1,λp' hp'=>?_⟩
  rw[Oh hl]
  exact q _ _ ((s1.trans (bQ hv)).trans (bQ hp')) (nR hp' (h2.mono (bQ hv)))
 ·cases e2
end
mutual
def jZ (K:Fg):D->Value->Bool
 | .non,.none=>true
 | .bl b,.bool c=>b==c
 | .int i,.int j _=>i==j
 | .str x,.str y _=>x==y
 | .tup l,.ref a=>match K.lookup a with
   |some o=>o.cls== .type "tuple"&&o.dict.isNone&&(match o.data with
    | .seq its _=>decide (its.size<=sizeLine)&&wO K l its.toList
    |_=>false)
   |none=>false
 |_,_=>false
def wO (K:Fg):List D->List Value->Bool
 |[],[]=>true
 |d::l,v::vs=>jZ K d v&&wO K l vs
 |_,_=>false
end
mutual
theorem Cj {K:Fg}:∀(d:D) {u:Value},jZ K d u=true->∃v,L2.RelV v u/\∀O H,Rep O K H d v
 | .non,u,h=>by
   cases u<;>simp only[jZ]at h<;>try (cases h;done)
   exact⟨.non,rfl,λ_ _=>rfl⟩
 | .bl b,u,h=>by
   cases u<;>simp only[jZ,beq_iff_eq]at h<;>try (cases h;done)
   subst h
   exact⟨.bl _,rfl,λ_ _=>rfl⟩
 | .int i,u,h=>by
   cases u<;>simp only[jZ,beq_iff_eq]at h<;>try (cases h;done)
   subst h
   exact⟨.int _,⟨_,rfl⟩,λ_ _=>rfl⟩
 | .str x,u,h=>by
   cases u<;>simp only[jZ,beq_iff_eq]at h<;>try (cases h;done)
   subst h
   exact⟨.str _,⟨_,rfl⟩,λ_ _=>rfl⟩
 | .tup l,u,h=>by
   cases u<;>simp only[jZ]at h<;>try (cases h;done)
   rename_i a
   split at h
   ·rename_i o ho
    simp only[Bool.and_eq_true]at h
    obtain⟨⟨h1,h2⟩,h3⟩:=h
    split at h3
    ·rename_i its n hd
     simp only[Bool.and_eq_true,decide_eq_true_eq]at h3
     obtain⟨vs,r,k⟩:=zF l h3.2
     exact⟨.ref a,rfl,λO H=>⟨a,vs,rfl,.inr ⟨o,its,n,ho,by simpa using h1,by simpa using h2,hd,h3.1,r⟩,k O H⟩⟩
    ·cases h3
   ·cases h
 | .lst l,u,h=>by cases u<;>simp[jZ]at h
 | .dct ks l,u,h=>by cases u<;>simp[jZ]at h
 | .ins C ks l,u,h=>by cases u<;>simp[jZ]at h
 | .uR l,u,h=>by cases u<;>simp[jZ]at h
theorem zF {K:Fg}:∀(l:List D) {us:List Value},wO K l us=true->∃vs,Vals vs us/\∀O H,aV O K H l vs
 |[],us,h=>by
  cases us<;>simp only[wO]at h<;>try (cases h;done)
  exact⟨[],.nil,λ_ _=>rfl⟩
 |d::l,us,h=>by
  cases us<;>simp only[wO]at h<;>try (cases h;done)
  rw[Bool.and_eq_true]at h
  obtain⟨v,r1,k1⟩:=Cj d h.1
  obtain⟨vs,r2,k2⟩:=zF l h.2
  exact⟨v::vs,.cons r1 r2,λO H=>⟨v,vs,rfl,k1 O H,k2 O H⟩⟩
end
section
variable {prog:Program}{w:World}{A:Around}{E:Value->Shared->Prop}{s:Shared}{a:Addr}{δ:Type}{R:δ->Value->Prop}{T:List (Str×δ)}{k:Str}{tk:Tok}
theorem getItem_tab {Q:Value->Shared->Prop}{d:δ}(h0:KTD.TabOf R s.heap a T)(hd:KTD.datumAt k T=some d)(h:∀v,R d v->Q v { s with toks:=s.toks+1 }):wpAny (model prog w) A (getItem (.ref a) (.str k tk)) Q E s:=by
 obtain⟨_,o,es,ep,ho,hc,hdd,hr⟩:=h0
 have hT:s.TypeIs (.ref a) "dict":=⟨o,ho,hc.1⟩
 unfold getItem
 try with_reducible refine wpAny_holding ?_
 refine wpAny_bind (wpAny_sequenceKey hT (by decide) ?_)
 refine wpAny_bind (wpAny_callSpecial?_slot (name:=Str.ofString "__getitem__") hT PySem.F.slot_dict_getitem
  (wpAny_call_entry PySem.F.slot_dict_getitem hT PySem.F.entry_dict_getitem ?_ (PySem.F.args_dict_getitem_2 _ _)))
 show wpAny _ _ (dictGet a (.str k tk)>>=_) _ _ s
 obtain⟨v,hv,hR⟩:=hr.find_some hd
 refine wpAny_bind ?_
 unfold dictGet
 try with_reducible refine wpAny_holding ?_
 refine wpAny_bind (wpAny_pyHash_str (wpAny_bind (KTD.kt_dictFind_strs (s:={ s with toks:=s.toks+1 }) ho hdd (by obtain⟨l⟩:=es;simpa using hr.exact) ?_)))
 have hf:findBy (λk v=>v.isStr k) es k=some v:=by
  have e:findBy (λk v=>v.isStr k) es k=(es.toList.find? λe=>e.key.isStr k).map (·.val):=by
   obtain⟨l⟩:=es
   simp[findBy]
  rw[e,hv]
 rw[findBy_of_findIdx?]at hf
 cases hi:es.findIdx? λe=>e.key.isStr k with
 |none=>rw[hi]at hf;cases hf
 |some i=>
  rw[hi]at hf
  refine wpAny_bind (wpAny_dictEntries (s:={ s with toks:=s.toks+1 }) ho hdd (wpAny_pure ?_))
  have hf':es[i]?.map (·.val)=some v:=by simpa using hf
  rw[hf']
  exact wpAny_pure ⟨v,rfl,wpAny_pure (h v hR)⟩
end
section
variable {X:Cx}{i:Expr}{Fi:aK->Option D}{p pos:Pos}{x:Str}{a:Addr}
def Wo (T:List (Str×D)):D->Option D
 | .str k=>KTD.datumAt k T
 |_=>none
theorem XJ (T:List (Str×D))(hg:Gl X x)(hm:X.mg x=some (.ref a))(ht:KTD.tabLook (jZ X.K) (λb=>X.K.lookup b) a T=true)(hi:ED X i Fi)(hs:Us i)(hd:(x==("__debug__":Str))=false:=by decide):
 ED X (.Subscript (.Name x p) i pos) (λρ=>(Fi ρ).bind (Wo T)):=have hi:=hi.1; .mk<|by
 intro pins s σ H Q I h
 obtain⟨O,ρ,d,w,R,e,q⟩:=h
 obtain⟨y,e1,e2⟩:=bind_some e
 refine O3 PySem.F.slot_dict_getitem.lookup hs (Hq I hg hm (iD (hi pins s σ H (λv H1=>bV H H1/\Rep O X.K H1 y v) I ⟨O,ρ,y,w,R,e1,λv H1 s1 r1=>⟨s1,r1⟩⟩) λiv s1 ⟨v,H1,I1,rv,s1',r1⟩=>?_) hd)
 have tb:KTD.TabOf (λd v=>jZ X.K d v=true) s1.heap a T:=KTD.tab_of_look (λd v z=>z) (λb o z=>I1.yS b o z) ht
 refine⟨?_,?_⟩
 ·obtain⟨_,o,es,ep,ho,hc,_⟩:=tb
  exact⟨o,ho,hc.1⟩
 ·unfold Wo at e2
  split at e2
  ·cases r1
   obtain⟨t,rfl⟩:=rv
   refine getItem_tab tb e2 λu hu=>?_
   obtain⟨v,r2,k2⟩:=Cj d hu
   exact⟨v,H1,I1.tok _,r2,q v H1 s1' (k2 O H1)⟩
  ·cases e2
def Xg:List V->Hp->VK->Prop:=λxs H Q=>∃z n,xs=[.str z]/\PySem.intText? z=some n/\z.length<=640/\Q (.int n) H
theorem ql:jO X (.type "int") Xg:=by
 intro pins s σ H xs us Q I r h
 obtain⟨z,n,rfl,hn,hl,q⟩:=h
 obtain⟨u,rfl,ru⟩:=vals1 r
 obtain⟨t,rfl⟩:=ru
 exact PySem.W.KIN.call_text hn hl ⟨.int n,H,I.tok _,⟨_,rfl⟩,q⟩
def kE:List D->Option D
 |[.str z]=>if z.length<=640 then(PySem.intText? z).map .int else none
 |_=>none
theorem u5 {K:Fg}:vA K Xg kE:=by
 intro O H xs l d Q w h e q
 unfold kE at e
 split at e
 ·rename_i z
  obtain⟨v,rfl,rfl⟩:=jk h
  split at e
  ·rename_i hl
   cases e1:PySem.intText? z with
   |none=>rw[e1]at e;cases e
   |some n=>
    rw[e1]at e
    cases e
    exact⟨z,n,rfl,e1,hl,q _ H (bV.refl H) rfl⟩
  ·cases e
 ·cases e
end
section
variable {X:Cx}{H₀:Hp}{o i e:Expr}{pos pos':Pos}{Fo Fi Fe:aK->Option D}
def Jo (n:Nat)(y:D):Option Nat:=match y with
 | .int i=>Ld n i
 |_=>none
def lV (j:Nat)(Fi Fv:aK->Option D):bw->Option DR:=λρ=>match ρ[j]? with
 |some (some (.own l fr tg))=>(Fv (vis ρ)).bind λd=>if flat d=true then(Fi (vis ρ)).bind λy=>(Jo l.length y).map λk=> .nx (ρ.set j (some (.own (l.set k d) fr tg)))else none
 |_=>none
theorem yp (j:Nat){x:Str}{p:Pos}(h:PE X (.Name x p) (Ep j))(hi:ED X i Fi)(he:ED X e Fe)
 (hs:swapsWithSole [.Subscript (.Name x p) i pos'] e pos.line X.env=pure false:=by rfl)(hw:swappedStores [.Subscript (.Name x p) i pos'] e X.env=pure none:=by rfl)
 (h1:(assignEach [.Subscript (.Name x p) i pos'] X.env).map (·.2)=[assign (.Subscript (.Name x p) i pos') X.env]:=by rfl)
 (ha:∀v,assign (.Subscript (.Name x p) i pos') X.env v=(do
  let ov<-holding [v] (eval (.Name x p) X.env)
  let iv<-holding [v,ov] (eval i X.env)
  standAt pos'
  holding [v,ov,iv] (setItem ov iv v)
  release [v,ov,iv] []):=by intro _;rfl):
 SD X (.Assign [.Subscript (.Name x p) i pos'] e pos) H₀ (lV j Fi Fe):=have hi:=hi.1;have he:=he.1; .mk<|PS.imp (Lz he (YQ h hi set_list ha) hs hw h1) λE σ H ⟨ρ,γ,r,⟨O,R⟩,e,q⟩=>by
 unfold lV at e
 split at e
 ·rename_i l fr tg e1
  obtain⟨d,e2,e⟩:=bind_some e
  split at e
  ·rename_i hf
   obtain⟨y,e3,e⟩:=bind_some e
   cases e4:Jo l.length y with
   |none=>rw[e4]at e;cases e
   |some k=>
    rw[e4]at e
    cases e
    refine⟨cj,vis ρ,d,eF,R.vis,e2,λu H1 s1 ru=>?_⟩
    have R1:=R.mono s1
    obtain⟨v,e5,a,vs,rfl,hO,hp,r1⟩:=R1.rel j _ e1
    refine⟨_,e5,cj,vis ρ,y,eF,R1.vis,e3,λw H2 s2 rw'=>?_⟩
    unfold Jo at e4
    split at e4
    ·cases rw'
     refine⟨a,vs,_,k,rfl,rfl,s2 _ _ hp,by rw[<-r1.length];exact e4,?_⟩
     exact q σ _ ⟨O,(R1.mono s2).turn e1 e5 (s2 _ _ hp) hO (aV.set k (r1.mono s2) (Rep.cX (O':=AV fr O H₀) d hf (ru.mono s2)))⟩
    ·cases e4
  ·cases e
 ·cases e
def wH (ks:List Str)(l:List D)(f:Str):Option D:=(ks.zip l).lookup f
theorem Jd {O:Addr->Prop}{K:Fg}{H:Hp}:∀{ks:List Str}{l:List D}{vs:List V}{f:Str}{d:D},aV O K H l vs->wH ks l f=some d->∃v,(ks.zip vs).lookup f=some v/\Rep O K H d v
 |[],_,_,_,_,_,e=>by simp[wH]at e
 |_::_,[],_,_,_,_,e=>by simp[wH]at e
 |k0::ks,d0::l,_,f,d,h,e=>by
  obtain⟨v,vs,rfl,h1,h2⟩:=h
  rw[List.zip_cons_cons,List.lookup_cons]
  unfold wH at e
  rw[List.zip_cons_cons,List.lookup_cons]at e
  cases hk:f==k0 with
  |true=>
   rw[hk]at e
   cases e
   exact⟨v,rfl,h1⟩
  |false=>
   rw[hk]at e
   exact Jd h2 e
def R7 (C:Addr)(f:Str):D->Option D
 | .ins C' ks l=>if C'=C then wH ks l f else none
 |_=>none
theorem t7 {C:Addr}{f:Str}(c:Ew X.K C)(n:gK X.K C f)(he:ED X o Fo)(hb:attributeBase o f X.env (eval o X.env)=eval o X.env:=by rfl):ED X (.Attribute o f pos) (λρ=>(Fo ρ).bind (R7 C f)):=have he:=he.1; .mk<|PE.imp (YD he hb) λσ H Q ⟨O,ρ,d,w,R,e,q⟩=>by
 obtain⟨x,e1,e2⟩:=bind_some e
 refine⟨O,ρ,x,w,R,e1,λv H1 s1 r1=>?_⟩
 unfold R7 at e2
 split at e2
 ·rename_i C' ks l
  by_cases hC:C'=C
  case neg=>rw[if_neg hC]at e2;cases e2
  subst hC
  rw[if_pos rfl]at e2
  obtain⟨a,dx,vs,rfl,h1,hl,h2⟩:=r1
  obtain⟨u,e3,r3⟩:=Jd h2 e2
  exact⟨a,_,dx,_,u,rfl,h1,c,n,e3,q u H1 s1 r3⟩
 ·cases e2
end
section
variable {O O':Addr->Prop}{K:Fg}{H H':Hp}{a:Addr}
def uA (H H':Hp):Prop:=∀b xs,Rd H b (.tup xs)->Rd H' b (.tup xs)
mutual
theorem Rep.qW (k:uA H H'):∀(d:D) {v:V},flat d=true->Rep O K H d v->Rep O' K H' d v
 | .non,_,_,h=>h
 | .bl _,_,_,h=>h
 | .int _,_,_,h=>h
 | .str _,_,_,h=>h
 | .tup l,_,f,h=>by
   obtain⟨a,vs,e,h1,h2⟩:=h
   exact⟨a,vs,e,h1.imp (k _ _) id,aV.qW k l (by simpa only[flat]using f) h2⟩
 | .lst l,_,f,h=>by simp[flat]at f
 | .dct ks l,_,f,h=>by simp[flat]at f
 | .ins C ks l,_,f,h=>by simp[flat]at f
 | .uR l,_,f,h=>by simp[flat]at f
theorem aV.qW (k:uA H H'):∀(l:List D) {vs:List V},flat.flats l=true->aV O K H l vs->aV O' K H' l vs
 |[],_,_,h=>h
 |d::l,_,f,h=>by
  obtain⟨v,r,e,h1,h2⟩:=h
  simp only[flat.flats,Bool.and_eq_true]at f
  exact⟨v,r,e,Rep.qW k d f.1 h1,aV.qW k l f.2 h2⟩
end
theorem uA.upd {C dx:Addr}{fs:List (Str×V)}{o:HO}(h:H a=some (.ins C dx fs)):uA H (upd H a o):=λb xs z=>by
 have hb:b≠a:=λq=>by
  subst q
  rcases z with z|⟨_,z⟩<;>· rw[h]at z;cases z
 rcases z with z|⟨ob,z⟩
 ·exact .inl (by rw[bY hb];exact z)
 ·exact .inr ⟨ob,by rw[bY hb];exact z⟩
end
theorem JR:∀{ks:List Str}{vs:List V}{f:Str}{v:V},ks.length=vs.length->(ks.any λk=>decide (k=f))=false->rC f v (ks.zip vs)=(ks++[f]).zip (vs++[v])
 |[],[],_,_,_,_=>rfl
 |[],_::_,_,_,h,_=>by simp at h
 |_::_,[],_,_,h,_=>by simp at h
 |k::ks,u::vs,f,v,h,n=>by
  simp only[List.any_cons,Bool.or_eq_false_iff,decide_eq_false_iff_not]at n
  simp only[List.zip_cons_cons,List.cons_append,rC]
  rw[if_neg n.1,JR (by simpa using h) n.2]
def Aq (ρ:aK):Bool:=ρ.all λo=>match o with
 |some d=>flat d
 |none=>true
theorem KH {ρ:aK}{i:Nat}{d:D}(h:Aq ρ=true)(e:ρ[i]?=some (some d)):flat d=true:=by
 unfold Aq at h
 exact List.all_eq_true.mp h (some d) (List.mem_of_getElem? e)
def runInit:List (Str×(aK->Option D))->aK->List Str->List D->Option (List Str×List D)
 |[],_,ks,l=>some (ks,l)
 |(f,F)::r,ρ,ks,l=>(F ρ).bind λd=>if flat d=true/\(ks.any λk=>decide (k=f))=false/\ks.length<1000 then runInit r ρ (ks++[f]) (l++[d])else none
def O5 (K:Fg)(C:Addr)(steps:List (Str×(aK->Option D))):TS:=λE σ H=>∃(ρ:aK) (a dx:Addr) (ks:List Str) (l:List D) (vs:List V) (r:List Str×List D),
 σ[0]?=some (some (.ref a))/\H a=some (.ins C dx (ks.zip vs))/\ks.length=vs.length/\nA cj K H σ ρ/\Aq ρ=true/\aV cj K H l vs/\flat.flats l=true/\runInit steps ρ ks l=some r/\
 ∀H' vs',H' a=some (.ins C dx (r.1.zip vs'))->r.1.length=vs'.length->aV cj K H' r.2 vs'->flat.flats r.2=true->(∀b u,b≠a->H b=some u->H' b=some u)->E.nx σ H'
theorem G4 {d:D}:∀{l:List D},flat.flats l=true->flat d=true->flat.flats (l++[d])=true
 |[],_,h=>by simp[flat.flats,h]
 |x::l,h,hd=>by
  simp only[flat.flats,List.cons_append,Bool.and_eq_true]at h ⊢
  exact⟨h.1,G4 h.2 hd⟩
section
variable {X:Cx}{C:Addr}{e o:Expr}{pos pos':Pos}{F:aK->Option D}{rest:List Stmt}{steps:List (Str×(aK->Option D))}{f:Str}
theorem Rx:yF X [] (O5 X.K C []):=yF.imp Nv λE σ H ⟨ρ,a,dx,ks,l,vs,r,h0,h1,h2,h3,h4,h5,h6,h7,q⟩=>by
 cases h7
 exact q H vs h1 h2 h5 h6 λb u _ z=>z
theorem uE (c:Ew X.K C)(n:gK X.K C f)(ho:PE X o (Ep 0))(he:ED X e F)(hr:yF X rest (O5 X.K C steps))(hs:swapsWith e (some (.Attribute o f pos')) pos.line X.env=pure false:=by rfl):
 yF X (.Assign [.Attribute o f pos'] e pos::rest) (O5 X.K C ((f,F)::steps)):=have he:=he.1;yF.imp (JQ (YW ho he hs) hr) λE σ H ⟨ρ,a,dx,ks,l,vs,r,h0,h1,h2,h3,h4,h5,h6,h7,q⟩=>by
 simp only[runInit]at h7
 obtain⟨d,e1,h7⟩:=bind_some h7
 split at h7
 ·rename_i hz
  obtain⟨z1,z2,z3⟩:=hz
  refine⟨cj,ρ,d,eF,h3,e1,λy H1 s1 r1=>⟨_,h0,a,C,dx,_,rfl,s1 _ _ h1,c,n,by rw[List.length_zip];omega,?_⟩⟩
  have tk:uA H1 (upd H1 a (.ins C dx (rC f y (ks.zip vs)))):=uA.upd (s1 _ _ h1)
  refine⟨ρ,a,dx,ks++[f],l++[d],vs++[y],r,h0,?_,by simp[h2],λi d' e'=>?_,h4,?_,G4 h6 z1,h7,λH' vs' k1 k2 k3 k4 k5=>q H' vs' k1 k2 k3 k4 λb u hb z=>k5 b u hb (by rw[bY hb];exact s1 _ _ z)⟩
  ·rw[cH,JR h2 z2]
  ·obtain⟨v,a1,a2⟩:=h3 i d' e'
   exact⟨v,a1,Rep.qW tk d' (KH h4 e') (a2.mono s1)⟩
  ·exact(aV.qW tk l h6 (h5.mono s1)).append (aV.one (Rep.qW tk d z1 r1))
 ·cases h7
end
def Ia (K:Fg)(C:Addr)(F:List D->Option (List Str×List D)):Sp:=λvs H Q _=>∃a dx v' ds r,vs= .ref a::v'/\H a=some (.ins C dx [])/\aV cj K H ds v'/\flat.flats ds=true/\F ds=some r/\
 ∀H' vs',H' a=some (.ins C dx (r.1.zip vs'))->r.1.length=vs'.length->aV cj K H' r.2 vs'->flat.flats r.2=true->(∀b u,b≠a->H b=some u->H' b=some u)->Q .non H'
def Ky (n:Nat)(ds:List D):aK:=none::(ds.map some++List.replicate (n - 1 - ds.length) none)
theorem V8 {P:Program}{w:World}{K:Fg}{mg:Str->Option Value}{base:Heap}{x qual:Str}{st:Stmt}{f C:Addr}{fd:FuncData}{N ps:List Str}{k:Nat}{steps:List (Str×(aK->Option D))}(Fu:nW K x qual st f fd)(S:bI N ps (aF st))
 (hb:∀(cdv:Value) (A:Around) (outer:List Env) (s:Shared) (H:Hp) (E:XK),gY k (A.deeper (envOfC qual (aF st) s.heap.objs.size f cdv))->yF (yN j9 P w K mg base N qual (aF st) f cdv A outer s H E).QJ (bz st) (O5 K C steps)):
 cU P w K mg base j9 (k+1) f fd ps (Ia K C λds=>if ds.length+1=ps.length then runInit steps (Ky N.length ds) [] [] else none):=by
 refine Fu.ok S (λvs H Q E h=>?_) λcdv A outer s H vs Q E hr h=>⟨_,hb cdv A outer s H E hr,?_⟩
 ·obtain⟨a,dx,v',ds,r,rfl,h1,h2,h3,h4,q⟩:=h
  dsimp only at h4
  split at h4
  ·rename_i hl
   rw[List.length_cons,<-h2.length];exact hl
  ·cases h4
 ·obtain⟨a,dx,v',ds,r,rfl,h1,h2,h3,h4,q⟩:=h
  dsimp only at h4
  split at h4
  ·refine⟨Ky N.length ds,a,dx,[],[],[],r,rfl,h1,rfl,λi d e=>?_,?_,rfl,rfl,h4,λH' vs' k1 k2 k3 k4 k5=>q H' vs' k1 k2 k3 k4 k5⟩
   ·cases i with
    |zero=>simp[Ky]at e
    |succ i=>
     unfold Ky at e
     rw[List.getElem?_cons_succ]at e
     by_cases hi:i<ds.length
     ·rw[List.getElem?_append_left (by simpa using hi),List.getElem?_map]at e
      cases e1:ds[i]? with
      |none=>rw[e1]at e;cases e
      |some d'=>
       rw[e1]at e
       cases e
       obtain⟨v,e2,r2⟩:=h2.get e1
       refine⟨v,?_,r2⟩
       have hlt:=(List.getElem?_eq_some_iff.mp e2).1
       unfold L2.start
       rw[List.getElem?_append_left (by simpa using hlt),List.getElem?_map,List.getElem?_cons_succ,e2]
       rfl
     ·rw[List.getElem?_append_right (by simpa using hi),List.getElem?_replicate]at e
      split at e<;>cases e
   ·unfold Aq Ky
    rw[List.all_cons,List.all_append,Bool.true_and,Bool.and_eq_true,List.all_eq_true,List.all_eq_true]
    refine⟨λo ho=>?_,λo ho=>?_⟩
    ·obtain⟨d,hd,rfl⟩:=List.mem_map.mp ho
     exact yQ h3 hd
    ·rw[List.eq_of_mem_replicate ho]
  ·cases h4
section
variable {X:Cx}{k:Nat}{f C:Addr}{fd:FuncData}{ps:List Str}{ds:List Value}{x:Str}{p pos:Pos}{e:Expr}{es:List Expr}{Fs:aK->Option (List D)}{F:List D->Option (List Str×List D)}
theorem V4 (M:Mk X.K C f)(Fo:cU X.prog X.w X.K X.mg X.base j9 k f fd ps (Ia X.K C F))(hr:gY (k+1) X.A)(hg:Gl X x)(hm:X.mg x=some (.ref C))(hb:Binds X.K fd ps [])(ha:DQ X (e::es) Fs)
 (hdb:(x==("__debug__":Str))=false:=by decide)(he:starEach (e::es) X.env=(false,eval e X.env)::starEach es X.env:=by rfl)(hpl:(backTo pos (starEach es X.env)).any (·.1)=false:=by rfl):
 ED X (.Call (.Name x p) (e::es) [] pos) (λρ=>(Fs ρ).bind λl=>if flat.flats l=true then(F l).map λr=> .ins C r.1 r.2 else none):=have ha:=ha.1; .mk<|PE.imp (VR (E:=E0) M Fo hr hg hm hb .nil JM ha hdb he hpl) λσ H Q ⟨O,ρ,d,w,R,e,q⟩=>by
 obtain⟨l,e1,e2⟩:=bind_some e
 split at e2
 ·rename_i hf
  cases e3:F l with
  |none=>rw[e3]at e2;cases e2
  |some r=>
   rw[e3]at e2
   cases e2
   refine⟨O,ρ,l,w,R,e1,λvs H1 s1 r1 a dx ha hdx hne=>?_⟩
   have sm:bV H1 (upd (upd H1 dx (.own a)) a (.ins C dx [])):=λb u z=>by
    rw[bY (cM z ha),bY (cM z hdx)];exact z
   refine⟨a,dx,vs,l,r,by rw[List.append_nil],cH,aV.cX l hf (r1.mono sm),hf,e3,λH' vs' k1 k2 k3 k4 k5=>⟨rfl,?_⟩⟩
   exact q _ H' (λb u z=>k5 b u (cM (s1 _ _ z) ha) (sm _ _ (s1 _ _ z))) ⟨a,dx,vs',rfl,k1,k2,aV.cX _ k4 k3⟩
 ·cases e2
end
def chg (cs:List (Nat×List D))(ρ:bw):bw:=ρ.mapIdx λi o=>match o with
 |some (.own l fr tg)=>some (.own ((cs.lookup i).getD l) fr tg)
 |o=>o
section
variable {O:Addr->Prop}{K:Fg}{H₀ H H':Hp}{σ:L2.St}{ρ:bw}{γ:List Gh}{cs:List (Nat×List D)}
theorem fD.turns (h:fD O K H₀ H σ ρ γ)
 (hch:∀i l',cs.lookup i=some l'->∃l fr tg p vs',ρ[i]?=some (some (.own l fr tg))/\σ[i]?=some (some (.ref p))/\H' p=some (.lst vs')/\aV cj K H' l' vs'/\flat.flats l'=true)
 (hkp:∀b u,H b=some u->(∀i l',cs.lookup i=some l'->σ[i]?≠some (some (.ref b)))->H' b=some u):fD O K H₀ H' σ (chg cs ρ) γ:=by
 have own:∀i l',cs.lookup i=some l'->∃p vs,σ[i]?=some (some (.ref p))/\O p/\H p=some (.lst vs):=λi l' e=>by
  obtain⟨l,fr,tg,p,vs',e1,e2,_⟩:=hch i l' e
  obtain⟨v,e3,q,vs,rfl,hO,hp,_⟩:=h.rel i _ e1
  rw[e2]at e3;cases e3
  exact⟨p,vs,e2,hO,hp⟩
 have kp:∀f,pP (AV f O H₀) H H':=λf b u e=>by
  by_cases hc:∃i l',cs.lookup i=some l'/\σ[i]?=some (some (.ref b))
  ·obtain⟨i,l',e1,e2⟩:=hc
   obtain⟨p,vs,e3,hO,hp⟩:=own i l' e1
   rw[e2]at e3;cases e3
   rw[hp]at e;cases e
   exact .inr ⟨.inl hO,.inl ⟨_,rfl⟩⟩
  ·exact .inl (hkp b u e λi l' e1 e2=>hc ⟨i,l',e1,e2⟩)
 have at_:∀{i:Nat}{m:L},(chg cs ρ)[i]?=some (some m)->(∃l fr tg,ρ[i]?=some (some (.own l fr tg))/\m= .own ((cs.lookup i).getD l) fr tg)\/(ρ[i]?=some (some m)/\∀l fr tg,m≠ .own l fr tg):=λ{i m} e=>by
  unfold chg at e
  rw[List.getElem?_mapIdx]at e
  cases e1:ρ[i]? with
  |none=>rw[e1]at e;cases e
  |some o=>
   rw[e1]at e
   cases o with
   |none=>cases e
   |some m'=>
    cases m' with
    |own l fr tg=>cases e;exact .inl ⟨l,fr,tg,rfl,rfl⟩
    |val d f=>cases e;exact .inr ⟨rfl,λ_ _ _ z=>nomatch z⟩
    |jx ks l f=>cases e;exact .inr ⟨rfl,λ_ _ _ z=>nomatch z⟩
 refine⟨λb u e=>hkp b u (h.same b u e) λi l' e1 e2=>?_,λb z e=>?_,h.new,λi m e=>?_,λi j m n p e1 o1 e2 e3 o2 e4=>?_,by unfold chg;rw[List.length_mapIdx];exact h.len,λg hg ht=>Rep.keep (λ_ z=>z) (kp g.fr) _ (h.gh g hg ht),λi l fr t e=>?_⟩
 ·obtain⟨p,vs,e3,hO,hp⟩:=own i l' e1
  rw[e2]at e3;cases e3
  rw[h.new _ hO]at e;cases e
 ·cases e1:H b with
  |none=>exact h.wi b z e1
  |some u=>
   by_cases hc:∃i l',cs.lookup i=some l'/\σ[i]?=some (some (.ref b))
   ·obtain⟨i,l',e2,e3⟩:=hc
    obtain⟨l,fr,tg,p,vs',_,e4,e5,_⟩:=hch i l' e2
    rw[e3]at e4;cases e4
    rw[e5]at e;cases e
   ·rw[hkp b u e1 λi l' e2 e3=>hc ⟨i,l',e2,e3⟩]at e;cases e
 ·rcases at_ e with⟨l,fr,tg,e1,rfl⟩|⟨e1,ne⟩
  ·obtain⟨v,e2,p,vs,rfl,hO,hp,r⟩:=h.rel i _ e1
   cases e3:cs.lookup i with
   |some l'=>
    obtain⟨l0,fr0,tg0,p0,vs',_,e5,e6,e7,e8⟩:=hch i l' e3
    rw[e2]at e5;cases e5
    exact⟨_,e2,p,vs',rfl,hO,e6,by rw[Option.getD_some];exact aV.cX l' e8 e7⟩
   |none=>
    refine⟨_,e2,p,vs,rfl,hO,hkp p _ hp λj l' e4 e5=>?_,by rw[Option.getD_none];exact aV.keep (λ_ z=>z) (kp fr) l r⟩
    obtain⟨l0,fr0,tg0,p0,vs',e6,_⟩:=hch j l' e4
    have:=h.apart i j _ _ p e1 rfl e2 e6 rfl e5
    subst this
    rw[e3]at e4;cases e4
  ·obtain⟨v,e2,b⟩:=h.rel i m e1
   refine⟨v,e2,?_⟩
   cases m with
   |own l f tg=>exact absurd rfl (ne l f tg)
   |val d f=>exact Rep.keep (λ_ z=>z) (kp f) d b
   |jx ks l f=>
    obtain⟨p,vs,rfl,hO,hp,hl,r⟩:=b
    refine⟨p,vs,rfl,hO,hkp p _ hp λj l' e4 e5=>?_,hl,aV.keep (λ_ z=>z) (kp f) l r⟩
    obtain⟨q,us,e6,_,e7⟩:=own j l' e4
    rw[e5]at e6;cases e6
    rw[hp]at e7;cases e7
 ·have back:∀{i:Nat}{m:L},(chg cs ρ)[i]?=some (some m)->m.isOwn=true->∃m',ρ[i]?=some (some m')/\m'.isOwn=true:=λ{i m} e o=>by
   rcases at_ e with⟨l,fr,tg,e1,rfl⟩|⟨e1,_⟩
   ·exact⟨_,e1,rfl⟩
   ·exact⟨m,e1,o⟩
  obtain⟨m',f1,g1⟩:=back e1 o1
  obtain⟨n',f2,g2⟩:=back e3 o2
  exact h.apart i j m' n' p f1 g1 e2 f2 g2 e4
 ·rcases at_ e with⟨l0,fr0,tg0,e1,e2⟩|⟨e1,ne⟩
  ·cases e2
   exact h.tag i _ _ t e1
  ·exact absurd rfl (ne l fr (some t))
end
inductive Arg where
 |val (F:aK->Option D)
 |own (j:Nat)
def a1S (K:Fg):Arg->TE
 | .val F=>tD K F
 | .own j=>Ep j
def TX (K:Fg):List Arg->TA
 |[]=>Zm
 |a::r=>Xm (a1S K a) (TX K r)
structure Ez (X:Cx)(es:List Expr)(as:List Arg):Prop where
 mk::(h:PA X es (TX X.K as))
section
variable {X:Cx}{e:Expr}{es:List Expr}{as:List Arg}{F:aK->Option D}
theorem Qg:Ez X [] []:= .mk<|zm
theorem zp (he:ED X e F)(h:Ez X es as)(hs:starEach (e::es) X.env=(false,eval e X.env)::starEach es X.env:=by rfl):Ez X (e::es) (.val F::as):=have he:=he.1;have h:=h.1; .mk<|pF he h hs
theorem Gi (j:Nat)(he:PE X e (Ep j))(h:Ez X es as)(hs:starEach (e::es) X.env=(false,eval e X.env)::starEach es X.env:=by rfl):Ez X (e::es) (.own j::as):=have h:=h.1; .mk<|pF he h hs
end
def jY:List Arg->bw->Option (List D)
 |[],_=>some []
 | .val F::r,ρ=>(F (vis ρ)).bind λd=>if flat d=true then(jY r ρ).map λl=>d::l else none
 | .own j::r,ρ=>match ρ[j]? with
   |some (some (.own l _ _))=>if flat.flats l=true then(jY r ρ).map λl'=> .lst l::l' else none
   |_=>none
def Io (σ:L2.St):List Arg->List D->List V->Prop
 |[],[],[]=>True
 | .val _::as,d::ds,_::vs=>flat d=true/\Io σ as ds vs
 | .own j::as,d::ds,v::vs=>(∃l,d= .lst l/\flat.flats l=true)/\σ[j]?=some (some v)/\Io σ as ds vs
 |_,_,_=>False
theorem GF {O:Addr->Prop}{K:Fg}{H₀:Hp}{σ:L2.St}{ρ:bw}{γ:List Gh}:∀(as:List Arg) {H:Hp}{ds:List D}{Q:List V->Hp->Prop},fD O K H₀ H σ ρ γ->jY as ρ=some ds->
 (∀vs H',bV H H'->aV cj K H' ds vs->Io σ as ds vs->Q vs H')->TX K as σ H Q
 |[],H,ds,Q,R,e,q=>by
  cases e
  exact q [] H (bV.refl H) rfl trivial
 | .val F::r,H,ds,Q,R,e,q=>by
   simp only[jY]at e
   obtain⟨d,e1,e⟩:=bind_some e
   split at e
   ·rename_i hf
    cases e2:jY r ρ with
    |none=>rw[e2]at e;cases e
    |some l=>
     rw[e2]at e
     cases e
     refine⟨cj,vis ρ,d,eF,R.vis,e1,λv H1 s1 r1=>?_⟩
     exact GF r (R.mono s1) e2 λvs H2 s2 r2 ok=>q (v::vs) H2 (s1.trans s2) ⟨v,vs,rfl,r1.mono s2,r2⟩ ⟨hf,ok⟩
   ·cases e
 | .own j::r,H,ds,Q,R,e,q=>by
   simp only[jY]at e
   split at e
   ·rename_i l fr tg e1
    split at e
    ·rename_i hf
     cases e2:jY r ρ with
     |none=>rw[e2]at e;cases e
     |some l'=>
      rw[e2]at e
      cases e
      obtain⟨v,e3,p,vs0,rfl,hO,hp,r0⟩:=R.rel j _ e1
      refine⟨_,e3,?_⟩
      exact GF r R e2 λvs H2 s2 r2 ok=>q (.ref p::vs) H2 s2 ⟨_,vs,rfl,⟨p,vs0,rfl,⟨s2 _ _ hp,λz=>z⟩,(aV.cX l hf r0).mono s2⟩,r2⟩ ⟨⟨l,rfl,hf⟩,e3,ok⟩
    ·cases e
   ·cases e
def mZ:Nat->List Arg->List (Nat×Nat)
 |_,[]=>[]
 |k,.val _::r=>mZ (k+1) r
 |k,.own j::r=>(k,j)::mZ (k+1) r
theorem wK:∀(as:List Arg) {k i j:Nat},(i,j)∈mZ k as->k<=i
 |[],_,_,_,h=>by cases h
 | .val _::r,k,i,j,h=>by have:=wK r (k:=k+1) h;omega
 | .own j'::r,k,i,j,h=>by
   rcases List.mem_cons.mp h with h|h
   ·cases h;exact Nat.le_refl _
   ·have:=wK r (k:=k+1) h;omega
theorem Bk {σ:L2.St}:∀(as:List Arg) {k i j:Nat}{ds:List D}{vs:List V},Io σ as ds vs->(k+i,j)∈mZ k as->∃v l,vs[i]?=some v/\σ[j]?=some (some v)/\ds[i]?=some (.lst l)/\flat.flats l=true
 |[],_,_,_,_,_,_,h=>by cases h
 | .val _::r,k,i,j,[],vs,ok,h=>by cases vs<;>exact False.elim ok
 | .val _::r,k,i,j,d::ds,[],ok,h=>False.elim ok
 | .val _::r,k,i,j,d::ds,v::vs,ok,h=>by
   have hge:=wK r (k:=k+1) h
   obtain⟨i',rfl⟩:∃i',i=i'+1:=⟨i - 1,by omega⟩
   obtain⟨v',l,e1,e2,e3,e4⟩:=Bk r (k:=k+1) (i:=i') ok.2 (by rw[show k+1+i'=k+(i'+1) by omega];exact h)
   exact⟨v',l,by simpa using e1,e2,by simpa using e3,e4⟩
 | .own _::r,k,i,j,[],vs,ok,h=>by cases vs<;>exact False.elim ok
 | .own _::r,k,i,j,d::ds,[],ok,h=>False.elim ok
 | .own j'::r,k,i,j,d::ds,v::vs,ok,h=>by
   obtain⟨⟨l,rfl,hl⟩,e0,ok⟩:=ok
   rcases List.mem_cons.mp h with h|h
   ·have hi:i=0:=by have:=(Prod.mk.inj h).1;omega
    have hj:=(Prod.mk.inj h).2
    subst hi;subst hj
    exact⟨v,l,rfl,e0,rfl,hl⟩
   ·have hge:=wK r (k:=k+1) h
    obtain⟨i',rfl⟩:∃i',i=i'+1:=⟨i - 1,by omega⟩
    obtain⟨v',l',e1,e2,e3,e4⟩:=Bk r (k:=k+1) (i:=i') ok (by rw[show k+1+i'=k+(i'+1) by omega];exact h)
    exact⟨v',l',by simpa using e1,e2,by simpa using e3,e4⟩
theorem vC {σ:L2.St}:∀(as:List Arg) {k i:Nat}{d:D}{ds:List D}{vs:List V},Io σ as ds vs->ds[i]?=some d->(∀j,(k+i,j)∉mZ k as)->flat d=true
 |[],_,_,_,[],_,_,e,_=>by simp at e
 |[],_,_,_,_::_,vs,ok,_,_=>by cases vs<;>exact False.elim ok
 | .val _::r,k,i,d,[],vs,ok,e,h=>by simp at e
 | .val _::r,k,i,d,d0::ds,[],ok,e,h=>False.elim ok
 | .val _::r,k,i,d,d0::ds,v::vs,ok,e,h=>by
   cases i with
   |zero=>simp at e;subst e;exact ok.1
   |succ i=>exact vC r (k:=k+1) ok.2 (by simpa using e) λj hj=>h j (by rw[show k+(i+1)=k+1+i by omega];exact hj)
 | .own _::r,k,i,d,[],vs,ok,e,h=>by simp at e
 | .own _::r,k,i,d,d0::ds,[],ok,e,h=>False.elim ok
 | .own j'::r,k,i,d,d0::ds,v::vs,ok,e,h=>by
   cases i with
   |zero=>exact absurd (List.mem_cons_self) (h j')
   |succ i=>exact vC r (k:=k+1) ok.2.2 (by simpa using e) λj hj=>h j (by rw[show k+(i+1)=k+1+i by omega];exact List.mem_cons_of_mem _ hj)
theorem oR {ρ:bw}:∀(as:List Arg) {k i j:Nat}{ds:List D},jY as ρ=some ds->(i,j)∈mZ k as->∃l fr tg,ρ[j]?=some (some (.own l fr tg))
 |[],_,_,_,_,_,h=>by cases h
 | .val F::r,k,i,j,ds,e,h=>by
   simp only[jY]at e
   obtain⟨d,e1,e⟩:=bind_some e
   split at e
   ·cases e2:jY r ρ with
    |none=>rw[e2]at e;cases e
    |some l=>exact oR r (k:=k+1) e2 h
   ·cases e
 | .own j'::r,k,i,j,ds,e,h=>by
   simp only[jY]at e
   split at e
   ·rename_i l fr tg e1
    split at e
    ·cases e2:jY r ρ with
     |none=>rw[e2]at e;cases e
     |some l'=>
      rcases List.mem_cons.mp h with h|h
      ·have:=(Prod.mk.inj h).2
       subst this
       exact⟨l,fr,tg,e1⟩
      ·exact oR r (k:=k+1) e2 h
    ·cases e
   ·cases e
def Hu:List Nat->Bool
 |[]=>true
 |k::l=>!l.contains k&&Hu l
theorem CG:∀{ps:List (Nat×Nat)}{m n j:Nat},Hu (ps.map (·.2))=true->(m,j)∈ps->(n,j)∈ps->m=n
 |[],_,_,_,_,h,_=>by cases h
 |(a,b)::ps,m,n,j,hn,h1,h2=>by
  simp only[List.map_cons,Hu,Bool.and_eq_true,Bool.not_eq_true',List.contains_eq_mem,decide_eq_false_iff_not]at hn
  rcases List.mem_cons.mp h1 with h1|h1
  ·rcases List.mem_cons.mp h2 with h2|h2
   ·rw[(Prod.mk.inj h1).1,(Prod.mk.inj h2).1]
   ·exfalso
    rw[(Prod.mk.inj h1).2]at h2
    exact hn.1 (List.mem_map.mpr ⟨_,h2,rfl⟩)
  ·rcases List.mem_cons.mp h2 with h2|h2
   ·exfalso
    rw[(Prod.mk.inj h2).2]at h1
    exact hn.1 (List.mem_map.mpr ⟨_,h1,rfl⟩)
   ·exact CG hn.2 h1 h2
theorem Ck {α:Type}:∀{js:List Nat}{outs:List α}{j:Nat}{l:α},(js.zip outs).lookup j=some l->∃n:Nat,js[n]?=some j/\outs[n]?=some l
 |[],_,_,_,e=>by simp at e
 |_::_,[],_,_,e=>by simp at e
 |a::js,b::outs,j,l,e=>by
  rw[List.zip_cons_cons,List.lookup_cons]at e
  cases hk:j==a with
  |true=>
   rw[hk]at e
   cases e
   exact⟨0,by rw[beq_iff_eq.mp hk];rfl,rfl⟩
  |false=>
   rw[hk]at e
   obtain⟨n,e1,e2⟩:=Ck e
   exact⟨n+1,by simpa using e1,by simpa using e2⟩
theorem lookup_mem {α:Type}:∀{js:List Nat}{outs:List α}{j:Nat},js.length=outs.length->j∈js->∃l,(js.zip outs).lookup j=some l
 |[],_,_,_,h=>by cases h
 |_::_,[],_,h,_=>by simp at h
 |a::js,b::outs,j,hl,h=>by
  rw[List.zip_cons_cons,List.lookup_cons]
  cases hk:j==a with
  |true=>exact⟨b,rfl⟩
  |false=>
   rcases List.mem_cons.mp h with h|h
   ·rw[h]at hk;simp at hk
   ·exact lookup_mem (by simpa using hl) h
def TJ (K:Fg)(io:List Nat)(F:List D->Option (D×List (List D))):Sp:=λvs H Q _=>∃ds d outs,aV cj K H ds vs/\
 (∀i,i∈io->∃l,ds[i]?=some (.lst l)/\flat.flats l=true)/\(∀i d,ds[i]?=some d->i∉io->flat d=true)/\(∀m n,m∈io->n∈io->vs[m]?=vs[n]?->m=n)/\F ds=some (d,outs)/\
 ∀v H',(∀b u,H b=some u->(∀i,i∈io->vs[i]?≠some (.ref b))->H' b=some u)->Rep cj K H' d v->flat d=true->
  (∀(n i:Nat) (l':List D),io[n]?=some i->outs[n]?=some l'->∃p vs',vs[i]?=some (.ref p)/\H' p=some (.lst vs')/\aV cj K H' l' vs'/\flat.flats l'=true)->Q v H'
def wG (as:List Arg)(F:List D->Option (D×List (List D)))(T:D->Bool->bw->Option bw):bw->Option DR:=λρ=>(jY as ρ).bind λds=>if Hu ((mZ 0 as).map (·.2))=true then
 (F ds).bind λr=>if r.2.length=(mZ 0 as).length then(T r.1 true (chg (((mZ 0 as).map (·.2)).zip r.2) ρ)).map .nx else none else none
section
variable {X:Cx}{H₀:Hp}{k:Nat}{f:Addr}{fd:FuncData}{ps:List Str}{x:Str}{p pos cpos:Pos}{e tg:Expr}{es:List Expr}{as:List Arg}{io:List Nat}{F:List D->Option (D×List (List D))}{T:D->Bool->bw->Option bw}
theorem Qn (Fo:cU X.prog X.w X.K X.mg X.base j9 k f fd ps (TJ X.K io F))(hio:(mZ 0 as).map (·.1)=io)(hr:gY k X.A)(hg:Gl X x)(hm:X.mg x=some (.ref f))(hk:PySem.W.keepIn X.K (.ref f)=true)(hb:Binds X.K fd ps [])(ha:Ez X (e::es) as)(ht:EG X H₀ tg T)
 (hdb:(x==("__debug__":Str))=false:=by decide)(he:starEach (e::es) X.env=(false,eval e X.env)::starEach es X.env:=by rfl)(hpl:(backTo cpos (starEach es X.env)).any (·.1)=false:=by rfl)
 (hs:swapsWithSole [tg] (.Call (.Name x p) (e::es) [] cpos) pos.line X.env=pure false:=by rfl)(hw:swappedStores [tg] (.Call (.Name x p) (e::es) [] cpos) X.env=pure none:=by rfl)(h1:(assignEach [tg] X.env).map (·.2)=[assign tg X.env]:=by rfl):
 SD X (.Assign [tg] (.Call (.Name x p) (e::es) [] cpos) pos) H₀ (wG as F T):=have ha:=ha.1;have ht:=ht.1; .mk<|PS.imp (Lz (HH (E:=E0) Fo hr hg hm hk hb .nil JM ha hdb he hpl) ht hs hw h1) λE σ H ⟨ρ,γ,r,⟨O,R⟩,e,q⟩=>by
 obtain⟨ds,e1,e⟩:=bind_some e
 split at e
 case isFalse=>cases e
 rename_i hnd
 obtain⟨⟨d,outs⟩,e2,e⟩:=bind_some e
 split at e
 case isFalse=>cases e
 rename_i hlen
 cases e3:T d true (chg (((mZ 0 as).map (·.2)).zip outs) ρ)with
 |none=>simp only[e3]at e;cases e
 |some yH=>
  simp only[e3]at e
  cases e
  refine GF as R e1 λvs H1 s1 r1 ok=>?_
  have R1:=R.mono s1
  have W6:∀{i:Nat},i∈io->∃j,(i,j)∈mZ 0 as:=λ{i} hi=>by
   rw[<-hio]at hi
   obtain⟨⟨i',j⟩,hm,rfl⟩:=List.mem_map.mp hi
   exact⟨j,hm⟩
  have io_:∀{i j:Nat},(i,j)∈mZ 0 as->i∈io:=λ{i j} h=>by
   rw[<-hio]
   exact List.mem_map.mpr ⟨_,h,rfl⟩
  have U8:∀{i j:Nat},(i,j)∈mZ 0 as->∃v l,vs[i]?=some v/\σ[j]?=some (some v)/\ds[i]?=some (.lst l)/\flat.flats l=true:=λ{i j} h=>Bk as (k:=0) ok (by rw[Nat.zero_add];exact h)
  refine⟨ds,d,outs,by rw[List.append_nil];exact r1,λi hi=>?_,λi d' hd hn=>?_,λm n hm hn hv=>?_,e2,λv H' keep rv hfd ho=>?_⟩
  ·obtain⟨j,hj⟩:=W6 hi
   obtain⟨v,l,_,_,a1,a2⟩:=U8 hj
   exact⟨l,a1,a2⟩
  ·exact vC as (k:=0) ok hd λj hj=>hn (io_ (by rw[Nat.zero_add]at hj;exact hj))
  ·rw[List.append_nil]at hv
   obtain⟨j,hj⟩:=W6 hm
   obtain⟨j',hj'⟩:=W6 hn
   obtain⟨v,l,a1,a2,_⟩:=U8 hj
   obtain⟨v',l',b1,b2,_⟩:=U8 hj'
   rw[a1,b1]at hv
   cases hv
   obtain⟨l1,fr1,tg1,c1⟩:=oR as e1 hj
   obtain⟨l2,Zz,tg2,c2⟩:=oR as e1 hj'
   obtain⟨w1,d1,p1,_,rfl,_⟩:=R1.rel j _ c1
   rw[a2]at d1;cases d1
   have:=R1.apart j j' _ _ p1 c1 rfl a2 c2 rfl b2
   subst this
   exact CG hnd hj hj'
  ·have R2:fD O X.K H₀ H' σ (chg (((mZ 0 as).map (·.2)).zip outs) ρ) γ:=by
    refine R1.turns (λj l' hl=>?_) (λb u hb hnb=>keep b u hb λi hi hv=>?_)
    ·obtain⟨n,a1,a2⟩:=Ck hl
     rw[List.getElem?_map]at a1
     cases a3:(mZ 0 as)[n]? with
     |none=>rw[a3]at a1;cases a1
     |some ij=>
      rw[a3]at a1
      obtain⟨i,j'⟩:=ij
      cases a1
      have hmem:=List.mem_of_getElem? a3
      obtain⟨q1,vs',b1,b2,b3,b4⟩:=ho n i l' (by rw[<-hio,List.getElem?_map,a3];rfl) a2
      rw[List.append_nil]at b1
      obtain⟨v',l0,c1,c2,_⟩:=U8 hmem
      rw[b1]at c1;cases c1
      obtain⟨l1,fr1,tg1,d1⟩:=oR as e1 hmem
      exact⟨l1,fr1,tg1,q1,vs',d1,c2,b2,b3,b4⟩
    ·rw[List.append_nil]at hv
     obtain⟨j,hj⟩:=W6 hi
     obtain⟨v',l0,c1,c2,_⟩:=U8 hj
     rw[hv]at c1;cases c1
     obtain⟨l',hl⟩:=lookup_mem (js:=(mZ 0 as).map (·.2)) (outs:=outs) (j:=j) (by rw[List.length_map];exact hlen.symm) (List.mem_map.mpr ⟨_,hj,rfl⟩)
     exact hnb j l' hl c2
   exact⟨O,_,yH,γ,d,true,R2,Rep.cX d hfd rv,e3,λσ' R'=>q σ' H' ⟨O,R'⟩⟩
end
def BW:List Nat->Nat->Nat->Option Nat
 |[],_,_=>none
 |a::io,n,i=>if a=i then some n else BW io (n+1) i
theorem Jk:∀{io:List Nat}{n i t:Nat},BW io n i=some t->∃m,t=n+m/\io[m]?=some i
 |[],_,_,_,h=>by simp[BW]at h
 |a::io,n,i,t,h=>by
  simp only[BW]at h
  split at h
  ·rename_i e
   cases h
   exact⟨0,by simp,by rw[e];rfl⟩
  ·obtain⟨m,e1,e2⟩:=Jk h
   exact⟨m+1,by omega,by simpa using e2⟩
theorem BX:∀{io:List Nat}{n i:Nat},BW io n i=none->i∉io
 |[],_,_,_=>by simp
 |a::io,n,i,h=>by
  simp only[BW]at h
  split at h
  ·cases h
  ·rename_i e
   intro z
   rcases List.mem_cons.mp z with z|z
   ·exact e z.symm
   ·exact BX h z
def Dp (io:List Nat)(i:Nat)(d:D):Option L:=match BW io 0 i with
 |some t=>match d with
  | .lst l=>some (.own l true (some t))
  |_=>none
 |none=>some (.val d true)
def mU (io:List Nat)(n:Nat)(ds:List D):bw:=ds.mapIdx (Dp io)++List.replicate (n - ds.length) none
def pD:List Nat->Nat->bw->Option (List (List D))
 |[],_,_=>some []
 |i::io,n,ρ=>match ρ[i]? with
  |some (some (.own l _ (some t)))=>if t=n/\flat.flats l=true then(pD io (n+1) ρ).map λr=>l::r else none
  |_=>none
theorem JK {ρ:bw}:∀{io:List Nat}{n m i:Nat}{outs:List (List D)}{l:List D},pD io n ρ=some outs->io[m]?=some i->outs[m]?=some l->(∃fr,ρ[i]?=some (some (.own l fr (some (n+m)))))/\flat.flats l=true
 |[],_,_,_,_,_,_,e,_=>by simp at e
 |a::io,n,m,i,outs,l,h,e1,e2=>by
  simp only[pD]at h
  split at h
  ·rename_i l0 fr t e3
   split at h
   ·rename_i hc
    cases e4:pD io (n+1) ρ with
    |none=>rw[e4]at h;cases h
    |some r=>
     rw[e4]at h
     cases h
     cases m with
     |zero=>
      simp at e1 e2
      subst e1;subst e2
      exact⟨⟨fr,by rw[e3,hc.1];rfl⟩,hc.2⟩
     |succ m=>
      have:=JK e4 (m:=m) (i:=i) (l:=l) (by simpa using e1) (by simpa using e2)
      rw[show n+1+m=n+(m+1) by omega]at this
      exact this
   ·cases h
  ·cases h
def FN (io:List Nat):Option DR->Option (D×List (List D))
 |some (.rt d _ ρ)=>if flat d=true then(pD io 0 ρ).map λo=>(d,o)else none
 |some (.nx ρ)=>(pD io 0 ρ).map λo=>(.non,o)
 |_=>none
open Classical in
noncomputable def hidden (io:List Nat)(vs:List V)(H:Hp):Hp:=λb=>if ∃i,i∈io/\vs[i]?=some (.ref b)then none else H b
theorem Jg {io:List Nat}{vs:List V}{H:Hp}:bV (hidden io vs H) H:=λb u e=>by
 unfold hidden at e
 split at e
 ·cases e
 ·exact e
theorem K9 {K:Fg}{H:Hp}{N:List Str}{io:List Nat}{ds:List D}{vs:List V}(h:aV cj K H ds vs)(h1:∀i,i∈io->∃l,ds[i]?=some (.lst l)/\flat.flats l=true)(h2:∀i d,ds[i]?=some d->i∉io->flat d=true)
 (h3:∀m n,m∈io->n∈io->vs[m]?=vs[n]?->m=n):
 fD (λb=>∃i,i∈io/\vs[i]?=some (.ref b)) K (hidden io vs H) H (L2.start N vs) (mU io N.length ds) (io.mapIdx λn i=>⟨.non,true,(vs[i]?).getD .non,some n⟩):=by
 have hl:=h.length
 have at_:∀{i:Nat}{m:L},(mU io N.length ds)[i]?=some (some m)->∃d v,ds[i]?=some d/\vs[i]?=some v/\(L2.start N vs)[i]?=some (some v)/\Rep cj K H d v/\Dp io i d=some m:=λ{i m} e=>by
  unfold mU at e
  by_cases hi:i<ds.length
  ·rw[List.getElem?_append_left (by simpa using hi),List.getElem?_mapIdx]at e
   cases e1:ds[i]? with
   |none=>rw[e1]at e;cases e
   |some d=>
    rw[e1]at e
    have e':Dp io i d=some m:=by simpa using e
    obtain⟨v,e2,r⟩:=h.get e1
    refine⟨d,v,rfl,e2,?_,r,e'⟩
    unfold L2.start
    rw[List.getElem?_append_left (by simpa using(by omega:i<vs.length)),List.getElem?_map,e2]
    rfl
  ·rw[List.getElem?_append_right (by simpa using hi),List.getElem?_replicate]at e
   split at e<;>cases e
 have VG:∀{i:Nat}{d:D}{m:L},Dp io i d=some m->(∃l t,d= .lst l/\m= .own l true (some t)/\io[t]?=some i)\/(m= .val d true/\i∉io):=λ{i d m} e=>by
  unfold Dp at e
  split at e
  ·rename_i t ht
   obtain⟨t',e1,e2⟩:=Jk ht
   rw[Nat.zero_add]at e1
   subst e1
   split at e
   ·cases e;exact .inl ⟨_,_,rfl,rfl,e2⟩
   ·cases e
  ·rename_i ht
   cases e
   exact .inr ⟨rfl,BX ht⟩
 refine⟨Jg,λb z e=>?_,λb z=>?_,λi m e=>?_,λi j m n p e1 o1 e2 e3 o2 e4=>?_,?_,λg hg ht=>?_,λi l fr t e=>?_⟩
 ·obtain⟨i,hi,hv⟩:=z
  obtain⟨l,e1,_⟩:=h1 i hi
  obtain⟨v,e2,r⟩:=h.get e1
  rw[hv]at e2;cases e2
  obtain⟨p,us,e3,⟨e4,_⟩,_⟩:=r
  cases e3
  rw[e]at e4;cases e4
 ·unfold hidden
  rw[if_pos z]
 ·obtain⟨d,v,e1,e2,e3,r,e4⟩:=at_ e
  refine⟨v,e3,?_⟩
  rcases VG e4 with⟨l,t,rfl,rfl,ht⟩|⟨rfl,hn⟩
  ·obtain⟨p,us,rfl,⟨hp,_⟩,rs⟩:=r
   have hi:=List.mem_of_getElem? ht
   obtain⟨l',e5,hf⟩:=h1 i hi
   rw[e1]at e5;cases e5
   exact⟨p,us,rfl,⟨i,hi,e2⟩,hp,aV.cX l hf rs⟩
  ·exact Rep.cX d (h2 i d e1 hn) r
 ·obtain⟨d,v,a1,a2,a3,_,a4⟩:=at_ e1
  obtain⟨d',v',b1,b2,b3,_,b4⟩:=at_ e3
  rcases VG a4 with⟨l,t,rfl,rfl,ht⟩|⟨rfl,hn⟩
  ·rcases VG b4 with⟨l',t',rfl,rfl,ht'⟩|⟨rfl,hn⟩
   ·rw[a3]at e2;cases e2
    rw[b3]at e4;cases e4
    exact h3 i j (List.mem_of_getElem? ht) (List.mem_of_getElem? ht') (by rw[a2,b2])
   ·cases o2
  ·cases o1
 ·unfold L2.start mU
  simp[hl]
 ·obtain⟨n,i,_,rfl⟩:=List.mem_mapIdx.mp hg
  cases ht
 ·obtain⟨d,v,a1,a2,a3,_,a4⟩:=at_ e
  rcases VG a4 with⟨l',t',rfl,e5,ht⟩|⟨e5,hn⟩
  ·cases e5
   refine⟨⟨.non,true,v,some t⟩,?_,rfl,a3⟩
   rw[List.mem_mapIdx]
   obtain⟨hlt,e6⟩:=List.getElem?_eq_some_iff.mp ht
   exact⟨t,hlt,by rw[e6,a2];rfl⟩
  ·cases e5
theorem a0a {P:Program}{w:World}{K:Fg}{mg:Str->Option Value}{base:Heap}{x qual:Str}{st:Stmt}{f:Addr}{fd:FuncData}{N ps:List Str}{k:Nat}{io:List Nat}{Gb:bw->Option DR}(F:nW K x qual st f fd)(S:bI N ps (aF st))
 (hb:∀(cdv:Value) (A:Around) (outer:List Env) (s:Shared) (H H₀:Hp) (E:XK),gY k (A.deeper (envOfC qual (aF st) s.heap.objs.size f cdv))->yF (yN j9 P w K mg base N qual (aF st) f cdv A outer s H E).QJ (bz st) (tS K H₀ Gb)):
 cU P w K mg base j9 (k+1) f fd ps (TJ K io λds=>if ds.length=ps.length then FN io (Gb (mU io N.length ds))else none):=by
 refine F.ok S (λvs H Q E h=>?_) λcdv A outer s H vs Q E hr h=>?_
 ·obtain⟨ds,d,outs,r,_,_,_,e,q⟩:=h
  dsimp only at e
  split at e
  ·rename_i hl
   rw[<-r.length];exact hl
  ·cases e
 ·obtain⟨ds,d,outs,r,h1,h2,h3,e,q⟩:=h
  refine⟨_,hb cdv A outer s H (hidden io vs H) E hr,?_⟩
  dsimp only at e
  split at e
  case isFalse=>cases e
  have R0:=K9 (N:=N) r h1 h2 h3
  cases eg:Gb (mU io N.length ds)with
  |none=>rw[eg]at e;cases e
  |some r1=>
   rw[eg]at e
   have fin:∀{ρ:bw}{σ:L2.St}{H':Hp}{v:V},WL K (hidden io vs H) H' σ ρ (io.mapIdx λn i=>⟨.non,true,(vs[i]?).getD .non,some n⟩)->pD io 0 ρ=some outs->Rep cj K H' d v->flat d=true->Q v H':=λ{ρ σ H' v} ⟨O,R⟩ eo rv hf=>by
    refine q v H' (λb u hb' hn=>R.same b u ?_) rv hf λn i l' e1 e2=>?_
    ·unfold hidden
     rw[if_neg λz=>hn z.choose z.choose_spec.1 z.choose_spec.2]
     exact hb'
    ·obtain⟨⟨fr,e3⟩,hl'⟩:=JK eo e1 e2
     rw[Nat.zero_add]at e3
     obtain⟨g,hg,ht,hv⟩:=R.tag i l' fr n e3
     obtain⟨n',hn',rfl⟩:=List.mem_mapIdx.mp hg
     cases ht
     obtain⟨u,e4,p,vs',rfl,hO,hp,rs⟩:=R.rel i _ e3
     rw[hv]at e4
     obtain⟨hlt,e5⟩:=List.getElem?_eq_some_iff.mp e1
     rw[e5]at e4
     obtain⟨l0,e6,_⟩:=h1 i (List.mem_of_getElem? e1)
     obtain⟨v0,e7,_⟩:=r.get e6
     rw[e7]at e4
     have e8:v0= .ref p:=by simpa using e4
     subst e8
     exact⟨p,vs',e7,hp,rs.weak λ_ z=>z.elim,hl'⟩
   refine⟨_,_,r1,⟨_,R0⟩,eg,?_⟩
   cases r1 with
   |nx ρ=>
    simp only[FN]at e
    cases eo:pD io 0 ρ with
    |none=>rw[eo]at e;cases e
    |some o=>
     rw[eo]at e
     cases e
     exact λσ H' R=>fin R eo rfl rfl
   |bk ρ=>cases e
   |ct ρ=>cases e
   |rt d' k2 ρ=>
    simp only[FN]at e
    split at e
    case isFalse=>cases e
    rename_i hf
    cases eo:pD io 0 ρ with
    |none=>rw[eo]at e;cases e
    |some o=>
     rw[eo]at e
     cases e
     exact λv σ H' R rr=>fin R eo rr.rep hf
section
variable {X:Cx}{k:Nat}{f C:Addr}{fd:FuncData}{ps:List Str}{m:Str}{pos apos:Pos}{o:Expr}{Fo:aK->Option D}{Ff:List D->Option (D×RK)}
theorem lookup_none:∀{ks:List Str}{vs:List V}{f:Str},(ks.any λk=>decide (k=f))=false->(ks.zip vs).lookup f=none
 |[],_,_,_=>by simp
 |_::_,[],_,_=>by simp
 |k::ks,v::vs,f,h=>by
  simp only[List.any_cons,Bool.or_eq_false_iff,decide_eq_false_iff_not]at h
  rw[List.zip_cons_cons,List.lookup_cons]
  have:(f==k)=false:=by
   rw[beq_eq_false_iff_ne]
   exact λz=>h.1 z.symm
  rw[this]
  exact lookup_none h.2
def Fz (C:Addr)(m:Str)(Ff:List D->Option (D×RK))(x:D):Option D:=match x with
 | .ins C' ks _=>if C'=C/\(ks.any λk=>decide (k=m))=false then(Ff [x]).bind rQ else none
 |_=>none
theorem Rf {pl:Sem Bool}(he:ED X o Fo)(c:Ew X.K C)(hm:Meth X.K C m f)(F:cU X.prog X.w X.K X.mg X.base j9 k f fd ps (nq X.K Ff))(hr:gY k X.A)(hb:Binds X.K fd ps [])
 (ht:eval (.Call (.Attribute o m apos) [] [] pos) X.env=(do
  let ov<-eval o X.env
  standAt apos.atName
  let(f,first)<-holding [ov] (getMethod ov m pl)
  callWith pos f first (backTo pos (starEach [] X.env)) (backToKw pos (keywordEach [] X.env))):=by rfl):
 ED X (.Call (.Attribute o m apos) [] [] pos) (λρ=>(Fo ρ).bind (Fz C m Ff)):=have he:=he.1; .mk<|PE.imp (Sx (E:=E0) (pl:=pl) he c hm F hr hb .nil JM ht) λσ H Q ⟨O,ρ,d,w,R,e,q⟩=>by
 obtain⟨x,e1,e2⟩:=bind_some e
 refine⟨O,ρ,x,w,R,e1,λv H1 s1 r1=>?_⟩
 unfold Fz at e2
 split at e2
 ·rename_i C' ks l
  split at e2
  case isFalse=>cases e2
  rename_i hc
  obtain⟨rfl,hn⟩:=hc
  obtain⟨⟨d',k'⟩,e3,e4⟩:=bind_some e2
  obtain⟨a,dx,vs,rfl,h1,hl,h2⟩:=id r1
  refine⟨a,dx,_,rfl,h1,lookup_none hn,[.ins C' ks l],d',k',aV.one (Rep.weak (λ_ z=>z.elim) r1),e3,λv' H' s2 r2=>?_⟩
  obtain⟨rfl,r3⟩:=NB (w.mono s1) r2 e4
  exact q v' H' (s1.trans s2) r3
 ·cases e2
end
section
variable {X:Cx}{o i e tg:Expr}{pos:Pos}{Fo Fi F:aK->Option D}
def aq (x y:D):Option D:=match x with
 | .dct ks l=>Xy (.dct ks l) y
 |x=>UW x y
theorem aG (hu:X.A.units+1<cLine)(ho:ED X o Fo)(hi:ED X i Fi)(hs:GD i:=by exact λ_ _=>rfl):ED X (.Subscript o i pos) (λρ=>(Fo ρ).bind λx=>(Fi ρ).bind λy=>aq x y):=have ho:=ho.1;have hi:=hi.1; .mk<|by
 intro pins s σ H Q I h
 obtain⟨O,ρ,d,w,r,e,q⟩:=h
 obtain⟨x,e1,e⟩:=bind_some e
 obtain⟨y,e2,e⟩:=bind_some e
 unfold aq at e
 split at e
 ·exact(V3 hu ⟨ho⟩ ⟨hi⟩ hs).1 pins s σ H Q I ⟨O,ρ,d,w,r,by dsimp only;rw[e1,e2];exact e,q⟩
 ·exact(a03 Ye Z8 ⟨ho⟩ ⟨hi⟩ hs).1 pins s σ H Q I ⟨O,ρ,d,w,r,by dsimp only;rw[e1,e2];exact e,q⟩
def X5:D->Option (List D×List D)
 | .lst l=>itL (.lst l)
 | .tup l=>itT (.tup l)
 |_=>none
theorem fY (h:ED X e F):EI X tg e (λρ=>(F ρ).bind X5):=have h:=h.1; .mk<|by
 intro pins s σ H R I q
 obtain⟨O,ρ,ds,gs,w,r,e',q⟩:=q
 obtain⟨x,e1,e2⟩:=bind_some e'
 unfold X5 at e2
 split at e2
 ·exact(XM ⟨h⟩).1 pins s σ H R I ⟨O,ρ,ds,gs,w,r,by dsimp only;rw[e1];exact e2,q⟩
 ·exact(XN ⟨h⟩).1 pins s σ H R I ⟨O,ρ,ds,gs,w,r,by dsimp only;rw[e1];exact e2,q⟩
 ·cases e2
def kW (g g':List D->Option D):List D->Option D:=λl=>match g l with
 |some d=>some d
 |none=>g' l
def jb (g g':D->D->Option D):D->D->Option D:=λa b=>match g a b with
 |some d=>some d
 |none=>g' a b
theorem vA.or {K:Fg}{r r':List V->Hp->VK->Prop}{g g':List D->Option D}(h:vA K r g)(h':vA K r' g'):vA K (λxs H Q=>r xs H Q\/r' xs H Q) (kW g g'):=by
 intro O H xs l d Q w hr e q
 dsimp only[kW]at e
 cases e1:g l with
 |some d'=>
  rw[e1]at e
  cases e
  exact .inl (h O H xs l d Q w hr e1 q)
 |none=>
  rw[e1]at e
  exact .inr (h' O H xs l d Q w hr e q)
theorem EY.or {K:Fg}{r r':R2}{g g':D->D->Option D}(h:EY K r g)(h':EY K r' g'):EY K (λx y H Q=>r x y H Q\/r' x y H Q) (jb g g'):=by
 intro O H x y dx dy d Q w rx ry e q
 dsimp only[jb]at e
 cases e1:g dx dy with
 |some d'=>
  rw[e1]at e
  cases e
  exact .inl (h O H x y dx dy d Q w rx ry e1 q)
 |none=>
  rw[e1]at e
  exact .inr (h' O H x y dx dy d Q w rx ry e q)
theorem j8:GC X [] (M9 X.K λ_=>some true):=λpins s σ H Q I ⟨O,ρ,b,w,r,e,q⟩=>by
 cases e
 exact SN pins s σ H Q I (q H (bV.refl H))
theorem DG {k:Nat}{A:Around}(r:gY k A):A.units+200<cLine:=by have:=r.un;omega
theorem Zq {k:Nat}{A:Around}(r:gY k A):A.units+66<cLine:=by have:=r.un;omega
theorem qe {k:Nat}{A:Around}(r:gY k A):A.units+64<cLine:=by have:=r.un;omega
theorem u1 {k:Nat}{A:Around}(r:gY k A):A.units+1<cLine:=by have:=r.un;omega
end
section
variable {X:Cx}{H₀:Hp}{e:Expr}{pos:Pos}{F:aK->Option D}
theorem Ku {F:aK->Option D}(h:ED X e F):ED X (.UnaryOp .USub e pos) (λρ=>(F ρ).bind λd=>(WM d).map λi=> .int (-i)):=have h:=h.1; .mk<|PE.imp (a0D Zr h) λσ H Q ⟨O,ρ,d,w,r,e,q⟩=>by
 obtain⟨x,e1,e2⟩:=bind_some e
 refine⟨O,ρ,x,w,r,e1,λv H1 s1 r1=>?_⟩
 cases x<;>simp only[WM]at e2<;>cases e2
 cases r1
 exact⟨_,rfl,q _ H1 s1 rfl⟩
def G6:D->Bool
 | .non=>true
 |_=>false
theorem PB {O:Addr->Prop}{K:Fg}{H:Hp}{d:D}{v:V}(h:Rep O K H d v):decide (v= .non)=G6 d:=by
 cases d
 case non=>cases h;rfl
 case bl b=>cases h;rfl
 case int i=>cases h;rfl
 case str x=>cases h;rfl
 case tup l=>obtain⟨a,vs,rfl,_⟩:=h;rfl
 case lst l=>obtain⟨a,vs,rfl,_⟩:=h;rfl
 case dct ks l=>obtain⟨a,vs,rfl,_⟩:=h;rfl
 case ins C ks l=>obtain⟨a,dx,vs,rfl,_⟩:=h;rfl
 case uR l=>obtain⟨a,rfl,_⟩:=h;rfl
def Xz (neg:Bool)(a b:D):Option D:=if G6 b=true then some (.bl (if neg then !G6 a else G6 a))else none
theorem RB {d:D}(h:G6 d=true):d= .non:=by cases d<;>simp[G6]at h;rfl
theorem Ql {K:Fg}:EY K (λx y H Q=>y= .non/\Q (.bl (!decide (x= .non))) H) (Xz true):=by
 intro O H x y dx dy d Q w rx ry e q
 unfold Xz at e
 obtain⟨z,rfl⟩:=lW e
 rw[RB z]at ry
 cases ry
 refine⟨rfl,?_⟩
 rw[PB rx]
 exact q _ H (bV.refl H) rfl
def MP (F:aK->Option D):bw->Option DR:=λρ=>(F (vis ρ)).map λ_=> .nx ρ
theorem Wh (h:ED X e F)(hs:swapsWith e none pos.line X.env=pure false:=by rfl):SD X (.Expr e pos) H₀ (MP F):=have h:=h.1; .mk<|PS.imp (Nu h hs) λE σ H ⟨ρ,γ,r,⟨O,R⟩,e,q⟩=>by
 unfold MP at e
 cases e1:F (vis ρ)with
 |none=>rw[e1]at e;cases e
 |some d=>
  rw[e1]at e
  cases e
  exact⟨cj,vis ρ,d,eF,R.vis,e1,λv H1 s1 r1=>q σ H1 ⟨O,R.mono s1⟩⟩
def WQ (names:List (Str×NameKind))(kind:Str->Option NameKind)(N jr:List Str)(cap:List (Option Nat)):Bool:=
 (names.all λy=>(!decide (y.2= .cell))&&(!decide (y.2= .local)||decide (names.lookup y.1=some .local))&&(!decide (y.2= .free)||((decide (kind y.1=some .cell)||decide (kind y.1=some .free))&&decide (names.lookup y.1=some .free))))&&
 decide (cap.length=jr.length)&&((cap.zip jr).all λp=>match p.1 with
  |some i=>decide (N[i]?=some p.2)&&(names.any λy=>decide (y.1=p.2)&&decide (y.2= .free))
  |none=>true)
theorem f9 {scope:Scope}{jr:List Str}{cap:List (Option Nat)}(kind:scope.kind= .function)(h:WQ scope.names (λx=>X.env.kindOf x) X.N jr cap=true):vq X scope jr cap:=by
 unfold WQ at h
 simp only[Bool.and_eq_true,decide_eq_true_eq]at h
 obtain⟨⟨h1,h2⟩,h3⟩:=h
 have at_:=λy (hy:y∈scope.names)=>List.all_eq_true.mp h1 y hy
 simp only[Bool.and_eq_true,Bool.or_eq_true,Bool.not_eq_true',decide_eq_true_eq,decide_eq_false_iff_not]at at_
 refine⟨kind,λy hy=>(at_ y hy).1.1,λy hy hl=>?_,λy hy hf=>?_,λx hx=>?_,h2,λj i x e1 e2=>?_⟩
 ·rcases(at_ y hy).1.2 with z|z
  ·exact absurd hl z
  ·exact z
 ·rcases(at_ y hy).2 with z|z
  ·exact absurd hf z
  ·exact z.1
 ·rcases(at_ _ hx).2 with z|z
  ·exact absurd rfl z
  ·exact z.2
 ·have e3:(cap.zip jr)[j]?=some (some i,x):=by rw[List.getElem?_zip_eq_some];exact⟨e1,e2⟩
  have:=List.all_eq_true.mp h3 _ (List.mem_of_getElem? e3)
  simp only[Bool.and_eq_true,decide_eq_true_eq,List.any_eq_true]at this
  obtain⟨z1,y,hy,z2,z3⟩:=this
  refine⟨z1,?_⟩
  have:y=(x,NameKind.free):=by rw[<-z2,<-z3]
  rw[<-this]
  exact hy
end
section
variable {X:Cx}{H₀:Hp}{a b:Expr}{pos:Pos}{Fs:aK->Option (List D)}
def Y7 (i j:Nat)(Fs:aK->Option (List D)):bw->Option DR:=λρ=>(three Fs flat.flats (λl fr=>(l,fr)) ρ).bind λr=>match r.1 with
 |[d,d']=>some (.nx ((ρ.set i (some (.val d r.2))).set j (some (.val d' r.2))))
 |_=>none
theorem Zc {i j:Nat}{x y:Str}{px py pt:Pos}{kt k2 Z0}(hc:X.calm=true)(hN:X.N.Nodup)(hi:X.N[i]?=some x)(hj:X.N[j]?=some y)(hij:i≠j)
 (hx:X.env.scope.names.lookup x=some .local)(hy:X.env.scope.names.lookup y=some .local)(ha:DQ X [a,b] Fs)
 (hw:swappedStores [.Tuple [.Name x px,.Name y py] kt pt] (.Tuple [a,b] k2 Z0) X.env=pure (some [x,y]):=by rfl)
 (hs:swapsWithSole [.Tuple [.Name x px,.Name y py] kt pt] (.Tuple [a,b] k2 Z0) pos.line X.env=pure false:=by rfl):
 SD X (.Assign [.Tuple [.Name x px,.Name y py] kt pt] (.Tuple [a,b] k2 Z0) pos) H₀ (Y7 i j Fs):=have ha:=ha.1; .mk<|PS.imp (YZ hc hN hi hj hij hx hy ha hw hs) λE σ H ⟨ρ,γ,r,⟨O,R⟩,e,q⟩=>by
 obtain⟨⟨l,fr⟩,e1,e2⟩:=bind_some e
 dsimp only at e2
 split at e2
 case h_2=>cases e2
 rename_i d d'
 cases e2
 have fin:∀{vs:List V}{H1:Hp},bV H H1->aV (AV fr O H₀) X.K H1 [d,d'] vs->∃v w,vs=[v,w]/\E.nx ((σ.set i (some v)).set j (some w)) H1:=λ{vs H1} s1 rs=>by
  obtain⟨v,u,rfl,r1,r2⟩:=Nz rs
  exact⟨v,u,rfl,q _ H1 ⟨O,((R.mono s1).HX r1).HX r2⟩⟩
 rcases ur e1 with⟨l,e3,hf,e4⟩|⟨fr',l,e3,e4⟩
 ·cases e4
  exact⟨cj,vis ρ,_,eF,R.vis,e3,λvs H1 s1 r1=>fin s1 (aV.cX _ hf r1)⟩
 ·cases e4
  exact⟨AV _ O H₀,vals _ ρ,_,AV.within R.wi R.same,R.vals,e3,λvs H1 s1 r1=>fin s1 r1⟩
end
section
variable {X:Cx}{H₀:Hp}{st:Stmt}{G G1 G2:bw->Option DR}
theorem fD.loose {O:Addr->Prop}{K:Fg}{H:Hp}{σ:L2.St}{ρ:bw}{γ:List Gh}{i:Nat}{l:List D}{fr:Bool}{tg:Option Nat}(h:fD O K H₀ H σ ρ γ)(e0:ρ[i]?=some (some (.own l fr tg))):
 fD O K H₀ H σ (ρ.set i (some (.own l false tg))) γ:=by
 have back:∀{j:Nat}{m:L},(ρ.set i (some (.own l false tg)))[j]?=some (some m)->m.isOwn=true->∃m',ρ[j]?=some (some m')/\m'.isOwn=true:=λ{j m} e o=>by
  rcases dj e with⟨rfl,e,_⟩|⟨_,e⟩
  ·exact⟨_,e0,rfl⟩
  ·exact⟨m,e,o⟩
 refine⟨h.same,h.wi,h.new,λj m e=>?_,λj k m n p e1 o1 e2 e3 o2 e4=>?_,by rw[List.length_set];exact h.len,h.gh,λj m fr' t e=>?_⟩
 ·rcases dj e with⟨rfl,e,_⟩|⟨_,e⟩
  ·cases e
   obtain⟨v,a,p,vs,e1,o,h1,h2⟩:=h.rel _ _ e0
   exact⟨v,a,p,vs,e1,o,h1,h2.weak λa z=>z.elim .inl λz=>by cases z.1⟩
  ·exact h.rel j m e
 ·obtain⟨m',e5,o3⟩:=back e1 o1
  obtain⟨n',e6,o4⟩:=back e3 o2
  exact h.apart j k m' n' p e5 o3 e2 e6 o4 e4
 ·rcases dj e with⟨rfl,e,_⟩|⟨_,e⟩
  ·cases e
   exact h.tag _ _ _ t e0
  ·exact h.tag j m fr' t e
def Zx (i:Nat)(G:bw->Option DR):bw->Option DR:=λρ=>match ρ[i]? with
 |some (some (.own l _ tg))=>G (ρ.set i (some (.own l false tg)))
 |_=>none
theorem Zb (i:Nat)(h:SD X st H₀ G):SD X st H₀ (Zx i G):=have h:=h.1; .mk<|PS.imp h λE σ H ⟨ρ,γ,r,⟨O,R⟩,e,q⟩=>by
 unfold Zx at e
 split at e
 ·rename_i l fr tg e1
  exact⟨_,γ,r,⟨O,R.loose e1⟩,e,q⟩
 ·cases e
def ZD (G1 G2:bw->Option DR):bw->Option DR:=λρ=>match G1 ρ with
 |some r=>some r
 |none=>G2 ρ
theorem a0S (h1:SD X st H₀ G1)(h2:SD X st H₀ G2):SD X st H₀ (ZD G1 G2):=have h1:=h1.1;have h2:=h2.1; .mk<|by
 intro pins s σ H E I h
 obtain⟨ρ,γ,r,R,e,q⟩:=h
 unfold ZD at e
 split at e
 ·rename_i r' e1
  cases e
  exact h1 pins s σ H E I ⟨ρ,γ,r,R,e1,q⟩
 ·exact h2 pins s σ H E I ⟨ρ,γ,r,R,e,q⟩
end
abbrev FD:=aK->Option D
abbrev FL:=aK->Option (List D)
abbrev FT:=aK->Option Bool
abbrev GS:=bw->Option DR
abbrev FI:=aK->Option (List D×List D)
abbrev FF:=List D->Option (D×RK)
abbrev aj (i:Nat):FD:=λρ=>at? ρ i
abbrev fC (d:D):FD:=λ_=>some d
abbrev f2 (g:D->D->Option D)(a b:FD):FD:=λρ=>(a ρ).bind λx=>(b ρ).bind λy=>g x y
abbrev t2 (g:D->D->Option D)(a b:FD):FT:=λρ=>(a ρ).bind λx=>(b ρ).bind λy=>(g x y).bind zW
abbrev lR (a b:FT):FT:=λρ=>(a ρ).bind λx=>if x=true then b ρ else some false
abbrev Dt (a b:FT):FT:=λρ=>(a ρ).bind λx=>if x=true then some true else b ρ
abbrev yw (a:FT):FT:=λρ=>(a ρ).map λx=>!x
abbrev tV (a:FD):FT:=λρ=>(a ρ).bind zW
abbrev tT:FT:=λ_=>some true
abbrev KD (a b:FD):FD:=λρ=>(a ρ).bind λx=>(zW x).bind λy=>if y=true then b ρ else some (.bl false)
abbrev fOr (a b:FD):FD:=λρ=>(a ρ).bind λx=>(zW x).bind λy=>if y=true then some (.bl true)else b ρ
abbrev a07 (a:FD):FD:=λρ=>(a ρ).bind λx=>(zW x).map λy=> .bl (!y)
abbrev Ao (t:FT)(a b:FD):FD:=λρ=>(t ρ).bind λx=>if x=true then a ρ else b ρ
abbrev Hi (a:FD):FD:=λρ=>(a ρ).bind λd=>(WM d).map λi=> .int (-i)
abbrev aA:FL:=λ_=>some []
abbrev aa (a:FD)(s:FL):FL:=λρ=>(a ρ).bind λx=>(s ρ).map λl=>x::l
abbrev bL (s:FL):FD:=λρ=>(s ρ).bind Cq
abbrev fG (s:FL):FD:=λρ=>(s ρ).bind tW
abbrev fB (g:List D->Option D)(s:FL):FD:=λρ=>(s ρ).bind g
abbrev uQ (T:String)(g:D->List D->Option D)(o:FD)(s:FL):FD:=λρ=>(o ρ).bind λx=>if Xp T x=true then(s ρ).bind λl=>g x l else none
abbrev XR (T:String)(g:D->List D->Option D)(o:FD):FD:=λρ=>(o ρ).bind λx=>if Xp T x=true then g x [] else none
abbrev Bw (T:String)(a:FD):FD:=λρ=>(a ρ).bind λd=>(Es d).map λn=> .bl (Qt n T)
abbrev gB:aK->Option (Option Int):=λ_=>some none
abbrev eY (a:FD):aK->Option (Option Int):=λρ=>(a ρ).bind λd=>(WM d).map some
abbrev uV (a:FD)(lo hi:aK->Option (Option Int)):FD:=λρ=>(a ρ).bind λd=>(lo ρ).bind λx=>(hi ρ).bind λy=>Ea d x y
abbrev aN (Ff:FF)(DN:List D)(s:FL):FD:=λρ=>(s ρ).bind λl=>(Ff (l++DN)).bind rQ
abbrev Cr (Ff:FF)(DN:List D)(s:FL):FL:=λρ=>(s ρ).bind λl=>(Ff (l++DN)).bind Jp
abbrev fZ (n:FL):FD:=λρ=>(n ρ).map .lst
abbrev wA (C:Addr)(f:Str)(a:FD):FD:=λρ=>(a ρ).bind (R7 C f)
abbrev a05 (C:Addr)(m:Str)(Ff:FF)(a:FD):FD:=λρ=>(a ρ).bind (Fz C m Ff)
abbrev a08 (T:List (Str×D))(a:FD):FD:=λρ=>(a ρ).bind (Wo T)
abbrev Rn (C:Addr)(F:List D->Option (List Str×List D))(s:FL):FD:=λρ=>(s ρ).bind λl=>if flat.flats l=true then(F l).map λr=> .ins C r.1 r.2 else none
abbrev WY (a:FD):FD:=λρ=>(a ρ).bind R9
abbrev tZ (s:FL):FL:=λρ=>(s ρ).bind λl=>if l.length<=sizeLine then some l else none
abbrev nB (g:List D->Option (List D))(s:FL):FL:=λρ=>(s ρ).bind g
abbrev Ab (o:FD)(s:FL):FL:=λρ=>(o ρ).bind λx=>(s ρ).bind λl=>match x,l with
 | .str z,[.str y]=>pY z y
 |_,_=>none
abbrev a0p (s:FL):aK->Option (List Key×List D):=λρ=>(s ρ).bind Ge
abbrev a1z:aK->Option (List Key×List D):=λ_=>some ([],[])
abbrev jK (a:FD):FI:=λρ=>(a ρ).bind itR
abbrev fH (a:FD):FI:=λρ=>(a ρ).bind X5
abbrev BP (s:FL):FI:=λρ=>(s ρ).bind λl=>match l with
 |[d1,d2]=>(yq d1).bind λl=>(yq d2).map λm=>(vV l m,[d1,d2])
 |_=>none
abbrev yR (a:FD):FI:=λρ=>(a ρ).bind λd=>(yq d).map λl=>(j7 0 l,[d])
abbrev gBk:GS:=λρ=>some (.bk ρ)
abbrev Y6:GS:=λ_=>none
theorem unS {X:Cx}{sts:List Stmt}{H₀:Hp}{G:GS}(h:QS X sts H₀ G):yF X sts (tS X.K H₀ G):=h.1
theorem zq {X:Cx}{c:Expr}{T:FT}(h:QH X c T):GC X [c] (M9 X.K T):=SQ h.1
structure Ol (K:Fg)(x qual:Str)(st:Stmt)(f:Addr)(fd:FuncData)(dV:Value):Prop where
 ex:∃(oc:Value) (od:Option Addr) (kV doc pm:Value) (an:Option Addr) (cdv ct:Value) (osl:Array (Option Value)),
  fd=PySem.W.fnOf x qual (bK st) (bz st) (aF st) dV kV doc pm an cdv ct/\K.lookup f=some ⟨oc,od,.func fd,osl⟩/\PySem.W.codeIn K cdv qual=true
 kp:PySem.W.keepIn K (.ref f)=true
section
variable {P:Program}{w:World}{K:Fg}{mg:Str->Option Value}{base:Heap}
theorem MN {x qual:Str}{st:Stmt}{f:Addr}{oc:Value}{od an:Option Addr}{osl:Array (Option Value)}{dV kV doc pm cdv ct:Value}(l:K.lookup f=some ⟨oc,od,.func (PySem.W.fnOf x qual (bK st) (bz st) (aF st) dV kV doc pm an cdv ct),osl⟩)
 (c:PySem.W.codeIn K cdv qual=true)(k:PySem.W.keepIn K (.ref f)=true):Ol K x qual st f (PySem.W.fnOf x qual (bK st) (bz st) (aF st) dV kV doc pm an cdv ct) dV:=⟨⟨oc,od,kV,doc,pm,an,cdv,ct,osl,rfl,l,c⟩,k⟩
theorem a09 {x qual:Str}{st:Stmt}{f:Addr}{fd:FuncData}{dV:Value}{N ps:List Str}{k:Nat}{Gb:bw->Option DR}(F:Ol K x qual st f fd dV)(S:bI N ps (aF st))
 (hb:∀(cdv:Value) (A:Around) (outer:List Env) (s:Shared) (H:Hp) (E:XK),gY k (A.deeper (envOfC qual (aF st) s.heap.objs.size f cdv))->yF (yN j9 P w K mg base N qual (aF st) f cdv A outer s H E).QJ (bz st) (tS K H Gb)):
 cU P w K mg base j9 (k+1) f fd ps (nq K λds=>if ds.length=ps.length then cI (Gb (aH N.length ds))else none):=by
 obtain⟨oc,od,kV,doc,pm,an,cdv,ct,osl,rfl,lk,hcd⟩:=F.ex
 refine X3 lk hcd S (λvs H Q E h=>?_) λA outer s H vs Q E hr h=>⟨_,(hb cdv A outer s H E hr).QJ,?_⟩
 ·obtain⟨ds,d,k',r,e,q⟩:=h
  dsimp only at e
  split at e
  ·rename_i hl
   rw[<-r.length];exact hl
  ·cases e
 ·obtain⟨ds,d,k',r,e,q⟩:=h
  dsimp only at e
  split at e
  ·cases eg:Gb (aH N.length ds)with
   |none=>rw[eg]at e;cases e
   |some r1=>
    rw[eg]at e
    refine⟨aH N.length ds,[],r1,⟨cj,Gu r⟩,eg,?_⟩
    cases r1 with
    |nx ρ=>cases e;exact λσ H' ⟨O,R⟩=>q .non H' R.same rfl
    |bk ρ=>cases e
    |ct ρ=>cases e
    |rt d' k2 yH=>cases e;exact λv σ H' ⟨O,R⟩ r1=>q v H' R.same r1
  ·cases e
theorem V9 {k:Nat}{f:Addr}{fd:FuncData}{ps:List Str}:cU P w K mg base j9 k f fd ps (nq K λ_=>none):=by
 refine⟨λvs H Q E h=>?_,λA outer s H args us vs Q E hr e0 hb r h=>?_⟩
 ·obtain⟨_,_,_,_,e,_⟩:=h
  cases e
 ·obtain⟨_,_,_,_,e,_⟩:=h
  cases e
theorem U9 (b:Bool):Vals [.bl b] [.bool b]:= .cons rfl .nil
theorem Td (b:Bool):∀H,aV cj K H [.bl b] [.bl b]:=λ_=>⟨_,_,rfl,rfl,rfl⟩
theorem gD {x qual:Str}{st:Stmt}{f:Addr}{fd:FuncData}{N ps:List Str}{k:Nat}{Gb:bw->Option DR}(F:nW K x qual st f fd)(S:bI N ps (aF st))
 (hb:∀(cdv:Value) (A:Around) (outer:List Env) (s:Shared) (H:Hp) (E:XK),gY k (A.deeper (envOfC qual (aF st) s.heap.objs.size f cdv))->QS (yN j9 P w K mg base N qual (aF st) f cdv A outer s H E).QJ (bz st) H Gb):
 cU P w K mg base j9 (k+1) f fd ps (nq K λds=>if ds.length=ps.length then cI (Gb (aH N.length ds))else none):=a1o F S λa b c d e f g=>(hb a b c d e f g).1
theorem gDV {x qual:Str}{st:Stmt}{f:Addr}{fd:FuncData}{dV:Value}{N ps:List Str}{k:Nat}{Gb:bw->Option DR}(F:Ol K x qual st f fd dV)(S:bI N ps (aF st))
 (hb:∀(cdv:Value) (A:Around) (outer:List Env) (s:Shared) (H:Hp) (E:XK),gY k (A.deeper (envOfC qual (aF st) s.heap.objs.size f cdv))->QS (yN j9 P w K mg base N qual (aF st) f cdv A outer s H E).QJ (bz st) H Gb):
 cU P w K mg base j9 (k+1) f fd ps (nq K λds=>if ds.length=ps.length then cI (Gb (aH N.length ds))else none):=a09 F S λa b c d e f g=>(hb a b c d e f g).1
theorem gIO {x qual:Str}{st:Stmt}{f:Addr}{fd:FuncData}{N ps:List Str}{k:Nat}{io:List Nat}{Gb:bw->Option DR}(F:nW K x qual st f fd)(S:bI N ps (aF st))
 (hb:∀(cdv:Value) (A:Around) (outer:List Env) (s:Shared) (H H₀:Hp) (E:XK),gY k (A.deeper (envOfC qual (aF st) s.heap.objs.size f cdv))->QS (yN j9 P w K mg base N qual (aF st) f cdv A outer s H E).QJ (bz st) H₀ Gb):
 cU P w K mg base j9 (k+1) f fd ps (TJ K io λds=>if ds.length=ps.length then FN io (Gb (mU io N.length ds))else none):=a0a F S λa b c d e f g h=>(hb a b c d e f g h).1
structure gA (P:Program)(w:World)(K:Fg)(mg:Str->Option Value)(base:Heap)(x:Str)(k:Nat)(F:FF)(ds:List Value):Prop where
 ex:∃ps f fd,cU P w K mg base j9 k f fd ps (nq K F)/\mg x=some (.ref f)/\PySem.W.keepIn K (.ref f)=true/\Binds K fd ps ds
theorem xC {X:Cx}{x:Str}{k j:Nat}{Ff:FF}{e:Expr}{es:List Expr}{Fs:FL}{p pos:Pos}(c:gA X.prog X.w X.K X.mg X.base x k Ff [])(hr:gY j X.A)(ha:DQ X (e::es) Fs)(hk:k<=j:=by decide)(hg:Gl X x:=by rfl)
 (hdb:(x==("__debug__":Str))=false:=by decide)(he:starEach (e::es) X.env=(false,eval e X.env)::starEach es X.env:=by rfl)(hpl:(backTo pos (starEach es X.env)).any (·.1)=false:=by rfl):ED X (.Call (.Name x p) (e::es) [] pos) (aN Ff [] Fs):=
 let⟨_,_,_,F,m,k,b⟩:=c.ex
 Hg (DN:=[]) F (hr.mono hk) hg m k b .nil (λ_=>rfl) ha hdb he hpl
theorem xCd {X:Cx}{x:Str}{k j:Nat}{Ff:FF}{e:Expr}{es:List Expr}{Fs:FL}{p pos:Pos}(c:gA X.prog X.w X.K X.mg X.base x k Ff [.bool true])(hr:gY j X.A)(ha:DQ X (e::es) Fs)(hk:k<=j:=by decide)(hg:Gl X x:=by rfl)
 (hdb:(x==("__debug__":Str))=false:=by decide)(he:starEach (e::es) X.env=(false,eval e X.env)::starEach es X.env:=by rfl)(hpl:(backTo pos (starEach es X.env)).any (·.1)=false:=by rfl):ED X (.Call (.Name x p) (e::es) [] pos) (aN Ff [.bl true] Fs):=
 let⟨_,_,_,F,m,k,b⟩:=c.ex
 Hg (DN:=[.bl true]) F (hr.mono hk) hg m k b (U9 true) (Td true) ha hdb he hpl
theorem xN {X:Cx}{x:Str}{k j:Nat}{Ff:FF}{e:Expr}{es:List Expr}{Fs:FL}{p pos:Pos}(c:gA X.prog X.w X.K X.mg X.base x k Ff [])(hr:gY j X.A)(ha:DQ X (e::es) Fs)(hk:k<=j:=by decide)(hg:Gl X x:=by rfl)
 (hdb:(x==("__debug__":Str))=false:=by decide)(he:starEach (e::es) X.env=(false,eval e X.env)::starEach es X.env:=by rfl)(hpl:(backTo pos (starEach es X.env)).any (·.1)=false:=by rfl):EN X (.Call (.Name x p) (e::es) [] pos) (Cr Ff [] Fs):=
 let⟨_,_,_,F,m,k,b⟩:=c.ex
 V6 (DN:=[]) F (hr.mono hk) hg m k b .nil (λ_=>rfl) ha hdb he hpl
theorem Za {H:Hp}{a:Addr}{ns:List Int}(hO:Only H)(h:qK K H a (ns.map V.int)):aV cj K H [.uR ns] [.ref a]:=by
 refine⟨_,_,rfl,⟨a,rfl,?_⟩,rfl⟩
 rcases h with h|h
 ·rcases h with h|h
  ·rcases hO a with z|⟨o,xs,z⟩
   ·rw[h]at z;cases z
   ·rw[h]at z;cases z
  ·exact .inl h
 ·exact .inr h
end
end DL
namespace DL
open PySem PySem.Spec PyProof.Rows L2
namespace K
noncomputable def fu:List (Str×D):=[("put",.tup [.str "cell",.str "value"]),("get",.tup [.str "box",.str "cell"]),("swap",.tup [.str "box",.str "cell",.str "value"]),("add",.tup [.str "box",.str "value",.str "value"]),("skip",.tup [.str "box",.str "figure"]),("fence",.tup [])]
noncomputable def uT:GS:=(dg (f2 eN (f2 cC (f2 (jb cW bN) (f2 aW (f2 aW (f2 cC (f2 (jb cW bN) (aj 0) (fC (.int 48271))) (fC (.int 2147483647))) (f2 (jb cW bN) (f2 (jb cW bN) (fC (.int 7919)) (aj 1)) (aj 1))) (f2 (jb cW bN) (fC (.int 104729)) (aj 1))) (fC (.int 69621))) (fC (.int 2147483629))) (fC (.int 7))))
noncomputable def cg:FF:=λds=>if ds.length=2 then cI (uT (aH 2 ds))else none
noncomputable def mH:GS:=(aL (aZ 1 (fC (.str "abcdefghijklmnopqrstuvwxyz"))) (aL (aZ 2 (f2 aW (fC (.int 1)) (f2 cC (f2 eN (aj 0) (fC (.int 4))) (fC (.int 6))))) (aL (aZ 3 (f2 aq (fG (aa (f2 cC (f2 eN (aj 0) (fC (.int 24))) (aj 2)) (aa (fC (.int 0)) (aa (f2 pU (aj 2) (fC (.int 1))) (aa (fC (.int 0)) aA))))) (f2 cC (aj 0) (fC (.int 4))))) (aL (ju 4 (dM [none,some 1,some 0] (jK (fC (.int 6))) (bC 0) tT (f2 aq (aj 1) (f2 cC (f2 aW (f2 eN (aj 2) (fC (.int 7))) (f2 (jb cW bN) (fC (.int 5)) (aj 0))) (fC (.int 26)))))) (aL (ju 5 (tZ aA)) (aL (gM (jK (fC (.int 9))) (bf 6) (aL (aZ 7 (f2 aq (aj 1) (f2 cC (f2 aW (f2 eN (aj 0) (fC (.int 11))) (aj 6)) (fC (.int 26))))) (aL (aZ 8 (uQ "str" mW (fC (.str "")) (aa (f2 aW (f2 aW (uV (aj 4) gB (eY (aj 3))) (fG (aa (aj 7) aA))) (uV (aj 4) (eY (f2 aW (aj 3) (fC (.int 1)))) (eY (aj 2)))) aA))) (aL (gj (t2 (cR false) (f2 cC (aj 0) (fC (.int 4))) (fC (.int 3))) (aZ 8 (f2 aq (fG (aa (uQ "str" mW (fC (.str "")) (aa (uV (aj 4) gB (eY (f2 aW (fC (.int 1)) (f2 cC (aj 6) (fC (.int 5)))))) aA)) (aa (f2 aW (aj 7) (uQ "str" mW (fC (.str "")) (aa (uV (aj 4) gB (eY (f2 aW (fC (.int 1)) (f2 cC (aj 6) (fC (.int 5)))))) aA))) aA))) (f2 eN (aj 6) (fC (.int 5))))) bJ) (fU 5 (aj 8)))))) (aL (ju 9 (dM [none] (fH (aj 5)) (bC 0) (t2 (lU false) (aj 0) (fZ (Ab (fC (.str "cells thread put get swap add skip fence")) (aa (fC (.str " ")) aA)))) (aj 0))) (aL (gj (Dt (t2 (cR true) (aj 9) (fG aA)) (t2 (lO λi j=>decide (i<j)) (fB qQ (aa (aj 5) aA)) (fC (.int 9)))) (qY (tZ (aa (fC (.str "a")) (aa (fC (.str "b")) (aa (fC (.str "c")) (aa (fC (.str "ab")) (aa (fC (.str "ba")) (aa (fC (.str "z")) (aa (fC (.str "x")) (aa (fC (.str "xx")) (aa (fC (.str "y")) aA))))))))))) bJ) (nP 5)))))))))
noncomputable def jo:FF:=λds=>if ds.length=1 then cI (mH (aH 10 ds))else none
noncomputable def nu:GS:=(aL (gj (t2 (lO λi j=>decide (i<j)) (aj 1) (fB iZ (aa (aj 0) aA))) (dg (f2 aq (aj 0) (aj 1))) bJ) (dg (fC (.int 0))))
noncomputable def aQ:FF:=λds=>if ds.length=2 then cI (nu (aH 2 ds))else none
noncomputable def pL:GS:=(aL (aZ 1 (fG (aa (fC (.str "put 0 1,get p 1/put 1 2,get p 0")) (aa (fC (.str "put 0 1,fence,get p 1/put 1 2,fence,get p 0")) aA)))) (aL (aZ 1 (f2 aW (aj 1) (fG (aa (fC (.str "swap p 0 1,get q 1/swap p 1 2,get q 0")) (aa (fC (.str "put 0 1,put 1 2/get p 1,get q 0")) aA))))) (aL (aZ 1 (f2 aW (aj 1) (fG (aa (fC (.str "put 0 1,get p 1/put 1 2,fence,get p 0")) (aa (fC (.str "get p 0,put 1 1/get p 1,put 0 2")) aA))))) (aL (aZ 1 (f2 aW (aj 1) (fG (aa (fC (.str "put 0 1,put 1 2/put 1 3,put 0 4")) (aa (fC (.str "put 0 1,get p 0,get q 1/put 1 2,get p 1,get q 0")) aA))))) (aL (aZ 1 (f2 aW (aj 1) (fG (aa (fC (.str "put 0 1/get p 0,put 1 p/get p 1,get q 0")) (aa (fC (.str "put 0 1,get p 1/put 1 2,get p 2/put 2 3,get p 0")) aA))))) (aL (aZ 1 (f2 aW (aj 1) (fG (aa (fC (.str "put 0 1,get p 1,skip p 1,put 2 3/put 1 2,get p 0,get q 2")) (aa (fC (.str "put 0 1,put 0 2/get p 0,get q 0")) aA))))) (aL (aZ 1 (f2 aW (aj 1) (fG (aa (fC (.str "swap p 0 1/swap p 0 2/get p 0,get q 0")) (aa (fC (.str "put 0 1,add p p 7,put 1 p/get q 1,swap p 0 9")) aA))))) (aL (aZ 1 (f2 aW (aj 1) (fG (aa (fC (.str "put 0 1,put 0 2,get p 0/put 0 3,get p 0")) (aa (fC (.str "put 0 1,swap p 0 2,put 0 3,get q 0/get p 0")) aA))))) (dg (f2 aq (aj 1) (f2 cC (aj 0) (fC (.int 16)))))))))))))
noncomputable def ig:FF:=λds=>if ds.length=1 then cI (pL (aH 2 ds))else none
noncomputable def oE:GS:=(aL (ju 3 (tZ aA)) (aL (gM (fH (fZ (Ab (aN ig [] (aa (aj 0) aA)) (aa (fC (.str "/")) aA)))) (bf 4) (aL (ju 5 (tZ aA)) (aL (gM (fH (fZ (Ab (aj 4) (aa (fC (.str ",")) aA)))) (bf 6) (aL (aZ 7 (fZ (Ab (aj 6) (aa (fC (.str " ")) aA)))) (aL (aZ 8 (f2 aq (FQ [((fC (.str "put")),(fC (.str "cv"))),((fC (.str "get")),(fC (.str "bc"))),((fC (.str "swap")),(fC (.str "bcv"))),((fC (.str "add")),(fC (.str "bvv"))),((fC (.str "skip")),(fC (.str "bn"))),((fC (.str "fence")),(fC (.str "")))]) (f2 aq (aj 7) (fC (.int 0))))) (aL (ju 9 (tZ (aa (f2 aq (aj 7) (fC (.int 0))) aA))) (aL (gM (BP (aa (aj 8) (aa (uV (aj 7) (eY (fC (.int 1))) gB) aA))) (kJ 2 (cJ (bf 10) (cJ (bf 11) lF))) (aL (aZ 12 (Ao (tV (XR "str" sY (aj 11))) (fB (kW oN kE) (aa (aj 11) aA)) (fC (.int 0)))) (aL (aZ 13 (f2 aW (aj 12) (f2 (jb cW bN) (aj 2) (fB (kW oN kE) (aa (f2 (cR false) (aj 10) (fC (.str "v"))) aA))))) (aL (gj (t2 (lU false) (aj 11) (bL (aa (fC (.str "p")) (aa (fC (.str "q")) aA)))) (aZ 13 (f2 aq (aj 1) (f2 aW (fC (.int 3)) (uQ "str" Fy (fC (.str "pq")) (aa (aj 11) aA))))) bJ) (fU 9 (Ao (t2 (cR false) (aj 10) (fC (.str "c"))) (f2 aq (aj 1) (aj 12)) (aj 13))))))) (fU 5 (fB (kW cF dW) (aa (aj 9) aA)))))))) (Av 5 (fU 3 (aj 5)))))) (nP 3)))
noncomputable def dN:FF:=λds=>if ds.length=3 then cI (oE (aH 14 ds))else none
noncomputable def sI:GS:=(aL (aZ 4 (f2 aq (aj 1) (f2 cC (f2 eN (aj 0) (fC (.int 11))) (fC (.int 3))))) (aL (aZ 5 (f2 aq (aj 1) (f2 aW (fC (.int 3)) (f2 cC (f2 eN (aj 0) (fC (.int 33))) (fC (.int 4)))))) (aL (aZ 6 (f2 aq (aj 1) (f2 aW (fC (.int 3)) (f2 cC (f2 eN (aj 0) (fC (.int 132))) (fC (.int 4)))))) (aL (aZ 7 (f2 aq (fG (aa (f2 aW (fC (.int 1)) (aj 3)) (aa (f2 cC (f2 eN (aj 0) (fC (.int 528))) (fC (.int 100))) (aa (aj 5) aA)))) (f2 cC (f2 eN (aj 0) (fC (.int 53))) (fC (.int 3))))) (aL (aZ 8 (f2 cC (aj 0) (fC (.int 11)))) (aL (gj (t2 (lO λi j=>decide (i<j)) (aj 8) (fC (.int 4))) (dg (bL (aa (fC (.str "put")) (aa (aj 4) (aa (aj 7) aA))))) bJ) (aL (gj (t2 (lO λi j=>decide (i<j)) (aj 8) (fC (.int 7))) (dg (bL (aa (fC (.str "get")) (aa (aj 5) (aa (aj 4) aA))))) bJ) (aL (gj (t2 (cR false) (aj 8) (fC (.int 7))) (dg (bL (aa (fC (.str "swap")) (aa (aj 5) (aa (aj 4) (aa (f2 aq (fG (aa (f2 aW (fC (.int 1)) (aj 3)) (aa (aj 6) aA))) (f2 cC (f2 eN (aj 0) (fC (.int 53))) (fC (.int 2)))) aA)))))) bJ) (aL (gj (Dt (t2 (cR false) (aj 8) (fC (.int 8))) (lR (t2 (cR false) (aj 2) (fC (.int 0))) (t2 (cR false) (aj 8) (fC (.int 9))))) (dg (bL (aa (fC (.str "add")) (aa (aj 5) (aa (aj 6) (aa (aj 7) aA)))))) bJ) (aL (gj (t2 (cR false) (aj 8) (fC (.int 9))) (dg (bL (aa (fC (.str "skip")) (aa (aj 5) (aa (f2 cC (f2 eN (aj 0) (fC (.int 528))) (f2 aW (fC (.int 1)) (fB Ks (aa (aj 2) (aa (fC (.int 9)) aA))))) aA))))) bJ) (dg (bL (aa (fC (.str "fence")) aA)))))))))))))
noncomputable def lY:FF:=λds=>if ds.length=4 then cI (sI (aH 9 ds))else none
noncomputable def oF:GS:=(aL (ju 5 (tZ aA)) (aL (aZ 6 (f2 aq (fG (aa (fC (.int 2)) (aa (fC (.int 5)) aA))) (fB (kW oN kE) (aa (f2 (lO λi j=>decide (j<i)) (aj 3) (fC (.int 3))) aA)))) (aL (gM (jK (aj 4)) (bf 7) (aL (aZ 8 (aN cg [] (aa (aN aQ [] (aa (aj 0) (aa (f2 aW (f2 aW (fC (.int 5)) (f2 (jb cW bN) (fC (.int 8)) (aj 1))) (aj 7)) aA))) (aa (f2 aW (f2 (jb cW bN) (fC (.int 10)) (aj 1)) (aj 7)) aA)))) (aL (aZ 9 (aN lY [] (aa (aj 8) (aa (aj 2) (aa (f2 pU (f2 pU (aj 4) (fC (.int 1))) (aj 7)) (aa (f2 aW (f2 (jb cW bN) (fC (.int 10)) (aj 1)) (aj 7)) aA)))))) (aL (aZ 10 (uQ "list" yO (aj 5) (aa (bL (aa (fC (.str "fence")) aA)) aA))) (aL (gj (lR (t2 (cR false) (aj 10) (aj 6)) (t2 (cR false) (aj 9) (bL (aa (fC (.str "fence")) aA)))) (aZ 9 (bL (aa (fC (.str "get")) (aa (f2 aq (aj 2) (fC (.int 3))) (aa (f2 aq (aj 2) (fC (.int 0))) aA))))) bJ) (aL (gj (t2 (cR false) (f2 pU (aj 7) (aj 10)) (aj 3)) (aZ 9 (bL (aa (fC (.str "fence")) aA))) bJ) (fU 5 (aj 9)))))))) (nP 5))))
noncomputable def eG:FF:=λds=>if ds.length=5 then cI (oF (aH 11 ds))else none
noncomputable def jW:GS:=(aL (aZ 2 (aN cg [] (aa (aN aQ [] (aa (aj 0) (aa (fC (.int 0)) aA))) (aa (fC (.int 1)) aA)))) (aL (aZ 3 (aN jo [] (aa (f2 eN (aj 2) (fC (.int 13))) aA))) (aL (aZ 4 (aN cg [] (aa (aN aQ [] (aa (aj 0) (aa (fC (.int 1)) aA))) (aa (fC (.int 2)) aA)))) (aL (aZ 5 (fG (aa (fC (.int 0)) (aa (fC (.int 0)) (aa (f2 cC (f2 eN (aj 4) (fC (.int 7))) (fC (.int 100))) (aa (fC (.int 5)) aA)))))) (aL (aZ 6 (fB (kW cF dW) (aa (fZ (dM [none,some 3,some 5,some 4] (jK (fC (.int 3))) (bC 0) tT (bL (aa (f2 aq (aj 1) (aj 0)) (aa (f2 aq (aj 2) (f2 cC (f2 aW (aj 3) (aj 0)) (fC (.int 4)))) aA))))) aA))) (aL (gj (t2 (cR false) (f2 cC (aN aQ [] (aa (aj 0) (aa (fC (.int 2)) aA))) (fC (.int 3))) (fC (.int 1))) (ju 7 (Cr dN [] (aa (f2 eN (aN aQ [] (aa (aj 0) (aa (fC (.int 2)) aA))) (fC (.int 3))) (aa (aj 3) (aa (f2 (jb cW bN) (f2 cC (aN aQ [] (aa (aj 0) (aa (fC (.int 1)) aA))) (fC (.int 3))) (fC (.int 30))) aA))))) (aL (aZ 8 (f2 aq (fG (aa (fC (.int 2)) (aa (fC (.int 2)) (aa (fC (.int 3)) (aa (fC (.int 1)) (aa (fC (.int 2)) aA)))))) (f2 cC (f2 eN (aN aQ [] (aa (aj 0) (aa (fC (.int 2)) aA))) (fC (.int 3))) (fC (.int 5))))) (aL (aZ 1 (fB Ks (aa (aj 1) (aa (f2 aq (fG (aa (fC (.int 5)) (aa (fC (.int 5)) (aa (fC (.int 5)) (aa (fC (.int 3)) aA))))) (aj 8)) aA)))) (aL (ju 7 (tZ aA)) (gM (jK (aj 8)) (bf 9) (aL (aZ 10 (f2 cC (aN cg [] (aa (f2 (jb cW bN) (aN aQ [] (aa (aj 0) (aa (fC (.int 3)) aA))) (f2 aW (fC (.int 1)) (f2 (jb cW bN) (fC (.int 2)) (aj 9)))) (aa (aj 9) aA))) (f2 aW (aj 1) (f2 aq (fG (aa (fC (.int 3)) (aa (fC (.int 6)) aA))) (fB (kW oN kE) (aa (f2 (lO λi j=>decide (j<i)) (aj 1) (fC (.int 3))) aA)))))) (ZD (fU 7 (aN eG [] (aa (aj 0) (aa (aj 9) (aa (aj 3) (aa (aj 1) (aa (aj 10) aA))))))) (Zx 7 (fU 7 (aN eG [] (aa (aj 0) (aa (aj 9) (aa (aj 3) (aa (aj 1) (aa (aj 10) aA))))))))))))))) (aL (aZ 11 (fG aA)) (aL (Av 7 (gM (fH (aj 7)) (bf 12) (gM (fH (aj 12)) (bf 13) (aZ 11 (f2 aW (aj 11) (fZ (nB nList (aa (aj 13) aA)))))))) (aL (aZ 8 (fB vZ (aa (f2 aW (fG (aa (f2 aW (fC (.int 1)) (f2 cC (f2 eN (aj 4) (fC (.int 9))) (fC (.int 3)))) aA)) (fZ (dM [none,some 11,some 3] (jK (fC (.int 3))) (bC 0) (t2 (lU false) (f2 aq (aj 2) (aj 0)) (aj 1)) (f2 aW (aj 0) (fC (.int 1)))))) aA))) (dg (bL (aa (uV (aj 6) gB (eY (aj 8))) (aa (fB (kW cF dW) (aa (fZ (dM [none] (fH (aj 7)) (bC 0) tT (fB (kW cF dW) (aa (aj 0) aA)))) aA)) aA)))))))))))))
noncomputable def jf:FF:=λds=>if ds.length=2 then cI (jW (aH 14 ds))else none
noncomputable def yI:GS:=(dg (fOr (f2 (cR false) (aj 0) (fC (.str "box"))) (KD (f2 (cR false) (aj 0) (fC (.str "value"))) (Bw "str" (aj 1)))))
noncomputable def o8:FF:=λds=>if ds.length=2 then cI (yI (aH 2 ds))else none
noncomputable def rM (iu:List (Str×D)):GS:=(qY (dM [none,none] (BP (aa (a08 iu (f2 aq (aj 0) (fC (.int 0)))) (aa (uV (aj 0) (eY (fC (.int 1))) gB) aA))) (rO 2 (gO (bC 0) (gO (bC 1) tQ))) (tV (aN o8 [] (aa (aj 0) (aa (aj 1) aA)))) (aj 1)))
noncomputable def gH (iu:List (Str×D)):FF:=λds=>if ds.length=1 then cI (rM iu (aH 1 ds))else none
noncomputable def lZ (iu:List (Str×D)):GS:=(aL (MT 1 a1z) (aL (gM (fH (aj 0)) (bf 2) (gM (fH (aN (gH iu) [] (aa (aj 2) aA))) (bf 3) (oU 1 (aj 3) (fC (.bl true))))) (dg (fB (kW cF dW) (aa (aj 1) aA)))))
noncomputable def gk (iu:List (Str×D)):FF:=λds=>if ds.length=1 then cI (lZ iu (aH 4 ds))else none
noncomputable def Ds (iu:List (Str×D)):List (Str×FD):=[("cells",(aj 1)),("threads",(aj 2)),("cell_names",(fB (kW cF dW) (aa (fZ (dM [none,none] (fH (aj 1)) (rO 2 (gO (bC 0) (gO (bC 1) tQ))) tT (aj 0))) aA))),("box_names",(fB (kW cF dW) (aa (fZ (dM [none] (fH (aj 2)) (bC 0) tT (aN (gk iu) [] (aa (aj 0) aA)))) aA)))]
noncomputable def nU (iu:List (Str×D)):List D->Option (List Str×List D):=λds=>if ds.length+1=3 then runInit (Ds iu) (Ky 3 ds) [] [] else none
noncomputable def vX:GS:=(dg (fB (kW cF dW) (aa (fZ (dM [none] (fH (aj 0)) (bC 0) tT (fB (kW cF dW) (aa (aj 0) aA)))) aA)))
noncomputable def eO:FF:=λds=>if ds.length=1 then cI (vX (aH 1 ds))else none
noncomputable def pN (aR:Addr)(iu:List (Str×D)):GS:=(dg (Rn aR (nU iu) (aa (aN eO [] (aa (f2 aq (aj 0) (fC (.int 0))) aA)) (aa (fB (kW cF dW) (aa (fZ (dM [none] (fH (f2 aq (aj 0) (fC (.int 1)))) (bC 0) tT (aN eO [] (aa (aj 0) aA)))) aA)) aA))))
noncomputable def jq (aR:Addr)(iu:List (Str×D)):FF:=λds=>if ds.length=1 then cI (pN aR iu (aH 1 ds))else none
noncomputable def Bh (aR:Addr):GS:=(aL (aZ 1 (fB (kW cF dW) (aa (fZ (dM [none,none] (fH (wA aR "cells" (aj 0))) (rO 2 (gO (bC 0) (gO (bC 1) tQ))) tT (aj 1))) aA))) (dg (bL (aa (aj 1) (aa (fB (kW cF dW) (aa (fZ (dM [none] (fH (wA aR "box_names" (aj 0))) (bC 0) tT (bL (aa (fC (.int 0)) (aa (f2 (jb cW bN) (bL (aa (fC (.int 0)) aA)) (fB iZ (aa (aj 0) aA))) (aa (bL aA) aA)))))) aA)) aA)))))
noncomputable def uy (aR:Addr):FF:=λds=>if ds.length=1 then cI (Bh aR (aH 2 ds))else none
noncomputable def DW:GS:=(aL (aZ 1 (f2 aq (FQ [((fC (.str "put")),(bL (aa (fC (.int 2)) aA))),((fC (.str "get")),(bL (aa (fC (.int 1)) aA))),((fC (.str "swap")),(bL (aa (fC (.int 1)) (aa (fC (.int 3)) aA)))),((fC (.str "add")),(bL (aa (fC (.int 1)) (aa (fC (.int 2)) (aa (fC (.int 3)) aA))))),((fC (.str "skip")),(bL (aa (fC (.int 1)) aA))),((fC (.str "fence")),(bL aA))]) (f2 aq (aj 0) (fC (.int 0))))) (qY (dM [none,some 0] (fH (aj 1)) (bC 0) (tV (Bw "str" (f2 aq (aj 1) (aj 0)))) (f2 aq (aj 1) (aj 0)))))
noncomputable def lz:FF:=λds=>if ds.length=1 then cI (DW (aH 2 ds))else none
noncomputable def pJ:GS:=(aL (ju 1 (tZ aA)) (aL (gM (fH (aj 0)) (bf 2) (gM (fH (aN lz [] (aa (aj 2) aA))) (bf 3) (gj (t2 (lU true) (aj 3) (aj 1)) (fU 1 (aj 3)) bJ))) (nP 1)))
noncomputable def gr:FF:=λds=>if ds.length=1 then cI (pJ (aH 4 ds))else none
noncomputable def pK:GS:=(aL (ju 1 (dM [none] (fH (f2 aq (aj 0) (fC (.int 1)))) (bC 0) tT (bL (aa (fC (.int 0)) (aa (f2 (jb cW bN) (bL (aa (fC (.int 0)) aA)) (fB iZ (aa (aN gr [] (aa (aj 0) aA)) aA))) (aa (bL aA) aA)))))) (dg (bL (aa (fB (kW cF dW) (aa (fZ (dM [none] (fH (f2 aq (aj 0) (fC (.int 0)))) (bC 0) tT (f2 aq (aj 0) (fC (.int 1))))) aA)) (aa (fB (kW cF dW) (aa (aj 1) aA)) aA)))))
noncomputable def jn:FF:=λds=>if ds.length=1 then cI (pK (aH 2 ds))else none
noncomputable def sH:GS:=(aL (ju 2 (tZ aA)) (aL (gM (yR (f2 aq (aj 1) (fC (.int 1)))) (kJ 2 (cJ (bf 3) (cJ (bf 4) lF))) (aL (aZ 5 (f2 aq (f2 aq (aj 0) (fC (.int 1))) (aj 3))) (aL (gj (lR (t2 (lO λi j=>decide (i<j)) (f2 aq (aj 4) (fC (.int 0))) (fB iZ (aa (aj 5) aA))) (Dt (t2 (cR false) (f2 aq (aj 4) (fC (.int 2))) (bL aA)) (t2 (lU true) (f2 aq (f2 aq (aj 5) (f2 aq (aj 4) (fC (.int 0)))) (fC (.int 0))) (bL (aa (fC (.str "fence")) (aa (fC (.str "swap")) aA)))))) (fU 2 (f2 (jb cW bN) (fC (.int 2)) (aj 3))) bJ) (gj (t2 (cR true) (f2 aq (aj 4) (fC (.int 2))) (bL aA)) (fU 2 (f2 aW (f2 (jb cW bN) (fC (.int 2)) (aj 3)) (fC (.int 1)))) bJ)))) (nP 2)))
noncomputable def jd:FF:=λds=>if ds.length=2 then cI (sH (aH 6 ds))else none
noncomputable def Ip:GS:=(dg (KD (Bw "int" (aj 0)) (a07 (Bw "bool" (aj 0)))))
noncomputable def qM:FF:=λds=>if ds.length=1 then cI (Ip (aH 1 ds))else none
noncomputable def oH:GS:=(gj (Dt (yw (tV (aN qM [] (aa (aj 0) aA)))) (t2 (lU true) (aj 0) (aj 1))) Y6 bJ)
noncomputable def iH:FF:=λds=>if ds.length=2 then cI (oH (aH 2 ds))else none
noncomputable def oG (aR:Addr):GS:=(dg (uQ "tuple" Am (wA aR "cell_names" (aj 0)) (aa (Ao (t2 (cR false) (f2 aq (aj 1) (fC (.int 0))) (fC (.str "put"))) (f2 aq (aj 1) (fC (.int 1))) (f2 aq (aj 1) (fC (.int 2)))) aA)))
noncomputable def cZ (aR:Addr):FF:=λds=>if ds.length=2 then cI (oG aR (aH 2 ds))else none
noncomputable def sO:GS:=(dg (Ao (tV (Bw "str" (aj 0))) (f2 aq (aj 1) (aj 0)) (aj 0)))
noncomputable def dR:FF:=λds=>if ds.length=2 then cI (sO (aH 2 ds))else none
noncomputable def yJ (aR:Addr):GS:=(aL (gj (t2 (lU true) (f2 aq (aj 1) (fC (.int 0))) (bL (aa (fC (.str "put")) (aa (fC (.str "swap")) aA)))) (dg (fC .non)) bJ) (dg (bL (aa (aN (cZ aR) [] (aa (aj 0) (aa (aj 1) aA))) (aa (aN dR [] (aa (f2 aq (aj 1) (Hi (fC (.int 1)))) (aa (aj 2) aA))) aA)))))
noncomputable def sG (aR:Addr):FF:=λds=>if ds.length=3 then cI (yJ aR (aH 3 ds))else none
noncomputable def lB:GS:=(dg (Ao (lR (t2 (cR false) (f2 aq (aj 0) (fC (.int 0))) (fC (.str "skip"))) (t2 (cR false) (f2 aq (aj 1) (f2 aq (aj 0) (fC (.int 1)))) (fC (.int 0)))) (f2 aq (aj 0) (fC (.int 2))) (fC (.int 0))))
noncomputable def gJ:FF:=λds=>if ds.length=2 then cI (lB (aH 2 ds))else none
noncomputable def oJ:GS:=(aL (ju 3 (dM [none,none,some 2] (fH (aj 1)) (rO 2 (gO (bC 0) (gO (bC 1) tQ))) (t2 (cR false) (aj 0) (aj 2)) (aj 1))) (dg (Ao (t2 (cR true) (aj 3) (fG aA)) (f2 aq (aj 3) (Hi (fC (.int 1)))) (f2 aq (aj 0) (aj 2)))))
noncomputable def fP:FF:=λds=>if ds.length=3 then cI (oJ (aH 4 ds))else none
noncomputable def qP:GS:=(dg (f2 aW (f2 aW (uV (aj 0) gB (eY (aj 1))) (bL (aa (aj 2) aA))) (uV (aj 0) (eY (f2 aW (aj 1) (fC (.int 1)))) gB)))
noncomputable def dm:FF:=λds=>if ds.length=3 then cI (qP (aH 3 ds))else none
noncomputable def Ey:GS:=(aL (aZ 2 (f2 aW (aj 0) (aj 1))) (dg (Ao (t2 (lO λi j=>decide (i<j)) (aj 2) (fC (.int 100))) (aj 2) (f2 pU (aj 2) (fC (.int 100))))))
noncomputable def oh:FF:=λds=>if ds.length=2 then cI (Ey (aH 3 ds))else none
noncomputable def p7 (aR:Addr):GS:=(aL (aZ 4 (f2 aq (aj 1) (fC (.int 0)))) (aL (aZ 5 (f2 aq (f2 aq (aj 1) (fC (.int 1))) (aj 2))) (aL (aZ 6 (f2 aq (aj 5) (fC (.int 2)))) (aL (aZ 7 (f2 aq (f2 aq (wA aR "threads" (aj 0)) (aj 2)) (f2 aq (aj 5) (fC (.int 0))))) (aL (MT 8 (a0p (aa (f2 aq (wA aR "box_names" (aj 0)) (aj 2)) (aa (f2 aq (aj 5) (fC (.int 1))) aA)))) (aL (aZ 9 (f2 aW (f2 aW (f2 aq (aj 5) (fC (.int 0))) (fC (.int 1))) (aN gJ [] (aa (aj 7) (aa (aj 8) aA))))) (aL (aZ 10 (aN (sG aR) [] (aa (aj 0) (aa (aj 7) (aa (aj 8) aA))))) (aL (gj (t2 (lU false) (f2 aq (aj 7) (fC (.int 0))) (bL (aa (fC (.str "get")) (aa (fC (.str "swap")) aA)))) (oU 8 (f2 aq (aj 7) (fC (.int 1))) (aN fP [] (aa (aj 4) (aa (aj 6) (aa (aN (cZ aR) [] (aa (aj 0) (aa (aj 7) aA))) aA))))) (gj (t2 (cR false) (f2 aq (aj 7) (fC (.int 0))) (fC (.str "add"))) (oU 8 (f2 aq (aj 7) (fC (.int 1))) (aN oh [] (aa (aN dR [] (aa (f2 aq (aj 7) (fC (.int 2))) (aa (aj 8) aA))) (aa (aN dR [] (aa (f2 aq (aj 7) (fC (.int 3))) (aa (aj 8) aA))) aA)))) bJ)) (aL (gj (lR (t2 (cR false) (f2 aq (aj 7) (fC (.int 0))) (fC (.str "put"))) (tV (aj 3))) (aZ 6 (f2 aW (aj 6) (bL (aa (aj 10) aA)))) (gj (t2 (Xz true) (aj 10) (fC .non)) (aZ 4 (aN dm [] (aa (aj 4) (aa (f2 aq (aj 10) (fC (.int 0))) (aa (f2 aq (aj 10) (fC (.int 1))) aA))))) bJ)) (dg (bL (aa (aj 4) (aa (aN dm [] (aa (f2 aq (aj 1) (fC (.int 1))) (aa (aj 2) (aa (bL (aa (aj 9) (aa (WY (aj 8)) (aa (aj 6) aA)))) aA)))) aA)))))))))))))
noncomputable def o9 (aR:Addr):FF:=λds=>if ds.length=4 then cI (p7 aR (aH 11 ds))else none
noncomputable def sJ:GS:=(aL (aZ 2 (f2 aq (f2 aq (aj 0) (fC (.int 1))) (aj 1))) (aL (aZ 3 (f2 aq (f2 aq (aj 2) (fC (.int 2))) (fC (.int 0)))) (aL (aZ 4 (bL (aa (f2 aq (aj 2) (fC (.int 0))) (aa (f2 aq (aj 2) (fC (.int 1))) (aa (uV (f2 aq (aj 2) (fC (.int 2))) (eY (fC (.int 1))) gB) aA))))) (dg (bL (aa (aN dm [] (aa (f2 aq (aj 0) (fC (.int 0))) (aa (f2 aq (aj 3) (fC (.int 0))) (aa (f2 aq (aj 3) (fC (.int 1))) aA)))) (aa (aN dm [] (aa (f2 aq (aj 0) (fC (.int 1))) (aa (aj 1) (aa (aj 4) aA)))) aA)))))))
noncomputable def o7:FF:=λds=>if ds.length=2 then cI (sJ (aH 5 ds))else none
noncomputable def vz (aR:Addr):GS:=(aL (gj (t2 (cR false) (f2 cC (aj 2) (fC (.int 2))) (fC (.int 1))) (dg (aN o7 [] (aa (aj 1) (aa (f2 eN (aj 2) (fC (.int 2))) aA)))) bJ) (dg (aN (o9 aR) [] (aa (aj 0) (aa (aj 1) (aa (f2 eN (aj 2) (fC (.int 2))) (aa (aj 3) aA)))))))
noncomputable def qg (aR:Addr):FF:=λds=>if ds.length=4 then cI (vz aR (aH 4 ds))else none
noncomputable def pM:GS:=(aL (gj (t2 (lO λi j=>decide (j<=i)) (f2 aq (aj 1) (fC (.int 0))) (fB iZ (aa (aj 0) aA))) (dg (fC (.bl false))) bJ) (dg (fOr (f2 (cR false) (f2 aq (aj 1) (fC (.int 2))) (bL aA)) (f2 (lU true) (f2 aq (f2 aq (aj 0) (f2 aq (aj 1) (fC (.int 0)))) (fC (.int 0))) (bL (aa (fC (.str "fence")) (aa (fC (.str "swap")) aA)))))))
noncomputable def fJ:FF:=λds=>if ds.length=2 then cI (pM (aH 2 ds))else none
noncomputable def Kh (aR:Addr):GS:=(aL (ju 3 (tZ aA)) (aL (gM (yR (wA aR "threads" (aj 0))) (kJ 2 (cJ (bf 4) (cJ (bf 5) lF))) (aL (aZ 6 (f2 aq (f2 aq (aj 1) (fC (.int 1))) (aj 4))) (aL (gj (tV (aN fJ [] (aa (aj 5) (aa (aj 6) aA)))) (fU 3 (f2 (jb cW bN) (fC (.int 2)) (aj 4))) bJ) (gj (t2 (cR true) (f2 aq (aj 6) (fC (.int 2))) (bL aA)) (fU 3 (f2 aW (f2 (jb cW bN) (fC (.int 2)) (aj 4)) (fC (.int 1)))) bJ)))) (nP 3)))
noncomputable def Ex (aR:Addr):FF:=λds=>if ds.length=3 then cI (Kh aR (aH 7 ds))else none
noncomputable def Bg (aR:Addr):GS:=(aL (MP (aN iH [] (aa (aj 2) (aa (aN (Ex aR) [] (aa (aj 0) (aa (aj 1) (aa (aj 3) aA)))) aA)))) (dg (aN (qg aR) [] (aa (aj 0) (aa (aj 1) (aa (aj 2) (aa (aj 3) aA)))))))
noncomputable def qL (aR:Addr):FF:=λds=>if ds.length=4 then cI (Bg aR (aH 4 ds))else none
noncomputable def oA (aR:Addr):GS:=(aL (gj (lR (tV (aj 3)) (tV (aj 4))) (dg (aN (qL aR) [.bl true] (aa (aj 0) (aa (aj 1) (aa (aj 2) aA))))) bJ) (dg (aN (qL aR) [] (aa (aj 0) (aa (aj 1) (aa (aj 2) (aa (aj 3) aA)))))))
noncomputable def fO (aR:Addr):FF:=λds=>if ds.length=5 then cI (oA aR (aH 5 ds))else none
noncomputable def qO:GS:=(aL (aZ 5 (f2 aq (f2 aq (f2 aq (aj 0) (fC (.int 1))) (aj 1)) (f2 aq (aj 4) (fC (.int 0))))) (aL (aZ 6 (aN gr [] (aa (f2 aq (f2 aq (aj 0) (fC (.int 1))) (aj 1)) aA))) (aL (ju 7 (dM [none] (fH (f2 aq (aj 0) (fC (.int 0)))) (bC 0) tT (f2 aq (aj 0) (fC (.int 0))))) (aL (ju 8 (dM [none,some 6,some 3] (fH (uV (aj 5) (eY (fC (.int 1))) gB)) (bC 0) tT (Ao (t2 (lU false) (aj 0) (aj 1)) (f2 aq (aj 2) (uQ "list" jg (aj 1) (aa (aj 0) aA))) (aj 0)))) (aL (aZ 9 (f2 aq (aj 4) (fC (.int 2)))) (aL (gj (t2 (cR false) (f2 aq (aj 5) (fC (.int 0))) (fC (.str "put"))) (aZ 9 (f2 aW (aj 9) (bL (aa (bL (aa (uQ "list" jg (aj 7) (aa (f2 aq (aj 5) (fC (.int 1))) aA)) (aa (f2 aq (aj 8) (fC (.int 1))) aA))) aA)))) bJ) (aL (gj (t2 (lU false) (f2 aq (aj 5) (fC (.int 0))) (bL (aa (fC (.str "get")) (aa (fC (.str "swap")) aA)))) (aL (aZ 10 (uQ "list" jg (aj 7) (aa (f2 aq (aj 5) (fC (.int 2))) aA))) (aL (aZ 11 (f2 aq (f2 aW (fG (aa (f2 aq (aj 2) (aj 10)) aA)) (fZ (dM [none,some 10] (fH (aj 9)) (bC 0) (t2 (cR false) (f2 aq (aj 0) (fC (.int 0))) (aj 1)) (f2 aq (aj 0) (fC (.int 1)))))) (Hi (fC (.int 1))))) (aL (gj (t2 (cR false) (f2 aq (aj 5) (fC (.int 0))) (fC (.str "swap"))) (lV 2 (aj 10) (f2 aq (aj 8) (fC (.int 2)))) bJ) (lV 3 (uQ "list" jg (aj 6) (aa (f2 aq (aj 5) (fC (.int 1))) aA)) (aj 11))))) bJ) (aL (gj (t2 (cR false) (f2 aq (aj 5) (fC (.int 0))) (fC (.str "add"))) (aL (aZ 12 (f2 aW (f2 aq (aj 8) (fC (.int 1))) (f2 aq (aj 8) (fC (.int 2))))) (lV 3 (uQ "list" jg (aj 6) (aa (f2 aq (aj 5) (fC (.int 1))) aA)) (f2 pU (aj 12) (f2 (jb cW bN) (fC (.int 100)) (fB (kW oN kE) (aa (f2 (lO λi j=>decide (j<i)) (aj 12) (fC (.int 99))) aA)))))) bJ) (aL (aZ 13 (Ao (lR (t2 (cR false) (f2 aq (aj 5) (fC (.int 0))) (fC (.str "skip"))) (t2 (cR false) (f2 aq (aj 8) (fC (.int 0))) (fC (.int 0)))) (f2 aq (aj 5) (fC (.int 2))) (fC (.int 0)))) (dg (bL (aa (f2 aW (f2 aW (f2 aq (aj 4) (fC (.int 0))) (fC (.int 1))) (aj 13)) (aa (aj 9) aA)))))))))))))
noncomputable def je:List D->Option (D×List (List D)):=λds=>if ds.length=5 then FN [2,3] (qO (mU [2,3] 14 ds))else none
noncomputable def nM:GS:=(aL (ju 4 (nB nList (aa (f2 aq (aj 1) (fC (.int 0))) aA))) (aL (aZ 5 (f2 eN (aj 2) (fC (.int 2)))) (aL (aZ 6 (f2 aq (f2 aq (aj 1) (fC (.int 1))) (aj 5))) (aL (ju 7 (nB nList (aa (f2 aq (aj 6) (fC (.int 1))) aA))) (aL (Y7 8 9 (aa (f2 aq (aj 6) (fC (.int 0))) (aa (f2 aq (aj 6) (fC (.int 2))) aA))) (aL (gj (t2 (cR false) (f2 cC (aj 2) (fC (.int 2))) (fC (.int 0))) (wG [.val (aj 0),.val (aj 5),.own 4,.own 7,.val (aj 6)] je (kJ 2 (cJ (bf 8) (cJ (bf 9) lF)))) bJ) (aL (gj (lR (t2 (cR true) (aj 9) (bL aA)) (Dt (t2 (cR false) (f2 cC (aj 2) (fC (.int 2))) (fC (.int 1))) (yw (tV (aj 3))))) (aL (lV 4 (f2 aq (f2 aq (aj 9) (fC (.int 0))) (fC (.int 0))) (f2 aq (f2 aq (aj 9) (fC (.int 0))) (fC (.int 1)))) (aZ 9 (uV (aj 9) (eY (fC (.int 1))) gB))) bJ) (aL (ju 10 (nB nList (aa (f2 aq (aj 1) (fC (.int 1))) aA))) (aL (lV 10 (aj 5) (bL (aa (aj 8) (aa (fB (kW cF dW) (aa (aj 7) aA)) (aa (aj 9) aA))))) (dg (bL (aa (fB (kW cF dW) (aa (aj 4) aA)) (aa (fB (kW cF dW) (aa (aj 10) aA)) aA)))))))))))))
noncomputable def kj:FF:=λds=>if ds.length=4 then cI (nM (aH 11 ds))else none
noncomputable def Bj (aR:Addr):GS:=(dg (bL (aa (wA aR "cells" (aj 0)) (aa (wA aR "threads" (aj 0)) aA))))
noncomputable def qN (aR:Addr):FF:=λds=>if ds.length=1 then cI (Bj aR (aH 1 ds))else none
noncomputable def lA (Fc:FF):GS:=(aL (gj (tV (Bw "tuple" (aj 1))) (aL (gj (Dt (yw (tV (Bw "tuple" (aj 0)))) (t2 (cR true) (fB iZ (aa (aj 0) aA)) (fB iZ (aa (aj 1) aA)))) (dg (fC (.bl false))) bJ) (dg (fB R5 (aa (fZ (dM [none,none] (BP (aa (aj 0) (aa (aj 1) aA))) (rO 2 (gO (bC 0) (gO (bC 1) tQ))) tT (aN Fc [] (aa (aj 0) (aa (aj 1) aA))))) aA)))) bJ) (dg (KD (Bw "int" (aj 0)) (KD (a07 (Bw "bool" (aj 0))) (f2 (cR false) (aj 0) (aj 1))))))
noncomputable def jm (Fc:FF):FF:=λds=>if ds.length=2 then cI (lA Fc (aH 2 ds))else none
noncomputable def nJ:Nat->FF
 |0=>λ_=>none
 |k+1=>jm (nJ k)
noncomputable def gZ:FF:=nJ 8
noncomputable def Kl (aR:Addr)(iu:List (Str×D)):GS:=(aL (aZ 1 (aN jf [] (aa (aj 0) (aa (fC (.int 5)) aA)))) (aL (aZ 2 (aN (jq aR iu) [] (aa (aj 1) aA))) (aL (aZ 3 (aN aQ [] (aa (aj 0) (aa (fC (.int 30)) aA)))) (aL (aZ 4 (f2 (cR true) (f2 cC (aj 3) (fC (.int 3))) (fC (.int 1)))) (aL (aZ 5 (aN (uy aR) [] (aa (aj 2) aA))) (aL (aZ 6 (aN jn [] (aa (aj 1) aA))) (aL (ju 7 (tZ aA)) (aL (gM (jK (fC (.int 36))) (bf 8) (aL (aZ 9 (aN jd [] (aa (aj 1) (aa (aj 6) aA)))) (aL (gj (Dt (yw (tV (aN gZ [] (aa (aj 5) (aa (aj 6) aA))))) (t2 (cR false) (aj 9) (fG aA))) gBk bJ) (aL (aZ 10 (aN cg [] (aa (f2 (jb cW bN) (aN aQ [] (aa (aj 0) (aa (f2 aW (fC (.int 31)) (f2 cC (aj 8) (fC (.int 16)))) aA))) (f2 aW (fC (.int 1)) (f2 (jb cW bN) (fC (.int 2)) (aj 8)))) (aa (f2 aW (fC (.int 40)) (aj 8)) aA)))) (aL (aZ 11 (f2 aq (aj 9) (f2 cC (aj 10) (fB iZ (aa (aj 9) aA))))) (aL (aZ 12 (aN (fO aR) [] (aa (aj 2) (aa (aj 5) (aa (aj 11) (aa (aj 4) (aa (f2 (cR false) (f2 cC (f2 eN (aj 3) (fC (.int 3))) (fC (.int 2))) (fC (.int 1))) aA))))))) (aL (aZ 13 (aj 5)) (aL (aZ 5 (aj 12)) (aL (aZ 6 (aN kj [] (aa (aj 1) (aa (aj 6) (aa (aj 11) (aa (aj 4) aA)))))) (fU 7 (bL (aa (aj 13) (aa (aj 11) (aa (aj 6) aA)))))))))))))) (aL (gj (Dt (yw (tV (aN gZ [] (aa (aj 5) (aa (aj 6) aA))))) (t2 (cR true) (aN (uy aR) [] (aa (aj 2) aA)) (aN jn [] (aa (aj 1) aA)))) (dg (fC (.bl false))) bJ) (aL (gM (jK (fB Ks (aa (fC (.int 4)) (aa (fB iZ (aa (aj 7) aA)) aA)))) (bf 8) (aL (Ja (kJ 3 (cJ (bf 13) (cJ (bf 11) (cJ (bf 6) lF)))) (f2 aq (aj 7) (f2 cC (aN cg [] (aa (f2 (jb cW bN) (aj 3) (f2 aW (fC (.int 1)) (f2 (jb cW bN) (fC (.int 2)) (aj 8)))) (aa (f2 aW (fC (.int 70)) (aj 8)) aA))) (fB iZ (aa (aj 7) aA))))) (gj (yw (tV (aN gZ [] (aa (aN (fO aR) [] (aa (aj 2) (aa (aj 13) (aa (aj 11) (aa (aj 4) (aa (fC (.bl false)) aA)))))) (aa (aj 6) aA))))) (dg (fC (.bl false))) bJ))) (dg (f2 (cR false) (a05 aR "plain" (qN aR) (aj 2)) (aj 1)))))))))))))
noncomputable def QL (aR:Addr)(iu:List (Str×D)):FF:=λds=>if ds.length=1 then cI (Kl aR iu (aH 14 ds))else none
end K
section
variable {G G1 G2:bw->Option DR}{ρ ρ':bw}{d:D}{k:RK}{F:FD}{i:Nat}
theorem fj {α β:Type}{F:aK->Option α}{fl:α->Bool}{k:α->Bool->β}{d:α}(h:F (vis ρ)=some d)(hf:fl d=true):three F fl k ρ=some (k d true):=by
 unfold three
 rw[h]
 simp[hf]
theorem aD (h:G1 ρ=some (.nx ρ')):aL G1 G2 ρ=G2 ρ':=by unfold aL;rw[h];rfl
theorem mJ (h:G1 ρ=some (.rt d k ρ')):aL G1 G2 ρ=some (.rt d k ρ'):=by unfold aL;rw[h];rfl
theorem Vd (h:G1 ρ=some (.bk ρ')):aL G1 G2 ρ=some (.bk ρ'):=by unfold aL;rw[h];rfl
theorem aM (h:F (vis ρ)=some d)(hf:flat d=true):aZ i F ρ=some (.nx (ρ.set i (some (.val d true)))):=fj h hf
theorem KJ {T:FT}{b:Bool}(h:T (vis ρ)=some b):gj T G1 G2 ρ=if b=true then G1 ρ else G2 ρ:=by unfold gj;rw[h];rfl
theorem bM (h:F (vis ρ)=some d)(hf:flat d=true):dg F ρ=some (.rt d .new ρ):=fj h hf
theorem qX {FI:aK->Option (List D×List D)}{T:D->Bool->bw->Option bw}{r:List D×List D}(h0:FI (vis ρ)=some r)(h1:FI (vals true ρ)=some r):gM FI T G ρ=dX T G true r.1 ρ:=by
 unfold gM three
 rw[h0,h1]
 by_cases h:(flat.flats r.1&&flat.flats r.2)=true<;>simp[h]
theorem pC (h0:F (vis ρ)=some d)(h1:F (vals true ρ)=some d):aZ i F ρ=some (.nx (ρ.set i (some (.val d true)))):=by
 unfold aZ three
 rw[h0,h1]
 by_cases h:flat d=true<;>simp[h]
theorem iJ {l:List D}{fr:Bool}{tg:Option Nat}(hi:ρ[i]?=some (some (.own l fr tg)))(hl:l.length<sizeLine)(h:F (vis ρ)=some d)(hf:flat d=true):fU i F ρ=some (.nx (ρ.set i (some (.own (l++[d]) fr tg)))):=by
 unfold fU
 rw[hi]
 simp[hl,h,hf]
theorem gG {T:D->Bool->bw->Option bw}{fr:Bool}{ds:List D}{Aj yH:bw}(hT:T d fr ρ=some Aj)(hG:G Aj=some (.nx yH)):dX T G fr (d::ds) ρ=dX T G fr ds yH:=by
 simp only[dX,hT,hG,Option.bind_some]
theorem G3 {l:List D}(h:∀d∈l,flat d=true):flat.flats l=true:=by
 induction l with
 |nil=>rfl
 |cons x l ih=>simp[flat.flats,h x (by simp),ih λd hd=>h d (by simp[hd])]
theorem bh {α:Type}{f:α->D}{l:List α}(h:∀a,flat (f a)=true):flat.flats (l.map f)=true:=G3 λd hd=>by
 obtain⟨a,_,rfl⟩:=List.mem_map.mp hd
 exact h a
end
theorem jX (a b:String):(Str.ofString a=Str.ofString b)=(a=b):=by
 apply propext
 constructor
 ·intro h
  rw[Str.ofString_eq_toList,Str.ofString_eq_toList]at h
  have h2:a.toList.map Char.toNat=b.toList.map Char.toNat:=by
   have:=congrArg (λx=>x.cps.toList) h
   simpa using this
  have h3:a.toList=b.toList:=(List.map_inj_right (λx y e=>Char.ext (UInt32.toNat.inj e))).mp h2
  exact String.toList_inj.mp h3
 ·rintro rfl;rfl
theorem bW (a b:String):(Str.ofString a==Str.ofString b)=decide (a=b):=by
 cases h:decide (a=b)with
 |true=>simp[of_decide_eq_true h]
 |false=>simp[jX,of_decide_eq_false h]
theorem aC {g:D->D->Option D}{a b:FD}{ρ:aK}{x y z:D}(ha:a ρ=some x)(hb:b ρ=some y)(hg:g x y=some z):f2 g a b ρ=some z:=by
 show(a ρ).bind (λx=>(b ρ).bind λy=>g x y)=some z
 rw[ha,Option.bind_some,hb,Option.bind_some,hg]
theorem dh {g:D->D->Option D}{a b:FD}{ρ:aK}{x y:D}{z:Bool}(ha:a ρ=some x)(hb:b ρ=some y)(hg:g x y=some (.bl z)):t2 g a b ρ=some z:=by
 show(a ρ).bind (λx=>(b ρ).bind λy=>(g x y).bind zW)=some z
 rw[ha,Option.bind_some,hb,Option.bind_some,hg];rfl
theorem bG {a:FD}{s:FL}{ρ:aK}{x:D}{l:List D}(ha:a ρ=some x)(hs:s ρ=some l):aa a s ρ=some (x::l):=by
 show(a ρ).bind (λx=>(s ρ).map λl=>x::l)=_
 rw[ha,Option.bind_some,hs];rfl
theorem aO {a:FD}{ρ:aK}{x:D}(ha:a ρ=some x):aa a aA ρ=some [x]:=bG ha rfl
theorem kI {g:List D->Option D}{s:FL}{ρ:aK}{l:List D}{x:D}(hs:s ρ=some l)(hg:g l=some x):fB g s ρ=some x:=by
 show(s ρ).bind g=_
 rw[hs,Option.bind_some,hg]
theorem bT {s:FL}{ρ:aK}{l:List D}(hs:s ρ=some l)(hl:l.length<=16777216):bL s ρ=some (.tup l):=by
 show(s ρ).bind Cq=_
 rw[hs,Option.bind_some]
 unfold Cq
 rw[if_pos (by rw[sizeLine_eq];exact hl)]
theorem aU {Ff:FF}{DN:List D}{s:FL}{ρ:aK}{l:List D}{r:D×RK}{d:D}(hs:s ρ=some l)(hf:Ff (l++DN)=some r)(hk:rQ r=some d):aN Ff DN s ρ=some d:=by
 show(s ρ).bind (λl=>(Ff (l++DN)).bind rQ)=_
 rw[hs,Option.bind_some,hf,Option.bind_some,hk]
theorem jt {n:FL}{ρ:aK}{l:List D}(h:n ρ=some l):fZ n ρ=some (.lst l):=by
 show(n ρ).map D.lst=_
 rw[h];rfl
theorem j5 {cap:List (Option Nat)}{I:FI}{T:D->aK->Option aK}{Tt:FT}{Fe:FD}{ρ:aK}{r:List D×List D}{l:List D}(h:I ρ=some r)(hl:r.1.length<=16777216)(hc:gf T Tt Fe (inD cap ρ) r.1=some l):dM cap I T Tt Fe ρ=some l:=by
 unfold dM
 rw[h,Option.bind_some,if_pos (by rw[sizeLine_eq];exact hl),hc]
theorem jT {a:FD}{ρ:aK}{l:List D}(h:a ρ=some (.tup l)):fH a ρ=some (l,[.tup l]):=by
 show(a ρ).bind X5=_
 rw[h];rfl
theorem jR {a:FD}{ρ:aK}{l:List D}(h:a ρ=some (.lst l)):fH a ρ=some (l,[.lst l]):=by
 show(a ρ).bind X5=_
 rw[h];rfl
theorem uv {a:FD}{ρ:aK}{l:List D}(h:a ρ=some (.lst l)\/a ρ=some (.tup l)):fB (kW cF dW) (aa a aA) ρ=some (.tup l):=by
 rcases h with h|h
 ·exact kI (aO h) rfl
 ·exact kI (aO h) rfl
theorem nO {C:Addr}{f:Str}{a:FD}{ρ:aK}{ks:List Str}{l:List D}{d:D}(h:a ρ=some (.ins C ks l))(hg:wH ks l f=some d):wA C f a ρ=some d:=by
 show(a ρ).bind (R7 C f)=_
 rw[h,Option.bind_some]
 simp only[R7,if_true,hg]
theorem gb {T:FT}{G1 G2:GS}{ρ:bw}(h:T (vis ρ)=some true):gj T G1 G2 ρ=G1 ρ:=by rw[KJ h];rfl
theorem cP {T:FT}{G1 G2:GS}{ρ:bw}(h:T (vis ρ)=some false):gj T G1 G2 ρ=G2 ρ:=by rw[KJ h];rfl
theorem Kc {a:FD}{ρ:aK}{b:Bool}(h:a ρ=some (.bl b)):tV a ρ=some b:=by
 show(a ρ).bind zW=_
 rw[h];rfl
theorem lN {a b:FT}{ρ:aK}{x y:Bool}(ha:a ρ=some x)(hb:x=true->b ρ=some y):lR a b ρ=some (x&&y):=by
 show(a ρ).bind (λx=>if x=true then b ρ else some false)=_
 rw[ha]
 cases x with
 |true=>exact hb rfl
 |false=>rfl
theorem uq {a b:FT}{ρ:aK}{x y:Bool}(ha:a ρ=some x)(hb:x=false->b ρ=some y):Dt a b ρ=some (x||y):=by
 show(a ρ).bind (λx=>if x=true then some true else b ρ)=_
 rw[ha]
 cases x with
 |true=>rfl
 |false=>exact hb rfl
theorem uN {a:FT}{ρ:aK}{x:Bool}(ha:a ρ=some x):yw a ρ=some (!x):=by
 show(a ρ).map (λx=>!x)=_
 rw[ha];rfl
theorem pW {T:String}{g:D->List D->Option D}{o:FD}{s:FL}{ρ:aK}{x d:D}{l:List D}(ho:o ρ=some x)(ht:Xp T x=true)(hs:s ρ=some l)(hg:g x l=some d):uQ T g o s ρ=some d:=by
 show(o ρ).bind (λx=>if Xp T x=true then(s ρ).bind λl=>g x l else none)=_
 rw[ho,Option.bind_some,if_pos ht,hs,Option.bind_some,hg]
theorem lE {t:FT}{a b:FD}{ρ:aK}{x:Bool}{d:D}(ht:t ρ=some x)(ha:x=true->a ρ=some d)(hb:x=false->b ρ=some d):Ao t a b ρ=some d:=by
 show(t ρ).bind (λx=>if x=true then a ρ else b ρ)=_
 rw[ht]
 cases x with
 |true=>exact ha rfl
 |false=>exact hb rfl
theorem MJ {a b:FD}{ρ:aK}{d:D}(ha:a ρ=some (.bl true))(hb:b ρ=some d):KD a b ρ=some d:=by
 show(a ρ).bind (λx=>(zW x).bind λy=>if y=true then b ρ else some (.bl false))=_
 rw[ha]
 exact hb
theorem fc {i:Nat}{F:FL}{ρ:bw}{l:List D}(h:F (vis ρ)=some l)(hf:flat.flats l=true):ju i F ρ=some (.nx (ρ.set i (some (.own l true none)))):=fj h hf
namespace K
theorem U6 (a b:Int):oh [.int a,.int b]=some (.int (if a+b<100 then a+b else a+b - 100),.new):=by
 by_cases h:a+b<100<;>simp[aH,aL,aZ,dg,three,vis,at?,f2,aj,fC,aW,zW,flat,cI,L.toD,Ao,t2,lO,pU,oh,Ey,h]
theorem uO (c k:Int)(h1: -1000<k)(h2:k<1000):∃r,cg [.int c,.int k]=some (.int r,.new)/\0<=r:=by
 have h3: -(2 ^ 64)<k/\k<2 ^ 64:=by omega
 refine⟨(c*48271 % 2147483647+7919*k*k+104729*k)*69621 % 2147483629/7,?_,by omega⟩
 have h4: -18446744073709551616<k/\k<18446744073709551616:=by omega
 simp[aH,aL,aZ,dg,three,vis,at?,f2,aj,fC,aW,zW,flat,cI,L.toD,cW,cC,eN,jb,cg,uT,h4]
theorem mG (l:List Int)(k:Nat):∃r,aQ [.uR l,.int k]=some (.int r,.new):=by
 by_cases h:k<l.length
 ·refine⟨l[k],?_⟩
  simp[aH,aL,aZ,dg,three,vis,at?,f2,aj,fC,aW,zW,flat,cI,L.toD,gj,bJ,t2,fB,aa,aA,lO,aq,UW,aQ,nu,iZ,h,zz,Ld]
 ·exact⟨0,by simp[aH,aL,aZ,dg,three,vis,at?,f2,aj,fC,aW,zW,flat,cI,L.toD,gj,bJ,t2,fB,aa,aA,lO,aQ,nu,iZ,h]⟩
end K
inductive Va where
 |nm (x:Str)
 |no (i:Int)
noncomputable def Va.d:Va->D
 | .nm x=> .str x
 | .no i=> .int i
inductive Rw where
 |put (c:Str) (v:Va)
 |get (b c:Str)
 |swap (b c:Str) (v:Va)
 |add (b:Str) (v u:Va)
 |skip (b:Str) (n:Nat)
 |fence
noncomputable def Rw.d:Rw->D
 | .put c v=> .tup [.str "put",.str c,v.d]
 | .get b c=> .tup [.str "get",.str b,.str c]
 | .swap b c v=> .tup [.str "swap",.str b,.str c,v.d]
 | .add b v u=> .tup [.str "add",.str b,v.d,u.d]
 | .skip b n=> .tup [.str "skip",.str b,.int n]
 | .fence=> .tup [.str "fence"]
noncomputable def Va.bx:Va->List Str
 | .nm x=>[x]
 | .no _=>[]
noncomputable def Rw.bx:Rw->List Str
 | .put _ v=>v.bx
 | .get b _=>[b]
 | .swap b _ v=>b::v.bx
 | .add b v u=>b::(v.bx++u.bx)
 | .skip b _=>[b]
 | .fence=>[]
noncomputable def mR:Nat->D->Bool
 |_,.non=>true
 |_,.bl _=>true
 |_,.int _=>true
 |_,.str x=>PyData.strOk x
 |n+1,.tup l=>l.all (mR n)
 |n+1,.lst l=>l.all (mR n)
 |_,_=>false
theorem Ze:∀(n:Nat) (d:D),mR n d=true->Ni d=true/\(rK d).canLay0=true/\(rK d).depth<=n:=by
 intro n
 induction n with
 |zero=>intro d h;cases d<;>simp[mR,Ni,rK,PyData.canLay0,PyData.depth]at h ⊢;exact h
 |succ n ih=>
  have all:∀l:List D,l.all (mR n)=true->Ed l=true/\PyData.canLayAll0 (iG l)=true/\PyData.depthAll (iG l)<=n:=by
   intro l
   induction l with
   |nil=>intro _;simp[Ed,iG,PyData.canLayAll0,PyData.depthAll]
   |cons x l il=>
    intro h
    rw[List.all_cons,Bool.and_eq_true]at h
    obtain⟨a,b,c⟩:=ih x h.1
    obtain⟨a',b',c'⟩:=il h.2
    refine⟨by simp[Ed,a,a'],by simp[iG,PyData.canLayAll0,b,b'],?_⟩
    simp only[iG,PyData.depthAll]
    omega
  intro d h
  cases d with
  |tup l=>
   obtain⟨a,b,c⟩:=all l (by simpa only[mR]using h)
   exact⟨by simpa only[Ni]using a,by simpa only[rK,PyData.canLay0]using b,by simp only[rK,PyData.depth];omega⟩
  |lst l=>
   obtain⟨a,b,c⟩:=all l (by simpa only[mR]using h)
   exact⟨by simpa only[Ni]using a,by simpa only[rK,PyData.canLay0]using b,by simp only[rK,PyData.depth];omega⟩
  |_=>simp[mR,Ni,rK,PyData.canLay0,PyData.depth]at h ⊢<;>exact h
theorem gw {n:Nat}{d:D}(h:mR n d=true)(hn:n<=64:=by decide):sE d=true:=by
 obtain⟨a,b,c⟩:=Ze n d h
 simp only[sE,SeqAt.shaped,a,b,Bool.true_and,decide_eq_true_eq]
 omega
theorem vQ (i:Int):sE (.int i)=true:=gw (n:=0) rfl
theorem mD (x:Str)(h:PyData.strOk x=true):sE (.str x)=true:=gw (n:=0) h
theorem eq_int (a b:Int):sr (.int a) (.int b)=(a==b):=by simp[sr,rK,PyData.eqv]
theorem eq_str (a b:Str):sr (.str a) (.str b)=(a==b):=by simp[sr,rK,PyData.eqv]
theorem Rj (a b:List D):sr (.tup a) (.tup b)=PyData.eqvAll (iG a) (iG b):=by simp[sr,rK,PyData.eqv]
theorem Kz (a b:List D):sr (.lst a) (.lst b)=PyData.eqvAll (iG a) (iG b):=by simp[sr,rK,PyData.eqv]
theorem eq_str_int (a:Int)(b:Str):sr (.str b) (.int a)=false:=by simp[sr,rK,PyData.eqv]
theorem Hz:PyData.strOk "put"=true:=by decide+kernel
theorem Yt:PyData.strOk "get"=true:=by decide+kernel
theorem Ay:PyData.strOk "swap"=true:=by decide+kernel
theorem S7:PyData.strOk "add"=true:=by decide+kernel
theorem Nj:PyData.strOk "skip"=true:=by decide+kernel
theorem JD:PyData.strOk "fence"=true:=by decide+kernel
theorem Vy:PyData.strOk "cell"=true:=by decide+kernel
theorem CV:PyData.strOk "value"=true:=by decide+kernel
theorem Lr:PyData.strOk "box"=true:=by decide+kernel
theorem Qc:PyData.strOk "figure"=true:=by decide+kernel
namespace K
theorem Mi (k:Str)(hk:PyData.strOk k=true)(x:Str):o8 [.str k,.str x]=some (.bl (k=="box"||k=="value"),.new):=by
 have e1:∀y:Str,PyData.strOk y=true->cR false (.str k) (.str y)=some (.bl (k==y)):=λy hy=>by simp[cR,mD,hk,hy,eq_str]
 cases hb:(k==("box":Str))<;>cases hv:(k==("value":Str))<;>simp[aH,aL,aZ,dg,three,vis,at?,f2,aj,fC,aW,zW,flat,cI,L.toD,fOr,KD,Bw,Es,Qt,o8,yI,e1 _ Lr,e1 _ CV,hb,hv]
theorem Mh (k:Str)(hk:PyData.strOk k=true)(i:Int):o8 [.str k,.int i]=some (.bl (k=="box"),.new):=by
 have e1:∀y:Str,PyData.strOk y=true->cR false (.str k) (.str y)=some (.bl (k==y)):=λy hy=>by simp[cR,mD,hk,hy,eq_str]
 cases hb:(k==("box":Str))<;>cases hv:(k==("value":Str))<;>simp[aH,aL,aZ,dg,three,vis,at?,f2,aj,fC,aW,zW,flat,cI,L.toD,fOr,KD,Bw,Es,Qt,o8,yI,e1 _ Lr,e1 _ CV,hb,hv]
theorem ux (r:Rw):gH fu [r.d]=some (.lst (r.bx.map .str),.own):=by
 rcases r with⟨c,_|_⟩|⟨b,c⟩|⟨b,c,_|_⟩|⟨b,_|_,_|_⟩|⟨b,n⟩|_<;>simp[aH,aL,aZ,dg,three,vis,at?,f2,aj,fC,aW,zW,flat,cI,L.toD,qY,dM,gf,inD,rO,gO,bC,tQ,BP,yq,vV,aa,aA,uV,eY,gB,Ea,cutD,HT.jc,aq,UW,zz,Ld,WM,tV,aN,rQ,flat.flats,sizeLine_eq,jX,bW,gH,rM,fu,a08,Wo,KTD.datumAt,Mi,Mh,Vy,CV,Lr,Qc,Rw.d,Va.d,Rw.bx,Va.bx]
theorem Od (r:Rw):lz [r.d]=some (.lst (r.bx.map .str),.own):=by
 rcases r with⟨c,_|_⟩|⟨b,c⟩|⟨b,c,_|_⟩|⟨b,_|_,_|_⟩|⟨b,n⟩|_<;>rfl
end K
noncomputable def lQ (acc:List Str)(x:Str):List Str:=if x∈acc then acc else acc++[x]
noncomputable def pR (t:List Rw):List Str:=(t.flatMap Rw.bx).foldl lQ []
theorem Uv (s:Str)(acc:List Str):((acc.map D.str).any λy=>sr y (.str s))=decide (s∈acc):=by
 induction acc with
 |nil=>simp
 |cons a acc ih=>
  rw[List.map_cons,List.any_cons,ih,eq_str]
  by_cases h:a=s
  ·simp[h]
  ·have h':¬s=a:=λe=>h e.symm
   simp[h,h']
theorem Be {acc:List Str}(h:∀x∈acc,PyData.strOk x=true):sE (.lst (acc.map .str))=true:=gw (n:=1) (by
 simp only[mR,List.all_eq_true,List.mem_map]
 rintro d ⟨x,hx,rfl⟩
 exact h x hx)
theorem Bp {s:Str}{acc:List Str}(hs:PyData.strOk s=true)(h:∀x∈acc,PyData.strOk x=true)(n:Bool):lU n (.str s) (.lst (acc.map .str))=some (.bl (if n then !decide (s∈acc)else decide (s∈acc))):=by
 unfold lU
 simp only[nD,Option.bind_some,mD s hs,Be h,Bool.and_self,if_true,Uv]
theorem N6 {acc:List Str}{x:Str}(h:∀y∈acc,PyData.strOk y=true)(hx:PyData.strOk x=true):∀y∈lQ acc x,PyData.strOk y=true:=by
 unfold lQ
 split
 ·exact h
 ·intro y hy
  rcases List.mem_append.mp hy with hy|hy
  ·exact h y hy
  ·rw[List.mem_singleton.mp hy];exact hx
theorem BV (acc:List Str)(x:Str):(lQ acc x).length<=acc.length+1:=by
 unfold lQ
 split<;>simp
theorem KZ {acc:List Str}{x:Str}(h:acc.Nodup):(lQ acc x).Nodup:=by
 unfold lQ
 split
 ·exact h
 ·rename_i hx
  rw[List.nodup_append]
  exact⟨h,by simp,λa ha b hb=>by rw[List.mem_singleton.mp hb];rintro rfl;exact hx ha⟩
theorem BJ {l:List Str}:∀{acc:List Str},(∀y∈acc,PyData.strOk y=true)->(∀y∈l,PyData.strOk y=true)->∀y∈l.foldl lQ acc,PyData.strOk y=true:=by
 induction l with
 |nil=>intro acc h _;exact h
 |cons x l ih=>intro acc h hl;exact ih (N6 h (hl x (by simp))) λy hy=>hl y (by simp[hy])
theorem tK {l:List Str}:∀{acc:List Str},(l.foldl lQ acc).length<=acc.length+l.length:=by
 induction l with
 |nil=>intro acc;simp
 |cons x l ih=>
  intro acc
  have h1:=ih (acc:=lQ acc x)
  have h2:=BV acc x
  simp only[List.foldl_cons,List.length_cons]
  omega
theorem Eb {l:List Str}:∀{acc:List Str},acc.Nodup->(l.foldl lQ acc).Nodup:=by
 induction l with
 |nil=>intro acc h;exact h
 |cons x l ih=>intro acc h;exact ih (KZ h)
noncomputable def Gf (r:Rw):Prop:=∀x∈r.bx,PyData.strOk x=true
theorem Kq (r:Rw):r.bx.length<=3:=by
 rcases r with⟨c,_|_⟩|⟨b,c⟩|⟨b,c,_|_⟩|⟨b,_|_,_|_⟩|⟨b,n⟩|_<;>simp[Rw.bx,Va.bx]
theorem eX (r:Rw):flat r.d=true:=by
 rcases r with⟨c,_|_⟩|⟨b,c⟩|⟨b,c,_|_⟩|⟨b,_|_,_|_⟩|⟨b,n⟩|_<;>rfl
namespace K
theorem Iv (l:List Str):∀(acc:List Str) (a0 a2 x:Option L),(∀y∈acc,PyData.strOk y=true)->(∀y∈l,PyData.strOk y=true)->acc.length+l.length<1000->
 ∃x',dX (bf 3) (gj (t2 (lU true) (aj 3) (aj 1)) (fU 1 (aj 3)) bJ) true (l.map .str) [a0,some (.own (acc.map .str) true none),a2,x]=some (.nx [a0,some (.own ((l.foldl lQ acc).map .str) true none),a2,x']):=by
 induction l with
 |nil=>intro acc a0 a2 x _ _ _;exact⟨x,rfl⟩
 |cons s l ih=>
  intro acc a0 a2 x h1 h2 h3
  have hs:=h2 s (by simp)
  obtain⟨x',e⟩:=ih (lQ acc s) a0 a2 (some (.val (.str s) true)) (N6 h1 hs) (λy hy=>h2 y (by simp[hy])) (by have:=BV acc s;simp at h3;omega)
  refine⟨x',?_⟩
  rw[List.map_cons,List.foldl_cons,<-e]
  refine gG rfl ?_
  simp only[List.set]
  rw[KJ (b:=!decide (s∈acc)) (dh rfl rfl (Bp hs h1 true))]
  by_cases hm:s∈acc
  ·simp[hm,bJ,lQ]
  ·simp only[hm,decide_false,Bool.not_false,if_true]
   rw[iJ (d:= .str s) rfl (by simp[sizeLine_eq];simp at h3;omega) rfl rfl]
   simp[lQ,hm]
theorem Oc (t:List Rw)(h:∀r∈t,Gf r)(hl:t.length<100):gr [.tup (t.map Rw.d)]=some (.lst ((pR t).map .str),.own):=by
 have key:∀(t:List Rw) (acc:List Str) (a0 x y:Option L),(∀r∈t,Gf r)->(∀y∈acc,PyData.strOk y=true)->acc.length+3*t.length<1000->
  ∃x' y',dX (bf 2) (gM (fH (aN lz [] (aa (aj 2) aA))) (bf 3) (gj (t2 (lU true) (aj 3) (aj 1)) (fU 1 (aj 3)) bJ)) true (t.map Rw.d) [a0,some (.own (acc.map .str) true none),x,y]
   =some (.nx [a0,some (.own (((t.flatMap Rw.bx).foldl lQ acc).map .str) true none),x',y']):=by
  intro t
  induction t with
  |nil=>intro acc a0 x y _ _ _;exact⟨x,y,rfl⟩
  |cons r t ih=>
   intro acc a0 x y h1 h2 h3
   have b:=Kq r
   simp only[List.length_cons]at h3
   obtain⟨z,e1⟩:=Iv r.bx acc a0 (some (.val r.d true)) y h2 (h1 r (by simp)) (by omega)
   obtain⟨x',y',e2⟩:=ih (r.bx.foldl lQ acc) a0 (some (.val r.d true)) z (λr hr=>h1 r (by simp[hr])) (BJ h2 (h1 r (by simp))) (by have:=tK (l:=r.bx) (acc:=acc);omega)
   refine⟨x',y',?_⟩
   rw[List.map_cons,List.flatMap_cons,List.foldl_append,<-e2]
   refine gG rfl ?_
   rw[qX (r:=(r.bx.map .str,[.lst (r.bx.map .str)])) (jR (aU (aO rfl) (Od r) rfl)) (jR (aU (aO rfl) (Od r) rfl))]
   exact e1
 obtain⟨x',y',e⟩:=key t [] (some (.val (.tup (t.map Rw.d)) false)) none none h (by simp) (by simp;omega)
 have hf:flat.flats (t.map Rw.d)=true:=bh eX
 have e1:pJ (aH 4 [.tup (t.map Rw.d)])=some (.rt (.lst ((pR t).map .str)) .own [some (.val (.tup (t.map Rw.d)) false),some (.own ((pR t).map .str) true none),x',y']):=by
  unfold pJ
  rw[aD (ρ':=[some (.val (.tup (t.map Rw.d)) false),some (.own [] true none),none,none]) (by rfl)]
  rw[aD (ρ':=[some (.val (.tup (t.map Rw.d)) false),some (.own ((pR t).map .str) true none),x',y']) ?_]
  ·rfl
  ·rw[qX (r:=(t.map Rw.d,[.tup (t.map Rw.d)])) (by rfl) (jT (by simp[aj,vals,pick,at?,flat,hf]))]
   exact e
 simp only[gr,List.length_cons,List.length_nil,if_true,e1,cI]
end K
theorem yP (l:List D)(i:Nat):aq (.tup l) (.int i)=l[i]?:=by
 simp only[aq,UW,zz,Ld]
 by_cases h:i<l.length
 ·simp[h]
 ·simp[h]
theorem uB (l:List D)(i:Nat):aq (.lst l) (.int i)=l[i]?:=by
 simp only[aq,UW,zz,Ld]
 by_cases h:i<l.length
 ·simp[h]
 ·simp[h]
theorem jH {α:Type}{f:α->D}{l:List α}{i:Nat}{a:α}(h:l[i]?=some a):aq (.tup (l.map f)) (.int i)=some (f a):=by
 rw[yP,List.getElem?_map,h];rfl
theorem comp_map {α:Type}{T:D->aK->Option aK}{Tt:FT}{Fe:FD}{ρ:aK}{f g:α->D}(r:α->aK):∀(l:List α),(∀a∈l,T (f a) ρ=some (r a)/\Tt (r a)=some true/\Fe (r a)=some (g a))->gf T Tt Fe ρ (l.map f)=some (l.map g)
 |[],_=>rfl
 |a::l,h=>by
  obtain⟨h1,h2,h3⟩:=h a (by simp)
  have:=comp_map r l λb hb=>h b (by simp[hb])
  simp[gf,h1,h2,h3,this]
theorem mV {α:Type}{T:D->aK->Option aK}{Tt:FT}{Fe:FD}{ρ:aK}{f g:α->D}(p:α->Bool)(r:α->aK):∀(l:List α),(∀a∈l,T (f a) ρ=some (r a)/\Tt (r a)=some (p a)/\Fe (r a)=some (g a))->gf T Tt Fe ρ (l.map f)=some ((l.filter p).map g)
 |[],_=>rfl
 |a::l,h=>by
  obtain⟨h1,h2,h3⟩:=h a (by simp)
  have:=mV p r l λb hb=>h b (by simp[hb])
  cases hp:p a<;>simp[gf,h1,h2,h3,this,hp]
structure Pl where
 cells:List (Str×Int)
 cQ:List (List Rw)
noncomputable def cD (c:Str×Int):D:= .tup [.str c.1,.int c.2]
noncomputable def mF (t:List Rw):D:= .tup (t.map Rw.d)
noncomputable def Pl.iY (p:Pl):D:= .tup (p.cells.map cD)
noncomputable def Pl.qJ (p:Pl):D:= .tup (p.cQ.map mF)
noncomputable def Pl.d (p:Pl):D:= .tup [p.iY,p.qJ]
noncomputable def qt (t:List Rw):D:= .tup ((pR t).map .str)
noncomputable def Pl.pr (C:Addr)(p:Pl):D:= .ins C ["cells","threads","cell_names","box_names"] [p.iY,p.qJ,.tup (p.cells.map λc=> .str c.1),.tup (p.cQ.map qt)]
structure Th where
 at_:Nat
 bx:List Int
 q:List (Nat×Int)
structure nj where
 cs:List Int
 cQ:List Th
noncomputable def qD (p:Nat×Int):D:= .tup [.int p.1,.int p.2]
noncomputable def Th.d (h:Th):D:= .tup [.int h.at_,.tup (h.bx.map .int),.tup (h.q.map qD)]
noncomputable def nj.d (s:nj):D:= .tup [.tup (s.cs.map .int),.tup (s.cQ.map Th.d)]
noncomputable def Pl.first (p:Pl):nj:=⟨p.cells.map (·.2),p.cQ.map λt=>⟨0,List.replicate (pR t).length 0,[]⟩⟩
noncomputable def Rw.cell:Rw->Option Str
 | .put c _=>some c
 | .get _ c=>some c
 | .swap _ c _=>some c
 |_=>none
structure oK (p:Pl):Prop where
 nc:p.cells.length<=3
 nt:p.cQ.length<=3
 nr:∀t∈p.cQ,t.length<=20
 row:∀t∈p.cQ,∀r∈t,Gf r
 WN:∀t∈p.cQ,∀r∈t,∀c,r.cell=some c->c∈p.cells.map (·.1)
 okc:∀c∈p.cells,PyData.strOk c.1=true
theorem tH (t:List Rw):flat (mF t)=true:=by simp[mF,flat,bh eX]
theorem Ar (c:Str×Int):flat (cD c)=true:=rfl
theorem FZ (t:List Rw):flat (qt t)=true:=by simp only[qt,flat];exact bh λ_=>rfl
theorem tE (p:Pl):flat p.iY=true:=by simp[Pl.iY,flat,bh Ar]
theorem qm (p:Pl):flat p.qJ=true:=by simp[Pl.qJ,flat,bh tH]
theorem wB (p:Pl):flat p.d=true:=by simp[Pl.d,flat,flat.flats,tE,qm]
theorem FW (l:List Int):flat (.tup (l.map .int))=true:=by simp only[flat];exact bh λ_=>rfl
theorem By (l:List (Nat×Int)):flat (.tup (l.map qD))=true:=by simp only[flat];exact bh λ_=>rfl
theorem gC (h:Th):flat h.d=true:=by simp[Th.d,flat,flat.flats,bh (f:=D.int) (λ_=>rfl),bh (f:=qD) (λ_=>rfl)]
theorem eV (s:nj):flat s.d=true:=by simp[nj.d,flat,flat.flats,bh (f:=D.int) (λ_=>rfl),bh gC]
theorem Aw (s:Str)(acc:List Str):DP (acc.map Sum.inr) (.inr s)=decide (s∈acc):=by
 unfold DP
 induction acc with
 |nil=>simp
 |cons a acc ih=>
  rw[List.map_cons,List.any_cons,ih]
  by_cases h:a=s
  ·simp[h]
  ·have h':¬s=a:=λe=>h e.symm
   simp[h,h']
theorem M5 (acc:List Str)(k:Key):nH (acc.map Sum.inr) (acc.map λ_=>D.bl true) k (.bl true)=acc.map λ_=>D.bl true:=by
 unfold nH
 induction acc with
 |nil=>rfl
 |cons a acc ih=>simp only[List.map_cons,List.zip_cons_cons,ih];simp
namespace K
theorem M4 (l:List Str):∀(acc:List Str) (a0 a2 x:Option L),acc.length+l.length<1000->
 ∃x',dX (bf 3) (oU 1 (aj 3) (fC (.bl true))) true (l.map .str) [a0,some (.jx (acc.map .inr) (acc.map λ_=> .bl true) true),a2,x]=some (.nx [a0,some (.jx ((l.foldl lQ acc).map .inr) ((l.foldl lQ acc).map λ_=> .bl true) true),a2,x']):=by
 induction l with
 |nil=>intro acc a0 a2 x _;exact⟨x,rfl⟩
 |cons s l ih=>
  intro acc a0 a2 x h3
  simp only[List.length_cons]at h3
  obtain⟨x',e⟩:=ih (lQ acc s) a0 a2 (some (.val (.str s) true)) (by have:=BV acc s;omega)
  refine⟨x',?_⟩
  rw[List.map_cons,List.foldl_cons,<-e]
  refine gG rfl ?_
  simp only[oU,List.set,List.getElem?_cons_succ,List.getElem?_cons_zero,List.length_map,sizeLine_eq,if_pos (show acc.length<16777216 by omega)]
  by_cases hm:s∈acc
  ·simp[vis,at?,L.toD,aj,fC,flat,Cd,rR,Aw,hm,lQ,M5]
  ·simp[vis,at?,L.toD,aj,fC,flat,Cd,rR,Aw,hm,lQ]
theorem Ag (t:List Rw)(hl:t.length<100):gk fu [mF t]=some (qt t,.new):=by
 have key:∀(t:List Rw) (acc:List Str) (a0 x y:Option L),acc.length+3*t.length<1000->
  ∃x' y',dX (bf 2) (gM (fH (aN (gH fu) [] (aa (aj 2) aA))) (bf 3) (oU 1 (aj 3) (fC (.bl true)))) true (t.map Rw.d) [a0,some (.jx (acc.map .inr) (acc.map λ_=> .bl true) true),x,y]
   =some (.nx [a0,some (.jx (((t.flatMap Rw.bx).foldl lQ acc).map .inr) (((t.flatMap Rw.bx).foldl lQ acc).map λ_=> .bl true) true),x',y']):=by
  intro t
  induction t with
  |nil=>intro acc a0 x y _;exact⟨x,y,rfl⟩
  |cons r t ih=>
   intro acc a0 x y h3
   have b:=Kq r
   simp only[List.length_cons]at h3
   obtain⟨z,e1⟩:=M4 r.bx acc a0 (some (.val r.d true)) y (by omega)
   obtain⟨x',y',e2⟩:=ih (r.bx.foldl lQ acc) a0 (some (.val r.d true)) z (by have:=tK (l:=r.bx) (acc:=acc);omega)
   refine⟨x',y',?_⟩
   rw[List.map_cons,List.flatMap_cons,List.foldl_append,<-e2]
   refine gG rfl ?_
   rw[qX (r:=(r.bx.map .str,[.lst (r.bx.map .str)])) (jR (aU (aO rfl) (ux r) rfl)) (jR (aU (aO rfl) (ux r) rfl))]
   exact e1
 obtain⟨x',y',e⟩:=key t [] (some (.val (mF t) false)) none none (by simp;omega)
 have hf:flat.flats (t.map Rw.d)=true:=bh eX
 have e1:lZ fu (aH 4 [mF t])=some (.rt (qt t) .new [some (.val (mF t) false),some (.jx ((pR t).map .inr) ((pR t).map λ_=> .bl true) true),x',y']):=by
  unfold lZ
  rw[aD (ρ':=[some (.val (mF t) false),some (.jx [] [] true),none,none]) (by rfl)]
  rw[aD (ρ':=[some (.val (mF t) false),some (.jx ((pR t).map .inr) ((pR t).map λ_=> .bl true) true),x',y']) ?_]
  ·refine bM ?_ (FZ t)
   simp[fB,aa,aA,aj,at?,vis,L.toD,kW,cF,dW,qt,kD,Function.comp_def]
  ·rw[qX (r:=(t.map Rw.d,[.tup (t.map Rw.d)])) (by rfl) (jT (by simp[aj,vals,pick,at?,flat,hf,mF]))]
   exact e
 simp only[gk,List.length_cons,List.length_nil,if_true,e1,cI]
theorem zQ (l:List D)(hl:l.length<=100)(h:∀d∈l,∃m,d= .tup m)(hf:flat.flats l=true):eO [.tup l]=some (.tup l,.new):=by
 have e:gf (bC 0) tT (fB (kW cF dW) (aa (aj 0) aA)) [none] l=some l:=by
  have:=comp_map (T:=bC 0) (Tt:=tT) (Fe:=fB (kW cF dW) (aa (aj 0) aA)) (ρ:=[none]) (f:=id) (g:=id) (λd=>[some d]) l (λd hd=>by
   obtain⟨m,rfl⟩:=h d hd
   exact⟨rfl,rfl,rfl⟩)
  simpa using this
 have e1:vX (aH 1 [.tup l])=some (.rt (.tup l) .new [some (.val (.tup l) false)]):=by
  refine bM ?_ (by simpa[flat]using hf)
  have:l.length<=16777216:=by omega
  simp[fB,aa,aA,fZ,dM,fH,X5,itT,aj,at?,vis,aH,L.toD,sizeLine_eq,this,inD,e,kW,cF]
 simp only[eO,List.length_cons,List.length_nil,if_true,e1,cI]
theorem Qy (p:Pl)(hp:oK p):nU fu [p.iY,p.qJ]=some ((["cells","threads","cell_names","box_names"]:List Str),[p.iY,p.qJ,.tup (p.cells.map λc=> .str c.1),.tup (p.cQ.map qt)]):=by
 have n1:=hp.nc
 have n2:=hp.nt
 have e1:gf (rO 2 (gO (bC 0) (gO (bC 1) tQ))) tT (aj 0) [none,none] (p.cells.map cD)=some (p.cells.map λc=> .str c.1):=
  comp_map (λc=>[some (.str c.1),some (.int c.2)]) p.cells λc _=>⟨by rfl,rfl,by rfl⟩
 have e2:gf (bC 0) tT (aN (gk fu) [] (aa (aj 0) aA)) [none] (p.cQ.map mF)=some (p.cQ.map qt):=
  comp_map (λt=>[some (mF t)]) p.cQ λt ht=>⟨by rfl,rfl,by
   have:=hp.nr t ht
   exact aU (aO rfl) (Ag t (by omega)) rfl⟩
 have f1:flat.flats (p.cells.map λc=>D.str c.1)=true:=bh λ_=>rfl
 have f2:flat.flats (p.cQ.map qt)=true:=bh FZ
 have z1:p.cells.length<=16777216:=by omega
 have z2:p.cQ.length<=16777216:=by omega
 simp only[nU,Ds,runInit,Ky,List.length_cons,List.length_nil,if_true]
 simp[aj,at?,tE,qm,fB,aa,aA,fZ,dM,fH,Pl.iY,Pl.qJ,X5,itT,sizeLine_eq,z1,z2,inD,e1,e2,kW,cF,flat,f1,f2,bh Ar,bh tH,jX]
theorem Ij (C:Addr)(p:Pl)(hp:oK p):jq C fu [p.d]=some (p.pr C,.new):=by
 have n1:=hp.nc
 have n2:=hp.nt
 have t1:eO [p.iY]=some (p.iY,.new):=zQ _ (by simp;omega) (by simp only[List.mem_map];rintro d ⟨c,_,rfl⟩;exact⟨_,rfl⟩) (bh Ar)
 have t2:∀t∈p.cQ,eO [mF t]=some (mF t,.new):=λt ht=>zQ _ (by have:=hp.nr t ht;simp;omega) (by
  simp only[List.mem_map]
  rintro d ⟨r,_,rfl⟩
  cases r<;>exact⟨_,rfl⟩) (bh eX)
 have e2:gf (bC 0) tT (aN eO [] (aa (aj 0) aA)) [none] (p.cQ.map mF)=some (p.cQ.map mF):=
  comp_map (λt=>[some (mF t)]) p.cQ λt ht=>⟨by rfl,rfl,aU (aO rfl) (t2 t ht) rfl⟩
 have z2:p.cQ.length<=16777216:=by omega
 have ff2:flat.flats (p.cQ.map mF)=true:=bh tH
 have vp:=Qy p hp
 have e3:∀ρ:aK,at? ρ 0=some p.d->Rn C (nU fu) (aa (aN eO [] (aa (f2 aq (aj 0) (fC (.int 0))) aA)) (aa (fB (kW cF dW) (aa (fZ (dM [none] (fH (f2 aq (aj 0) (fC (.int 1)))) (bC 0) tT (aN eO [] (aa (aj 0) aA)))) aA)) aA)) ρ=some (p.pr C):=by
  intro ρ h
  have d0:aq p.d (.int 0)=some p.iY:=rfl
  have d1:aq p.d (.int 1)=some p.qJ:=rfl
  have d2:X5 p.qJ=some (p.cQ.map mF,[p.qJ]):=rfl
  simp[Rn,aa,aA,aN,DL.f2,aj,fC,h,d0,d1,t1,rQ,fB,fZ,dM,fH,d2,sizeLine_eq,z2,inD,e2,kW,cF,flat.flats,tE,qm]
  have d3:D.tup (p.cQ.map mF)=p.qJ:=rfl
  rw[d3]
  simp[qm,vp,Pl.pr]
 have nf:flat (p.pr C)=false:=rfl
 have e1:pN C fu (aH 1 [p.d])=some (.rt (p.pr C) .new [some (.val p.d false)]):=by
  unfold pN dg three
  rw[e3 _ rfl]
  have:at? (vals true (aH 1 [p.d])) 0=some p.d:=by simp[vals,pick,aH,wB,at?]
  simp only[Option.bind_some,nf,e3 _ this]
  rfl
 simp only[jq,List.length_cons,List.length_nil,if_true,e1,cI]
end K
noncomputable def Rw.word:Rw->Str
 | .put _ _=>"put"
 | .get _ _=>"get"
 | .swap _ _ _=>"swap"
 | .add _ _ _=>"add"
 | .skip _ _=>"skip"
 | .fence=>"fence"
noncomputable def Rw.stops:Rw->Bool
 | .swap _ _ _=>true
 | .fence=>true
 |_=>false
theorem gW (r:Rw):aq r.d (.int 0)=some (.str r.word):=by cases r<;>rfl
theorem wW (r:Rw):PyData.strOk r.word=true:=by cases r<;>simp only[Rw.word]<;>decide+kernel
theorem a1L (n:Nat):(List.replicate n [D.int 0]).flatten=List.replicate n (D.int 0):=by
 induction n with
 |zero=>rfl
 |succ n ih=>simp[List.replicate_succ,ih]
theorem a1M (n:Nat)(h:n<=1000):(-(2 ^ 63)<=(n:Int)/\(n:Int)<2 ^ 63)/\[D.int 0].length*(n:Int).toNat<=sizeLine:=by
 rw[sizeLine_eq]
 refine⟨⟨by omega,by omega⟩,?_⟩
 simp only[List.length_cons,List.length_nil,Int.toNat_natCast]
 omega
theorem a1N (n:Nat):cW (.tup [.int 0]) (.int n)=none:=rfl
theorem a1O (n:Nat)(h:n<=1000):bN (.tup [.int 0]) (.int n)=some (.tup (List.replicate n [D.int 0]).flatten):=by
 have h1:=a1M n h
 simp only[bN]
 rw[if_pos h1,Int.toNat_natCast]
theorem Ss {g g':D->D->Option D}{a b:D}(h:g a b=none):jb g g' a b=g' a b:=by
 unfold jb
 rw[h]
theorem CW {g g':D->D->Option D}{a b d:D}(h:g a b=some d):jb g g' a b=some d:=by
 unfold jb
 rw[h]
theorem rep0 (n:Nat)(h:n<=1000):jb cW bN (.tup [.int 0]) (.int n)=some (.tup ((List.replicate n (0:Int)).map .int)):=
 (Ss (a1N n)).trans ((a1O n h).trans (by rw[a1L,List.map_replicate]))
theorem qU (l:List D):PyData.eqvAll (iG l) []=l.isEmpty:=by cases l<;>simp[iG,PyData.eqvAll]
theorem a1Q (l:List (Nat×Int)):sE (.tup (l.map qD))=true:=gw (n:=2) (by
 simp only[mR,List.all_eq_true,List.mem_map]
 rintro d ⟨x,hx,rfl⟩
 simp[qD,mR])
theorem Zd:sE (.tup [])=true:=gw (n:=1) rfl
theorem T6 (l:List (Nat×Int))(n:Bool):cR n (.tup (l.map qD)) (.tup [])=some (.bl (if n then !l.isEmpty else l.isEmpty)):=by
 unfold cR
 rw[a1Q,Zd,Rj]
 simp only[Bool.and_self,if_true,iG,qU,List.isEmpty_map]
theorem Ji (r:Rw)(n:Bool):lU n (.str r.word) (.tup [.str "fence",.str "swap"])=some (.bl (if n then !r.stops else r.stops)):=by
 have h:sE (.tup [.str "fence",.str "swap"])=true:=gw (n:=1) (by simp[mR,JD,Ay])
 unfold lU
 simp only[nD,Option.bind_some,mD _ (wW r),h,Bool.and_self,if_true,List.any_cons,List.any_nil,eq_str]
 cases r<;>simp[Rw.word,Rw.stops,bW,jX]
noncomputable def iW (t:List Rw)(h:Th):Bool:=match t[h.at_]? with
 |none=>false
 |some r=>h.q.isEmpty||!r.stops
noncomputable def jQ:Nat->List (List Rw)->List Th->List Int
 |i,t::ts,h::hs=>(if iW t h=true then[2*(i:Int)] else[])++(if h.q.isEmpty=true then[] else[2*(i:Int)+1])++jQ (i+1) ts hs
 |_,_,_=>[]
theorem JP (p:Pl):wH (["cells","threads","cell_names","box_names"]:List Str) [p.iY,p.qJ,.tup (p.cells.map λc=> .str c.1),.tup (p.cQ.map qt)] "cells"=some p.iY:=by simp[wH,List.lookup]
theorem vK (p:Pl):wH (["cells","threads","cell_names","box_names"]:List Str) [p.iY,p.qJ,.tup (p.cells.map λc=> .str c.1),.tup (p.cQ.map qt)] "threads"=some p.qJ:=by simp[wH,List.lookup,bW]
theorem En (p:Pl):wH (["cells","threads","cell_names","box_names"]:List Str) [p.iY,p.qJ,.tup (p.cells.map λc=> .str c.1),.tup (p.cQ.map qt)] "cell_names"=some (.tup (p.cells.map λc=> .str c.1)):=by simp[wH,List.lookup,bW]
theorem rB (p:Pl):wH (["cells","threads","cell_names","box_names"]:List Str) [p.iY,p.qJ,.tup (p.cells.map λc=> .str c.1),.tup (p.cQ.map qt)] "box_names"=some (.tup (p.cQ.map qt)):=by simp[wH,List.lookup,bW]
theorem Ak {t:List Rw}(h:t.length<=20):(pR t).length<=60:=by
 have:=tK (l:=t.flatMap Rw.bx) (acc:=[])
 have h3:∀t:List Rw,(t.flatMap Rw.bx).length<=3*t.length:=by
  intro t
  induction t with
  |nil=>simp
  |cons r t ih=>have:=Kq r;simp only[List.flatMap_cons,List.length_append,List.length_cons];omega
 have:=h3 t
 unfold pR
 simp only[List.length_nil]at*
 omega
noncomputable def h0 (t:List Rw):Th:=⟨0,List.replicate (pR t).length 0,[]⟩
namespace K
theorem Ii (t:List Rw)(h:Th):fJ [mF t,h.d]=some (.bl (iW t h),.new):=by
 have s0:aq h.d (.int 0)=some (.int h.at_):=rfl
 have s2:aq h.d (.int 2)=some (.tup (h.q.map qD)):=rfl
 have ln:iZ [mF t]=some (.int t.length):=by simp[mF,iZ]
 by_cases hl:t.length<=h.at_
 ·have e:iW t h=false:=by simp[iW,List.getElem?_eq_none hl]
  have hl':(t.length:Int)<=h.at_:=by omega
  simp[fJ,pM,aL,gj,dg,three,t2,f2,aj,fC,fB,aa,aA,at?,vis,aH,L.toD,s0,ln,lO,zW,hl',e,flat,cI]
 ·have hl':¬(t.length:Int)<=h.at_:=by omega
  have hr:t[h.at_]?=some (t[h.at_]'(by omega)):=List.getElem?_eq_getElem (by omega)
  generalize t[h.at_]'(by omega)=r at hr
  have s3:aq (mF t) (.int h.at_)=some r.d:=jH hr
  have e:iW t h=(h.q.isEmpty||!r.stops):=by simp[iW,hr]
  cases hq:h.q.isEmpty<;>
  simp[fJ,pM,aL,gj,bJ,dg,three,t2,f2,aj,fC,fB,fOr,bL,Cq,sizeLine_eq,aa,aA,at?,vis,aH,L.toD,s0,s2,s3,ln,lO,zW,hl',e,flat,cI,T6,Ji,gW,hq]
theorem Bx {n:Nat}{a:FD}{ρ:aK}{d:D}(ha:a ρ=some d)(hd:iZ [d]=some (.int n))(h:n<=1000):
 bL (aa (fC (.int 0)) (aa (f2 (jb cW bN) (bL (aa (fC (.int 0)) aA)) (fB iZ (aa a aA))) (aa (bL aA) aA))) ρ=some (Th.d ⟨0,List.replicate n 0,[]⟩):=
 bT (bG rfl (bG (aC (bT (aO rfl) (by decide)) (kI (aO ha) hd) (rep0 n h)) (aO (bT rfl (by simp))))) (by simp)
theorem Wu (C:Addr)(p:Pl)(hp:oK p):uy C [p.pr C]=some (p.first.d,.new):=by
 have n1:=hp.nc
 have n2:=hp.nt
 have e1:gf (rO 2 (gO (bC 0) (gO (bC 1) tQ))) tT (aj 1) [none,none] (p.cells.map cD)=some (p.cells.map λc=> .int c.2):=
  comp_map (λc=>[some (.str c.1),some (.int c.2)]) p.cells λc _=>⟨rfl,rfl,rfl⟩
 have e2:gf (bC 0) tT (bL (aa (fC (.int 0)) (aa (f2 (jb cW bN) (bL (aa (fC (.int 0)) aA)) (fB iZ (aa (aj 0) aA))) (aa (bL aA) aA)))) [none] (p.cQ.map qt)=some (p.cQ.map λt=>(h0 t).d):=
  comp_map (λt=>[some (qt t)]) p.cQ λt ht=>⟨rfl,rfl,Bx (d:=qt t) rfl (by simp[qt,iZ]) (by have:=Ak (hp.nr t ht);omega)⟩
 have fd:p.first.d= .tup [.tup (p.cells.map λc=> .int c.2),.tup (p.cQ.map λt=>(h0 t).d)]:=by
  simp only[Pl.first,nj.d,List.map_map,Function.comp_def,h0]
 have e3:Bh C (aH 2 [p.pr C])=some (.rt p.first.d .new [some (.val (p.pr C) false),some (.val (.tup (p.cells.map λc=> .int c.2)) true)]):=by
  unfold Bh
  have q1:aj 0 (vis (aH 2 [p.pr C]))=some (p.pr C):=rfl
  rw[aD (aM (uv (.inl (jt (j5 (jT (nO q1 (JP p))) (by simp;omega) e1)))) (by simp only[flat];exact bh λ_=>rfl))]
  refine bM ?_ (eV _)
  rw[fd]
  exact bT (bG rfl (aO (uv (.inl (jt (j5 (jT (nO rfl (rB p))) (by simp;omega) e2)))))) (by simp)
 simp only[uy,List.length_cons,List.length_nil,if_true,e3,cI]
theorem Wv (p:Pl)(hp:oK p):jn [p.d]=some (p.first.d,.new):=by
 have n1:=hp.nc
 have n2:=hp.nt
 have e1:gf (bC 0) tT (f2 aq (aj 0) (fC (.int 1))) [none] (p.cells.map cD)=some (p.cells.map λc=> .int c.2):=
  comp_map (λc=>[some (cD c)]) p.cells λc _=>⟨rfl,rfl,rfl⟩
 have e2:gf (bC 0) tT (bL (aa (fC (.int 0)) (aa (f2 (jb cW bN) (bL (aa (fC (.int 0)) aA)) (fB iZ (aa (aN gr [] (aa (aj 0) aA)) aA))) (aa (bL aA) aA)))) [none] (p.cQ.map mF)=some (p.cQ.map λt=>(h0 t).d):=
  comp_map (λt=>[some (mF t)]) p.cQ λt ht=>⟨rfl,rfl,Bx (d:= .lst ((pR t).map .str)) (aU (aO rfl) (Oc t (hp.row t ht) (by have:=hp.nr t ht;omega)) rfl) (by simp[iZ]) (by have:=Ak (hp.nr t ht);omega)⟩
 have fd:p.first.d= .tup [.tup (p.cells.map λc=> .int c.2),.tup (p.cQ.map λt=>(h0 t).d)]:=by
  simp only[Pl.first,nj.d,List.map_map,Function.comp_def,h0]
 have e3:pK (aH 2 [p.d])=some (.rt p.first.d .new [some (.val p.d false),some (.own (p.cQ.map λt=>(h0 t).d) true none)]):=by
  unfold pK
  rw[aD (fj (j5 (jT (aC rfl rfl (z:=p.qJ) rfl)) (by simp;omega) e2) (bh λ_=>gC _))]
  refine bM ?_ (eV _)
  rw[fd]
  exact bT (bG (uv (.inl (jt (j5 (jT (aC rfl rfl (z:=p.iY) rfl)) (by simp;omega) e1)))) (aO (uv (.inl rfl)))) (by simp)
 simp only[jn,List.length_cons,List.length_nil,if_true,e3,cI]
end K
theorem Ln (i:Nat):jb cW bN (.int 2) (.int (i:Int))=some (.int (2*(i:Int))):=CW (by
 show(if(-(2 ^ 64)<(2:Int)/\(2:Int)<2 ^ 64)\/(-(2 ^ 64)<(i:Int)/\(i:Int)<2 ^ 64)then some (D.int (2*(i:Int)))else none)=_
 rw[if_pos (.inl ⟨by omega,by omega⟩)])
theorem Bu (i:Nat)(d:D)(l:List D):j7 i (d::l)= .tup [.int (i:Nat),d]::j7 (i+1) l:=rfl
namespace K
noncomputable def Al:GS:=(aL (aZ 6 (f2 aq (f2 aq (aj 1) (fC (.int 1))) (aj 4))) (aL (gj (tV (aN fJ [] (aa (aj 5) (aa (aj 6) aA)))) (fU 3 (f2 (jb cW bN) (fC (.int 2)) (aj 4))) bJ) (gj (t2 (cR true) (f2 aq (aj 6) (fC (.int 2))) (bL aA)) (fU 3 (f2 aW (f2 (jb cW bN) (fC (.int 2)) (aj 4)) (fC (.int 1)))) bJ)))
theorem IK (S:nj)(a0 a2:Option L)(fr:Bool):∀(ts:List (List Rw)) (hs:List Th) (i:Nat) (acc:List Int) (x y z:Option L),S.cQ.drop i=hs->ts.length=hs.length->acc.length+2*ts.length<1000->
 ∃x' y' z',dX (kJ 2 (cJ (bf 4) (cJ (bf 5) lF))) Al fr (j7 i (ts.map mF)) [a0,some (.val S.d false),a2,some (.own (acc.map .int) true none),x,y,z]
  =some (.nx [a0,some (.val S.d false),a2,some (.own ((acc++jQ i ts hs).map .int) true none),x',y',z'])
 |[],_,i,acc,x,y,z,_,_,_=>⟨x,y,z,by simp[jQ,j7,dX]⟩
 |t::ts,[],i,acc,x,y,z,_,h,_=>by simp at h
 |t::ts,h::hs,i,acc,x,y,z,hd,hl,hn=>by
  simp only[List.length_cons]at hl hn
  have hi:S.cQ[i]?=some h:=by
   have:=congrArg (λl=>l[0]?) hd
   simpa using this
  have hd':S.cQ.drop (i+1)=hs:=by
   have:=congrArg List.tail hd
   simpa using this
  let pQ:=acc++(if iW t h=true then[2*(i:Int)] else[])
  let sS:=pQ++(if h.q.isEmpty=true then[] else[2*(i:Int)+1])
  have l1:pQ.length<=acc.length+1:=by simp only[pQ,List.length_append];split<;>simp
  have l2:sS.length<=pQ.length+1:=by simp only[sS,List.length_append];split<;>simp
  obtain⟨x',y',z',e⟩:=IK S a0 a2 fr ts hs (i+1) sS (some (.val (.int i) fr)) (some (.val (mF t) fr)) (some (.val h.d true)) hd' (by omega) (by omega)
  refine⟨x',y',z',?_⟩
  have ea:acc++jQ i (t::ts) (h::hs)=sS++jQ (i+1) ts hs:=by simp only[jQ,sS,pQ,List.append_assoc]
  rw[ea,<-e,List.map_cons,Bu]
  refine gG (Aj:=[a0,some (.val S.d false),a2,some (.own (acc.map .int) true none),some (.val (.int i) fr),some (.val (mF t) fr),z]) rfl ?_
  unfold Al
  rw[aD (aM (d:=h.d) (aC (aC rfl rfl (z:= .tup (S.cQ.map Th.d)) rfl) rfl (jH hi)) (gC h))]
  have c1:tV (aN fJ [] (aa (aj 5) (aa (aj 6) aA))) (vis [a0,some (.val S.d false),a2,some (.own (acc.map .int) true none),some (.val (.int i) fr),some (.val (mF t) fr),some (.val h.d true)])=some (iW t h):=
   Kc (aU (bG rfl (aO rfl)) (Ii t h) rfl)
  have g1:gj (tV (aN fJ [] (aa (aj 5) (aa (aj 6) aA)))) (fU 3 (f2 (jb cW bN) (fC (.int 2)) (aj 4))) bJ [a0,some (.val S.d false),a2,some (.own (acc.map .int) true none),some (.val (.int i) fr),some (.val (mF t) fr),some (.val h.d true)]
   =some (.nx [a0,some (.val S.d false),a2,some (.own (pQ.map .int) true none),some (.val (.int i) fr),some (.val (mF t) fr),some (.val h.d true)]):=by
   by_cases hc:iW t h=true
   ·rw[gb (by rw[c1,hc]),iJ (d:= .int (2*(i:Int))) rfl (by rw[sizeLine_eq];simp;omega) (aC rfl rfl (Ln i)) rfl]
    simp[pQ,hc]
   ·rw[cP (by rw[c1,Bool.eq_false_iff.mpr hc])]
    simp[pQ,hc,bJ]
  have c2:t2 (cR true) (f2 aq (aj 6) (fC (.int 2))) (bL aA) (vis [a0,some (.val S.d false),a2,some (.own (pQ.map .int) true none),some (.val (.int i) fr),some (.val (mF t) fr),some (.val h.d true)])=some (!h.q.isEmpty):=
   dh (aC rfl rfl (z:= .tup (h.q.map qD)) rfl) (bT rfl (by simp)) (T6 h.q true)
  have g2:gj (t2 (cR true) (f2 aq (aj 6) (fC (.int 2))) (bL aA)) (fU 3 (f2 aW (f2 (jb cW bN) (fC (.int 2)) (aj 4)) (fC (.int 1)))) bJ [a0,some (.val S.d false),a2,some (.own (pQ.map .int) true none),some (.val (.int i) fr),some (.val (mF t) fr),some (.val h.d true)]
   =some (.nx [a0,some (.val S.d false),a2,some (.own (sS.map .int) true none),some (.val (.int i) fr),some (.val (mF t) fr),some (.val h.d true)]):=by
   by_cases hc:h.q.isEmpty=true
   ·rw[cP (by rw[c2,hc];rfl)]
    simp[sS,hc,bJ]
   ·rw[gb (by rw[c2,Bool.eq_false_iff.mpr hc];rfl),iJ (d:= .int (2*(i:Int)+1)) rfl (by rw[sizeLine_eq];simp;omega) (aC (aC rfl rfl (Ln i)) rfl rfl) rfl]
    simp[sS,hc]
  exact(aD g1).trans g2
theorem a1g (C:Addr)(p:Pl)(hp:oK p)(S:nj)(hS:S.cQ.length=p.cQ.length)(w:Bool):Ex C [p.pr C,S.d,.bl w]=some (.lst ((jQ 0 p.cQ S.cQ).map .int),.own):=by
 have n2:=hp.nt
 obtain⟨x,y,z,e⟩:=IK S (some (.val (p.pr C) false)) (some (.val (.bl w) false)) true p.cQ S.cQ 0 [] none none none (by simp) hS.symm (by simp;omega)
 have e3:Kh C (aH 7 [p.pr C,S.d,.bl w])=some (.rt (.lst ((jQ 0 p.cQ S.cQ).map .int)) .own [some (.val (p.pr C) false),some (.val S.d false),some (.val (.bl w) false),some (.own ((jQ 0 p.cQ S.cQ).map .int) true none),x,y,z]):=by
  unfold Kh
  rw[aD (ρ':=[some (.val (p.pr C) false),some (.val S.d false),some (.val (.bl w) false),some (.own [] true none),none,none,none]) (by rfl)]
  refine(aD (ρ':=[some (.val (p.pr C) false),some (.val S.d false),some (.val (.bl w) false),some (.own ((jQ 0 p.cQ S.cQ).map .int) true none),x,y,z]) ?_).trans rfl
  have i1:∀ρ:aK,aj 0 ρ=some (p.pr C)->yR (wA C "threads" (aj 0)) ρ=some (j7 0 (p.cQ.map mF),[p.qJ]):=λρ h=>by
   show(wA C "threads" (aj 0) ρ).bind _=_
   rw[nO h (vK p)]
   rfl
  have fl:flat.flats (j7 0 (p.cQ.map mF))=true:=by
   have:∀(l:List (List Rw)) (i:Nat),flat.flats (j7 i (l.map mF))=true:=by
    intro l
    induction l with
    |nil=>intro i;rfl
    |cons t l ih=>intro i;simp[j7,flat,flat.flats,tH,ih]
   exact this _ _
  have:gM (yR (wA C "threads" (aj 0))) (kJ 2 (cJ (bf 4) (cJ (bf 5) lF))) Al [some (.val (p.pr C) false),some (.val S.d false),some (.val (.bl w) false),some (.own [] true none),none,none,none]
   =dX (kJ 2 (cJ (bf 4) (cJ (bf 5) lF))) Al true (j7 0 (p.cQ.map mF)) [some (.val (p.pr C) false),some (.val S.d false),some (.val (.bl w) false),some (.own [] true none),none,none,none]:=by
   unfold gM
   rw[fj (i1 _ rfl) (by simp[fl,flat.flats,qm])]
   rfl
  exact this.trans e
 simp only[Ex,List.length_cons,List.length_nil,if_true,e3,cI]
noncomputable def wN:GS:=(aL (aZ 5 (f2 aq (f2 aq (aj 0) (fC (.int 1))) (aj 3))) (aL (gj (lR (t2 (lO λi j=>decide (i<j)) (f2 aq (aj 4) (fC (.int 0))) (fB iZ (aa (aj 5) aA))) (Dt (t2 (cR false) (f2 aq (aj 4) (fC (.int 2))) (bL aA)) (t2 (lU true) (f2 aq (f2 aq (aj 5) (f2 aq (aj 4) (fC (.int 0)))) (fC (.int 0))) (bL (aa (fC (.str "fence")) (aa (fC (.str "swap")) aA)))))) (fU 2 (f2 (jb cW bN) (fC (.int 2)) (aj 3))) bJ) (gj (t2 (cR true) (f2 aq (aj 4) (fC (.int 2))) (bL aA)) (fU 2 (f2 aW (f2 (jb cW bN) (fC (.int 2)) (aj 3)) (fC (.int 1)))) bJ)))
theorem Ga (p:Pl)(a1:Option L)(fr:Bool):∀(ts:List (List Rw)) (hs:List Th) (i:Nat) (acc:List Int) (x y z:Option L),p.cQ.drop i=ts->ts.length=hs.length->acc.length+2*ts.length<1000->
 ∃x' y' z',dX (kJ 2 (cJ (bf 3) (cJ (bf 4) lF))) wN fr (j7 i (hs.map Th.d)) [some (.val p.d false),a1,some (.own (acc.map .int) true none),x,y,z]
  =some (.nx [some (.val p.d false),a1,some (.own ((acc++jQ i ts hs).map .int) true none),x',y',z'])
 |[],[],i,acc,x,y,z,_,_,_=>⟨x,y,z,by simp[jQ,j7,dX]⟩
 |[],_::_,i,acc,x,y,z,_,h,_=>by simp at h
 |t::ts,[],i,acc,x,y,z,_,h,_=>by simp at h
 |t::ts,h::hs,i,acc,x,y,z,hd,hl,hn=>by
  simp only[List.length_cons]at hl hn
  have hi:p.cQ[i]?=some t:=by
   have:=congrArg (λl=>l[0]?) hd
   simpa using this
  have hd':p.cQ.drop (i+1)=ts:=by
   have:=congrArg List.tail hd
   simpa using this
  let pQ:=acc++(if iW t h=true then[2*(i:Int)] else[])
  let sS:=pQ++(if h.q.isEmpty=true then[] else[2*(i:Int)+1])
  have l1:pQ.length<=acc.length+1:=by simp only[pQ,List.length_append];split<;>simp
  have l2:sS.length<=pQ.length+1:=by simp only[sS,List.length_append];split<;>simp
  obtain⟨x',y',z',e⟩:=Ga p a1 fr ts hs (i+1) sS (some (.val (.int i) fr)) (some (.val h.d fr)) (some (.val (mF t) true)) hd' (by omega) (by omega)
  refine⟨x',y',z',?_⟩
  have ea:acc++jQ i (t::ts) (h::hs)=sS++jQ (i+1) ts hs:=by simp only[jQ,sS,pQ,List.append_assoc]
  rw[ea,<-e,List.map_cons,Bu]
  refine gG (Aj:=[some (.val p.d false),a1,some (.own (acc.map .int) true none),some (.val (.int i) fr),some (.val h.d fr),z]) rfl ?_
  unfold wN
  rw[aD (aM (d:=mF t) (aC (aC rfl rfl (z:= .tup (p.cQ.map mF)) rfl) rfl (jH hi)) (tH t))]
  have c1:lR (t2 (lO λi j=>decide (i<j)) (f2 aq (aj 4) (fC (.int 0))) (fB iZ (aa (aj 5) aA))) (Dt (t2 (cR false) (f2 aq (aj 4) (fC (.int 2))) (bL aA)) (t2 (lU true) (f2 aq (f2 aq (aj 5) (f2 aq (aj 4) (fC (.int 0)))) (fC (.int 0))) (bL (aa (fC (.str "fence")) (aa (fC (.str "swap")) aA)))))
   (vis [some (.val p.d false),a1,some (.own (acc.map .int) true none),some (.val (.int i) fr),some (.val h.d fr),some (.val (mF t) true)])=some (iW t h):=by
   have s0:aq h.d (.int 0)=some (.int h.at_):=rfl
   have k1:t2 (lO λi j=>decide (i<j)) (f2 aq (aj 4) (fC (.int 0))) (fB iZ (aa (aj 5) aA)) (vis [some (.val p.d false),a1,some (.own (acc.map .int) true none),some (.val (.int i) fr),some (.val h.d fr),some (.val (mF t) true)])=some (decide ((h.at_:Int)<(t.length:Int))):=
    dh (aC rfl rfl s0) (kI (aO rfl) (x:= .int t.length) (show iZ [mF t]=_ by simp[mF,iZ])) rfl
   by_cases hlt:h.at_<t.length
   ·have hr:t[h.at_]?=some (t[h.at_]'hlt):=List.getElem?_eq_getElem hlt
    generalize t[h.at_]'hlt=r at hr
    have e:iW t h=(decide ((h.at_:Int)<(t.length:Int))&&(h.q.isEmpty||!r.stops)):=by simp[iW,hr,show(h.at_:Int)<t.length by omega]
    rw[e]
    refine lN k1 λ_=>uq (dh (aC rfl rfl (z:= .tup (h.q.map qD)) rfl) (bT rfl (by simp)) (T6 h.q false)) λ_=>?_
    exact dh (aC (aC rfl (aC rfl rfl s0) (jH hr)) rfl (gW r)) (bT (bG rfl (aO rfl)) (by simp)) (Ji r true)
   ·have e:iW t h=(decide ((h.at_:Int)<(t.length:Int))&&false):=by simp[iW,List.getElem?_eq_none (show t.length<=h.at_ by omega)]
    rw[e]
    refine lN k1 λz=>?_
    exact absurd (of_decide_eq_true z) (by omega)
  have g1:gj (lR (t2 (lO λi j=>decide (i<j)) (f2 aq (aj 4) (fC (.int 0))) (fB iZ (aa (aj 5) aA))) (Dt (t2 (cR false) (f2 aq (aj 4) (fC (.int 2))) (bL aA)) (t2 (lU true) (f2 aq (f2 aq (aj 5) (f2 aq (aj 4) (fC (.int 0)))) (fC (.int 0))) (bL (aa (fC (.str "fence")) (aa (fC (.str "swap")) aA)))))) (fU 2 (f2 (jb cW bN) (fC (.int 2)) (aj 3))) bJ [some (.val p.d false),a1,some (.own (acc.map .int) true none),some (.val (.int i) fr),some (.val h.d fr),some (.val (mF t) true)]
   =some (.nx [some (.val p.d false),a1,some (.own (pQ.map .int) true none),some (.val (.int i) fr),some (.val h.d fr),some (.val (mF t) true)]):=by
   by_cases hc:iW t h=true
   ·rw[gb (by rw[c1,hc]),iJ (d:= .int (2*(i:Int))) rfl (by rw[sizeLine_eq];simp;omega) (aC rfl rfl (Ln i)) rfl]
    simp[pQ,hc]
   ·rw[cP (by rw[c1,Bool.eq_false_iff.mpr hc])]
    simp[pQ,hc,bJ]
  have c2:t2 (cR true) (f2 aq (aj 4) (fC (.int 2))) (bL aA) (vis [some (.val p.d false),a1,some (.own (pQ.map .int) true none),some (.val (.int i) fr),some (.val h.d fr),some (.val (mF t) true)])=some (!h.q.isEmpty):=
   dh (aC rfl rfl (z:= .tup (h.q.map qD)) rfl) (bT rfl (by simp)) (T6 h.q true)
  have g2:gj (t2 (cR true) (f2 aq (aj 4) (fC (.int 2))) (bL aA)) (fU 2 (f2 aW (f2 (jb cW bN) (fC (.int 2)) (aj 3)) (fC (.int 1)))) bJ [some (.val p.d false),a1,some (.own (pQ.map .int) true none),some (.val (.int i) fr),some (.val h.d fr),some (.val (mF t) true)]
   =some (.nx [some (.val p.d false),a1,some (.own (sS.map .int) true none),some (.val (.int i) fr),some (.val h.d fr),some (.val (mF t) true)]):=by
   by_cases hc:h.q.isEmpty=true
   ·rw[cP (by rw[c2,hc];rfl)]
    simp[sS,hc,bJ]
   ·rw[gb (by rw[c2,Bool.eq_false_iff.mpr hc];rfl),iJ (d:= .int (2*(i:Int)+1)) rfl (by rw[sizeLine_eq];simp;omega) (aC (aC rfl rfl (Ln i)) rfl rfl) rfl]
    simp[sS,hc]
  exact(aD g1).trans g2
theorem Zt (p:Pl)(hp:oK p)(S:nj)(hS:S.cQ.length=p.cQ.length):jd [p.d,S.d]=some (.lst ((jQ 0 p.cQ S.cQ).map .int),.own):=by
 have n2:=hp.nt
 obtain⟨x,y,z,e⟩:=Ga p (some (.val S.d false)) true p.cQ S.cQ 0 [] none none none (by simp) hS.symm (by simp;omega)
 have e3:sH (aH 6 [p.d,S.d])=some (.rt (.lst ((jQ 0 p.cQ S.cQ).map .int)) .own [some (.val p.d false),some (.val S.d false),some (.own ((jQ 0 p.cQ S.cQ).map .int) true none),x,y,z]):=by
  unfold sH
  rw[aD (ρ':=[some (.val p.d false),some (.val S.d false),some (.own [] true none),none,none,none]) (by rfl)]
  refine(aD (ρ':=[some (.val p.d false),some (.val S.d false),some (.own ((jQ 0 p.cQ S.cQ).map .int) true none),x,y,z]) ?_).trans rfl
  have i1:yR (f2 aq (aj 1) (fC (.int 1))) (vis [some (.val p.d false),some (.val S.d false),some (.own [] true none),none,none,none])=some (j7 0 (S.cQ.map Th.d),[.tup (S.cQ.map Th.d)]):=rfl
  have fl:flat.flats (j7 0 (S.cQ.map Th.d))=true:=by
   have:∀(l:List Th) (i:Nat),flat.flats (j7 i (l.map Th.d))=true:=by
    intro l
    induction l with
    |nil=>intro i;rfl
    |cons t l ih=>intro i;simp[j7,flat,flat.flats,gC,ih]
   exact this _ _
  have:gM (yR (f2 aq (aj 1) (fC (.int 1)))) (kJ 2 (cJ (bf 3) (cJ (bf 4) lF))) wN [some (.val p.d false),some (.val S.d false),some (.own [] true none),none,none,none]
   =dX (kJ 2 (cJ (bf 3) (cJ (bf 4) lF))) wN true (j7 0 (S.cQ.map Th.d)) [some (.val p.d false),some (.val S.d false),some (.own [] true none),none,none,none]:=by
   unfold gM
   rw[fj i1 (by simp[fl,flat,flat.flats,bh gC])]
   rfl
  exact this.trans e
 simp only[jd,List.length_cons,List.length_nil,if_true,e3,cI]
theorem Mj (i:Int):qM [.int i]=some (.bl true,.new):=rfl
theorem R8 {c:Int}{l:List Int}(n:Bool):lU n (.int c) (.lst (l.map .int))=some (.bl (if n then !decide (c∈l)else decide (c∈l))):=by
 have h:sE (.lst (l.map .int))=true:=gw (n:=1) (by
  simp only[mR,List.all_eq_true,List.mem_map]
  rintro d ⟨x,hx,rfl⟩
  rfl)
 have e:((l.map D.int).any λy=>sr y (.int c))=decide (c∈l):=by
  clear h
  induction l with
  |nil=>simp
  |cons a l ih=>
   rw[List.map_cons,List.any_cons,ih,eq_int]
   by_cases h:a=c
   ·simp[h]
   ·have h':¬c=a:=λe=>h e.symm
    simp[h,h']
 unfold lU
 simp only[nD,Option.bind_some,vQ,h,Bool.and_self,if_true,e]
theorem Et {c:Int}{l:List Int}(h:c∈l):iH [.int c,.lst (l.map .int)]=some (.non,.new):=by
 have e:oH (aH 2 [.int c,.lst (l.map .int)])=some (.nx (aH 2 [.int c,.lst (l.map .int)])):=by
  unfold oH
  refine cP (uq (x:=false) (y:=false) (uN (x:=true) (Kc (aU (aO rfl) (Mj c) rfl))) λ_=>?_)
  exact dh rfl rfl (show lU true (.int c) (.lst (l.map .int))=some (.bl false) by rw[R8];simp[h])
 simp only[iH,List.length_cons,List.length_nil,if_true,e,cI]
theorem Bo (l:List D)(i:Nat):cutD l none (some (i:Int))=l.take i:=by
 simp only[cutD,HT.jc,List.drop_zero,Nat.sub_zero]
 rw[if_neg (by omega),Int.toNat_natCast]
 by_cases h:i<=l.length
 ·rw[Nat.min_eq_left h]
 ·rw[Nat.min_eq_right (by omega),List.take_length,List.take_of_length_le (by omega)]
theorem sX (l:List D)(i:Nat):cutD l (some (i:Int)) none=l.drop i:=by
 simp only[cutD,HT.jc]
 rw[if_neg (by omega),Int.toNat_natCast]
 by_cases h:i<=l.length
 ·rw[Nat.min_eq_left h,List.take_of_length_le (by simp)]
 ·rw[Nat.min_eq_right (by omega),List.drop_length,List.drop_of_length_le (by omega)];simp
theorem pX {a:FD}{lo hi:aK->Option (Option Int)}{ρ:aK}{d e:D}{x y:Option Int}(ha:a ρ=some d)(hl:lo ρ=some x)(hh:hi ρ=some y)(hs:Ea d x y=some e):uV a lo hi ρ=some e:=by
 show(a ρ).bind (λd=>(lo ρ).bind λx=>(hi ρ).bind λy=>Ea d x y)=_
 rw[ha,Option.bind_some,hl,Option.bind_some,hh,Option.bind_some,hs]
theorem ji {a:FD}{ρ:aK}{i:Int}(ha:a ρ=some (.int i)):eY a ρ=some (some i):=by
 show(a ρ).bind (λd=>(WM d).map some)=_
 rw[ha];rfl
theorem Pq {l:List D}{i:Nat}{d:D}(h:flat.flats l=true)(hd:flat d=true):flat.flats (l.set i d)=true:=by
 induction l generalizing i with
 |nil=>simp[flat.flats]
 |cons x l ih=>
  simp only[flat.flats,Bool.and_eq_true]at h
  cases i with
  |zero=>simp[flat.flats,hd,h.2]
  |succ i=>simp[flat.flats,h.1,ih h.2]
theorem pI (l:List D)(i:Nat)(d:D)(hi:i<l.length)(hl:l.length<1000)(hf:flat.flats l=true)(hd:flat d=true):dm [.tup l,.int i,d]=some (.tup (l.set i d),.new):=by
 have e0:l.take i++[d]++l.drop (i+1)=l.set i d:=by
  rw[List.set_eq_take_append_cons_drop,if_pos hi];simp
 have z1:aW (.tup (l.take i)) (.tup [d])=some (.tup (l.take i++[d])):=by
  simp only[aW]
  rw[if_pos (by rw[sizeLine_eq];simp;omega)]
 have z2:aW (.tup (l.take i++[d])) (.tup (l.drop (i+1)))=some (.tup (l.set i d)):=by
  simp only[aW]
  rw[if_pos (by rw[sizeLine_eq];simp;omega),e0]
 have s1:Ea (.tup l) none (some (i:Int))=some (.tup (l.take i)):=by simp only[Ea,Bo]
 have s2:Ea (.tup l) (some ((i:Int)+1)) none=some (.tup (l.drop (i+1))):=by
  have:=sX l (i+1)
  simp only[Ea]
  rw[show((i:Int)+1)=((i+1:Nat):Int) by omega,this]
 have e:qP (aH 3 [.tup l,.int i,d])=some (.rt (.tup (l.set i d)) .new (aH 3 [.tup l,.int i,d])):=by
  unfold qP
  refine bM ?_ (by simp only[flat];exact Pq hf hd)
  exact aC (aC (pX rfl rfl (ji rfl) s1) (bT (aO rfl) (by simp)) z1) (pX rfl (ji (aC rfl rfl rfl)) rfl s2) z2
 simp only[dm,List.length_cons,List.length_nil,if_true,e,cI]
end K
noncomputable def ix (l:List Str)(x:Str):Nat:=(l.findIdx? (·==x)).getD 0
theorem uW {l:List Str}{x:Str}(h:x∈l):l.findIdx? (·==x)=some (ix l x)/\ix l x<l.length:=by
 cases e:l.findIdx? (·==x)with
 |none=>
  rw[List.findIdx?_eq_none_iff]at e
  have:=e x h
  simp at this
 |some j=>
  have e2:ix l x=j:=by unfold ix;rw[e];rfl
  refine⟨by rw[e2],?_⟩
  rw[e2]
  exact(List.findIdx?_eq_some_iff_getElem.mp e).1
theorem Jm (l:List Str)(x:Str):Jl (.str x) (l.map .str)=l.findIdx? (·==x):=by
 unfold Jl
 rw[List.findIdx?_map]
 congr 1
theorem Nb (a:Str)(l:List Str)(x:Str)(h:x∈a::l):ix (a::l) x=if a=x then 0 else ix l x+1:=by
 unfold ix
 rw[List.findIdx?_cons]
 by_cases e:a=x
 ·simp[e]
 ·have hm:x∈l:=by
   rcases List.mem_cons.mp h with h|h
   ·exact absurd h.symm e
   ·exact h
  simp only[show(a==x)=false by simp[e],if_neg e]
  rw[(uW hm).1]
  rfl
noncomputable def bD (ns:List Str)(bx:List Int):D:= .dct (ns.map .inr) (bx.map .int)
theorem BK:∀{ns:List Str}{bx:List Int}{x:Str},ns.length=bx.length->x∈ns->rP (ns.map .inr) (bx.map .int) (.inr x)=some (.int (bx.getD (ix ns x) 0))
 |[],_,_,_,h=>by simp at h
 |a::ns,[],_,h,_=>by simp at h
 |a::ns,b::bx,x,hl,hx=>by
  simp only[List.length_cons,Nat.add_right_cancel_iff]at hl
  rw[Nb a ns x hx]
  unfold rP
  rw[List.map_cons,List.map_cons,List.zip_cons_cons,List.find?_cons]
  by_cases e:a=x
  ·simp[e]
  ·have hm:x∈ns:=by
    rcases List.mem_cons.mp hx with h|h
    ·exact absurd h.symm e
    ·exact h
   have:=BK hl hm
   unfold rP at this
   simp only[Sum.inr.injEq,e,decide_false,if_false,List.getD_cons_succ]
   exact this
theorem K5:∀{ns:List Str}{bx:List Int}{x:Str}{v:D},ns.length=bx.length->x∉ns->nH (ns.map .inr) (bx.map .int) (.inr x) v=bx.map .int
 |[],[],_,_,_,_=>rfl
 |[],_::_,_,_,h,_=>by simp at h
 |a::ns,[],_,_,h,_=>by simp at h
 |a::ns,b::bx,x,v,hl,hx=>by
  simp only[List.length_cons,Nat.add_right_cancel_iff]at hl
  have h1:¬a=x:=λe=>hx (by simp[e])
  have:=K5 (x:=x) (v:=v) hl (λz=>hx (by simp[z]))
  unfold nH at this ⊢
  rw[List.map_cons,List.map_cons,List.zip_cons_cons,List.map_cons,this]
  simp[h1]
theorem K4:∀{ns:List Str}{bx:List Int}{x:Str}{v:Int},ns.length=bx.length->ns.Nodup->x∈ns->nH (ns.map .inr) (bx.map .int) (.inr x) (.int v)=(bx.set (ix ns x) v).map .int
 |[],_,_,_,_,_,h=>by simp at h
 |a::ns,[],_,_,h,_,_=>by simp at h
 |a::ns,b::bx,x,v,hl,hn,hx=>by
  simp only[List.length_cons,Nat.add_right_cancel_iff]at hl
  rw[List.nodup_cons]at hn
  rw[Nb a ns x hx]
  by_cases e:a=x
  ·have:=K5 (x:=x) (v:= .int v) hl (by rw[<-e];exact hn.1)
   unfold nH at this ⊢
   rw[List.map_cons,List.map_cons,List.zip_cons_cons,List.map_cons,this]
   simp[e]
  ·have hm:x∈ns:=by
    rcases List.mem_cons.mp hx with h|h
    ·exact absurd h.symm e
    ·exact h
   have:=K4 (v:=v) hl hn.2 hm
   unfold nH at this ⊢
   rw[List.map_cons,List.map_cons,List.zip_cons_cons,List.map_cons,this]
   simp[e]
theorem JS {ns:List Str}{bx:List Int}{x:Str}{v:Int}(hl:ns.length=bx.length)(hn:ns.Nodup)(hx:x∈ns):rR (ns.map .inr) (bx.map .int) (.inr x) (.int v)=(ns.map .inr,(bx.set (ix ns x) v).map .int):=by
 unfold rR
 rw[Aw,if_pos (by simp[hx]),K4 hl hn hx]
theorem yV:∀ns:List Str,wM (ns.map .str)=some (ns.map .inr)
 |[]=>rfl
 |a::ns=>by simp[wM,Cd,yV ns]
theorem Cz:∀{ns:List Str},ns.Nodup->rA (ns.map .inr)=true
 |[],_=>rfl
 |a::ns,h=>by
  rw[List.nodup_cons]at h
  simp[rA,Aw,h.1,Cz h.2]
theorem V2 {ns:List Str}{bx:List Int}(hl:ns.length=bx.length)(hn:ns.Nodup):Ge [.tup (ns.map .str),.tup (bx.map .int)]=some (ns.map .inr,bx.map .int):=by
 simp only[Ge,yV,Option.bind_some,Cz hn,List.length_map,hl,and_self,if_true]
noncomputable def jN (ns:List Str)(bx:List Int):Va->Int
 | .no i=>i
 | .nm x=>bx.getD (ix ns x) 0
noncomputable def seen (cs:List Int)(q:List (Nat×Int))(c:Nat):Int:=(((q.filter λp=>p.1==c).map (·.2)).getLast?).getD (cs.getD c 0)
noncomputable def over (ns:List Str)(bx:List Int):Rw->Nat
 | .skip b n=>if jN ns bx (.nm b)=0 then n else 0
 |_=>0
noncomputable def lX (cn ns:List Str)(bx:List Int):Rw->Option (Nat×Int)
 | .put c v=>some (ix cn c,jN ns bx v)
 | .swap _ c v=>some (ix cn c,jN ns bx v)
 |_=>none
noncomputable def Qu (a b:Int):Int:=if a+b<100 then a+b else a+b - 100
noncomputable def rN (cn ns:List Str)(cs:List Int)(q:List (Nat×Int))(bx:List Int):Rw->List Int
 | .get b c=>bx.set (ix ns b) (seen cs q (ix cn c))
 | .swap b c _=>bx.set (ix ns b) (seen cs q (ix cn c))
 | .add b v u=>bx.set (ix ns b) (Qu (jN ns bx v) (jN ns bx u))
 |_=>bx
theorem WW (r:Rw)(w:Str)(hw:PyData.strOk w=true):cR false (.str r.word) (.str w)=some (.bl (r.word==w)):=by
 unfold cR
 rw[mD _ (wW r),mD _ hw,eq_str]
 rfl
theorem Gs {x:Str}{l:List Str}(hx:PyData.strOk x=true)(h:∀y∈l,PyData.strOk y=true):Qo (.str x) (l.map .str)=true:=by
 unfold Qo
 rw[mD x hx,Be h];rfl
namespace K
theorem vR (ns:List Str)(bx:List Int)(v:Va)(hl:ns.length=bx.length)(h:∀x∈v.bx,x∈ns):dR [v.d,bD ns bx]=some (.int (jN ns bx v),.new):=by
 have e:sO (aH 2 [v.d,bD ns bx])=some (.rt (.int (jN ns bx v)) .new (aH 2 [v.d,bD ns bx])):=by
  unfold sO
  refine bM ?_ rfl
  cases v with
  |no i=>exact lE (x:=false) rfl (λz=>by cases z) λ_=>rfl
  |nm x=>
   refine lE (x:=true) rfl (λ_=>aC rfl rfl ?_) (λz=>by cases z)
   exact BK hl (h x (by simp[Va.bx]))
 simp only[dR,List.length_cons,List.length_nil,if_true,e,cI]
theorem Zu (ns:List Str)(bx:List Int)(r:Rw)(hl:ns.length=bx.length)(h:∀x∈r.bx,x∈ns):gJ [r.d,bD ns bx]=some (.int (over ns bx r),.new):=by
 have e:lB (aH 2 [r.d,bD ns bx])=some (.rt (.int (over ns bx r)) .new (aH 2 [r.d,bD ns bx])):=by
  unfold lB
  refine bM ?_ rfl
  have k1:t2 (cR false) (f2 aq (aj 0) (fC (.int 0))) (fC (.str "skip")) (vis (aH 2 [r.d,bD ns bx]))=some (r.word=="skip"):=dh (aC rfl rfl (gW r)) rfl (WW r _ Nj)
  by_cases hs:∃b n,r= .skip b n
  ·obtain⟨b,n,rfl⟩:=hs
   have k2:t2 (cR false) (f2 aq (aj 1) (f2 aq (aj 0) (fC (.int 1)))) (fC (.int 0)) (vis (aH 2 [(Rw.skip b n).d,bD ns bx]))=some (jN ns bx (.nm b)==0):=
    dh (aC rfl (aC rfl rfl (z:= .str b) rfl) (BK hl (h b (by simp[Rw.bx])))) rfl (by simp[cR,vQ,eq_int,jN])
   refine lE (lN k1 λ_=>k2) (λz=>?_) (λz=>?_)
   ·refine aC rfl rfl ?_
    have:jN ns bx (.nm b)=0:=by simp[Rw.word]at z;exact z
    simp only[over,this,if_true]
    rfl
   ·have:¬jN ns bx (.nm b)=0:=by simp[Rw.word]at z;exact z
    simp only[over,this,if_false]
    rfl
  ·have hw:(r.word==("skip":Str))=false:=by
    cases r<;>first|(exfalso;exact hs ⟨_,_,rfl⟩)|simp[Rw.word,jX]
   rw[hw]at k1
   have ho:over ns bx r=0:=by
    cases r<;>first|(exfalso;exact hs ⟨_,_,rfl⟩)|rfl
   rw[ho]
   exact lE (x:=false&&false) (lN k1 λz=>by cases z) (λz=>by cases z) λ_=>rfl
 simp only[gJ,List.length_cons,List.length_nil,if_true,e,cI]
theorem vm (C:Addr)(p:Pl)(hp:oK p)(r:Rw)(c:Str)(hc:r.cell=some c)(hm:c∈p.cells.map (·.1)):cZ C [p.pr C,r.d]=some (.int (ix (p.cells.map (·.1)) c),.new):=by
 have hn:∀y∈p.cells.map (·.1),PyData.strOk y=true:=by
  intro y hy
  obtain⟨a,ha,rfl⟩:=List.mem_map.mp hy
  exact hp.okc a ha
 have e:oG C (aH 2 [p.pr C,r.d])=some (.rt (.int (ix (p.cells.map (·.1)) c)) .new (aH 2 [p.pr C,r.d])):=by
  unfold oG
  refine bM ?_ rfl
  have q:Ao (t2 (cR false) (f2 aq (aj 1) (fC (.int 0))) (fC (.str "put"))) (f2 aq (aj 1) (fC (.int 1))) (f2 aq (aj 1) (fC (.int 2))) (vis (aH 2 [p.pr C,r.d]))=some (.str c):=by
   refine lE (dh (aC rfl rfl (gW r)) rfl (WW r _ Hz)) (λz=>?_) (λz=>?_)
   ·cases r<;>simp[Rw.word,jX]at z
    cases hc
    rfl
   ·cases r<;>simp[Rw.word,jX]at z<;>cases hc<;>rfl
  refine pW (nO rfl (En p)) rfl (aO q) ?_
  have:(p.cells.map λc=>D.str c.1)=(p.cells.map (·.1)).map .str:=by simp
  simp only[Am,this,Gs (hn c hm) hn,if_true,Jm,(uW hm).1,Option.map_some]
 simp only[cZ,List.length_cons,List.length_nil,if_true,e,cI]
theorem BR (r:Rw):lU false (.str r.word) (.tup [.str "get",.str "swap"])=some (.bl (r.word=="get"||r.word=="swap")):=by
 have h:sE (.tup [.str "get",.str "swap"])=true:=gw (n:=1) (by simp[mR,Yt,Ay])
 unfold lU
 simp only[nD,Option.bind_some,mD _ (wW r),h,Bool.and_self,if_true,List.any_cons,List.any_nil,eq_str]
 cases r<;>simp[Rw.word,bW,jX]
theorem KY (r:Rw):lU true (.str r.word) (.tup [.str "put",.str "swap"])=some (.bl (!(r.word=="put"||r.word=="swap"))):=by
 have h:sE (.tup [.str "put",.str "swap"])=true:=gw (n:=1) (by simp[mR,Hz,Ay])
 unfold lU
 simp only[nD,Option.bind_some,mD _ (wW r),h,Bool.and_self,if_true,List.any_cons,List.any_nil,eq_str]
 cases r<;>simp[Rw.word,bW,jX]
noncomputable def putD:Option (Nat×Int)->D
 |none=> .non
 |some x=>qD x
theorem U4 (C:Addr)(p:Pl)(hp:oK p)(r:Rw)(ns:List Str)(bx:List Int)(hl:ns.length=bx.length)(h:∀x∈r.bx,x∈ns)(hm:∀c,r.cell=some c->c∈p.cells.map (·.1)):
 sG C [p.pr C,r.d,bD ns bx]=some (putD (lX (p.cells.map (·.1)) ns bx r),.new):=by
 have e:yJ C (aH 3 [p.pr C,r.d,bD ns bx])=some (.rt (putD (lX (p.cells.map (·.1)) ns bx r)) .new (aH 3 [p.pr C,r.d,bD ns bx])):=by
  unfold yJ
  have k1:t2 (lU true) (f2 aq (aj 1) (fC (.int 0))) (bL (aa (fC (.str "put")) (aa (fC (.str "swap")) aA))) (vis (aH 3 [p.pr C,r.d,bD ns bx]))=some (!(r.word=="put"||r.word=="swap")):=
   dh (aC rfl rfl (gW r)) (bT (bG rfl (aO rfl)) (by simp)) (KY r)
  have main:∀(c:Str) (v:Va),r.cell=some c->(∀x∈v.bx,x∈ns)->aq r.d (.int (-1))=some v.d->lX (p.cells.map (·.1)) ns bx r=some (ix (p.cells.map (·.1)) c,jN ns bx v)->(r.word=="put"||r.word=="swap")=true->
   aL (gj (t2 (lU true) (f2 aq (aj 1) (fC (.int 0))) (bL (aa (fC (.str "put")) (aa (fC (.str "swap")) aA)))) (dg (fC .non)) bJ) (dg (bL (aa (aN (cZ C) [] (aa (aj 0) (aa (aj 1) aA))) (aa (aN dR [] (aa (f2 aq (aj 1) (Hi (fC (.int 1)))) (aa (aj 2) aA))) aA)))) (aH 3 [p.pr C,r.d,bD ns bx])=some (.rt (putD (lX (p.cells.map (·.1)) ns bx r)) .new (aH 3 [p.pr C,r.d,bD ns bx])):=by
   intro c v hc hv hs ho hw
   rw[hw]at k1
   rw[aD (ρ':=aH 3 [p.pr C,r.d,bD ns bx]) (by rw[cP k1];rfl),ho]
   refine bM ?_ rfl
   exact bT (bG (aU (bG rfl (aO rfl)) (vm C p hp r c hc (hm c hc)) rfl) (aO (aU (bG (aC rfl rfl hs) (aO rfl)) (vR ns bx v hl hv) rfl))) (by simp)
  have none_:(r.word=="put"||r.word=="swap")=false->lX (p.cells.map (·.1)) ns bx r=none->aL (gj (t2 (lU true) (f2 aq (aj 1) (fC (.int 0))) (bL (aa (fC (.str "put")) (aa (fC (.str "swap")) aA)))) (dg (fC .non)) bJ) (dg (bL (aa (aN (cZ C) [] (aa (aj 0) (aa (aj 1) aA))) (aa (aN dR [] (aa (f2 aq (aj 1) (Hi (fC (.int 1)))) (aa (aj 2) aA))) aA)))) (aH 3 [p.pr C,r.d,bD ns bx])=some (.rt (putD (lX (p.cells.map (·.1)) ns bx r)) .new (aH 3 [p.pr C,r.d,bD ns bx])):=by
   intro hw ho
   rw[hw]at k1
   rw[ho]
   exact mJ (by rw[gb k1];rfl)
  cases r with
  |put c v=>exact main c v rfl (λx hx=>h x hx) (by cases v<;>rfl) rfl (by simp[Rw.word])
  |swap b c v=>exact main c v rfl (λx hx=>h x (by simp[Rw.bx,hx])) (by cases v<;>rfl) rfl (by simp[Rw.word])
  |get b c=>exact none_ (by simp[Rw.word,bW]) rfl
  |add b v u=>exact none_ (by simp[Rw.word,bW]) rfl
  |skip b n=>exact none_ (by simp[Rw.word,bW]) rfl
  |fence=>exact none_ (by simp[Rw.word,bW]) rfl
 simp only[sG,List.length_cons,List.length_nil,if_true,e,cI]
end K
theorem RP {l:List Str}:∀{acc:List Str}{x:Str},x∈acc\/x∈l->x∈l.foldl lQ acc:=by
 induction l with
 |nil=>intro acc x h;simpa using h
 |cons a l ih=>
  intro acc x h
  refine ih ?_
  rcases h with h|h
  ·left;unfold lQ;split
   ·exact h
   ·simp[h]
  ·rcases List.mem_cons.mp h with rfl|h
   ·left;unfold lQ;split
    ·assumption
    ·simp
   ·exact .inr h
theorem Ng {t:List Rw}{r:Rw}{x:Str}(hr:r∈t)(hx:x∈r.bx):x∈pR t:=RP (.inr (List.mem_flatMap.mpr ⟨r,hr,hx⟩))
theorem Ou (t:List Rw):(pR t).Nodup:=Eb (by simp)
noncomputable def bH (cn ns:List Str)(w:Bool)(r:Rw)(cs:List Int)(h:Th):List Int×Th:=
 let at':=h.at_+1+over ns h.bx r
 let GQ:=rN cn ns cs h.q h.bx r
 match r,lX cn ns h.bx r with
 | .put _ _,some x=>if w=true then(cs,⟨at',GQ,h.q++[x]⟩)else(cs.set x.1 x.2,⟨at',GQ,h.q⟩)
 |_,some x=>(cs.set x.1 x.2,⟨at',GQ,h.q⟩)
 |_,none=>(cs,⟨at',GQ,h.q⟩)
theorem zB (l:List Int)(x:Int)(h:l.getLast?=some x):aq (.lst (l.map .int)) (.int (-1))=some (.int x):=by
 have hne:l≠[]:=by rintro rfl;simp at h
 have hpos:0<l.length:=List.length_pos_iff.mpr hne
 simp only[aq,UW,zz,Ld,List.length_map]
 rw[if_neg (by omega),if_pos (by omega)]
 have:(-1+(l.length:Int)).toNat=l.length - 1:=by omega
 rw[this,Option.bind_some,List.getElem?_map,<-List.getLast?_eq_getElem?,h]
 rfl
theorem Vh (l:List Int):cR true (.lst (l.map .int)) (.lst [])=some (.bl (!l.isEmpty)):=by
 have h:sE (.lst (l.map .int))=true:=gw (n:=1) (by
  simp only[mR,List.all_eq_true,List.mem_map]
  rintro d ⟨x,hx,rfl⟩
  rfl)
 have h0:sE (.lst [])=true:=gw (n:=1) rfl
 unfold cR
 rw[h,h0,Kz]
 simp only[Bool.and_self,if_true,iG,qU,List.isEmpty_map]
theorem KN {i:Nat}{F:aK->Option (List Key×List D)}{ρ:bw}{r:List Key×List D}(h:F (vis ρ)=some r)(hf:flat.flats r.2=true):MT i F ρ=some (.nx (ρ.set i (some (.jx r.1 r.2 true)))):=fj h hf
theorem Jc {i:Nat}{Fk Fv:FD}{ρ:bw}{ks:List Key}{l:List D}{fr:Bool}{d y:D}{k:Key}(hi:ρ[i]?=some (some (.jx ks l fr)))(hl:ks.length<16777216)(hv:Fv (vis ρ)=some d)(hf:flat d=true)(hk:Fk (vis ρ)=some y)(hy:Cd y=some k):
 oU i Fk Fv ρ=some (.nx (ρ.set i (some (.jx (rR ks l k d).1 (rR ks l k d).2 fr)))):=by
 unfold oU
 rw[hi]
 simp only[sizeLine_eq,hl,if_true,hv,Option.bind_some,hf,hk,hy,Option.map_some]
theorem Cu {cn ns:List Str}{w:Bool}{r:Rw}{cs:List Int}{h:Th}:(bH cn ns w r cs h).2.at_=h.at_+1+over ns h.bx r:=by
 cases r<;>simp only[bH,lX]<;>(try split)<;>rfl
theorem vH {cn ns:List Str}{w:Bool}{r:Rw}{cs:List Int}{h:Th}:(bH cn ns w r cs h).2.bx=rN cn ns cs h.q h.bx r:=by
 cases r<;>simp only[bH,lX]<;>(try split)<;>rfl
namespace K
theorem Eu (cs:List Int)(q:List (Nat×Int))(c:Nat)(hc:c<cs.length)(hq:q.length<1000):fP [.tup (cs.map .int),.tup (q.map qD),.int c]=some (.int (seen cs q c),.new):=by
 have e1:gf (rO 2 (gO (bC 0) (gO (bC 1) tQ))) (t2 (cR false) (aj 0) (aj 2)) (aj 1) [none,none,some (.int c)] (q.map qD)=some ((q.filter λp=>p.1==c).map λp=> .int p.2):=
  mV _ (λp=>[some (.int p.1),some (.int p.2),some (.int c)]) q λp _=>⟨rfl,dh rfl rfl (by
   simp only[cR,vQ,eq_int,Bool.and_self,if_true]
   congr 2
   by_cases h:p.1=c
   ·simp[h]
   ·have:¬(p.1:Int)=c:=by omega
    rw[beq_eq_false_iff_ne.mpr h,beq_eq_false_iff_ne.mpr this];rfl),rfl⟩
 have em:((q.filter λp=>p.1==c).map λp=>D.int p.2)=((q.filter λp=>p.1==c).map (·.2)).map .int:=by simp
 rw[em]at e1
 generalize hl:((q.filter λp=>p.1==c).map (·.2))=l at e1
 have e:∃ρ,oJ (aH 4 [.tup (cs.map .int),.tup (q.map qD),.int c])=some (.rt (.int (seen cs q c)) .new ρ):=by
  refine⟨[some (.val (.tup (cs.map .int)) false),some (.val (.tup (q.map qD)) false),some (.val (.int c) false),some (.own (l.map .int) true none)],?_⟩
  unfold oJ
  rw[aD (fj (j5 (jT rfl) (by simp;omega) e1) (bh λ_=>rfl))]
  refine bM ?_ rfl
  refine lE (dh rfl (x:= .lst (l.map .int)) (y:= .lst []) rfl (Vh l)) (λz=>?_) (λz=>?_)
  ·cases hg:l.getLast? with
   |none=>rw[List.getLast?_eq_none_iff]at hg;simp[hg]at z
   |some x=>
    have:seen cs q c=x:=by unfold seen;rw[hl,hg];rfl
    rw[this]
    exact aC rfl rfl (zB l x hg)
  ·have hg:l=[]:=by simpa using z
   have:seen cs q c=cs[c]:=by unfold seen;rw[hl,hg];simp[hc]
   rw[this]
   exact aC rfl rfl (jH (List.getElem?_eq_getElem hc))
 obtain⟨ρ,e⟩:=e
 simp only[fP,List.length_cons,List.length_nil,if_true,e,cI]
theorem Ml (C:Addr)(p:Pl)(hp:oK p)(S:nj)(i:Nat)(t:List Rw)(h:Th)(r:Rw)(w:Bool)(ht:p.cQ[i]?=some t)(hh:S.cQ[i]?=some h)(hr:t[h.at_]?=some r)
 (hb:(pR t).length=h.bx.length)(hc:S.cs.length=p.cells.length)(hq:h.q.length<900)(hS:S.cQ.length<900):
 o9 C [p.pr C,S.d,.int i,.bl w]=some (nj.d ⟨(bH (p.cells.map (·.1)) (pR t) w r S.cs h).1,S.cQ.set i (bH (p.cells.map (·.1)) (pR t) w r S.cs h).2⟩,.new):=by
 have X4:t∈p.cQ:=List.mem_of_getElem? ht
 have hrm:r∈t:=List.mem_of_getElem? hr
 have hnm:∀x∈r.bx,x∈pR t:=λx hx=>Ng hrm hx
 have hcm:∀c,r.cell=some c->c∈p.cells.map (·.1):=hp.WN t X4 r hrm
 have hct:∀c,r.cell=some c->ix (p.cells.map (·.1)) c<S.cs.length:=λc e=>by
  have:=(uW (hcm c e)).2
  rw[List.length_map]at this
  omega
 have nd:=Ou t
 have n1:=hp.nc
 generalize hns:pR t=ns at*
 generalize hcn:p.cells.map (·.1)=cn at*
 have hi:i<S.cQ.length:=(List.getElem?_eq_some_iff.mp hh).1
 let mk (cs:D) (q:D) (bx:List Int):bw:=[some (.val (p.pr C) false),some (.val S.d false),some (.val (.int i) false),some (.val (.bl w) false),some (.val cs true),some (.val h.d true),some (.val q true),some (.val r.d true),
  some (.jx (ns.map .inr) (bx.map .int) true),some (.val (.int (((h.at_+1+over ns h.bx r:Nat):Int))) true),some (.val (putD (lX cn ns h.bx r)) true)]
 have s5:∀ρ:aK,at? ρ 1=some S.d->at? ρ 2=some (.int i)->f2 aq (f2 aq (aj 1) (fC (.int 1))) (aj 2) ρ=some h.d:=λρ h1 h2=>aC (aC h1 rfl (z:= .tup (S.cQ.map Th.d)) rfl) h2 (jH hh)
 have bn:(wA C "box_names" (aj 0)) (vis (aH 11 [p.pr C,S.d,.int i,.bl w]))=some (.tup (p.cQ.map qt)):=nO rfl (rB p)
 have a1j:=U4 C p hp r ns h.bx hb hnm (by rw[hcn];exact hcm)
 rw[hcn]at a1j
 have e0:p7 C (aH 11 [p.pr C,S.d,.int i,.bl w])=(aL (gj (t2 (lU false) (f2 aq (aj 7) (fC (.int 0))) (bL (aa (fC (.str "get")) (aa (fC (.str "swap")) aA)))) (oU 8 (f2 aq (aj 7) (fC (.int 1))) (aN fP [] (aa (aj 4) (aa (aj 6) (aa (aN (cZ C) [] (aa (aj 0) (aa (aj 7) aA))) aA))))) (gj (t2 (cR false) (f2 aq (aj 7) (fC (.int 0))) (fC (.str "add"))) (oU 8 (f2 aq (aj 7) (fC (.int 1))) (aN oh [] (aa (aN dR [] (aa (f2 aq (aj 7) (fC (.int 2))) (aa (aj 8) aA))) (aa (aN dR [] (aa (f2 aq (aj 7) (fC (.int 3))) (aa (aj 8) aA))) aA)))) bJ)) (aL (gj (lR (t2 (cR false) (f2 aq (aj 7) (fC (.int 0))) (fC (.str "put"))) (tV (aj 3))) (aZ 6 (f2 aW (aj 6) (bL (aa (aj 10) aA)))) (gj (t2 (Xz true) (aj 10) (fC .non)) (aZ 4 (aN dm [] (aa (aj 4) (aa (f2 aq (aj 10) (fC (.int 0))) (aa (f2 aq (aj 10) (fC (.int 1))) aA))))) bJ)) (dg (bL (aa (aj 4) (aa (aN dm [] (aa (f2 aq (aj 1) (fC (.int 1))) (aa (aj 2) (aa (bL (aa (aj 9) (aa (WY (aj 8)) (aa (aj 6) aA)))) aA)))) aA)))))) (mk (.tup (S.cs.map .int)) (.tup (h.q.map qD)) h.bx):=by
  unfold p7
  rw[aD (aM (d:= .tup (S.cs.map .int)) (aC rfl rfl rfl) (FW _))]
  rw[aD (aM (d:=h.d) (s5 _ rfl rfl) (gC h))]
  rw[aD (aM (d:= .tup (h.q.map qD)) (aC rfl rfl rfl) (By _))]
  rw[aD (aM (d:=r.d) (aC (aC (nO rfl (vK p)) rfl (jH ht)) (aC rfl rfl (z:= .int h.at_) rfl) (jH hr)) (eX r))]
  rw[aD (KN (r:=(ns.map .inr,h.bx.map .int)) (show(aa (f2 aq (wA C "box_names" (aj 0)) (aj 2)) (aa (f2 aq (aj 5) (fC (.int 1))) aA) _).bind Ge=_ from by
   rw[bG (aC (nO rfl (rB p)) rfl (jH ht)) (aO (aC rfl rfl (z:= .tup (h.bx.map .int)) rfl)),Option.bind_some,qt,hns,V2 hb nd]) (bh λ_=>rfl))]
  rw[aD (aM (d:= .int (((h.at_+1+over ns h.bx r:Nat):Int))) (aC (aC (aC rfl rfl (z:= .int h.at_) rfl) rfl (z:= .int ((h.at_:Int)+1)) rfl) (aU (bG rfl (aO rfl)) (Zu ns h.bx r hb hnm) rfl) (by simp[aW])) rfl)]
  rw[aD (aM (d:=putD (lX cn ns h.bx r)) (aU (bG rfl (bG rfl (aO rfl))) a1j rfl) (by cases lX cn ns h.bx r<;>rfl))]
  rfl
 have a0r:ns.length<16777216:=by
  have:=Ak (hp.nr t X4)
  rw[hns]at this
  omega
 have eA:gj (t2 (lU false) (f2 aq (aj 7) (fC (.int 0))) (bL (aa (fC (.str "get")) (aa (fC (.str "swap")) aA)))) (oU 8 (f2 aq (aj 7) (fC (.int 1))) (aN fP [] (aa (aj 4) (aa (aj 6) (aa (aN (cZ C) [] (aa (aj 0) (aa (aj 7) aA))) aA))))) (gj (t2 (cR false) (f2 aq (aj 7) (fC (.int 0))) (fC (.str "add"))) (oU 8 (f2 aq (aj 7) (fC (.int 1))) (aN oh [] (aa (aN dR [] (aa (f2 aq (aj 7) (fC (.int 2))) (aa (aj 8) aA))) (aa (aN dR [] (aa (f2 aq (aj 7) (fC (.int 3))) (aa (aj 8) aA))) aA)))) bJ) (mk (.tup (S.cs.map .int)) (.tup (h.q.map qD)) h.bx)
  =some (.nx (mk (.tup (S.cs.map .int)) (.tup (h.q.map qD)) (rN cn ns S.cs h.q h.bx r))):=by
  have k1:t2 (lU false) (f2 aq (aj 7) (fC (.int 0))) (bL (aa (fC (.str "get")) (aa (fC (.str "swap")) aA))) (vis (mk (.tup (S.cs.map .int)) (.tup (h.q.map qD)) h.bx))=some (r.word=="get"||r.word=="swap"):=dh (aC rfl rfl (gW r)) (bT (bG rfl (aO rfl)) (by simp)) (BR r)
  have k2:t2 (cR false) (f2 aq (aj 7) (fC (.int 0))) (fC (.str "add")) (vis (mk (.tup (S.cs.map .int)) (.tup (h.q.map qD)) h.bx))=some (r.word=="add"):=dh (aC rfl rfl (gW r)) rfl (WW r _ S7)
  have main:∀(b c:Str),(r.word=="get"||r.word=="swap")=true->r.cell=some c->b∈r.bx->aq r.d (.int 1)=some (.str b)->rN cn ns S.cs h.q h.bx r=h.bx.set (ix ns b) (seen S.cs h.q (ix cn c))->
   oU 8 (f2 aq (aj 7) (fC (.int 1))) (aN fP [] (aa (aj 4) (aa (aj 6) (aa (aN (cZ C) [] (aa (aj 0) (aa (aj 7) aA))) aA)))) (mk (.tup (S.cs.map .int)) (.tup (h.q.map qD)) h.bx)
    =some (.nx (mk (.tup (S.cs.map .int)) (.tup (h.q.map qD)) (rN cn ns S.cs h.q h.bx r))):=by
   intro b c hw hc' hb' hs ho
   have cn1:=vm C p hp r c hc' (by rw[hcn];exact hcm c hc')
   rw[hcn]at cn1
   rw[Jc (k:= .inr b) (d:= .int (seen S.cs h.q (ix cn c))) rfl (by simpa using a0r) (aU (bG rfl (bG rfl (aO (aU (bG rfl (aO rfl)) cn1 rfl)))) (Eu S.cs h.q (ix cn c) (hct c hc') (by omega)) rfl) rfl (aC rfl rfl hs) rfl,JS hb nd (hnm b hb'),ho]
   rfl
  cases r with
  |get b c=>rw[gb (by rw[k1];simp[Rw.word])];exact main b c (by simp[Rw.word]) rfl (by simp[Rw.bx]) rfl rfl
  |swap b c v=>rw[gb (by rw[k1];simp[Rw.word])];exact main b c (by simp[Rw.word]) rfl (by simp[Rw.bx]) rfl rfl
  |add b v u=>
   rw[cP (by rw[k1];simp[Rw.word,bW]),gb (by rw[k2];simp[Rw.word])]
   have e1:=vR ns h.bx v hb (λx hx=>hnm x (by simp[Rw.bx,hx]))
   have e2:=vR ns h.bx u hb (λx hx=>hnm x (by simp[Rw.bx,hx]))
   rw[Jc (k:= .inr b) (d:= .int (Qu (jN ns h.bx v) (jN ns h.bx u))) rfl (by simpa using a0r) (aU (bG (aU (bG (aC rfl rfl (z:=v.d) rfl) (aO rfl)) e1 rfl) (aO (aU (bG (aC rfl rfl (z:=u.d) rfl) (aO rfl)) e2 rfl))) (U6 _ _) rfl) rfl (aC rfl rfl (z:= .str b) rfl) rfl,JS hb nd (hnm b (by simp[Rw.bx]))]
   rfl
  |put c v=>rw[cP (by rw[k1];simp[Rw.word,bW]),cP (by rw[k2];simp[Rw.word,bW])];rfl
  |skip b n=>rw[cP (by rw[k1];simp[Rw.word,bW]),cP (by rw[k2];simp[Rw.word,bW])];rfl
  |fence=>rw[cP (by rw[k1];simp[Rw.word,bW]),cP (by rw[k2];simp[Rw.word,bW])];rfl
 have eB:∀bx:List Int,gj (lR (t2 (cR false) (f2 aq (aj 7) (fC (.int 0))) (fC (.str "put"))) (tV (aj 3))) (aZ 6 (f2 aW (aj 6) (bL (aa (aj 10) aA)))) (gj (t2 (Xz true) (aj 10) (fC .non)) (aZ 4 (aN dm [] (aa (aj 4) (aa (f2 aq (aj 10) (fC (.int 0))) (aa (f2 aq (aj 10) (fC (.int 1))) aA))))) bJ) (mk (.tup (S.cs.map .int)) (.tup (h.q.map qD)) bx)
  =some (.nx (mk (.tup ((bH cn ns w r S.cs h).1.map .int)) (.tup ((bH cn ns w r S.cs h).2.q.map qD)) bx)):=by
  intro bx
  have k1:lR (t2 (cR false) (f2 aq (aj 7) (fC (.int 0))) (fC (.str "put"))) (tV (aj 3)) (vis (mk (.tup (S.cs.map .int)) (.tup (h.q.map qD)) bx))=some (r.word=="put"&&w):=lN (dh (aC rfl rfl (gW r)) rfl (WW r _ Hz)) λ_=>rfl
  have a0T:∀(c:Str) (n:Int),r.cell=some c->lX cn ns h.bx r=some (ix cn c,n)->gj (t2 (Xz true) (aj 10) (fC .non)) (aZ 4 (aN dm [] (aa (aj 4) (aa (f2 aq (aj 10) (fC (.int 0))) (aa (f2 aq (aj 10) (fC (.int 1))) aA))))) bJ (mk (.tup (S.cs.map .int)) (.tup (h.q.map qD)) bx)
   =some (.nx (mk (.tup ((S.cs.set (ix cn c) n).map .int)) (.tup (h.q.map qD)) bx)):=by
   intro c n hc' ho
   have mk':mk=λ(cs:D) (q:D) (bx:List Int)=>[some (.val (p.pr C) false),some (.val S.d false),some (.val (.int i) false),some (.val (.bl w) false),some (.val cs true),some (.val h.d true),some (.val q true),some (.val r.d true),
    some (.jx (ns.map .inr) (bx.map .int) true),some (.val (.int (((h.at_+1+over ns h.bx r:Nat):Int))) true),some (.val (qD (ix cn c,n)) true)]:=by
    simp only[mk,ho,putD]
   rw[mk']
   have lt:=hct c hc'
   rw[gb rfl,aM (d:= .tup ((S.cs.set (ix cn c) n).map .int)) (aU (bG rfl (bG (aC rfl rfl (z:= .int (ix cn c)) rfl) (aO (aC rfl rfl (z:= .int n) rfl)))) (pI (S.cs.map .int) (ix cn c) (.int n) (by simpa using lt) (by simp;omega) (bh λ_=>rfl) rfl) (by rw[<-List.map_set];rfl)) (FW _)]
   rfl
  have none_:lX cn ns h.bx r=none->gj (t2 (Xz true) (aj 10) (fC .non)) (aZ 4 (aN dm [] (aa (aj 4) (aa (f2 aq (aj 10) (fC (.int 0))) (aa (f2 aq (aj 10) (fC (.int 1))) aA))))) bJ (mk (.tup (S.cs.map .int)) (.tup (h.q.map qD)) bx)
   =some (.nx (mk (.tup (S.cs.map .int)) (.tup (h.q.map qD)) bx)):=by
   intro ho
   have mk':mk=λ(cs:D) (q:D) (bx:List Int)=>[some (.val (p.pr C) false),some (.val S.d false),some (.val (.int i) false),some (.val (.bl w) false),some (.val cs true),some (.val h.d true),some (.val q true),some (.val r.d true),
    some (.jx (ns.map .inr) (bx.map .int) true),some (.val (.int (((h.at_+1+over ns h.bx r:Nat):Int))) true),some (.val .non true)]:=by
    simp only[mk,ho,putD]
   rw[mk',cP rfl]
   rfl
  cases r with
  |put c v=>
   cases w with
   |true=>
    rw[gb (by rw[k1];simp[Rw.word])]
    refine(aM (d:= .tup ((h.q++[(ix cn c,jN ns h.bx v)]).map qD)) (aC rfl (bT (aO rfl) (by simp)) ?_) (By _)).trans rfl
    show aW (.tup (h.q.map qD)) (.tup [qD (ix cn c,jN ns h.bx v)])=_
    simp only[aW]
    rw[if_pos (by rw[sizeLine_eq];simp;omega)]
    simp
   |false=>
    rw[cP (by rw[k1];simp[Rw.word])]
    exact a0T c _ rfl rfl
  |swap b c v=>rw[cP (by rw[k1];simp[Rw.word,bW])];exact a0T c _ rfl rfl
  |get b c=>rw[cP (by rw[k1];simp[Rw.word,bW])];exact none_ rfl
  |add b v u=>rw[cP (by rw[k1];simp[Rw.word,bW])];exact none_ rfl
  |skip b n=>rw[cP (by rw[k1];simp[Rw.word,bW])];exact none_ rfl
  |fence=>rw[cP (by rw[k1];simp[Rw.word,bW])];exact none_ rfl
 have eR:∃ρ,p7 C (aH 11 [p.pr C,S.d,.int i,.bl w])=some (.rt (nj.d ⟨(bH cn ns w r S.cs h).1,S.cQ.set i (bH cn ns w r S.cs h).2⟩) .new ρ):=by
  refine⟨mk (.tup ((bH cn ns w r S.cs h).1.map .int)) (.tup ((bH cn ns w r S.cs h).2.q.map qD)) (rN cn ns S.cs h.q h.bx r),?_⟩
  rw[e0,aD eA,aD (eB _)]
  refine bM ?_ (eV _)
  have hN:(bH cn ns w r S.cs h).2=⟨h.at_+1+over ns h.bx r,rN cn ns S.cs h.q h.bx r,(bH cn ns w r S.cs h).2.q⟩:=by
   rw[<-Cu (cn:=cn) (w:=w) (cs:=S.cs),<-vH (w:=w)]
  have hS':nj.d ⟨(bH cn ns w r S.cs h).1,S.cQ.set i (bH cn ns w r S.cs h).2⟩= .tup [.tup ((bH cn ns w r S.cs h).1.map .int),.tup ((S.cQ.map Th.d).set i (Th.d ⟨h.at_+1+over ns h.bx r,rN cn ns S.cs h.q h.bx r,(bH cn ns w r S.cs h).2.q⟩))]:=by
   rw[<-hN]
   simp only[nj.d,List.map_set]
  rw[hS']
  refine bT (bG rfl (aO (aU (bG (aC rfl rfl (z:= .tup (S.cQ.map Th.d)) rfl) (bG rfl (aO (bT (bG rfl (bG (x:= .tup ((rN cn ns S.cs h.q h.bx r).map .int)) rfl (aO rfl))) (by simp)))))
   (pI (S.cQ.map Th.d) i _ (by simpa using hi) (by simp;omega) (bh gC) (gC ⟨h.at_+1+over ns h.bx r,rN cn ns S.cs h.q h.bx r,(bH cn ns w r S.cs h).2.q⟩)) rfl))) (by simp)
 obtain⟨ρ,eR⟩:=eR
 simp only[o9,List.length_cons,List.length_nil,if_true,eR,cI]
end K
theorem Iz:∀{ts:List (List Rw)}{hs:List Th}{i:Nat}{c:Int},c∈jQ i ts hs->∃j t h,ts[j]?=some t/\hs[j]?=some h/\((c=2*((i+j:Nat):Int)/\iW t h=true)\/(c=2*((i+j:Nat):Int)+1/\h.q≠[]))
 |[],_,_,_,h=>by simp[jQ]at h
 |_::_,[],_,_,h=>by simp[jQ]at h
 |t::ts,h::hs,i,c,hc=>by
  simp only[jQ,List.mem_append]at hc
  rcases hc with(hc|hc)|hc
  ·split at hc
   ·rename_i h1
    exact⟨0,t,h,rfl,rfl,.inl ⟨by simpa using hc,h1⟩⟩
   ·simp at hc
  ·split at hc
   ·simp at hc
   ·rename_i h1
    exact⟨0,t,h,rfl,rfl,.inr ⟨by simpa using hc,by simpa using h1⟩⟩
  ·obtain⟨j,t',h',a,b,d⟩:=Iz hc
   refine⟨j+1,t',h',by simpa using a,by simpa using b,?_⟩
   rw[show i+(j+1)=i+1+j by omega]
   exact d
noncomputable def jU (h:Th):Th:=⟨h.at_,h.bx,h.q.tail⟩
noncomputable def jJ (p:Pl)(w:Bool)(S:nj)(c:Int):nj:=
 let i:=(c/2).toNat
 match p.cQ[i]?,S.cQ[i]? with
 |some t,some h=>if c % 2=1 then(match h.q with
  |[]=>S
  |x::_=>⟨S.cs.set x.1 x.2,S.cQ.set i (jU h)⟩)
  else(match t[h.at_]? with
   |some r=>⟨(bH (p.cells.map (·.1)) (pR t) w r S.cs h).1,S.cQ.set i (bH (p.cells.map (·.1)) (pR t) w r S.cs h).2⟩
   |none=>S)
 |_,_=>S
structure qi (p:Pl)(w:Bool)(k:Nat)(S:nj):Prop where
 nt:S.cQ.length=p.cQ.length
 nc:S.cs.length=p.cells.length
 th:∀(i:Nat) (t:List Rw) (h:Th),p.cQ[i]?=some t->S.cQ[i]?=some h->(pR t).length=h.bx.length/\h.q.length<=k/\(∀x∈h.q,x.1<p.cells.length)/\(w=false->h.q=[])
theorem Cy {p:Pl}{w:Bool}{S:nj}{i:Nat}{t:List Rw}{h:Th}{r:Rw}(ht:p.cQ[i]?=some t)(hh:S.cQ[i]?=some h)(hr:t[h.at_]?=some r):
 jJ p w S (2*(i:Int))=⟨(bH (p.cells.map (·.1)) (pR t) w r S.cs h).1,S.cQ.set i (bH (p.cells.map (·.1)) (pR t) w r S.cs h).2⟩:=by
 have e:(2*(i:Int)/2).toNat=i:=by omega
 have e2:¬(2*(i:Int)) % 2=1:=by omega
 unfold jJ
 simp only[e,ht,hh,e2,if_false,hr]
theorem Cw {p:Pl}{w:Bool}{S:nj}{i:Nat}{t:List Rw}{h:Th}{x:Nat×Int}{q:List (Nat×Int)}(ht:p.cQ[i]?=some t)(hh:S.cQ[i]?=some h)(hq:h.q=x::q):
 jJ p w S (2*(i:Int)+1)=⟨S.cs.set x.1 x.2,S.cQ.set i (jU h)⟩:=by
 have e:((2*(i:Int)+1)/2).toNat=i:=by omega
 have e2:(2*(i:Int)+1) % 2=1:=by omega
 unfold jJ
 simp only[e,ht,hh,e2,if_true,hq]
theorem yL {p:Pl}{w:Bool}{k:Nat}{S:nj}{c:Int}(hS:qi p w k S)(hc:c∈jQ 0 p.cQ S.cQ):∃(i:Nat) (t:List Rw) (h:Th),p.cQ[i]?=some t/\S.cQ[i]?=some h/\
 ((c=2*(i:Int)/\∃r,t[h.at_]?=some r/\(h.q=[]\/r.stops=false))\/(c=2*(i:Int)+1/\∃x q,h.q=x::q)):=by
 obtain⟨j,t,h,a,b,d⟩:=Iz hc
 refine⟨j,t,h,a,b,?_⟩
 rw[Nat.zero_add]at d
 rcases d with⟨d,e⟩|⟨d,e⟩
 ·refine .inl ⟨d,?_⟩
  unfold iW at e
  split at e
  ·cases e
  ·rename_i r hr
   refine⟨r,hr,?_⟩
   simpa using e
 ·refine .inr ⟨d,?_⟩
  cases hq:h.q with
  |nil=>exact absurd hq e
  |cons x q=>exact⟨x,q,rfl⟩
theorem Ot (cn ns:List Str)(cs:List Int)(q:List (Nat×Int))(bx:List Int)(r:Rw):(rN cn ns cs q bx r).length=bx.length:=by cases r<;>simp[rN]
theorem Cv (cn ns:List Str)(w:Bool)(r:Rw)(cs:List Int)(h:Th):(bH cn ns w r cs h).1.length=cs.length:=by
 cases r<;>simp only[bH,lX]<;>(try split)<;>simp
theorem uF {cn ns:List Str}{w:Bool}{r:Rw}{cs:List Int}{h:Th}:(bH cn ns w r cs h).2.q=h.q\/(w=true/\∃c v,r= .put c v/\(bH cn ns w r cs h).2.q=h.q++[(ix cn c,jN ns h.bx v)]):=by
 cases r<;>simp only[bH,lX]
 case put c v=>
  cases w with
  |true=>exact .inr ⟨rfl,c,v,rfl,rfl⟩
  |false=>exact .inl rfl
 all_goals exact .inl trivial
theorem qi.next {p:Pl}(hp:oK p){w:Bool}{k:Nat}{S:nj}{c:Int}(hS:qi p w k S)(hc:c∈jQ 0 p.cQ S.cQ):qi p w (k+1) (jJ p w S c):=by
 obtain⟨i,t,h,ht,hh,d⟩:=yL hS hc
 obtain⟨a1,a2,a3,a4⟩:=hS.th i t h ht hh
 have hi:i<S.cQ.length:=(List.getElem?_eq_some_iff.mp hh).1
 have gen:∀(cs:List Int) (h':Th),cs.length=S.cs.length->h'.bx.length=h.bx.length->h'.q.length<=k+1->(∀x∈h'.q,x.1<p.cells.length)->(w=false->h'.q=[])->qi p w (k+1) ⟨cs,S.cQ.set i h'⟩:=by
  intro cs h' b1 b2 b3 b4 b5
  refine⟨by simp[hS.nt],by rw[<-hS.nc];exact b1,λj t' h'' e1 e2=>?_⟩
  by_cases hj:i=j
  ·subst hj
   rw[List.getElem?_set_self hi]at e2
   cases e2
   rw[ht]at e1
   cases e1
   exact⟨by rw[b2];exact a1,b3,b4,b5⟩
  ·rw[List.getElem?_set_ne hj]at e2
   obtain⟨c1,c2,c3,c4⟩:=hS.th j t' h'' e1 e2
   exact⟨c1,by omega,c3,c4⟩
 rcases d with⟨rfl,r,hr,_⟩|⟨rfl,x,q,hq⟩
 ·rw[Cy ht hh hr]
  refine gen _ _ (Cv ..) (by rw[vH,Ot]) ?_ ?_ ?_
  ·rcases uF (cn:=p.cells.map (·.1)) (ns:=pR t) (w:=w) (r:=r) (cs:=S.cs) (h:=h)with e|⟨_,c,v,rfl,e⟩<;>rw[e]
   ·omega
   ·simp;omega
  ·rcases uF (cn:=p.cells.map (·.1)) (ns:=pR t) (w:=w) (r:=r) (cs:=S.cs) (h:=h)with e|⟨_,c,v,rfl,e⟩<;>rw[e]
   ·exact a3
   ·intro x hx
    rcases List.mem_append.mp hx with hx|hx
    ·exact a3 x hx
    ·rw[List.mem_singleton.mp hx]
     have:=(uW (hp.WN t (List.mem_of_getElem? ht) (.put c v) (List.mem_of_getElem? hr) c rfl)).2
     simpa using this
  ·intro hw
   rcases uF (cn:=p.cells.map (·.1)) (ns:=pR t) (w:=w) (r:=r) (cs:=S.cs) (h:=h)with e|⟨z,_⟩
   ·rw[e];exact a4 hw
   ·rw[hw]at z;cases z
 ·rw[Cw ht hh hq]
  refine gen _ _ (by simp) rfl (by simp[jU];omega) (λy hy=>a3 y (List.mem_of_mem_tail hy)) (λhw=>by have:=a4 hw;simp[jU,this])
theorem qi.first (p:Pl)(w:Bool):qi p w 0 p.first:=by
 refine⟨by simp[Pl.first],by simp[Pl.first],λi t h ht hh=>?_⟩
 simp only[Pl.first,List.getElem?_map,ht,Option.map_some,Option.some.injEq]at hh
 subst hh
 simp
namespace K
theorem Mg (S:nj)(i:Nat)(h:Th)(x:Nat×Int)(q:List (Nat×Int))(hh:S.cQ[i]?=some h)(hq:h.q=x::q)(hx:x.1<S.cs.length)(hc:S.cs.length<900)(hS:S.cQ.length<900):
 o7 [S.d,.int i]=some (nj.d ⟨S.cs.set x.1 x.2,S.cQ.set i (jU h)⟩,.new):=by
 have hi:i<S.cQ.length:=(List.getElem?_eq_some_iff.mp hh).1
 have od:(jU h).d= .tup [.int h.at_,.tup (h.bx.map .int),.tup (q.map qD)]:=by simp only[jU,Th.d,hq,List.tail_cons]
 have hd:h.d= .tup [.int h.at_,.tup (h.bx.map .int),.tup (qD x::q.map qD)]:=by simp only[Th.d,hq,List.map_cons]
 have e:∃ρ,sJ (aH 5 [S.d,.int i])=some (.rt (nj.d ⟨S.cs.set x.1 x.2,S.cQ.set i (jU h)⟩) .new ρ):=by
  refine⟨[some (.val S.d false),some (.val (.int i) false),some (.val h.d true),some (.val (qD x) true),some (.val (jU h).d true)],?_⟩
  unfold sJ
  have s2:aq h.d (.int 2)=some (.tup (qD x::q.map qD)):=by rw[hd];rfl
  rw[aD (aM (d:=h.d) (aC (aC rfl rfl (z:= .tup (S.cQ.map Th.d)) rfl) rfl (jH hh)) (gC h))]
  rw[aD (aM (d:=qD x) (aC (aC rfl rfl s2) rfl (yP _ 0)) rfl)]
  rw[aD (aM (d:=(jU h).d) (by
   rw[od]
   refine bT (bG (aC rfl rfl (z:= .int h.at_) rfl) (bG (aC rfl rfl (z:= .tup (h.bx.map .int)) rfl) (aO (pX (aC rfl rfl s2) (ji rfl) rfl ?_)))) (by simp)
   simp only[Ea]
   rw[show(1:Int)=((1:Nat):Int) by rfl,sX]
   rfl) (gC _))]
  refine(bM ?_ (eV _)).trans rfl
  have hS':nj.d ⟨S.cs.set x.1 x.2,S.cQ.set i (jU h)⟩= .tup [.tup ((S.cs.map .int).set x.1 (.int x.2)),.tup ((S.cQ.map Th.d).set i (jU h).d)]:=by simp only[nj.d,List.map_set]
  rw[hS']
  exact bT (bG (aU (bG (aC rfl rfl (z:= .tup (S.cs.map .int)) rfl) (bG (aC rfl rfl (z:= .int x.1) rfl) (aO (aC rfl rfl (z:= .int x.2) rfl)))) (pI (S.cs.map .int) x.1 (.int x.2) (by simpa using hx) (by simp;omega) (bh λ_=>rfl) rfl) rfl)
   (aO (aU (bG (aC rfl rfl (z:= .tup (S.cQ.map Th.d)) rfl) (bG rfl (aO rfl))) (pI (S.cQ.map Th.d) i (jU h).d (by simpa using hi) (by simp;omega) (bh gC) (gC _)) rfl))) (by simp)
 obtain⟨ρ,e⟩:=e
 simp only[o7,List.length_cons,List.length_nil,if_true,e,cI]
theorem XD (c:Int):eN (.int c) (.int 2)=some (.int (c/2)):=by simp[eN]
theorem mod2 (c:Int):cC (.int c) (.int 2)=some (.int (c % 2)):=by simp[cC]
theorem Pj (a b:Int):cR false (.int a) (.int b)=some (.bl (a==b)):=by simp[cR,vQ,eq_int]
theorem QB (C:Addr)(p:Pl)(hp:oK p)(S:nj)(w:Bool)(k:Nat)(hk:k<900)(hS:qi p w k S)(c:Int)(hc:c∈jQ 0 p.cQ S.cQ):qg C [p.pr C,S.d,.int c,.bl w]=some ((jJ p w S c).d,.new):=by
 obtain⟨i,t,h,ht,hh,d⟩:=yL hS hc
 obtain⟨a1,a2,a3,a4⟩:=hS.th i t h ht hh
 have n1:=hp.nc
 have n2:=hp.nt
 have l1:=hS.nc
 have l2:=hS.nt
 have k1:∀c:Int,t2 (cR false) (f2 cC (aj 2) (fC (.int 2))) (fC (.int 1)) (vis (aH 4 [p.pr C,S.d,.int c,.bl w]))=some (c % 2==1):=λc=>dh (aC rfl rfl (mod2 c)) rfl (Pj _ _)
 have e:vz C (aH 4 [p.pr C,S.d,.int c,.bl w])=some (.rt (jJ p w S c).d .new (aH 4 [p.pr C,S.d,.int c,.bl w])):=by
  unfold vz
  rcases d with⟨rfl,r,hr,_⟩|⟨rfl,x,q,hq⟩
  ·rw[aD (ρ':=aH 4 [p.pr C,S.d,.int (2*(i:Int)),.bl w]) (by rw[cP (by rw[k1];simp)];rfl),Cy ht hh hr]
   refine bM ?_ (eV _)
   refine aU (bG rfl (bG rfl (bG (aC rfl rfl (z:= .int i) (by rw[show eN (L.val (D.int (2*(i:Int))) false).toD (.int 2)=eN (.int (2*(i:Int))) (.int 2) from rfl,XD];congr 2;omega)) (aO rfl)))) (Ml C p hp S i t h r w ht hh hr a1 l1 (by omega) (by omega)) rfl
  ·refine mJ ?_
   rw[gb (by rw[k1];simp),Cw ht hh hq]
   refine bM ?_ (eV _)
   refine aU (bG rfl (aO (aC rfl rfl (z:= .int i) (by rw[show eN (L.val (D.int (2*(i:Int)+1)) false).toD (.int 2)=eN (.int (2*(i:Int)+1)) (.int 2) from rfl,XD];congr 2;omega)))) (Mg S i h x q hh hq (by rw[l1];exact a3 x (by rw[hq];simp)) (by omega) (by omega)) rfl
 simp only[qg,List.length_cons,List.length_nil,if_true,e,cI]
theorem v_after (C:Addr)(p:Pl)(hp:oK p)(S:nj)(w:Bool)(k:Nat)(hk:k<900)(hS:qi p w k S)(c:Int)(hc:c∈jQ 0 p.cQ S.cQ):qL C [p.pr C,S.d,.int c,.bl w]=some ((jJ p w S c).d,.new):=by
 have e:Bg C (aH 4 [p.pr C,S.d,.int c,.bl w])=some (.rt (jJ p w S c).d .new (aH 4 [p.pr C,S.d,.int c,.bl w])):=by
  unfold Bg
  have e1:aN iH [] (aa (aj 2) (aa (aN (Ex C) [] (aa (aj 0) (aa (aj 1) (aa (aj 3) aA)))) aA)) (vis (aH 4 [p.pr C,S.d,.int c,.bl w]))=some .non:=
   aU (bG rfl (aO (aU (bG rfl (bG rfl (aO rfl))) (a1g C p hp S hS.nt w) rfl))) (Et hc) rfl
  rw[aD (ρ':=aH 4 [p.pr C,S.d,.int c,.bl w]) (by unfold MP;rw[e1];rfl)]
  exact bM (aU (bG rfl (bG rfl (bG rfl (aO rfl)))) (QB C p hp S w k hk hS c hc) (by simp[rQ])) (eV _)
 simp only[qL,List.length_cons,List.length_nil,if_true,e,cI]
theorem Kd (C:Addr)(p:Pl)(hp:oK p)(S:nj)(w b:Bool)(k:Nat)(hk:k<900)(hS:qi p w k S)(c:Int)(hc:c∈jQ 0 p.cQ S.cQ):fO C [p.pr C,S.d,.int c,.bl w,.bl b]=some ((jJ p w S c).d,.new):=by
 have va:=v_after C p hp S w k hk hS c hc
 have e:oA C (aH 5 [p.pr C,S.d,.int c,.bl w,.bl b])=some (.rt (jJ p w S c).d .new (aH 5 [p.pr C,S.d,.int c,.bl w,.bl b])):=by
  unfold oA
  have k1:lR (tV (aj 3)) (tV (aj 4)) (vis (aH 5 [p.pr C,S.d,.int c,.bl w,.bl b]))=some (w&&b):=lN rfl λ_=>rfl
  cases hwb:(w&&b)with
  |true=>
   rw[hwb]at k1
   have hw:w=true:=(Bool.and_eq_true_iff.mp hwb).1
   subst hw
   refine mJ ?_
   rw[gb k1]
   exact bM (aU (bG rfl (bG rfl (aO rfl))) va rfl) (eV _)
  |false=>
   rw[hwb]at k1
   rw[aD (ρ':=aH 5 [p.pr C,S.d,.int c,.bl w,.bl b]) (by rw[cP k1];rfl)]
   exact bM (aU (bG rfl (bG rfl (bG rfl (aO rfl)))) va rfl) (eV _)
 simp only[fO,List.length_cons,List.length_nil,if_true,e,cI]
end K
noncomputable def jL (ns:List Str)(bx:List Int):D->D
 | .str x=>if x∈ns then .int (bx.getD (ix ns x) 0)else .str x
 |d=>d
noncomputable def Rw.parts:Rw->List D
 | .put c v=>[.str c,v.d]
 | .get b c=>[.str b,.str c]
 | .swap b c v=>[.str b,.str c,v.d]
 | .add b v u=>[.str b,v.d,u.d]
 | .skip b n=>[.str b,.int n]
 | .fence=>[]
theorem qz (r:Rw):r.d= .tup (.str r.word::r.parts):=by cases r<;>rfl
theorem Ba {ns:List Str}{bx:List Int}{v:Va}(h:∀x∈v.bx,x∈ns):jL ns bx v.d= .int (jN ns bx v):=by
 cases v with
 |no i=>rfl
 |nm x=>simp only[Va.d,jL,if_pos (h x (by simp[Va.bx])),jN]
theorem VH {ns:List Str}{bx:List Int}{x:Str}(h:x∈ns):jL ns bx (.str x)= .int (jN ns bx (.nm x)):=by simp only[jL,if_pos h,jN]
theorem GX {i:Int}{acc:List Str}(h:∀x∈acc,PyData.strOk x=true):lU false (.int i) (.lst (acc.map .str))=some (.bl false):=by
 have e:((acc.map D.str).any λy=>sr y (.int i))=false:=by
  clear h
  induction acc with
  |nil=>rfl
  |cons a acc ih=>simp only[List.map_cons,List.any_cons,ih,eq_str_int,Bool.or_self]
 unfold lU
 simp only[nD,Option.bind_some,vQ,Be h,Bool.and_self,if_true,e]
 rfl
theorem a06 {ρ:aK}:Hi (fC (.int 1)) ρ=some (.int (-1)):=rfl
theorem tO {j:Nat}{Fi Fv:FD}{ρ:bw}{l:List D}{fr:Bool}{tg:Option Nat}{d:D}{k:Nat}(hj:ρ[j]?=some (some (.own l fr tg)))(hv:Fv (vis ρ)=some d)(hf:flat d=true)(hi:Fi (vis ρ)=some (.int k))(hk:k<l.length):
 lV j Fi Fv ρ=some (.nx (ρ.set j (some (.own (l.set k d) fr tg)))):=by
 unfold lV
 rw[hj]
 have:Jo l.length (.int k)=some k:=by simp[Jo,Ld,hk]
 simp only[hv,Option.bind_some,hf,if_true,hi,this,Option.map_some]
theorem Pk (ns:List Str)(bx:List Int)(r:Rw):flat.flats (r.parts.map (jL ns bx))=true:=by
 refine G3 λd hd=>?_
 obtain⟨a,ha,rfl⟩:=List.mem_map.mp hd
 have:∀v:Va,flat (jL ns bx v.d)=true:=λv=>by cases v<;>simp only[Va.d,jL]<;>(try split)<;>rfl
 have hs:∀x:Str,flat (jL ns bx (.str x))=true:=λx=>this (.nm x)
 cases r<;>simp only[Rw.parts,List.mem_cons,List.not_mem_nil,or_false]at ha<;>(try rcases ha with rfl|rfl|rfl)<;>(try rcases ha with rfl|rfl)<;>first|exact this _|exact hs _|rfl|cases ha
theorem Ca {l:List Str}{x:Str}(hx:x∈l)(hs:∀y∈l,PyData.strOk y=true):jg (.lst (l.map .str)) [.str x]=some (.int (ix l x)):=by
 simp only[jg,Gs (hs x hx) hs,if_true,Jm,(uW hx).1,Option.map_some]
namespace K
noncomputable def kO:GS:=(aL (gj (t2 (cR false) (f2 aq (aj 5) (fC (.int 0))) (fC (.str "put"))) (aZ 9 (f2 aW (aj 9) (bL (aa (bL (aa (uQ "list" jg (aj 7) (aa (f2 aq (aj 5) (fC (.int 1))) aA)) (aa (f2 aq (aj 8) (fC (.int 1))) aA))) aA)))) bJ) (aL (gj (t2 (lU false) (f2 aq (aj 5) (fC (.int 0))) (bL (aa (fC (.str "get")) (aa (fC (.str "swap")) aA)))) (aL (aZ 10 (uQ "list" jg (aj 7) (aa (f2 aq (aj 5) (fC (.int 2))) aA))) (aL (aZ 11 (f2 aq (f2 aW (fG (aa (f2 aq (aj 2) (aj 10)) aA)) (fZ (dM [none,some 10] (fH (aj 9)) (bC 0) (t2 (cR false) (f2 aq (aj 0) (fC (.int 0))) (aj 1)) (f2 aq (aj 0) (fC (.int 1)))))) (Hi (fC (.int 1))))) (aL (gj (t2 (cR false) (f2 aq (aj 5) (fC (.int 0))) (fC (.str "swap"))) (lV 2 (aj 10) (f2 aq (aj 8) (fC (.int 2)))) bJ) (lV 3 (uQ "list" jg (aj 6) (aa (f2 aq (aj 5) (fC (.int 1))) aA)) (aj 11))))) bJ) (aL (gj (t2 (cR false) (f2 aq (aj 5) (fC (.int 0))) (fC (.str "add"))) (aL (aZ 12 (f2 aW (f2 aq (aj 8) (fC (.int 1))) (f2 aq (aj 8) (fC (.int 2))))) (lV 3 (uQ "list" jg (aj 6) (aa (f2 aq (aj 5) (fC (.int 1))) aA)) (f2 pU (aj 12) (f2 (jb cW bN) (fC (.int 100)) (fB (kW oN kE) (aa (f2 (lO λi j=>decide (j<i)) (aj 12) (fC (.int 99))) aA)))))) bJ) (aL (aZ 13 (Ao (lR (t2 (cR false) (f2 aq (aj 5) (fC (.int 0))) (fC (.str "skip"))) (t2 (cR false) (f2 aq (aj 8) (fC (.int 0))) (fC (.int 0)))) (f2 aq (aj 5) (fC (.int 2))) (fC (.int 0)))) (dg (bL (aa (f2 aW (f2 aW (f2 aq (aj 4) (fC (.int 0))) (fC (.int 1))) (aj 13)) (aa (aj 9) aA))))))))
theorem Ww (p:Pl)(hp:oK p)(cs:List Int)(i:Nat)(t:List Rw)(h:Th)(r:Rw)(ht:p.cQ[i]?=some t)(hr:t[h.at_]?=some r)
 (hb:(pR t).length=h.bx.length)(hc:cs.length=p.cells.length)(hq:h.q.length<900):
 je [p.d,.int i,.lst (cs.map .int),.lst (h.bx.map .int),h.d]=some (.tup [.int (bH (p.cells.map (·.1)) (pR t) true r cs h).2.at_,.tup ((bH (p.cells.map (·.1)) (pR t) true r cs h).2.q.map qD)],
  [(bH (p.cells.map (·.1)) (pR t) true r cs h).1.map .int,(bH (p.cells.map (·.1)) (pR t) true r cs h).2.bx.map .int]):=by
 have X4:t∈p.cQ:=List.mem_of_getElem? ht
 have hrm:r∈t:=List.mem_of_getElem? hr
 have hnm:∀x∈r.bx,x∈pR t:=λx hx=>Ng hrm hx
 have hcm:∀c,r.cell=some c->c∈p.cells.map (·.1):=hp.WN t X4 r hrm
 have hct:∀c,r.cell=some c->ix (p.cells.map (·.1)) c<cs.length:=λc e=>by
  have:=(uW (hcm c e)).2
  rw[List.length_map]at this
  omega
 have ons:∀y∈pR t,PyData.strOk y=true:=BJ (by simp) λy hy=>by
  obtain⟨r',h1,h2⟩:=List.mem_flatMap.mp hy
  exact hp.row t X4 r' h1 y h2
 have ocn:∀y∈p.cells.map (·.1),PyData.strOk y=true:=λy hy=>by
  obtain⟨a,ha,rfl⟩:=List.mem_map.mp hy
  exact hp.okc a ha
 have X8:Gf r:=hp.row t X4 r hrm
 have n1:=hp.nc
 have vb:=Oc t (hp.row t X4) (by have:=hp.nr t X4;omega)
 generalize hns:pR t=ns at*
 generalize hcn:p.cells.map (·.1)=cn at*
 have oc:∀c,r.cell=some c->PyData.strOk c=true:=λc e=>ocn c (hcm c e)
 let vs:=r.parts.map (jL ns h.bx)
 let mk (cs:List Int) (bx:List Int) (q:D) (a b c d:Option L):bw:=[some (.val p.d true),some (.val (.int i) true),some (.own (cs.map .int) true (some 0)),some (.own (bx.map .int) true (some 1)),some (.val h.d true),some (.val r.d true),some (.val (.lst (ns.map .str)) true),
  some (.own (cn.map .str) true none),some (.own vs true none),some (.val q true),a,b,c,d]
 have e1:gf (bC 0) tT (f2 aq (aj 0) (fC (.int 0))) [none] (p.cells.map cD)=some (cn.map .str):=by
  have:=comp_map (T:=bC 0) (Tt:=tT) (Fe:=f2 aq (aj 0) (fC (.int 0))) (ρ:=[none]) (f:=cD) (g:=λc=> .str c.1) (λc=>[some (cD c)]) p.cells λc _=>⟨rfl,rfl,rfl⟩
  rw[this,<-hcn,List.map_map]
  rfl
 have part:∀d∈r.parts,(∃x,d= .str x/\PyData.strOk x=true)\/∃j,d= .int j:=by
  have va:∀v:Va,(∀x∈v.bx,PyData.strOk x=true)->(∃x,v.d= .str x/\PyData.strOk x=true)\/∃j,v.d= .int j:=λv hv=>by
   cases v with
   |nm x=>exact .inl ⟨x,rfl,hv x (by simp[Va.bx])⟩
   |no j=>exact .inr ⟨j,rfl⟩
  have st:∀x:Str,PyData.strOk x=true->(∃y,D.str x= .str y/\PyData.strOk y=true)\/∃j,D.str x= .int j:=λx hx=> .inl ⟨x,rfl,hx⟩
  intro d hd
  cases r<;>simp only[Rw.parts,List.mem_cons,List.not_mem_nil,or_false]at hd
  case put c v=>
   rcases hd with rfl|rfl
   ·exact st c (oc c rfl)
   ·exact va v λx hx=>X8 x hx
  case get b c=>
   rcases hd with rfl|rfl
   ·exact st b (X8 b (by simp[Rw.bx]))
   ·exact st c (oc c rfl)
  case swap b c v=>
   rcases hd with rfl|rfl|rfl
   ·exact st b (X8 b (by simp[Rw.bx]))
   ·exact st c (oc c rfl)
   ·exact va v λx hx=>X8 x (by simp[Rw.bx,hx])
  case add b v u=>
   rcases hd with rfl|rfl|rfl
   ·exact st b (X8 b (by simp[Rw.bx]))
   ·exact va v λx hx=>X8 x (by simp[Rw.bx,hx])
   ·exact va u λx hx=>X8 x (by simp[Rw.bx,hx])
  case skip b n=>
   rcases hd with rfl|rfl
   ·exact st b (X8 b (by simp[Rw.bx]))
   ·exact .inr ⟨n,rfl⟩
 have e2:gf (bC 0) tT (Ao (t2 (lU false) (aj 0) (aj 1)) (f2 aq (aj 2) (uQ "list" jg (aj 1) (aa (aj 0) aA))) (aj 0)) [none,some (.lst (ns.map .str)),some (.lst (h.bx.map .int))] r.parts=some vs:=by
  have:=comp_map (T:=bC 0) (Tt:=tT) (Fe:=Ao (t2 (lU false) (aj 0) (aj 1)) (f2 aq (aj 2) (uQ "list" jg (aj 1) (aa (aj 0) aA))) (aj 0)) (ρ:=[none,some (.lst (ns.map .str)),some (.lst (h.bx.map .int))]) (f:=id) (g:=jL ns h.bx) (λd=>[some d,some (.lst (ns.map .str)),some (.lst (h.bx.map .int))]) r.parts λd hd=>⟨rfl,rfl,by
   rcases part d hd with⟨x,rfl,hx⟩|⟨j,rfl⟩
   ·refine lE (dh rfl rfl (Bp hx ons false)) (λz=>?_) (λz=>?_)
    ·have hm:x∈ns:=by simpa using z
     simp only[jL,if_pos hm]
     refine aC rfl (pW rfl rfl (aO rfl) (Ca hm ons)) ?_
     rw[uB,List.getElem?_map,List.getElem?_eq_getElem (by rw[<-hb];exact(uW hm).2)]
     simp[List.getD_eq_getElem?_getD,List.getElem?_eq_getElem (show ix ns x<h.bx.length by rw[<-hb];exact(uW hm).2)]
    ·have hm:¬x∈ns:=by simpa using z
     simp only[jL,if_neg hm]
     rfl
   ·exact lE (dh rfl rfl (GX ons)) (λz=>by cases z) λ_=>rfl⟩
  simpa using this
 have row:∀ρ:aK,at? ρ 0=some p.d->at? ρ 1=some (.int i)->f2 aq (f2 aq (aj 0) (fC (.int 1))) (aj 1) ρ=some (mF t):=λρ h0 h1=>aC (aC h0 rfl (z:=p.qJ) rfl) h1 (jH ht)
 have s0:mU [2,3] 14 [p.d,.int i,.lst (cs.map .int),.lst (h.bx.map .int),h.d]=[some (.val p.d true),some (.val (.int i) true),some (.own (cs.map .int) true (some 0)),some (.own (h.bx.map .int) true (some 1)),some (.val h.d true),none,none,none,none,none,none,none,none,none]:=rfl
 have nbx:∀x,x∈ns->ix ns x<h.bx.length:=λx hx=>by rw[<-hb];exact(uW hx).2
 have pre:qO (mU [2,3] 14 [p.d,.int i,.lst (cs.map .int),.lst (h.bx.map .int),h.d])=kO (mk cs h.bx (.tup (h.q.map qD)) none none none none):=by
  rw[s0]
  unfold qO
  rw[aD (aM (d:=r.d) (aC (row _ rfl rfl) (aC rfl rfl (z:= .int h.at_) rfl) (jH hr)) (eX r))]
  rw[aD (pC (d:= .lst (ns.map .str)) (aU (aO (row _ rfl rfl)) vb rfl) (aU (aO (row _ (by simp[vals,pick,at?]) (by simp[vals,pick,at?]))) vb rfl))]
  rw[aD (fc (l:=cn.map .str) (j5 (jT (aC rfl rfl (z:=p.iY) rfl)) (by simp;omega) e1) (bh λ_=>rfl))]
  rw[aD (fc (l:=vs) (j5 (r:=(r.parts,[.tup r.parts])) (jT (pX (d:=r.d) rfl (ji rfl) rfl (by
   rw[qz]
   simp only[Ea]
   rw[show(1:Int)=((1:Nat):Int) by rfl,sX]
   rfl))) (by cases r<;>simp[Rw.parts]) e2) (Pk ns h.bx r))]
  rw[aD (aM (d:= .tup (h.q.map qD)) (aC rfl rfl rfl) (By _))]
  rfl
 have k1:∀ρ:aK,at? ρ 5=some r.d->t2 (cR false) (f2 aq (aj 5) (fC (.int 0))) (fC (.str "put")) ρ=some (r.word=="put"):=λρ h5=>dh (aC h5 rfl (gW r)) rfl (WW r _ Hz)
 have k2:∀ρ:aK,at? ρ 5=some r.d->t2 (lU false) (f2 aq (aj 5) (fC (.int 0))) (bL (aa (fC (.str "get")) (aa (fC (.str "swap")) aA))) ρ=some (r.word=="get"||r.word=="swap"):=λρ h5=>dh (aC h5 rfl (gW r)) (bT (bG rfl (aO rfl)) (by simp)) (BR r)
 have k3:∀ρ:aK,at? ρ 5=some r.d->t2 (cR false) (f2 aq (aj 5) (fC (.int 0))) (fC (.str "add")) ρ=some (r.word=="add"):=λρ h5=>dh (aC h5 rfl (gW r)) rfl (WW r _ S7)
 have k4:∀ρ:aK,at? ρ 5=some r.d->t2 (cR false) (f2 aq (aj 5) (fC (.int 0))) (fC (.str "skip")) ρ=some (r.word=="skip"):=λρ h5=>dh (aC h5 rfl (gW r)) rfl (WW r _ Nj)
 have k5:∀ρ:aK,at? ρ 5=some r.d->t2 (cR false) (f2 aq (aj 5) (fC (.int 0))) (fC (.str "swap")) ρ=some (r.word=="swap"):=λρ h5=>dh (aC h5 rfl (gW r)) rfl (WW r _ Ay)
 have fin:∀(cs' GQ:List Int) (q':List (Nat×Int)) (a b c:Option L),∃ρ,aL (aZ 13 (Ao (lR (t2 (cR false) (f2 aq (aj 5) (fC (.int 0))) (fC (.str "skip"))) (t2 (cR false) (f2 aq (aj 8) (fC (.int 0))) (fC (.int 0)))) (f2 aq (aj 5) (fC (.int 2))) (fC (.int 0)))) (dg (bL (aa (f2 aW (f2 aW (f2 aq (aj 4) (fC (.int 0))) (fC (.int 1))) (aj 13)) (aa (aj 9) aA)))) (mk cs' GQ (.tup (q'.map qD)) a b c none)
  =some (.rt (.tup [.int ((h.at_+1+over ns h.bx r:Nat):Int),.tup (q'.map qD)]) .new ρ)/\pD [2,3] 0 ρ=some [cs'.map .int,GQ.map .int]:=by
  intro cs' GQ q' a b c
  refine⟨mk cs' GQ (.tup (q'.map qD)) a b c (some (.val (.int (over ns h.bx r)) true)),?_,?_⟩
  ·have ov:Ao (lR (t2 (cR false) (f2 aq (aj 5) (fC (.int 0))) (fC (.str "skip"))) (t2 (cR false) (f2 aq (aj 8) (fC (.int 0))) (fC (.int 0)))) (f2 aq (aj 5) (fC (.int 2))) (fC (.int 0)) (vis (mk cs' GQ (.tup (q'.map qD)) a b c none))=some (.int (over ns h.bx r)):=by
    by_cases hs:∃b n,r= .skip b n
    ·obtain⟨b',n,rfl⟩:=hs
     have hv:aq (.lst vs) (.int 0)=some (.int (jN ns h.bx (.nm b'))):=by
      have:vs=[.int (jN ns h.bx (.nm b')),.int n]:=by
       simp only[vs,Rw.parts,List.map_cons,List.map_nil,VH (hnm b' (by simp[Rw.bx]))]
       rfl
      rw[this];rfl
     refine lE (lN (k4 _ rfl) λ_=>dh (aC rfl rfl hv) rfl (Pj _ _)) (λz=>?_) (λz=>?_)
     ·have z':jN ns h.bx (.nm b')=0:=by simp[Rw.word]at z;exact z
      simp only[over,z',if_true]
      exact aC rfl rfl rfl
     ·have z':¬jN ns h.bx (.nm b')=0:=by simp[Rw.word]at z;exact z
      simp only[over,z',if_false]
      rfl
    ·have hw:(r.word==("skip":Str))=false:=by cases r<;>first|(exfalso;exact hs ⟨_,_,rfl⟩)|simp[Rw.word,jX]
     have ho:over ns h.bx r=0:=by cases r<;>first|(exfalso;exact hs ⟨_,_,rfl⟩)|rfl
     rw[ho]
     exact lE (x:=false&&false) (lN (by rw[k4 _ rfl,hw]) λz=>by cases z) (λz=>by cases z) λ_=>rfl
   rw[aD (aM ov rfl)]
   refine(bM (d:= .tup [.int ((h.at_+1+over ns h.bx r:Nat):Int),.tup (q'.map qD)]) ?_ (by simp[flat,flat.flats,bh (f:=qD) (λ_=>rfl)])).trans rfl
   exact bT (bG (aC (aC (aC rfl rfl (z:= .int h.at_) rfl) rfl (z:= .int ((h.at_:Int)+1)) rfl) rfl (z:= .int ((h.at_+1+over ns h.bx r:Nat):Int)) (by show aW (.int ((h.at_:Int)+1)) (.int (over ns h.bx r))=_;simp[aW])) (aO rfl)) (by simp)
  ·have f1:flat.flats (cs'.map D.int)=true:=bh λ_=>rfl
   have f2:flat.flats (GQ.map D.int)=true:=bh λ_=>rfl
   simp[mk,pD,f1,f2]
 have main:∃ρ,kO (mk cs h.bx (.tup (h.q.map qD)) none none none none)=some (.rt (.tup [.int (bH cn ns true r cs h).2.at_,.tup ((bH cn ns true r cs h).2.q.map qD)]) .new ρ)/\pD [2,3] 0 ρ=some [(bH cn ns true r cs h).1.map .int,(bH cn ns true r cs h).2.bx.map .int]:=by
  rw[Cu,vH]
  have plain:(r.word=="put")=false->(r.word=="get"||r.word=="swap")=false->(r.word=="add")=false->∀cs' GQ q',∃ρ,kO (mk cs' GQ (.tup (List.map qD q')) none none none none)=some (.rt (.tup [.int ((h.at_+1+over ns h.bx r:Nat):Int),.tup (q'.map qD)]) .new ρ)/\pD [2,3] 0 ρ=some [cs'.map .int,GQ.map .int]:=by
   intro w1 w2 w3 cs' GQ q'
   unfold kO
   rw[aD (ρ':=mk cs' GQ (.tup (q'.map qD)) none none none none) (by rw[cP (by rw[k1 _ rfl,w1])];rfl),aD (ρ':=mk cs' GQ (.tup (q'.map qD)) none none none none) (by rw[cP (by rw[k2 _ rfl,w2])];rfl),aD (ρ':=mk cs' GQ (.tup (q'.map qD)) none none none none) (by rw[cP (by rw[k3 _ rfl,w3])];rfl)]
   exact fin cs' GQ q' none none none
  have gs:∀(b c:Str),(r.word=="put")=false->(r.word=="add")=false->r.cell=some c->b∈ns->aq r.d (.int 1)=some (.str b)->aq r.d (.int 2)=some (.str c)->
   ∀cs',(∀a b':Option L,gj (t2 (cR false) (f2 aq (aj 5) (fC (.int 0))) (fC (.str "swap"))) (lV 2 (aj 10) (f2 aq (aj 8) (fC (.int 2)))) bJ (mk cs h.bx (.tup (h.q.map qD)) (some (.val (.int (ix cn c)) true)) b' none none)=some (.nx (mk cs' h.bx (.tup (h.q.map qD)) (some (.val (.int (ix cn c)) true)) b' none none)))->
   (r.word=="get"||r.word=="swap")=true->
   ∃ρ,kO (mk cs h.bx (.tup (h.q.map qD)) none none none none)=some (.rt (.tup [.int ((h.at_+1+over ns h.bx r:Nat):Int),.tup (h.q.map qD)]) .new ρ)/\pD [2,3] 0 ρ=some [cs'.map .int,(h.bx.set (ix ns b) (seen cs h.q (ix cn c))).map .int]:=by
   intro b c w1 w3 hc' hb' d1 d2 cs' hsw w2
   unfold kO
   rw[aD (ρ':=mk cs h.bx (.tup (h.q.map qD)) none none none none) (by rw[cP (by rw[k1 _ rfl,w1])];rfl)]
   have lt:=hct c hc'
   have g2:gj (t2 (lU false) (f2 aq (aj 5) (fC (.int 0))) (bL (aa (fC (.str "get")) (aa (fC (.str "swap")) aA)))) (aL (aZ 10 (uQ "list" jg (aj 7) (aa (f2 aq (aj 5) (fC (.int 2))) aA))) (aL (aZ 11 (f2 aq (f2 aW (fG (aa (f2 aq (aj 2) (aj 10)) aA)) (fZ (dM [none,some 10] (fH (aj 9)) (bC 0) (t2 (cR false) (f2 aq (aj 0) (fC (.int 0))) (aj 1)) (f2 aq (aj 0) (fC (.int 1)))))) (Hi (fC (.int 1))))) (aL (gj (t2 (cR false) (f2 aq (aj 5) (fC (.int 0))) (fC (.str "swap"))) (lV 2 (aj 10) (f2 aq (aj 8) (fC (.int 2)))) bJ) (lV 3 (uQ "list" jg (aj 6) (aa (f2 aq (aj 5) (fC (.int 1))) aA)) (aj 11))))) bJ (mk cs h.bx (.tup (h.q.map qD)) none none none none)
    =some (.nx (mk cs' (h.bx.set (ix ns b) (seen cs h.q (ix cn c))) (.tup (h.q.map qD)) (some (.val (.int (ix cn c)) true)) (some (.val (.int (seen cs h.q (ix cn c))) true)) none none)):=by
    rw[gb (by rw[k2 _ rfl,w2])]
    rw[aD (aM (d:= .int (ix cn c)) (pW rfl rfl (aO (aC rfl rfl d2)) (Ca (hcm c hc') ocn)) rfl)]
    have e5:gf (bC 0) (t2 (cR false) (f2 aq (aj 0) (fC (.int 0))) (aj 1)) (f2 aq (aj 0) (fC (.int 1))) [none,some (.int (ix cn c))] (h.q.map qD)=some (((h.q.filter λp=>p.1==ix cn c).map (·.2)).map .int):=by
     have:=mV (T:=bC 0) (Tt:=t2 (cR false) (f2 aq (aj 0) (fC (.int 0))) (aj 1)) (Fe:=f2 aq (aj 0) (fC (.int 1))) (ρ:=[none,some (.int (ix cn c))]) (f:=qD) (g:=λp=> .int p.2) (λp=>p.1==ix cn c) (λp=>[some (qD p),some (.int (ix cn c))]) h.q λp _=>⟨rfl,dh (aC rfl rfl (z:= .int p.1) rfl) rfl (by
      rw[Pj]
      congr 2
      by_cases h:p.1=ix cn c
      ·simp[h]
      ·have:¬(p.1:Int)=ix cn c:=by omega
       rw[beq_eq_false_iff_ne.mpr h,beq_eq_false_iff_ne.mpr this]),aC rfl rfl rfl⟩
     rw[this]
     simp
    have e6:f2 aq (f2 aW (fG (aa (f2 aq (aj 2) (aj 10)) aA)) (fZ (dM [none,some 10] (fH (aj 9)) (bC 0) (t2 (cR false) (f2 aq (aj 0) (fC (.int 0))) (aj 1)) (f2 aq (aj 0) (fC (.int 1)))))) (Hi (fC (.int 1))) (vis (mk cs h.bx (.tup (h.q.map qD)) (some (.val (.int (ix cn c)) true)) none none none))=some (.int (seen cs h.q (ix cn c))):=by
     have lst:fG (aa (f2 aq (aj 2) (aj 10)) aA) (vis (mk cs h.bx (.tup (h.q.map qD)) (some (.val (.int (ix cn c)) true)) none none none))=some (.lst [.int cs[ix cn c]]):=by
      show(aa (f2 aq (aj 2) (aj 10)) aA _).bind tW=_
      rw[aO (aC rfl rfl (z:= .int cs[ix cn c]) (by show aq (.lst (cs.map .int)) (.int (ix cn c))=_;rw[uB,List.getElem?_map,List.getElem?_eq_getElem lt];rfl)),Option.bind_some]
      rfl
     have hlen:((h.q.filter λp=>p.1==ix cn c).map (·.2)).length<=900:=by
      have:=List.length_filter_le (λp:Nat×Int=>p.1==ix cn c) h.q
      simp only[List.length_map]
      omega
     refine aC (aC lst (jt (j5 (jT rfl) (by simp;omega) e5)) (z:= .lst ((cs[ix cn c]::((h.q.filter λp=>p.1==ix cn c).map (·.2))).map .int)) ?_) a06 (zB _ _ ?_)
     ·simp only[aW]
      rw[if_pos (by rw[sizeLine_eq];simp only[List.length_cons,List.length_nil,List.length_map]at*;omega)]
      rfl
     ·unfold seen
      rw[List.getLast?_cons]
      simp[List.getElem?_eq_getElem lt]
    refine(aD (aM (i:=11) e6 rfl)).trans ?_
    refine(aD (hsw none (some (.val (.int (seen cs h.q (ix cn c))) true)))).trans ?_
    refine(tO (l:=h.bx.map .int) rfl (d:= .int (seen cs h.q (ix cn c))) rfl rfl (pW rfl rfl (aO (aC rfl rfl d1)) (Ca hb' ons)) (by simpa using nbx b hb')).trans ?_
    rw[<-List.map_set]
    rfl
   rw[aD g2,aD (ρ':=mk cs' (h.bx.set (ix ns b) (seen cs h.q (ix cn c))) (.tup (h.q.map qD)) (some (.val (.int (ix cn c)) true)) (some (.val (.int (seen cs h.q (ix cn c))) true)) none none) (by rw[cP (by rw[k3 _ rfl,w3])];rfl)]
   exact fin _ _ _ _ _ _
  cases r with
  |skip b n=>exact plain (by simp[Rw.word,bW]) (by simp[Rw.word,bW]) (by simp[Rw.word,bW]) _ _ _
  |fence=>exact plain (by simp[Rw.word,bW]) (by simp[Rw.word,bW]) (by simp[Rw.word,bW]) _ _ _
  |get b c=>
   exact gs b c (by simp[Rw.word,bW]) (by simp[Rw.word,bW]) rfl (hnm b (by simp[Rw.bx])) rfl rfl cs (λ_ b'=>by rw[cP (by rw[k5 _ rfl];simp[Rw.word,bW])];rfl) (by simp[Rw.word])
  |swap b c v=>
   refine gs b c (by simp[Rw.word,bW]) (by simp[Rw.word,bW]) rfl (hnm b (by simp[Rw.bx])) rfl rfl (cs.set (ix cn c) (jN ns h.bx v)) (λ_ b'=>?_) (by simp[Rw.word])
   rw[gb (by rw[k5 _ rfl];simp[Rw.word])]
   have hv:aq (.lst vs) (.int 2)=some (.int (jN ns h.bx v)):=by
    have pv:=Ba (ns:=ns) (bx:=h.bx) (v:=v) (λx hx=>hnm x (by simp[Rw.bx,hx]))
    have:vs=[jL ns h.bx (.str b),jL ns h.bx (.str c),.int (jN ns h.bx v)]:=by
     simp only[vs,Rw.parts,List.map_cons,List.map_nil,pv]
    rw[this];rfl
   refine(tO (l:=cs.map .int) rfl (d:= .int (jN ns h.bx v)) (aC rfl rfl hv) rfl (k:=ix cn c) rfl (by simpa using hct c rfl)).trans ?_
   rw[<-List.map_set]
   rfl
  |put c v=>
   have hv:aq (.lst vs) (.int 1)=some (.int (jN ns h.bx v)):=by
    have:vs=[jL ns h.bx (.str c),.int (jN ns h.bx v)]:=by
     simp only[vs,Rw.parts,List.map_cons,List.map_nil,Ba (λx hx=>hnm x hx)]
    rw[this];rfl
   unfold kO
   rw[aD (ρ':=mk cs h.bx (.tup ((h.q++[(ix cn c,jN ns h.bx v)]).map qD)) none none none none) (by
    rw[gb (by rw[k1 _ rfl];simp[Rw.word])]
    refine(aM (d:= .tup ((h.q++[(ix cn c,jN ns h.bx v)]).map qD)) (aC rfl (bT (aO (bT (bG (pW rfl rfl (aO (aC rfl rfl (z:= .str c) rfl)) (Ca (hcm c rfl) ocn)) (aO (aC rfl rfl hv))) (by simp))) (by simp)) ?_) (By _)).trans rfl
    show aW (.tup (h.q.map qD)) (.tup [qD (ix cn c,jN ns h.bx v)])=_
    simp only[aW]
    rw[if_pos (by rw[sizeLine_eq];simp;omega)]
    simp)]
   rw[aD (ρ':=mk cs h.bx (.tup ((h.q++[(ix cn c,jN ns h.bx v)]).map qD)) none none none none) (by rw[cP (by rw[k2 _ rfl];simp[Rw.word,bW])];rfl),aD (ρ':=mk cs h.bx (.tup ((h.q++[(ix cn c,jN ns h.bx v)]).map qD)) none none none none) (by rw[cP (by rw[k3 _ rfl];simp[Rw.word,bW])];rfl)]
   exact fin cs h.bx (h.q++[(ix cn c,jN ns h.bx v)]) none none none
  |add b v u=>
   have pv:=Ba (ns:=ns) (bx:=h.bx) (v:=v) (λx hx=>hnm x (by simp[Rw.bx,hx]))
   have pu:=Ba (ns:=ns) (bx:=h.bx) (v:=u) (λx hx=>hnm x (by simp[Rw.bx,hx]))
   have hv:vs=[jL ns h.bx (.str b),.int (jN ns h.bx v),.int (jN ns h.bx u)]:=by
    simp only[vs,Rw.parts,List.map_cons,List.map_nil,pv,pu]
   have v1:aq (.lst vs) (.int 1)=some (.int (jN ns h.bx v)):=by rw[hv];rfl
   have v2:aq (.lst vs) (.int 2)=some (.int (jN ns h.bx u)):=by rw[hv];rfl
   unfold kO
   rw[aD (ρ':=mk cs h.bx (.tup (h.q.map qD)) none none none none) (by rw[cP (by rw[k1 _ rfl];simp[Rw.word,bW])];rfl),aD (ρ':=mk cs h.bx (.tup (h.q.map qD)) none none none none) (by rw[cP (by rw[k2 _ rfl];simp[Rw.word,bW])];rfl)]
   rw[aD (ρ':=mk cs (h.bx.set (ix ns b) (Qu (jN ns h.bx v) (jN ns h.bx u))) (.tup (h.q.map qD)) none none (some (.val (.int (jN ns h.bx v+jN ns h.bx u)) true)) none) (by
    rw[gb (by rw[k3 _ rfl];simp[Rw.word])]
    rw[aD (aM (d:= .int (jN ns h.bx v+jN ns h.bx u)) (aC (aC rfl rfl v1) (aC rfl rfl v2) rfl) rfl)]
    have e7:f2 pU (aj 12) (f2 (jb cW bN) (fC (.int 100)) (fB (kW oN kE) (aa (f2 (lO λi j=>decide (j<i)) (aj 12) (fC (.int 99))) aA))) (vis (mk cs h.bx (.tup (h.q.map qD)) none none (some (.val (.int (jN ns h.bx v+jN ns h.bx u)) true)) none))=some (.int (Qu (jN ns h.bx v) (jN ns h.bx u))):=by
     refine aC rfl (aC rfl (kI (x:= .int (if 99<jN ns h.bx v+jN ns h.bx u then 1 else 0)) (aO (aC rfl rfl rfl)) ?_) (z:= .int (100*(if 99<jN ns h.bx v+jN ns h.bx u then 1 else 0))) ?_) ?_
     ·show kW oN kE [.bl (decide (99<jN ns h.bx v+jN ns h.bx u))]=_
      by_cases hh:99<jN ns h.bx v+jN ns h.bx u<;>simp[kW,oN,hh]
     ·refine CW ?_
      simp only[cW]
      rw[if_pos (.inl ⟨by omega,by omega⟩)]
     ·show pU (.int (jN ns h.bx v+jN ns h.bx u)) (.int _)=_
      simp only[pU,Qu]
      congr 2
      by_cases hh:99<jN ns h.bx v+jN ns h.bx u
      ·rw[if_pos hh,if_neg (by omega)];omega
      ·rw[if_neg hh,if_pos (by omega)];omega
    refine(tO (l:=h.bx.map .int) rfl (d:= .int (Qu (jN ns h.bx v) (jN ns h.bx u))) e7 rfl (pW rfl rfl (aO (aC rfl rfl (z:= .str b) rfl)) (Ca (hnm b (by simp[Rw.bx])) ons)) (by simpa using nbx b (hnm b (by simp[Rw.bx])))).trans ?_
    rw[<-List.map_set]
    rfl)]
   exact fin _ _ _ _ _ _
 obtain⟨ρ,e,o⟩:=main
 have ff:flat (.tup [.int (bH cn ns true r cs h).2.at_,.tup ((bH cn ns true r cs h).2.q.map qD)])=true:=by simp[flat,flat.flats,bh (f:=qD) (λ_=>rfl)]
 simp only[je,List.length_cons,List.length_nil,if_true,pre,e,FN,ff,o,Option.map_some]
end K
theorem vI {cn ns:List Str}{r:Rw}{cs:List Int}{h:Th}(hq:h.q=[]):
 ((bH cn ns true r cs h).2.q=[]/\bH cn ns true r cs h=bH cn ns false r cs h)\/
 ∃x,(bH cn ns true r cs h).2.q=[x]/\(bH cn ns true r cs h).1=cs/\bH cn ns false r cs h=(cs.set x.1 x.2,⟨(bH cn ns true r cs h).2.at_,(bH cn ns true r cs h).2.bx,[]⟩):=by
 cases r with
 |put c v=>
  refine .inr ⟨(ix cn c,jN ns h.bx v),?_,rfl,?_⟩
  ·simp[bH,lX,hq]
  ·simp[bH,lX,hq]
 |get b c=>exact .inl ⟨hq,rfl⟩
 |swap b c v=>exact .inl ⟨hq,rfl⟩
 |add b v u=>exact .inl ⟨hq,rfl⟩
 |skip b n=>exact .inl ⟨hq,rfl⟩
 |fence=>exact .inl ⟨hq,rfl⟩
theorem Ht {s:FL}{ρ:aK}{l:List D}(hs:s ρ=some [.tup l]):nB nList s ρ=some l:=by
 show(s ρ).bind nList=_
 rw[hs];rfl
namespace K
noncomputable def Ci:GS:=(aL (gj (lR (t2 (cR true) (aj 9) (bL aA)) (Dt (t2 (cR false) (f2 cC (aj 2) (fC (.int 2))) (fC (.int 1))) (yw (tV (aj 3))))) (aL (lV 4 (f2 aq (f2 aq (aj 9) (fC (.int 0))) (fC (.int 0))) (f2 aq (f2 aq (aj 9) (fC (.int 0))) (fC (.int 1)))) (aZ 9 (uV (aj 9) (eY (fC (.int 1))) gB))) bJ) (aL (ju 10 (nB nList (aa (f2 aq (aj 1) (fC (.int 1))) aA))) (aL (lV 10 (aj 5) (bL (aa (aj 8) (aa (fB (kW cF dW) (aa (aj 7) aA)) (aa (aj 9) aA))))) (dg (bL (aa (fB (kW cF dW) (aa (aj 4) aA)) (aa (fB (kW cF dW) (aa (aj 10) aA)) aA)))))))
theorem Wx (p:Pl)(hp:oK p)(S:nj)(w:Bool)(k:Nat)(hk:k<900)(hS:qi p w k S)(c:Int)(hc:c∈jQ 0 p.cQ S.cQ):kj [p.d,S.d,.int c,.bl w]=some ((jJ p w S c).d,.new):=by
 obtain⟨i,t,h,ht,hh,d⟩:=yL hS hc
 obtain⟨a1,a2,a3,a4⟩:=hS.th i t h ht hh
 have hi:i<S.cQ.length:=(List.getElem?_eq_some_iff.mp hh).1
 have l1:=hS.nc
 have n1:=hp.nc
 have n2:=hp.nt
 have l2:=hS.nt
 let mk (cs:List Int) (h':Th) (q:D) (a:Option L):bw:=[some (.val p.d false),some (.val S.d false),some (.val (.int c) false),some (.val (.bl w) false),some (.own (cs.map .int) true none),some (.val (.int i) true),some (.val h.d true),some (.own (h'.bx.map .int) true none),some (.val (.int h'.at_) true),some (.val q true),a]
 have fin:∀(cs:List Int) (h':Th),∃ρ,aL (ju 10 (nB nList (aa (f2 aq (aj 1) (fC (.int 1))) aA))) (aL (lV 10 (aj 5) (bL (aa (aj 8) (aa (fB (kW cF dW) (aa (aj 7) aA)) (aa (aj 9) aA))))) (dg (bL (aa (fB (kW cF dW) (aa (aj 4) aA)) (aa (fB (kW cF dW) (aa (aj 10) aA)) aA))))) (mk cs h' (.tup (h'.q.map qD)) none)
  =some (.rt (nj.d ⟨cs,S.cQ.set i h'⟩) .new ρ):=by
  intro cs h'
  refine⟨mk cs h' (.tup (h'.q.map qD)) (some (.own ((S.cQ.set i h').map Th.d) true none)),?_⟩
  refine(aD (fc (i:=10) (l:=S.cQ.map Th.d) (Ht (aO (aC rfl rfl (z:= .tup (S.cQ.map Th.d)) rfl))) (bh gC))).trans ?_
  refine(aD (tO (j:=10) (l:=S.cQ.map Th.d) rfl (d:=h'.d) (bT (bG rfl (bG (uv (.inl rfl)) (aO rfl))) (by simp)) (gC h') rfl (by simpa using hi))).trans ?_
  rw[<-List.map_set]
  refine(bM (d:=nj.d ⟨cs,S.cQ.set i h'⟩) ?_ (eV _)).trans rfl
  exact bT (bG (uv (.inl rfl)) (aO (uv (.inl rfl)))) (by simp)
 have kq:∀(cs:List Int) (h':Th) (q:List (Nat×Int)),lR (t2 (cR true) (aj 9) (bL aA)) (Dt (t2 (cR false) (f2 cC (aj 2) (fC (.int 2))) (fC (.int 1))) (yw (tV (aj 3)))) (vis (mk cs h' (.tup (q.map qD)) none))=some (!q.isEmpty&&(c % 2==1||!w)):=λcs h' q=>
  lN (dh rfl (bT rfl (by simp)) (T6 q true)) λ_=>uq (dh (aC rfl rfl (mod2 c)) rfl (Pj _ _)) λ_=>uN rfl
 have Xn:∀(cs:List Int) (h':Th),(!h'.q.isEmpty&&(c % 2==1||!w))=false->∃ρ,Ci (mk cs h' (.tup (h'.q.map qD)) none)=some (.rt (nj.d ⟨cs,S.cQ.set i h'⟩) .new ρ):=by
  intro cs h' hz
  obtain⟨ρ,e⟩:=fin cs h'
  refine⟨ρ,?_⟩
  unfold Ci
  rw[aD (ρ':=mk cs h' (.tup (h'.q.map qD)) none) (by rw[cP (by rw[kq,hz])];rfl)]
  exact e
 have Xo:∀(cs:List Int) (h':Th) (x:Nat×Int) (q:List (Nat×Int)),h'.q=x::q->(c % 2==1||!w)=true->x.1<cs.length->∃ρ,Ci (mk cs h' (.tup (h'.q.map qD)) none)=some (.rt (nj.d ⟨cs.set x.1 x.2,S.cQ.set i (jU h')⟩) .new ρ):=by
  intro cs h' x q hq hz hx
  obtain⟨ρ,e⟩:=fin (cs.set x.1 x.2) (jU h')
  refine⟨ρ,?_⟩
  unfold Ci
  refine(aD (ρ':=mk (cs.set x.1 x.2) (jU h') (.tup ((jU h').q.map qD)) none) ?_).trans e
  rw[gb (by rw[kq,hz,hq];rfl)]
  have s0:aq (.tup (h'.q.map qD)) (.int 0)=some (qD x):=by rw[hq];exact yP _ 0
  refine(aD (tO (j:=4) (l:=cs.map .int) rfl (d:= .int x.2) (aC (aC rfl rfl s0) rfl rfl) rfl (k:=x.1) (aC (aC rfl rfl s0) rfl rfl) (by simpa using hx))).trans ?_
  rw[<-List.map_set]
  refine(aM (i:=9) (d:= .tup ((jU h').q.map qD)) (pX rfl (ji rfl) rfl ?_) (By _)).trans rfl
  show Ea (.tup (h'.q.map qD)) (some 1) none=_
  simp only[Ea,jU]
  rw[show(1:Int)=((1:Nat):Int) by rfl,sX,List.drop_one,List.map_tail]
 have pre:∀cc:Int,c=cc->cc/2=(i:Int)->nM (aH 11 [p.d,S.d,.int c,.bl w])=aL (gj (t2 (cR false) (f2 cC (aj 2) (fC (.int 2))) (fC (.int 0))) (wG [.val (aj 0),.val (aj 5),.own 4,.own 7,.val (aj 6)] je (kJ 2 (cJ (bf 8) (cJ (bf 9) lF)))) bJ) Ci (mk S.cs h (.tup (h.q.map qD)) none):=by
  intro cc e0 e1
  subst e0
  unfold nM
  refine(aD (fc (i:=4) (l:=S.cs.map .int) (Ht (aO (aC rfl rfl (z:= .tup (S.cs.map .int)) rfl))) (bh λ_=>rfl))).trans ?_
  refine(aD (aM (i:=5) (d:= .int i) (aC rfl rfl (by show eN (.int c) (.int 2)=_;rw[XD,e1])) rfl)).trans ?_
  refine(aD (aM (i:=6) (d:=h.d) (aC (aC rfl rfl (z:= .tup (S.cQ.map Th.d)) rfl) rfl (jH hh)) (gC h))).trans ?_
  refine(aD (fc (i:=7) (l:=h.bx.map .int) (Ht (aO (aC rfl rfl (z:= .tup (h.bx.map .int)) rfl))) (bh λ_=>rfl))).trans ?_
  refine(aD (ρ':=mk S.cs h (.tup (h.q.map qD)) none) ?_).trans rfl
  unfold Y7
  rw[fj (d:=[.int h.at_,.tup (h.q.map qD)]) (bG (aC rfl rfl (z:= .int h.at_) rfl) (aO (aC rfl rfl (z:= .tup (h.q.map qD)) rfl))) (by simp[flat,flat.flats,bh (f:=qD) (λ_=>rfl)])]
  rfl
 have k0:t2 (cR false) (f2 cC (aj 2) (fC (.int 2))) (fC (.int 0)) (vis (mk S.cs h (.tup (h.q.map qD)) none))=some (c % 2==0):=dh (aC rfl rfl (mod2 c)) rfl (Pj _ _)
 have main:∃ρ,nM (aH 11 [p.d,S.d,.int c,.bl w])=some (.rt (jJ p w S c).d .new ρ):=by
  rcases d with⟨hcc,r,hr,_⟩|⟨hcc,x,q,hq⟩
  ·have hn:jJ p w S c=⟨(bH (p.cells.map (·.1)) (pR t) w r S.cs h).1,S.cQ.set i (bH (p.cells.map (·.1)) (pR t) w r S.cs h).2⟩:=by rw[hcc];exact Cy ht hh hr
   have vd:=Ww p hp S.cs i t h r ht hr a1 l1 (by omega)
   have lcs:(bH (p.cells.map (·.1)) (pR t) true r S.cs h).1.length=S.cs.length:=Cv ..
   generalize hN:bH (p.cells.map (·.1)) (pR t) true r S.cs h=N at vd lcs
   have call:wG [.val (aj 0),.val (aj 5),.own 4,.own 7,.val (aj 6)] je (kJ 2 (cJ (bf 8) (cJ (bf 9) lF))) (mk S.cs h (.tup (h.q.map qD)) none)=some (.nx (mk N.1 N.2 (.tup (N.2.q.map qD)) none)):=by
    have fa:jY [.val (aj 0),.val (aj 5),.own 4,.own 7,.val (aj 6)] (mk S.cs h (.tup (h.q.map qD)) none)=some [p.d,.int i,.lst (S.cs.map .int),.lst (h.bx.map .int),h.d]:=by
     have f1:flat.flats (S.cs.map D.int)=true:=bh λ_=>rfl
     have f2:flat.flats (h.bx.map D.int)=true:=bh λ_=>rfl
     simp[jY,mk,vis,at?,L.toD,wB,gC,f1,f2,flat]
    unfold wG
    rw[fa,Option.bind_some,if_pos (by rfl),vd,Option.bind_some,if_pos (by rfl)]
    rfl
   rw[pre (2*(i:Int)) hcc (by omega),aD (by rw[gb (by rw[k0,hcc];simp)];exact call),hn]
   cases w with
   |true=>
    rw[hN]
    exact Xn N.1 N.2 (by rw[hcc];simp)
   |false=>
    have hq0:=a4 rfl
    rcases vI (cn:=p.cells.map (·.1)) (ns:=pR t) (r:=r) (cs:=S.cs) hq0 with⟨z1,z2⟩|⟨x,z1,z2,z3⟩
    ·rw[<-z2,hN]
     rw[hN]at z1
     exact Xn N.1 N.2 (by rw[z1];rfl)
    ·rw[z3,hN]
     rw[hN]at z1 z2
     have hx:x.1<N.1.length:=by
      rcases uF (cn:=p.cells.map (·.1)) (ns:=pR t) (w:=true) (r:=r) (cs:=S.cs) (h:=h)with e|⟨_,c',v',rfl,e⟩
      ·rw[hN,z1,hq0]at e;cases e
      ·rw[hN,z1,hq0]at e
       simp only[List.nil_append,List.cons.injEq,and_true]at e
       rw[e,lcs,l1]
       have:=(uW (hp.WN t (List.mem_of_getElem? ht) (.put c' v') (List.mem_of_getElem? hr) c' rfl)).2
       simpa using this
     obtain⟨ρ,e⟩:=Xo N.1 N.2 x [] z1 (by simp) hx
     refine⟨ρ,?_⟩
     rw[e,z2]
     simp only[jU,z1,List.tail_cons]
  ·rw[pre (2*(i:Int)+1) hcc (by omega),aD (ρ':=mk S.cs h (.tup (h.q.map qD)) none) (by rw[cP (by rw[k0,hcc];simp)];rfl)]
   have hn:jJ p w S c=⟨S.cs.set x.1 x.2,S.cQ.set i (jU h)⟩:=by rw[hcc];exact Cw ht hh hq
   rw[hn]
   exact Xo S.cs h x q hq (by rw[hcc];simp) (by rw[l1];exact a3 x (by rw[hq];simp))
 obtain⟨ρ,e⟩:=main
 simp only[kj,List.length_cons,List.length_nil,if_true,e,cI]
end K
noncomputable def nd:Nat->D->Bool
 |_,.int _=>true
 |n+1,.tup l=>l.all (nd n)&&decide (l.length<1000)
 |_,_=>false
theorem Ft:∀{α:Type} (l:List α),GP (l.map λ_=>D.bl true)=some (l.map λ_=>true)
 |_,[]=>rfl
 |_,_::l=>by simp[GP,Ft l]
theorem QD (l:List D):vV l l=l.map λx=> .tup [x,x]:=by
 unfold vV
 induction l with
 |nil=>rfl
 |cons a l ih=>simp only[List.zip_cons_cons,List.map_cons,ih]
namespace K
theorem same_int (Fc:FF)(i:Int):jm Fc [.int i,.int i]=some (.bl true,.new):=by
 have e:lA Fc (aH 2 [.int i,.int i])=some (.rt (.bl true) .new (aH 2 [.int i,.int i])):=by
  unfold lA
  rw[aD (ρ':=aH 2 [.int i,.int i]) (by rw[cP rfl];rfl)]
  refine bM (MJ rfl (MJ rfl (aC rfl rfl ?_))) rfl
  show cR false (.int i) (.int i)=_
  rw[Pj];simp
 simp only[jm,List.length_cons,List.length_nil,if_true,e,cI]
theorem Tj (Fc:FF)(l:List D)(hl:l.length<1000)(h:∀d∈l,Fc [d,d]=some (.bl true,.new)):jm Fc [.tup l,.tup l]=some (.bl true,.new):=by
 have e1:gf (rO 2 (gO (bC 0) (gO (bC 1) tQ))) tT (aN Fc [] (aa (aj 0) (aa (aj 1) aA))) [none,none] (l.map λx=> .tup [x,x])=some (l.map λ_=> .bl true):=
  comp_map (λd=>[some d,some d]) l λd hd=>⟨rfl,rfl,aU (bG rfl (aO rfl)) (h d hd) rfl⟩
 have e:lA Fc (aH 2 [.tup l,.tup l])=some (.rt (.bl true) .new (aH 2 [.tup l,.tup l])):=by
  unfold lA
  refine mJ ?_
  rw[gb rfl]
  rw[aD (ρ':=aH 2 [.tup l,.tup l]) (by
   rw[cP (uq (x:=false) (y:=false) (uN (x:=true) rfl) λ_=>dh (kI (aO rfl) rfl) (kI (aO rfl) rfl) (by simp[cR,vQ,eq_int]))];rfl)]
  refine bM (kI (aO (jt (j5 (r:=(l.map λx=> .tup [x,x],[.tup l,.tup l])) ?_ (by simp;omega) e1))) ?_) rfl
  ·show(some [D.tup l,D.tup l]).bind _=_
   show some (vV l l,[D.tup l,D.tup l])=_
   rw[QD]
  ·show R5 [.lst (l.map λ_=> .bl true)]=_
   simp only[R5,Ft,Option.map_some]
   simp
 simp only[jm,List.length_cons,List.length_nil,if_true,e,cI]
theorem NP:∀(n:Nat) (d:D),nd n d=true->nJ (n+1) [d,d]=some (.bl true,.new)
 |n,.int i,_=>same_int _ i
 |0,.tup l,h=>by simp[nd]at h
 |n+1,.tup l,h=>by
  simp only[nd,Bool.and_eq_true,decide_eq_true_eq,List.all_eq_true]at h
  exact Tj _ l h.2 λd hd=>NP n d (h.1 d hd)
 |n,.non,h=>by cases n<;>simp[nd]at h
 |n,.bl _,h=>by cases n<;>simp[nd]at h
 |n,.str _,h=>by cases n<;>simp[nd]at h
 |n,.lst _,h=>by cases n<;>simp[nd]at h
 |n,.dct _ _,h=>by cases n<;>simp[nd]at h
 |n,.ins _ _ _,h=>by cases n<;>simp[nd]at h
 |n,.uR _,h=>by cases n<;>simp[nd]at h
theorem Mm (p:Pl)(hp:oK p)(w:Bool)(k:Nat)(hk:k<900)(S:nj)(hS:qi p w k S):gZ [S.d,S.d]=some (.bl true,.new):=by
 have n1:=hp.nc
 have n2:=hp.nt
 have l1:=hS.nc
 have l2:=hS.nt
 refine NP 7 _ ?_
 have q1:∀x:Nat×Int,nd 3 (qD x)=true:=λx=>by simp[qD,nd]
 have h1:∀h∈S.cQ,nd 5 h.d=true:=λh hh=>by
  obtain⟨i,hi,rfl⟩:=List.getElem_of_mem hh
  have ht:p.cQ[i]?=some (p.cQ[i]'(by omega)):=List.getElem?_eq_getElem (by omega)
  obtain⟨a1,a2,_,_⟩:=hS.th i _ _ ht (List.getElem?_eq_getElem hi)
  have:=Ak (hp.nr _ (List.mem_of_getElem? ht))
  simp only[Th.d,nd,List.all_cons,List.all_nil,List.all_map,Bool.and_true,Bool.and_eq_true,decide_eq_true_eq,List.length_map,List.length_cons,List.length_nil,List.all_eq_true,Function.comp_apply]
  exact⟨⟨trivial,⟨λ_ _=>trivial,by omega⟩,⟨λx _=>q1 x,by omega⟩⟩,by omega⟩
 simp only[nj.d,nd,List.all_cons,List.all_nil,List.all_map,Bool.and_true,Bool.and_eq_true,decide_eq_true_eq,List.length_map,List.length_cons,List.length_nil,List.all_eq_true,Function.comp_apply]
 exact⟨⟨⟨λ_ _=>trivial,by omega⟩,⟨λh hh=>h1 h hh,by omega⟩⟩,by omega⟩
end K
noncomputable def Vw (a:Array Nat):Bool:=a.all (·<0x110000)
theorem Hv (a b:Array Nat)(ha:Vw a=true)(hb:Vw b=true):Vw (a++b)=true:=by
 unfold Vw at*
 rw[Array.all_append,ha,hb];rfl
theorem Sd (l:List Str)(h:∀x∈l,PyData.strOk x=true):PyData.strOk (Builtin.Str.glued ("":Str) l)=true:=by
 have key:∀(l:List Str) (a:Array Nat),Vw a=true->(∀x∈l,PyData.strOk x=true)->Vw (l.foldl (λacc p=>acc++("":Str).cps++p.cps) a)=true:=by
  intro l
  induction l with
  |nil=>intro a ha _;exact ha
  |cons x l ih=>
   intro a ha hl
   refine ih _ (Hv _ _ (Hv _ _ ha (by decide+kernel)) (hl x (by simp))) λy hy=>hl y (by simp[hy])
 show Vw _=true
 unfold Builtin.Str.glued
 refine key _ _ ?_ λy hy=>h y (List.mem_of_mem_drop hy)
 cases l with
 |nil=>decide+kernel
 |cons x l=>exact h x (by simp)
theorem PN (l:List Str):(Builtin.Str.glued ("":Str) l).length<=(l.map (·.length)).sum:=by
 have key:∀(l:List Str) (a:Array Nat),(l.foldl (λacc p=>acc++("":Str).cps++p.cps) a).size=a.size+(l.map (·.length)).sum:=by
  intro l
  induction l with
  |nil=>intro a;simp
  |cons x l ih=>
   intro a
   rw[List.foldl_cons,ih]
   have:("":Str).cps.size=0:=by decide+kernel
   simp only[Array.size_append,this,List.map_cons,List.sum_cons]
   show a.size+0+x.cps.size+_=a.size+(x.cps.size+_)
   omega
 show Array.size _<=_
 unfold Builtin.Str.glued
 rw[key]
 cases l with
 |nil=>simp;decide+kernel
 |cons x l=>
  show x.cps.size+_<=_
  simp only[List.drop_one,List.tail_cons,List.map_cons,List.sum_cons]
  exact Nat.le_refl _
theorem Qs (l:List Str):zO (l.map .str)=some l:=by
 induction l with
 |nil=>rfl
 |cons x l ih=>simp[zO,ih]
theorem Vj {l:List Str}(h:∀x∈l,x.length<=8)(hn:l.length<=100):mW (.str "") [.lst (l.map .str)]=some (.str (Builtin.Str.glued "" l)):=by
 have hs:(l.map (·.length)).sum<=8*l.length:=by
  clear hn
  induction l with
  |nil=>simp
  |cons x l ih=>
   have:=h x (by simp)
   have:=ih λy hy=>h y (by simp[hy])
   simp only[List.map_cons,List.sum_cons,List.length_cons]
   omega
 have h0:("":Str).length=0:=by decide+kernel
 simp only[mW,Qs,Option.bind_some,h0,Nat.mul_zero,Nat.add_zero]
 rw[if_pos (by omega)]
 rfl
theorem letter (j:Int):∃ch:Nat,aq (.str "abcdefghijklmnopqrstuvwxyz") (.int (j % 26))=some (.str ⟨#[ch]⟩)/\PyData.strOk ⟨#[ch]⟩=true:=by
 have h1:("abcdefghijklmnopqrstuvwxyz":Str).cps.toList.length=26:=by decide+kernel
 have h2:("abcdefghijklmnopqrstuvwxyz":Str).cps.toList.all (λc=>decide (c<0x110000))=true:=by decide+kernel
 have h3:("abcdefghijklmnopqrstuvwxyz":Str).length<=sizeLine:=by decide+kernel
 have h4:0<=j % 26:=by omega
 have h5:j % 26<26:=by omega
 obtain⟨n,hn⟩:=Int.eq_ofNat_of_zero_le h4
 have hn':n<("abcdefghijklmnopqrstuvwxyz":Str).cps.toList.length:=by rw[h1];omega
 refine⟨("abcdefghijklmnopqrstuvwxyz":Str).cps.toList[n],?_,?_⟩
 ·rw[hn]
  simp only[aq,UW]
  rw[if_pos h3]
  simp only[zz,Ld]
  rw[if_pos (by omega),if_pos (by omega),Int.toNat_natCast,Option.bind_some,List.getElem?_eq_getElem hn']
  rfl
 ·have:=List.all_eq_true.mp h2 _ (List.getElem_mem hn')
  have h6:=of_decide_eq_true this
  show Vw #[_]=true
  simp only[Vw,List.all_toArray,List.all_cons,List.all_nil,Bool.and_true,decide_eq_true_eq]
  exact h6
noncomputable def okN (x:Str):Prop:=PyData.strOk x=true/\x.length<=8
noncomputable def ok1 (x:Str):Prop:=PyData.strOk x=true/\x.length=1
theorem TV {l:List Str}(h:∀x∈l,ok1 x):(l.map (·.length)).sum=l.length:=by
 induction l with
 |nil=>rfl
 |cons x l ih=>
  have:=(h x (by simp)).2
  have:=ih λy hy=>h y (by simp[hy])
  simp only[List.map_cons,List.sum_cons,List.length_cons]
  omega
theorem X6 {l:List Str}(h:∀x∈l,ok1 x)(hn:l.length<=7):mW (.str "") [.lst (l.map .str)]=some (.str (Builtin.Str.glued "" l))/\PyData.strOk (Builtin.Str.glued "" l)=true/\(Builtin.Str.glued "" l).length<=l.length:=by
 refine⟨Vj (λx hx=>by have:=(h x hx).2;omega) (by omega),Sd l λx hx=>(h x hx).1,?_⟩
 have:=PN l
 rw[TV h]at this
 exact this
theorem Qq {x y:Str}(hx:PyData.strOk x=true)(hy:PyData.strOk y=true):PyData.strOk (x++y)=true:=Hv _ _ hx hy
theorem len_app (x y:Str):(x++y).length=x.length+y.length:=by
 show(x.cps++y.cps).size=_
 rw[Array.size_append];rfl
theorem Mv {a b:List Str}(h:a.length+b.length<=1000):aW (.lst (a.map .str)) (.lst (b.map .str))=some (.lst ((a++b).map .str)):=by
 simp only[aW]
 rw[if_pos (by rw[sizeLine_eq];simp;omega),List.map_append]
theorem My (l:List D)(i:Nat):Ea (.lst l) none (some (i:Int))=some (.lst (l.take i)):=by simp only[Ea,K.Bo]
theorem R4 (l:List D)(a b:Nat):cutD l (some (a:Int)) (some (b:Int))=(l.take b).drop a:=by
 simp only[cutD,HT.jc]
 rw[if_neg (by omega),if_neg (by omega),Int.toNat_natCast,Int.toNat_natCast,List.drop_take]
 by_cases h:a<=l.length
 ·rw[Nat.min_eq_left h]
  by_cases h2:b<=l.length
  ·rw[Nat.min_eq_left h2]
  ·rw[Nat.min_eq_right (by omega),List.take_of_length_le (by simp),List.take_of_length_le (by simp;omega)]
 ·rw[Nat.min_eq_right (show l.length<=a by omega)]
  simp[List.drop_of_length_le (show l.length<=a by omega)]
theorem lK {l:List D}{x:D}{j:Nat}(h:l[j]?=some x):aq (.lst l) (.int j)=some x:=by rw[uB,h]
theorem tX (a:Int)(n:Int)(h:0<n):∃k:Nat,(k:Int)=a % n/\(k:Int)<n:=⟨(a % n).toNat,by have:=Int.emod_nonneg a (show n≠0 by omega);omega,by have:=Int.emod_nonneg a (show n≠0 by omega);have:=Int.emod_lt_of_pos a h;omega⟩
theorem fK (a n:Int)(h:0<n)(h2:n<1073741824):eN (.int a) (.int n)=some (.int (a/n)):=by simp only[eN];rw[if_pos ⟨h,h2⟩]
theorem cV (a n:Int)(h:0<n):cC (.int a) (.int n)=some (.int (a % n)):=by simp only[cC];rw[if_pos h]
theorem Jx (a b:Int)(h: -(2 ^ 64)<a/\a<2 ^ 64\/ -(2 ^ 64)<b/\b<2 ^ 64):jb cW bN (.int a) (.int b)=some (.int (a*b)):=CW (by simp only[cW];rw[if_pos h])
noncomputable def vU:List Str:=Txt.split "cells thread put get swap add skip fence" " "
theorem words_of:pY "cells thread put get swap add skip fence" " "=some (vU.map .str):=by
 unfold pY
 rw[if_pos (by decide+kernel)]
 rfl
theorem Ue:∀x∈vU,PyData.strOk x=true:=by
 have:vU.all PyData.strOk=true:=by decide+kernel
 exact List.all_eq_true.mp this
theorem R6 {l:List Str}(h:∀x∈l,PyData.strOk x=true):cR true (.lst (l.map .str)) (.lst [])=some (.bl (!l.isEmpty)):=by
 have h0:sE (.lst [])=true:=gw (n:=1) rfl
 unfold cR
 rw[Be h,h0,Kz]
 simp only[Bool.and_self,if_true,iG,qU,List.isEmpty_map]
theorem qy (i n:Nat):(List.range' i (n+1)).map (λk=>D.int (k:Nat))= .int (i:Nat)::(List.range' (i+1) n).map (λk=>D.int (k:Nat)):=by
 rw[List.range'_succ];rfl
theorem Bd (n:Nat):su 0 n=(List.range' 0 n).map (λk=>D.int (k:Nat)):=by
 unfold su
 rw[List.range_eq_range']
 congr 1
 funext i
 simp
theorem Yd (n:Nat)(h:n<1000):itR (.int (n:Int))=some (su 0 n,[]):=by
 simp only[itR]
 rw[if_pos ⟨by omega,by omega⟩,Int.toNat_natCast]
theorem uD {a:FD}{ρ:aK}{n:Nat}(h:a ρ=some (.int (n:Int)))(hn:n<1000):jK a ρ=some (su 0 n,[]):=by
 show(a ρ).bind itR=_
 rw[h,Option.bind_some,Yd n hn]
theorem Ro (n:Nat):flat.flats (su 0 n)=true:=by unfold su;exact bh λ_=>rfl
theorem tM {a:FD}{T:D->Bool->bw->Option bw}{G:GS}{ρ:bw}{n:Nat}(h:a (vis ρ)=some (.int (n:Int)))(hn:n<1000):gM (jK a) T G ρ=dX T G true ((List.range' 0 n).map λk=>D.int (k:Nat)) ρ:=by
 unfold gM
 rw[fj (uD h hn) (by simp[Ro,flat.flats]),Bd]
 rfl
namespace K
noncomputable def Lp:GS:=(aL (aZ 7 (f2 aq (aj 1) (f2 cC (f2 aW (f2 eN (aj 0) (fC (.int 11))) (aj 6)) (fC (.int 26))))) (aL (aZ 8 (uQ "str" mW (fC (.str "")) (aa (f2 aW (f2 aW (uV (aj 4) gB (eY (aj 3))) (fG (aa (aj 7) aA))) (uV (aj 4) (eY (f2 aW (aj 3) (fC (.int 1)))) (eY (aj 2)))) aA))) (aL (gj (t2 (cR false) (f2 cC (aj 0) (fC (.int 4))) (fC (.int 3))) (aZ 8 (f2 aq (fG (aa (uQ "str" mW (fC (.str "")) (aa (uV (aj 4) gB (eY (f2 aW (fC (.int 1)) (f2 cC (aj 6) (fC (.int 5)))))) aA)) (aa (f2 aW (aj 7) (uQ "str" mW (fC (.str "")) (aa (uV (aj 4) gB (eY (f2 aW (fC (.int 1)) (f2 cC (aj 6) (fC (.int 5)))))) aA))) aA))) (f2 eN (aj 6) (fC (.int 5))))) bJ) (fU 5 (aj 8)))))
noncomputable def n6 (c:Int)(sz at_:Nat)(row found:List Str)(a b d e:Option L):bw:=[some (.val (.int c) false),some (.val (.str "abcdefghijklmnopqrstuvwxyz") true),some (.val (.int (sz:Nat)) true),some (.val (.int (at_:Nat)) true),some (.own (row.map .str) true none),some (.own (found.map .str) true none),a,b,d,e]
theorem Vt (c:Int)(sz at_:Nat)(row found:List Str)(b d e:Option L)(k:Nat)(hr:∀x∈row,ok1 x)(hl:row.length=6)(hs:sz<=6)(ha:at_<sz)(hk:k<9)(hf:found.length<100):
 ∃x b' d',okN x/\Lp (n6 c sz at_ row found (some (.val (.int (k:Nat)) true)) b d e)=some (.nx (n6 c sz at_ row (found++[x]) (some (.val (.int (k:Nat)) true)) b' d' e)):=by
 obtain⟨ch,l1,l2⟩:=letter (c/11+k)
 have hsg:ok1 ⟨#[ch]⟩:=⟨l2,rfl⟩
 have j0:=X6 (l:=row.take at_++[⟨#[ch]⟩]++(row.take sz).drop (at_+1)) (by
  intro x hx
  simp only[List.mem_append,List.mem_singleton]at hx
  rcases hx with(hx|hx)|hx
  ·exact hr x (List.mem_of_mem_take hx)
  ·rw[hx];exact hsg
  ·exact hr x (List.mem_of_mem_take (List.mem_of_mem_drop hx))) (by simp;omega)
 have jl:(row.take at_++[(⟨#[ch]⟩:Str)]++(row.take sz).drop (at_+1)).length<=6:=by simp;omega
 have j1:=X6 (l:=row.take (1+k % 5)) (λx hx=>hr x (List.mem_of_mem_take hx)) (by simp;omega)
 have jl1:(row.take (1+k % 5)).length<=5:=by simp;omega
 unfold Lp
 have g1:aZ 7 (f2 aq (aj 1) (f2 cC (f2 aW (f2 eN (aj 0) (fC (.int 11))) (aj 6)) (fC (.int 26)))) (n6 c sz at_ row found (some (.val (.int (k:Nat)) true)) b d e)=some (.nx (n6 c sz at_ row found (some (.val (.int (k:Nat)) true)) (some (.val (.str ⟨#[ch]⟩) true)) d e)):=
  (aM (d:= .str ⟨#[ch]⟩) (aC rfl (aC (aC (aC rfl rfl (fK c 11 (by omega) (by omega))) rfl rfl) rfl (cV _ 26 (by omega))) l1) rfl).trans rfl
 have g2:aZ 8 (uQ "str" mW (fC (.str "")) (aa (f2 aW (f2 aW (uV (aj 4) gB (eY (aj 3))) (fG (aa (aj 7) aA))) (uV (aj 4) (eY (f2 aW (aj 3) (fC (.int 1)))) (eY (aj 2)))) aA)) (n6 c sz at_ row found (some (.val (.int (k:Nat)) true)) (some (.val (.str ⟨#[ch]⟩) true)) d e)
  =some (.nx (n6 c sz at_ row found (some (.val (.int (k:Nat)) true)) (some (.val (.str ⟨#[ch]⟩) true)) (some (.val (.str (Builtin.Str.glued "" (row.take at_++[⟨#[ch]⟩]++(row.take sz).drop (at_+1)))) true)) e)):=by
  refine(aM (i:=8) (pW rfl rfl (aO (aC (aC (pX rfl rfl (ji rfl) (y:=some (at_:Int)) (e:= .lst ((row.take at_).map .str)) ?_) (y:= .lst ([(⟨#[ch]⟩:Str)].map .str)) rfl (Mv (by simp;omega))) (pX rfl (ji (aC rfl rfl rfl)) (ji rfl) (e:= .lst (((row.take sz).drop (at_+1)).map .str)) ?_) (Mv (by simp;omega)))) j0.1) rfl).trans rfl
  ·show Ea (.lst (row.map .str)) none (some (at_:Int))=_
   rw[My,List.map_take]
  ·show Ea (.lst (row.map .str)) (some ((at_:Int)+1)) (some (sz:Int))=_
   simp only[Ea]
   rw[show((at_:Int)+1)=((at_+1:Nat):Int) by omega,R4,List.map_drop,List.map_take]
 have app:∀(x:Str) (b':Option L),fU 5 (aj 8) (n6 c sz at_ row found (some (.val (.int (k:Nat)) true)) b' (some (.val (.str x) true)) e)=some (.nx (n6 c sz at_ row (found++[x]) (some (.val (.int (k:Nat)) true)) b' (some (.val (.str x) true)) e)):=λx b'=>by
  refine(iJ (i:=5) (d:= .str x) (l:=found.map .str) rfl (by rw[sizeLine_eq];simp;omega) rfl rfl).trans ?_
  rw[show found.map D.str++[D.str x]=(found++[x]).map .str by simp]
  rfl
 have k4:t2 (cR false) (f2 cC (aj 0) (fC (.int 4))) (fC (.int 3)) (vis (n6 c sz at_ row found (some (.val (.int (k:Nat)) true)) (some (.val (.str ⟨#[ch]⟩) true)) (some (.val (.str (Builtin.Str.glued "" (row.take at_++[⟨#[ch]⟩]++(row.take sz).drop (at_+1)))) true)) e))=some (c % 4==3):=dh (aC rfl rfl (cV c 4 (by omega))) rfl (Pj _ _)
 rw[aD g1,aD g2]
 cases h4:(c % 4==3)with
 |false=>
  rw[aD (by rw[cP (by rw[k4,h4])];rfl)]
  exact⟨_,_,_,⟨j0.2.1,by have:=j0.2.2;omega⟩,app _ _⟩
 |true=>
  have hlen:((⟨#[ch]⟩:Str)++Builtin.Str.glued "" (row.take (1+k % 5))).length<=8:=by
   rw[len_app]
   have:=j1.2.2
   have:(⟨#[ch]⟩:Str).length=1:=rfl
   omega
  have sl:∀ρ:aK,at? ρ 4=some (.lst (row.map .str))->at? ρ 6=some (.int (k:Nat))->uQ "str" mW (fC (.str "")) (aa (uV (aj 4) gB (eY (f2 aW (fC (.int 1)) (f2 cC (aj 6) (fC (.int 5)))))) aA) ρ=some (.str (Builtin.Str.glued "" (row.take (1+k % 5)))):=λρ h4 h6=>by
   refine pW rfl rfl (aO (pX h4 rfl (ji (i:=((1+k % 5:Nat):Int)) (aC rfl (aC h6 rfl (cV _ 5 (by omega))) (by simp[aW]))) (e:= .lst ((row.take (1+k % 5)).map .str)) ?_)) j1.1
   rw[My,List.map_take]
  have ad:aW (.str ⟨#[ch]⟩) (.str (Builtin.Str.glued "" (row.take (1+k % 5))))=some (.str ((⟨#[ch]⟩:Str)++Builtin.Str.glued "" (row.take (1+k % 5)))):=by
   simp only[aW]
   rw[if_pos (by rw[sizeLine_eq,<-len_app];omega)]
  have g3:∃x,okN x/\aZ 8 (f2 aq (fG (aa (uQ "str" mW (fC (.str "")) (aa (uV (aj 4) gB (eY (f2 aW (fC (.int 1)) (f2 cC (aj 6) (fC (.int 5)))))) aA)) (aa (f2 aW (aj 7) (uQ "str" mW (fC (.str "")) (aa (uV (aj 4) gB (eY (f2 aW (fC (.int 1)) (f2 cC (aj 6) (fC (.int 5)))))) aA))) aA))) (f2 eN (aj 6) (fC (.int 5)))) (n6 c sz at_ row found (some (.val (.int (k:Nat)) true)) (some (.val (.str ⟨#[ch]⟩) true)) (some (.val (.str (Builtin.Str.glued "" (row.take at_++[⟨#[ch]⟩]++(row.take sz).drop (at_+1)))) true)) e)
   =some (.nx (n6 c sz at_ row found (some (.val (.int (k:Nat)) true)) (some (.val (.str ⟨#[ch]⟩) true)) (some (.val (.str x) true)) e)):=by
   have lst:∀ρ:aK,at? ρ 4=some (.lst (row.map .str))->at? ρ 6=some (.int (k:Nat))->at? ρ 7=some (.str ⟨#[ch]⟩)->fG (aa (uQ "str" mW (fC (.str "")) (aa (uV (aj 4) gB (eY (f2 aW (fC (.int 1)) (f2 cC (aj 6) (fC (.int 5)))))) aA)) (aa (f2 aW (aj 7) (uQ "str" mW (fC (.str "")) (aa (uV (aj 4) gB (eY (f2 aW (fC (.int 1)) (f2 cC (aj 6) (fC (.int 5)))))) aA))) aA)) ρ=some (.lst [.str (Builtin.Str.glued "" (row.take (1+k % 5))),.str ((⟨#[ch]⟩:Str)++Builtin.Str.glued "" (row.take (1+k % 5)))]):=λρ h4 h6 h7=>by
    show(aa _ _ ρ).bind tW=_
    rw[bG (sl ρ h4 h6) (aO (aC h7 (sl ρ h4 h6) ad)),Option.bind_some]
    rfl
   by_cases h5:k<5
   ·refine⟨Builtin.Str.glued "" (row.take (1+k % 5)),⟨j1.2.1,by have:=j1.2.2;omega⟩,?_⟩
    exact(aM (i:=8) (d:= .str (Builtin.Str.glued "" (row.take (1+k % 5)))) (aC (lst _ rfl rfl rfl) (aC rfl rfl (fK _ 5 (by omega) (by omega))) (by rw[show((k:Int)/5)=((0:Nat):Int) by omega];exact lK rfl)) rfl).trans rfl
   ·refine⟨(⟨#[ch]⟩:Str)++Builtin.Str.glued "" (row.take (1+k % 5)),⟨Qq l2 j1.2.1,hlen⟩,?_⟩
    exact(aM (i:=8) (d:= .str ((⟨#[ch]⟩:Str)++Builtin.Str.glued "" (row.take (1+k % 5)))) (aC (lst _ rfl rfl rfl) (aC rfl rfl (fK _ 5 (by omega) (by omega))) (by rw[show((k:Int)/5)=((1:Nat):Int) by omega];exact lK rfl)) rfl).trans rfl
  obtain⟨x,ox,g3⟩:=g3
  rw[aD (by rw[gb (by rw[k4,h4])];exact g3)]
  exact⟨x,_,_,ox,app _ _⟩
theorem Nh (c:Int)(sz at_:Nat)(row:List Str)(e:Option L)(hr:∀x∈row,ok1 x)(hl:row.length=6)(hs:sz<=6)(ha:at_<sz):∀(n i:Nat) (found:List Str) (a b d:Option L),i+n<=9->found.length+n<100->(∀x∈found,okN x)->
 ∃(found':List Str) (a' b' d':Option L),found'.length=found.length+n/\(∀x∈found',okN x)/\dX (bf 6) Lp true ((List.range' i n).map λk=>D.int (k:Nat)) (n6 c sz at_ row found a b d e)=some (.nx (n6 c sz at_ row found' a' b' d' e))
 |0,i,found,a,b,d,_,_,ho=>⟨found,a,b,d,rfl,ho,rfl⟩
 |n+1,i,found,a,b,d,h1,h2,ho=>by
  obtain⟨x,b',d',ox,e1⟩:=Vt c sz at_ row found b d e i hr hl hs ha (by omega) (by omega)
  obtain⟨f',a'',b'',d'',q1,q2,q3⟩:=Nh c sz at_ row e hr hl hs ha n (i+1) (found++[x]) (some (.val (.int (i:Nat)) true)) b' d' (by omega) (by simp;omega) (by
   intro y hy
   rcases List.mem_append.mp hy with hy|hy
   ·exact ho y hy
   ·rw[List.mem_singleton.mp hy];exact ox)
  refine⟨f',a'',b'',d'',by simp at q1;omega,q2,?_⟩
  rw[qy,<-q3]
  exact gG rfl e1
end K
noncomputable def lch (j:Int):Nat:=Classical.choose (letter j)
theorem Jq (j:Int):aq (.str "abcdefghijklmnopqrstuvwxyz") (.int (j % 26))=some (.str ⟨#[lch j]⟩)/\PyData.strOk ⟨#[lch j]⟩=true:=Classical.choose_spec (letter j)
theorem Hj {F:FL}{ρ:bw}{l:List D}(h:F (vis ρ)=some l)(hf:flat.flats l=true):qY F ρ=some (.rt (.lst l) .own ρ):=fj h hf
noncomputable def nine:List Str:=["a","b","c","ab","ba","z","x","xx","y"]
theorem Vs:∀x∈nine,okN x:=by
 have:nine.all (λx=>PyData.strOk x&&decide (x.length<=8))=true:=by decide+kernel
 intro x hx
 have:=List.all_eq_true.mp this x hx
 rw[Bool.and_eq_true,decide_eq_true_eq]at this
 exact this
namespace K
theorem v_names (c:Int):∃ns:List Str,ns.length=9/\(∀x∈ns,okN x)/\jo [.int c]=some (.lst (ns.map .str),.own):=by
 obtain⟨s0,hs0,hs1⟩:=tX (c/4) 6 (by omega)
 obtain⟨a0,ha0,ha1⟩:=tX (c/24) ((1+s0:Nat):Int) (by omega)
 obtain⟨m4,hm0,hm1⟩:=tX c 4 (by omega)
 let row:List Str:=(List.range' 0 6).map λk:Nat=>⟨#[lch (c/7+5*(k:Int))]⟩
 have hr:∀x∈row,ok1 x:=by
  intro x hx
  obtain⟨k,_,rfl⟩:=List.mem_map.mp hx
  exact⟨(Jq _).2,rfl⟩
 have hl:row.length=6:=by simp[row]
 have hat:∃at_:Nat,at_<1+s0/\([D.int (a0:Nat),.int 0,.int (s0:Nat),.int 0]:List D)[m4]?=some (.int (at_:Nat)):=by
  have:m4=0\/m4=1\/m4=2\/m4=3:=by omega
  rcases this with rfl|rfl|rfl|rfl
  ·exact⟨a0,by omega,rfl⟩
  ·exact⟨0,by omega,rfl⟩
  ·exact⟨s0,by omega,rfl⟩
  ·exact⟨0,by omega,rfl⟩
 obtain⟨at_,a1s,a1t⟩:=hat
 obtain⟨ns,a',b',d',n1,n2,e1⟩:=Nh c (1+s0) at_ row none hr hl (by omega) a1s 9 0 [] none none none (by omega) (by simp) (by simp)
 have n1':ns.length=9:=by simpa using n1
 have a0w:∀x∈ns,PyData.strOk x=true:=λx hx=>(n2 x hx).1
 have a02:gf (bC 0) tT (f2 aq (aj 1) (f2 cC (f2 aW (f2 eN (aj 2) (fC (.int 7))) (f2 (jb cW bN) (fC (.int 5)) (aj 0))) (fC (.int 26)))) [none,some (.str "abcdefghijklmnopqrstuvwxyz"),some (.int c)] (su 0 6)=some (row.map .str):=by
  rw[Bd]
  have:=comp_map (T:=bC 0) (Tt:=tT) (Fe:=f2 aq (aj 1) (f2 cC (f2 aW (f2 eN (aj 2) (fC (.int 7))) (f2 (jb cW bN) (fC (.int 5)) (aj 0))) (fC (.int 26)))) (ρ:=[none,some (.str "abcdefghijklmnopqrstuvwxyz"),some (.int c)]) (f:=λk:Nat=> .int (k:Nat)) (g:=λk:Nat=> .str ⟨#[lch (c/7+5*(k:Int))]⟩) (λk=>[some (.int (k:Nat)),some (.str "abcdefghijklmnopqrstuvwxyz"),some (.int c)]) (List.range' 0 6) λk _=>⟨rfl,rfl,aC rfl (aC (aC (aC rfl rfl (fK c 7 (by omega) (by omega))) (aC rfl rfl (Jx 5 (k:Nat) (.inl ⟨by omega,by omega⟩))) rfl) rfl (cV _ 26 (by omega))) (Jq _).1⟩
  rw[this]
  simp[row]
 have a1m:gf (bC 0) (t2 (lU false) (aj 0) (fZ (Ab (fC (.str "cells thread put get swap add skip fence")) (aa (fC (.str " ")) aA)))) (aj 0) [none] (ns.map .str)=some ((ns.filter λx=>decide (x∈vU)).map .str):=by
  refine mV (λx=>decide (x∈vU)) (λx=>[some (.str x)]) ns λx hx=>⟨rfl,?_,rfl⟩
  refine dh rfl (jt (l:=vU.map .str) ?_) (Bp (a0w x hx) Ue false)
  exact words_of
 let odd:=ns.filter λx=>decide (x∈vU)
 have main:∃(res:List Str) (ρ:bw),res.length=9/\(∀x∈res,okN x)/\mH (aH 10 [.int c])=some (.rt (.lst (res.map .str)) .own ρ):=by
  have pre:mH (aH 10 [.int c])=(aL (gj (Dt (t2 (cR true) (aj 9) (fG aA)) (t2 (lO λi j=>decide (i<j)) (fB qQ (aa (aj 5) aA)) (fC (.int 9)))) (qY (tZ (aa (fC (.str "a")) (aa (fC (.str "b")) (aa (fC (.str "c")) (aa (fC (.str "ab")) (aa (fC (.str "ba")) (aa (fC (.str "z")) (aa (fC (.str "x")) (aa (fC (.str "xx")) (aa (fC (.str "y")) aA))))))))))) bJ) (nP 5)) (n6 c (1+s0) at_ row ns a' b' d' (some (.own (odd.map .str) true none))):=by
   unfold mH
   refine(aD (aM (i:=1) (d:= .str "abcdefghijklmnopqrstuvwxyz") rfl rfl)).trans ?_
   refine(aD (aM (i:=2) (d:= .int ((1+s0:Nat):Int)) (aC rfl (aC (aC rfl rfl (fK c 4 (by omega) (by omega))) rfl (cV _ 6 (by omega))) (by rw[<-hs0];simp[aW])) rfl)).trans ?_
   refine(aD (aM (i:=3) (d:= .int (at_:Nat)) (aC (x:= .lst [.int (a0:Nat),.int 0,.int (s0:Nat),.int 0]) ?_ (aC rfl rfl (cV c 4 (by omega))) (by rw[<-hm0];exact lK a1t)) rfl)).trans ?_
   ·show(aa _ _ _).bind tW=_
    rw[bG (x:= .int (a0:Nat)) (aC (aC rfl rfl (fK c 24 (by omega) (by omega))) rfl (by rw[ha0];exact cV _ _ (by omega))) (bG rfl (bG (x:= .int (s0:Nat)) (aC rfl rfl (by show pU (.int ((1+s0:Nat):Int)) (.int 1)=_;simp only[pU];congr 2;omega)) (aO rfl))),Option.bind_some]
    rfl
   refine(aD (fc (i:=4) (l:=row.map .str) (j5 (uD (n:=6) rfl (by omega)) (by simp[su]) a02) (bh λ_=>rfl))).trans ?_
   refine(aD (fc (i:=5) (l:=[]) rfl rfl)).trans ?_
   refine(aD ((tM (n:=9) rfl (by omega)).trans e1)).trans ?_
   refine(aD (fc (i:=9) (l:=odd.map .str) (j5 (jR rfl) (by simp;omega) a1m) (bh λ_=>rfl))).trans ?_
   rfl
  have k1:Dt (t2 (cR true) (aj 9) (fG aA)) (t2 (lO λi j=>decide (i<j)) (fB qQ (aa (aj 5) aA)) (fC (.int 9))) (vis (n6 c (1+s0) at_ row ns a' b' d' (some (.own (odd.map .str) true none))))=some (!odd.isEmpty||decide ((((dedup (ns.map .inr)).length:Nat):Int)<9)):=by
   refine uq (dh rfl rfl (R6 λx hx=>a0w x (List.mem_filter.mp hx).1)) λ_=>dh (kI (aO rfl) (x:= .int ((dedup (ns.map .inr)).length:Nat)) ?_) rfl rfl
   show qQ [.lst (ns.map .str)]=_
   simp only[qQ,yV,Option.bind_some,List.length_map,n1']
   rfl
  rw[pre]
  cases hk:(!odd.isEmpty||decide ((((dedup (ns.map .inr)).length:Nat):Int)<9))with
  |true=>
   rw[hk]at k1
   refine⟨nine,n6 c (1+s0) at_ row ns a' b' d' (some (.own (odd.map .str) true none)),rfl,Vs,mJ ?_⟩
   ·rw[gb k1]
    exact Hj (l:=nine.map .str) rfl rfl
  |false=>
   rw[hk]at k1
   refine⟨ns,n6 c (1+s0) at_ row ns a' b' d' (some (.own (odd.map .str) true none)),n1',n2,?_⟩
   rw[aD (by rw[cP k1];rfl)]
   rfl
 obtain⟨res,ρ,r1,r2,r3⟩:=main
 refine⟨res,r1,r2,?_⟩
 simp only[jo,List.length_cons,List.length_nil,if_true,r3,cI]
end K
structure oM (ns:List Str)(r:Rw):Prop where
 bx:Gf r
 WN:∀c,r.cell=some c->c∈ns.take 3
theorem yr {P:Rw->Prop}{G1 G2:GS}{ρ E E':bw}(h1:G1 ρ=some (.nx E))(h:∃r:Rw,P r/\G2 E=some (.rt r.d .new E')):∃r:Rw,P r/\aL G1 G2 ρ=some (.rt r.d .new E'):=by
 obtain⟨r,h2,h3⟩:=h
 exact⟨r,h2,by rw[aD h1,h3]⟩
namespace K
theorem a1i (c:Int)(ns:List Str)(left k:Int)(hl:ns.length=9)(hn:∀x∈ns,okN x)(hleft:0<=left):∃r:Rw,oM ns r/\lY [.int c,.lst (ns.map .str),.int left,.int k]=some (r.d,.new):=by
 obtain⟨i1,h1,h1'⟩:=tX (c/11) 3 (by omega)
 obtain⟨i2,h2,h2'⟩:=tX (c/33) 4 (by omega)
 obtain⟨i3,h3,h3'⟩:=tX (c/132) 4 (by omega)
 obtain⟨i4,h4,h4'⟩:=tX (c/53) 3 (by omega)
 obtain⟨i5,h5,h5'⟩:=tX c 11 (by omega)
 obtain⟨i6,h6,h6'⟩:=tX (c/53) 2 (by omega)
 have g1:ns[i1]?=some ns[i1]:=List.getElem?_eq_getElem (by omega)
 have g2:ns[3+i2]?=some ns[3+i2]:=List.getElem?_eq_getElem (by omega)
 have g3:ns[3+i3]?=some ns[3+i3]:=List.getElem?_eq_getElem (by omega)
 have m1:ns[i1]∈ns.take 3:=by
  have:(ns.take 3)[i1]?=some ns[i1]:=by rw[List.getElem?_take_of_lt (by omega)];exact g1
  exact List.mem_of_getElem? this
 have o2:PyData.strOk ns[3+i2]=true:=(hn _ (List.getElem_mem _)).1
 have o3:PyData.strOk ns[3+i3]=true:=(hn _ (List.getElem_mem _)).1
 generalize ns[i1]=spot at g1 m1
 generalize ns[3+i2]=box at g2 o2
 generalize ns[3+i3]=other at g3 o3
 have nm:∀{j:Nat}{x:Str},ns[j]?=some x->aq (.lst (ns.map .str)) (.int (j:Nat))=some (.str x):=λ{j x} e=>lK (by rw[List.getElem?_map,e];rfl)
 have hv:∃v:Va,(∀x∈v.bx,PyData.strOk x=true)/\([D.int (1+k),.int (c/528 % 100),.str box]:List D)[i4]?=some v.d:=by
  have:i4=0\/i4=1\/i4=2:=by omega
  rcases this with rfl|rfl|rfl
  ·exact⟨.no (1+k),by simp[Va.bx],rfl⟩
  ·exact⟨.no (c/528 % 100),by simp[Va.bx],rfl⟩
  ·exact⟨.nm box,by simp[Va.bx,o2],rfl⟩
 obtain⟨v,ov,ev⟩:=hv
 have hu:∃v:Va,(∀x∈v.bx,PyData.strOk x=true)/\([D.int (1+k),.str other]:List D)[i6]?=some v.d:=by
  have:i6=0\/i6=1:=by omega
  rcases this with rfl|rfl
  ·exact⟨.no (1+k),by simp[Va.bx],rfl⟩
  ·exact⟨.nm other,by simp[Va.bx,o3],rfl⟩
 obtain⟨u,ou,eu⟩:=hu
 have flv:∀v:Va,flat v.d=true:=λv=>by cases v<;>rfl
 let E:bw:=[some (.val (.int c) false),some (.val (.lst (ns.map .str)) false),some (.val (.int left) false),some (.val (.int k) false),some (.val (.str spot) true),some (.val (.str box) true),some (.val (.str other) true),some (.val v.d true),some (.val (.int (i5:Nat)) true)]
 have main:∃r:Rw,oM ns r/\sI (aH 9 [.int c,.lst (ns.map .str),.int left,.int k])=some (.rt r.d .new E):=by
  unfold sI
  have a4:f2 aq (aj 1) (f2 cC (f2 eN (aj 0) (fC (.int 11))) (fC (.int 3))) (vis (aH 9 [.int c,.lst (ns.map .str),.int left,.int k]))=some (.str spot):=aC rfl (aC (aC rfl rfl (fK c 11 (by omega) (by omega))) rfl (cV _ 3 (by omega))) (by rw[<-h1];exact nm g1)
  rw[aD (aM a4 rfl)]
  rw[aD (aM (i:=5) (d:= .str box) (aC rfl (aC rfl (aC (aC rfl rfl (fK c 33 (by omega) (by omega))) rfl (cV _ 4 (by omega))) (z:= .int ((3+i2:Nat):Int)) (by rw[<-h2];simp[aW])) (nm g2)) rfl)]
  rw[aD (aM (i:=6) (d:= .str other) (aC rfl (aC rfl (aC (aC rfl rfl (fK c 132 (by omega) (by omega))) rfl (cV _ 4 (by omega))) (z:= .int ((3+i3:Nat):Int)) (by rw[<-h3];simp[aW])) (nm g3)) rfl)]
  rw[aD (aM (i:=7) (d:=v.d) (aC (x:= .lst [.int (1+k),.int (c/528 % 100),.str box]) (by
   show(aa _ _ _).bind tW=_
   rw[bG (aC rfl rfl (z:= .int (1+k)) rfl) (bG (aC (aC rfl rfl (fK c 528 (by omega) (by omega))) rfl (cV _ 100 (by omega))) (aO rfl)),Option.bind_some]
   rfl) (aC (aC rfl rfl (fK c 53 (by omega) (by omega))) rfl (cV _ 3 (by omega))) (by rw[<-h4];exact lK ev)) (flv v))]
  rw[aD (aM (i:=8) (d:= .int (i5:Nat)) (aC rfl rfl (by rw[h5];exact cV c 11 (by omega))) rfl)]
  have toE:∀ρ,ρ=E->True:=λ_ _=>trivial
  have lt:∀n:Int,t2 (lO λi j=>decide (i<j)) (aj 8) (fC (.int n)) (vis E)=some (decide ((i5:Int)<n)):=λn=>dh rfl rfl rfl
  have Zy:∀n:Int,t2 (cR false) (aj 8) (fC (.int n)) (vis E)=some ((i5:Int)==n):=λn=>dh rfl rfl (Pj _ _)
  by_cases c1:(i5:Int)<4
  ·refine⟨.put spot v,⟨λx hx=>ov x hx,λc' e=>by cases e;exact m1⟩,mJ (ρ':=E) ?_⟩
   refine(gb (by show t2 _ _ _ (vis E)=_;rw[lt,decide_eq_true c1])).trans ?_
   exact bM (ρ:=E) (bT (bG rfl (bG rfl (aO rfl))) (by simp)) (eX _)
  refine yr ((cP (by show t2 _ _ _ (vis E)=_;rw[lt,decide_eq_false c1])).trans rfl) ?_
  by_cases c2:(i5:Int)<7
  ·refine⟨.get box spot,⟨λx hx=>by simp[Rw.bx]at hx;rw[hx];exact o2,λc' e=>by cases e;exact m1⟩,mJ (ρ':=E) ?_⟩
   refine(gb (by show t2 _ _ _ (vis E)=_;rw[lt,decide_eq_true c2])).trans ?_
   exact bM (ρ:=E) (bT (bG rfl (bG rfl (aO rfl))) (by simp)) (eX (.get box spot))
  refine yr ((cP (by show t2 _ _ _ (vis E)=_;rw[lt,decide_eq_false c2])).trans rfl) ?_
  by_cases c3:(i5:Int)=7
  ·refine⟨.swap box spot u,⟨λx hx=>by
    simp only[Rw.bx,List.mem_cons]at hx
    rcases hx with rfl|hx
    ·exact o2
    ·exact ou x hx,λc' e=>by cases e;exact m1⟩,mJ (ρ':=E) ?_⟩
   refine(gb (by show t2 _ _ _ (vis E)=_;rw[Zy];simp[c3])).trans ?_
   refine bM (ρ:=E) (bT (bG rfl (bG rfl (bG rfl (aO (x:=u.d) (aC (x:= .lst [.int (1+k),.str other]) ?_ (aC (aC rfl rfl (fK c 53 (by omega) (by omega))) rfl (cV _ 2 (by omega))) (by rw[<-h6];exact lK eu)))))) (by simp)) (eX (.swap box spot u))
   show(aa _ _ _).bind tW=_
   rw[bG (aC rfl rfl (z:= .int (1+k)) rfl) (aO rfl),Option.bind_some]
   rfl
  refine yr ((cP (by show t2 _ _ _ (vis E)=_;rw[Zy];simp[c3])).trans rfl) ?_
  have kk:Dt (t2 (cR false) (aj 8) (fC (.int 8))) (lR (t2 (cR false) (aj 2) (fC (.int 0))) (t2 (cR false) (aj 8) (fC (.int 9)))) (vis E)=some (((i5:Int)==8)||((left==0)&&((i5:Int)==9))):=uq (Zy 8) λ_=>lN (dh rfl rfl (Pj _ _)) λ_=>Zy 9
  cases c4:(((i5:Int)==8)||((left==0)&&((i5:Int)==9)))with
  |true=>
   refine⟨.add box (.nm other) v,⟨λx hx=>by
    simp only[Rw.bx,Va.bx,List.mem_cons,List.mem_append,List.not_mem_nil,or_false]at hx
    rcases hx with rfl|rfl|hx
    ·exact o2
    ·exact o3
    ·exact ov x hx,λc' e=>by cases e⟩,mJ (ρ':=E) ?_⟩
   refine(gb (by show Dt _ _ (vis E)=_;rw[kk,c4])).trans ?_
   exact bM (ρ:=E) (bT (bG rfl (bG rfl (bG rfl (aO rfl)))) (by simp)) (eX (.add box (.nm other) v))
  |false=>
   refine yr ((cP (by show Dt _ _ (vis E)=_;rw[kk,c4])).trans rfl) ?_
   by_cases c5:(i5:Int)=9
   ·have hp:0<1+(if 9<left then(9:Int)else left):=by split<;>omega
    obtain⟨n,hn1,hn2⟩:=tX (c/528) (1+(if 9<left then(9:Int)else left)) hp
    refine⟨.skip box n,⟨λx hx=>by simp[Rw.bx]at hx;rw[hx];exact o2,λc' e=>by cases e⟩,mJ (ρ':=E) ?_⟩
    refine(gb (by show t2 _ _ _ (vis E)=_;rw[Zy];simp[c5])).trans ?_
    refine bM (ρ:=E) (bT (bG rfl (bG rfl (aO (x:= .int (n:Nat)) (aC (aC rfl rfl (fK c 528 (by omega) (by omega))) (aC rfl (kI (bG rfl (aO rfl)) (x:= .int (if 9<left then 9 else left)) rfl) (z:= .int (1+(if 9<left then 9 else left))) rfl) (by rw[hn1];exact cV _ _ hp))))) (by simp)) (eX (.skip box n))
   ·refine yr ((cP (by show t2 _ _ _ (vis E)=_;rw[Zy];simp[c5])).trans rfl) ?_
    exact⟨.fence,⟨λx hx=>by simp[Rw.bx]at hx,λc' e=>by cases e⟩,bM (ρ:=E) (bT (aO rfl) (by simp)) (eX .fence)⟩
 obtain⟨r,h1,h2⟩:=main
 refine⟨r,h1,?_⟩
 simp only[lY,List.length_cons,List.length_nil,if_true,h2,cI]
end K
noncomputable def jw:Rw->Bool
 | .fence=>true
 |_=>false
theorem J7 (r:Rw):sr r.d (.tup [.str "fence"])=jw r:=by
 rw[qz,Rj]
 cases r<;>simp[Rw.word,Rw.parts,iG,rK,PyData.eqvAll,PyData.eqv,jw,bW,jX]
theorem Tz {r:Rw}(h:Gf r)(hc:∀c,r.cell=some c->PyData.strOk c=true):mR 1 r.d=true:=by
 have va:∀v:Va,(∀x∈v.bx,PyData.strOk x=true)->mR 0 v.d=true:=λv hv=>by
  cases v with
  |nm x=>exact hv x (by simp[Va.bx])
  |no i=>rfl
 have hw:=wW r
 rw[qz]
 simp only[mR,List.all_cons,hw,Bool.true_and]
 cases r with
 |put c v=>simp[Rw.parts,mR,hc c rfl,va v λx hx=>h x hx]
 |get b c=>simp[Rw.parts,mR,hc c rfl,h b (by simp[Rw.bx])]
 |swap b c v=>simp[Rw.parts,mR,hc c rfl,h b (by simp[Rw.bx]),va v λx hx=>h x (by simp[Rw.bx,hx])]
 |add b v u=>simp[Rw.parts,mR,h b (by simp[Rw.bx]),va v λx hx=>h x (by simp[Rw.bx,hx]),va u λx hx=>h x (by simp[Rw.bx,hx])]
 |skip b n=>simp[Rw.parts,mR,h b (by simp[Rw.bx])]
 |fence=>rfl
theorem oM.sh {ns:List Str}{r:Rw}(h:oM ns r)(hn:∀x∈ns,okN x):mR 1 r.d=true:=Tz h.bx λc e=>(hn c (List.mem_of_mem_take (h.WN c e))).1
theorem K7:mR 1 (.tup [.str "fence"])=true:=by simp[mR,JD]
theorem HS {ns:List Str}{r:Rw}(h:oM ns r)(hn:∀x∈ns,okN x):cR false r.d (.tup [.str "fence"])=some (.bl (jw r)):=by
 unfold cR
 rw[gw (h.sh hn),gw K7,J7]
 rfl
theorem J0 {ns:List Str}{t:List Rw}(h:∀r∈t,oM ns r)(hn:∀x∈ns,okN x):yO (.lst (t.map Rw.d)) [.tup [.str "fence"]]=some (.int ((t.countP jw:Nat):Int)):=by
 have h1:Qo (.tup [.str "fence"]) (t.map Rw.d)=true:=by
  unfold Qo
  rw[gw K7,gw (n:=2)]
  ·rfl
  ·simp only[mR,List.all_eq_true,List.mem_map]
   rintro d ⟨r,hr,rfl⟩
   exact(h r hr).sh hn
 simp only[yO,h1,if_true]
 congr 3
 rw[List.countP_map]
 congr 1
 funext r
 exact J7 r
theorem J8 (ns:List Str):oM ns .fence:=⟨λx hx=>by simp[Rw.bx]at hx,λc e=>by cases e⟩
namespace K
noncomputable def Ih:GS:=(aL (aZ 8 (aN cg [] (aa (aN aQ [] (aa (aj 0) (aa (f2 aW (f2 aW (fC (.int 5)) (f2 (jb cW bN) (fC (.int 8)) (aj 1))) (aj 7)) aA))) (aa (f2 aW (f2 (jb cW bN) (fC (.int 10)) (aj 1)) (aj 7)) aA)))) (aL (aZ 9 (aN lY [] (aa (aj 8) (aa (aj 2) (aa (f2 pU (f2 pU (aj 4) (fC (.int 1))) (aj 7)) (aa (f2 aW (f2 (jb cW bN) (fC (.int 10)) (aj 1)) (aj 7)) aA)))))) (aL (aZ 10 (uQ "list" yO (aj 5) (aa (bL (aa (fC (.str "fence")) aA)) aA))) (aL (gj (lR (t2 (cR false) (aj 10) (aj 6)) (t2 (cR false) (aj 9) (bL (aa (fC (.str "fence")) aA)))) (aZ 9 (bL (aa (fC (.str "get")) (aa (f2 aq (aj 2) (fC (.int 3))) (aa (f2 aq (aj 2) (fC (.int 0))) aA))))) bJ) (aL (gj (t2 (cR false) (f2 pU (aj 7) (aj 10)) (aj 3)) (aZ 9 (bL (aa (fC (.str "fence")) aA))) bJ) (fU 5 (aj 9)))))))
noncomputable def Du (l:List Int)(ti:Nat)(ns:List Str)(most:Int)(many:Nat)(found:List Rw)(few:Int)(a b c d:Option L):bw:=[some (.val (.uR l) false),some (.val (.int (ti:Nat)) false),some (.val (.lst (ns.map .str)) false),some (.val (.int most) false),some (.val (.int (many:Nat)) false),some (.own (found.map Rw.d) true none),some (.val (.int few) true),a,b,c,d]
theorem Wq (l:List Int)(ti:Nat)(ns:List Str)(most:Int)(many:Nat)(found:List Rw)(few:Int)(b c d:Option L)(k:Nat)(hti:ti<10)(hl:ns.length=9)(hn:∀x∈ns,okN x)(hk:k<many)(hm:many<100)(hf:∀r∈found,oM ns r)(hfl:found.length<100):
 ∃r b' c' d',oM ns r/\Ih (Du l ti ns most many found few (some (.val (.int (k:Nat)) true)) b c d)=some (.nx (Du l ti ns most many (found++[r]) few (some (.val (.int (k:Nat)) true)) b' c' d')):=by
 obtain⟨v0,e0⟩:=mG l (5+8*ti+k)
 obtain⟨v1,e1,_⟩:=uO v0 ((10*ti+k:Nat):Int) (by omega) (by omega)
 obtain⟨r,hr,e2⟩:=a1i v1 ns ((many:Int) - 1 - k) ((10*ti+k:Nat):Int) hl hn (by omega)
 have m8:jb cW bN (.int 8) (.int (ti:Nat))=some (.int (8*(ti:Int))):=Jx 8 _ (.inl ⟨by omega,by omega⟩)
 have m10:jb cW bN (.int 10) (.int (ti:Nat))=some (.int (10*(ti:Int))):=Jx 10 _ (.inl ⟨by omega,by omega⟩)
 have x10:∀ρ:aK,at? ρ 1=some (.int (ti:Nat))->at? ρ 7=some (.int (k:Nat))->f2 aW (f2 (jb cW bN) (fC (.int 10)) (aj 1)) (aj 7) ρ=some (.int ((10*ti+k:Nat):Int)):=λρ h1 h7=>aC (aC rfl h1 m10) h7 (by simp[aW])
 have x8:∀ρ:aK,at? ρ 1=some (.int (ti:Nat))->at? ρ 7=some (.int (k:Nat))->f2 aW (f2 aW (fC (.int 5)) (f2 (jb cW bN) (fC (.int 8)) (aj 1))) (aj 7) ρ=some (.int ((5+8*ti+k:Nat):Int)):=λρ h1 h7=>aC (aC rfl (aC rfl h1 m8) rfl) h7 (by simp[aW])
 let E (row:Rw):bw:=Du l ti ns most many found few (some (.val (.int (k:Nat)) true)) (some (.val (.int v1) true)) (some (.val row.d true)) (some (.val (.int ((found.countP jw:Nat):Int)) true))
 have pre:Ih (Du l ti ns most many found few (some (.val (.int (k:Nat)) true)) b c d)=aL (gj (lR (t2 (cR false) (aj 10) (aj 6)) (t2 (cR false) (aj 9) (bL (aa (fC (.str "fence")) aA)))) (aZ 9 (bL (aa (fC (.str "get")) (aa (f2 aq (aj 2) (fC (.int 3))) (aa (f2 aq (aj 2) (fC (.int 0))) aA))))) bJ) (aL (gj (t2 (cR false) (f2 pU (aj 7) (aj 10)) (aj 3)) (aZ 9 (bL (aa (fC (.str "fence")) aA))) bJ) (fU 5 (aj 9))) (E r):=by
  unfold Ih
  refine(aD (aM (i:=8) (d:= .int v1) (aU (bG (aU (bG rfl (aO (x8 _ rfl rfl))) e0 rfl) (aO (x10 _ rfl rfl))) e1 rfl) rfl)).trans ?_
  refine(aD (aM (i:=9) (d:=r.d) (aU (bG rfl (bG rfl (bG (aC (aC rfl rfl (z:= .int ((many:Int) - 1)) rfl) rfl (z:= .int ((many:Int) - 1 - k)) rfl) (aO (x10 _ rfl rfl))))) e2 rfl) (eX r))).trans ?_
  refine(aD (aM (i:=10) (d:= .int ((found.countP jw:Nat):Int)) (pW rfl rfl (aO (bT (aO rfl) (by simp))) (J0 hf hn)) rfl)).trans ?_
  rfl
 have st1:∃r1:Rw,oM ns r1/\gj (lR (t2 (cR false) (aj 10) (aj 6)) (t2 (cR false) (aj 9) (bL (aa (fC (.str "fence")) aA)))) (aZ 9 (bL (aa (fC (.str "get")) (aa (f2 aq (aj 2) (fC (.int 3))) (aa (f2 aq (aj 2) (fC (.int 0))) aA))))) bJ (E r)=some (.nx (E r1)):=by
  have kk:lR (t2 (cR false) (aj 10) (aj 6)) (t2 (cR false) (aj 9) (bL (aa (fC (.str "fence")) aA))) (vis (E r))=some ((((found.countP jw:Nat):Int)==few)&&jw r):=lN (dh rfl rfl (Pj _ _)) λ_=>dh rfl (bT (aO rfl) (by simp)) (HS hr hn)
  cases hc:((((found.countP jw:Nat):Int)==few)&&jw r)with
  |false=>exact⟨r,hr,(cP (by rw[kk,hc])).trans rfl⟩
  |true=>
   have g3:ns[3]?=some ns[3]:=List.getElem?_eq_getElem (by omega)
   have g0:ns[0]?=some ns[0]:=List.getElem?_eq_getElem (by omega)
   have m0:ns[0]∈ns.take 3:=by
    have:(ns.take 3)[0]?=some ns[0]:=by rw[List.getElem?_take_of_lt (by omega)];exact g0
    exact List.mem_of_getElem? this
   have o3:PyData.strOk ns[3]=true:=(hn _ (List.getElem_mem _)).1
   refine⟨.get ns[3] ns[0],⟨λx hx=>by simp[Rw.bx]at hx;rw[hx];exact o3,λc' e=>by cases e;exact m0⟩,(gb (by rw[kk,hc])).trans ?_⟩
   refine(aM (i:=9) (d:=(Rw.get ns[3] ns[0]).d) (bT (bG rfl (bG (aC rfl rfl (z:= .str ns[3]) (lK (j:=3) (by rw[List.getElem?_map,g3];rfl))) (aO (aC rfl rfl (z:= .str ns[0]) (lK (j:=0) (by rw[List.getElem?_map,g0];rfl)))))) (by simp)) (eX (.get ns[3] ns[0]))).trans rfl
 obtain⟨r1,hr1,st1⟩:=st1
 have st2:∃r2:Rw,oM ns r2/\gj (t2 (cR false) (f2 pU (aj 7) (aj 10)) (aj 3)) (aZ 9 (bL (aa (fC (.str "fence")) aA))) bJ (E r1)=some (.nx (E r2)):=by
  have kk:t2 (cR false) (f2 pU (aj 7) (aj 10)) (aj 3) (vis (E r1))=some (((k:Int) - ((found.countP jw:Nat):Int))==most):=dh (aC rfl rfl rfl) rfl (Pj _ _)
  cases hc:(((k:Int) - ((found.countP jw:Nat):Int))==most)with
  |false=>exact⟨r1,hr1,(cP (by rw[kk,hc])).trans rfl⟩
  |true=>exact⟨.fence,J8 ns,(gb (by rw[kk,hc])).trans ((aM (i:=9) (d:=Rw.fence.d) (bT (aO rfl) (by simp)) (eX .fence)).trans rfl)⟩
 obtain⟨r2,hr2,st2⟩:=st2
 refine⟨r2,some (.val (.int v1) true),some (.val r2.d true),some (.val (.int ((found.countP jw:Nat):Int)) true),hr2,?_⟩
 rw[pre,aD st1,aD st2]
 refine(iJ (i:=5) (d:=r2.d) (l:=found.map Rw.d) rfl (by rw[sizeLine_eq];simp;omega) rfl (eX r2)).trans ?_
 rw[show found.map Rw.d++[r2.d]=(found++[r2]).map Rw.d by simp]
 rfl
theorem O6 (l:List Int)(ti:Nat)(ns:List Str)(most:Int)(many:Nat)(few:Int)(hti:ti<10)(hl:ns.length=9)(hn:∀x∈ns,okN x)(hm:many<50):∀(n i:Nat) (found:List Rw) (a b c d:Option L),i+n=many->found.length=i->(∀r∈found,oM ns r)->
 ∃(found':List Rw) (a' b' c' d':Option L),found'.length=many/\(∀r∈found',oM ns r)/\dX (bf 7) Ih true ((List.range' i n).map λk=>D.int (k:Nat)) (Du l ti ns most many found few a b c d)=some (.nx (Du l ti ns most many found' few a' b' c' d'))
 |0,i,found,a,b,c,d,h1,h2,ho=>⟨found,a,b,c,d,by omega,ho,rfl⟩
 |n+1,i,found,a,b,c,d,h1,h2,ho=>by
  obtain⟨r,b',c',d',hr,e1⟩:=Wq l ti ns most many found few b c d i hti hl hn (by omega) (by omega) ho (by omega)
  obtain⟨f',a'',b'',c'',d'',q1,q2,q3⟩:=O6 l ti ns most many few hti hl hn hm n (i+1) (found++[r]) (some (.val (.int (i:Nat)) true)) b' c' d' (by omega) (by simp;omega) (by
   intro y hy
   rcases List.mem_append.mp hy with hy|hy
   ·exact ho y hy
   ·rw[List.mem_singleton.mp hy];exact hr)
  refine⟨f',a'',b'',c'',d'',q1,q2,?_⟩
  rw[qy,<-q3]
  exact gG rfl e1
theorem U7 (l:List Int)(ti:Nat)(ns:List Str)(most:Int)(many:Nat)(hti:ti<10)(hl:ns.length=9)(hn:∀x∈ns,okN x)(hm:many<50):∃t:List Rw,t.length=many/\(∀r∈t,oM ns r)/\eG [.uR l,.int (ti:Nat),.lst (ns.map .str),.int most,.int (many:Nat)]=some (.lst (t.map Rw.d),.own):=by
 let few:Int:=if 3<most then 5 else 2
 obtain⟨t,a',b',c',d',q1,q2,q3⟩:=O6 l ti ns most many few hti hl hn hm many 0 [] none none none none (by omega) rfl (by simp)
 refine⟨t,q1,q2,?_⟩
 have e:oF (aH 11 [.uR l,.int (ti:Nat),.lst (ns.map .str),.int most,.int (many:Nat)])=some (.rt (.lst (t.map Rw.d)) .own (Du l ti ns most many t few a' b' c' d')):=by
  unfold oF
  refine(aD (fc (i:=5) (l:=[]) rfl rfl)).trans ?_
  refine(aD (aM (i:=6) (d:= .int few) (aC (x:= .lst [.int 2,.int 5]) rfl (kI (x:= .int (if 3<most then 1 else 0)) (aO (aC rfl rfl rfl)) ?_) ?_) rfl)).trans ?_
  ·show kW oN kE [.bl (decide (3<most))]=_
   by_cases hh:3<most<;>simp[kW,oN,hh]
  ·by_cases hh:3<most
   ·simp only[few,hh,if_true];exact lK (j:=1) rfl
   ·simp only[few,hh,if_false];exact lK (j:=0) rfl
  refine(aD ((tM (n:=many) rfl (by omega)).trans q3)).trans ?_
  rfl
 simp only[eG,List.length_cons,List.length_nil,if_true,e,cI]
end K
inductive SP where
 |nm (j:Nat)
 |no (i:Int) (b:Bool)
noncomputable def SP.d (ns:List Str)(m:Int):SP->D
 | .nm j=> .str (ns.getD j "")
 | .no i b=> .int (i+m*(if b then 1 else 0))
noncomputable def Yr (w:Str):Option Int:=if Txt.isdigit w=true then(if w.length<=640 then PySem.intText? w else none)else some 0
noncomputable def ptS (kw:Str×Str):Option SP:=(Yr kw.2).bind λn=>if kw.1=="c" then(if 0<=n/\n<9 then some (.nm n.toNat)else none)else if(kw.2=="p"||kw.2=="q")=true then(if 0<=Txt.find "pq" kw.2/\Txt.find "pq" kw.2<6 then some (.nm (3+(Txt.find "pq" kw.2).toNat))else none)else some (.no n (kw.1=="v"))
noncomputable def Vx (kw:Str×Str):Bool:=PyData.strOk kw.1&&PyData.strOk kw.2
theorem a1G:PyData.strOk "p"=true:=by decide+kernel
theorem a1H:PyData.strOk "q"=true:=by decide+kernel
theorem a1F:PyData.strOk "c"=true:=by decide+kernel
theorem a1I:PyData.strOk "v"=true:=by decide+kernel
theorem a0o {w:Str}(h:PyData.strOk w=true):lU false (.str w) (.tup [.str "p",.str "q"])=some (.bl (w=="p"||w=="q")):=by
 have hs:sE (.tup [.str "p",.str "q"])=true:=gw (n:=1) (by simp[mR,a1G,a1H])
 have e:∀a b:Str,(a==b)=(b==a):=λa b=>by
  by_cases h:a=b
  ·subst h;rfl
  ·have h':¬b=a:=λe=>h e.symm
   rw[beq_eq_false_iff_ne.mpr h,beq_eq_false_iff_ne.mpr h']
 unfold lU
 simp only[nD,Option.bind_some,mD _ h,hs,Bool.and_self,if_true,List.any_cons,List.any_nil,eq_str,Bool.or_false]
 rw[e "p" w,e "q" w]
 rfl
theorem WX {a b:Str}(ha:PyData.strOk a=true)(hb:PyData.strOk b=true):cR false (.str a) (.str b)=some (.bl (a==b)):=by
 unfold cR
 rw[mD _ ha,mD _ hb,eq_str]
 rfl
theorem M7 {ns:List Str}{j:Nat}(h:j<ns.length):aq (.lst (ns.map .str)) (.int (j:Nat))=some (.str (ns.getD j "")):=lK (by rw[List.getElem?_map,List.getElem?_eq_getElem h];simp[List.getD_eq_getElem?_getD,List.getElem?_eq_getElem h])
theorem wC (ns:List Str)(m:Int)(s:SP):flat (s.d ns m)=true:=by cases s<;>rfl
namespace K
noncomputable def shB:GS:=(aL (aZ 12 (Ao (tV (XR "str" sY (aj 11))) (fB (kW oN kE) (aa (aj 11) aA)) (fC (.int 0)))) (aL (aZ 13 (f2 aW (aj 12) (f2 (jb cW bN) (aj 2) (fB (kW oN kE) (aa (f2 (cR false) (aj 10) (fC (.str "v"))) aA))))) (aL (gj (t2 (lU false) (aj 11) (bL (aa (fC (.str "p")) (aa (fC (.str "q")) aA)))) (aZ 13 (f2 aq (aj 1) (f2 aW (fC (.int 3)) (uQ "str" Fy (fC (.str "pq")) (aa (aj 11) aA))))) bJ) (fU 9 (Ao (t2 (cR false) (aj 10) (fC (.str "c"))) (f2 aq (aj 1) (aj 12)) (aj 13))))))
noncomputable def Dm (a0:Option L)(ns:List Str)(m:Int)(a3 a4 a5 a6 a7 a8:Option L)(ps:List D)(a10 a11 a12 a13:Option L):bw:=[a0,some (.val (.lst (ns.map .str)) false),some (.val (.int m) false),a3,a4,a5,a6,a7,a8,some (.own ps true none),a10,a11,a12,a13]
theorem Wj (a0:Option L)(ns:List Str)(m:Int)(a3 a4 a5 a6 a7 a8:Option L)(ps:List D)(a12 a13:Option L)(kw:Str×Str)(s:SP)(f:Bool)(hl:ns.length=9)(hs:ptS kw=some s)(ho:Vx kw=true)(hp:ps.length<100):
 ∃p6 j4,shB (Dm a0 ns m a3 a4 a5 a6 a7 a8 ps (some (.val (.str kw.1) f)) (some (.val (.str kw.2) f)) a12 a13)=some (.nx (Dm a0 ns m a3 a4 a5 a6 a7 a8 (ps++[s.d ns m]) (some (.val (.str kw.1) f)) (some (.val (.str kw.2) f)) p6 j4)):=by
 obtain⟨kind,w⟩:=kw
 simp only[Vx,Bool.and_eq_true]at ho
 unfold ptS at hs
 cases hn:Yr w with
 |none=>simp only[hn]at hs;cases hs
 |some n=>
  simp only[hn,Option.bind_some]at hs
  let E (p6 j4:Option L):bw:=Dm a0 ns m a3 a4 a5 a6 a7 a8 ps (some (.val (.str kind) f)) (some (.val (.str w) f)) p6 j4
  have g12:aZ 12 (Ao (tV (XR "str" sY (aj 11))) (fB (kW oN kE) (aa (aj 11) aA)) (fC (.int 0))) (E a12 a13)=some (.nx (E (some (.val (.int n) true)) a13)):=by
   refine(aM (i:=12) (d:= .int n) ?_ rfl).trans rfl
   unfold Yr at hn
   refine lE (x:=Txt.isdigit w) rfl (λz=>?_) (λz=>?_)
   ·rw[if_pos z]at hn
    split at hn
    ·rename_i hz
     refine kI (aO rfl) ?_
     show kW oN kE [.str w]=_
     simp only[kW,oN,kE]
     rw[if_pos hz,hn]
     rfl
    ·cases hn
   ·rw[if_neg (by rw[z];simp)]at hn
    cases hn
    rfl
  have g13:aZ 13 (f2 aW (aj 12) (f2 (jb cW bN) (aj 2) (fB (kW oN kE) (aa (f2 (cR false) (aj 10) (fC (.str "v"))) aA)))) (E (some (.val (.int n) true)) a13)=some (.nx (E (some (.val (.int n) true)) (some (.val (.int (n+m*(if(kind=="v")=true then 1 else 0))) true)))):=by
   refine(aM (i:=13) (aC rfl (aC rfl (kI (x:= .int (if(kind=="v")=true then 1 else 0)) (aO (aC rfl rfl (WX ho.1 a1I))) ?_) (Jx m _ (.inr ?_))) rfl) rfl).trans rfl
   ·cases(kind==("v":Str))<;>rfl
   ·cases(kind==("v":Str))<;>simp
  have kpq:∀j4,t2 (lU false) (aj 11) (bL (aa (fC (.str "p")) (aa (fC (.str "q")) aA))) (vis (E (some (.val (.int n) true)) j4))=some (w=="p"||w=="q"):=λj4=>dh rfl (bT (bG rfl (aO rfl)) (by simp)) (a0o ho.2)
  have kc:∀j4,t2 (cR false) (aj 10) (fC (.str "c")) (vis (E (some (.val (.int n) true)) j4))=some (kind=="c"):=λj4=>dh rfl rfl (WX ho.1 a1F)
  have app:∀(j4:Option L) (d:D),Ao (t2 (cR false) (aj 10) (fC (.str "c"))) (f2 aq (aj 1) (aj 12)) (aj 13) (vis (E (some (.val (.int n) true)) j4))=some d->flat d=true->fU 9 (Ao (t2 (cR false) (aj 10) (fC (.str "c"))) (f2 aq (aj 1) (aj 12)) (aj 13)) (E (some (.val (.int n) true)) j4)=some (.nx (Dm a0 ns m a3 a4 a5 a6 a7 a8 (ps++[d]) (some (.val (.str kind) f)) (some (.val (.str w) f)) (some (.val (.int n) true)) j4)):=λj4 d h1 h2=>
   (iJ (i:=9) (l:=ps) rfl (by rw[sizeLine_eq];omega) h1 h2).trans rfl
  unfold shB
  have last:∃j4,aL (gj (t2 (lU false) (aj 11) (bL (aa (fC (.str "p")) (aa (fC (.str "q")) aA)))) (aZ 13 (f2 aq (aj 1) (f2 aW (fC (.int 3)) (uQ "str" Fy (fC (.str "pq")) (aa (aj 11) aA))))) bJ) (fU 9 (Ao (t2 (cR false) (aj 10) (fC (.str "c"))) (f2 aq (aj 1) (aj 12)) (aj 13))) (E (some (.val (.int n) true)) (some (.val (.int (n+m*(if(kind=="v")=true then 1 else 0))) true)))
   =some (.nx (Dm a0 ns m a3 a4 a5 a6 a7 a8 (ps++[s.d ns m]) (some (.val (.str kind) f)) (some (.val (.str w) f)) (some (.val (.int n) true)) j4)):=by
   have pq:(w=="p"||w=="q")=true->(0<=Txt.find "pq" w/\Txt.find "pq" w<6)->gj (t2 (lU false) (aj 11) (bL (aa (fC (.str "p")) (aa (fC (.str "q")) aA)))) (aZ 13 (f2 aq (aj 1) (f2 aW (fC (.int 3)) (uQ "str" Fy (fC (.str "pq")) (aa (aj 11) aA))))) bJ (E (some (.val (.int n) true)) (some (.val (.int (n+m*(if(kind=="v")=true then 1 else 0))) true)))
    =some (.nx (E (some (.val (.int n) true)) (some (.val (.str (ns.getD (3+(Txt.find "pq" w).toNat) "")) true)))):=λz1 z2=>by
    refine(gb (by rw[kpq,z1])).trans ((aM (i:=13) (d:= .str (ns.getD (3+(Txt.find "pq" w).toNat) "")) (aC rfl (aC rfl (pW rfl rfl (aO rfl) (d:= .int (Txt.find "pq" w)) rfl) (z:= .int ((3+(Txt.find "pq" w).toNat:Nat):Int)) (by simp only[aW];congr 2;omega)) (M7 (by omega))) rfl).trans rfl)
   cases hc:(kind==("c":Str))with
   |true=>
    rw[hc]at hs
    simp only[if_true]at hs
    split at hs
    case isFalse=>cases hs
    rename_i hz
    cases hs
    have fin:∀j4,Ao (t2 (cR false) (aj 10) (fC (.str "c"))) (f2 aq (aj 1) (aj 12)) (aj 13) (vis (E (some (.val (.int n) true)) j4))=some ((SP.nm n.toNat).d ns m):=λj4=>lE (by rw[kc,hc]) (λ_=>aC rfl rfl (by
     show aq (.lst (ns.map .str)) (.int n)=_
     have:=M7 (ns:=ns) (j:=n.toNat) (by omega)
     rw[show((n.toNat:Nat):Int)=n by omega]at this
     exact this)) (λz=>by cases z)
    cases hpq:(w=="p"||w=="q")with
    |false=>exact⟨_,(aD ((cP (by rw[kpq,hpq])).trans rfl)).trans (app _ _ (fin _) (wC _ _ _))⟩
    |true=>
     by_cases z2:0<=Txt.find "pq" w/\Txt.find "pq" w<6
     ·exact⟨_,(aD (pq hpq z2)).trans (app _ _ (fin _) (wC _ _ _))⟩
     ·exfalso
      have:w="p"\/w="q":=by simpa using hpq
      rcases this with rfl|rfl
      ·exact z2 (by decide+kernel)
      ·exact z2 (by decide+kernel)
   |false=>
    rw[hc]at hs
    simp only[Bool.false_eq_true,if_false]at hs
    cases hpq:(w=="p"||w=="q")with
    |true=>
     rw[hpq]at hs
     simp only[if_true]at hs
     split at hs
     case isFalse=>cases hs
     rename_i hz
     cases hs
     exact⟨_,(aD (pq hpq hz)).trans (app _ _ (lE (by rw[kc,hc]) (λz=>by cases z) λ_=>rfl) (wC _ _ (.nm _)))⟩
    |false=>
     rw[hpq]at hs
     simp only[Bool.false_eq_true,if_false]at hs
     cases hs
     exact⟨_,(aD ((cP (by rw[kpq,hpq])).trans rfl)).trans (app _ _ (lE (by rw[kc,hc]) (λz=>by cases z) λ_=>rfl) (wC _ _ (.no _ _)))⟩
  obtain⟨j4,last⟩:=last
  exact⟨_,j4,((aD g12).trans (aD g13)).trans last⟩
noncomputable def pairD (kw:Str×Str):D:= .tup [.str kw.1,.str kw.2]
theorem NZ (a0:Option L)(ns:List Str)(m:Int)(a3 a4 a5 a6 a7 a8:Option L)(f:Bool)(hl:ns.length=9):∀(kws:List (Str×Str)) (ss:List SP) (ps:List D) (a10 a11 a12 a13:Option L),kws.map ptS=ss.map some->kws.all Vx=true->ps.length+kws.length<100->
 ∃b10 sV p6 j4,dX (kJ 2 (cJ (bf 10) (cJ (bf 11) lF))) shB f (kws.map pairD) (Dm a0 ns m a3 a4 a5 a6 a7 a8 ps a10 a11 a12 a13)=some (.nx (Dm a0 ns m a3 a4 a5 a6 a7 a8 (ps++ss.map (SP.d ns m)) b10 sV p6 j4))
 |[],[],ps,a10,a11,a12,a13,_,_,_=>⟨a10,a11,a12,a13,by simp[dX]⟩
 |[],_::_,ps,a10,a11,a12,a13,h,_,_=>by simp at h
 |_::_,[],ps,a10,a11,a12,a13,h,_,_=>by simp at h
 |kw::kws,s::ss,ps,a10,a11,a12,a13,h,ho,hp=>by
  simp only[List.map_cons,List.cons.injEq]at h
  simp only[List.all_cons,Bool.and_eq_true]at ho
  simp only[List.length_cons]at hp
  obtain⟨p6,j4,e1⟩:=Wj a0 ns m a3 a4 a5 a6 a7 a8 ps a12 a13 kw s f hl h.1 ho.1 (by omega)
  obtain⟨UG,QW,c12,Kf,e2⟩:=NZ a0 ns m a3 a4 a5 a6 a7 a8 f hl kws ss (ps++[s.d ns m]) (some (.val (.str kw.1) f)) (some (.val (.str kw.2) f)) p6 j4 h.2 ho.2 (by simp;omega)
  refine⟨UG,QW,c12,Kf,?_⟩
  rw[List.map_cons,List.map_cons,show ps++s.d ns m::ss.map (SP.d ns m)=ps++[s.d ns m]++ss.map (SP.d ns m) by simp,<-e2]
  exact gG rfl e1
end K
noncomputable def chars (f:Str):List Str:=f.cps.toList.map λc=>⟨#[c]⟩
theorem OJ (f:Str):chD f=(chars f).map .str:=by simp[chD,chars]
theorem Gz:∀(a b:List Str),vV (a.map .str) (b.map .str)=(a.zip b).map K.pairD
 |[],_=>by simp[vV]
 |_::_,[]=>by simp[vV]
 |x::a,y::b=>by
  have:=Gz a b
  unfold vV at this ⊢
  simp only[List.map_cons,List.zip_cons_cons,this]
  rfl
noncomputable def MK (w:Str):Option Str:=if w="put" then some "cv" else if w="get" then some "bc" else if w="swap" then some "bcv" else if w="add" then some "bvv" else if w="skip" then some "bn" else if w="fence" then some "" else none
noncomputable def XS:FD:=(FQ [((fC (.str "put")),(fC (.str "cv"))),((fC (.str "get")),(fC (.str "bc"))),((fC (.str "swap")),(fC (.str "bcv"))),((fC (.str "add")),(fC (.str "bvv"))),((fC (.str "skip")),(fC (.str "bn"))),((fC (.str "fence")),(fC (.str "")))])
noncomputable def WR:D:= .dct [.inr "put",.inr "get",.inr "swap",.inr "add",.inr "skip",.inr "fence"] [.str "cv",.str "bc",.str "bcv",.str "bvv",.str "bn",.str ""]
theorem V0 (ρ:aK):XS ρ=some WR:=rfl
theorem Vb {w f:Str}(h:MK w=some f):aq WR (.str w)=some (.str f):=by
 unfold MK at h
 split at h
 ·rename_i e;subst e;cases h;rfl
 split at h
 ·rename_i e;subst e;cases h;rfl
 split at h
 ·rename_i e;subst e;cases h;rfl
 split at h
 ·rename_i e;subst e;cases h;rfl
 split at h
 ·rename_i e;subst e;cases h;rfl
 split at h
 ·rename_i e;subst e;cases h;rfl
 cases h
noncomputable def rJ (z y:Str):Option (List Str):=if(y.length==0)=false/\z.length<=sizeLine/\(Builtin.Str.partsBetween z (Builtin.Str.occurrences z y 0 z.length (z.length+1)) y.length).length<=sizeLine/\(Txt.split z y).length<=sizeLine then some (Txt.split z y)else none
theorem Dq {z y:Str}{l:List Str}(h:rJ z y=some l):pY z y=some (l.map .str):=by
 unfold rJ at h
 unfold pY
 split at h
 ·rename_i hc
  cases h
  rw[if_pos hc]
 ·cases h
noncomputable def Ir {α β:Type}(f:α->Option β):List α->Option (List β)
 |[]=>some []
 |a::l=>(f a).bind λb=>(Ir f l).map λr=>b::r
theorem vY {α β:Type}{f:α->Option β}:∀{l:List α}{r:List β},Ir f l=some r->l.map f=r.map some
 |[],r,h=>by cases h;rfl
 |a::l,r,h=>by
  simp only[Ir]at h
  cases e1:f a with
  |none=>rw[e1]at h;cases h
  |some b=>
   rw[e1]at h
   cases e2:Ir f l with
   |none=>rw[e2]at h;cases h
   |some r'=>
    rw[e2]at h
    cases h
    simp[e1,vY e2]
noncomputable def parseRow (z:Str):Option (Str×List SP):=(rJ z " ").bind λws=>match ws with
 |[]=>none
 |w::ws=>(MK w).bind λf=>if((chars f).zip ws).all Vx=true/\((chars f).zip ws).length<50/\(w::ws).length<=50 then(Ir ptS ((chars f).zip ws)).map λss=>(w,ss)else none
noncomputable def sy (ns:List Str)(m:Int)(x:Str×List SP):D:= .tup (.str x.1::x.2.map (SP.d ns m))
theorem Pn (ns:List Str)(m:Int)(x:Str×List SP):flat (sy ns m x)=true:=by
 simp only[sy,flat,flat.flats,Bool.true_and]
 exact bh (wC ns m)
namespace K
noncomputable def rwB:GS:=(aL (aZ 7 (fZ (Ab (aj 6) (aa (fC (.str " ")) aA)))) (aL (aZ 8 (f2 aq (FQ [((fC (.str "put")),(fC (.str "cv"))),((fC (.str "get")),(fC (.str "bc"))),((fC (.str "swap")),(fC (.str "bcv"))),((fC (.str "add")),(fC (.str "bvv"))),((fC (.str "skip")),(fC (.str "bn"))),((fC (.str "fence")),(fC (.str "")))]) (f2 aq (aj 7) (fC (.int 0))))) (aL (ju 9 (tZ (aa (f2 aq (aj 7) (fC (.int 0))) aA))) (aL (gM (BP (aa (aj 8) (aa (uV (aj 7) (eY (fC (.int 1))) gB) aA))) (kJ 2 (cJ (bf 10) (cJ (bf 11) lF))) shB) (fU 5 (fB (kW cF dW) (aa (aj 9) aA)))))))
noncomputable def ni (a0:Option L)(ns:List Str)(m:Int)(a3 a4:Option L)(found:List D)(a6 a7 a8 a9 a10 a11 a12 a13:Option L):bw:=[a0,some (.val (.lst (ns.map .str)) false),some (.val (.int m) false),a3,a4,some (.own found true none),a6,a7,a8,a9,a10,a11,a12,a13]
theorem Wf (a0:Option L)(ns:List Str)(m:Int)(a3 a4:Option L)(found:List D)(a7 a8 a9 a10 a11 a12 a13:Option L)(f:Bool)(z:Str)(x:Str×List SP)(hl:ns.length=9)(hx:parseRow z=some x)(hf:found.length<100):
 ∃b7 b8 b9 b10 sV p6 j4,rwB (ni a0 ns m a3 a4 found (some (.val (.str z) f)) a7 a8 a9 a10 a11 a12 a13)=some (.nx (ni a0 ns m a3 a4 (found++[sy ns m x]) (some (.val (.str z) f)) b7 b8 b9 b10 sV p6 j4)):=by
 unfold parseRow at hx
 cases e0:rJ z " " with
 |none=>rw[e0]at hx;cases hx
 |some l=>
  rw[e0,Option.bind_some]at hx
  cases l with
  |nil=>cases hx
  |cons w ws=>
   dsimp only at hx
   cases e1:MK w with
   |none=>rw[e1]at hx;cases hx
   |some g=>
    rw[e1,Option.bind_some]at hx
    split at hx
    case isFalse=>cases hx
    rename_i hc
    obtain⟨c1,c2,c3⟩:=hc
    cases e2:Ir ptS ((chars g).zip ws)with
    |none=>rw[e2]at hx;cases hx
    |some ss=>
     rw[e2]at hx
     cases hx
     have sp:=Dq e0
     let E7:Option L:=some (.val (.lst ((w::ws).map .str)) true)
     have sx:∀ρ:aK,at? ρ 6=some (.str z)->fZ (Ab (aj 6) (aa (fC (.str " ")) aA)) ρ=some (.lst ((w::ws).map .str)):=λρ h6=>by
      refine jt ?_
      show(aj 6 ρ).bind (λx=>(aa (fC (.str " ")) aA ρ).bind λl=>_)=_
      rw[show aj 6 ρ=some (.str z) from h6,Option.bind_some]
      show pY z " "=_
      rw[sp]
     have g7:aZ 7 (fZ (Ab (aj 6) (aa (fC (.str " ")) aA))) (ni a0 ns m a3 a4 found (some (.val (.str z) f)) a7 a8 a9 a10 a11 a12 a13)=some (.nx (ni a0 ns m a3 a4 found (some (.val (.str z) f)) E7 a8 a9 a10 a11 a12 a13)):=
      (pC (i:=7) (sx _ rfl) (sx _ (by cases f<;>simp[ni,vals,pick,at?,flat]))).trans rfl
     have w0:∀ρ:aK,at? ρ 7=some (.lst ((w::ws).map .str))->f2 aq (aj 7) (fC (.int 0)) ρ=some (.str w):=λρ h7=>aC h7 rfl (uB _ 0)
     have g8:aZ 8 (f2 aq (FQ [((fC (.str "put")),(fC (.str "cv"))),((fC (.str "get")),(fC (.str "bc"))),((fC (.str "swap")),(fC (.str "bcv"))),((fC (.str "add")),(fC (.str "bvv"))),((fC (.str "skip")),(fC (.str "bn"))),((fC (.str "fence")),(fC (.str "")))]) (f2 aq (aj 7) (fC (.int 0)))) (ni a0 ns m a3 a4 found (some (.val (.str z) f)) E7 a8 a9 a10 a11 a12 a13)=some (.nx (ni a0 ns m a3 a4 found (some (.val (.str z) f)) E7 (some (.val (.str g) true)) a9 a10 a11 a12 a13)):=
      (aM (i:=8) (aC (V0 _) (w0 _ rfl) (Vb e1)) rfl).trans rfl
     have g9:ju 9 (tZ (aa (f2 aq (aj 7) (fC (.int 0))) aA)) (ni a0 ns m a3 a4 found (some (.val (.str z) f)) E7 (some (.val (.str g) true)) a9 a10 a11 a12 a13)=some (.nx (ni a0 ns m a3 a4 found (some (.val (.str z) f)) E7 (some (.val (.str g) true)) (some (.own [.str w] true none)) a10 a11 a12 a13)):=by
      refine(fc (i:=9) (l:=[.str w]) ?_ rfl).trans rfl
      show(aa _ _ _).bind _=_
      rw[aO (w0 _ rfl),Option.bind_some]
      rfl
     obtain⟨b10,sV,p6,j4,lp⟩:=NZ a0 ns m a3 a4 (some (.own found true none)) (some (.val (.str z) f)) E7 (some (.val (.str g) true)) true hl ((chars g).zip ws) ss [.str w] a10 a11 a12 a13 (vY e2) c1 (by simp only[List.length_cons,List.length_nil];omega)
     have iz:∀ρ:aK,at? ρ 8=some (.str g)->at? ρ 7=some (.lst ((w::ws).map .str))->BP (aa (aj 8) (aa (uV (aj 7) (eY (fC (.int 1))) gB) aA)) ρ=some (((chars g).zip ws).map pairD,[.str g,.lst (ws.map .str)]):=λρ h8 h7=>by
      show(aa _ _ ρ).bind _=_
      rw[bG h8 (aO (pX h7 (ji rfl) rfl (e:= .lst (ws.map .str)) (by
       simp only[Ea]
       rw[show(1:Int)=((1:Nat):Int) by rfl,sX]
       rfl))),Option.bind_some]
      show some (vV (chD g) (ws.map .str),[D.str g,D.lst (ws.map .str)])=_
      rw[OJ,Gz]
     have gF:gM (BP (aa (aj 8) (aa (uV (aj 7) (eY (fC (.int 1))) gB) aA))) (kJ 2 (cJ (bf 10) (cJ (bf 11) lF))) shB (ni a0 ns m a3 a4 found (some (.val (.str z) f)) E7 (some (.val (.str g) true)) (some (.own [.str w] true none)) a10 a11 a12 a13)
      =some (.nx (ni a0 ns m a3 a4 found (some (.val (.str z) f)) E7 (some (.val (.str g) true)) (some (.own (.str w::ss.map (SP.d ns m)) true none)) b10 sV p6 j4)):=by
      rw[qX (iz _ rfl rfl) (iz _ (by simp[ni,vals,pick,at?]) (by simp[ni,vals,pick,at?,E7]))]
      exact lp
     refine⟨E7,some (.val (.str g) true),some (.own (.str w::ss.map (SP.d ns m)) true none),b10,sV,p6,j4,?_⟩
     unfold rwB
     rw[aD g7,aD g8,aD g9,aD gF]
     exact(iJ (i:=5) (d:=sy ns m (w,ss)) (l:=found) rfl (by rw[sizeLine_eq];omega) (uv (.inl rfl)) (Pn ns m (w,ss))).trans rfl
theorem NK (a0:Option L)(ns:List Str)(m:Int)(a3 a4:Option L)(f:Bool)(hl:ns.length=9):∀(zs:List Str) (xs:List (Str×List SP)) (found:List D) (a6 a7 a8 a9 a10 a11 a12 a13:Option L),zs.map parseRow=xs.map some->found.length+zs.length<100->
 ∃b6 b7 b8 b9 b10 sV p6 j4,dX (bf 6) rwB f (zs.map .str) (ni a0 ns m a3 a4 found a6 a7 a8 a9 a10 a11 a12 a13)=some (.nx (ni a0 ns m a3 a4 (found++xs.map (sy ns m)) b6 b7 b8 b9 b10 sV p6 j4))
 |[],[],found,a6,a7,a8,a9,a10,a11,a12,a13,_,_=>⟨a6,a7,a8,a9,a10,a11,a12,a13,by simp[dX]⟩
 |[],_::_,found,a6,a7,a8,a9,a10,a11,a12,a13,h,_=>by simp at h
 |_::_,[],found,a6,a7,a8,a9,a10,a11,a12,a13,h,_=>by simp at h
 |z::zs,x::xs,found,a6,a7,a8,a9,a10,a11,a12,a13,h,hp=>by
  simp only[List.map_cons,List.cons.injEq]at h
  simp only[List.length_cons]at hp
  obtain⟨b7,b8,b9,b10,sV,p6,j4,e1⟩:=Wf a0 ns m a3 a4 found a7 a8 a9 a10 a11 a12 a13 f z x hl h.1 (by omega)
  obtain⟨c6,c7,c8,c9,UG,QW,c12,Kf,e2⟩:=NK a0 ns m a3 a4 f hl zs xs (found++[sy ns m x]) (some (.val (.str z) f)) b7 b8 b9 b10 sV p6 j4 h.2 (by simp;omega)
  refine⟨c6,c7,c8,c9,UG,QW,c12,Kf,?_⟩
  rw[List.map_cons,List.map_cons,show found++sy ns m x::xs.map (sy ns m)=found++[sy ns m x]++xs.map (sy ns m) by simp,<-e2]
  exact gG rfl e1
end K
noncomputable def Az (z:Str):Option (List (Str×List SP)):=(rJ z ",").bind λrs=>if rs.length<50 then Ir parseRow rs else none
noncomputable def CZ (z:Str):Option (List (List (Str×List SP))):=(rJ z "/").bind λts=>if ts.length<50 then Ir Az ts else none
noncomputable def Dv (ns:List Str)(m:Int)(xs:List (Str×List SP)):D:= .lst (xs.map (sy ns m))
noncomputable def okV:SP->Bool
 | .nm j=>decide (j<9)
 | .no _ _=>true
noncomputable def ZZ:SP->Bool
 | .nm j=>decide (j<9)
 | .no _ _=>false
noncomputable def ceV:SP->Bool
 | .nm j=>decide (j<3)
 | .no _ _=>false
noncomputable def nuV:SP->Bool
 | .no i b=>decide (0<=i)&&!b
 |_=>false
noncomputable def Je (x:Str×List SP):Bool:=
 (x.1=="put"&&(match x.2 with|[c,v]=>ceV c&&okV v|_=>false))||
 (x.1=="get"&&(match x.2 with|[b,c]=>ZZ b&&ceV c|_=>false))||
 (x.1=="swap"&&(match x.2 with|[b,c,v]=>ZZ b&&ceV c&&okV v|_=>false))||
 (x.1=="add"&&(match x.2 with|[b,v,u]=>ZZ b&&okV v&&okV u|_=>false))||
 (x.1=="skip"&&(match x.2 with|[b,n]=>ZZ b&&nuV n|_=>false))||
 (x.1=="fence"&&(match x.2 with|[]=>true|_=>false))
theorem z9 {ns:List Str}{j:Nat}(h:j<ns.length):ns.getD j ""∈ns:=by
 rw[List.getD_eq_getElem?_getD,List.getElem?_eq_getElem h]
 exact List.getElem_mem h
theorem Vu {ns:List Str}{j:Nat}(h:j<ns.length)(h3:j<3):ns.getD j ""∈ns.take 3:=by
 have:(ns.take 3)[j]?=some (ns.getD j ""):=by
  rw[List.getElem?_take_of_lt h3,List.getD_eq_getElem?_getD,List.getElem?_eq_getElem h]
  rfl
 exact List.mem_of_getElem? this
theorem Oe {ns:List Str}{m:Int}{s:SP}(hl:ns.length=9)(hn:∀x∈ns,okN x)(h:okV s=true):∃v:Va,v.d=s.d ns m/\∀x∈v.bx,PyData.strOk x=true:=by
 cases s with
 |nm j=>exact⟨.nm (ns.getD j ""),rfl,λx hx=>by simp[Va.bx]at hx;rw[hx];exact(hn _ (z9 (by rw[hl];exact of_decide_eq_true h))).1⟩
 |no i b=>exact⟨.no _,rfl,λx hx=>by simp[Va.bx]at hx⟩
theorem Mu {ns:List Str}{m:Int}{s:SP}(hl:ns.length=9)(hn:∀x∈ns,okN x)(h:ZZ s=true):∃b:Str,.str b=s.d ns m/\PyData.strOk b=true:=by
 cases s with
 |nm j=>exact⟨ns.getD j "",rfl,(hn _ (z9 (by rw[hl];exact of_decide_eq_true h))).1⟩
 |no i b=>cases h
theorem QZ {ns:List Str}{m:Int}{s:SP}(hl:ns.length=9)(h:ceV s=true):∃c:Str,.str c=s.d ns m/\c∈ns.take 3:=by
 cases s with
 |nm j=>exact⟨ns.getD j "",rfl,Vu (by have:=of_decide_eq_true h;omega) (of_decide_eq_true h)⟩
 |no i b=>cases h
theorem a0v {ns:List Str}{m:Int}{s:SP}(h:nuV s=true):∃n:Nat,.int (n:Nat)=s.d ns m:=by
 cases s with
 |nm j=>cases h
 |no i b=>
  simp only[nuV,Bool.and_eq_true,decide_eq_true_eq,Bool.not_eq_true']at h
  refine⟨i.toNat,?_⟩
  rw[h.2]
  simp only[SP.d,Bool.false_eq_true,if_false,Int.mul_zero,Int.add_zero]
  congr 1
  omega
theorem Ve {ns:List Str}{m:Int}{x:Str×List SP}(hl:ns.length=9)(hn:∀x∈ns,okN x)(h:Je x=true):∃r:Rw,r.d=sy ns m x/\oM ns r:=by
 obtain⟨w,ss⟩:=x
 simp only[Je,Bool.or_eq_true,Bool.and_eq_true,beq_iff_eq]at h
 rcases h with((((⟨rfl,h⟩|⟨rfl,h⟩)|⟨rfl,h⟩)|⟨rfl,h⟩)|⟨rfl,h⟩)|⟨rfl,h⟩<;>split at h<;>try (cases h;done)
 ·rename_i c v
  rw[Bool.and_eq_true]at h
  obtain⟨c',e1,h1⟩:=QZ (m:=m) hl h.1
  obtain⟨v',e2,h2⟩:=Oe (m:=m) hl hn h.2
  exact⟨.put c' v',by simp only[Rw.d,sy,List.map_cons,List.map_nil,e1,e2],⟨λx hx=>h2 x hx,λc e=>by cases e;exact h1⟩⟩
 ·rename_i b c
  rw[Bool.and_eq_true]at h
  obtain⟨b',e1,h1⟩:=Mu (m:=m) hl hn h.1
  obtain⟨c',e2,h2⟩:=QZ (m:=m) hl h.2
  exact⟨.get b' c',by simp only[Rw.d,sy,List.map_cons,List.map_nil,e1,e2],⟨λx hx=>by simp[Rw.bx]at hx;rw[hx];exact h1,λc e=>by cases e;exact h2⟩⟩
 ·rename_i b c v
  rw[Bool.and_eq_true,Bool.and_eq_true]at h
  obtain⟨b',e1,h1⟩:=Mu (m:=m) hl hn h.1.1
  obtain⟨c',e2,h2⟩:=QZ (m:=m) hl h.1.2
  obtain⟨v',e3,h3⟩:=Oe (m:=m) hl hn h.2
  exact⟨.swap b' c' v',by simp only[Rw.d,sy,List.map_cons,List.map_nil,e1,e2,e3],⟨λx hx=>by
   simp only[Rw.bx,List.mem_cons]at hx
   rcases hx with rfl|hx
   ·exact h1
   ·exact h3 x hx,λc e=>by cases e;exact h2⟩⟩
 ·rename_i b v u
  rw[Bool.and_eq_true,Bool.and_eq_true]at h
  obtain⟨b',e1,h1⟩:=Mu (m:=m) hl hn h.1.1
  obtain⟨v',e2,h2⟩:=Oe (m:=m) hl hn h.1.2
  obtain⟨u',e3,h3⟩:=Oe (m:=m) hl hn h.2
  exact⟨.add b' v' u',by simp only[Rw.d,sy,List.map_cons,List.map_nil,e1,e2,e3],⟨λx hx=>by
   simp only[Rw.bx,List.mem_cons,List.mem_append]at hx
   rcases hx with rfl|hx|hx
   ·exact h1
   ·exact h2 x hx
   ·exact h3 x hx,λc e=>by cases e⟩⟩
 ·rename_i b n
  rw[Bool.and_eq_true]at h
  obtain⟨b',e1,h1⟩:=Mu (m:=m) hl hn h.1
  obtain⟨n',e2⟩:=a0v (ns:=ns) (m:=m) h.2
  exact⟨.skip b' n',by simp only[Rw.d,sy,List.map_cons,List.map_nil,e1,e2],⟨λx hx=>by simp[Rw.bx]at hx;rw[hx];exact h1,λc e=>by cases e⟩⟩
 ·exact⟨.fence,rfl,J8 ns⟩
theorem Jf {ns:List Str}{m:Int}(hl:ns.length=9)(hn:∀x∈ns,okN x):∀{xs:List (Str×List SP)},xs.all Je=true->∃t:List Rw,t.map Rw.d=xs.map (sy ns m)/\(∀r∈t,oM ns r)
 |[],_=>⟨[],rfl,by simp⟩
 |x::xs,h=>by
  rw[List.all_cons,Bool.and_eq_true]at h
  obtain⟨r,e1,h1⟩:=Ve (m:=m) hl hn h.1
  obtain⟨t,e2,h2⟩:=Jf (m:=m) hl hn h.2
  exact⟨r::t,by simp[e1,e2],by
   intro y hy
   rcases List.mem_cons.mp hy with rfl|hy
   ·exact h1
   ·exact h2 y hy⟩
noncomputable def uo (t:List Rw):D:= .lst (t.map Rw.d)
theorem BL {ns:List Str}{m:Int}(hl:ns.length=9)(hn:∀x∈ns,okN x):∀{xss:List (List (Str×List SP))},xss.all (λxs=>xs.all Je&&decide (xs.length<=20))=true->∃ts:List (List Rw),ts.map uo=xss.map (Dv ns m)/\∀t∈ts,t.length<=20/\∀r∈t,oM ns r
 |[],_=>⟨[],rfl,by simp⟩
 |xs::xss,h=>by
  rw[List.all_cons,Bool.and_eq_true,Bool.and_eq_true,decide_eq_true_eq]at h
  obtain⟨t,e1,h1⟩:=Jf (m:=m) hl hn h.1.1
  obtain⟨ts,e2,h2⟩:=BL (m:=m) hl hn h.2
  have hlen:t.length=xs.length:=by have:=congrArg List.length e1;simpa using this
  exact⟨t::ts,by simp only[List.map_cons,e2,uo,Dv,e1],by
   intro y hy
   rcases List.mem_cons.mp hy with rfl|hy
   ·exact⟨by omega,h1⟩
   ·exact h2 y hy⟩
noncomputable def nT:List Str:=["put 0 1,get p 1/put 1 2,get p 0","put 0 1,fence,get p 1/put 1 2,fence,get p 0","swap p 0 1,get q 1/swap p 1 2,get q 0","put 0 1,put 1 2/get p 1,get q 0","put 0 1,get p 1/put 1 2,fence,get p 0","get p 0,put 1 1/get p 1,put 0 2","put 0 1,put 1 2/put 1 3,put 0 4","put 0 1,get p 0,get q 1/put 1 2,get p 1,get q 0","put 0 1/get p 0,put 1 p/get p 1,get q 0","put 0 1,get p 1/put 1 2,get p 2/put 2 3,get p 0","put 0 1,get p 1,skip p 1,put 2 3/put 1 2,get p 0,get q 2","put 0 1,put 0 2/get p 0,get q 0","swap p 0 1/swap p 0 2/get p 0,get q 0","put 0 1,add p p 7,put 1 p/get q 1,swap p 0 9","put 0 1,put 0 2,get p 0/put 0 3,get p 0","put 0 1,swap p 0 2,put 0 3,get q 0/get p 0"]
noncomputable def IW (z:Str):Bool:=match CZ z with
 |some xss=>xss.all (λxs=>xs.all Je&&decide (xs.length<=20))&&decide (xss.length<=3)
 |none=>false
theorem K8:nT.all IW=true:=by decide+kernel
namespace K
noncomputable def tsB:GS:=(aL (ju 5 (tZ aA)) (aL (gM (fH (fZ (Ab (aj 4) (aa (fC (.str ",")) aA)))) (bf 6) rwB) (Av 5 (fU 3 (aj 5)))))
noncomputable def zP (a0:Option L)(ns:List Str)(m:Int)(ts:List D)(a4 a5 a6 a7 a8 a9 a10 a11 a12 a13:Option L):bw:=[a0,some (.val (.lst (ns.map .str)) false),some (.val (.int m) false),some (.own ts true none),a4,a5,a6,a7,a8,a9,a10,a11,a12,a13]
theorem Wm {z y:Str}{l:List Str}{i:Nat}{ρ:aK}(h:rJ z y=some l)(hi:at? ρ i=some (.str z)):fZ (Ab (aj i) (aa (fC (.str y)) aA)) ρ=some (.lst (l.map .str)):=by
 refine jt ?_
 show(aj i ρ).bind (λx=>(aa (fC (.str y)) aA ρ).bind λl=>_)=_
 rw[show aj i ρ=some (.str z) from hi,Option.bind_some]
 show pY z y=_
 rw[Dq h]
theorem Ws (a0:Option L)(ns:List Str)(m:Int)(ts:List D)(a5 a6 a7 a8 a9 a10 a11 a12 a13:Option L)(f:Bool)(z:Str)(xs:List (Str×List SP))(hl:ns.length=9)(hx:Az z=some xs)(hf:ts.length<100):
 ∃b5 b6 b7 b8 b9 b10 sV p6 j4,tsB (zP a0 ns m ts (some (.val (.str z) f)) a5 a6 a7 a8 a9 a10 a11 a12 a13)=some (.nx (zP a0 ns m (ts++[Dv ns m xs]) (some (.val (.str z) f)) b5 b6 b7 b8 b9 b10 sV p6 j4)):=by
 unfold Az at hx
 cases e0:rJ z "," with
 |none=>rw[e0]at hx;cases hx
 |some rs=>
  rw[e0,Option.bind_some]at hx
  split at hx
  case isFalse=>cases hx
  rename_i hlen
  obtain⟨b6,b7,b8,b9,b10,sV,p6,j4,lp⟩:=NK a0 ns m (some (.own ts true none)) (some (.val (.str z) f)) true hl rs xs [] a6 a7 a8 a9 a10 a11 a12 a13 (vY hx) (by simp;omega)
  refine⟨some (.val (Dv ns m xs) true),b6,b7,b8,b9,b10,sV,p6,j4,?_⟩
  unfold tsB
  refine(aD (fc (i:=5) (l:=[]) rfl rfl)).trans ?_
  have s1:∀ρ:aK,at? ρ 4=some (.str z)->fH (fZ (Ab (aj 4) (aa (fC (.str ",")) aA))) ρ=some (rs.map .str,[.lst (rs.map .str)]):=λρ h4=>jR (Wm e0 h4)
  refine(aD ((qX (s1 _ rfl) (s1 _ (by cases f<;>simp[zP,ni,vals,pick,at?,flat]))).trans lp)).trans ?_
  simp only[ni,Av,List.getElem?_cons_succ,List.getElem?_cons_zero,List.nil_append,List.set]
  unfold fU
  simp only[List.getElem?_cons_succ,List.getElem?_cons_zero,sizeLine_eq,if_pos (show ts.length<16777216 by omega)]
  simp[aj,at?,vis,vals,pick,L.toD,flat,zP,Dv]
theorem O7 (a0:Option L)(ns:List Str)(m:Int)(f:Bool)(hl:ns.length=9):∀(zs:List Str) (xss:List (List (Str×List SP))) (ts:List D) (a4 a5 a6 a7 a8 a9 a10 a11 a12 a13:Option L),zs.map Az=xss.map some->ts.length+zs.length<100->
 ∃b4 b5 b6 b7 b8 b9 b10 sV p6 j4,dX (bf 4) tsB f (zs.map .str) (zP a0 ns m ts a4 a5 a6 a7 a8 a9 a10 a11 a12 a13)=some (.nx (zP a0 ns m (ts++xss.map (Dv ns m)) b4 b5 b6 b7 b8 b9 b10 sV p6 j4))
 |[],[],ts,a4,a5,a6,a7,a8,a9,a10,a11,a12,a13,_,_=>⟨a4,a5,a6,a7,a8,a9,a10,a11,a12,a13,by simp[dX]⟩
 |[],_::_,ts,a4,a5,a6,a7,a8,a9,a10,a11,a12,a13,h,_=>by simp at h
 |_::_,[],ts,a4,a5,a6,a7,a8,a9,a10,a11,a12,a13,h,_=>by simp at h
 |z::zs,xs::xss,ts,a4,a5,a6,a7,a8,a9,a10,a11,a12,a13,h,hp=>by
  simp only[List.map_cons,List.cons.injEq]at h
  simp only[List.length_cons]at hp
  obtain⟨b5,b6,b7,b8,b9,b10,sV,p6,j4,e1⟩:=Ws a0 ns m ts a5 a6 a7 a8 a9 a10 a11 a12 a13 f z xs hl h.1 (by omega)
  obtain⟨c4,c5,c6,c7,c8,c9,UG,QW,c12,Kf,e2⟩:=O7 a0 ns m f hl zs xss (ts++[Dv ns m xs]) (some (.val (.str z) f)) b5 b6 b7 b8 b9 b10 sV p6 j4 h.2 (by simp;omega)
  refine⟨c4,c5,c6,c7,c8,c9,UG,QW,c12,Kf,?_⟩
  rw[List.map_cons,List.map_cons,show ts++Dv ns m xs::xss.map (Dv ns m)=ts++[Dv ns m xs]++xss.map (Dv ns m) by simp,<-e2]
  exact gG rfl e1
theorem Wz (c:Int):∃z∈nT,ig [.int c]=some (.str z,.new):=by
 obtain⟨j,hj,hj'⟩:=tX c 16 (by omega)
 have hlen:nT.length=16:=rfl
 have hz:nT[j]?=some (nT[j]'(by omega)):=List.getElem?_eq_getElem (by omega)
 refine⟨nT[j]'(by omega),List.getElem_mem _,?_⟩
 generalize nT[j]'(by omega)=z at hz
 have e:pL (aH 2 [.int c])=dg (f2 aq (aj 1) (f2 cC (aj 0) (fC (.int 16)))) [some (.val (.int c) false),some (.val (.lst (nT.map .str)) true)]:=rfl
 have e2:pL (aH 2 [.int c])=some (.rt (.str z) .new [some (.val (.int c) false),some (.val (.lst (nT.map .str)) true)]):=by
  rw[e]
  exact bM (aC rfl (aC rfl rfl (cV c 16 (by omega))) (by rw[<-hj];exact lK (by rw[List.getElem?_map,hz];rfl))) rfl
 simp only[ig,List.length_cons,List.length_nil,if_true,e2,cI]
theorem U5 (c:Int)(ns:List Str)(m:Int)(hl:ns.length=9)(hn:∀x∈ns,okN x):∃ts:List (List Rw),ts.length<=3/\(∀t∈ts,t.length<=20/\∀r∈t,oM ns r)/\dN [.int c,.lst (ns.map .str),.int m]=some (.lst (ts.map uo),.own):=by
 obtain⟨z,hz,ez⟩:=Wz c
 have hg:=List.all_eq_true.mp K8 z hz
 unfold IW at hg
 split at hg
 case h_2=>cases hg
 rename_i xss ep
 rw[Bool.and_eq_true,decide_eq_true_eq]at hg
 obtain⟨ts,e1,h1⟩:=BL (m:=m) hl hn hg.1
 have hlen:ts.length=xss.length:=by have:=congrArg List.length e1;simpa using this
 refine⟨ts,by omega,h1,?_⟩
 unfold CZ at ep
 cases e0:rJ z "/" with
 |none=>rw[e0]at ep;cases ep
 |some zs=>
  rw[e0,Option.bind_some]at ep
  split at ep
  case isFalse=>cases ep
  rename_i hzl
  obtain⟨b4,b5,b6,b7,b8,b9,b10,sV,p6,j4,lp⟩:=O7 (some (.val (.int c) false)) ns m true hl zs xss [] none none none none none none none none none none (vY ep) (by simp;omega)
  have s1:∀ρ:aK,at? ρ 0=some (.int c)->fH (fZ (Ab (aN ig [] (aa (aj 0) aA)) (aa (fC (.str "/")) aA))) ρ=some (zs.map .str,[.lst (zs.map .str)]):=λρ h0=>by
   refine jR (jt ?_)
   show(aN ig [] (aa (aj 0) aA) ρ).bind (λx=>(aa (fC (.str "/")) aA ρ).bind λl=>_)=_
   rw[aU (aO (show aj 0 ρ=_ from h0)) ez rfl,Option.bind_some]
   show pY z "/"=_
   rw[Dq e0]
  have e:oE (aH 14 [.int c,.lst (ns.map .str),.int m])=some (.rt (.lst (ts.map uo)) .own (zP (some (.val (.int c) false)) ns m (ts.map uo) b4 b5 b6 b7 b8 b9 b10 sV p6 j4)):=by
   unfold oE
   refine(aD (fc (i:=3) (l:=[]) rfl rfl)).trans ?_
   refine(aD ((qX (s1 _ rfl) (s1 _ (by simp[aH,zP,vals,pick,at?,flat]))).trans lp)).trans ?_
   rw[List.nil_append,<-e1]
   rfl
  simp only[dN,List.length_cons,List.length_nil,if_true,e,cI]
end K
theorem Rq {i:Nat}{F:FL}{ρ:bw}{l:List D}(h:F (vis ρ)=some l)(h1:F (vals true ρ)=none)(h2:F (vals false ρ)=some l):∃fr,ju i F ρ=some (.nx (ρ.set i (some (.own l fr none)))):=by
 unfold ju three
 rw[h,h1,h2]
 by_cases hf:flat.flats l=true
 ·exact⟨true,by simp[hf]⟩
 ·exact⟨false,by simp[hf]⟩
theorem Jb {I:aK->Option (List D×List D)}{T:D->Bool->bw->Option bw}{G:GS}{ρ:bw}{r:List D×List D}(h0:I (vis ρ)=some r)(h1:I (vals true ρ)=some r\/I (vals true ρ)=none)(h2:I (vals false ρ)=some r):∃f,gM I T G ρ=dX T G f r.1 ρ:=by
 unfold gM three
 rw[h0,h2]
 by_cases h:(flat.flats r.1&&flat.flats r.2)=true
 ·exact⟨true,by rw[Option.bind_some,if_pos h];rfl⟩
 ·rcases h1 with h1|h1
  ·exact⟨true,by rw[Option.bind_some,if_neg h,h1];rfl⟩
  ·exact⟨false,by rw[Option.bind_some,if_neg h,h1];rfl⟩
theorem Uw {i:Nat}{F:FD}{ρ:bw}{l:List D}{fr:Bool}{d:D}(hi:ρ[i]?=some (some (.own l fr none)))(hl:l.length<1000)(h:F (vis ρ)=some d)(hd:flat d=false)(h1:F (vals true ρ)=none)(h2:F (vals false ρ)=some d)
 (h3:F (vis (ρ.set i (some (.own l false none))))=some d)(h4:F (vals false (ρ.set i (some (.own l false none))))=some d):ZD (fU i F) (Zx i (fU i F)) ρ=some (.nx (ρ.set i (some (.own (l++[d]) false none)))):=by
 have hz:l.length<sizeLine:=by rw[sizeLine_eq];omega
 have hlen:i<ρ.length:=(List.getElem?_eq_some_iff.mp hi).1
 unfold ZD
 cases fr with
 |false=>
  have:fU i F ρ=some (.nx (ρ.set i (some (.own (l++[d]) false none)))):=by
   unfold fU
   rw[hi]
   simp[hz,h,hd,h2]
  rw[this]
 |true=>
  have e1:fU i F ρ=none:=by
   unfold fU
   rw[hi]
   simp[hz,h,hd,h1]
  rw[e1]
  unfold Zx
  rw[hi]
  show fU i F (ρ.set i (some (.own l false none)))=_
  unfold fU
  rw[List.getElem?_set_self hlen]
  simp[hz,h3,hd,h4]
noncomputable def itemsOf (r:Rw):List D:= .str r.word::r.parts
noncomputable def wordsOf (ts:List (List Rw)):List D:=ts.flatMap λt=>t.flatMap itemsOf
theorem Q9 (r:Rw):nList [r.d]=some (itemsOf r):=by rw[qz];rfl
theorem G8 (r:Rw):(itemsOf r).length<=4:=by cases r<;>simp[itemsOf,Rw.parts]
theorem RC {ns:List Str}{r:Rw}(h:oM ns r)(hn:∀x∈ns,okN x):∀d∈itemsOf r,mR 0 d=true:=by
 have:=h.sh hn
 rw[qz]at this
 simp only[mR,List.all_eq_true]at this
 exact this
theorem OD {r:Rw}{c:Str}(h:r.cell=some c): .str c∈itemsOf r:=by
 cases r<;>simp[Rw.cell]at h<;>simp[itemsOf,Rw.parts,h]
theorem Uu {W:List D}{c:Str}(h: .str c∈W):(W.any λy=>sr y (.str c))=true:=List.any_eq_true.mpr ⟨_,h,by rw[eq_str];simp⟩
noncomputable def maxOf (a:Int)(l:List Int):Int:=l.foldl max a
theorem Cm:∀(l:List Int) (a:Int),a<=maxOf a l/\∀x∈l,x<=maxOf a l
 |[],a=>⟨Int.le_refl _,by simp⟩
 |b::l,a=>by
  obtain⟨h1,h2⟩:=Cm l (max a b)
  have e:maxOf a (b::l)=maxOf (max a b) l:=rfl
  rw[e]
  refine⟨by omega,λx hx=>?_⟩
  rcases List.mem_cons.mp hx with rfl|hx
  ·omega
  ·exact h2 x hx
theorem Ju:∀(l:List Int) (a n:Int),a<=n->(∀x∈l,x<=n)->maxOf a l<=n
 |[],a,n,h,_=>h
 |b::l,a,n,h,hl=>Ju l (max a b) n (by have:=hl b (by simp);omega) λx hx=>hl x (by simp[hx])
theorem Ry (l:List Int):Jj (l.map .int)=some l:=by
 induction l with
 |nil=>rfl
 |cons a l ih=>simp[Jj,ih]
theorem Vq (a:Int)(l:List Int):vZ [.lst ((a::l).map .int)]=some (.int (maxOf a l)):=by
 simp only[vZ,Ry,Option.bind_some,Q5,Option.map_some]
 rfl
namespace K
noncomputable def iB (l:List Int)(mo:Int)(mf:Bool)(v2:Int)(ns:List Str)(v4:Int)(sel:List Int)(cs:D)(a7 a8 a9 a10 a11 a12 a13:Option L):bw:=[some (.val (.uR l) false),some (.val (.int mo) mf),some (.val (.int v2) true),some (.val (.lst (ns.map .str)) true),some (.val (.int v4) true),some (.val (.lst (sel.map .int)) true),some (.val cs true),a7,a8,a9,a10,a11,a12,a13]
theorem zR (l:List Int)(mo:Int)(mf:Bool)(v2:Int)(ns:List Str)(v4:Int)(sel:List Int)(cs:D)(a7 a8 a9 a10 a12:Option L)(f:Bool):∀(t:List Rw) (W:List D) (a13:Option L),W.length+4*t.length<2000->
 ∃j4,dX (bf 13) (aZ 11 (f2 aW (aj 11) (fZ (nB nList (aa (aj 13) aA))))) f (t.map Rw.d) (iB l mo mf v2 ns v4 sel cs a7 a8 a9 a10 (some (.val (.lst W) true)) a12 a13)=some (.nx (iB l mo mf v2 ns v4 sel cs a7 a8 a9 a10 (some (.val (.lst (W++t.flatMap itemsOf)) true)) a12 j4))
 |[],W,a13,_=>⟨a13,by simp[dX]⟩
 |r::t,W,a13,hz=>by
  have hi:=G8 r
  simp only[List.length_cons]at hz
  obtain⟨j4,e⟩:=zR l mo mf v2 ns v4 sel cs a7 a8 a9 a10 a12 f t (W++itemsOf r) (some (.val r.d f)) (by simp;omega)
  refine⟨j4,?_⟩
  rw[List.map_cons,List.flatMap_cons,<-List.append_assoc,<-e]
  refine gG rfl ?_
  have ad:aW (.lst W) (.lst (itemsOf r))=some (.lst (W++itemsOf r)):=by
   simp only[aW]
   rw[if_pos (by rw[sizeLine_eq];omega)]
  have q:∀ρ:aK,at? ρ 11=some (.lst W)->at? ρ 13=some r.d->f2 aW (aj 11) (fZ (nB nList (aa (aj 13) aA))) ρ=some (.lst (W++itemsOf r)):=λρ h1 h2=>aC h1 (jt (by
   show(aa (aj 13) aA ρ).bind nList=_
   rw[aO (show aj 13 ρ=_ from h2),Option.bind_some,Q9])) ad
  exact(pC (i:=11) (q _ rfl rfl) (q _ (by simp[iB,vals,pick,at?]) (by cases f<;>simp[iB,vals,pick,at?,eX]))).trans rfl
theorem zT (l:List Int)(mo:Int)(mf:Bool)(v2:Int)(ns:List Str)(v4:Int)(sel:List Int)(cs:D)(a7 a8 a9 a10:Option L)(f:Bool):∀(ts:List (List Rw)) (W:List D) (a12 a13:Option L),(∀t∈ts,t.length<=20)->W.length+100*ts.length<1000->
 ∃p6 j4,dX (bf 12) (gM (fH (aj 12)) (bf 13) (aZ 11 (f2 aW (aj 11) (fZ (nB nList (aa (aj 13) aA)))))) f (ts.map uo) (iB l mo mf v2 ns v4 sel cs a7 a8 a9 a10 (some (.val (.lst W) true)) a12 a13)=some (.nx (iB l mo mf v2 ns v4 sel cs a7 a8 a9 a10 (some (.val (.lst (W++wordsOf ts)) true)) p6 j4))
 |[],W,a12,a13,_,_=>⟨a12,a13,by simp[dX,wordsOf]⟩
 |t::ts,W,a12,a13,ht,hz=>by
  simp only[List.length_cons]at hz
  have hl:=ht t (by simp)
  have hw:(t.flatMap itemsOf).length<=4*t.length:=by
   clear hz hl ht
   induction t with
   |nil=>simp
   |cons r t ih=>have:=G8 r;simp only[List.flatMap_cons,List.length_append,List.length_cons];omega
  have sq:∀ρ:aK,at? ρ 12=some (uo t)->fH (aj 12) ρ=some (t.map Rw.d,[uo t]):=λρ h=>jR (show aj 12 ρ=some (.lst (t.map Rw.d)) from h)
  obtain⟨f',ef⟩:=Jb (T:=bf 13) (G:=aZ 11 (f2 aW (aj 11) (fZ (nB nList (aa (aj 13) aA))))) (ρ:=iB l mo mf v2 ns v4 sel cs a7 a8 a9 a10 (some (.val (.lst W) true)) (some (.val (uo t) f)) a13) (sq _ rfl) (by
   cases f with
   |true=>exact .inl (sq _ (by simp[iB,vals,pick,at?]))
   |false=>exact .inr (by simp[fH,aj,iB,vals,pick,at?,uo,flat])) (sq _ (by simp[iB,vals,pick,at?]))
  obtain⟨j4,e1⟩:=zR l mo mf v2 ns v4 sel cs a7 a8 a9 a10 (some (.val (uo t) f)) f' t W a13 (by omega)
  obtain⟨c12,Kf,e2⟩:=zT l mo mf v2 ns v4 sel cs a7 a8 a9 a10 f ts (W++t.flatMap itemsOf) (some (.val (uo t) f)) j4 (λt' h=>ht t' (by simp[h])) (by simp only[List.length_append];omega)
  refine⟨c12,Kf,?_⟩
  rw[List.map_cons,show W++wordsOf (t::ts)=W++t.flatMap itemsOf++wordsOf ts by simp[wordsOf],<-e2]
  exact gG rfl (ef.trans e1)
noncomputable def pgB:GS:=(aL (aZ 10 (f2 cC (aN cg [] (aa (f2 (jb cW bN) (aN aQ [] (aa (aj 0) (aa (fC (.int 3)) aA))) (f2 aW (fC (.int 1)) (f2 (jb cW bN) (fC (.int 2)) (aj 9)))) (aa (aj 9) aA))) (f2 aW (aj 1) (f2 aq (fG (aa (fC (.int 3)) (aa (fC (.int 6)) aA))) (fB (kW oN kE) (aa (f2 (lO λi j=>decide (j<i)) (aj 1) (fC (.int 3))) aA)))))) (ZD (fU 7 (aN eG [] (aa (aj 0) (aa (aj 9) (aa (aj 3) (aa (aj 1) (aa (aj 10) aA))))))) (Zx 7 (fU 7 (aN eG [] (aa (aj 0) (aa (aj 9) (aa (aj 3) (aa (aj 1) (aa (aj 10) aA))))))))))
theorem W0 (l:List Int)(mo:Int)(mf:Bool)(v2:Int)(ns:List Str)(v4:Int)(sel:List Int)(cs:D)(ts:List (List Rw))(fr:Bool)(a8 a10 a11 a12 a13:Option L)(k:Nat)(hk:k<10)(hl:ns.length=9)(hn:∀x∈ns,okN x)(hmo:0<=mo)(Y9:mo<=5)(hts:ts.length<100):
 ∃t b10,(t.length<=20/\∀r∈t,oM ns r)/\pgB (iB l mo mf v2 ns v4 sel cs (some (.own (ts.map uo) fr none)) a8 (some (.val (.int (k:Nat)) true)) a10 a11 a12 a13)=some (.nx (iB l mo mf v2 ns v4 sel cs (some (.own ((ts++[t]).map uo) false none)) a8 (some (.val (.int (k:Nat)) true)) b10 a11 a12 a13)):=by
 obtain⟨u0,e0⟩:=mG l 3
 obtain⟨u1,e1,_⟩:=uO (u0*(1+2*(k:Int))) (k:Nat) (by omega) (by omega)
 let md:Int:=mo+(if 3<mo then 6 else 3)
 have hmd:0<md:=by simp only[md];split<;>omega
 have a2h:md<=11:=by simp only[md];split<;>omega
 obtain⟨sz,hs1,hs2⟩:=tX u1 md hmd
 obtain⟨t,ht1,ht2,et⟩:=U7 l k ns mo sz hk hl hn (by omega)
 refine⟨t,some (.val (.int (sz:Nat)) true),⟨by omega,ht2⟩,?_⟩
 unfold pgB
 have g10:aZ 10 (f2 cC (aN cg [] (aa (f2 (jb cW bN) (aN aQ [] (aa (aj 0) (aa (fC (.int 3)) aA))) (f2 aW (fC (.int 1)) (f2 (jb cW bN) (fC (.int 2)) (aj 9)))) (aa (aj 9) aA))) (f2 aW (aj 1) (f2 aq (fG (aa (fC (.int 3)) (aa (fC (.int 6)) aA))) (fB (kW oN kE) (aa (f2 (lO λi j=>decide (j<i)) (aj 1) (fC (.int 3))) aA))))) (iB l mo mf v2 ns v4 sel cs (some (.own (ts.map uo) fr none)) a8 (some (.val (.int (k:Nat)) true)) a10 a11 a12 a13)
  =some (.nx (iB l mo mf v2 ns v4 sel cs (some (.own (ts.map uo) fr none)) a8 (some (.val (.int (k:Nat)) true)) (some (.val (.int (sz:Nat)) true)) a11 a12 a13)):=by
  refine(aM (i:=10) (d:= .int (sz:Nat)) (aC (aU (bG (aC (aU (bG rfl (aO rfl)) e0 rfl) (aC rfl (aC rfl rfl (Ln k)) rfl) (Jx _ _ (.inr ⟨by omega,by omega⟩))) (aO rfl)) e1 rfl) (aC rfl (aC (x:= .lst [.int 3,.int 6]) rfl (kI (x:= .int (if 3<mo then 1 else 0)) (aO (aC rfl rfl rfl)) ?_) (z:= .int (if 3<mo then 6 else 3)) ?_) (z:= .int md) rfl) ?_) rfl).trans rfl
  ·show kW oN kE [.bl (decide (3<mo))]=_
   by_cases hh:3<mo<;>simp[kW,oN,hh]
  ·by_cases hh:3<mo
   ·simp only[hh,if_true];exact lK (j:=1) rfl
   ·simp only[hh,if_false];exact lK (j:=0) rfl
  ·rw[hs1];exact cV _ _ hmd
 rw[aD g10]
 have q:∀ρ:aK,at? ρ 0=some (.uR l)->at? ρ 9=some (.int (k:Nat))->at? ρ 3=some (.lst (ns.map .str))->at? ρ 1=some (.int mo)->at? ρ 10=some (.int (sz:Nat))->aN eG [] (aa (aj 0) (aa (aj 9) (aa (aj 3) (aa (aj 1) (aa (aj 10) aA))))) ρ=some (uo t):=λρ h0 h9 h3 h1 h10=>aU (bG h0 (bG h9 (bG h3 (bG h1 (aO h10))))) et rfl
 refine(Uw (i:=7) (l:=ts.map uo) (fr:=fr) (d:=uo t) rfl (by simp;omega) (q _ rfl rfl rfl rfl rfl) rfl ?_ (q _ ?_ ?_ ?_ ?_ ?_) (q _ rfl rfl rfl rfl rfl) (q _ ?_ ?_ ?_ ?_ ?_)).trans ?_
 ·simp[aN,aa,aj,iB,vals,pick,at?,flat]
 all_goals simp[iB,vals,pick,at?]
theorem Np (l:List Int)(mo:Int)(mf:Bool)(v2:Int)(ns:List Str)(v4:Int)(sel:List Int)(cs:D)(a8 a11 a12 a13:Option L)(hl:ns.length=9)(hn:∀x∈ns,okN x)(hmo:0<=mo)(Y9:mo<=5):∀(n i:Nat) (ts:List (List Rw)) (fr:Bool) (a9 a10:Option L),i+n<=10->ts.length=i->(∀t∈ts,t.length<=20/\∀r∈t,oM ns r)->
 ∃(ts':List (List Rw)) (fr':Bool) (b9 b10:Option L),ts'.length=i+n/\(∀t∈ts',t.length<=20/\∀r∈t,oM ns r)/\dX (bf 9) pgB true ((List.range' i n).map λk=>D.int (k:Nat)) (iB l mo mf v2 ns v4 sel cs (some (.own (ts.map uo) fr none)) a8 a9 a10 a11 a12 a13)=some (.nx (iB l mo mf v2 ns v4 sel cs (some (.own (ts'.map uo) fr' none)) a8 b9 b10 a11 a12 a13))
 |0,i,ts,fr,a9,a10,_,h2,h3=>⟨ts,fr,a9,a10,by omega,h3,rfl⟩
 |n+1,i,ts,fr,a9,a10,h1,h2,h3=>by
  obtain⟨t,b10,ht,e1⟩:=W0 l mo mf v2 ns v4 sel cs ts fr a8 a10 a11 a12 a13 i (by omega) hl hn hmo Y9 (by omega)
  obtain⟨ts',fr',c9,UG,q1,q2,q3⟩:=Np l mo mf v2 ns v4 sel cs a8 a11 a12 a13 hl hn hmo Y9 n (i+1) (ts++[t]) false (some (.val (.int (i:Nat)) true)) b10 (by omega) (by simp;omega) (by
   intro y hy
   rcases List.mem_append.mp hy with hy|hy
   ·exact h3 y hy
   ·rw[List.mem_singleton.mp hy];exact ht)
  refine⟨ts',fr',c9,UG,by omega,q2,?_⟩
  rw[qy,<-q3]
  exact gG rfl e1
end K
theorem take3 {ns:List Str}(hl:ns.length=9){c:Str}(h:c∈ns.take 3):∃k:Nat,k<3/\c=ns.getD k "":=by
 obtain⟨k,hk,e⟩:=List.getElem_of_mem h
 have hk3:k<3:=by simp at hk;omega
 refine⟨k,hk3,?_⟩
 rw[<-e,List.getElem_take,List.getD_eq_getElem?_getD,List.getElem?_eq_getElem (by omega)]
 rfl
theorem Q6 {ts:List (List Rw)}{t:List Rw}{r:Rw}{d:D}(ht:t∈ts)(hr:r∈t)(hd:d∈itemsOf r):d∈wordsOf ts:=List.mem_flatMap.mpr ⟨t,ht,List.mem_flatMap.mpr ⟨r,hr,hd⟩⟩
namespace K
theorem Qz (l:List Int):∃p:Pl,oK p/\jf [.uR l,.int 5]=some (p.d,.new):=by
 obtain⟨u0,e0⟩:=mG l 0
 obtain⟨v2,e2,p2⟩:=uO u0 1 (by omega) (by omega)
 obtain⟨ns,hl,hn,en⟩:=v_names (v2/13)
 obtain⟨u1,e1⟩:=mG l 1
 obtain⟨v4,e4,p4⟩:=uO u1 2 (by omega) (by omega)
 obtain⟨u2,eu2⟩:=mG l 2
 let sel:List Int:=[0,0,v4/7 % 100,5]
 let K3:Nat->Int:=λk=>sel.getD ((v4+(k:Int)) % 4).toNat 0
 let cells:List (Str×Int):=[(ns.getD 0 "",K3 0),(ns.getD 1 "",K3 1),(ns.getD 2 "",K3 2)]
 have a1w:∀k:Nat,aq (.lst (sel.map .int)) (.int ((v4+(k:Int)) % 4))=some (.int (K3 k)):=λk=>by
  obtain⟨j,hj,hj'⟩:=tX (v4+(k:Int)) 4 (by omega)
  rw[<-hj]
  have ej:((v4+(k:Int)) % 4).toNat=j:=by omega
  refine lK ?_
  simp only[K3,ej,List.getElem?_map]
  have hlt:j<sel.length:=by simp only[sel,List.length_cons,List.length_nil];omega
  rw[List.getD_eq_getElem?_getD,List.getElem?_eq_getElem hlt]
  rfl
 have nmk:∀k:Nat,k<3->aq (.lst (ns.map .str)) (.int (k:Nat))=some (.str (ns.getD k "")):=λk hk=>M7 (by omega)
 let E (mo:Int) (mf:Bool) (a7 a8 a9 a10 a11 a12 a13:Option L):bw:=iB l mo mf v2 ns v4 sel (.tup (cells.map cD)) a7 a8 a9 a10 a11 a12 a13
 have a01:gf (bC 0) tT (bL (aa (f2 aq (aj 1) (aj 0)) (aa (f2 aq (aj 2) (f2 cC (f2 aW (aj 3) (aj 0)) (fC (.int 4)))) aA))) [none,some (.lst (ns.map .str)),some (.lst (sel.map .int)),some (.int v4)] (su 0 3)=some (cells.map cD):=by
  rw[Bd]
  have:=comp_map (T:=bC 0) (Tt:=tT) (Fe:=bL (aa (f2 aq (aj 1) (aj 0)) (aa (f2 aq (aj 2) (f2 cC (f2 aW (aj 3) (aj 0)) (fC (.int 4)))) aA))) (ρ:=[none,some (.lst (ns.map .str)),some (.lst (sel.map .int)),some (.int v4)]) (f:=λk:Nat=> .int (k:Nat)) (g:=λk:Nat=>cD (ns.getD k "",K3 k)) (λk=>[some (.int (k:Nat)),some (.lst (ns.map .str)),some (.lst (sel.map .int)),some (.int v4)]) (List.range' 0 3) λk hk=>⟨rfl,rfl,bT (bG (aC rfl rfl (nmk k (by simp at hk;omega))) (aO (aC rfl (aC (aC rfl rfl rfl) rfl (cV _ 4 (by omega))) (a1w k)))) (by simp)⟩
  rw[this]
  rfl
 have pre:jW (aH 14 [.uR l,.int 5])=(aL (gj (t2 (cR false) (f2 cC (aN aQ [] (aa (aj 0) (aa (fC (.int 2)) aA))) (fC (.int 3))) (fC (.int 1))) (ju 7 (Cr dN [] (aa (f2 eN (aN aQ [] (aa (aj 0) (aa (fC (.int 2)) aA))) (fC (.int 3))) (aa (aj 3) (aa (f2 (jb cW bN) (f2 cC (aN aQ [] (aa (aj 0) (aa (fC (.int 1)) aA))) (fC (.int 3))) (fC (.int 30))) aA))))) (aL (aZ 8 (f2 aq (fG (aa (fC (.int 2)) (aa (fC (.int 2)) (aa (fC (.int 3)) (aa (fC (.int 1)) (aa (fC (.int 2)) aA)))))) (f2 cC (f2 eN (aN aQ [] (aa (aj 0) (aa (fC (.int 2)) aA))) (fC (.int 3))) (fC (.int 5))))) (aL (aZ 1 (fB Ks (aa (aj 1) (aa (f2 aq (fG (aa (fC (.int 5)) (aa (fC (.int 5)) (aa (fC (.int 5)) (aa (fC (.int 3)) aA))))) (aj 8)) aA)))) (aL (ju 7 (tZ aA)) (gM (jK (aj 8)) (bf 9) pgB))))) (aL (aZ 11 (fG aA)) (aL (Av 7 (gM (fH (aj 7)) (bf 12) (gM (fH (aj 12)) (bf 13) (aZ 11 (f2 aW (aj 11) (fZ (nB nList (aa (aj 13) aA)))))))) (aL (aZ 8 (fB vZ (aa (f2 aW (fG (aa (f2 aW (fC (.int 1)) (f2 cC (f2 eN (aj 4) (fC (.int 9))) (fC (.int 3)))) aA)) (fZ (dM [none,some 11,some 3] (jK (fC (.int 3))) (bC 0) (t2 (lU false) (f2 aq (aj 2) (aj 0)) (aj 1)) (f2 aW (aj 0) (fC (.int 1)))))) aA))) (dg (bL (aa (uV (aj 6) gB (eY (aj 8))) (aa (fB (kW cF dW) (aa (fZ (dM [none] (fH (aj 7)) (bC 0) tT (fB (kW cF dW) (aa (aj 0) aA)))) aA)) aA)))))))) (E 5 false none none none none none none none):=by
  unfold jW
  have Kf:∀ρ:aK,at? ρ 2=some (.int v2)->aN jo [] (aa (f2 eN (aj 2) (fC (.int 13))) aA) ρ=some (.lst (ns.map .str)):=λρ h=>aU (aO (aC h rfl (fK v2 13 (by omega) (by omega)))) en rfl
  have c5:∀ρ:aK,at? ρ 4=some (.int v4)->fG (aa (fC (.int 0)) (aa (fC (.int 0)) (aa (f2 cC (f2 eN (aj 4) (fC (.int 7))) (fC (.int 100))) (aa (fC (.int 5)) aA)))) ρ=some (.lst (sel.map .int)):=λρ h=>by
   show(aa _ _ ρ).bind tW=_
   rw[bG rfl (bG rfl (bG (aC (aC h rfl (fK v4 7 (by omega) (by omega))) rfl (cV _ 100 (by omega))) (aO rfl))),Option.bind_some]
   rfl
  refine(aD (aM (i:=2) (d:= .int v2) (aU (bG (aU (bG rfl (aO rfl)) e0 rfl) (aO rfl)) e2 rfl) rfl)).trans ?_
  refine(aD (pC (i:=3) (Kf _ rfl) (Kf _ (by simp[aH,vals,pick,at?])))).trans ?_
  refine(aD (aM (i:=4) (d:= .int v4) (aU (bG (aU (bG rfl (aO rfl)) e1 rfl) (aO rfl)) e4 rfl) rfl)).trans ?_
  refine(aD (pC (i:=5) (c5 _ rfl) (c5 _ (by simp[aH,vals,pick,at?])))).trans ?_
  refine(aD (aM (i:=6) (d:= .tup (cells.map cD)) (uv (.inl (jt (j5 (uD (n:=3) rfl (by omega)) (by simp[su]) a01)))) (by simp only[flat];exact bh Ar))).trans ?_
  rfl
 have k3:t2 (cR false) (f2 cC (aN aQ [] (aa (aj 0) (aa (fC (.int 2)) aA))) (fC (.int 3))) (fC (.int 1)) (vis (E 5 false none none none none none none none))=some (u2 % 3==1):=dh (aC (aU (bG rfl (aO rfl)) eu2 rfl) rfl (cV u2 3 (by omega))) rfl (Pj _ _)
 have thr:∃(ts:List (List Rw)) (fr:Bool) (mo:Int) (mf:Bool) (a8 a9 a10:Option L),ts.length<=3/\(∀t∈ts,t.length<=20/\∀r∈t,oM ns r)/\gj (t2 (cR false) (f2 cC (aN aQ [] (aa (aj 0) (aa (fC (.int 2)) aA))) (fC (.int 3))) (fC (.int 1))) (ju 7 (Cr dN [] (aa (f2 eN (aN aQ [] (aa (aj 0) (aa (fC (.int 2)) aA))) (fC (.int 3))) (aa (aj 3) (aa (f2 (jb cW bN) (f2 cC (aN aQ [] (aa (aj 0) (aa (fC (.int 1)) aA))) (fC (.int 3))) (fC (.int 30))) aA))))) (aL (aZ 8 (f2 aq (fG (aa (fC (.int 2)) (aa (fC (.int 2)) (aa (fC (.int 3)) (aa (fC (.int 1)) (aa (fC (.int 2)) aA)))))) (f2 cC (f2 eN (aN aQ [] (aa (aj 0) (aa (fC (.int 2)) aA))) (fC (.int 3))) (fC (.int 5))))) (aL (aZ 1 (fB Ks (aa (aj 1) (aa (f2 aq (fG (aa (fC (.int 5)) (aa (fC (.int 5)) (aa (fC (.int 5)) (aa (fC (.int 3)) aA))))) (aj 8)) aA)))) (aL (ju 7 (tZ aA)) (gM (jK (aj 8)) (bf 9) pgB)))) (E 5 false none none none none none none none)=some (.nx (E mo mf (some (.own (ts.map uo) fr none)) a8 a9 a10 none none none)):=by
  cases hk:(u2 % 3==1)with
  |true=>
   obtain⟨ts,h1,h2,es⟩:=U5 (u2/3) ns (u1 % 3*30) hl hn
   have q:∀ρ:aK,at? ρ 0=some (.uR l)->at? ρ 3=some (.lst (ns.map .str))->Cr dN [] (aa (f2 eN (aN aQ [] (aa (aj 0) (aa (fC (.int 2)) aA))) (fC (.int 3))) (aa (aj 3) (aa (f2 (jb cW bN) (f2 cC (aN aQ [] (aa (aj 0) (aa (fC (.int 1)) aA))) (fC (.int 3))) (fC (.int 30))) aA))) ρ=some (ts.map uo):=λρ h0 h3=>by
    show(aa _ _ ρ).bind (λl=>(dN (l++[])).bind Jp)=_
    rw[bG (aC (aU (bG h0 (aO rfl)) eu2 rfl) rfl (fK u2 3 (by omega) (by omega))) (bG h3 (aO (aC (aC (aU (bG h0 (aO rfl)) e1 rfl) rfl (cV u1 3 (by omega))) rfl (Jx _ _ (.inr ⟨by omega,by omega⟩))))),Option.bind_some,List.append_nil,es]
    rfl
   obtain⟨fr,eo⟩:=Rq (i:=7) (F:=Cr dN [] (aa (f2 eN (aN aQ [] (aa (aj 0) (aa (fC (.int 2)) aA))) (fC (.int 3))) (aa (aj 3) (aa (f2 (jb cW bN) (f2 cC (aN aQ [] (aa (aj 0) (aa (fC (.int 1)) aA))) (fC (.int 3))) (fC (.int 30))) aA)))) (ρ:=E 5 false none none none none none none none) (q _ rfl rfl) (by simp[Cr,aa,f2,aN,aj,E,iB,vals,pick,at?,flat]) (q _ (by simp[E,iB,vals,pick,at?]) (by simp[E,iB,vals,pick,at?]))
   exact⟨ts,fr,5,false,none,none,none,h1,h2,(gb (by rw[k3,hk])).trans (eo.trans rfl)⟩
  |false=>
   obtain⟨j,hj,hj'⟩:=tX (u2/3) 5 (by omega)
   have hm:∃many:Nat,1<=many/\many<=3/\([D.int 2,.int 2,.int 3,.int 1,.int 2]:List D)[j]?=some (.int (many:Nat)):=by
    have:j=0\/j=1\/j=2\/j=3\/j=4:=by omega
    rcases this with rfl|rfl|rfl|rfl|rfl
    ·exact⟨2,by omega,by omega,rfl⟩
    ·exact⟨2,by omega,by omega,rfl⟩
    ·exact⟨3,by omega,by omega,rfl⟩
    ·exact⟨1,by omega,by omega,rfl⟩
    ·exact⟨2,by omega,by omega,rfl⟩
   obtain⟨many,m1,m2,em⟩:=hm
   have hx:∃b:Int,3<=b/\b<=5/\([D.int 5,.int 5,.int 5,.int 3]:List D)[many]?=some (.int b):=by
    have:many=1\/many=2\/many=3:=by omega
    rcases this with rfl|rfl|rfl
    ·exact⟨5,by omega,by omega,rfl⟩
    ·exact⟨5,by omega,by omega,rfl⟩
    ·exact⟨3,by omega,by omega,rfl⟩
   obtain⟨b,b1,b2,eb⟩:=hx
   let mo:Int:=if b<5 then b else 5
   have mo1:0<=mo:=by simp only[mo];split<;>omega
   have mo2:mo<=5:=by simp only[mo];split<;>omega
   obtain⟨ts,fr,b9,b10,t1,t2',t3⟩:=Np l mo true v2 ns v4 sel (.tup (cells.map cD)) (some (.val (.int (many:Nat)) true)) none none none hl hn mo1 mo2 many 0 [] true none none (by omega) rfl (by simp)
   refine⟨ts,fr,mo,true,some (.val (.int (many:Nat)) true),b9,b10,by omega,t2',(cP (by rw[k3,hk])).trans ?_⟩
   refine(aD (aM (i:=8) (d:= .int (many:Nat)) (aC (x:= .lst [.int 2,.int 2,.int 3,.int 1,.int 2]) rfl (aC (aC (aU (bG rfl (aO rfl)) eu2 rfl) rfl (fK u2 3 (by omega) (by omega))) rfl (cV _ 5 (by omega))) (by rw[<-hj];exact lK em)) rfl)).trans ?_
   refine(aD (aM (i:=1) (d:= .int mo) (kI (bG rfl (aO (aC (x:= .lst [.int 5,.int 5,.int 5,.int 3]) rfl rfl (lK eb)))) rfl) rfl)).trans ?_
   refine(aD (fc (i:=7) (l:=[]) rfl rfl)).trans ?_
   exact(tM (n:=many) rfl (by omega)).trans t3
 obtain⟨ts,fr,mo,mf,a8,a9,a10,nt,hts,eth⟩:=thr
 have ew:∃(p6 j4:Option L),aL (aZ 11 (fG aA)) (aL (Av 7 (gM (fH (aj 7)) (bf 12) (gM (fH (aj 12)) (bf 13) (aZ 11 (f2 aW (aj 11) (fZ (nB nList (aa (aj 13) aA)))))))) (aL (aZ 8 (fB vZ (aa (f2 aW (fG (aa (f2 aW (fC (.int 1)) (f2 cC (f2 eN (aj 4) (fC (.int 9))) (fC (.int 3)))) aA)) (fZ (dM [none,some 11,some 3] (jK (fC (.int 3))) (bC 0) (t2 (lU false) (f2 aq (aj 2) (aj 0)) (aj 1)) (f2 aW (aj 0) (fC (.int 1)))))) aA))) (dg (bL (aa (uV (aj 6) gB (eY (aj 8))) (aa (fB (kW cF dW) (aa (fZ (dM [none] (fH (aj 7)) (bC 0) tT (fB (kW cF dW) (aa (aj 0) aA)))) aA)) aA)))))) (E mo mf (some (.own (ts.map uo) fr none)) a8 a9 a10 none none none)
  =(aL (aZ 8 (fB vZ (aa (f2 aW (fG (aa (f2 aW (fC (.int 1)) (f2 cC (f2 eN (aj 4) (fC (.int 9))) (fC (.int 3)))) aA)) (fZ (dM [none,some 11,some 3] (jK (fC (.int 3))) (bC 0) (t2 (lU false) (f2 aq (aj 2) (aj 0)) (aj 1)) (f2 aW (aj 0) (fC (.int 1)))))) aA))) (dg (bL (aa (uV (aj 6) gB (eY (aj 8))) (aa (fB (kW cF dW) (aa (fZ (dM [none] (fH (aj 7)) (bC 0) tT (fB (kW cF dW) (aa (aj 0) aA)))) aA)) aA))))) (E mo mf (some (.val (.lst (ts.map uo)) fr)) a8 a9 a10 (some (.val (.lst (wordsOf ts)) true)) p6 j4):=by
  have sq:∀ρ:aK,at? ρ 7=some (.lst (ts.map uo))->fH (aj 7) ρ=some (ts.map uo,[.lst (ts.map uo)]):=λρ h=>jR h
  obtain⟨f',ef⟩:=Jb (T:=bf 12) (G:=gM (fH (aj 12)) (bf 13) (aZ 11 (f2 aW (aj 11) (fZ (nB nList (aa (aj 13) aA)))))) (ρ:=E mo mf (some (.val (.lst (ts.map uo)) fr)) a8 a9 a10 (some (.val (.lst []) true)) none none) (sq _ rfl) (by
   cases fr with
   |true=>exact .inl (sq _ (by simp[E,iB,vals,pick,at?]))
   |false=>exact .inr (by simp[fH,aj,E,iB,vals,pick,at?,flat])) (sq _ (by simp[E,iB,vals,pick,at?]))
  obtain⟨p6,j4,lp⟩:=zT l mo mf v2 ns v4 sel (.tup (cells.map cD)) (some (.val (.lst (ts.map uo)) fr)) a8 a9 a10 f' ts [] none none (λt ht=>(hts t ht).1) (by simp only[List.length_nil];omega)
  refine⟨p6,j4,?_⟩
  refine(aD (pC (i:=11) (d:= .lst []) rfl rfl)).trans ?_
  refine(aD (ρ':=E mo mf (some (.val (.lst (ts.map uo)) fr)) a8 a9 a10 (some (.val (.lst (wordsOf ts)) true)) p6 j4) ?_).trans rfl
  show gM _ _ _ (E mo mf (some (.val (.lst (ts.map uo)) fr)) a8 a9 a10 (some (.val (.lst []) true)) none none)=_
  rw[ef]
  simpa using lp
 obtain⟨p6,j4,ew⟩:=ew
 let W:=wordsOf ts
 have shW:sE (.lst W)=true:=gw (n:=1) (by
  simp only[mR,List.all_eq_true]
  intro d hd
  obtain⟨t,ht,hd⟩:=List.mem_flatMap.mp hd
  obtain⟨r,hr,hd⟩:=List.mem_flatMap.mp hd
  exact RC ((hts t ht).2 r hr) hn d hd)
 let inW:Nat->Bool:=λk=>W.any λy=>sr y (.str (ns.getD k ""))
 obtain⟨q0,hq0,hq0'⟩:=tX (v4/9) 3 (by omega)
 let ks:List Int:=((List.range' 0 3).filter inW).map λk:Nat=>((k:Int)+1)
 let M:Int:=maxOf (1+(q0:Int)) ks
 have M1:1<=M:=by have:=(Cm ks (1+(q0:Int))).1;simp only[M];omega
 have M3:M<=3:=Ju ks _ 3 (by omega) λx hx=>by
  obtain⟨k,hk,rfl⟩:=List.mem_map.mp hx
  have:=(List.mem_filter.mp hk).1
  simp at this
  omega
 obtain⟨Mn,hMn⟩:=Int.eq_ofNat_of_zero_le (show 0<=M by omega)
 have a04:∀ρ:aK,at? ρ 4=some (.int v4)->at? ρ 11=some (.lst W)->at? ρ 3=some (.lst (ns.map .str))->fB vZ (aa (f2 aW (fG (aa (f2 aW (fC (.int 1)) (f2 cC (f2 eN (aj 4) (fC (.int 9))) (fC (.int 3)))) aA)) (fZ (dM [none,some 11,some 3] (jK (fC (.int 3))) (bC 0) (t2 (lU false) (f2 aq (aj 2) (aj 0)) (aj 1)) (f2 aW (aj 0) (fC (.int 1)))))) aA) ρ=some (.int M):=by
  intro ρ h4 h11 h3
  have ec:gf (bC 0) (t2 (lU false) (f2 aq (aj 2) (aj 0)) (aj 1)) (f2 aW (aj 0) (fC (.int 1))) [none,some (.lst W),some (.lst (ns.map .str))] (su 0 3)=some (ks.map .int):=by
   rw[Bd]
   have:=mV (T:=bC 0) (Tt:=t2 (lU false) (f2 aq (aj 2) (aj 0)) (aj 1)) (Fe:=f2 aW (aj 0) (fC (.int 1))) (ρ:=[none,some (.lst W),some (.lst (ns.map .str))]) (f:=λk:Nat=> .int (k:Nat)) (g:=λk:Nat=> .int ((k:Int)+1)) inW (λk=>[some (.int (k:Nat)),some (.lst W),some (.lst (ns.map .str))]) (List.range' 0 3) λk hk=>⟨rfl,dh (aC rfl rfl (nmk k (by simp at hk;omega))) rfl (by
    unfold lU
    simp only[nD,Option.bind_some,mD _ (hn _ (z9 (show k<ns.length by simp at hk;omega))).1,shW,Bool.and_self,if_true]
    rfl),aC rfl rfl rfl⟩
   rw[this]
   simp[ks]
  have hks:ks.length<=3:=by
   have:=List.length_filter_le inW (List.range' 0 3)
   simp only[ks,List.length_map]
   simpa using this
  refine kI (aO (aC (x:= .lst [.int (1+(q0:Int))]) ?_ (jt (j5 (uD (n:=3) rfl (by omega)) (by simp[su]) (l:=ks.map .int) ?_)) (z:= .lst (((1+(q0:Int))::ks).map .int)) ?_)) (Vq _ _)
  ·show(aa _ _ ρ).bind tW=_
   rw[aO (aC rfl (aC (aC h4 rfl (fK v4 9 (by omega) (by omega))) rfl (cV _ 3 (by omega))) (z:= .int (1+(q0:Int))) (by rw[<-hq0];rfl)),Option.bind_some]
   rfl
  ·have:inD [none,some 11,some 3] ρ=[none,some (.lst W),some (.lst (ns.map .str))]:=by simp only[inD,List.map_cons,List.map_nil,h11,h3]
   rw[this]
   exact ec
  ·simp only[aW]
   rw[if_pos (by rw[sizeLine_eq];simp;omega)]
   rfl
 let p:Pl:=⟨cells.take Mn,ts⟩
 have a2g:1<=Mn/\Mn<=3:=by omega
 have Xw:∀c∈cells,PyData.strOk c.1=true:=by
  intro c hc
  simp only[cells,List.mem_cons,List.not_mem_nil,or_false]at hc
  rcases hc with rfl|rfl|rfl
  ·exact(hn _ (z9 (by omega))).1
  ·exact(hn _ (z9 (by omega))).1
  ·exact(hn _ (z9 (by omega))).1
 have hp:oK p:=by
  refine⟨by simp[p];omega,nt,λt ht=>(hts t ht).1,λt ht r hr=>((hts t ht).2 r hr).bx,λt ht r hr c hc=>?_,λc hc=>Xw c (List.mem_of_mem_take hc)⟩
  obtain⟨k,hk,rfl⟩:=take3 hl (((hts t ht).2 r hr).WN c hc)
  have hin:inW k=true:=Uu (Q6 ht hr (OD hc))
  have hle:(k:Int)+1<=M:=(Cm ks (1+(q0:Int))).2 _ (List.mem_map.mpr ⟨k,List.mem_filter.mpr ⟨by rw[List.mem_range'];exact⟨k,hk,by omega⟩,hin⟩,rfl⟩)
  have hkM:k<Mn:=by omega
  refine List.mem_map.mpr ⟨(ns.getD k "",K3 k),?_,rfl⟩
  have:(cells.take Mn)[k]?=some (ns.getD k "",K3 k):=by
   rw[List.getElem?_take_of_lt hkM]
   have:k=0\/k=1\/k=2:=by omega
   rcases this with rfl|rfl|rfl<;>rfl
  exact List.mem_of_getElem? this
 refine⟨p,hp,?_⟩
 have XF:∃ρ,jW (aH 14 [.uR l,.int 5])=some (.rt p.d .new ρ):=by
  refine⟨E mo mf (some (.val (.lst (ts.map uo)) fr)) (some (.val (.int M) true)) a9 a10 (some (.val (.lst (wordsOf ts)) true)) p6 j4,?_⟩
  rw[pre,aD eth,ew]
  refine(aD (aM (i:=8) (d:= .int M) (a04 _ rfl rfl rfl) rfl)).trans ?_
  have ec2:gf (bC 0) tT (fB (kW cF dW) (aa (aj 0) aA)) [none] (ts.map uo)=some (ts.map mF):=
   comp_map (λt=>[some (uo t)]) ts λt _=>⟨rfl,rfl,uv (.inl rfl)⟩
  refine(bM (d:=p.d) ?_ (wB p)).trans rfl
  refine bT (bG (pX (d:= .tup (cells.map cD)) rfl rfl (ji (i:=M) rfl) (e:= .tup ((cells.take Mn).map cD)) ?_) (aO (uv (.inl (jt (j5 (jR rfl) (by simp;omega) ec2)))))) (by simp)
  rw[hMn]
  simp only[Ea,Bo,List.map_take]
 obtain⟨ρ,XF⟩:=XF
 simp only[jf,List.length_cons,List.length_nil,if_true,XF,cI]
end K
theorem eqv_refl:∀(n:Nat) (d:D),mR n d=true->PyData.eqv (rK d) (rK d)=true:=by
 intro n
 induction n with
 |zero=>intro d h;cases d<;>simp[mR,rK,PyData.eqv]at h ⊢
 |succ n ih=>
  have all:∀l:List D,l.all (mR n)=true->PyData.eqvAll (iG l) (iG l)=true:=by
   intro l
   induction l with
   |nil=>intro _;simp[iG,PyData.eqvAll]
   |cons x l il=>
    intro h
    rw[List.all_cons,Bool.and_eq_true]at h
    simp[iG,PyData.eqvAll,ih x h.1,il h.2]
  intro d h
  cases d with
  |tup l=>simpa only[rK,PyData.eqv]using all l (by simpa only[mR]using h)
  |lst l=>simpa only[rK,PyData.eqv]using all l (by simpa only[mR]using h)
  |_=>simp[mR,rK,PyData.eqv]at h ⊢
theorem J2 {n:Nat}{d:D}(h:mR n d=true)(hn:n<=64:=by decide)(neg:Bool):cR neg d d=some (.bl (if neg then false else true)):=by
 unfold cR
 rw[gw h hn,show sr d d=true from eqv_refl n d h]
 cases neg<;>rfl
theorem qi.mono {p:Pl}{w:Bool}{k k':Nat}{S:nj}(h:qi p w k S)(hk:k<=k'):qi p w k' S:=⟨h.nt,h.nc,λi t th a b=>by
 obtain⟨x,y,z,u⟩:=h.th i t th a b
 exact⟨x,by omega,z,u⟩⟩
theorem Zf {p:Pl}(hp:oK p):mR 4 p.d=true:=by
 have hc:∀c∈p.cells,mR 2 (cD c)=true:=λc hc=>by simp[cD,mR,hp.okc c hc]
 have hr:∀t∈p.cQ,∀r∈t,mR 1 r.d=true:=λt ht r hr=>Tz (hp.row t ht r hr) λc e=>by
  obtain⟨a,ha,rfl⟩:=List.mem_map.mp (hp.WN t ht r hr c e)
  exact hp.okc a ha
 have ht:∀t∈p.cQ,mR 2 (mF t)=true:=λt ht=>by
  simp only[mF,mR,List.all_eq_true,List.mem_map]
  rintro d ⟨r,hr',rfl⟩
  exact hr t ht r hr'
 simp only[Pl.d,Pl.iY,Pl.qJ,mR,List.all_cons,List.all_nil,Bool.and_true,Bool.and_eq_true,List.all_eq_true,List.mem_map]
 exact⟨by rintro d ⟨c,h,rfl⟩;exact hc c h,by rintro d ⟨t,h,rfl⟩;exact ht t h⟩
theorem Wk (S:nj):mR 5 S.d=true:=by
 have hq:∀x:Nat×Int,mR 1 (qD x)=true:=λx=>by simp[qD,mR]
 have hh:∀h:Th,mR 3 h.d=true:=λh=>by
  simp only[Th.d,mR,List.all_cons,List.all_nil,Bool.and_true,Bool.true_and,Bool.and_eq_true,List.all_eq_true,List.mem_map]
  exact⟨by rintro d ⟨c,_,rfl⟩;rfl,by rintro d ⟨c,_,rfl⟩;exact hq c⟩
 simp only[nj.d,mR,List.all_cons,List.all_nil,Bool.and_true,Bool.and_eq_true,List.all_eq_true,List.mem_map]
 exact⟨by rintro d ⟨c,_,rfl⟩;rfl,by rintro d ⟨c,_,rfl⟩;exact hh c⟩
theorem Vm {T:D->Bool->bw->Option bw}{G:GS}{fr:Bool}{d:D}{ds:List D}{ρ Aj yH:bw}(hT:T d fr ρ=some Aj)(hG:G Aj=some (.bk yH)):dX T G fr (d::ds) ρ=some (.nx yH):=by
 simp only[dX,hT,hG,Option.bind_some]
structure Mq (p:Pl)(w:Bool)(r:nj×Int):Prop where
 st:qi p w 100 r.1
 ch:r.2∈jQ 0 p.cQ r.1.cQ
noncomputable def Dh (p:Pl)(w:Bool)(r:nj×Int):D:= .tup [r.1.d,.int r.2,(jJ p w r.1 r.2).d]
theorem J9 (p:Pl)(w:Bool)(r:nj×Int):flat (Dh p w r)=true:=by simp[Dh,flat,flat.flats,eV]
namespace K
noncomputable def lJ (l:List Int)(C:Addr)(p:Pl)(u:Int)(w:Bool)(S:D)(T:D)(dU:List (nj×Int))(a8 a9 a10 a11 a12 a13:Option L):bw:=[some (.val (.uR l) false),some (.val p.d true),some (.val (p.pr C) true),some (.val (.int u) true),some (.val (.bl w) true),some (.val S true),some (.val T true),some (.own (dU.map (Dh p w)) true none),a8,a9,a10,a11,a12,a13]
noncomputable def lwB (C:Addr):GS:=(aL (aZ 9 (aN jd [] (aa (aj 1) (aa (aj 6) aA)))) (aL (gj (Dt (yw (tV (aN gZ [] (aa (aj 5) (aa (aj 6) aA))))) (t2 (cR false) (aj 9) (fG aA))) gBk bJ) (aL (aZ 10 (aN cg [] (aa (f2 (jb cW bN) (aN aQ [] (aa (aj 0) (aa (f2 aW (fC (.int 31)) (f2 cC (aj 8) (fC (.int 16)))) aA))) (f2 aW (fC (.int 1)) (f2 (jb cW bN) (fC (.int 2)) (aj 8)))) (aa (f2 aW (fC (.int 40)) (aj 8)) aA)))) (aL (aZ 11 (f2 aq (aj 9) (f2 cC (aj 10) (fB iZ (aa (aj 9) aA))))) (aL (aZ 12 (aN (fO C) [] (aa (aj 2) (aa (aj 5) (aa (aj 11) (aa (aj 4) (aa (f2 (cR false) (f2 cC (f2 eN (aj 3) (fC (.int 3))) (fC (.int 2))) (fC (.int 1))) aA))))))) (aL (aZ 13 (aj 5)) (aL (aZ 5 (aj 12)) (aL (aZ 6 (aN kj [] (aa (aj 1) (aa (aj 6) (aa (aj 11) (aa (aj 4) aA)))))) (fU 7 (bL (aa (aj 13) (aa (aj 11) (aa (aj 6) aA)))))))))))))
theorem Rz (l:List Int):cR false (.lst (l.map .int)) (.lst [])=some (.bl l.isEmpty):=by
 have h:sE (.lst (l.map .int))=true:=gw (n:=1) (by
  simp only[mR,List.all_eq_true,List.mem_map]
  rintro d ⟨x,hx,rfl⟩
  rfl)
 have h0:sE (.lst [])=true:=gw (n:=1) rfl
 unfold cR
 rw[h,h0,Kz]
 simp only[Bool.and_self,if_true,iG,qU,List.isEmpty_map]
 rfl
theorem Vo (l:List Int)(C:Addr)(p:Pl)(hp:oK p)(u:Int)(w:Bool)(S:nj)(dU:List (nj×Int))(a9 a10 a11 a12 a13:Option L)(k:Nat)(hk:k<50)(hS:qi p w k S)(hr:dU.length<100):
 (∃b9,lwB C (lJ l C p u w S.d S.d dU (some (.val (.int (k:Nat)) true)) a9 a10 a11 a12 a13)=some (.bk (lJ l C p u w S.d S.d dU (some (.val (.int (k:Nat)) true)) b9 a10 a11 a12 a13)))\/
 ∃c b9 b10 sV p6 j4,c∈jQ 0 p.cQ S.cQ/\lwB C (lJ l C p u w S.d S.d dU (some (.val (.int (k:Nat)) true)) a9 a10 a11 a12 a13)=some (.nx (lJ l C p u w (jJ p w S c).d (jJ p w S c).d (dU++[(S,c)]) (some (.val (.int (k:Nat)) true)) b9 b10 sV p6 j4)):=by
 let cl:=jQ 0 p.cQ S.cQ
 let E9:Option L:=some (.val (.lst (cl.map .int)) true)
 have vc:=Zt p hp S hS.nt
 have vs:=Mm p hp w k (by omega) S hS
 have q9:∀ρ:aK,at? ρ 1=some p.d->at? ρ 6=some S.d->aN jd [] (aa (aj 1) (aa (aj 6) aA)) ρ=some (.lst (cl.map .int)):=λρ h1 h6=>aU (bG h1 (aO h6)) vc rfl
 have g9:aZ 9 (aN jd [] (aa (aj 1) (aa (aj 6) aA))) (lJ l C p u w S.d S.d dU (some (.val (.int (k:Nat)) true)) a9 a10 a11 a12 a13)=some (.nx (lJ l C p u w S.d S.d dU (some (.val (.int (k:Nat)) true)) E9 a10 a11 a12 a13)):=
  (pC (i:=9) (q9 _ rfl rfl) (q9 _ (by simp[lJ,vals,pick,at?]) (by simp[lJ,vals,pick,at?]))).trans rfl
 have kk:Dt (yw (tV (aN gZ [] (aa (aj 5) (aa (aj 6) aA))))) (t2 (cR false) (aj 9) (fG aA)) (vis (lJ l C p u w S.d S.d dU (some (.val (.int (k:Nat)) true)) E9 a10 a11 a12 a13))=some (!true||cl.isEmpty):=
  uq (uN (Kc (aU (bG rfl (aO rfl)) vs rfl))) λ_=>dh rfl rfl (Rz cl)
 by_cases he:cl.isEmpty=true
 ·left
  refine⟨E9,?_⟩
  unfold lwB
  refine(aD g9).trans (Vd ?_)
  exact(gb (by rw[kk,he];rfl)).trans rfl
 ·right
  have hpos:0<cl.length:=by
   cases h:cl with
   |nil=>rw[h]at he;exact absurd rfl he
   |cons a b=>simp
  obtain⟨u0,e0⟩:=mG l (31+k % 16)
  obtain⟨v,e1,_⟩:=uO (u0*(1+2*(k:Int))) ((40+k:Nat):Int) (by omega) (by omega)
  obtain⟨j,hj,hj'⟩:=tX v (cl.length:Int) (by omega)
  have hjl:j<cl.length:=by omega
  have hcm:cl[j]∈cl:=List.getElem_mem hjl
  have hce:cl[j]?=some cl[j]:=List.getElem?_eq_getElem hjl
  generalize cl[j]=c at hcm hce
  have vb:=Kd C p hp S w (u/3 % 2==1) k (by omega) hS c hcm
  have vn:=Wx p hp S w k (by omega) hS c hcm
  let N:=jJ p w S c
  refine⟨c,E9,some (.val (.int v) true),some (.val (.int c) true),some (.val N.d true),some (.val S.d true),hcm,?_⟩
  unfold lwB
  refine(aD g9).trans ?_
  refine(aD ((cP (by rw[kk,Bool.eq_false_iff.mpr he];rfl)).trans rfl)).trans ?_
  refine(aD (aM (i:=10) (d:= .int v) (aU (bG (aC (aU (bG rfl (aO (aC rfl (aC rfl rfl (cV _ 16 (by omega))) (z:= .int ((31+k % 16:Nat):Int)) (by simp[aW])))) e0 rfl) (aC rfl (aC rfl rfl (Ln k)) rfl) (Jx _ _ (.inr ⟨by omega,by omega⟩))) (aO (aC rfl rfl (z:= .int ((40+k:Nat):Int)) (show aW (.int 40) (.int (k:Nat))=_ by simp[aW])))) e1 rfl) rfl)).trans ?_
  refine(aD (aM (i:=11) (d:= .int c) (aC rfl (aC rfl (kI (aO rfl) (x:= .int (cl.length:Nat)) (by show iZ [.lst (cl.map .int)]=_;simp[iZ])) (cV v _ (by omega))) (by rw[<-hj];exact lK (by rw[List.getElem?_map,hce];rfl))) rfl)).trans ?_
  refine(aD (aM (i:=12) (d:=N.d) (aU (bG rfl (bG rfl (bG rfl (bG rfl (aO (aC (aC (aC rfl rfl (fK u 3 (by omega) (by omega))) rfl (cV _ 2 (by omega))) rfl (Pj _ _))))))) vb rfl) (eV _))).trans ?_
  refine(aD (aM (i:=13) (d:=S.d) rfl (eV _))).trans ?_
  refine(aD (aM (i:=5) (d:=N.d) rfl (eV _))).trans ?_
  refine(aD (aM (i:=6) (d:=N.d) (aU (bG rfl (bG rfl (bG rfl (aO rfl)))) vn rfl) (eV _))).trans ?_
  refine(iJ (i:=7) (d:=Dh p w (S,c)) (l:=dU.map (Dh p w)) rfl (by rw[sizeLine_eq];simp;omega) (bT (bG rfl (bG rfl (aO rfl))) (by simp)) (J9 p w (S,c))).trans ?_
  rw[show dU.map (Dh p w)++[Dh p w (S,c)]=(dU++[(S,c)]).map (Dh p w) by simp]
  rfl
theorem Nf (l:List Int)(C:Addr)(p:Pl)(hp:oK p)(u:Int)(w:Bool):∀(n i:Nat) (S:nj) (dU:List (nj×Int)) (a8 a9 a10 a11 a12 a13:Option L),i+n<=40->qi p w i S->dU.length=i->(∀r∈dU,Mq p w r)->
 ∃(S':nj) (JV:List (nj×Int)) (b8 b9 b10 sV p6 j4:Option L),qi p w 100 S'/\JV.length<=40/\(∀r∈JV,Mq p w r)/\dX (bf 8) (lwB C) true ((List.range' i n).map λk=>D.int (k:Nat)) (lJ l C p u w S.d S.d dU a8 a9 a10 a11 a12 a13)=some (.nx (lJ l C p u w S'.d S'.d JV b8 b9 b10 sV p6 j4))
 |0,i,S,dU,a8,a9,a10,a11,a12,a13,h1,hS,h2,h3=>⟨S,dU,a8,a9,a10,a11,a12,a13,hS.mono (by omega),by omega,h3,rfl⟩
 |n+1,i,S,dU,a8,a9,a10,a11,a12,a13,h1,hS,h2,h3=>by
  rcases Vo l C p hp u w S dU a9 a10 a11 a12 a13 i (by omega) hS (by omega)with⟨b9,e⟩|⟨c,b9,b10,sV,p6,j4,hc,e⟩
  ·refine⟨S,dU,some (.val (.int (i:Nat)) true),b9,a10,a11,a12,a13,hS.mono (by omega),by omega,h3,?_⟩
   rw[qy]
   exact Vm rfl e
  ·obtain⟨S',JV,c8,c9,UG,QW,c12,Kf,q1,q2,q3,q4⟩:=Nf l C p hp u w n (i+1) (jJ p w S c) (dU++[(S,c)]) (some (.val (.int (i:Nat)) true)) b9 b10 sV p6 j4 (by omega) (hS.next hp hc) (by simp;omega) (by
    intro r hr
    rcases List.mem_append.mp hr with hr|hr
    ·exact h3 r hr
    ·rw[List.mem_singleton.mp hr];exact⟨hS.mono (by omega),hc⟩)
   refine⟨S',JV,c8,c9,UG,QW,c12,Kf,q1,q2,q3,?_⟩
   rw[qy,<-q4]
   exact gG rfl e
noncomputable def Yo (C:Addr):GS:=(aL (Ja (kJ 3 (cJ (bf 13) (cJ (bf 11) (cJ (bf 6) lF)))) (f2 aq (aj 7) (f2 cC (aN cg [] (aa (f2 (jb cW bN) (aj 3) (f2 aW (fC (.int 1)) (f2 (jb cW bN) (fC (.int 2)) (aj 8)))) (aa (f2 aW (fC (.int 70)) (aj 8)) aA))) (fB iZ (aa (aj 7) aA))))) (gj (yw (tV (aN gZ [] (aa (aN (fO C) [] (aa (aj 2) (aa (aj 13) (aa (aj 11) (aa (aj 4) (aa (fC (.bl false)) aA)))))) (aa (aj 6) aA))))) (dg (fC (.bl false))) bJ))
theorem RM (l:List Int)(C:Addr)(p:Pl)(hp:oK p)(u:Int)(w:Bool)(S T:D)(dU:List (nj×Int))(a9 a10 a11 a12 a13:Option L)(k:Nat)(hk:k<50)(hr:∀r∈dU,Mq p w r)(hpos:0<dU.length)(hlen:dU.length<=40):
 ∃T' sV j4,Yo C (lJ l C p u w S T dU (some (.val (.int (k:Nat)) true)) a9 a10 a11 a12 a13)=some (.nx (lJ l C p u w S T' dU (some (.val (.int (k:Nat)) true)) a9 a10 sV a12 j4)):=by
 obtain⟨v,e1,_⟩:=uO (u*(1+2*(k:Int))) ((70+k:Nat):Int) (by omega) (by omega)
 obtain⟨j,hj,hj'⟩:=tX v (dU.length:Int) (by omega)
 have hjl:j<dU.length:=by omega
 have hre:dU[j]?=some dU[j]:=List.getElem?_eq_getElem hjl
 have hro:=hr _ (List.getElem_mem hjl)
 generalize dU[j]=r at hre hro
 obtain⟨R,c⟩:=r
 have vb:=Kd C p hp R w false 100 (by omega) hro.st c hro.ch
 have vs:=Mm p hp w 101 (by omega) _ (hro.st.next hp hro.ch)
 refine⟨(jJ p w R c).d,some (.val (.int c) true),some (.val R.d true),?_⟩
 unfold Yo
 have g1:Ja (kJ 3 (cJ (bf 13) (cJ (bf 11) (cJ (bf 6) lF)))) (f2 aq (aj 7) (f2 cC (aN cg [] (aa (f2 (jb cW bN) (aj 3) (f2 aW (fC (.int 1)) (f2 (jb cW bN) (fC (.int 2)) (aj 8)))) (aa (f2 aW (fC (.int 70)) (aj 8)) aA))) (fB iZ (aa (aj 7) aA)))) (lJ l C p u w S T dU (some (.val (.int (k:Nat)) true)) a9 a10 a11 a12 a13)=some (.nx (lJ l C p u w S (jJ p w R c).d dU (some (.val (.int (k:Nat)) true)) a9 a10 (some (.val (.int c) true)) a12 (some (.val R.d true)))):=by
  unfold Ja
  rw[fj (d:=Dh p w (R,c)) (aC rfl (aC (aU (bG (aC rfl (aC rfl (aC rfl rfl (Ln k)) rfl) (Jx _ _ (.inr ⟨by omega,by omega⟩))) (aO (aC rfl rfl (z:= .int ((70+k:Nat):Int)) (show aW (.int 70) (.int (k:Nat))=_ by simp[aW])))) e1 rfl) (kI (aO rfl) (x:= .int (dU.length:Nat)) (by show iZ [.lst (dU.map (Dh p w))]=_;simp[iZ])) (cV v _ (by omega))) (by rw[<-hj];exact lK (by rw[List.getElem?_map,hre];rfl))) (J9 p w (R,c))]
  rfl
 rw[aD g1]
 refine(cP (uN (x:=true) (Kc (aU (bG (aU (bG rfl (bG rfl (bG rfl (bG rfl (aO rfl))))) vb rfl) (aO rfl)) vs rfl)))).trans rfl
theorem Jt (l:List Int)(C:Addr)(p:Pl)(hp:oK p)(u:Int)(w:Bool)(S:D)(dU:List (nj×Int))(a9 a10 a12:Option L)(hr:∀r∈dU,Mq p w r)(hlen:dU.length<=40):∀(n i:Nat) (T:D) (a8 a11 a13:Option L),i+n<=40->(0<n->0<dU.length)->
 ∃(T':D) (b8 sV j4:Option L),dX (bf 8) (Yo C) true ((List.range' i n).map λk=>D.int (k:Nat)) (lJ l C p u w S T dU a8 a9 a10 a11 a12 a13)=some (.nx (lJ l C p u w S T' dU b8 a9 a10 sV a12 j4))
 |0,i,T,a8,a11,a13,_,_=>⟨T,a8,a11,a13,rfl⟩
 |n+1,i,T,a8,a11,a13,h1,h2=>by
  obtain⟨T',sV,j4,e⟩:=RM l C p hp u w S T dU a9 a10 a11 a12 a13 i (by omega) hr (h2 (by omega)) hlen
  obtain⟨T'',c8,QW,Kf,e2⟩:=Jt l C p hp u w S dU a9 a10 a12 hr hlen n (i+1) T' (some (.val (.int (i:Nat)) true)) sV j4 (by omega) (λ_=>h2 (by omega))
  refine⟨T'',c8,QW,Kf,?_⟩
  rw[qy,<-e2]
  exact gG rfl e
theorem Wy (C:Addr)(p:Pl):qN C [p.pr C]=some (p.d,.new):=by
 have e:Bj C (aH 1 [p.pr C])=some (.rt p.d .new (aH 1 [p.pr C])):=by
  unfold Bj
  exact bM (bT (bG (nO rfl (JP p)) (aO (nO rfl (vK p)))) (by simp)) (wB p)
 simp only[qN,List.length_cons,List.length_nil,if_true,e,cI]
theorem a1h (C:Addr)(l:List Int):QL C fu [.uR l]=some (.bl true,.new):=by
 obtain⟨p,hp,ep⟩:=Qz l
 obtain⟨u,eu⟩:=mG l 30
 let w:Bool:=!(u % 3==1)
 have vo:=Ij C p hp
 have vb:=Wu C p hp
 have vf:=Wv p hp
 obtain⟨S',dU,b8,b9,b10,sV,p6,j4,hS',hlen,a0j,lp⟩:=Nf l C p hp u w 36 0 p.first [] none none none none none none (by omega) (qi.first p w) rfl (by simp)
 have hmin:∃n:Nat,n<=4/\(0<n->0<dU.length)/\(if(dU.length:Int)<4 then(dU.length:Int)else 4)=(n:Int):=by
  by_cases h:(dU.length:Int)<4
  ·exact⟨dU.length,by omega,λz=>z,by rw[if_pos h]⟩
  ·exact⟨4,by omega,λ_=>by omega,by rw[if_neg h];rfl⟩
 obtain⟨n,hn4,hn0,hn⟩:=hmin
 obtain⟨T',c8,QW,Kf,lp2⟩:=Jt l C p hp u w S'.d dU b9 b10 p6 a0j hlen n 0 S'.d b8 sV j4 (by omega) hn0
 have vs:=Mm p hp w 100 (by omega) S' hS'
 have main:∃ρ,Kl C fu (aH 14 [.uR l])=some (.rt (.bl true) .new ρ):=by
  refine⟨lJ l C p u w S'.d T' dU c8 b9 b10 QW p6 Kf,?_⟩
  unfold Kl
  have q2:∀ρ:aK,at? ρ 1=some p.d->aN (jq C fu) [] (aa (aj 1) aA) ρ=some (p.pr C):=λρ h=>aU (aO (show aj 1 ρ=_ from h)) vo rfl
  refine(aD (aM (i:=1) (d:=p.d) (aU (bG rfl (aO rfl)) ep (by simp[rQ])) (wB p))).trans ?_
  refine(aD (pC (i:=2) (q2 _ rfl) (q2 _ (by simp[aH,vals,pick,at?])))).trans ?_
  refine(aD (aM (i:=3) (d:= .int u) (aU (bG rfl (aO rfl)) eu rfl) rfl)).trans ?_
  refine(aD (aM (i:=4) (d:= .bl w) (aC (aC rfl rfl (cV u 3 (by omega))) rfl (by simp[cR,vQ,eq_int,w])) rfl)).trans ?_
  refine(aD (aM (i:=5) (d:=p.first.d) (aU (aO rfl) vb rfl) (eV _))).trans ?_
  refine(aD (aM (i:=6) (d:=p.first.d) (aU (aO rfl) vf rfl) (eV _))).trans ?_
  refine(aD (fc (i:=7) (l:=[]) rfl rfl)).trans ?_
  refine(aD ((tM (n:=36) rfl (by omega)).trans lp)).trans ?_
  refine(aD (ρ':=lJ l C p u w S'.d S'.d dU b8 b9 b10 sV p6 j4) ?_).trans ?_
  ·refine(cP (uq (x:=false) (y:=false) (uN (x:=true) (Kc (aU (bG rfl (aO rfl)) vs rfl))) λ_=>?_)).trans rfl
   exact dh (aU (aO rfl) vb rfl) (aU (aO rfl) vf rfl) (J2 (Wk _) (by decide) true)
  refine(aD ((tM (n:=n) ?_ (by omega)).trans lp2)).trans ?_
  ·refine kI (bG rfl (aO (kI (aO rfl) (x:= .int (dU.length:Nat)) (by show iZ [.lst (dU.map (Dh p w))]=_;simp[iZ])))) ?_
   show some (D.int (if(dU.length:Int)<4 then(dU.length:Int)else 4))=_
   rw[hn]
  refine bM (aC (x:=p.d) (y:=p.d) ?_ rfl (J2 (Zf hp) (by decide) false)) rfl
  show(some (p.pr C)).bind (Fz C "plain" (qN C))=_
  rw[Option.bind_some]
  show Fz C "plain" (qN C) (p.pr C)=_
  have v:=Wy C p
  unfold Fz
  simp only[Pl.pr]at v ⊢
  rw[if_pos ⟨trivial,by simp[jX]⟩,v]
  rfl
 obtain⟨ρ,e⟩:=main
 simp only[QL,List.length_cons,List.length_nil,if_true,e,cI]
end K
end DL
namespace DL
open PySem PySem.Spec PyProof.Rows L2
namespace KC
def top (i:Nat):Stmt:=PySem.Challenge.pw_fencerow_k20_rows_done.main.body.getD i (.Pass ⟨0,0,0,0⟩)
section
variable {P:Program}{w:World}{K:Fg}{mg:Str->Option Value}{base:Heap}
abbrev jB:Stmt:=top 32
theorem v5:bI ["_law_cell","_law_k"] ["_law_cell","_law_k"] (aF jB):=⟨rfl,rfl,rfl,by decide+kernel,rfl,by decide+kernel,by decide+kernel⟩
theorem Eh {f:Addr}{fd:FuncData}(F:nW K "_law_mixed" "_law_mixed" jB f fd):cU P w K mg base j9 (0+1) f fd ["_law_cell","_law_k"] (nq K (DL.K.cg)):=by
 have nd:=(v5).nd
 exact gD (k:=0) F v5 λcdv A outer s H E hr=>(aJ (cu (aP dY dZ (aP di cA (aP (dG.or dH) (dJ.or cT) (aP bA bB (aP bA bB (aP di cA (aP (dG.or dH) (dJ.or cT) (ao 0) az) az) (aP (dG.or dH) (dJ.or cT) (aP (dG.or dH) (dJ.or cT) az (ao 1)) (ao 1))) (aP (dG.or dH) (dJ.or cT) az (ao 1))) az) az) az)))
abbrev jC:Stmt:=top 33
theorem v7:bI ["_law_cell","_law_letters","_law_size","_law_at","_law_row_here","_law_found","_law_k","_law_sign","_law_name","_law_odd"] ["_law_cell"] (aF jC):=⟨rfl,rfl,rfl,by decide+kernel,rfl,by decide+kernel,by decide+kernel⟩
theorem Ei {f:Addr}{fd:FuncData}(F:nW K "_law_names" "_law_names" jC f fd)(ya:mg "len"=none)(yb:mg "set"=none)(yc:mg "range"=none):cU P w K mg base j9 (0+1) f fd ["_law_cell"] (nq K (DL.K.jo)):=by
 have nd:=(v7).nd
 exact gD (k:=0) F v7 λcdv A outer s H E hr=>(aB (aY (i:=1) nd rfl (Or.inr rfl) aX) (aB (aY (i:=2) nd rfl (Or.inl rfl) (aP bA bB az (aP di cA (aP dY dZ (ao 0) az) az))) (aB (aY (i:=3) nd rfl (Or.inl rfl) (aG (u1 hr) (fL (ak (aP di cA (aP dY dZ (ao 0) az) (ao 2)) (ak az (ak (aP zj uI (ao 2) az) (ak az au))))) (aP di cA (ao 0) az))) (aB (uM (i:=4) (jr:=["_law_j","_law_letters","_law_cell"]) (cap:=[none,some 1,some 0]) rfl (f9 rfl rfl) (by decide) (mY (by rfl) yc az) (λcl s H C fp=>⟨(cN (i:=0) (show List.Nodup (["_law_j","_law_letters","_law_cell"]:List Str) by decide+kernel) rfl (Or.inl rfl)),j8,(aG (u1 hr) (ao 1) (aP di cA (aP bA bB (aP dY dZ (ao 2) az) (aP (dG.or dH) (dJ.or cT) az (ao 0))) az))⟩) nd rfl rfl rfl) (aB (lM (i:=5) nd rfl (Or.inl rfl) (oO au)) (aB (jM PassesOwn.never rfl (mY (by rfl) yc az) (dF (i:=6) nd rfl (Or.inl rfl)) (aB (aY (i:=7) nd rfl (Or.inl rfl) (aG (u1 hr) (ao 1) (aP di cA (aP bA bB (aP dY dZ (ao 0) az) (ao 6)) az))) (aB (aY (i:=8) nd rfl (Or.inl rfl) (t6 PySem.F.plainAttrs_str PySem.F.slot_str_join PySem.F.type_str_join Hs Di aX (ak (aP bA bB (aP bA bB (iw (ao 4) jj (gP (ao 3))) (fL (ak (ao 7) au))) (iw (ao 4) (gP (aP bA bB (ao 3) az)) (gP (ao 2)))) au))) (aB (eE (bF (cY (qe hr)) cz (aP di cA (ao 0) az) az) (aJ (aY (i:=8) nd rfl (Or.inl rfl) (aG (u1 hr) (fL (ak (t6 PySem.F.plainAttrs_str PySem.F.slot_str_join PySem.F.type_str_join Hs Di aX (ak (iw (ao 4) jj (gP (aP bA bB az (aP di cA (ao 6) az)))) au)) (ak (aP bA bB (ao 7) (t6 PySem.F.plainAttrs_str PySem.F.slot_str_join PySem.F.type_str_join Hs Di aX (ak (iw (ao 4) jj (gP (aP bA bB az (aP di cA (ao 6) az)))) au))) au))) (aP dY dZ (ao 6) az)))) cB) (aJ (mC 5 (pv 5) (ao 8))))))) (aB (uM (i:=9) (jr:=["_law_name"]) (cap:=[none]) rfl (f9 rfl rfl) (by decide) (fY (ao 5)) (λcl s H C fp=>⟨(cN (i:=0) (show List.Nodup (["_law_name"]:List Str) by decide+kernel) rfl (Or.inl rfl)),(zq (bF (zg (DG hr)) oX (ao 0) (eU (wz aX (ak aX au))) (by with_unfolding_all rfl))),(ao 0)⟩) nd rfl rfl rfl) (aB (eE (nG (t8 (bF (u6 (qe hr)) cz (ao 9) (fL au)) (pB (bF Gg mQ (Ph rfl (by rfl) ya (by rfl) yb (ak (ao 5) au)) az)))) (aJ (zy (oO (ak aX (ak aX (ak aX (ak aX (ak aX (ak aX (ak aX (ak aX (ak aX au)))))))))))) cB) (aJ (o6 5 (pv 5)))))))))))
abbrev gQ:Stmt:=top 31
theorem rW:bI ["_law_script","_law_k"] ["_law_script","_law_k"] (aF gQ):=⟨rfl,rfl,rfl,by decide+kernel,rfl,by decide+kernel,by decide+kernel⟩
theorem Ac {f:Addr}{fd:FuncData}(F:nW K "_law_cell_at" "_law_cell_at" gQ f fd)(ya:mg "len"=none):cU P w K mg base j9 (0+1) f fd ["_law_script","_law_k"] (nq K (DL.K.aQ)):=by
 have nd:=(rW).nd
 exact gD (k:=0) F rW λcdv A outer s H E hr=>(aB (eE (bF Gg mQ (ao 1) (fX jP mK (by rfl) ya PySem.boot_len (ak (ao 0) au))) (aJ (cu (aG (u1 hr) (ao 0) (ao 1)))) cB) (aJ (cu az)))
abbrev jD:Stmt:=top 34
theorem v8:bI ["_law_cell","_law_shapes"] ["_law_cell"] (aF jD):=⟨rfl,rfl,rfl,by decide+kernel,rfl,by decide+kernel,by decide+kernel⟩
theorem Ej {f:Addr}{fd:FuncData}(F:nW K "_law_shape" "_law_shape" jD f fd):cU P w K mg base j9 (0+1) f fd ["_law_cell"] (nq K (DL.K.ig)):=by
 have nd:=(v8).nd
 exact gD (k:=0) F v8 λcdv A outer s H E hr=>(aB (aY (i:=1) nd rfl (Or.inl rfl) (fL (ak aX (ak aX au)))) (aB (aY (i:=1) nd rfl (Or.inl rfl) (aP bA bB (ao 1) (fL (ak aX (ak aX au))))) (aB (aY (i:=1) nd rfl (Or.inl rfl) (aP bA bB (ao 1) (fL (ak aX (ak aX au))))) (aB (aY (i:=1) nd rfl (Or.inl rfl) (aP bA bB (ao 1) (fL (ak aX (ak aX au))))) (aB (aY (i:=1) nd rfl (Or.inl rfl) (aP bA bB (ao 1) (fL (ak aX (ak aX au))))) (aB (aY (i:=1) nd rfl (Or.inl rfl) (aP bA bB (ao 1) (fL (ak aX (ak aX au))))) (aB (aY (i:=1) nd rfl (Or.inl rfl) (aP bA bB (ao 1) (fL (ak aX (ak aX au))))) (aB (aY (i:=1) nd rfl (Or.inl rfl) (aP bA bB (ao 1) (fL (ak aX (ak aX au))))) (aJ (cu (aG (u1 hr) (ao 1) (aP di cA (ao 0) az))))))))))))
abbrev iQ:Stmt:=top 35
theorem ue:bI ["_law_cell","_law_names_here","_law_more","_law_threads","_law_rows","_law_found","_law_row_here","_law_words_here","_law_form","_law_parts","_law_kind","_law_word","_law_number","_law_part"] ["_law_cell","_law_names_here","_law_more"] (aF iQ):=⟨rfl,rfl,rfl,by decide+kernel,rfl,by decide+kernel,by decide+kernel⟩
theorem CK {f:Addr}{fd:FuncData}(F:nW K "_law_shaped" "_law_shaped" iQ f fd)(rE:gA P w K mg base "_law_shape" 1 (DL.K.ig) [])(ya:mg "tuple"=none)(yb:mg "zip"=none)(yc:mg "int"=none):cU P w K mg base j9 (1+1) f fd ["_law_cell","_law_names_here","_law_more"] (nq K (DL.K.dN)):=by
 have nd:=(ue).nd
 exact gD (k:=1) F ue λcdv A outer s H E hr=>(aB (lM (i:=3) nd rfl (Or.inl rfl) (oO au)) (aB (jM PassesOwn.never rfl (fY (eU (wz (xC rE hr (ak (ao 0) au)) (ak aX au)))) (dF (i:=4) nd rfl (Or.inl rfl)) (aB (lM (i:=5) nd rfl (Or.inl rfl) (oO au)) (aB (jM PassesOwn.never rfl (fY (eU (wz (ao 4) (ak aX au)))) (dF (i:=6) nd rfl (Or.inl rfl)) (aB (aY (i:=7) nd rfl (Or.inl rfl) (eU (wz (ao 6) (ak aX au)))) (aB (aY (i:=8) nd rfl (Or.inl rfl) (aG (u1 hr) (Mz (iy aX aX (iy aX aX (iy aX aX (iy aX aX (iy aX aX (iy aX aX Nk))))))) (aG (u1 hr) (ao 7) az))) (aB (lM (i:=9) nd rfl (Or.inl rfl) (oO (ak (aG (u1 hr) (ao 7) az) au))) (aB (jM PassesOwn.never rfl (Kw (by rfl) yb (ak (ao 8) (ak (iw (ao 7) (gP az) jj) au))) (Bt (n:=2) rfl (jh (dF (i:=10) nd rfl (Or.inl rfl)) (jh (dF (i:=11) nd rfl (Or.inl rfl)) wu))) (aB (aY (i:=12) nd rfl (Or.inl rfl) (wg (ir (XH PySem.F.plainAttrs_str PySem.F.slot_str_isdigit PySem.F.type_str_isdigit Lk JW (ao 11))) (cL (qj.or ql) (wX.or u5) (by rfl) yc (by decide+kernel) (ak (ao 11) au)) az)) (aB (aY (i:=13) nd rfl (Or.inl rfl) (aP bA bB (ao 12) (aP (dG.or dH) (dJ.or cT) (ao 2) (cL (qj.or ql) (wX.or u5) (by rfl) yc (by decide+kernel) (ak (nC (cY (qe hr)) cz (ao 10) aX) au))))) (aB (eE (bF (zg (DG hr)) oX (ao 11) (bR (ak aX (ak aX au))) (by with_unfolding_all rfl)) (aJ (aY (i:=13) nd rfl (Or.inl rfl) (aG (u1 hr) (ao 1) (aP bA bB az (t6 PySem.F.plainAttrs_str PySem.F.slot_str_find PySem.F.type_str_find Vr Te aX (ak (ao 11) au)))))) cB) (aJ (mC 9 (pv 9) (wg (bF (cY (qe hr)) cz (ao 10) aX) (aG (u1 hr) (ao 1) (ao 12)) (ao 13)))))))) (aJ (mC 5 (pv 5) (cL (bZ.or (dB rfl)) (dD.or eZ) (by rfl) ya (by decide+kernel) (ak (ao 9) au))))))))) (aJ (Tu 5 (mC 3 (pv 3) (ao 5))))))) (aJ (o6 3 (pv 3)))))
abbrev m7:Stmt:=top 36
theorem zJ:bI ["_law_cell","_law_names_here","_law_left","_law_k","_law_spot","_law_box","_law_other","_law_value","_law_way"] ["_law_cell","_law_names_here","_law_left","_law_k"] (aF m7):=⟨rfl,rfl,rfl,by decide+kernel,rfl,by decide+kernel,by decide+kernel⟩
theorem JB {f:Addr}{fd:FuncData}(F:nW K "_law_row" "_law_row" m7 f fd)(ya:mg "min"=none):cU P w K mg base j9 (0+1) f fd ["_law_cell","_law_names_here","_law_left","_law_k"] (nq K (DL.K.lY)):=by
 have nd:=(zJ).nd
 exact gD (k:=0) F zJ λcdv A outer s H E hr=>(aB (aY (i:=4) nd rfl (Or.inl rfl) (aG (u1 hr) (ao 1) (aP di cA (aP dY dZ (ao 0) az) az))) (aB (aY (i:=5) nd rfl (Or.inl rfl) (aG (u1 hr) (ao 1) (aP bA bB az (aP di cA (aP dY dZ (ao 0) az) az)))) (aB (aY (i:=6) nd rfl (Or.inl rfl) (aG (u1 hr) (ao 1) (aP bA bB az (aP di cA (aP dY dZ (ao 0) az) az)))) (aB (aY (i:=7) nd rfl (Or.inl rfl) (aG (u1 hr) (fL (ak (aP bA bB az (ao 3)) (ak (aP di cA (aP dY dZ (ao 0) az) az) (ak (ao 5) au)))) (aP di cA (aP dY dZ (ao 0) az) az))) (aB (aY (i:=8) nd rfl (Or.inl rfl) (aP di cA (ao 0) az)) (aB (eE (bF Gg mQ (ao 8) az) (aJ (cu (bR (ak aX (ak (ao 4) (ak (ao 7) au)))))) cB) (aB (eE (bF Gg mQ (ao 8) az) (aJ (cu (bR (ak aX (ak (ao 5) (ak (ao 4) au)))))) cB) (aB (eE (bF (cY (qe hr)) cz (ao 8) az) (aJ (cu (bR (ak aX (ak (ao 5) (ak (ao 4) (ak (aG (u1 hr) (fL (ak (aP bA bB az (ao 3)) (ak (ao 6) au))) (aP di cA (aP dY dZ (ao 0) az) az)) au))))))) cB) (aB (eE (nG (t8 (bF (cY (qe hr)) cz (ao 8) az) (pB (nG (pA (bF (cY (qe hr)) cz (ao 2) az) (mX (bF (cY (qe hr)) cz (ao 8) az))))))) (aJ (cu (bR (ak aX (ak (ao 5) (ak (ao 6) (ak (ao 7) au))))))) cB) (aB (eE (bF (cY (qe hr)) cz (ao 8) az) (aJ (cu (bR (ak aX (ak (ao 5) (ak (aP di cA (aP dY dZ (ao 0) az) (aP bA bB az (fX (yK rfl) HF (by rfl) ya (by decide+kernel) (ak (ao 2) (ak az au))))) au)))))) cB) (aJ (cu (bR (ak aX au))))))))))))))
abbrev iR:Stmt:=top 37
theorem uf:bI ["_law_script","_law_t","_law_names_here","_law_most","_law_many","_law_found","_law_few","_law_k","_law_cell","_law_row_here","_law_fences"] ["_law_script","_law_t","_law_names_here","_law_most","_law_many"] (aF iR):=⟨rfl,rfl,rfl,by decide+kernel,rfl,by decide+kernel,by decide+kernel⟩
theorem CN {f:Addr}{fd:FuncData}(F:nW K "_law_thread" "_law_thread" iR f fd)(ya:mg "range"=none)(vM:gA P w K mg base "_law_row" 1 (DL.K.lY) [])(bU:gA P w K mg base "_law_cell_at" 1 (DL.K.aQ) [])(dw:gA P w K mg base "_law_mixed" 1 (DL.K.cg) [])(yb:mg "int"=none):cU P w K mg base j9 (1+1) f fd ["_law_script","_law_t","_law_names_here","_law_most","_law_many"] (nq K (DL.K.eG)):=by
 have nd:=(uf).nd
 exact gD (k:=1) F uf λcdv A outer s H E hr=>(aB (lM (i:=5) nd rfl (Or.inl rfl) (oO au)) (aB (aY (i:=6) nd rfl (Or.inl rfl) (aG (u1 hr) (fL (ak az (ak az au))) (cL (qj.or ql) (wX.or u5) (by rfl) yb (by decide+kernel) (ak (nC Sq mQ (ao 3) az) au)))) (aB (jM PassesOwn.never rfl (mY (by rfl) ya (ao 4)) (dF (i:=7) nd rfl (Or.inl rfl)) (aB (aY (i:=8) nd rfl (Or.inl rfl) (xC dw hr (ak (xC bU hr (ak (ao 0) (ak (aP bA bB (aP bA bB az (aP (dG.or dH) (dJ.or cT) az (ao 1))) (ao 7)) au))) (ak (aP bA bB (aP (dG.or dH) (dJ.or cT) az (ao 1)) (ao 7)) au)))) (aB (aY (i:=9) nd rfl (Or.inl rfl) (xC vM hr (ak (ao 8) (ak (ao 2) (ak (aP zj uI (aP zj uI (ao 4) az) (ao 7)) (ak (aP bA bB (aP (dG.or dH) (dJ.or cT) az (ao 1)) (ao 7)) au)))))) (aB (aY (i:=10) nd rfl (Or.inl rfl) (t6 PySem.F.plainAttrs_list PySem.F.slot_list_count PySem.F.type_list_count (RV (Zq hr)) Qk (ao 5) (ak (bR (ak aX au)) au))) (aB (eE (nG (pA (bF (cY (qe hr)) cz (ao 10) (ao 6)) (mX (bF (cY (qe hr)) cz (ao 9) (bR (ak aX au)))))) (aJ (aY (i:=9) nd rfl (Or.inl rfl) (bR (ak aX (ak (aG (u1 hr) (ao 2) az) (ak (aG (u1 hr) (ao 2) az) au)))))) cB) (aB (eE (bF (cY (qe hr)) cz (aP zj uI (ao 7) (ao 10)) (ao 3)) (aJ (aY (i:=9) nd rfl (Or.inl rfl) (bR (ak aX au)))) cB) (aJ (mC 5 (pv 5) (ao 9))))))))) (aJ (o6 5 (pv 5))))))
abbrev gR:Stmt:=top 38
theorem rY:bI ["_law_script","_law_most","_law_cell","_law_names_here","_law_first_here","_law_some","_law_cells","_law_threads","_law_many","_law_t","_law_size","_law_words_here","_law_rows","_law_row_here"] ["_law_script","_law_most"] (aF gR):=⟨rfl,rfl,rfl,by decide+kernel,rfl,by decide+kernel,by decide+kernel⟩
theorem Ad {f:Addr}{fd:FuncData}(F:nW K "_law_program" "_law_program" gR f fd)(ya:mg "tuple"=none)(yb:mg "max"=none)(yc:mg "range"=none)(yd:mg "list"=none)(bU:gA P w K mg base "_law_cell_at" 1 (DL.K.aQ) [])(pZ:gA P w K mg base "_law_shaped" 2 (DL.K.dN) [])(mO:gA P w K mg base "_law_thread" 2 (DL.K.eG) [])(dw:gA P w K mg base "_law_mixed" 1 (DL.K.cg) [])(ye:mg "int"=none)(yf:mg "min"=none)(rD:gA P w K mg base "_law_names" 1 (DL.K.jo) []):cU P w K mg base j9 (2+1) f fd ["_law_script","_law_most"] (nq K (DL.K.jf)):=by
 have nd:=(rY).nd
 exact gD (k:=2) F rY λcdv A outer s H E hr=>(aB (aY (i:=2) nd rfl (Or.inl rfl) (xC dw hr (ak (xC bU hr (ak (ao 0) (ak az au))) (ak az au)))) (aB (aY (i:=3) nd rfl (Or.inr rfl) (xC rD hr (ak (aP dY dZ (ao 2) az) au))) (aB (aY (i:=4) nd rfl (Or.inr rfl) (xC dw hr (ak (xC bU hr (ak (ao 0) (ak az au))) (ak az au)))) (aB (aY (i:=5) nd rfl (Or.inr rfl) (fL (ak az (ak az (ak (aP di cA (aP dY dZ (ao 4) az) az) (ak az au)))))) (aB (aY (i:=6) nd rfl (Or.inl rfl) (cL (bZ.or (dB rfl)) (dD.or eZ) (by rfl) ya (by decide+kernel) (ak (eU (j6 (jr:=["_law_k","_law_names_here","_law_some","_law_first_here"]) (cap:=[none,some 3,some 5,some 4]) rfl (f9 rfl rfl) (by decide) (mY (by rfl) yc az) (λcl s H C fp=>⟨(cN (i:=0) (show List.Nodup (["_law_k","_law_names_here","_law_some","_law_first_here"]:List Str) by decide+kernel) rfl (Or.inl rfl)),j8,(bR (ak (aG (u1 hr) (ao 1) (ao 0)) (ak (aG (u1 hr) (ao 2) (aP di cA (aP bA bB (ao 3) (ao 0)) az)) au)))⟩))) au))) (aB (eE (bF (cY (qe hr)) cz (aP di cA (xC bU hr (ak (ao 0) (ak az au))) az) az) (aJ (lM (i:=7) nd rfl (Or.inl rfl) (xN pZ hr (ak (aP dY dZ (xC bU hr (ak (ao 0) (ak az au))) az) (ak (ao 3) (ak (aP (dG.or dH) (dJ.or cT) (aP di cA (xC bU hr (ak (ao 0) (ak az au))) az) az) au)))))) (aB (aY (i:=8) nd rfl (Or.inl rfl) (aG (u1 hr) (fL (ak az (ak az (ak az (ak az (ak az au)))))) (aP di cA (aP dY dZ (xC bU hr (ak (ao 0) (ak az au))) az) az))) (aB (aY (i:=1) nd rfl (Or.inl rfl) (fX (yK rfl) HF (by rfl) yf (by decide+kernel) (ak (ao 1) (ak (aG (u1 hr) (fL (ak az (ak az (ak az (ak az au))))) (ao 8)) au)))) (aB (lM (i:=7) nd rfl (Or.inl rfl) (oO au)) (aJ (jM PassesOwn.never rfl (mY (by rfl) yc (ao 8)) (dF (i:=9) nd rfl (Or.inl rfl)) (aB (aY (i:=10) nd rfl (Or.inl rfl) (aP di cA (xC dw hr (ak (aP (dG.or dH) (dJ.or cT) (xC bU hr (ak (ao 0) (ak az au))) (aP bA bB az (aP (dG.or dH) (dJ.or cT) az (ao 9)))) (ak (ao 9) au))) (aP bA bB (ao 1) (aG (u1 hr) (fL (ak az (ak az au))) (cL (qj.or ql) (wX.or u5) (by rfl) ye (by decide+kernel) (ak (nC Sq mQ (ao 1) az) au)))))) (aJ (a0S (mC 7 (pv 7) (xC mO hr (ak (ao 0) (ak (ao 9) (ak (ao 3) (ak (ao 1) (ak (ao 10) au))))))) (Zb 7 (mC 7 (pv 7) (xC mO hr (ak (ao 0) (ak (ao 9) (ak (ao 3) (ak (ao 1) (ak (ao 10) au))))))))))))))))) (aB (aY (i:=11) nd rfl (Or.inr rfl) (fL au)) (aB (Tu 7 (jM PassesOwn.never rfl (fY (ao 7)) (dF (i:=12) nd rfl (Or.inl rfl)) (aJ (jM PassesOwn.never rfl (fY (ao 12)) (dF (i:=13) nd rfl (Or.inl rfl)) (aJ (aY (i:=11) nd rfl (Or.inr rfl) (aP bA bB (ao 11) (eU (An (pt:=⟨0,0,0,0⟩) (by rfl) yd (ak (ao 13) au)))))))))) (aB (aY (i:=8) nd rfl (Or.inl rfl) (fX (Ow rfl) Sh (by rfl) yb (by decide+kernel) (ak (aP bA bB (fL (ak (aP bA bB az (aP di cA (aP dY dZ (ao 4) az) az)) au)) (eU (j6 (jr:=["_law_k","_law_words_here","_law_names_here"]) (cap:=[none,some 11,some 3]) rfl (f9 rfl rfl) (by decide) (mY (by rfl) yc az) (λcl s H C fp=>⟨(cN (i:=0) (show List.Nodup (["_law_k","_law_words_here","_law_names_here"]:List Str) by decide+kernel) rfl (Or.inl rfl)),(zq (bF (zg (DG hr)) oX (aG (u1 hr) (ao 2) (ao 0)) (ao 1) (by with_unfolding_all rfl))),(aP bA bB (ao 0) az)⟩)))) au))) (aJ (cu (bR (ak (iw (ao 6) jj (gP (ao 8))) (ak (cL (bZ.or (dB rfl)) (dD.or eZ) (by rfl) ya (by decide+kernel) (ak (eU (j6 (jr:=["_law_rows"]) (cap:=[none]) rfl (f9 rfl rfl) (by decide) (fY (ao 7)) (λcl s H C fp=>⟨(cN (i:=0) (show List.Nodup (["_law_rows"]:List Str) by decide+kernel) rfl (Or.inl rfl)),j8,(cL (bZ.or (dB rfl)) (dD.or eZ) (by rfl) ya (by decide+kernel) (ak (ao 0) au))⟩))) au)) au))))))))))))))
abbrev qC:Stmt:=top 8
theorem Gn:bI ["kind","part"] ["kind","part"] (aF qC):=⟨rfl,rfl,rfl,by decide+kernel,rfl,by decide+kernel,by decide+kernel⟩
theorem Qd {f:Addr}{fd:FuncData}(F:nW K "is_box" "is_box" qC f fd)(ya:mg "isinstance"=none)(yb:mg "str"=none):cU P w K mg base j9 (0+1) f fd ["kind","part"] (nq K (DL.K.o8)):=by
 have nd:=(Gn).nd
 exact gD (k:=0) F Gn λcdv A outer s H E hr=>(aJ (cu (WT (nC (cY (qe hr)) cz (ao 0) aX) (Bs (Hf (nC (cY (qe hr)) cz (ao 0) aX) (Bs (qR (T:="str") (by decide) (by rfl) ya (by rfl) yb (by decide+kernel) (ao 1))))))))
abbrev gU:Stmt:=top 7
theorem rZ:bI ["row"] ["row"] (aF gU):=⟨rfl,rfl,rfl,by decide+kernel,rfl,by decide+kernel,by decide+kernel⟩
theorem Ae {f:Addr}{fd:FuncData}(F:nW K "boxes_of_row" "boxes_of_row" gU f fd)(ya:mg "zip"=none)(yb:mg "FORMS"=some (.ref yc))(yd:KTD.tabLook (jZ K) (λb=>K.lookup b) yc DL.K.fu=true)(De:gA P w K mg base "is_box" 1 (DL.K.o8) []):cU P w K mg base j9 (1+1) f fd ["row"] (nq K (DL.K.gH DL.K.fu)):=by
 have nd:=(rZ).nd
 exact gD (k:=1) F rZ λcdv A outer s H E hr=>(aJ (zy (j6 (jr:=["kind","part"]) (cap:=[none,none]) rfl (f9 rfl rfl) (by decide) (Kw (by rfl) ya (ak (XJ DL.K.fu (by rfl) yb yd (aG (u1 hr) (ao 0) az) (λ_ _=>rfl)) (ak (iw (ao 0) (gP az) jj) au))) (λcl s H C fp=>⟨(wj (n:=2) rfl (iI (cN (i:=0) (show List.Nodup (["kind","part"]:List Str) by decide+kernel) rfl (Or.inl rfl)) (iI (cN (i:=1) (show List.Nodup (["kind","part"]:List Str) by decide+kernel) rfl (Or.inl rfl)) tu))),(zq (ir (xC De hr (ak (ao 0) (ak (ao 1) au))))),(ao 1)⟩))))
abbrev gq:Stmt:=top 6
theorem qH:bI ["rows","names","row","name"] ["rows"] (aF gq):=⟨rfl,rfl,rfl,by decide+kernel,rfl,by decide+kernel,by decide+kernel⟩
theorem zf {f:Addr}{fd:FuncData}(F:nW K "boxes_of_rows" "boxes_of_rows" gq f fd)(ya:mg "tuple"=none)(oW:gA P w K mg base "boxes_of_row" 2 (DL.K.gH DL.K.fu) []):cU P w K mg base j9 (2+1) f fd ["rows"] (nq K (DL.K.gk DL.K.fu)):=by
 have nd:=(qH).nd
 exact gD (k:=2) F qH λcdv A outer s H E hr=>(aB (NQ (i:=1) nd rfl (Or.inl rfl) V7) (aB (jM PassesOwn.never rfl (fY (ao 0)) (dF (i:=2) nd rfl (Or.inl rfl)) (aJ (jM PassesOwn.never rfl (fY (xC oW hr (ak (ao 2) au))) (dF (i:=3) nd rfl (Or.inl rfl)) (aJ (HW (u1 hr) 1 (pv 1) (ao 3) FJ))))) (aJ (cu (cL (bZ.or (dB rfl)) (dD.or eZ) (by rfl) ya (by decide+kernel) (ak (ao 1) au))))))
abbrev nZ:Stmt:=inClass (top 5) 0
theorem Dk:bI ["self","cells","threads"] ["self","cells","threads"] (aF nZ):=⟨rfl,rfl,rfl,by decide+kernel,rfl,by decide+kernel,by decide+kernel⟩
theorem Lq {f:Addr}{fd:FuncData}(F:nW K "__init__" "Program.__init__" nZ f fd)(ya:Ew K yb)(yc:gK K yb "cells")(yd:gK K yb "threads")(ye:mg "tuple"=none)(yf:gK K yb "cell_names")(nF:gA P w K mg base "boxes_of_rows" 3 (DL.K.gk DL.K.fu) [])(yg:gK K yb "box_names"):cU P w K mg base j9 (3+1) f fd ["self","cells","threads"] (Ia K yb (DL.K.nU DL.K.fu)):=by
 have nd:=(Dk).nd
 exact V8 (k:=3) F Dk λcdv A outer s H E hr=>(uE ya yc (pv 0) (ao 1) (uE ya yd (pv 0) (ao 2) (uE ya yf (pv 0) (cL (bZ.or (dB rfl)) (dD.or eZ) (by rfl) ye (by decide+kernel) (ak (eU (j6 (jr:=["name","number"]) (cap:=[none,none]) rfl (f9 rfl rfl) (by decide) (fY (ao 1)) (λcl s H C fp=>⟨(wj (n:=2) rfl (iI (cN (i:=0) (show List.Nodup (["name","number"]:List Str) by decide+kernel) rfl (Or.inl rfl)) (iI (cN (i:=1) (show List.Nodup (["name","number"]:List Str) by decide+kernel) rfl (Or.inl rfl)) tu))),j8,(ao 0)⟩))) au)) (uE ya yg (pv 0) (cL (bZ.or (dB rfl)) (dD.or eZ) (by rfl) ye (by decide+kernel) (ak (eU (j6 (jr:=["rows"]) (cap:=[none]) rfl (f9 rfl rfl) (by decide) (fY (ao 2)) (λcl s H C fp=>⟨(cN (i:=0) (show List.Nodup (["rows"]:List Str) by decide+kernel) rfl (Or.inl rfl)),j8,(xC nF hr (ak (ao 0) au))⟩))) au)) Rx))))
abbrev lq:Stmt:=top 29
theorem ym:bI ["parts"] ["parts"] (aF lq):=⟨rfl,rfl,rfl,by decide+kernel,rfl,by decide+kernel,by decide+kernel⟩
theorem HB {f:Addr}{fd:FuncData}(F:nW K "tuples_of" "tuples_of" lq f fd)(ya:mg "tuple"=none):cU P w K mg base j9 (0+1) f fd ["parts"] (nq K (DL.K.eO)):=by
 have nd:=(ym).nd
 exact gD (k:=0) F ym λcdv A outer s H E hr=>(aJ (cu (cL (bZ.or (dB rfl)) (dD.or eZ) (by rfl) ya (by decide+kernel) (ak (eU (j6 (jr:=["part"]) (cap:=[none]) rfl (f9 rfl rfl) (by decide) (fY (ao 0)) (λcl s H C fp=>⟨(cN (i:=0) (show List.Nodup (["part"]:List Str) by decide+kernel) rfl (Or.inl rfl)),j8,(cL (bZ.or (dB rfl)) (dD.or eZ) (by rfl) ya (by decide+kernel) (ak (ao 0) au))⟩))) au))))
abbrev jG:Stmt:=top 28
theorem vh:bI ["plain"] ["plain"] (aF jG):=⟨rfl,rfl,rfl,by decide+kernel,rfl,by decide+kernel,by decide+kernel⟩
theorem Em {f:Addr}{fd:FuncData}(F:nW K "program_of" "program_of" jG f fd)(ya:mg "tuple"=none)(pG:gA P w K mg base "tuples_of" 1 (DL.K.eO) [])(yb:Mk K yc yd)(ye:cU P w K mg base j9 4 yd yf ["self","cells","threads"] (Ia K yc (DL.K.nU DL.K.fu)))(yg:mg "Program"=some (.ref yc))(yh:Binds K yf ["self","cells","threads"] []):cU P w K mg base j9 (5+1) f fd ["plain"] (nq K (DL.K.jq yc DL.K.fu)):=by
 have nd:=(vh).nd
 exact gD (k:=5) F vh λcdv A outer s H E hr=>(aJ (cu (V4 yb ye (hr.mono (by decide)) (by rfl) yg yh (ak (xC pG hr (ak (aG (u1 hr) (ao 0) az) au)) (ak (cL (bZ.or (dB rfl)) (dD.or eZ) (by rfl) ya (by decide+kernel) (ak (eU (j6 (jr:=["rows"]) (cap:=[none]) rfl (f9 rfl rfl) (by decide) (fY (aG (u1 hr) (ao 0) az)) (λcl s H C fp=>⟨(cN (i:=0) (show List.Nodup (["rows"]:List Str) by decide+kernel) rfl (Or.inl rfl)),j8,(xC pG hr (ak (ao 0) au))⟩))) au)) au)))))
abbrev uK:Stmt:=top 11
theorem JZ:bI ["program","cells"] ["program"] (aF uK):=⟨rfl,rfl,rfl,by decide+kernel,rfl,by decide+kernel,by decide+kernel⟩
theorem S9 {f:Addr}{fd:FuncData}(F:nW K "begun" "begun" uK f fd)(ya:mg "tuple"=none)(yb:Ew K yc)(yd:gK K yc "box_names")(ye:mg "len"=none)(yf:gK K yc "cells"):cU P w K mg base j9 (0+1) f fd ["program"] (nq K (DL.K.uy yc)):=by
 have nd:=(JZ).nd
 exact gD (k:=0) F JZ λcdv A outer s H E hr=>(aB (aY (i:=1) nd rfl (Or.inl rfl) (cL (bZ.or (dB rfl)) (dD.or eZ) (by rfl) ya (by decide+kernel) (ak (eU (j6 (jr:=["name","number"]) (cap:=[none,none]) rfl (f9 rfl rfl) (by decide) (fY (t7 yb yf (ao 0))) (λcl s H C fp=>⟨(wj (n:=2) rfl (iI (cN (i:=0) (show List.Nodup (["name","number"]:List Str) by decide+kernel) rfl (Or.inl rfl)) (iI (cN (i:=1) (show List.Nodup (["name","number"]:List Str) by decide+kernel) rfl (Or.inl rfl)) tu))),j8,(ao 1)⟩))) au))) (aJ (cu (bR (ak (ao 1) (ak (cL (bZ.or (dB rfl)) (dD.or eZ) (by rfl) ya (by decide+kernel) (ak (eU (j6 (jr:=["names"]) (cap:=[none]) rfl (f9 rfl rfl) (by decide) (fY (t7 yb yd (ao 0))) (λcl s H C fp=>⟨(cN (i:=0) (show List.Nodup (["names"]:List Str) by decide+kernel) rfl (Or.inl rfl)),j8,(bR (ak az (ak (aP (dG.or dH) (dJ.or cT) (bR (ak az au)) (fX jP mK (by rfl) ye PySem.boot_len (ak (ao 0) au))) (ak (bR au) au))))⟩))) au)) au))))))
abbrev jE:Stmt:=top 39
theorem v9:bI ["_law_row_here","_law_places"] ["_law_row_here"] (aF jE):=⟨rfl,rfl,rfl,by decide+kernel,rfl,by decide+kernel,by decide+kernel⟩
theorem Ek {f:Addr}{fd:FuncData}(F:nW K "_law_words" "_law_words" jE f fd)(ya:mg "isinstance"=none)(yb:mg "str"=none):cU P w K mg base j9 (0+1) f fd ["_law_row_here"] (nq K (DL.K.lz)):=by
 have nd:=(v9).nd
 exact gD (k:=0) F v9 λcdv A outer s H E hr=>(aB (aY (i:=1) nd rfl (Or.inl rfl) (aG (u1 hr) (Mz (iy aX (bR (ak az au)) (iy aX (bR (ak az au)) (iy aX (bR (ak az (ak az au))) (iy aX (bR (ak az (ak az (ak az au)))) (iy aX (bR (ak az au)) (iy aX (bR au) Nk))))))) (aG (u1 hr) (ao 0) az))) (aJ (zy (j6 (jr:=["_law_k","_law_row_here"]) (cap:=[none,some 0]) rfl (f9 rfl rfl) (by decide) (fY (ao 1)) (λcl s H C fp=>⟨(cN (i:=0) (show List.Nodup (["_law_k","_law_row_here"]:List Str) by decide+kernel) rfl (Or.inl rfl)),(zq (ir (qR (T:="str") (by decide) (by rfl) ya (by rfl) yb (by decide+kernel) (aG (u1 hr) (ao 1) (ao 0))))),(aG (u1 hr) (ao 1) (ao 0))⟩)))))
abbrev jz:Stmt:=top 40
theorem uY:bI ["_law_rows","_law_found","_law_row_here","_law_name"] ["_law_rows"] (aF jz):=⟨rfl,rfl,rfl,by decide+kernel,rfl,by decide+kernel,by decide+kernel⟩
theorem Ef {f:Addr}{fd:FuncData}(F:nW K "_law_boxes" "_law_boxes" jz f fd)(rF:gA P w K mg base "_law_words" 1 (DL.K.lz) []):cU P w K mg base j9 (1+1) f fd ["_law_rows"] (nq K (DL.K.gr)):=by
 have nd:=(uY).nd
 exact gD (k:=1) F uY λcdv A outer s H E hr=>(aB (lM (i:=1) nd rfl (Or.inl rfl) (oO au)) (aB (jM PassesOwn.never rfl (fY (ao 0)) (dF (i:=2) nd rfl (Or.inl rfl)) (aJ (jM PassesOwn.never rfl (fY (xC rF hr (ak (ao 2) au))) (dF (i:=3) nd rfl (Or.inl rfl)) (aJ (eE (bF (qu (DG hr)) oX (ao 3) (ao 1) (by with_unfolding_all rfl)) (aJ (mC 1 (pv 1) (ao 3))) cB))))) (aJ (o6 1 (pv 1)))))
abbrev jA:Stmt:=top 41
theorem uZ:bI ["_law_plain","_law_threads"] ["_law_plain"] (aF jA):=⟨rfl,rfl,rfl,by decide+kernel,rfl,by decide+kernel,by decide+kernel⟩
theorem Eg {f:Addr}{fd:FuncData}(F:nW K "_law_first" "_law_first" jA f fd)(ya:mg "tuple"=none)(yb:mg "len"=none)(jy:gA P w K mg base "_law_boxes" 2 (DL.K.gr) []):cU P w K mg base j9 (2+1) f fd ["_law_plain"] (nq K (DL.K.jn)):=by
 have nd:=(uZ).nd
 exact gD (k:=2) F uZ λcdv A outer s H E hr=>(aB (uM (i:=1) (jr:=["_law_rows"]) (cap:=[none]) rfl (f9 rfl rfl) (by decide) (fY (aG (u1 hr) (ao 0) az)) (λcl s H C fp=>⟨(cN (i:=0) (show List.Nodup (["_law_rows"]:List Str) by decide+kernel) rfl (Or.inl rfl)),j8,(bR (ak az (ak (aP (dG.or dH) (dJ.or cT) (bR (ak az au)) (fX jP mK (by rfl) yb PySem.boot_len (ak (xC jy hr (ak (ao 0) au)) au))) (ak (bR au) au))))⟩) nd rfl rfl rfl) (aJ (cu (bR (ak (cL (bZ.or (dB rfl)) (dD.or eZ) (by rfl) ya (by decide+kernel) (ak (eU (j6 (jr:=["_law_cell"]) (cap:=[none]) rfl (f9 rfl rfl) (by decide) (fY (aG (u1 hr) (ao 0) az)) (λcl s H C fp=>⟨(cN (i:=0) (show List.Nodup (["_law_cell"]:List Str) by decide+kernel) rfl (Or.inl rfl)),j8,(aG (u1 hr) (ao 0) az)⟩))) au)) (ak (cL (bZ.or (dB rfl)) (dD.or eZ) (by rfl) ya (by decide+kernel) (ak (ao 1) au)) au))))))
abbrev m6:Stmt:=top 42
theorem zH:bI ["_law_plain","_law_state","_law_found","_law_thread_here","_law_told","_law_rows"] ["_law_plain","_law_state"] (aF m6):=⟨rfl,rfl,rfl,by decide+kernel,rfl,by decide+kernel,by decide+kernel⟩
theorem Jz {f:Addr}{fd:FuncData}(F:nW K "_law_can" "_law_can" m6 f fd)(ya:mg "enumerate"=none)(yb:mg "len"=none):cU P w K mg base j9 (0+1) f fd ["_law_plain","_law_state"] (nq K (DL.K.jd)):=by
 have nd:=(zH).nd
 exact gD (k:=0) F zH λcdv A outer s H E hr=>(aB (lM (i:=2) nd rfl (Or.inl rfl) (oO au)) (aB (jM PassesOwn.never rfl (MF (by rfl) ya (aG (u1 hr) (ao 1) az)) (Bt (n:=2) rfl (jh (dF (i:=3) nd rfl (Or.inl rfl)) (jh (dF (i:=4) nd rfl (Or.inl rfl)) wu))) (aB (aY (i:=5) nd rfl (Or.inl rfl) (aG (u1 hr) (aG (u1 hr) (ao 0) az) (ao 3))) (aB (eE (nG (pA (bF Gg mQ (aG (u1 hr) (ao 4) az) (fX jP mK (by rfl) yb PySem.boot_len (ak (ao 5) au))) (mX (nG (t8 (bF (cY (qe hr)) cz (aG (u1 hr) (ao 4) az) (bR au)) (pB (bF (qu (DG hr)) oX (aG (u1 hr) (aG (u1 hr) (ao 5) (aG (u1 hr) (ao 4) az)) az) (bR (ak aX (ak aX au))) (by with_unfolding_all rfl)))))))) (aJ (mC 2 (pv 2) (aP (dG.or dH) (dJ.or cT) az (ao 3)))) cB) (aJ (eE (bF (u6 (qe hr)) cz (aG (u1 hr) (ao 4) az) (bR au)) (aJ (mC 2 (pv 2) (aP bA bB (aP (dG.or dH) (dJ.or cT) az (ao 3)) az))) cB))))) (aJ (o6 2 (pv 2)))))
abbrev mj:Stmt:=top 17
theorem zL:bI ["part"] ["part"] (aF mj):=⟨rfl,rfl,rfl,by decide+kernel,rfl,by decide+kernel,by decide+kernel⟩
theorem JF {f:Addr}{fd:FuncData}(F:nW K "is_whole" "is_whole" mj f fd)(ya:mg "isinstance"=none)(yb:mg "bool"=none)(yc:mg "int"=none):cU P w K mg base j9 (0+1) f fd ["part"] (nq K (DL.K.qM)):=by
 have nd:=(zL).nd
 exact gD (k:=0) F zL λcdv A outer s H E hr=>(aJ (cu (Hf (qR (T:="int") (by decide) (by rfl) ya (by rfl) yc (by decide+kernel) (ao 0)) (Bs (Rh (qR (T:="bool") (by decide) (by rfl) ya (by rfl) yb (by decide+kernel) (ao 0)))))))
abbrev iU:Stmt:=top 16
theorem uh:bI ["choice","choices"] ["choice","choices"] (aF iU):=⟨rfl,rfl,rfl,by decide+kernel,rfl,by decide+kernel,by decide+kernel⟩
theorem CQ {f:Addr}{fd:FuncData}(F:nW K "need_choice" "need_choice" iU f fd)(vO:gA P w K mg base "is_whole" 1 (DL.K.qM) []):cU P w K mg base j9 (1+1) f fd ["choice","choices"] (nq K (DL.K.iH)):=by
 have nd:=(uh).nd
 exact gD (k:=1) F uh λcdv A outer s H E hr=>(aJ (eE (nG (t8 (uC (ir (xC vO hr (ak (ao 0) au)))) (pB (bF (qu (DG hr)) oX (ao 0) (ao 1) (by with_unfolding_all rfl))))) (aJ Tv) cB))
abbrev iT:Stmt:=top 9
theorem ug:bI ["program","row"] ["program","row"] (aF iT):=⟨rfl,rfl,rfl,by decide+kernel,rfl,by decide+kernel,by decide+kernel⟩
theorem CP {f:Addr}{fd:FuncData}(F:nW K "cell_number" "cell_number" iT f fd)(ya:Ew K yb)(yc:gK K yb "cell_names"):cU P w K mg base j9 (0+1) f fd ["program","row"] (nq K (DL.K.cZ yb)):=by
 have nd:=(ug).nd
 exact gD (k:=0) F ug λcdv A outer s H E hr=>(aJ (cu (t6 PySem.F.plainAttrs_tuple PySem.F.slot_tuple_index PySem.F.type_tuple_index (Q7 (Zq hr)) LR (t7 ya yc (ao 0)) (ak (wg (bF (cY (qe hr)) cz (aG (u1 hr) (ao 1) az) aX) (aG (u1 hr) (ao 1) az) (aG (u1 hr) (ao 1) az)) au))))
abbrev mz:Stmt:=top 23
theorem zN:bI ["value","boxes"] ["value","boxes"] (aF mz):=⟨rfl,rfl,rfl,by decide+kernel,rfl,by decide+kernel,by decide+kernel⟩
theorem JH {f:Addr}{fd:FuncData}(F:nW K "value_of" "value_of" mz f fd)(ya:mg "isinstance"=none)(yb:mg "str"=none):cU P w K mg base j9 (0+1) f fd ["value","boxes"] (nq K (DL.K.dR)):=by
 have nd:=(zN).nd
 exact gD (k:=0) F zN λcdv A outer s H E hr=>(aJ (cu (wg (ir (qR (T:="str") (by decide) (by rfl) ya (by rfl) yb (by decide+kernel) (ao 0))) (aG (u1 hr) (ao 1) (ao 0)) (ao 0))))
abbrev qF:Stmt:=top 22
theorem Gp:bI ["program","row","boxes"] ["program","row","boxes"] (aF qF):=⟨rfl,rfl,rfl,by decide+kernel,rfl,by decide+kernel,by decide+kernel⟩
theorem Qe {f:Addr}{fd:FuncData}(F:nW K "put_of" "put_of" qF f fd)(kh:gA P w K mg base "value_of" 1 (DL.K.dR) [])(iK:gA P w K mg base "cell_number" 1 (DL.K.cZ ya) []):cU P w K mg base j9 (1+1) f fd ["program","row","boxes"] (nq K (DL.K.sG ya)):=by
 have nd:=(Gp).nd
 exact gD (k:=1) F Gp λcdv A outer s H E hr=>(aB (eE (bF (qu (DG hr)) oX (aG (u1 hr) (ao 1) az) (bR (ak aX (ak aX au))) (by with_unfolding_all rfl)) (aJ (cu Rg)) cB) (aJ (cu (bR (ak (xC iK hr (ak (ao 0) (ak (ao 1) au))) (ak (xC kh hr (ak (aG (u1 hr) (ao 1) (Ku az)) (ak (ao 2) au))) au))))))
abbrev fV:Stmt:=top 21
theorem pH:bI ["row","boxes"] ["row","boxes"] (aF fV):=⟨rfl,rfl,rfl,by decide+kernel,rfl,by decide+kernel,by decide+kernel⟩
theorem wV {f:Addr}{fd:FuncData}(F:nW K "many_gone_over" "many_gone_over" fV f fd):cU P w K mg base j9 (0+1) f fd ["row","boxes"] (nq K (DL.K.gJ)):=by
 have nd:=(pH).nd
 exact gD (k:=0) F pH λcdv A outer s H E hr=>(aJ (cu (wg (nG (pA (bF (cY (qe hr)) cz (aG (u1 hr) (ao 0) az) aX) (mX (bF (cY (qe hr)) cz (aG (u1 hr) (ao 1) (aG (u1 hr) (ao 0) az)) az)))) (aG (u1 hr) (ao 0) az) az)))
abbrev iV:Stmt:=top 24
theorem um:bI ["cells","waiting","cell","own"] ["cells","waiting","cell"] (aF iV):=⟨rfl,rfl,rfl,by decide+kernel,rfl,by decide+kernel,by decide+kernel⟩
theorem CT {f:Addr}{fd:FuncData}(F:nW K "number_seen" "number_seen" iV f fd):cU P w K mg base j9 (0+1) f fd ["cells","waiting","cell"] (nq K (DL.K.fP)):=by
 have nd:=(um).nd
 exact gD (k:=0) F um λcdv A outer s H E hr=>(aB (uM (i:=3) (jr:=["place","number","cell"]) (cap:=[none,none,some 2]) rfl (f9 rfl rfl) (by decide) (fY (ao 1)) (λcl s H C fp=>⟨(wj (n:=2) rfl (iI (cN (i:=0) (show List.Nodup (["place","number","cell"]:List Str) by decide+kernel) rfl (Or.inl rfl)) (iI (cN (i:=1) (show List.Nodup (["place","number","cell"]:List Str) by decide+kernel) rfl (Or.inl rfl)) tu))),(zq (bF (cY (qe hr)) cz (ao 0) (ao 2))),(ao 1)⟩) nd rfl rfl rfl) (aJ (cu (wg (bF (u6 (qe hr)) cz (ao 3) (fL au)) (aG (u1 hr) (ao 3) (Ku az)) (aG (u1 hr) (ao 0) (ao 2))))))
abbrev lu:Stmt:=top 26
theorem yo:bI ["parts","place","part"] ["parts","place","part"] (aF lu):=⟨rfl,rfl,rfl,by decide+kernel,rfl,by decide+kernel,by decide+kernel⟩
theorem HD {f:Addr}{fd:FuncData}(F:nW K "with_part" "with_part" lu f fd):cU P w K mg base j9 (0+1) f fd ["parts","place","part"] (nq K (DL.K.dm)):=by
 have nd:=(yo).nd
 exact gD (k:=0) F yo λcdv A outer s H E hr=>(aJ (cu (aP bA bB (aP bA bB (iw (ao 0) jj (gP (ao 1))) (bR (ak (ao 2) au))) (iw (ao 0) (gP (aP bA bB (ao 1) az)) jj))))
abbrev qG:Stmt:=top 25
theorem Gq:bI ["left","right","both"] ["left","right"] (aF qG):=⟨rfl,rfl,rfl,by decide+kernel,rfl,by decide+kernel,by decide+kernel⟩
theorem Qf {f:Addr}{fd:FuncData}(F:nW K "sum_of" "sum_of" qG f fd):cU P w K mg base j9 (0+1) f fd ["left","right"] (nq K (DL.K.oh)):=by
 have nd:=(Gq).nd
 exact gD (k:=0) F Gq λcdv A outer s H E hr=>(aB (aY (i:=2) nd rfl (Or.inl rfl) (aP bA bB (ao 0) (ao 1))) (aJ (cu (wg (bF Gg mQ (ao 2) az) (ao 2) (aP zj uI (ao 2) az)))))
abbrev mq:Stmt:=top 20
theorem zM:bI ["program","state","number","waits","cells","thread","waiting","row","boxes","at","put"] ["program","state","number","waits"] (aF mq):=⟨rfl,rfl,rfl,by decide+kernel,rfl,by decide+kernel,by decide+kernel⟩
theorem JG {f:Addr}{fd:FuncData}(F:nW K "row_done" "row_done" mq f fd)(ya:mg "tuple"=none)(ie:gA P w K mg base "with_part" 1 (DL.K.dm) [])(iK:gA P w K mg base "cell_number" 1 (DL.K.cZ yb) [])(qd:gA P w K mg base "number_seen" 1 (DL.K.fP) [])(kh:gA P w K mg base "value_of" 1 (DL.K.dR) [])(Dg:gA P w K mg base "sum_of" 1 (DL.K.oh) [])(Df:gA P w K mg base "put_of" 2 (DL.K.sG yb) [])(m5:gA P w K mg base "many_gone_over" 1 (DL.K.gJ) [])(yc:Ew K yb)(yd:gK K yb "box_names")(ye:mg "dict"=none)(yf:mg "zip"=none)(yg:gK K yb "threads"):cU P w K mg base j9 (2+1) f fd ["program","state","number","waits"] (nq K (DL.K.o9 yb)):=by
 have nd:=(zM).nd
 exact gD (k:=2) F zM λcdv A outer s H E hr=>(aB (aY (i:=4) nd rfl (Or.inl rfl) (aG (u1 hr) (ao 1) az)) (aB (aY (i:=5) nd rfl (Or.inl rfl) (aG (u1 hr) (aG (u1 hr) (ao 1) az) (ao 2))) (aB (aY (i:=6) nd rfl (Or.inl rfl) (aG (u1 hr) (ao 5) az)) (aB (aY (i:=7) nd rfl (Or.inl rfl) (aG (u1 hr) (aG (u1 hr) (t7 yc yg (ao 0)) (ao 2)) (aG (u1 hr) (ao 5) az))) (aB (NQ (i:=8) nd rfl (Or.inl rfl) (Ri rfl (by rfl) ye (by rfl) yf (ak (aG (u1 hr) (t7 yc yd (ao 0)) (ao 2)) (ak (aG (u1 hr) (ao 5) az) au)))) (aB (aY (i:=9) nd rfl (Or.inl rfl) (aP bA bB (aP bA bB (aG (u1 hr) (ao 5) az) az) (xC m5 hr (ak (ao 7) (ak (ao 8) au))))) (aB (aY (i:=10) nd rfl (Or.inl rfl) (xC Df hr (ak (ao 0) (ak (ao 7) (ak (ao 8) au))))) (aB (eE (bF (zg (DG hr)) oX (aG (u1 hr) (ao 7) az) (bR (ak aX (ak aX au))) (by with_unfolding_all rfl)) (aJ (HW (u1 hr) 8 (pv 8) (aG (u1 hr) (ao 7) az) (xC qd hr (ak (ao 4) (ak (ao 6) (ak (xC iK hr (ak (ao 0) (ak (ao 7) au))) au)))))) (aJ (eE (bF (cY (qe hr)) cz (aG (u1 hr) (ao 7) az) aX) (aJ (HW (u1 hr) 8 (pv 8) (aG (u1 hr) (ao 7) az) (xC Dg hr (ak (xC kh hr (ak (aG (u1 hr) (ao 7) az) (ak (ao 8) au))) (ak (xC kh hr (ak (aG (u1 hr) (ao 7) az) (ak (ao 8) au))) au))))) cB))) (aB (eE (nG (pA (bF (cY (qe hr)) cz (aG (u1 hr) (ao 7) az) aX) (mX (ir (ao 3))))) (aJ (aY (i:=6) nd rfl (Or.inl rfl) (aP bA bB (ao 6) (bR (ak (ao 10) au))))) (aJ (eE (bF VF Ql (ao 10) Rg) (aJ (aY (i:=4) nd rfl (Or.inl rfl) (xC ie hr (ak (ao 4) (ak (aG (u1 hr) (ao 10) az) (ak (aG (u1 hr) (ao 10) az) au)))))) cB))) (aJ (cu (bR (ak (ao 4) (ak (xC ie hr (ak (aG (u1 hr) (ao 1) az) (ak (ao 2) (ak (bR (ak (ao 9) (ak (V5 rfl (by rfl) ya (ao 8)) (ak (ao 6) au)))) au)))) au))))))))))))))
abbrev m9:Stmt:=top 19
theorem zK:bI ["state","number","thread","put","left"] ["state","number"] (aF m9):=⟨rfl,rfl,rfl,by decide+kernel,rfl,by decide+kernel,by decide+kernel⟩
theorem JC {f:Addr}{fd:FuncData}(F:nW K "come_out" "come_out" m9 f fd)(ie:gA P w K mg base "with_part" 1 (DL.K.dm) []):cU P w K mg base j9 (1+1) f fd ["state","number"] (nq K (DL.K.o7)):=by
 have nd:=(zK).nd
 exact gD (k:=1) F zK λcdv A outer s H E hr=>(aB (aY (i:=2) nd rfl (Or.inl rfl) (aG (u1 hr) (aG (u1 hr) (ao 0) az) (ao 1))) (aB (aY (i:=3) nd rfl (Or.inl rfl) (aG (u1 hr) (aG (u1 hr) (ao 2) az) az)) (aB (aY (i:=4) nd rfl (Or.inl rfl) (bR (ak (aG (u1 hr) (ao 2) az) (ak (aG (u1 hr) (ao 2) az) (ak (iw (aG (u1 hr) (ao 2) az) (gP az) jj) au))))) (aJ (cu (bR (ak (xC ie hr (ak (aG (u1 hr) (ao 0) az) (ak (aG (u1 hr) (ao 3) az) (ak (aG (u1 hr) (ao 3) az) au)))) (ak (xC ie hr (ak (aG (u1 hr) (ao 0) az) (ak (ao 1) (ak (ao 4) au)))) au))))))))
abbrev o5:Stmt:=top 18
theorem Dl:bI ["program","state","choice","waits"] ["program","state","choice","waits"] (aF o5):=⟨rfl,rfl,rfl,by decide+kernel,rfl,by decide+kernel,by decide+kernel⟩
theorem Ls {f:Addr}{fd:FuncData}(F:nW K "stepped" "stepped" o5 f fd)(vP:gA P w K mg base "row_done" 3 (DL.K.o9 ya) [])(vN:gA P w K mg base "come_out" 2 (DL.K.o7) []):cU P w K mg base j9 (3+1) f fd ["program","state","choice","waits"] (nq K (DL.K.qg ya)):=by
 have nd:=(Dl).nd
 exact gD (k:=3) F Dl λcdv A outer s H E hr=>(aB (eE (bF (cY (qe hr)) cz (aP di cA (ao 2) az) az) (aJ (cu (xC vN hr (ak (ao 1) (ak (aP dY dZ (ao 2) az) au))))) cB) (aJ (cu (xC vP hr (ak (ao 0) (ak (ao 1) (ak (aP dY dZ (ao 2) az) (ak (ao 3) au))))))))
abbrev jF:Stmt:=top 14
theorem vg:bI ["rows","thread"] ["rows","thread"] (aF jF):=⟨rfl,rfl,rfl,by decide+kernel,rfl,by decide+kernel,by decide+kernel⟩
theorem El {f:Addr}{fd:FuncData}(F:nW K "can_do_row" "can_do_row" jF f fd)(ya:mg "len"=none):cU P w K mg base j9 (0+1) f fd ["rows","thread"] (nq K (DL.K.fJ)):=by
 have nd:=(vg).nd
 exact gD (k:=0) F vg λcdv A outer s H E hr=>(aB (eE (bF a0y mQ (aG (u1 hr) (ao 1) az) (fX jP mK (by rfl) ya PySem.boot_len (ak (ao 0) au))) (aJ (cu FJ)) cB) (aJ (cu (WT (nC (cY (qe hr)) cz (aG (u1 hr) (ao 1) az) (bR au)) (Bs (nC (qu (DG hr)) oX (aG (u1 hr) (aG (u1 hr) (ao 0) (aG (u1 hr) (ao 1) az)) az) (bR (ak aX (ak aX au))) (by with_unfolding_all rfl)))))))
abbrev Gk:Stmt:=top 13
theorem Tp:bI ["program","state","waits","choices","number","rows","thread"] ["program","state","waits"] (aF Gk):=⟨rfl,rfl,rfl,by decide+kernel,rfl,by decide+kernel,by decide+kernel⟩
theorem Ys {f:Addr}{fd:FuncData}{dV:Value}(F:Ol K "can" "can" Gk f fd dV)(ya:mg "enumerate"=none)(yb:Ew K yc)(yd:gK K yc "threads")(rG:gA P w K mg base "can_do_row" 1 (DL.K.fJ) []):cU P w K mg base j9 (1+1) f fd ["program","state","waits"] (nq K (DL.K.Ex yc)):=by
 have nd:=(Tp).nd
 exact gDV (k:=1) F Tp λcdv A outer s H E hr=>(aB (lM (i:=3) nd rfl (Or.inl rfl) (oO au)) (aB (jM PassesOwn.never rfl (MF (by rfl) ya (t7 yb yd (ao 0))) (Bt (n:=2) rfl (jh (dF (i:=4) nd rfl (Or.inl rfl)) (jh (dF (i:=5) nd rfl (Or.inl rfl)) wu))) (aB (aY (i:=6) nd rfl (Or.inl rfl) (aG (u1 hr) (aG (u1 hr) (ao 1) az) (ao 4))) (aB (eE (ir (xC rG hr (ak (ao 5) (ak (ao 6) au)))) (aJ (mC 3 (pv 3) (aP (dG.or dH) (dJ.or cT) az (ao 4)))) cB) (aJ (eE (bF (u6 (qe hr)) cz (aG (u1 hr) (ao 6) az) (bR au)) (aJ (mC 3 (pv 3) (aP bA bB (aP (dG.or dH) (dJ.or cT) az (ao 4)) az))) cB))))) (aJ (o6 3 (pv 3)))))
abbrev uJ:Stmt:=top 15
theorem JX:bI ["program","state","choice","waits"] ["program","state","choice","waits"] (aF uJ):=⟨rfl,rfl,rfl,by decide+kernel,rfl,by decide+kernel,by decide+kernel⟩
theorem S8 {f:Addr}{fd:FuncData}{dV:Value}(F:Ol K "after" "after" uJ f fd dV)(zx:gA P w K mg base "stepped" 4 (DL.K.qg ya) [])(T5:gA P w K mg base "can" 2 (DL.K.Ex ya) [])(qb:gA P w K mg base "need_choice" 2 (DL.K.iH) []):cU P w K mg base j9 (4+1) f fd ["program","state","choice","waits"] (nq K (DL.K.qL ya)):=by
 have nd:=(JX).nd
 exact gDV (k:=4) F JX λcdv A outer s H E hr=>(aB (Wh (xC qb hr (ak (ao 2) (ak (xC T5 hr (ak (ao 0) (ak (ao 1) (ak (ao 3) au)))) au)))) (aJ (cu (xC zx hr (ak (ao 0) (ak (ao 1) (ak (ao 2) (ak (ao 3) au))))))))
abbrev iM:Stmt:=top 46
theorem ud:bI ["_law_program_here","_law_state","_law_choice","_law_waits","_law_told"] ["_law_program_here","_law_state","_law_choice","_law_waits","_law_told"] (aF iM):=⟨rfl,rfl,rfl,by decide+kernel,rfl,by decide+kernel,by decide+kernel⟩
theorem CJ {f:Addr}{fd:FuncData}(F:nW K "_law_behind" "_law_behind" iM f fd)(HJ:gA P w K mg base "after" 5 (DL.K.qL ya) [])(HN:gA P w K mg base "after" 5 (DL.K.qL ya) [.bool true]):cU P w K mg base j9 (5+1) f fd ["_law_program_here","_law_state","_law_choice","_law_waits","_law_told"] (nq K (DL.K.fO ya)):=by
 have nd:=(ud).nd
 exact gD (k:=5) F ud λcdv A outer s H E hr=>(aB (eE (nG (pA (ir (ao 3)) (mX (ir (ao 4))))) (aJ (cu (xCd HN hr (ak (ao 0) (ak (ao 1) (ak (ao 2) au)))))) cB) (aJ (cu (xC HJ hr (ak (ao 0) (ak (ao 1) (ak (ao 2) (ak (ao 3) au))))))))
abbrev kY:Stmt:=top 43
theorem wY:bI ["_law_plain","_law_thread_here","_law_cells","_law_boxes_here","_law_told","_law_row_here","_law_names_here","_law_spots","_law_values","_law_queue","_law_spot","_law_found","_law_total","_law_over"] ["_law_plain","_law_thread_here","_law_cells","_law_boxes_here","_law_told"] (aF kY):=⟨rfl,rfl,rfl,by decide+kernel,rfl,by decide+kernel,by decide+kernel⟩
theorem Hw {f:Addr}{fd:FuncData}(F:nW K "_law_done" "_law_done" kY f fd)(ya:mg "int"=none)(jy:gA P w K mg base "_law_boxes" 2 (DL.K.gr) []):cU P w K mg base j9 (2+1) f fd ["_law_plain","_law_thread_here","_law_cells","_law_boxes_here","_law_told"] (TJ K [2,3] (DL.K.je)):=by
 have nd:=(wY).nd
 exact gIO (k:=2) (io:=[2,3]) F wY λcdv A outer s H H₀ E hr=>(aB (aY (i:=5) nd rfl (Or.inl rfl) (aG (u1 hr) (aG (u1 hr) (aG (u1 hr) (ao 0) az) (ao 1)) (aG (u1 hr) (ao 4) az))) (aB (aY (i:=6) nd rfl (Or.inr rfl) (xC jy hr (ak (aG (u1 hr) (aG (u1 hr) (ao 0) az) (ao 1)) au))) (aB (uM (i:=7) (jr:=["_law_cell"]) (cap:=[none]) rfl (f9 rfl rfl) (by decide) (fY (aG (u1 hr) (ao 0) az)) (λcl s H C fp=>⟨(cN (i:=0) (show List.Nodup (["_law_cell"]:List Str) by decide+kernel) rfl (Or.inl rfl)),j8,(aG (u1 hr) (ao 0) az)⟩) nd rfl rfl rfl) (aB (uM (i:=8) (jr:=["_law_part","_law_names_here","_law_boxes_here"]) (cap:=[none,some 6,some 3]) rfl (f9 rfl rfl) (by decide) (fY (iw (ao 5) (gP az) jj)) (λcl s H C fp=>⟨(cN (i:=0) (show List.Nodup (["_law_part","_law_names_here","_law_boxes_here"]:List Str) by decide+kernel) rfl (Or.inl rfl)),j8,(wg (bF (zg (DG hr)) oX (ao 0) (ao 1) (by with_unfolding_all rfl)) (aG (u1 hr) (ao 2) (t6 PySem.F.plainAttrs_list PySem.F.slot_list_index PySem.F.type_list_index (tY (Zq hr)) qx (ao 1) (ak (ao 0) au))) (ao 0))⟩) nd rfl rfl rfl) (aB (aY (i:=9) nd rfl (Or.inl rfl) (aG (u1 hr) (ao 4) az)) (aB (eE (bF (cY (qe hr)) cz (aG (u1 hr) (ao 5) az) aX) (aJ (aY (i:=9) nd rfl (Or.inl rfl) (aP bA bB (ao 9) (bR (ak (bR (ak (t6 PySem.F.plainAttrs_list PySem.F.slot_list_index PySem.F.type_list_index (tY (Zq hr)) qx (ao 7) (ak (aG (u1 hr) (ao 5) az) au)) (ak (aG (u1 hr) (ao 8) az) au))) au))))) cB) (aB (eE (bF (zg (DG hr)) oX (aG (u1 hr) (ao 5) az) (bR (ak aX (ak aX au))) (by with_unfolding_all rfl)) (aB (aY (i:=10) nd rfl (Or.inr rfl) (t6 PySem.F.plainAttrs_list PySem.F.slot_list_index PySem.F.type_list_index (tY (Zq hr)) qx (ao 7) (ak (aG (u1 hr) (ao 5) az) au))) (aB (aY (i:=11) nd rfl (Or.inl rfl) (aG (u1 hr) (aP bA bB (fL (ak (aG (u1 hr) (ao 2) (ao 10)) au)) (eU (j6 (jr:=["_law_pair","_law_spot"]) (cap:=[none,some 10]) rfl (f9 rfl rfl) (by decide) (fY (ao 9)) (λcl s H C fp=>⟨(cN (i:=0) (show List.Nodup (["_law_pair","_law_spot"]:List Str) by decide+kernel) rfl (Or.inl rfl)),(zq (bF (cY (qe hr)) cz (aG (u1 hr) (ao 0) az) (ao 1))),(aG (u1 hr) (ao 0) az)⟩)))) (Ku az))) (aB (eE (bF (cY (qe hr)) cz (aG (u1 hr) (ao 5) az) aX) (aJ (yp 2 (pv 2) (ao 10) (aG (u1 hr) (ao 8) az))) cB) (aJ (yp 3 (pv 3) (t6 PySem.F.plainAttrs_list PySem.F.slot_list_index PySem.F.type_list_index (tY (Zq hr)) qx (ao 6) (ak (aG (u1 hr) (ao 5) az) au)) (ao 11)))))) cB) (aB (eE (bF (cY (qe hr)) cz (aG (u1 hr) (ao 5) az) aX) (aB (aY (i:=12) nd rfl (Or.inl rfl) (aP bA bB (aG (u1 hr) (ao 8) az) (aG (u1 hr) (ao 8) az))) (aJ (yp 3 (pv 3) (t6 PySem.F.plainAttrs_list PySem.F.slot_list_index PySem.F.type_list_index (tY (Zq hr)) qx (ao 6) (ak (aG (u1 hr) (ao 5) az) au)) (aP zj uI (ao 12) (aP (dG.or dH) (dJ.or cT) az (cL (qj.or ql) (wX.or u5) (by rfl) ya (by decide+kernel) (ak (nC Sq mQ (ao 12) az) au))))))) cB) (aB (aY (i:=13) nd rfl (Or.inl rfl) (wg (nG (pA (bF (cY (qe hr)) cz (aG (u1 hr) (ao 5) az) aX) (mX (bF (cY (qe hr)) cz (aG (u1 hr) (ao 8) az) az)))) (aG (u1 hr) (ao 5) az) az)) (aJ (cu (bR (ak (aP bA bB (aP bA bB (aG (u1 hr) (ao 4) az) az) (ao 13)) (ak (ao 9) au))))))))))))))
abbrev kZ:Stmt:=top 44
theorem wZ:bI ["_law_plain","_law_state","_law_choice","_law_waits","_law_cells","_law_thread_here","_law_told","_law_boxes_here","_law_spot","_law_queue","_law_threads"] ["_law_plain","_law_state","_law_choice","_law_waits"] (aF kZ):=⟨rfl,rfl,rfl,by decide+kernel,rfl,by decide+kernel,by decide+kernel⟩
theorem Hx {f:Addr}{fd:FuncData}(F:nW K "_law_next" "_law_next" kZ f fd)(ya:mg "tuple"=none)(yb:mg "list"=none)(yc:cU P w K mg base j9 3 yd ye ["_law_plain","_law_thread_here","_law_cells","_law_boxes_here","_law_told"] (TJ K [2,3] (DL.K.je)))(yf:mg "_law_done"=some (.ref yd))(yg:PySem.W.keepIn K (.ref yd)=true)(yh:Binds K ye ["_law_plain","_law_thread_here","_law_cells","_law_boxes_here","_law_told"] []):cU P w K mg base j9 (3+1) f fd ["_law_plain","_law_state","_law_choice","_law_waits"] (nq K (DL.K.kj)):=by
 have nd:=(wZ).nd
 exact gD (k:=3) F wZ λcdv A outer s H E hr=>(aB (lM (i:=4) nd rfl (Or.inl rfl) (An (pt:=⟨0,0,0,0⟩) (by rfl) yb (ak (aG (u1 hr) (ao 1) az) au))) (aB (aY (i:=5) nd rfl (Or.inl rfl) (aP dY dZ (ao 2) az)) (aB (aY (i:=6) nd rfl (Or.inl rfl) (aG (u1 hr) (aG (u1 hr) (ao 1) az) (ao 5))) (aB (lM (i:=7) nd rfl (Or.inl rfl) (An (pt:=⟨0,0,0,0⟩) (by rfl) yb (ak (aG (u1 hr) (ao 6) az) au))) (aB (Zc (i:=8) (j:=9) rfl nd rfl rfl (by decide) rfl rfl (ak (aG (u1 hr) (ao 6) az) (ak (aG (u1 hr) (ao 6) az) au))) (aB (eE (bF (cY (qe hr)) cz (aP di cA (ao 2) az) az) (aJ (Qn yc rfl (hr.mono (by decide)) (by rfl) yf yg yh (zp (ao 0) (zp (ao 5) (Gi 4 (pv 4) (Gi 7 (pv 7) (zp (ao 6) Qg))))) (Bt (n:=2) rfl (jh (dF (i:=8) nd rfl (Or.inl rfl)) (jh (dF (i:=9) nd rfl (Or.inl rfl)) wu))))) cB) (aB (eE (nG (pA (bF (u6 (qe hr)) cz (ao 9) (bR au)) (mX (nG (t8 (bF (cY (qe hr)) cz (aP di cA (ao 2) az) az) (pB (uC (ir (ao 3))))))))) (aB (yp 4 (pv 4) (aG (u1 hr) (aG (u1 hr) (ao 9) az) az) (aG (u1 hr) (aG (u1 hr) (ao 9) az) az)) (aJ (aY (i:=9) nd rfl (Or.inl rfl) (iw (ao 9) (gP az) jj)))) cB) (aB (lM (i:=10) nd rfl (Or.inl rfl) (An (pt:=⟨0,0,0,0⟩) (by rfl) yb (ak (aG (u1 hr) (ao 1) az) au))) (aB (yp 10 (pv 10) (ao 5) (bR (ak (ao 8) (ak (cL (bZ.or (dB rfl)) (dD.or eZ) (by rfl) ya (by decide+kernel) (ak (ao 7) au)) (ak (ao 9) au))))) (aJ (cu (bR (ak (cL (bZ.or (dB rfl)) (dD.or eZ) (by rfl) ya (by decide+kernel) (ak (ao 4) au)) (ak (cL (bZ.or (dB rfl)) (dD.or eZ) (by rfl) ya (by decide+kernel) (ak (ao 10) au)) au))))))))))))))
abbrev uL:Stmt:=inClass (top 5) 1
theorem K1:bI ["self"] ["self"] (aF uL):=⟨rfl,rfl,rfl,by decide+kernel,rfl,by decide+kernel,by decide+kernel⟩
theorem Sg {f:Addr}{fd:FuncData}(F:nW K "plain" "Program.plain" uL f fd)(ya:Ew K yb)(yc:gK K yb "threads")(yd:gK K yb "cells"):cU P w K mg base j9 (0+1) f fd ["self"] (nq K (DL.K.qN yb)):=by
 have nd:=(K1).nd
 exact gD (k:=0) F K1 λcdv A outer s H E hr=>(aJ (cu (bR (ak (t7 ya yd (ao 0)) (ak (t7 ya yc (ao 0)) au)))))
abbrev lg:Stmt:=top 45
theorem yl:bI ["_law_found","_law_due"] ["_law_found","_law_due"] (aF lg):=⟨rfl,rfl,rfl,by decide+kernel,rfl,by decide+kernel,by decide+kernel⟩
theorem Hy {f:Addr}{fd:FuncData}{K0:Nat}{Fc:FF}(F:nW K "_law_same" "_law_same" lg f fd)(ya:mg "isinstance"=none)(yb:mg "bool"=none)(yc:mg "int"=none)(yd:mg "tuple"=none)(ye:mg "all"=none)(yf:mg "zip"=none)(yg:cU P w K mg base j9 K0 f fd ["_law_found","_law_due"] (nq K Fc))(yh:mg "_law_same"=some (.ref f))(yi:PySem.W.keepIn K (.ref f)=true)(yj:Binds K fd ["_law_found","_law_due"] [])(yk:mg "len"=none):cU P w K mg base j9 (K0+1) f fd ["_law_found","_law_due"] (nq K (DL.K.jm Fc)):=by
 have nd:=(yl).nd
 exact gD (k:=K0) F yl λcdv A outer s H E hr=>(aB (eE (ir (qR (T:="tuple") (by decide) (by rfl) ya (by rfl) yd (by decide+kernel) (ao 1))) (aB (eE (nG (t8 (uC (ir (qR (T:="tuple") (by decide) (by rfl) ya (by rfl) yd (by decide+kernel) (ao 0)))) (pB (bF (u6 (qe hr)) cz (fX jP mK (by rfl) yk PySem.boot_len (ak (ao 0) au)) (fX jP mK (by rfl) yk PySem.boot_len (ak (ao 1) au)))))) (aJ (cu FJ)) cB) (aJ (cu (fX (Ov rfl) Vz (by rfl) ye (by decide+kernel) (ak (eU (j6 (jr:=["_law_one","_law_other"]) (cap:=[none,none]) rfl (f9 rfl rfl) (by decide) (Kw (by rfl) yf (ak (ao 0) (ak (ao 1) au))) (λcl s H C fp=>⟨(wj (n:=2) rfl (iI (cN (i:=0) (show List.Nodup (["_law_one","_law_other"]:List Str) by decide+kernel) rfl (Or.inl rfl)) (iI (cN (i:=1) (show List.Nodup (["_law_one","_law_other"]:List Str) by decide+kernel) rfl (Or.inl rfl)) tu))),j8,(Hg (DN:=[]) yg hr (by rfl) yh yi yj .nil (λ_=>rfl) (ak (ao 0) (ak (ao 1) au)))⟩))) au))))) cB) (aJ (cu (Hf (qR (T:="int") (by decide) (by rfl) ya (by rfl) yc (by decide+kernel) (ao 0)) (Hf (Rh (qR (T:="bool") (by decide) (by rfl) ya (by rfl) yb (by decide+kernel) (ao 0))) (Bs (nC (cY (qe hr)) cz (ao 0) (ao 1))))))))
abbrev Gm:Stmt:=top 47
theorem Tq:bI ["_law_script","_law_plain","_law_program_here","_law_first_here","_law_waits","_law_state","_law_due","_law_steps","_law_k","_law_some","_law_number","_law_choice","_law_behind_here","_law_ahead"] ["_law_script"] (aF Gm):=⟨rfl,rfl,rfl,by decide+kernel,rfl,by decide+kernel,by decide+kernel⟩
theorem Yu {f:Addr}{fd:FuncData}(F:nW K "law" "law" Gm f fd)(ya:Ew K yb)(yc:Meth K yb "plain" yd)(ye:cU P w K mg base j9 1 yd yf ["self"] (nq K (DL.K.qN yb)))(yg:Binds K yf ["self"] [])(yh:mg "range"=none)(yi:mg "min"=none)(yj:mg "len"=none)(mL:gA P w K mg base "_law_behind" 6 (DL.K.fO yb) [])(n8:gA P w K mg base "_law_same" 8 (DL.K.gZ) [])(dw:gA P w K mg base "_law_mixed" 1 (DL.K.cg) [])(Bb:gA P w K mg base "begun" 1 (DL.K.uy yb) [])(nQ:gA P w K mg base "_law_first" 3 (DL.K.jn) [])(u9:gA P w K mg base "_law_next" 4 (DL.K.kj) [])(bU:gA P w K mg base "_law_cell_at" 1 (DL.K.aQ) [])(vL:gA P w K mg base "_law_can" 1 (DL.K.jd) [])(rH:gA P w K mg base "program_of" 6 (DL.K.jq yb DL.K.fu) [])(oV:gA P w K mg base "_law_program" 3 (DL.K.jf) []):cU P w K mg base j9 (8+1) f fd ["_law_script"] (nq K (DL.K.QL yb DL.K.fu)):=by
 have nd:=(Tq).nd
 exact gD (k:=8) F Tq λcdv A outer s H E hr=>(aB (aY (i:=1) nd rfl (Or.inl rfl) (xC oV hr (ak (ao 0) (ak az au)))) (aB (aY (i:=2) nd rfl (Or.inl rfl) (xC rH hr (ak (ao 1) au))) (aB (aY (i:=3) nd rfl (Or.inl rfl) (xC bU hr (ak (ao 0) (ak az au)))) (aB (aY (i:=4) nd rfl (Or.inl rfl) (nC (u6 (qe hr)) cz (aP di cA (ao 3) az) az)) (aB (aY (i:=5) nd rfl (Or.inl rfl) (xC Bb hr (ak (ao 2) au))) (aB (aY (i:=6) nd rfl (Or.inl rfl) (xC nQ hr (ak (ao 1) au))) (aB (lM (i:=7) nd rfl (Or.inl rfl) (oO au)) (aB (jM PassesOwn.never rfl (mY (by rfl) yh az) (dF (i:=8) nd rfl (Or.inl rfl)) (aB (aY (i:=9) nd rfl (Or.inl rfl) (xC vL hr (ak (ao 1) (ak (ao 6) au)))) (aB (eE (nG (t8 (uC (ir (xC n8 hr (ak (ao 5) (ak (ao 6) au))))) (pB (bF (cY (qe hr)) cz (ao 9) (fL au))))) (aJ Tr) cB) (aB (aY (i:=10) nd rfl (Or.inl rfl) (xC dw hr (ak (aP (dG.or dH) (dJ.or cT) (xC bU hr (ak (ao 0) (ak (aP bA bB az (aP di cA (ao 8) az)) au))) (aP bA bB az (aP (dG.or dH) (dJ.or cT) az (ao 8)))) (ak (aP bA bB az (ao 8)) au)))) (aB (aY (i:=11) nd rfl (Or.inl rfl) (aG (u1 hr) (ao 9) (aP di cA (ao 10) (fX jP mK (by rfl) yj PySem.boot_len (ak (ao 9) au))))) (aB (aY (i:=12) nd rfl (Or.inl rfl) (xC mL hr (ak (ao 2) (ak (ao 5) (ak (ao 11) (ak (ao 4) (ak (nC (cY (qe hr)) cz (aP di cA (aP dY dZ (ao 3) az) az) az) au))))))) (aB (aY (i:=13) nd rfl (Or.inl rfl) (ao 5)) (aB (aY (i:=5) nd rfl (Or.inl rfl) (ao 12)) (aB (aY (i:=6) nd rfl (Or.inl rfl) (xC u9 hr (ak (ao 1) (ak (ao 6) (ak (ao 11) (ak (ao 4) au)))))) (aJ (mC 7 (pv 7) (bR (ak (ao 13) (ak (ao 11) (ak (ao 6) au))))))))))))))) (aB (eE (nG (t8 (uC (ir (xC n8 hr (ak (ao 5) (ak (ao 6) au))))) (pB (bF (u6 (qe hr)) cz (xC Bb hr (ak (ao 2) au)) (xC nQ hr (ak (ao 1) au)))))) (aJ (cu FJ)) cB) (aB (jM PassesOwn.never rfl (mY (by rfl) yh (fX (yK rfl) HF (by rfl) yi (by decide+kernel) (ak az (ak (fX jP mK (by rfl) yj PySem.boot_len (ak (ao 7) au)) au)))) (dF (i:=8) nd rfl (Or.inl rfl)) (aB (Wg (aG (u1 hr) (ao 7) (aP di cA (xC dw hr (ak (aP (dG.or dH) (dJ.or cT) (ao 3) (aP bA bB az (aP (dG.or dH) (dJ.or cT) az (ao 8)))) (ak (aP bA bB az (ao 8)) au))) (fX jP mK (by rfl) yj PySem.boot_len (ak (ao 7) au)))) (Bt (n:=3) rfl (jh (dF (i:=13) nd rfl (Or.inl rfl)) (jh (dF (i:=11) nd rfl (Or.inl rfl)) (jh (dF (i:=6) nd rfl (Or.inl rfl)) wu))))) (aJ (eE (uC (ir (xC n8 hr (ak (xC mL hr (ak (ao 2) (ak (ao 13) (ak (ao 11) (ak (ao 4) (ak FJ au)))))) (ak (ao 6) au))))) (aJ (cu FJ)) cB)))) (aJ (cu (nC (cY (qe hr)) cz (Rf (ao 2) ya yc ye (hr.mono (by decide)) yg) (ao 1))))))))))))))
end
end KC
end DL
namespace DL
open PySem PySem.Spec PyProof.Rows L2
namespace KC
theorem Q3 {us:List Value}(h:us.length=1):∃a,us=[a]:=by
 match us,h with|[a],_=>exact⟨a,rfl⟩
theorem Q4 {us:List Value}(h:us.length=2):∃a b,us=[a,b]:=by
 match us,h with|[a,b],_=>exact⟨a,b,rfl⟩
theorem lv3 {us:List Value}(h:us.length=3):∃a b c,us=[a,b,c]:=by
 match us,h with|[a,b,c],_=>exact⟨a,b,c,rfl⟩
theorem lv4 {us:List Value}(h:us.length=4):∃a b c d,us=[a,b,c,d]:=by
 match us,h with|[a,b,c,d],_=>exact⟨a,b,c,d,rfl⟩
theorem lv5 {us:List Value}(h:us.length=5):∃a b c d e,us=[a,b,c,d,e]:=by
 match us,h with|[a,b,c,d,e],_=>exact⟨a,b,c,d,e,rfl⟩
theorem p8 {K:Fg}{s:Shared}{fd:FuncData}{args:Args}{binds:List (Str×Value)}{T:Addr}{o:Obj}{items:Array Value}{n:Nat}{k:Option (Array Value)->Sem (List (Str×Value))}(X:K.In s.heap)(hd:fd.defaults= .ref T)(ho:K.lookup T=some o)(hs:o.data= .seq items n)
 (h₁:bindArgs fd args=seqItems? fd.defaults>>=k)(h₂:k (some items)=pure binds):BindsTo s fd args binds:=BindsTo.of_defaults hd (X _ _ ho) hs h₁ h₂
theorem GK {K:Fg}{x qual:Str}{st:Stmt}{f T:Addr}{fd:FuncData}{ps:List Str}{ds:List Value}{n:Nat}(F:Ol K x qual st f fd (.ref T))(hn:n+ds.length=ps.length)
 (h:∀(s:Shared) (kV doc pm:Value) (an:Option Addr) (cdv ct:Value) (us:List Value),K.In s.heap->us.length=n->BindsTo s (PySem.W.fnOf x qual (bK st) (bz st) (aF st) (.ref T) kV doc pm an cdv ct) ⟨us,[]⟩ (ps.zip (us++ds))):Binds K fd ps ds:=by
 obtain⟨oc,od,kV,doc,pm,an,cdv,ct,osl,rfl,lk,hcd⟩:=F.ex
 exact λs us X hl=>h s kV doc pm an cdv ct us X (by rw[List.length_append]at hl;omega)
def TQ (K:Fg):Sp:=λvs H Q _=>∃ns:List Int,aV cj K H [.uR ns] vs/\∀H',Q (.bl true) H'
theorem all_mk {l:PySem.W.OpenLaw}{w:World}{K:Fg}{h:Heap}{mg:Str->Option Value}{fa:Addr}{xb xc xd xe xf xg xh xi xj xk xl xm xn xo xp xq xr xs xt xu xv xw xx xy xz xA xB xC xD xE xF xG xH xI xJ xK xL xM xN xO xP xQ xR xS:Addr}{xT xU xV xW xX xY xZ x0 x1 x2 x3 x4 x5 x6 x7 x8 x9 xab xbb xcb xdb xeb xfb xgb xhb xib xjb xkb xlb xmb xnb xob xpb xqb xrb xsb xtb xub xvb xwb xxb xyb xzb xAb xBb xCb xDb xEb xFb xGb xHb xIb xJb xKb xLb xMb xNb xOb xPb xQb xRb xSb xTb xUb xVb xWb xXb xYb xZb x0b x1b x2b x3b x4b x5b x6b x7b x8b x9b xac:Option Addr}{xbc xcc xdc xec xfc xgc xhc xic xjc xkc xlc xmc xnc xoc xpc xqc xrc xsc xtc xuc xvc xwc xxc xyc xzc xAc xBc xCc xDc xEc xFc xGc xHc xIc xJc xKc xLc xMc xNc xOc:Array (Option Value)}{xPc xQc xRc xSc xTc xUc xVc xWc xXc xYc xZc x0c x1c x2c x3c x4c x5c x6c x7c x8c x9c xad xbd xcd xdd xed xfd xgd xhd xid xjd xkd xld xmd xnd xod xpd xqd xrd xsd xtd xud xvd xwd xxd xyd xzd xAd xBd xCd xDd xEd xFd xGd xHd xId xJd xKd xLd xMd xNd xOd xPd xQd xRd xSd xTd xUd xVd xWd xXd xYd xZd x0d x1d x2d x3d x4d x5d x6d x7d x8d x9d xae xbe xce xde xee xfe xge xhe xie xje xke xle xme xne xoe xpe xqe xre xse xte xue xve xwe xxe xye xze xAe xBe xCe xDe xEe xFe xGe xHe xIe xJe xKe xLe xMe xNe xOe xPe xQe xRe xSe xTe xUe xVe xWe xXe xYe xZe x0e x1e x2e x3e x4e x5e x6e x7e x8e x9e xaf xbf xcf xdf xef xff xgf xhf xif xjf xkf xlf xmf xnf xof xpf xqf xrf xsf xtf xuf xvf xwf xxf xyf xzf xAf xBf xCf xDf xEf xFf xGf xHf xIf xJf xKf xLf xMf xNf xOf xPf xQf xRf xSf xTf xUf xVf xWf xXf xYf xZf x0f x1f x2f x3f x4f x5f x6f x7f x8f x9f xag xbg xcg xdg xeg xfg xgg xhg xig xjg xkg xlg xmg xng xog xpg xqg xrg xsg xtg xug xvg xwg xxg xyg xzg xAg xBg xCg xDg xEg xFg xGg:Value}{xHg:Obj}{xIg:Nat}{xJg:Obj}{xKg:Nat}(X:K.In h)(G:h.Ns mainGlobals mg)(hfa:mg "law"=some (.ref fa))
 (xLg:PySem.W.nsIn K mainGlobals "_law_mixed"=some (some (.ref xb)))
 (xMg:K.lookup xb=some ⟨xPc,xT,.func (PySem.W.fnOf "_law_mixed" "_law_mixed" (bK jB) (bz jB) (aF jB) .none xQc xRc xSc xU xTc xUc),xbc⟩)
 (xNg:PySem.W.codeIn K xTc "_law_mixed"=true)
 (xOg:PySem.W.keepIn K (.ref xb)=true)
 (xPg:PySem.W.nsIn K mainGlobals "_law_names"=some (some (.ref xc)))
 (xQg:K.lookup xc=some ⟨xVc,xV,.func (PySem.W.fnOf "_law_names" "_law_names" (bK jC) (bz jC) (aF jC) .none xWc xXc xYc xW xZc x0c),xcc⟩)
 (xRg:PySem.W.codeIn K xZc "_law_names"=true)
 (xSg:PySem.W.keepIn K (.ref xc)=true)
 (xTg:PySem.W.nsIn K mainGlobals "_law_cell_at"=some (some (.ref xd)))
 (xUg:K.lookup xd=some ⟨x1c,xX,.func (PySem.W.fnOf "_law_cell_at" "_law_cell_at" (bK gQ) (bz gQ) (aF gQ) .none x2c x3c x4c xY x5c x6c),xdc⟩)
 (xVg:PySem.W.codeIn K x5c "_law_cell_at"=true)
 (xWg:PySem.W.keepIn K (.ref xd)=true)
 (xXg:PySem.W.nsIn K mainGlobals "_law_shape"=some (some (.ref xe)))
 (xYg:K.lookup xe=some ⟨x7c,xZ,.func (PySem.W.fnOf "_law_shape" "_law_shape" (bK jD) (bz jD) (aF jD) .none x8c x9c xad x0 xbd xcd),xec⟩)
 (xZg:PySem.W.codeIn K xbd "_law_shape"=true)
 (x0g:PySem.W.keepIn K (.ref xe)=true)
 (x1g:PySem.W.nsIn K mainGlobals "_law_shaped"=some (some (.ref xf)))
 (x2g:K.lookup xf=some ⟨xdd,x1,.func (PySem.W.fnOf "_law_shaped" "_law_shaped" (bK iQ) (bz iQ) (aF iQ) .none xed xfd xgd x2 xhd xid),xfc⟩)
 (x3g:PySem.W.codeIn K xhd "_law_shaped"=true)
 (x4g:PySem.W.keepIn K (.ref xf)=true)
 (x5g:PySem.W.nsIn K mainGlobals "_law_row"=some (some (.ref xg)))
 (x6g:K.lookup xg=some ⟨xjd,x3,.func (PySem.W.fnOf "_law_row" "_law_row" (bK m7) (bz m7) (aF m7) .none xkd xld xmd x4 xnd xod),xgc⟩)
 (x7g:PySem.W.codeIn K xnd "_law_row"=true)
 (x8g:PySem.W.keepIn K (.ref xg)=true)
 (x9g:PySem.W.nsIn K mainGlobals "_law_thread"=some (some (.ref xh)))
 (xah:K.lookup xh=some ⟨xpd,x5,.func (PySem.W.fnOf "_law_thread" "_law_thread" (bK iR) (bz iR) (aF iR) .none xqd xrd xsd x6 xtd xud),xhc⟩)
 (xbh:PySem.W.codeIn K xtd "_law_thread"=true)
 (xch:PySem.W.keepIn K (.ref xh)=true)
 (xdh:PySem.W.nsIn K mainGlobals "_law_program"=some (some (.ref xi)))
 (xeh:K.lookup xi=some ⟨xvd,x7,.func (PySem.W.fnOf "_law_program" "_law_program" (bK gR) (bz gR) (aF gR) .none xwd xxd xyd x8 xzd xAd),xic⟩)
 (xfh:PySem.W.codeIn K xzd "_law_program"=true)
 (xgh:PySem.W.keepIn K (.ref xi)=true)
 (xhh:PySem.W.nsIn K mainGlobals "is_box"=some (some (.ref xj)))
 (xih:K.lookup xj=some ⟨xBd,x9,.func (PySem.W.fnOf "is_box" "is_box" (bK qC) (bz qC) (aF qC) .none xCd xDd xEd xab xFd xGd),xjc⟩)
 (xjh:PySem.W.codeIn K xFd "is_box"=true)
 (xkh:PySem.W.keepIn K (.ref xj)=true)
 (xlh:PySem.W.nsIn K mainGlobals "boxes_of_row"=some (some (.ref xk)))
 (xmh:K.lookup xk=some ⟨xHd,xbb,.func (PySem.W.fnOf "boxes_of_row" "boxes_of_row" (bK gU) (bz gU) (aF gU) .none xId xJd xKd xcb xLd xMd),xkc⟩)
 (xnh:PySem.W.codeIn K xLd "boxes_of_row"=true)
 (xoh:PySem.W.keepIn K (.ref xk)=true)
 (xph:PySem.W.nsIn K mainGlobals "boxes_of_rows"=some (some (.ref xl)))
 (xqh:K.lookup xl=some ⟨xNd,xdb,.func (PySem.W.fnOf "boxes_of_rows" "boxes_of_rows" (bK gq) (bz gq) (aF gq) .none xOd xPd xQd xeb xRd xSd),xlc⟩)
 (xrh:PySem.W.codeIn K xRd "boxes_of_rows"=true)
 (xsh:PySem.W.keepIn K (.ref xl)=true)
 (xth:PySem.W.nsIn K mainGlobals "Program"=some (some (.ref xm)))
 (xuh:PySem.W.findIn K (.ref xm) "__init__"=some (some (.ref xn)))
 (xvh:PySem.W.isFn K (.ref xn)=true)
 (xwh:K.lookup xn=some ⟨xTd,xfb,.func (PySem.W.fnOf "__init__" "Program.__init__" (bK nZ) (bz nZ) (aF nZ) .none xUd xVd xWd xgb xXd xYd),xmc⟩)
 (xxh:PySem.W.codeIn K xXd "Program.__init__"=true)
 (xyh:PySem.W.keepIn K (.ref xn)=true)
 (xzh:PySem.W.plainGet K xm Str.empty=true)
 (xAh:PySem.W.hasDictIn K xm=true)
 (xBh:PySem.W.plainOver K xm=true)
 (xCh:PySem.W.findIn K (.ref xm) "__setattr__"=some (some (.builtin "object.__setattr__")))
 (xDh:PySem.W.makesIn K xm=true)
 (xEh:PySem.W.keepIn K (.ref xm)=true)
 (xFh:PySem.W.findIn K (.ref xm) "cells"=some none)
 (ZG:PySem.W.findIn K (.ref xm) "threads"=some none)
 (xHh:PySem.W.findIn K (.ref xm) "cell_names"=some none)
 (xIh:PySem.W.findIn K (.ref xm) "box_names"=some none)
 (xJh:PySem.W.nsIn K mainGlobals "tuples_of"=some (some (.ref xo)))
 (xKh:K.lookup xo=some ⟨xZd,xhb,.func (PySem.W.fnOf "tuples_of" "tuples_of" (bK lq) (bz lq) (aF lq) .none x0d x1d x2d xib x3d x4d),xnc⟩)
 (xLh:PySem.W.codeIn K x3d "tuples_of"=true)
 (xMh:PySem.W.keepIn K (.ref xo)=true)
 (xNh:PySem.W.nsIn K mainGlobals "program_of"=some (some (.ref xp)))
 (xOh:K.lookup xp=some ⟨x5d,xjb,.func (PySem.W.fnOf "program_of" "program_of" (bK jG) (bz jG) (aF jG) .none x6d x7d x8d xkb x9d xae),xoc⟩)
 (xPh:PySem.W.codeIn K x9d "program_of"=true)
 (xQh:PySem.W.keepIn K (.ref xp)=true)
 (xRh:PySem.W.nsIn K mainGlobals "begun"=some (some (.ref xq)))
 (xSh:K.lookup xq=some ⟨xbe,xlb,.func (PySem.W.fnOf "begun" "begun" (bK uK) (bz uK) (aF uK) .none xce xde xee xmb xfe xge),xpc⟩)
 (xTh:PySem.W.codeIn K xfe "begun"=true)
 (xUh:PySem.W.keepIn K (.ref xq)=true)
 (xVh:PySem.W.nsIn K mainGlobals "_law_words"=some (some (.ref xr)))
 (xWh:K.lookup xr=some ⟨xhe,xnb,.func (PySem.W.fnOf "_law_words" "_law_words" (bK jE) (bz jE) (aF jE) .none xie xje xke xob xle xme),xqc⟩)
 (xXh:PySem.W.codeIn K xle "_law_words"=true)
 (xYh:PySem.W.keepIn K (.ref xr)=true)
 (xZh:PySem.W.nsIn K mainGlobals "_law_boxes"=some (some (.ref xs)))
 (x0h:K.lookup xs=some ⟨xne,xpb,.func (PySem.W.fnOf "_law_boxes" "_law_boxes" (bK jz) (bz jz) (aF jz) .none xoe xpe xqe xqb xre xse),xrc⟩)
 (x1h:PySem.W.codeIn K xre "_law_boxes"=true)
 (x2h:PySem.W.keepIn K (.ref xs)=true)
 (x3h:PySem.W.nsIn K mainGlobals "_law_first"=some (some (.ref xt)))
 (x4h:K.lookup xt=some ⟨xte,xrb,.func (PySem.W.fnOf "_law_first" "_law_first" (bK jA) (bz jA) (aF jA) .none xue xve xwe xsb xxe xye),xsc⟩)
 (x5h:PySem.W.codeIn K xxe "_law_first"=true)
 (x6h:PySem.W.keepIn K (.ref xt)=true)
 (x7h:PySem.W.nsIn K mainGlobals "_law_can"=some (some (.ref xu)))
 (x8h:K.lookup xu=some ⟨xze,xtb,.func (PySem.W.fnOf "_law_can" "_law_can" (bK m6) (bz m6) (aF m6) .none xAe xBe xCe xub xDe xEe),xtc⟩)
 (x9h:PySem.W.codeIn K xDe "_law_can"=true)
 (xai:PySem.W.keepIn K (.ref xu)=true)
 (xbi:PySem.W.nsIn K mainGlobals "is_whole"=some (some (.ref xv)))
 (xci:K.lookup xv=some ⟨xFe,xvb,.func (PySem.W.fnOf "is_whole" "is_whole" (bK mj) (bz mj) (aF mj) .none xGe xHe xIe xwb xJe xKe),xuc⟩)
 (xdi:PySem.W.codeIn K xJe "is_whole"=true)
 (xei:PySem.W.keepIn K (.ref xv)=true)
 (xfi:PySem.W.nsIn K mainGlobals "need_choice"=some (some (.ref xw)))
 (xgi:K.lookup xw=some ⟨xLe,xxb,.func (PySem.W.fnOf "need_choice" "need_choice" (bK iU) (bz iU) (aF iU) .none xMe xNe xOe xyb xPe xQe),xvc⟩)
 (xhi:PySem.W.codeIn K xPe "need_choice"=true)
 (xii:PySem.W.keepIn K (.ref xw)=true)
 (xji:PySem.W.nsIn K mainGlobals "cell_number"=some (some (.ref xx)))
 (xki:K.lookup xx=some ⟨xRe,xzb,.func (PySem.W.fnOf "cell_number" "cell_number" (bK iT) (bz iT) (aF iT) .none xSe xTe xUe xAb xVe xWe),xwc⟩)
 (xli:PySem.W.codeIn K xVe "cell_number"=true)
 (xmi:PySem.W.keepIn K (.ref xx)=true)
 (xni:PySem.W.nsIn K mainGlobals "value_of"=some (some (.ref xy)))
 (xoi:K.lookup xy=some ⟨xXe,xBb,.func (PySem.W.fnOf "value_of" "value_of" (bK mz) (bz mz) (aF mz) .none xYe xZe x0e xCb x1e x2e),xxc⟩)
 (xpi:PySem.W.codeIn K x1e "value_of"=true)
 (xqi:PySem.W.keepIn K (.ref xy)=true)
 (xri:PySem.W.nsIn K mainGlobals "put_of"=some (some (.ref xz)))
 (xsi:K.lookup xz=some ⟨x3e,xDb,.func (PySem.W.fnOf "put_of" "put_of" (bK qF) (bz qF) (aF qF) .none x4e x5e x6e xEb x7e x8e),xyc⟩)
 (xti:PySem.W.codeIn K x7e "put_of"=true)
 (xui:PySem.W.keepIn K (.ref xz)=true)
 (xvi:PySem.W.nsIn K mainGlobals "many_gone_over"=some (some (.ref xA)))
 (xwi:K.lookup xA=some ⟨x9e,xFb,.func (PySem.W.fnOf "many_gone_over" "many_gone_over" (bK fV) (bz fV) (aF fV) .none xaf xbf xcf xGb xdf xef),xzc⟩)
 (xxi:PySem.W.codeIn K xdf "many_gone_over"=true)
 (xyi:PySem.W.keepIn K (.ref xA)=true)
 (xzi:PySem.W.nsIn K mainGlobals "number_seen"=some (some (.ref xB)))
 (xAi:K.lookup xB=some ⟨xff,xHb,.func (PySem.W.fnOf "number_seen" "number_seen" (bK iV) (bz iV) (aF iV) .none xgf xhf xif xIb xjf xkf),xAc⟩)
 (xBi:PySem.W.codeIn K xjf "number_seen"=true)
 (xCi:PySem.W.keepIn K (.ref xB)=true)
 (xDi:PySem.W.nsIn K mainGlobals "with_part"=some (some (.ref xC)))
 (xEi:K.lookup xC=some ⟨xlf,xJb,.func (PySem.W.fnOf "with_part" "with_part" (bK lu) (bz lu) (aF lu) .none xmf xnf xof xKb xpf xqf),xBc⟩)
 (xFi:PySem.W.codeIn K xpf "with_part"=true)
 (xGi:PySem.W.keepIn K (.ref xC)=true)
 (xHi:PySem.W.nsIn K mainGlobals "sum_of"=some (some (.ref xD)))
 (xIi:K.lookup xD=some ⟨xrf,xLb,.func (PySem.W.fnOf "sum_of" "sum_of" (bK qG) (bz qG) (aF qG) .none xsf xtf xuf xMb xvf xwf),xCc⟩)
 (xJi:PySem.W.codeIn K xvf "sum_of"=true)
 (xKi:PySem.W.keepIn K (.ref xD)=true)
 (xLi:PySem.W.nsIn K mainGlobals "row_done"=some (some (.ref xE)))
 (xMi:K.lookup xE=some ⟨xxf,xNb,.func (PySem.W.fnOf "row_done" "row_done" (bK mq) (bz mq) (aF mq) .none xyf xzf xAf xOb xBf xCf),xDc⟩)
 (xNi:PySem.W.codeIn K xBf "row_done"=true)
 (xOi:PySem.W.keepIn K (.ref xE)=true)
 (xPi:PySem.W.nsIn K mainGlobals "come_out"=some (some (.ref xF)))
 (xQi:K.lookup xF=some ⟨xDf,xPb,.func (PySem.W.fnOf "come_out" "come_out" (bK m9) (bz m9) (aF m9) .none xEf xFf xGf xQb xHf xIf),xEc⟩)
 (xRi:PySem.W.codeIn K xHf "come_out"=true)
 (xSi:PySem.W.keepIn K (.ref xF)=true)
 (xTi:PySem.W.nsIn K mainGlobals "stepped"=some (some (.ref xG)))
 (xUi:K.lookup xG=some ⟨xJf,xRb,.func (PySem.W.fnOf "stepped" "stepped" (bK o5) (bz o5) (aF o5) .none xKf xLf xMf xSb xNf xOf),xFc⟩)
 (xVi:PySem.W.codeIn K xNf "stepped"=true)
 (xWi:PySem.W.keepIn K (.ref xG)=true)
 (xXi:PySem.W.nsIn K mainGlobals "can_do_row"=some (some (.ref xH)))
 (xYi:K.lookup xH=some ⟨xPf,xTb,.func (PySem.W.fnOf "can_do_row" "can_do_row" (bK jF) (bz jF) (aF jF) .none xQf xRf xSf xUb xTf xUf),xGc⟩)
 (xZi:PySem.W.codeIn K xTf "can_do_row"=true)
 (x0i:PySem.W.keepIn K (.ref xH)=true)
 (x1i:PySem.W.nsIn K mainGlobals "can"=some (some (.ref xI)))
 (x2i:K.lookup xI=some ⟨xVf,xVb,.func (PySem.W.fnOf "can" "can" (bK Gk) (bz Gk) (aF Gk) (.ref xJ) xWf xXf xYf xWb xZf x0f),xHc⟩)
 (x3i:PySem.W.codeIn K xZf "can"=true)
 (x4i:PySem.W.keepIn K (.ref xI)=true)
 (x5i:K.lookup xJ=some xHg)
 (x6i:xHg.data= .seq #[.bool true] xIg)
 (x7i:PySem.W.nsIn K mainGlobals "after"=some (some (.ref xK)))
 (x8i:K.lookup xK=some ⟨x1f,xXb,.func (PySem.W.fnOf "after" "after" (bK uJ) (bz uJ) (aF uJ) (.ref xL) x2f x3f x4f xYb x5f x6f),xIc⟩)
 (x9i:PySem.W.codeIn K x5f "after"=true)
 (xaj:PySem.W.keepIn K (.ref xK)=true)
 (xbj:K.lookup xL=some xJg)
 (xcj:xJg.data= .seq #[.bool true] xKg)
 (xdj:PySem.W.nsIn K mainGlobals "_law_behind"=some (some (.ref xM)))
 (xej:K.lookup xM=some ⟨x7f,xZb,.func (PySem.W.fnOf "_law_behind" "_law_behind" (bK iM) (bz iM) (aF iM) .none x8f x9f xag x0b xbg xcg),xJc⟩)
 (xfj:PySem.W.codeIn K xbg "_law_behind"=true)
 (xgj:PySem.W.keepIn K (.ref xM)=true)
 (xhj:PySem.W.nsIn K mainGlobals "_law_done"=some (some (.ref xN)))
 (xij:K.lookup xN=some ⟨xdg,x1b,.func (PySem.W.fnOf "_law_done" "_law_done" (bK kY) (bz kY) (aF kY) .none xeg xfg xgg x2b xhg xig),xKc⟩)
 (xjj:PySem.W.codeIn K xhg "_law_done"=true)
 (xkj:PySem.W.keepIn K (.ref xN)=true)
 (xlj:PySem.W.nsIn K mainGlobals "_law_next"=some (some (.ref xO)))
 (xmj:K.lookup xO=some ⟨xjg,x3b,.func (PySem.W.fnOf "_law_next" "_law_next" (bK kZ) (bz kZ) (aF kZ) .none xkg xlg xmg x4b xng xog),xLc⟩)
 (xnj:PySem.W.codeIn K xng "_law_next"=true)
 (xoj:PySem.W.keepIn K (.ref xO)=true)
 (xpj:PySem.W.findIn K (.ref xm) "plain"=some (some (.ref xP)))
 (xqj:PySem.W.isFn K (.ref xP)=true)
 (xrj:K.lookup xP=some ⟨xpg,x5b,.func (PySem.W.fnOf "plain" "Program.plain" (bK uL) (bz uL) (aF uL) .none xqg xrg xsg x6b xtg xug),xMc⟩)
 (xsj:PySem.W.codeIn K xtg "Program.plain"=true)
 (xtj:PySem.W.keepIn K (.ref xP)=true)
 (xuj:PySem.W.nsIn K mainGlobals "_law_same"=some (some (.ref xQ)))
 (xvj:K.lookup xQ=some ⟨xvg,x7b,.func (PySem.W.fnOf "_law_same" "_law_same" (bK lg) (bz lg) (aF lg) .none xwg xxg xyg x8b xzg xAg),xNc⟩)
 (xwj:PySem.W.codeIn K xzg "_law_same"=true)
 (xxj:PySem.W.keepIn K (.ref xQ)=true)
 (xyj:PySem.W.nsIn K mainGlobals "law"=some (some (.ref xR)))
 (xzj:K.lookup xR=some ⟨xBg,x9b,.func (PySem.W.fnOf "law" "law" (bK Gm) (bz Gm) (aF Gm) .none xCg xDg xEg xac xFg xGg),xOc⟩)
 (xAj:PySem.W.codeIn K xFg "law"=true)
 (xBj:PySem.W.keepIn K (.ref xR)=true)
 (xCj:PySem.W.nsIn K mainGlobals "FORMS"=some (some (.ref xS)))
 (xDj:KTD.tabLook (jZ K) (λb=>K.lookup b) xS DL.K.fu=true)
 (xEj:PySem.W.nsIn K mainGlobals "len"=some none)
 (xFj:PySem.W.nsIn K mainGlobals "set"=some none)
 (xGj:PySem.W.nsIn K mainGlobals "range"=some none)
 (xHj:PySem.W.nsIn K mainGlobals "tuple"=some none)
 (xIj:PySem.W.nsIn K mainGlobals "zip"=some none)
 (xJj:PySem.W.nsIn K mainGlobals "int"=some none)
 (xKj:PySem.W.nsIn K mainGlobals "min"=some none)
 (xLj:PySem.W.nsIn K mainGlobals "max"=some none)
 (xMj:PySem.W.nsIn K mainGlobals "list"=some none)
 (xNj:PySem.W.nsIn K mainGlobals "isinstance"=some none)
 (xOj:PySem.W.nsIn K mainGlobals "str"=some none)
 (xPj:PySem.W.nsIn K mainGlobals "enumerate"=some none)
 (xQj:PySem.W.nsIn K mainGlobals "bool"=some none)
 (xRj:PySem.W.nsIn K mainGlobals "dict"=some none)
 (xSj:PySem.W.nsIn K mainGlobals "all"=some none):
 ∃fd:FuncData,(∀(s:Shared) (v:Value),BindsTo s fd ⟨[v],[]⟩ [("_law_script",v)])/\∀base:Heap,K.In base->base.Ns mainGlobals mg->cU l.prog w K mg base j9 9 fa fd ["_law_script"] (TQ K):=by
 have e:=hfa.symm.trans (PySem.W.mg_of X G xyj)
 cases e
 have Xr:=PySem.W.mg_none_of X G xEj
 have xUj:=PySem.W.mg_none_of X G xFj
 have xVj:=PySem.W.mg_none_of X G xGj
 have Ug:=PySem.W.mg_none_of X G xHj
 have xXj:=PySem.W.mg_none_of X G xIj
 have ZJ:=PySem.W.mg_none_of X G xJj
 have xZj:=PySem.W.mg_none_of X G xKj
 have x0j:=PySem.W.mg_none_of X G xLj
 have x1j:=PySem.W.mg_none_of X G xMj
 have x2j:=PySem.W.mg_none_of X G xNj
 have x3j:=PySem.W.mg_none_of X G xOj
 have x4j:=PySem.W.mg_none_of X G xPj
 have x5j:=PySem.W.mg_none_of X G xQj
 have x6j:=PySem.W.mg_none_of X G xRj
 have x7j:=PySem.W.mg_none_of X G xSj
 have x8j:=PySem.W.mg_of X G xCj
 have Zv:Ew K xm:=⟨xzh,xAh,xBh,xCh⟩
 have xak:=PySem.W.mg_of X G xth
 have xbk:=cO (st:=jB) xMg xNg xOg
 have xck:=xbk.binds (ps:=["_law_cell","_law_k"]) λ_ _ _ _ _ _ us hl=>by obtain⟨a,b,rfl⟩:=Q4 hl;rfl
 have xdk:=PySem.W.mg_of X G xLg
 have xek:=λbase:Heap=>Eh (P:=l.prog) (w:=w) (mg:=mg) (base:=base) xbk
 have dw:=λbase:Heap=>gA.mk (ds:=[]) ⟨_,_,_,xek base,xdk,xOg,xck⟩
 have xfk:=cO (st:=jC) xQg xRg xSg
 have xgk:=xfk.binds (ps:=["_law_cell"]) λ_ _ _ _ _ _ us hl=>by obtain⟨a,rfl⟩:=Q3 hl;rfl
 have xhk:=PySem.W.mg_of X G xPg
 have xik:=λbase:Heap=>Ei (P:=l.prog) (w:=w) (mg:=mg) (base:=base) xfk Xr xUj xVj
 have rD:=λbase:Heap=>gA.mk (ds:=[]) ⟨_,_,_,xik base,xhk,xSg,xgk⟩
 have xjk:=cO (st:=gQ) xUg xVg xWg
 have xkk:=xjk.binds (ps:=["_law_script","_law_k"]) λ_ _ _ _ _ _ us hl=>by obtain⟨a,b,rfl⟩:=Q4 hl;rfl
 have xlk:=PySem.W.mg_of X G xTg
 have xmk:=λbase:Heap=>Ac (P:=l.prog) (w:=w) (mg:=mg) (base:=base) xjk Xr
 have bU:=λbase:Heap=>gA.mk (ds:=[]) ⟨_,_,_,xmk base,xlk,xWg,xkk⟩
 have xnk:=cO (st:=jD) xYg xZg x0g
 have xok:=xnk.binds (ps:=["_law_cell"]) λ_ _ _ _ _ _ us hl=>by obtain⟨a,rfl⟩:=Q3 hl;rfl
 have xpk:=PySem.W.mg_of X G xXg
 have xqk:=λbase:Heap=>Ej (P:=l.prog) (w:=w) (mg:=mg) (base:=base) xnk
 have rE:=λbase:Heap=>gA.mk (ds:=[]) ⟨_,_,_,xqk base,xpk,x0g,xok⟩
 have xrk:=cO (st:=iQ) x2g x3g x4g
 have xsk:=xrk.binds (ps:=["_law_cell","_law_names_here","_law_more"]) λ_ _ _ _ _ _ us hl=>by obtain⟨a,b,c,rfl⟩:=lv3 hl;rfl
 have xtk:=PySem.W.mg_of X G x1g
 have xuk:=λbase:Heap=>CK (P:=l.prog) (w:=w) (mg:=mg) (base:=base) xrk (rE base) Ug xXj ZJ
 have pZ:=λbase:Heap=>gA.mk (ds:=[]) ⟨_,_,_,xuk base,xtk,x4g,xsk⟩
 have xvk:=cO (st:=m7) x6g x7g x8g
 have xwk:=xvk.binds (ps:=["_law_cell","_law_names_here","_law_left","_law_k"]) λ_ _ _ _ _ _ us hl=>by obtain⟨a,b,c,d,rfl⟩:=lv4 hl;rfl
 have xxk:=PySem.W.mg_of X G x5g
 have xyk:=λbase:Heap=>JB (P:=l.prog) (w:=w) (mg:=mg) (base:=base) xvk xZj
 have vM:=λbase:Heap=>gA.mk (ds:=[]) ⟨_,_,_,xyk base,xxk,x8g,xwk⟩
 have xzk:=cO (st:=iR) xah xbh xch
 have xAk:=xzk.binds (ps:=["_law_script","_law_t","_law_names_here","_law_most","_law_many"]) λ_ _ _ _ _ _ us hl=>by obtain⟨a,b,c,d,e,rfl⟩:=lv5 hl;rfl
 have xBk:=PySem.W.mg_of X G x9g
 have xCk:=λbase:Heap=>CN (P:=l.prog) (w:=w) (mg:=mg) (base:=base) xzk xVj (vM base) (bU base) (dw base) ZJ
 have mO:=λbase:Heap=>gA.mk (ds:=[]) ⟨_,_,_,xCk base,xBk,xch,xAk⟩
 have xDk:=cO (st:=gR) xeh xfh xgh
 have xEk:=xDk.binds (ps:=["_law_script","_law_most"]) λ_ _ _ _ _ _ us hl=>by obtain⟨a,b,rfl⟩:=Q4 hl;rfl
 have xFk:=PySem.W.mg_of X G xdh
 have xGk:=λbase:Heap=>Ad (P:=l.prog) (w:=w) (mg:=mg) (base:=base) xDk Ug x0j xVj x1j (bU base) (pZ base) (mO base) (dw base) ZJ xZj (rD base)
 have oV:=λbase:Heap=>gA.mk (ds:=[]) ⟨_,_,_,xGk base,xFk,xgh,xEk⟩
 have xHk:=cO (st:=qC) xih xjh xkh
 have xIk:=xHk.binds (ps:=["kind","part"]) λ_ _ _ _ _ _ us hl=>by obtain⟨a,b,rfl⟩:=Q4 hl;rfl
 have xJk:=PySem.W.mg_of X G xhh
 have xKk:=λbase:Heap=>Qd (P:=l.prog) (w:=w) (mg:=mg) (base:=base) xHk x2j x3j
 have De:=λbase:Heap=>gA.mk (ds:=[]) ⟨_,_,_,xKk base,xJk,xkh,xIk⟩
 have xLk:=cO (st:=gU) xmh xnh xoh
 have xMk:=xLk.binds (ps:=["row"]) λ_ _ _ _ _ _ us hl=>by obtain⟨a,rfl⟩:=Q3 hl;rfl
 have xNk:=PySem.W.mg_of X G xlh
 have xOk:=λbase:Heap=>Ae (P:=l.prog) (w:=w) (mg:=mg) (base:=base) xLk xXj x8j xDj (De base)
 have oW:=λbase:Heap=>gA.mk (ds:=[]) ⟨_,_,_,xOk base,xNk,xoh,xMk⟩
 have xPk:=cO (st:=gq) xqh xrh xsh
 have xQk:=xPk.binds (ps:=["rows"]) λ_ _ _ _ _ _ us hl=>by obtain⟨a,rfl⟩:=Q3 hl;rfl
 have xRk:=PySem.W.mg_of X G xph
 have xSk:=λbase:Heap=>zf (P:=l.prog) (w:=w) (mg:=mg) (base:=base) xPk Ug (oW base)
 have nF:=λbase:Heap=>gA.mk (ds:=[]) ⟨_,_,_,xSk base,xRk,xsh,xQk⟩
 have xTk:=cO (st:=nZ) xwh xxh xyh
 have xUk:=xTk.binds (ps:=["self","cells","threads"]) λ_ _ _ _ _ _ us hl=>by obtain⟨a,b,c,rfl⟩:=lv3 hl;rfl
 have xVk:Mk K xm xn:=⟨xDh,xuh,xvh,xEh⟩
 have xWk:=λbase:Heap=>Lq (P:=l.prog) (w:=w) (mg:=mg) (base:=base) xTk Zv xFh ZG Ug xHh (nF base) xIh
 have xXk:=cO (st:=lq) xKh xLh xMh
 have xYk:=xXk.binds (ps:=["parts"]) λ_ _ _ _ _ _ us hl=>by obtain⟨a,rfl⟩:=Q3 hl;rfl
 have xZk:=PySem.W.mg_of X G xJh
 have x0k:=λbase:Heap=>HB (P:=l.prog) (w:=w) (mg:=mg) (base:=base) xXk Ug
 have pG:=λbase:Heap=>gA.mk (ds:=[]) ⟨_,_,_,x0k base,xZk,xMh,xYk⟩
 have x1k:=cO (st:=jG) xOh xPh xQh
 have x2k:=x1k.binds (ps:=["plain"]) λ_ _ _ _ _ _ us hl=>by obtain⟨a,rfl⟩:=Q3 hl;rfl
 have x3k:=PySem.W.mg_of X G xNh
 have x4k:=λbase:Heap=>Em (P:=l.prog) (w:=w) (mg:=mg) (base:=base) x1k Ug (pG base) xVk (xWk base) xak xUk
 have rH:=λbase:Heap=>gA.mk (ds:=[]) ⟨_,_,_,x4k base,x3k,xQh,x2k⟩
 have x5k:=cO (st:=uK) xSh xTh xUh
 have x6k:=x5k.binds (ps:=["program"]) λ_ _ _ _ _ _ us hl=>by obtain⟨a,rfl⟩:=Q3 hl;rfl
 have x7k:=PySem.W.mg_of X G xRh
 have x8k:=λbase:Heap=>S9 (P:=l.prog) (w:=w) (mg:=mg) (base:=base) x5k Ug Zv xIh Xr xFh
 have Bb:=λbase:Heap=>gA.mk (ds:=[]) ⟨_,_,_,x8k base,x7k,xUh,x6k⟩
 have x9k:=cO (st:=jE) xWh xXh xYh
 have xal:=x9k.binds (ps:=["_law_row_here"]) λ_ _ _ _ _ _ us hl=>by obtain⟨a,rfl⟩:=Q3 hl;rfl
 have xbl:=PySem.W.mg_of X G xVh
 have xcl:=λbase:Heap=>Ek (P:=l.prog) (w:=w) (mg:=mg) (base:=base) x9k x2j x3j
 have rF:=λbase:Heap=>gA.mk (ds:=[]) ⟨_,_,_,xcl base,xbl,xYh,xal⟩
 have xdl:=cO (st:=jz) x0h x1h x2h
 have xel:=xdl.binds (ps:=["_law_rows"]) λ_ _ _ _ _ _ us hl=>by obtain⟨a,rfl⟩:=Q3 hl;rfl
 have xfl:=PySem.W.mg_of X G xZh
 have xgl:=λbase:Heap=>Ef (P:=l.prog) (w:=w) (mg:=mg) (base:=base) xdl (rF base)
 have jy:=λbase:Heap=>gA.mk (ds:=[]) ⟨_,_,_,xgl base,xfl,x2h,xel⟩
 have xhl:=cO (st:=jA) x4h x5h x6h
 have xil:=xhl.binds (ps:=["_law_plain"]) λ_ _ _ _ _ _ us hl=>by obtain⟨a,rfl⟩:=Q3 hl;rfl
 have xjl:=PySem.W.mg_of X G x3h
 have xkl:=λbase:Heap=>Eg (P:=l.prog) (w:=w) (mg:=mg) (base:=base) xhl Ug Xr (jy base)
 have nQ:=λbase:Heap=>gA.mk (ds:=[]) ⟨_,_,_,xkl base,xjl,x6h,xil⟩
 have xll:=cO (st:=m6) x8h x9h xai
 have xml:=xll.binds (ps:=["_law_plain","_law_state"]) λ_ _ _ _ _ _ us hl=>by obtain⟨a,b,rfl⟩:=Q4 hl;rfl
 have xnl:=PySem.W.mg_of X G x7h
 have xol:=λbase:Heap=>Jz (P:=l.prog) (w:=w) (mg:=mg) (base:=base) xll x4j Xr
 have vL:=λbase:Heap=>gA.mk (ds:=[]) ⟨_,_,_,xol base,xnl,xai,xml⟩
 have xpl:=cO (st:=mj) xci xdi xei
 have xql:=xpl.binds (ps:=["part"]) λ_ _ _ _ _ _ us hl=>by obtain⟨a,rfl⟩:=Q3 hl;rfl
 have xrl:=PySem.W.mg_of X G xbi
 have xsl:=λbase:Heap=>JF (P:=l.prog) (w:=w) (mg:=mg) (base:=base) xpl x2j x5j ZJ
 have vO:=λbase:Heap=>gA.mk (ds:=[]) ⟨_,_,_,xsl base,xrl,xei,xql⟩
 have xtl:=cO (st:=iU) xgi xhi xii
 have xul:=xtl.binds (ps:=["choice","choices"]) λ_ _ _ _ _ _ us hl=>by obtain⟨a,b,rfl⟩:=Q4 hl;rfl
 have xvl:=PySem.W.mg_of X G xfi
 have xwl:=λbase:Heap=>CQ (P:=l.prog) (w:=w) (mg:=mg) (base:=base) xtl (vO base)
 have qb:=λbase:Heap=>gA.mk (ds:=[]) ⟨_,_,_,xwl base,xvl,xii,xul⟩
 have xxl:=cO (st:=iT) xki xli xmi
 have xyl:=xxl.binds (ps:=["program","row"]) λ_ _ _ _ _ _ us hl=>by obtain⟨a,b,rfl⟩:=Q4 hl;rfl
 have xzl:=PySem.W.mg_of X G xji
 have xAl:=λbase:Heap=>CP (P:=l.prog) (w:=w) (mg:=mg) (base:=base) xxl Zv xHh
 have iK:=λbase:Heap=>gA.mk (ds:=[]) ⟨_,_,_,xAl base,xzl,xmi,xyl⟩
 have xBl:=cO (st:=mz) xoi xpi xqi
 have xCl:=xBl.binds (ps:=["value","boxes"]) λ_ _ _ _ _ _ us hl=>by obtain⟨a,b,rfl⟩:=Q4 hl;rfl
 have xDl:=PySem.W.mg_of X G xni
 have xEl:=λbase:Heap=>JH (P:=l.prog) (w:=w) (mg:=mg) (base:=base) xBl x2j x3j
 have kh:=λbase:Heap=>gA.mk (ds:=[]) ⟨_,_,_,xEl base,xDl,xqi,xCl⟩
 have xFl:=cO (st:=qF) xsi xti xui
 have xGl:=xFl.binds (ps:=["program","row","boxes"]) λ_ _ _ _ _ _ us hl=>by obtain⟨a,b,c,rfl⟩:=lv3 hl;rfl
 have xHl:=PySem.W.mg_of X G xri
 have xIl:=λbase:Heap=>Qe (P:=l.prog) (w:=w) (mg:=mg) (base:=base) xFl (kh base) (iK base)
 have Df:=λbase:Heap=>gA.mk (ds:=[]) ⟨_,_,_,xIl base,xHl,xui,xGl⟩
 have xJl:=cO (st:=fV) xwi xxi xyi
 have xKl:=xJl.binds (ps:=["row","boxes"]) λ_ _ _ _ _ _ us hl=>by obtain⟨a,b,rfl⟩:=Q4 hl;rfl
 have xLl:=PySem.W.mg_of X G xvi
 have xMl:=λbase:Heap=>wV (P:=l.prog) (w:=w) (mg:=mg) (base:=base) xJl
 have m5:=λbase:Heap=>gA.mk (ds:=[]) ⟨_,_,_,xMl base,xLl,xyi,xKl⟩
 have xNl:=cO (st:=iV) xAi xBi xCi
 have xOl:=xNl.binds (ps:=["cells","waiting","cell"]) λ_ _ _ _ _ _ us hl=>by obtain⟨a,b,c,rfl⟩:=lv3 hl;rfl
 have xPl:=PySem.W.mg_of X G xzi
 have xQl:=λbase:Heap=>CT (P:=l.prog) (w:=w) (mg:=mg) (base:=base) xNl
 have qd:=λbase:Heap=>gA.mk (ds:=[]) ⟨_,_,_,xQl base,xPl,xCi,xOl⟩
 have xRl:=cO (st:=lu) xEi xFi xGi
 have xSl:=xRl.binds (ps:=["parts","place","part"]) λ_ _ _ _ _ _ us hl=>by obtain⟨a,b,c,rfl⟩:=lv3 hl;rfl
 have xTl:=PySem.W.mg_of X G xDi
 have xUl:=λbase:Heap=>HD (P:=l.prog) (w:=w) (mg:=mg) (base:=base) xRl
 have ie:=λbase:Heap=>gA.mk (ds:=[]) ⟨_,_,_,xUl base,xTl,xGi,xSl⟩
 have xVl:=cO (st:=qG) xIi xJi xKi
 have xWl:=xVl.binds (ps:=["left","right"]) λ_ _ _ _ _ _ us hl=>by obtain⟨a,b,rfl⟩:=Q4 hl;rfl
 have xXl:=PySem.W.mg_of X G xHi
 have xYl:=λbase:Heap=>Qf (P:=l.prog) (w:=w) (mg:=mg) (base:=base) xVl
 have Dg:=λbase:Heap=>gA.mk (ds:=[]) ⟨_,_,_,xYl base,xXl,xKi,xWl⟩
 have xZl:=cO (st:=mq) xMi xNi xOi
 have x0l:=xZl.binds (ps:=["program","state","number","waits"]) λ_ _ _ _ _ _ us hl=>by obtain⟨a,b,c,d,rfl⟩:=lv4 hl;rfl
 have x1l:=PySem.W.mg_of X G xLi
 have x2l:=λbase:Heap=>JG (P:=l.prog) (w:=w) (mg:=mg) (base:=base) xZl Ug (ie base) (iK base) (qd base) (kh base) (Dg base) (Df base) (m5 base) Zv xIh x6j xXj ZG
 have vP:=λbase:Heap=>gA.mk (ds:=[]) ⟨_,_,_,x2l base,x1l,xOi,x0l⟩
 have x3l:=cO (st:=m9) xQi xRi xSi
 have x4l:=x3l.binds (ps:=["state","number"]) λ_ _ _ _ _ _ us hl=>by obtain⟨a,b,rfl⟩:=Q4 hl;rfl
 have x5l:=PySem.W.mg_of X G xPi
 have x6l:=λbase:Heap=>JC (P:=l.prog) (w:=w) (mg:=mg) (base:=base) x3l (ie base)
 have vN:=λbase:Heap=>gA.mk (ds:=[]) ⟨_,_,_,x6l base,x5l,xSi,x4l⟩
 have x7l:=cO (st:=o5) xUi xVi xWi
 have x8l:=x7l.binds (ps:=["program","state","choice","waits"]) λ_ _ _ _ _ _ us hl=>by obtain⟨a,b,c,d,rfl⟩:=lv4 hl;rfl
 have x9l:=PySem.W.mg_of X G xTi
 have xam:=λbase:Heap=>Ls (P:=l.prog) (w:=w) (mg:=mg) (base:=base) x7l (vP base) (vN base)
 have zx:=λbase:Heap=>gA.mk (ds:=[]) ⟨_,_,_,xam base,x9l,xWi,x8l⟩
 have xbm:=cO (st:=jF) xYi xZi x0i
 have xcm:=xbm.binds (ps:=["rows","thread"]) λ_ _ _ _ _ _ us hl=>by obtain⟨a,b,rfl⟩:=Q4 hl;rfl
 have xdm:=PySem.W.mg_of X G xXi
 have xem:=λbase:Heap=>El (P:=l.prog) (w:=w) (mg:=mg) (base:=base) xbm Xr
 have rG:=λbase:Heap=>gA.mk (ds:=[]) ⟨_,_,_,xem base,xdm,x0i,xcm⟩
 have xfm:=MN (st:=Gk) x2i x3i x4i
 have xgm:=GK (ps:=["program","state","waits"]) (ds:=[]) (n:=3) xfm rfl λs kV dc pm an cd ct us X hl=>match us,hl with|[_,_,_],_=>p8 X rfl x5i x6i rfl rfl
 have xhm:=GK (ps:=["program","state","waits"]) (ds:=[.bool true]) (n:=2) xfm rfl λs kV dc pm an cd ct us X hl=>match us,hl with|[_,_],_=>p8 X rfl x5i x6i rfl rfl
 have xim:=PySem.W.mg_of X G x1i
 have xjm:=λbase:Heap=>Ys (P:=l.prog) (w:=w) (mg:=mg) (base:=base) xfm x4j Zv ZG (rG base)
 have T5:=λbase:Heap=>gA.mk (ds:=[]) ⟨_,_,_,xjm base,xim,x4i,xgm⟩
 have a2e:=λbase:Heap=>gA.mk (ds:=[.bool true]) ⟨_,_,_,xjm base,xim,x4i,xhm⟩
 have xkm:=MN (st:=uJ) x8i x9i xaj
 have xlm:=GK (ps:=["program","state","choice","waits"]) (ds:=[]) (n:=4) xkm rfl λs kV dc pm an cd ct us X hl=>match us,hl with|[_,_,_,_],_=>p8 X rfl xbj xcj rfl rfl
 have xmm:=GK (ps:=["program","state","choice","waits"]) (ds:=[.bool true]) (n:=3) xkm rfl λs kV dc pm an cd ct us X hl=>match us,hl with|[_,_,_],_=>p8 X rfl xbj xcj rfl rfl
 have xnm:=PySem.W.mg_of X G x7i
 have xom:=λbase:Heap=>S8 (P:=l.prog) (w:=w) (mg:=mg) (base:=base) xkm (zx base) (T5 base) (qb base)
 have HJ:=λbase:Heap=>gA.mk (ds:=[]) ⟨_,_,_,xom base,xnm,xaj,xlm⟩
 have HN:=λbase:Heap=>gA.mk (ds:=[.bool true]) ⟨_,_,_,xom base,xnm,xaj,xmm⟩
 have xpm:=cO (st:=iM) xej xfj xgj
 have xqm:=xpm.binds (ps:=["_law_program_here","_law_state","_law_choice","_law_waits","_law_told"]) λ_ _ _ _ _ _ us hl=>by obtain⟨a,b,c,d,e,rfl⟩:=lv5 hl;rfl
 have xrm:=PySem.W.mg_of X G xdj
 have xsm:=λbase:Heap=>CJ (P:=l.prog) (w:=w) (mg:=mg) (base:=base) xpm (HJ base) (HN base)
 have mL:=λbase:Heap=>gA.mk (ds:=[]) ⟨_,_,_,xsm base,xrm,xgj,xqm⟩
 have xtm:=cO (st:=kY) xij xjj xkj
 have xum:=xtm.binds (ps:=["_law_plain","_law_thread_here","_law_cells","_law_boxes_here","_law_told"]) λ_ _ _ _ _ _ us hl=>by obtain⟨a,b,c,d,e,rfl⟩:=lv5 hl;rfl
 have xvm:=PySem.W.mg_of X G xhj
 have xwm:=λbase:Heap=>Hw (P:=l.prog) (w:=w) (mg:=mg) (base:=base) xtm ZJ (jy base)
 have xxm:=cO (st:=kZ) xmj xnj xoj
 have xym:=xxm.binds (ps:=["_law_plain","_law_state","_law_choice","_law_waits"]) λ_ _ _ _ _ _ us hl=>by obtain⟨a,b,c,d,rfl⟩:=lv4 hl;rfl
 have xzm:=PySem.W.mg_of X G xlj
 have xAm:=λbase:Heap=>Hx (P:=l.prog) (w:=w) (mg:=mg) (base:=base) xxm Ug x1j (xwm base) xvm xkj xum
 have u9:=λbase:Heap=>gA.mk (ds:=[]) ⟨_,_,_,xAm base,xzm,xoj,xym⟩
 have xBm:=cO (st:=uL) xrj xsj xtj
 have xCm:=xBm.binds (ps:=["self"]) λ_ _ _ _ _ _ us hl=>by obtain⟨a,rfl⟩:=Q3 hl;rfl
 have xDm:Meth K xm "plain" xP:=⟨xpj,xqj,xtj⟩
 have xEm:=λbase:Heap=>Sg (P:=l.prog) (w:=w) (mg:=mg) (base:=base) xBm Zv ZG xFh
 have xFm:=cO (st:=lg) xvj xwj xxj
 have xGm:=xFm.binds (ps:=["_law_found","_law_due"]) λ_ _ _ _ _ _ us hl=>by obtain⟨a,b,rfl⟩:=Q4 hl;rfl
 have xHm:=PySem.W.mg_of X G xuj
 have xIm:=λbase:Heap=>(show ∀k:Nat,cU l.prog w K mg base j9 k xQ _ ["_law_found","_law_due"] (nq K (DL.K.nJ k)) from λk=>by
  induction k with
  |zero=>exact V9
  |succ k ih=>exact Hy xFm x2j x5j ZJ Ug x7j xXj ih xHm xxj xGm Xr) 8
 have n8:=λbase:Heap=>gA.mk (ds:=[]) ⟨_,_,_,xIm base,xHm,xxj,xGm⟩
 have xJm:=cO (st:=Gm) xzj xAj xBj
 have xKm:=xJm.binds (ps:=["_law_script"]) λ_ _ _ _ _ _ us hl=>by obtain⟨a,rfl⟩:=Q3 hl;rfl
 have xLm:=PySem.W.mg_of X G xyj
 have xMm:=λbase:Heap=>Yu (P:=l.prog) (w:=w) (mg:=mg) (base:=base) xJm Zv xDm (xEm base) xCm xVj xZj Xr (mL base) (n8 base) (dw base) (Bb base) (nQ base) (u9 base) (bU base) (vL base) (rH base) (oV base)
 refine⟨_,λs v=> .of_eq rfl,λbase _ _=>(xMm base).imp λvs H Q E hsp=>?_⟩
 obtain⟨ns,hr,hq⟩:=hsp
 refine⟨[.uR ns],.bl true,.new,hr,DL.K.a1h xm ns,λv H1 _ r=>?_⟩
 cases r
 exact hq H1
theorem walk {l:PySem.W.OpenLaw}{q:Program}{loose:List Str}{XP:(Str->Option Value)->Heap->Prop}{YP:World->Heap->Prop}{d:DefRec}{K:Params->Fg}(hn:l.most=some 63)(hdf:d.params.defaults=[])
 (hY:∀(w:World) (h:Heap),YP w h->(K w.params).In h)
 (F:∀(w:World) (mg:Str->Option Value) (fa:Addr) (h:Heap),(K w.params).In h->h.Ns mainGlobals mg->mg d.name=some (.ref fa)->
  ∃fd:FuncData,(∀(s:Shared) (u:Value),BindsTo s fd ⟨[u],[]⟩ [("_law_script",u)])/\∀base:Heap,(K w.params).In base->base.Ns mainGlobals mg->cU l.prog w (K w.params) mg base j9 9 fa fd ["_law_script"] (TQ (K w.params))):
 PySem.W.WalkO q loose XP YP l.row.toRowW d [] (λf vs=>PySem.call f vs):=
 L2.WD (n:=63) (k:=9) (x:="_law_script") (CX:=λ_=>j9) (sp:=λw=>TQ (K w.params)) hn (by decide) hdf ⟨rfl,by decide,by decide⟩ hY F (λ_ _ a ns hl hO hS=>⟨ns,Za hO hS,λ_=>rfl⟩) λ_ _ _ _ _ z=>z
end KC
end DL
namespace PySem.W.Fast
def tw15722591522019241142:=0
def tw6083809454087146833:=0
def tw10694212380113136697:=0
def tw6866539707090674331:=0
def tw2269429482709335730:=0
def tw12768185282398342221:=0
def tw2948647966198277963:=0
def tw10938156341071415354:=0
def tw13153765065780344023:=0
def tw12559449702623829122:=0
def tw15922522501791845665:=0
def tw7763841950068270090:=0
def tw10828688742018628172:=0
def tw3627329070819681109:=0
def tw8573978614450049526:=0
def tw11266857792893167861:=0
def tw7067789619519624418:=0
def tw15378712951831812234:=0
def tw17552286416806582761:=0
def tw425347695537395922:=0
def tw18374434158562661330:=0
def tw13348480129025785911:=0
def tw6992295589192680664:=0
def tw3321503017561039897:=0
def tw4994130385316315990:=0
def tw5941711905175380145:=0
def tw185777559850552213:=0
def tw3562033886368549963:=0
def tw8517491576713210920:=0
def tw13105649755210967735:=0
def tw8482617562860017315:=0
def tw321443665863217406:=0
def tw2677594174164161343:=0
def tw11168328712880103153:=0
def tw4014870226258591894:=0
def tw18153507066045648914:=0
def tw13868820307307886955:=0
def tw4301603255879799108:=0
def tw6612723519595514792:=0
def tw13016331468693136906:=0
def tw744130818323795014:=0
def tw17100504399199606781:=0
def tw11697069462727417195:=0
def tw10466292730503517736:=0
def tw8854810487901693670:=0
def tw1473993621767704637:=0
def tw11915502748519865016:=0
def tw9144005940749172730:=0
def tw2258062295124857725:=0
def tw10162499108367482969:=0
def tw1231063888657476067:=0
def tw8726775638007514936:=0
def tw4072953582715426186:=0
def tw9916063941707349712:=0
def tw6899912688181475619:=0
def tw12651563996270402619:=0
def tw11409558066384382891:=0
def tw8295673923837761041:=0
def tw17764903104277981685:=0
def tw8508808832735520760:=0
def tw8434791839321013881:=0
def tw1742739436787120238:=0
def tw11029673001454746214:=0
def tw4801634599212295613:=0
def tw15250508651302170039:=0
def tw14367258747369439916:=0
def tw15448029615054862368:=0
def tw1258163512115734631:=0
def tw15272293327471089739:=0
def tw18367170696709659700:=0
def tw13141715676611008062:=0
def tw18081710068037533816:=0
def tw2901512181168261109:=0
def tw576187928302729643:=0
def tw16500795299888172241:=0
def tw7709556485466878098:=0
def tw8153636029506938048:=0
def tw5622648702678672895:=0
def tw6463307029574281834:=0
def tw14085366529025267043:=0
def tw1669146779758714362:=0
def tw1807652540255611083:=0
def tw11839335614440076554:=0
def tw8245955130743331396:=0
def tw15924133011251699945:=0
def tw9799374770293409469:=0
def tw13133646911462522488:=0
def tw14115796221614106352:=0
def tw12326224398790991534:=0
def tw12193976687584602979:=0
def tw12754115320794862315:=0
def tw13759240180900893004:=0
def tw7323672396514163677:=0
def tw5573371486302351670:=0
def tw1302695081269691308:=0
def tw8974019342888299376:=0
def tw2754027292781080978:=0
def tw13031774533433132875:=0
def tw8619195072937852743:=0
def tw13247817007128937947:=0
def tw3742398888696162401:=0
def tw2054185143157779910:=0
def tw2988232022416393350:=0
def tw6787519454317857569:=0
def tw6851823618935964465:=0
def tw7580639000102448786:=0
def tw2395070028925437560:=0
def tw6929452357942109570:=0
def tw15410118666964467968:=0
def tw15648064454894034923:=0
def tw9121795214432674458:=0
def tw2752541224021957730:=0
def tw3564277278459132387:=0
def tw12964698469972356066:=0
def tw369733792988190317:=0
def tw8736810894956230963:=0
def tw4271978119251739042:=0
def tw960426357301988150:=0
def tw8893803034199834824:=0
def tw13305043667431361787:=0
def tw17557173542435752589:=0
def tw2290000765859787586:=0
def tw14719769130191233085:=0
def tw1081793354647154935:=0
def tw15565202220935001559:=0
def tw4768032451175499186:=0
def tw15548470448673134474:=0
def tw3294200145526951220:=0
def tw6235558529429365572:=0
def tw13010490834802482765:=0
def tw4284510079363023053:=0
def tw12622093500199101222:=0
def tw12200406651231642000:=0
def tw3212014798769949815:=0
def tw5626266228098350993:=0
def tw16769520795672166527:=0
def tw12692527483298661801:=0
def tw5687013459776798456:=0
def tw7251892624731506049:=0
def tw15786118395395431902:=0
def tw13797038850013635080:=0
def tw563696563030109556:=0
def tw16152605118918350713:=0
def tw14783030465029513233:=0
def tw10867464705919181270:=0
def tw1862178234417135625:=0
def tw14382042860025959640:=0
def tw8237014380805173168:=0
def tw3551378118495853106:=0
def tw6160428060110627715:=0
def tw13354881324650005559:=0
def tw17832189475845148599:=0
def tw13598091679159436184:=0
def tw5759317215707001716:=0
def tw12271441991105163901:=0
def tw6023734604763553289:=0
def tw7669098691449987892:=0
def tw4684167836140486084:=0
def tw6343490853723191548:=0
def tw2946269967243193518:=0
def tw11046298717844607701:=0
def tw10001115109987458033:=0
def tw8326848383450026001:=0
def tw15240028989588689542:=0
def tw3662868637264148224:=0
def tw6253820687131497911:=0
def tw4062742363547347620:=0
def tw1783019288092924489:=0
def tw15880716518969490521:=0
def tw6285888692227086339:=0
def tw8721611172020029001:=0
def tw11114351994711767661:=0
def tw3465641752041993946:=0
def tw5202274951215683806:=0
def tw11100636238173006286:=0
end PySem.W.Fast
open PySem PySem.W PyProof.Rows
set_option maxRecDepth 100000 in
set_option maxHeartbeats 0 in
theorem PySem.Challenge.cw_fencerow_k20_rows_done_holds : PySem.Challenge.rw_fencerow_k20_rows_done.Holds := by
 w_on;o_law;k_head;(case hw=>w_witness2)
 k_fill
 refine DL.KC.walk (l:=PySem.Challenge.rw_fencerow_k20_rows_done) rfl rfl (λw h Y=>PySem.W.kIn_of Y) ?F
 case F=>
  intro w mg fa h KX G hmg
  refine' DL.KC.all_mk KX G hmg ?xLg ?xMg ?xNg ?xOg ?xPg ?xQg ?xRg ?xSg ?xTg ?xUg ?xVg ?xWg ?xXg ?xYg ?xZg ?x0g ?x1g ?x2g ?x3g ?x4g ?x5g ?x6g ?x7g ?x8g ?x9g ?xah ?xbh ?xch ?xdh ?xeh ?xfh ?xgh ?xhh ?xih ?xjh ?xkh ?xlh ?xmh ?xnh ?xoh ?xph ?xqh ?xrh ?xsh ?xth ?xuh ?xvh ?xwh ?xxh ?xyh ?xzh ?xAh ?xBh ?xCh ?xDh ?xEh ?xFh ?ZG ?xHh ?xIh ?xJh ?xKh ?xLh ?xMh ?xNh ?xOh ?xPh ?xQh ?xRh ?xSh ?xTh ?xUh ?xVh ?xWh ?xXh ?xYh ?xZh ?x0h ?x1h ?x2h ?x3h ?x4h ?x5h ?x6h ?x7h ?x8h ?x9h ?xai ?xbi ?xci ?xdi ?xei ?xfi ?xgi ?xhi ?xii ?xji ?xki ?xli ?xmi ?xni ?xoi ?xpi ?xqi ?xri ?xsi ?xti ?xui ?xvi ?xwi ?xxi ?xyi ?xzi ?xAi ?xBi ?xCi ?xDi ?xEi ?xFi ?xGi ?xHi ?xIi ?xJi ?xKi ?xLi ?xMi ?xNi ?xOi ?xPi ?xQi ?xRi ?xSi ?xTi ?xUi ?xVi ?xWi ?xXi ?xYi ?xZi ?x0i ?x1i ?x2i ?x3i ?x4i ?x5i ?x6i ?x7i ?x8i ?x9i ?xaj ?xbj ?xcj ?xdj ?xej ?xfj ?xgj ?xhj ?xij ?xjj ?xkj ?xlj ?xmj ?xnj ?xoj ?xpj ?xqj ?xrj ?xsj ?xtj ?xuj ?xvj ?xwj ?xxj ?xyj ?xzj ?xAj ?xBj ?xCj ?xDj ?xEj ?xFj ?xGj ?xHj ?xIj ?xJj ?xKj ?xLj ?xMj ?xNj ?xOj ?xPj ?xQj ?xRj ?xSj
  (case xLg=>k_is)
  (case xMg=>k_is)
  (case xNg=>k_is)
  (case xOg=>k_is)
  (case xPg=>k_is)
  (case xQg=>k_is)
  (case xRg=>k_is)
  (case xSg=>k_is)
  (case xTg=>k_is)
  (case xUg=>k_is)
  (case xVg=>k_is)
  (case xWg=>k_is)
  (case xXg=>k_is)
  (case xYg=>k_is)
  (case xZg=>k_is)
  (case x0g=>k_is)
  (case x1g=>k_is)
  (case x2g=>k_is)
  (case x3g=>k_is)
  (case x4g=>k_is)
  (case x5g=>k_is)
  (case x6g=>k_is)
  (case x7g=>k_is)
  (case x8g=>k_is)
  (case x9g=>k_is)
  (case xah=>k_is)
  (case xbh=>k_is)
  (case xch=>k_is)
  (case xdh=>k_is)
  (case xeh=>k_is)
  (case xfh=>k_is)
  (case xgh=>k_is)
  (case xhh=>k_is)
  (case xih=>k_is)
  (case xjh=>k_is)
  (case xkh=>k_is)
  (case xlh=>k_is)
  (case xmh=>k_is)
  (case xnh=>k_is)
  (case xoh=>k_is)
  (case xph=>k_is)
  (case xqh=>k_is)
  (case xrh=>k_is)
  (case xsh=>k_is)
  (case xth=>k_is)
  (case xuh=>k_is)
  (case xvh=>k_is)
  (case xwh=>k_is)
  (case xxh=>k_is)
  (case xyh=>k_is)
  (case xzh=>k_is)
  (case xAh=>k_is)
  (case xBh=>k_is)
  (case xCh=>k_is)
  (case xDh=>k_is)
  (case xEh=>k_is)
  (case xFh=>k_is)
  (case ZG=>k_is)
  (case xHh=>k_is)
  (case xIh=>k_is)
  (case xJh=>k_is)
  (case xKh=>k_is)
  (case xLh=>k_is)
  (case xMh=>k_is)
  (case xNh=>k_is)
  (case xOh=>k_is)
  (case xPh=>k_is)
  (case xQh=>k_is)
  (case xRh=>k_is)
  (case xSh=>k_is)
  (case xTh=>k_is)
  (case xUh=>k_is)
  (case xVh=>k_is)
  (case xWh=>k_is)
  (case xXh=>k_is)
  (case xYh=>k_is)
  (case xZh=>k_is)
  (case x0h=>k_is)
  (case x1h=>k_is)
  (case x2h=>k_is)
  (case x3h=>k_is)
  (case x4h=>k_is)
  (case x5h=>k_is)
  (case x6h=>k_is)
  (case x7h=>k_is)
  (case x8h=>k_is)
  (case x9h=>k_is)
  (case xai=>k_is)
  (case xbi=>k_is)
  (case xci=>k_is)
  (case xdi=>k_is)
  (case xei=>k_is)
  (case xfi=>k_is)
  (case xgi=>k_is)
  (case xhi=>k_is)
  (case xii=>k_is)
  (case xji=>k_is)
  (case xki=>k_is)
  (case xli=>k_is)
  (case xmi=>k_is)
  (case xni=>k_is)
  (case xoi=>k_is)
  (case xpi=>k_is)
  (case xqi=>k_is)
  (case xri=>k_is)
  (case xsi=>k_is)
  (case xti=>k_is)
  (case xui=>k_is)
  (case xvi=>k_is)
  (case xwi=>k_is)
  (case xxi=>k_is)
  (case xyi=>k_is)
  (case xzi=>k_is)
  (case xAi=>k_is)
  (case xBi=>k_is)
  (case xCi=>k_is)
  (case xDi=>k_is)
  (case xEi=>k_is)
  (case xFi=>k_is)
  (case xGi=>k_is)
  (case xHi=>k_is)
  (case xIi=>k_is)
  (case xJi=>k_is)
  (case xKi=>k_is)
  (case xLi=>k_is)
  (case xMi=>k_is)
  (case xNi=>k_is)
  (case xOi=>k_is)
  (case xPi=>k_is)
  (case xQi=>k_is)
  (case xRi=>k_is)
  (case xSi=>k_is)
  (case xTi=>k_is)
  (case xUi=>k_is)
  (case xVi=>k_is)
  (case xWi=>k_is)
  (case xXi=>k_is)
  (case xYi=>k_is)
  (case xZi=>k_is)
  (case x0i=>k_is)
  (case x1i=>k_is)
  (case x2i=>k_is)
  (case x3i=>k_is)
  (case x4i=>k_is)
  (case x5i=>k_is)
  (case x6i=>exact rfl)
  (case x7i=>k_is)
  (case x8i=>k_is)
  (case x9i=>k_is)
  (case xaj=>k_is)
  (case xbj=>k_is)
  (case xcj=>exact rfl)
  (case xdj=>k_is)
  (case xej=>k_is)
  (case xfj=>k_is)
  (case xgj=>k_is)
  (case xhj=>k_is)
  (case xij=>k_is)
  (case xjj=>k_is)
  (case xkj=>k_is)
  (case xlj=>k_is)
  (case xmj=>k_is)
  (case xnj=>k_is)
  (case xoj=>k_is)
  (case xpj=>k_is)
  (case xqj=>k_is)
  (case xrj=>k_is)
  (case xsj=>k_is)
  (case xtj=>k_is)
  (case xuj=>k_is)
  (case xvj=>k_is)
  (case xwj=>k_is)
  (case xxj=>k_is)
  (case xyj=>k_is)
  (case xzj=>k_is)
  (case xAj=>k_is)
  (case xBj=>k_is)
  (case xCj=>k_is)
  (case xDj=>kernel_rfl)
  (case xEj=>k_is)
  (case xFj=>k_is)
  (case xGj=>k_is)
  (case xHj=>k_is)
  (case xIj=>k_is)
  (case xJj=>k_is)
  (case xKj=>k_is)
  (case xLj=>k_is)
  (case xMj=>k_is)
  (case xNj=>k_is)
  (case xOj=>k_is)
  (case xPj=>k_is)
  (case xQj=>k_is)
  (case xRj=>k_is)
  (case xSj=>k_is)